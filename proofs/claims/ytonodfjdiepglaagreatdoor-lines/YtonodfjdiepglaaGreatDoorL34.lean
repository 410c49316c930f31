import Derived.Test.YtonodfjdiepglaaGreatDoorL18
import Derived.Test.YtonodfjdiepglaaGreatDoorL11
import Derived.Test.YtonodfjdiepglaaGreatDoorL27
set_option linter.unusedVariables false
set_option linter.unusedSimpArgs false
set_option maxHeartbeats 12800000
namespace Go.Proofs.YtonodfjdiepglaaGreatDoor
open Go Go.RowKit Go.Proofs.Tryz P Q R
set_option maxRecDepth 1000000
variable {c l:List UInt8} {ts:List R.Th} {r:Rd} {s:St} {k m n:Int} {ss:List Stm} {us:List Thr}
open Bool renaming false_eq_true→xF,and_eq_true→xW
open Or renaming inr→xR
open List renaming mem_singleton→x1,append_nil→x3,isEmpty_nil→x5,mem_append_left→x6,getLast?_eq_none_iff→x7,mem_of_getLast?→x8
open UInt8 renaming ofNat→x2
open Option renaming or_none→x4
namespace P
theorem kIw:∀ (n:Nat),∀ c∈Lib.decDigits n,48<=c.toNat/\c.toNat<=57:=by
 intro n
 induction n using Nat.strongRecOn with
 | ind n ih =>
  intro c a;have cY:∀ k:Nat,k<10->48<=(x2 (48+k)).toNat/\(x2 (48+k)).toNat<=57:=fun k b=>by
   rw[show (x2 (48+k)).toNat=(48+k) % 256 by simp,Nat.mod_eq_of_lt (by omega)];omega
  by_cases h:n<10
  ·rw[zCM n h,x1] at a;rw[a];exact cY n h
  ·rw[CP n h,List.mem_append,x1] at a
   rcases a with a | a
   ·exact ih (n / 10) (by omega) c a
   ·rw[a];exact cY _ (by omega)
theorem kFl (n:Int):(32:UInt8) ∉ kAO n:=by
 intro h;unfold kAO bP at h
 rcases List.mem_append.1 h with h | h
 ·simp at h
 ·have:=kIw _ _ h;simp at this
end P
namespace R
def iH (l:List UInt8):Bool:=decide (3<l.length)&&l.take 3==[98,122,32]
def rF (lab l:List UInt8):Option (List UInt8):=match zMi 32 (l.drop 3) with
 | [a,b]=>if b=lab/\2<=a.length/\a.getLast?=some 44 then some a.dropLast else none
 | _=>none
end R
namespace P
theorem kLY (q:List UInt8) (next:Int):kAv (98::122::32::q) next=zMD { Stm.zero with kind:=10,label:=next } [97,108] (dB 44 32 q):=by
 have e:eN (98::122::32::q)=([98,122],dB 44 32 q):=by
  unfold eN;simp
 unfold kAv;rw[e];rfl
theorem kKS (q f:List UInt8) (E:(32:UInt8) ∉ f) (t:List UInt8) (G:(32:UInt8) ∉ t) (F:t≠[]):dB 44 32 q=[t,f] ↔ rF f (98::122::32::q)=some t:=by
 unfold rF;rw[show (98::122::32::q).drop 3=q from rfl]
 rcases mF 32 q with ⟨A,j⟩ | ⟨a,r,rfl,j,B⟩
 ·rw[j,uD q A];simp
 ·rw[B];by_cases ha:a.getLast?=some 44
  ·obtain⟨b,rfl⟩:=List.getLast?_eq_some_iff.1 ha;have C:(32:UInt8) ∉ b:=fun e=>j (x6 _ e)
   rw[show (b++[44])++32::r=b++44::32::r by simp,vF b r C]
   rcases mF 32 r with ⟨x,i⟩ | ⟨c,g,rfl,i,z⟩
   ·rw[uD r x,i];simp only[List.cons.injEq,and_true,List.getLast?_append,List.getLast?_singleton,List.dropLast_concat,List.length_append,List.length_singleton];constructor
    ·rintro ⟨rfl,rfl⟩;have:=List.length_pos_iff.2 F;rw[if_pos ⟨rfl,by omega,rfl⟩]
    ·intro h
     split at h
     ·rename_i e;injection h with h
      exact⟨h,e.1⟩
     ·cases h
   ·rw[z]
    cases e5:zMi 32 g with
    | nil=>exact absurd e5 (mB 32 g)
    | cons y ys =>
     simp only[reduceCtorEq,iff_false];intro h;injection h with h0 h
     by_cases hc:c.getLast?=some 44
     ·obtain⟨d,rfl⟩:=List.getLast?_eq_some_iff.1 hc;have D:(32:UInt8) ∉ d:=fun e=>i (x6 _ e)
      rw[show (d++[44])++32::g=d++44::32::g by simp,vF d g D] at h;injection h with _ h
      exact sD _ _ _ h
     ·obtain⟨p,u,o,v⟩:=wN c g i hc;rw[o] at h;injection h with h _
      exact E (h ▸ v)
  ·obtain⟨p,u,o,v⟩:=wN a r j ha;rw[o];constructor
   ·intro h;injection h with h _
    exact absurd (h ▸ v) G
   ·intro h;exfalso
    split at h
    ·rename_i H I e;injection e with e _
     subst e
     split at h
     ·rename_i c;exact ha c.2.2
     ·cases h
    ·cases h
theorem zPQ (next:Int) (h:iH l=true):((kAv l next).2=true ↔ ∃ t,rF (kAO next) l=some t/\(cA (bA 97 t)).2=true)/\∀ t,rF (kAO next) l=some t->(cA (bA 97 t)).2=true->(kAv l next).1={ Stm.zero with kind:=10,label:=next,a:=(cA (bA 97 t)).1 }:=by
 unfold iH at h;rw[xW,decide_eq_true_iff] at h;obtain⟨q,rfl⟩:∃ q,l=98::122::32::q:=by
  match l,h.1 with
  | a::b::c::q,_ =>
   have:=h.2;simp at this;exact⟨q,by rw[this.1,this.2.1,this.2.2]⟩
 rw[kLY];have i:∀ t,rF (kAO next) (98::122::32::q)=some t->(cA (bA 97 t)).2=true->dB 44 32 q=[t,kAO next]/\(zMA t).2=true/\(zMA t).1=(cA (bA 97 t)).1:=by
  intro t d f;obtain⟨p,B⟩:=rC t;rw[f] at p;have g:=yD p;exact⟨(kKS q _ (kFl next) t g.2.1 g.1).2 d,p,B p⟩
 have j:∀ t,dB 44 32 q=[t,kAO next]->(zMA t).2=true->zMD { Stm.zero with kind:=10,label:=next } [97,108] (dB 44 32 q)=({ Stm.zero with kind:=10,label:=next,a:=(zMA t).1 },true):=by
  intro t d f;rw[d];simp[zMD,zOe,kAR,f]
 refine⟨⟨fun h=>?_,?_⟩,?_⟩
 ·unfold zMD at h
  split at h
  ·cases h
  ·rename_i c
   match e:dB 44 32 q,(by simpa using c:2=(dB 44 32 q).length) with
   | [t,y],_ =>
    rw[e] at h;simp only[zOe] at h
    split at h
    ·rename_i o;have o:(zMA t).2=true:=o
     split at h
     ·rename_i u;have u:(y==kAO next)=true:=u;have A:y=kAO next:=by simpa using u
      have g:=yD o;refine⟨t,(kKS q _ (kFl next) t g.2.1 g.1).1 (by rw[e,A]),?_⟩;rw[<- (rC t).1];exact o
     ·cases h
    ·cases h
 ·rintro ⟨t,d,f⟩;obtain⟨v,x,z⟩:=i t d f;rw[j t v x]
 ·intro t d f;obtain⟨v,x,z⟩:=i t d f;rw[j t v x,z]
theorem kMs {next:Int} (h:iH l=false) (f:(kAv l next).2=true):(kAv l next).1.kind≠10:=by
 intro v;unfold kAv at f v;obtain⟨j,E,F,⟨C,i,o⟩,u⟩:=yO _ _ next 11 0 f;rw[v] at u;subst u;rw[show mK 10=false from rfl] at o;simp only[xF,if_false] at o;subst o;rw[show (kAk 10).1=[98,122] from rfl,x3] at i;rw[i] at f;have e:kAV [98,122] (eN l).2 next 11 0=zMD { Stm.zero with kind:=10,label:=next } [97,108] (eN l).2:=rfl;rw[e] at f;obtain⟨G,H,d,p,z⟩:=CT l;rw[i] at p;subst p;have b:(eN l).2.length=2:=by
  unfold zMD at f
  split at f
  ·cases f
  ·rename_i c;have y:2=(eN l).2.length:=by simpa using c
   exact y.symm
 rcases mF 32 l with ⟨D,t⟩ | ⟨a,r,rfl,t,A⟩
 ·rw[t] at d;injection d with d e1'
  subst e1'
  rcases z with ⟨_,g⟩ | ⟨q,g,_⟩
  ·rw[g] at b;simp at b
  ·exact mB 32 q g.symm
 ·rw[A] at d;injection d with d e1'
  subst d;have B:r=[]:=by
   cases r with
   | nil=>rfl
   | cons x r=>simp[iH] at h
  subst B;rw[show (eN ([98,122]++[32])).2=[[]] from rfl] at b;simp at b
end P
theorem rT {ts:List Thr} (b:Stm) (h:∀ u∈ts,0<u.line/\(u.block=0\/u.block=1)):∀ u∈zMI ts b,0<u.line/\(u.block=0\/u.block=1):=by
 match ts,h with
 | [],h=>intro u a;simp[zMI] at a
 | [t],h =>
  intro u a;simp[zMI] at a;subst a;exact h t (by simp)
 | t::v::q,h =>
  intro u a;simp only[zMI,List.mem_cons] at a
  rcases a with rfl | a
  ·exact h u (by simp)
  ·exact rT (ts:=v::q) b (fun u a=>h u (by simp at a ⊢;exact xR a)) u a
theorem zLc (d:Stm) (L:Tree) (c n:Int) (i:Int) (inn:Int) (x:Rel r s) (K:s.ts≠[]) (hi:0<i) (O:c=n)
  (C:∀ k,zBT k [L] [d] k) (V:d.line=i)
  (J:inn=if (d.kind==5)&&!s.opn.isEmpty&&s.inner==0 then i else s.inner) :
  Rel (P.put { r with count:=c } d) (R.put { s with count:=n,inner:=inn } L):=by
 rcases x.ths with ⟨G,D,H,E,F⟩ | ⟨ts,us,t,u,m,k,b,q,G,D,H,E,F,I,M,N⟩
 ·exact absurd D K
 have y:dep u.Eb=s.opn.length:=by rw[I,DB,E.dep,F.dep];omega
 have v:zMI r.Ec d=us++[{ u with Eb:=u.Eb++[d] }]:=by rw[D,sH]
 have A:zMO (zMI r.Ec d)=(zMO r.Ec).or (if d.kind==5&&decide (0<(s.opn.length:Int)) then some i else none):=by
  rw[v,D,pE,pE];simp only[zMO,x4];rw[BH,y,V,Option.or_assoc];simp
 have B:(!s.opn.isEmpty)=decide (0<(s.opn.length:Int)):=by
  cases s.opn with
  | nil=>rfl
  | cons a l=>simp
 have j:inn=(zMO (zMI r.Ec d)).getD 0:=by
  rw[J,A,<- B];have o:=x.inn;have X:=x.pos
  cases ho:zMO r.Ec with
  | none =>
   rw[ho] at o;simp at o;rw[o]
   cases (d.kind==5&&!s.opn.isEmpty)<;>simp
  | some l =>
   rw[ho] at o;have:=X l ho;simp at o;have W:(s.inner==0)=false:=by rw[o];simp;omega
   rw[W,o];simp
 have f:∀ l,zMO (zMI r.Ec d)=some l->0<l:=by
  intro l e;rw[A] at e
  cases ho:zMO r.Ec with
  | none =>
   rw[ho] at e;simp at e;omega
  | some l' =>
   rw[ho] at e;simp at e;rw[<- e];exact x.pos _ ho
 have g:(zMI r.Ec d).length<=4:=by rw[uS];exact x.few
 unfold R.put P.put;by_cases he:s.opn=[]
 ·obtain⟨S,T,U⟩:=F.none he;simp only[he,x5,if_true];refine⟨O,g,rT d x.thr,j,f,xR ⟨ts,us,{ t with body:=t.body++[L] },{ u with Eb:=u.Eb++[d] },m,k,b++[d],[],?_,v,H,E.append (C k),?_,?_,M,N⟩⟩
  ·simp only[G,zF]
  ·simp only[T,U];exact .nil _
  ·simp[I,S]
 ·obtain⟨m',a,gs,p,ss,ms,aa,l,Y,Z,o3,o4,o5,o6⟩:=F.last he;have z:s.opn.isEmpty=false:=by cases hx:s.opn with
   | nil=>exact absurd hx he
   | cons _ _=>rfl
  simp only[z,xF,if_false];refine⟨O,g,rT d x.thr,j,f,xR ⟨ts,us,t,{ u with Eb:=u.Eb++[d] },m,k,b,q++[d],G,v,H,E,?_,?_,M,N⟩⟩
  ·simp only[o4,xA,o6,o5];have:=zAJ.bD Y Z (o3.append (C r.ifs));simpa using this
  ·simp[I]
theorem zKh (i:Stm) (l:Int) (f:Fr) (d:Rel r s) (L:i.kind=11) (M:r.opn.getLast?=some l) (C:s.opn.getLast?=some f) :
  Rel (P.put { r with opn:=r.opn.dropLast } { i with label:=l }) (R.put { s with opn:=s.opn.dropLast } (.mk (iA f.a) f.l)):=by
 have y:s.opn≠[]:=by intro h;rw[h] at C;simp at C
 rcases d.ths with ⟨D,E,B,F,H⟩ | ⟨ts,us,t,u,m,k,b,q,D,E,B,F,H,I,J,K⟩
 ·exact absurd B y
 obtain⟨g,a,A,p,ss,ms,z,G,O,o2,o3,S,T,U⟩:=H.last y;have Y:f=⟨G,a⟩:=by rw[S] at C;simpa using C.symm
 have Z:l=g+1:=by rw[U] at M;simpa using M.symm
 subst Y;subst Z;have hs:s.opn.dropLast=A:=by rw[S];simp
 have hm:r.opn.dropLast=ms:=by rw[U];simp
 rw[hs,hm];have o:∀ x,zMI r.Ec x=us++[{ u with Eb:=u.Eb++[x] }]:=fun x=>by rw[E,sH]
 have N:zBT g [.mk (iA a) G] (z::(ss++[{ i with label:=g+1 }])) r.ifs:=zBT.node o2 o3 ⟨L,rfl⟩ (.nil _);have e:zMO (zMI r.Ec { i with label:=g+1 })=zMO r.Ec:=by
  rw[o,E,pE,pE];simp only[zMO,x4];rw[BH];simp[L]
 have j:(zMI r.Ec { i with label:=g+1 }).length<=4:=by rw[uS];exact d.few
 unfold R.put P.put;by_cases he:A=[]
 ·obtain⟨V,W,X⟩:=O.none he;subst he;simp only[x5,if_true];refine⟨d.cnt,j,rT _ d.thr,by simp only[e];exact d.inn,by simp only[e];exact d.pos,xR ⟨ts,us,{ t with body:=t.body++[.mk (iA a) G] },{ u with Eb:=u.Eb++[{ i with label:=g+1 }] },m,r.ifs,b++(z::(ss++[{ i with label:=g+1 }])),[],?_,o _,B,F.append (X ▸ N),?_,?_,J,K⟩⟩
  ·simp only[D,zF]
  ·simp only[W];exact .nil _
  ·simp[I,T,V]
 ·obtain⟨m2,a2,aa,p2,ac,ab,ad,ae,q1,q2,q3,q4,q5,q6⟩:=O.last he;have v:A.isEmpty=false:=by cases hx:A with
   | nil=>exact absurd hx he
   | cons _ _=>rfl
  simp only[v,xF,if_false];refine⟨d.cnt,j,rT _ d.thr,by simp only[e];exact d.inn,by simp only[e];exact d.pos,xR ⟨ts,us,t,{ u with Eb:=u.Eb++[{ i with label:=g+1 }] },m,k,b,q++[{ i with label:=g+1 }],D,o _,B,F,?_,?_,J,K⟩⟩
  ·simp only[q4,xA,q6,T,q5];have:=zAJ.bD q1 q2 (q3.append N);simpa using this
  ·simp[I]
theorem zHU (d:Stm) (a:Int) (c n:Int) (i:Rel r s) (o:s.ts≠[]) (A:d.kind=10) (F:kCm d.a=kBv a) (E:c=n) :
  Rel (P.put { r with count:=c,ifs:=r.ifs+1,opn:=r.opn++[r.ifs+1] } { d with label:=r.ifs+1 }) { s with count:=n,opn:=s.opn++[⟨[],a⟩] }:=by
 rcases i.ths with ⟨p,j,v,y,z⟩ | ⟨ts,us,t,u,m,k,b,q,p,j,v,y,z,B,C,D⟩
 ·exact absurd j o
 have g:∀ x,zMI r.Ec x=us++[{ u with Eb:=u.Eb++[x] }]:=fun x=>by rw[j,sH]
 have f:zMO (zMI r.Ec { d with label:=r.ifs+1 })=zMO r.Ec:=by
  rw[g,j,pE,pE];simp only[zMO,x4];rw[BH];simp[A]
 have e:(zMI r.Ec { d with label:=r.ifs+1 }).length<=4:=by rw[uS];exact i.few
 unfold P.put;refine⟨E,e,rT _ i.thr,by simp only[f];exact i.inn,by simp only[f];exact i.pos,xR ⟨ts,us,t,{ u with Eb:=u.Eb++[{ d with label:=r.ifs+1 }] },m,k,b,q++[{ d with label:=r.ifs+1 }],p,g _,v,y,zAJ.bD z ⟨A,rfl,F⟩ (.nil _),?_,C,D⟩⟩;simp[B]
theorem wF (x:Lh) (a:List UInt8) (r:List ByteArray):(how x a r).1.op=x.op:=by
 unfold how
 split
 ·rfl
 ·split
  ·rfl
  ·split
   ·rfl
   ·split<;>rfl
theorem zJd (d c:ByteArray) (r:List ByteArray):¬ (kJ d c r).1.op.toList=[105,102]:=by
 have b:¬ x0.op.toList=[105,102]:=by rw[x0,aP];decide
 have a:¬ kAA.toList=[105,102]:=by rw[kAA,aP];decide
 unfold kJ
 split
 ·split
  ·simp only[mR,wF,cN,aP];decide
  ·exact b
 ·split
  ·rename_i e;simp only[xW,Bool.or_eq_true,beq_iff_eq] at e
   split
   ·simp only[lE,wF]
    rcases e.1 with h | h<;>rw[h]<;>decide
   ·exact b
  ·split
   ·exact a
   ·exact a
   ·exact a
theorem zLd (c:ByteArray) (w:List ByteArray):¬ (fG c w).1.op.toList=[105,102]:=by
 have a:¬ x0.op.toList=[105,102]:=by rw[x0,aP];decide
 unfold fG
 split
 ·simp only[cW,aP];decide
 ·split
  ·simp only[wF,kAe,aP];decide
  ·split
   ·split
    ·simp only[oN,wF,cO,aP];decide
    ·exact a
   ·split
    ·split
     ·exact zJd _ _ _
     ·exact a
    ·exact a
theorem zBT.cnt {l:List Tree} (p:Stm->Bool) (q:Lh->Bool) (h:zBT n l ss m)
  (g:∀ st x,Twin st x->q x=p st) (b:∀ st,st.kind=10->p st=false) (d:∀ st,st.kind=11->p st=false) (f:∀ a,q (iA a)=false):cnt p ss=bM q l:=by
 induction h using zBT.eG with
 | nil=>simp[P.cnt,iI]
 | gW t _ _ ih=>simp[P.cnt,iI,lR,kL,g _ _ t,ih]
 | node i _ e _ ih1 ih2=>simp[P.cnt,zNY,iI,lR,kL,b _ i.k,d _ e.k,f,ih1,ih2]
theorem zHk (l:List Stm):bars l=cnt (fun s=>s.kind==5) l:=by
 induction l with
 | nil=>rfl
 | cons s r ih=>simp only[bars,cnt,ih]
def eH (n:Int) (ts:List R.Th) (us:List Thr) (k:Int):Prop :=
 ∀ M:Int->List R.Th->List Thr->Int->Prop,(∀ n:Int,M n [] [] n) ->
  (∀ (n m k:Int) (ts:List R.Th) (us:List Thr) (t:R.Th) (u:Thr),zBT n t.body u.Eb m->u.block=t.block->u.line=t.row->M m ts us k->M n (t::ts) (u::us) k)->M n ts us k
theorem eH.nil (n:Int):eH n [] [] n:=fun _ a _=>a n
theorem eH.cons {t:R.Th} {u:Thr} (f:zBT n t.body u.Eb m) (b:u.block=t.block) (l:u.line=t.row) (h:eH m ts us k):eH n (t::ts) (u::us) k :=
 fun M d a=>a _ _ _ _ _ _ _ f b l (h M d a)
theorem eH.eG {a:∀ (n:Int) (ts:List R.Th) (us:List Thr) (k:Int),eH n ts us k->Prop} (nil:∀ n:Int,a n [] [] n (eH.nil n))
  (cons:∀ {n m k:Int} {ts:List R.Th} {us:List Thr} {t:R.Th} {u:Thr} (f:zBT n t.body u.Eb m) (b:u.block=t.block) (l:u.line=t.row) (h:eH m ts us k),a m ts us k h->a n (t::ts) (u::us) k (eH.cons f b l h))
  {n:Int} {ts:List R.Th} {us:List Thr} {k:Int} (h:eH n ts us k):a n ts us k h :=
 (h (fun n ts us k=>∃ h:eH n ts us k,a n ts us k h) (fun n=>⟨_,nil n⟩) (fun _ _ _ _ _ _ _ f b l ⟨h,d⟩=>⟨eH.cons f b l h,cons f b l h d⟩)).2
theorem eH.append {a:List R.Th} {d:List Thr} (h:eH n ts us m) (g:eH m a d k):eH n (ts++a) (us++d) k:=by
 induction h using eH.eG with
 | nil=>simpa using g
 | cons f b l _ ih=>simpa using eH.cons f b l (ih g)
theorem zEG.toC (h:zEG n ts us k):eH n ts us k:=by
 induction h using zEG.eG with
 | nil=>exact .nil _
 | bD _ f b l ih=>exact ih.append (.cons f b l (.nil _))
theorem eH.tot (p:Stm->Bool) (q:Lh->Bool) (h:eH n ts us k)
  (g:∀ st x,Twin st x->q x=p st) (b:∀ st,st.kind=10->p st=false) (d:∀ st,st.kind=11->p st=false) (e:∀ a,q (iA a)=false):tot p us=dI q ts:=by
 induction h using eH.eG with
 | nil=>rfl
 | cons f _ _ _ ih=>simp only[P.tot,dI,f.cnt p q g b d e,ih]
theorem tM (a:Int):(iA a).op.toList=[105,102]:=by simp[iA,sIf,aP]
theorem zJe (h:eH n ts us k):uP ts=!P.over us:=by
 have g:tot P.isR us=dI R.isR ts:=h.tot _ _ (fun _ _ t=>t.rd) (fun f e=>by simp[P.isR,reads,e]) (fun f e=>by simp[P.isR,reads,e]) (fun a=>by simp[R.isR,tM,cN,aP,cU,cT]);have i:tot P.isW us=dI R.isW ts:=h.tot _ _ (fun _ _ t=>t.wr) (fun f e=>by simp[P.isW,zMK,e]) (fun f e=>by simp[P.isW,zMK,e]) (fun a=>by simp[R.isW,tM,cO,aP,cU,cT]);have j:tot P.isF us=dI R.isF ts:=h.tot _ _ (fun _ _ t=>t.fn) (fun f e=>by simp[P.isF,e]) (fun f e=>by simp[P.isF,e]) (fun a=>by simp[R.isF,tM,kAe,aP]);unfold uP over;rw[g,i,j];have d:∀ a b:Int,decide (a<=b)=!decide (b<a):=fun a b=>by
  by_cases h:a<=b
  ·have:¬ b<a:=by omega
   simp[h,this]
  ·have:b<a:=by omega
   simp[h,this]
 rw[d,d,d];simp[Bool.not_or]
theorem zJf {l:List Tree} (h:zBT n l ss m):bars ss=bM isB l:=by
 rw[zHk];exact h.cnt _ _ (fun _ _ t=>t.br) (fun d b=>by simp[b]) (fun d b=>by simp[b]) (fun a=>by simp[isB,tM,cW,aP])
namespace P
def fB (b:Int):List Thr->Int
 | []=>-1
 | t::r=>if t.block==b then bars t.Eb else fB b r
theorem kHf (b:Int) (l:List Thr):zNl b l=if fB b l<0 then 0 else fB b l:=by
 induction l with
 | nil=>rfl
 | cons t r ih =>
  simp only[zNl,fB]
  split
  ·have:=(qL t.Eb).1;rw[if_neg (by omega)]
  ·exact ih
theorem zOG (b:Int) (l:List Thr):-1<=fB b l:=by
 induction l with
 | nil=>simp[fB]
 | cons t r ih =>
  simp only[fB]
  split
  ·have:=(qL t.Eb).1;omega
  ·exact ih
theorem sL (b:Int) (l m:List Thr):fB b (l++m)=if fB b l<0 then fB b m else fB b l:=by
 induction l with
 | nil=>rfl
 | cons t r ih =>
  simp only[List.cons_append,fB]
  split
  ·have:=(qL t.Eb).1;rw[if_neg (by omega)]
  ·exact ih
end P
theorem zJg (h:eH n ts us k):∀ a:List Thr,(∀ u∈us,u.block=0\/u.block=1) ->
  zMs (a++us) us=iW (fB 0 a) (fB 1 a) ts:=by
 induction h using eH.eG with
 | nil=>intro _ _;rfl
 | @cons n m k ts us t u f b l _ ih =>
  intro a i;have j:=zJf f;have p:=(qL u.Eb).1;have d:=ih (a++[u]) (fun v o=>i v (by simp[o]));rw[List.append_assoc,List.singleton_append] at d;have G:zNl u.block (a++u::us)=fB u.block (a++[u]):=by
   rw[kHf,sL,sL];simp only[fB,beq_self_eq_true,if_true];by_cases hp:fB u.block a<0
   ·simp only[if_pos hp];rw[if_neg (by omega)]
   ·simp only[if_neg hp]
  simp only[zMs,iW];rw[G,<- j,<- b,<- l,d,sL,sL]
  rcases i u (by simp) with e | e
  ·rw[e,sL];simp only[fB,e,beq_self_eq_true,if_true,show ((0:Int)==1)=false from rfl,xF,if_false];have g:(if fB 1 a<0 then (-1:Int) else fB 1 a)=fB 1 a:=by
    have:=zOG 1 a
    split<;>omega
   rw[g,bne_comm]
  ·rw[e,sL];simp only[fB,e,beq_self_eq_true,if_true,show ((1:Int)==0)=false from rfl,xF,if_false];have g:(if fB 0 a<0 then (-1:Int) else fB 0 a)=fB 0 a:=by
    have:=zOG 0 a
    split<;>omega
   rw[g,bne_comm]
theorem Rel.tY (h:Rel r s) (v:s.opn=[]):∃ k,eH 0 s.ts r.Ec k:=by
 rcases h.ths with ⟨a,d,_⟩ | ⟨ts,us,t,u,m,k,b,q,a,d,f,g,i,j,o,p⟩
 ·exact⟨0,by rw[a,d];exact .nil 0⟩
 ·obtain⟨e,x,y⟩:=i.none v;refine⟨k,?_⟩;rw[a,d];refine f.toC.append (.cons ?_ o p (.nil _));rw[j,e,x3];exact g
theorem zHV (all:List Thr) (l:List Thr) (h:∀ u∈l,0<u.line):0<=zMs all l:=by
 induction l with
 | nil=>simp[zMs]
 | cons t r ih =>
  simp only[zMs]
  split
  ·have:=h t (by simp);omega
  ·exact ih (fun u a=>h u (by simp[a]))
namespace R
def jB:List (List UInt8)->Lh × Bool
 | []=>(x0,false)
 | c::w=>fG (iU c) (w.map iU)
theorem kLK (w:List (List UInt8)):(w.map iU).map ByteArray.toList=w:=by
 rw[List.map_map]
 conv=>rhs;rw[<- List.map_id w]
 exact List.map_congr_left fun a _=>pX a
def kCM (ws:List (List UInt8)):Prop:=∃ c w,ws=c::w/\c≠[101,110,100]/\(c=[105,102]->2<=w.length)
theorem vW {A b:List UInt8} {m:List (List UInt8)} (a:A.length<=2):kCM (A::b::c::m):=⟨A,b::c::m,rfl,fun e=>by rw[e] at a;simp at a,fun _=>by simp⟩
theorem AJ {m:List (List UInt8)} (a:c≠[101,110,100]) (b:c≠[105,102]):kCM (c::m):=⟨c,m,rfl,a,fun e=>absurd e b⟩
theorem kGL {k:Nat} {a b:List (List UInt8)} (d:(a.getD 0 []).length<=2) (h:(kN k a b).2=true):kCM (kN k a b).1:=by
 have S:∀ out,(dW out b).2=true->∃ m,(dW out b).1=out++m:=fun out h=>by
  obtain⟨m,e,_⟩:=oT b out (dW out b).fst (Prod.ext rfl h);exact⟨m,e⟩
 match k,h with
 | 0,h =>
  obtain⟨m,e⟩:=S _ h;show kCM (dW _ b).1;rw[e];exact vW d
 | 1,h =>
  obtain⟨m,e⟩:=S _ h;show kCM (dW _ b).1;rw[e];exact AJ (by decide) (by decide)
 | 2,h =>
  cases b with
  | nil=>cases h
  | cons x r =>
   have S:∀ out,(dW out r).2=true->∃ m,(dW out r).1=out++m:=fun out h=>by
    obtain⟨m,e,_⟩:=oT r out (dW out r).fst (Prod.ext rfl h);exact⟨m,e⟩
   simp only[kN] at h ⊢
   split at h
   ·rename_i c;rw[if_pos c];obtain⟨m,e⟩:=S _ h;rw[e];exact vW d
   ·rename_i c;rw[if_neg c]
    split at h
    ·rename_i c;rw[if_pos c];obtain⟨m,e⟩:=S _ h;rw[e];exact vW d
    ·cases h
 | 3,h =>
  obtain⟨m,e⟩:=S _ h;show kCM (dW _ b).1;rw[e];exact AJ (by decide) (by decide)
 | 4,h=>exact AJ (by decide) (by decide)
 | 5,h=>exact vW d
 | k+6,h=>exact vW d
theorem kJN (a:List UInt8) (b:List (List UInt8)):((dF a b).getD 0 []).length<=2:=by
 match a,b with
 | [],_=>simp[dF]
 | _::_,[]=>simp[dF]
 | c::a,x::b=>exact mW c x
theorem EN (h:(eX l).2=true):kCM (eX l).1:=by
 unfold eX at h ⊢
 split at h
 ·cases h
 ·rename_i j d e
  cases hg:fE [] d with
  | none=>rw[hg] at h;cases h
  | some xs =>
   rw[hg] at h;rw[lJ] at h ⊢
   split at h
   ·cases h
   rename_i c;rw[if_neg c]
   split at h
   ·cases h
   ·rename_i g i f;rw[wH] at h ⊢;unfold pB at h ⊢
    split at h
    ·cases h
    ·rename_i a;rw[if_neg a]
     split at h
     ·cases h
     ·rename_i b;rw[if_neg b];exact kGL (kJN _ _) h
theorem zPq {d:List (List UInt8)} (h:kCM d):(dD d).2=(jB d).2/\((jB d).2=true->Twin (dD d).1 (jB d).1):=by
 obtain⟨c,w,rfl,g,i⟩:=h;by_cases hc:c=[105,102]
 ·subst hc;have j:=i rfl
  match w,j with
  | a::b::w,_ =>
   have e:(dD ([105,102]::a::b::w)).2=false:=by
    cases w<;>rfl
   have f:(jB ([105,102]::a::b::w)).2=false:=by
    simp only[jB,fG,pX,List.map_cons];rw[if_neg (by decide),if_neg (by decide),if_neg (by simp)]
    split
    ·exact BN _ _ _ (by rw[pX,tW];decide)
    ·rfl
   exact bf e f
 ·have:=zLb (iU c) (w.map iU) (by rw[pX];exact hc) (by rw[pX];exact g);rw[kLK,pX] at this;exact this
theorem kLc (a:List (List UInt8)):¬ (jB a).1.op.toList=[105,102]:=by
 cases a with
 | nil=>simp[jB,x0,aP]
 | cons c w=>exact zLd _ _
structure AS where
 s:St
 nm:List (List UInt8)
 lb:Int
def AS.zero:AS:=⟨St.zero,[],0⟩
def thB:List UInt8->Option Int
 | [46,116,104,114,101,97,100,32,48]=>some 0
 | [46,116,104,114,101,97,100,32,49]=>some 1
 | _=>none
def fO (a:AS) (l:List UInt8):Option AS :=
 if 40<=a.s.count then none
 else if iH l then
  match rF (kAO (a.lb+1)) l with
  | some t=>if decide (a.s.opn.length<2)&&(aW (bA 97 t)).2 then some ⟨{ a.s with count:=a.s.count+1,opn:=a.s.opn++[⟨[],(aW (bA 97 t)).1⟩] },a.nm++[kAO (a.lb+1)],a.lb+1⟩ else none
  | none=>none
 else if (eX l).2&&(jB (eX l).1).2&&!(isB (jB (eX l).1).1&&!a.s.opn.isEmpty) then some { a with s:=put { a.s with count:=a.s.count+1 } (.mk (jB (eX l).1).1 []) }
 else none
def dG (a:AS) (i:Int) (l:List UInt8):Option AS :=
 match thB l with
 | some b=>if a.s.opn.isEmpty&&!(a.s.ts.length==4) then some { a with s:={ a.s with ts:=a.s.ts++[⟨b,[],i⟩],count:=0 } } else none
 | none =>
  if a.s.ts.isEmpty then none
  else match a.s.opn.getLast?,a.nm.getLast? with
   | some f,some n=>if l=n++[58] then some { a with s:=put { a.s with opn:=a.s.opn.dropLast } (.mk (iA f.a) f.l),nm:=a.nm.dropLast } else fO a l
   | _,_=>fO a l
end R
structure ARel (r:Rd) (a:AS):Prop where
 rel:Rel r a.s
 nm:a.nm=r.opn.map kAO
 lb:a.lb=r.ifs
 inn:a.s.inner=0
 most:r.most=40
 ifs:0<=r.ifs
 pos:∀ x∈r.opn,0<x
theorem zJh:ARel Rd.zeroA AS.zero:=⟨⟨rfl,by simp[Rd.zeroA],by simp[Rd.zeroA],rfl,fun l h=>by simp[Rd.zeroA,zMO] at h,Or.inl ⟨rfl,rfl,rfl,rfl,rfl⟩⟩,rfl,rfl,rfl,rfl,Int.le_refl _,fun x h=>by simp[Rd.zeroA] at h⟩
def vB (p:Rd × Bool) (o:Option AS) (i:Int):Prop :=
 p.1.line=i/\match o with
 | none=>p.2=false
 | some a=>p.2=true/\ARel p.1 a
theorem ARel.openL {a:AS} (h:ARel r a):(openL r != 0)=!a.s.opn.isEmpty:=by
 have b:=h.rel.fT;unfold P.openL
 cases e:r.opn.getLast? with
 | none =>
  rw[x7] at e;rw[e] at b;have:a.s.opn=[]:=List.length_eq_zero_iff.1 b.symm;rw[this];rfl
 | some x =>
  have f:=h.pos x (x8 e);have:a.s.opn≠[]:=fun d=>by
   rw[d] at b;have:r.opn=[]:=List.length_eq_zero_iff.1 b;rw[this] at e;cases e
  cases e3:a.s.opn with
  | nil=>exact absurd e3 this
  | cons y ys=>simp;omega
theorem zHl {b:Int} (h:thB l=some b):(b=0\/b=1)/\l=fS b:=by
 have a:bP 0=[48]:=jO 0 (by decide);have d:bP 1=[49]:=jO 1 (by decide);unfold thB at h
 split at h
 ·injection h with h;subst h;exact⟨Or.inl rfl,by rw[fS,a];rfl⟩
 ·injection h with h;subst h;exact⟨xR rfl,by rw[fS,d];rfl⟩
 ·cases h
theorem zKi (h:thB l=none):l≠fS 0/\l≠fS 1:=by
 have a:bP 0=[48]:=jO 0 (by decide);have b:bP 1=[49]:=jO 1 (by decide);constructor
 ·rintro rfl;rw[fS,a] at h;cases h
 ·rintro rfl;rw[fS,b] at h;cases h
theorem zGz {a:AS} (h:ARel r a) (i b:Int) (f:r.line=i) (g:0<i) (I:b=0\/b=1) :
  vB (zNr r b r.line) (if a.s.opn.isEmpty&&!(a.s.ts.length==4) then some { a with s:={ a.s with ts:=a.s.ts++[⟨b,[],i⟩],count:=0 } } else none) i:=by
 have j:=h.rel.gU;have J:=h.rel.fT;have L:=h.rel.few;unfold zNr;by_cases d:4<=r.Ec.length\/0<r.opn.length
 ·rw[if_pos d,if_neg]
  ·exact⟨f,rfl⟩
  ·intro A;simp at A
   rcases d with d | d
   ·exact A.2 (by omega)
   ·rw[J,A.1] at d;simp at d
 rw[if_neg d];have o:a.s.opn=[]:=List.length_eq_zero_iff.1 (by omega);have E:r.opn=[]:=List.length_eq_zero_iff.1 (by omega);rw[if_pos (by rw[o];simp;omega)];refine⟨f,rfl,⟨⟨rfl,by simp;omega,?_,?_,?_,?_⟩,h.nm,h.lb,h.inn,h.most,h.ifs,h.pos⟩⟩
 ·intro u e
  rcases List.mem_append.1 e with e | e
  ·exact h.rel.thr u e
  ·rw[x1] at e;subst e;exact⟨by rw[f];exact g,I⟩
 ·show a.s.inner=_;rw[pE,h.rel.inn];simp[zMO,mG]
 ·intro l j;rw[pE] at j;simp[zMO,mG] at j;exact h.rel.pos l j
 ·rcases h.rel.ths with ⟨p,v,x,y,z⟩ | ⟨ts,us,t,u,m,k,K,q,p,v,x,y,z,F,G,H⟩
  ·refine xR ⟨[],[],⟨b,[],i⟩,⟨b,r.line,[]⟩,0,0,[],[],by rw[v],by rw[p],zEG.nil 0,zBT.nil 0,?_,rfl,rfl,f⟩;show zAJ 0 a.s.opn [] r.opn r.ifs;rw[x,y,z];exact zAJ.nil 0
  ·obtain⟨B,C,D⟩:=z.none o;refine xR ⟨a.s.ts,r.Ec,⟨b,[],i⟩,⟨b,r.line,[]⟩,k,k,[],[],rfl,rfl,?_,zBT.nil k,?_,rfl,rfl,f⟩
   ·rw[p,v];exact zEG.bD x (by rw[F,B,x3];exact y) G H
   ·show zAJ k a.s.opn [] r.opn r.ifs;rw[o,C,D];exact zAJ.nil k
theorem R.kGx (s:St) (x:Tree):(R.put s x).inner=s.inner:=by unfold R.put;split<;>rfl
theorem zLe {next:Int} (h:(kAv l next).2=true):((kAv l next).1.kind==11)=false:=by
 unfold kAv at h ⊢;obtain⟨j,b,d,_,a⟩:=yO _ _ next 11 0 h;rw[a];simp;omega
def tN (r:Rd) (l:List UInt8):Rd × Bool :=
 if !(kAv l (r.ifs+1)).2||((kAv l (r.ifs+1)).1.kind==5&&openL r != 0) then (r,false)
 else kAT r { (kAv l (r.ifs+1)).1 with line:=r.line }
theorem zFN {a:AS} (h:ARel r a) (i:Int) (l:List UInt8) (q:r.line=i) (u:0<i) (f:a.s.ts≠[]):vB (tN r l) (fO a l) i:=by
 have g:r.Ec.isEmpty=false:=by
  have I:=h.rel.gU
  cases j:r.Ec with
  | nil=>rw[j] at I;exact absurd (List.length_eq_zero_iff.1 I.symm) f
  | cons _ _=>rfl
 have H:=h.rel.cnt;have X:=h.rel.fT;have D:=h.openL;have W:=h.most;have z:∀ (n:Int) (o:Option AS),o=none->vB ({ r with count:=n },false) o i:=fun n o h=>by subst h;exact⟨q,rfl⟩
 have b:∀ o:Option AS,o=none->vB (r,false) o i:=fun o h=>by subst h;exact⟨q,rfl⟩
 unfold tN;rw[D]
 cases hs:(kAv l (r.ifs+1)).2
 ·simp only[Bool.not_false,Bool.true_or,if_true];apply b;unfold fO;rw[h.lb]
  split
  ·rfl
  split
  ·rename_i v;have B:=(zPQ (r.ifs+1) v).1
   split
   ·rename_i t S;rw[if_neg];intro e;rw[xW,<- (qR _).1] at e;have:=B.2 ⟨t,S,e.2⟩;rw[hs] at this;cases this
   ·rfl
  ·rw[if_neg];intro e;rw[xW,xW] at e;have E:=zPq (EN e.1.1);have:=(kLl (r.ifs+1) e.1.1 (by rw[E.1];exact e.1.2)).1;rw[hs] at this;cases this
 have p:=zLe hs;simp only[Bool.not_true,Bool.false_or];by_cases h40:40<=a.s.count
 ·have F:fO a l=none:=by unfold fO;rw[if_pos h40]
  split
  ·exact b _ F
  ·unfold kAT;simp only[g,p,xF,if_false];rw[if_pos (by omega)];exact b _ F
 have d:¬ r.most<=r.count:=by omega
 unfold fO;rw[if_neg h40,h.lb]
 cases v:iH l
 ·have N:=kMs v hs;obtain⟨J,U,V⟩:=kLx hs N;have E:=zPq (EN J);have G:=E.1.symm.trans U;have T:=E.2 G;rw[V] at T;have C:=T.br;rw[J,G];simp only[xF,if_false,Bool.true_and];rw[C]
  cases hq:((kAv l (r.ifs+1)).1.kind==5&&!a.s.opn.isEmpty)
  ·simp only[xF,if_false,Bool.not_false,if_true];unfold kAT;simp only[g,p,xF,if_false];have A:((kAv l (r.ifs+1)).1.kind==10)=false:=T.k10;rw[if_neg d,A];simp only[xF,if_false];refine⟨q,rfl,⟨?_,h.nm,rfl,(kGx _ _).trans h.inn,h.most,h.ifs,h.pos⟩⟩;exact zLc { (kAv l (r.ifs+1)).1 with line:=r.line } (.mk (jB (eX l).1).1 []) (r.count+1) (a.s.count+1) i a.s.inner h.rel f u (by rw[H]) (fun k=>.gW (T.line r.line) (kLc _) (.nil k)) q (by
    show a.s.inner=if (kAv l (r.ifs+1)).1.kind==5&&!a.s.opn.isEmpty&&a.s.inner==0 then i else a.s.inner
    rw[hq];rfl)
  ·simp only[if_true,Bool.not_true,xF,if_false];exact b _ rfl
 ·obtain⟨L,M⟩:=zPQ (r.ifs+1) v;obtain⟨t,K,y⟩:=L.1 hs;rw[M t K y,K];simp only[if_true];have O:=qR (bA 97 t);rw[<- O.1,y,Bool.and_true];rw[if_neg (by simp)];unfold kAT;simp only[g,xF,if_false];rw[if_neg (by simp),if_neg d,if_pos (by simp)];by_cases h2:2<=r.opn.length
  ·rw[if_pos h2,if_neg (by simp;omega)];exact z _ _ rfl
  ·unfold branch;simp only;rw[if_neg h2,if_neg h2,if_pos (by simp;omega)];refine⟨q,rfl,⟨?_,?_,?_,h.inn,h.most,?_,?_⟩⟩
   ·refine zHU { Stm.zero with kind:=10,line:=r.line,label:=r.ifs+1,a:=(cA (bA 97 t)).1 } (aW (bA 97 t)).1 (r.count+1) (a.s.count+1) h.rel f rfl ?_ (by rw[H]);rw[<- O.2 y,sW _ (rX _ y).1]
   ·show a.nm++[kAO (r.ifs+1)]=(r.opn++[r.ifs+1]).map kAO;rw[h.nm];simp
   ·rfl
   ·show 0<=r.ifs+1;have:=h.ifs;omega
   ·intro x j
    rcases List.mem_append.1 j with j | j
    ·exact h.pos x j
    ·rw[x1] at j;have:=h.ifs;omega
theorem zHW {a:AS} (h:ARel r a) (i:Int) (l:List UInt8) (j:r.line=i) (d:0<i):vB (kAt r l) (dG a i l) i:=by
 unfold dG
 cases hb:thB l with
 | some b =>
  obtain⟨C,p⟩:=zHl hb;have e:kAt r l=zNr r b r.line:=by
   unfold kAt
   rcases C with rfl | rfl
   ·rw[if_pos p]
   ·rw[if_neg,if_pos p];rw[p,fS,fS,show bP 0=[48] from jO 0 (by decide),show bP 1=[49] from jO 1 (by decide)];decide
  rw[e];exact zGz h i b j d C
 | none =>
  obtain⟨H,I⟩:=zKi hb;have e:kAt r l=if openL r != 0&&l==kAO (openL r)++[58] then kAT r { Stm.zero with kind:=11,line:=r.line } else tN r l:=by
   unfold kAt tN;rw[if_neg H,if_neg I]
  rw[e];have t:=h.rel.gU;have z:=h.rel.fT;simp only;by_cases hn:a.s.ts=[]
  ·have F:r.Ec=[]:=List.length_eq_zero_iff.1 (by rw[t,hn];rfl);rw[hn];simp only[x5,if_true];have D:∀ E,kAT r E=(r,false):=fun E=>by unfold kAT;rw[F];rfl
   unfold tN;rw[D,D]
   split
   ·exact⟨j,rfl⟩
   ·split<;>exact⟨j,rfl⟩
  have u:a.s.ts.isEmpty=false:=by
   cases o:a.s.ts with
   | nil=>exact absurd o hn
   | cons _ _=>rfl
  have B:r.Ec.isEmpty=false:=by
   cases o:r.Ec with
   | nil=>rw[o] at t;exact absurd (List.length_eq_zero_iff.1 t.symm) hn
   | cons _ _=>rfl
  rw[u];simp only[xF,if_false]
  cases hg:r.opn.getLast? with
  | none =>
   have A:r.opn=[]:=List.getLast?_eq_none_iff.1 hg;have q:a.s.opn=[]:=List.length_eq_zero_iff.1 (by rw[<- z,A];rfl);have g:openL r=0:=by unfold openL;rw[hg];rfl
   rw[g,q];simp only[List.getLast?_nil];rw[if_neg (by simp)];exact zFN h i l j d hn
  | some x =>
   have o:=h.pos x (x8 hg);have g:openL r=x:=by unfold openL;rw[hg];rfl
   have v:a.nm.getLast?=some (kAO x):=by rw[h.nm,List.getLast?_map,hg];rfl
   cases hf:a.s.opn.getLast? with
   | none =>
    rw[x7] at hf;rw[hf] at z;have:r.opn=[]:=List.length_eq_zero_iff.1 z;rw[this] at hg;cases hg
   | some f =>
    rw[g,v];simp only;by_cases hL:l=kAO x++[58]
    ·rw[if_pos (by rw[<- hL];simp;omega),if_pos hL];unfold kAT;simp only[B,xF,if_false,beq_self_eq_true,if_true];unfold ends;rw[hg];refine⟨j,rfl,⟨zKh { Stm.zero with kind:=11,line:=r.line } x f h.rel rfl hg hf,?_,h.lb,(kGx _ _).trans h.inn,h.most,h.ifs,?_⟩⟩
     ·show a.nm.dropLast=r.opn.dropLast.map kAO;rw[h.nm,List.map_dropLast]
     ·intro y G;exact h.pos y ((List.dropLast_sublist _).subset G)
    ·rw[if_neg (by simp[hL]),if_neg hL];exact zFN h i l j d hn
namespace R
def fZ (a:AS) (i:Int):List (List UInt8)->Option AS × Int
 | []=>(some a,i)
 | x::xs=>match dG a (i+1) x with
  | none=>(none,i+1)
  | some b=>fZ b (i+1) xs
end R
theorem zLf (d:List (List UInt8)):∀ (r:Rd) (a:AS) (i:Int),ARel r a->r.line=i->0<=i ->
  (kAS r d).1.line=(fZ a i d).2/\match (fZ a i d).1 with
   | none=>(kAS r d).2=false
   | some b=>(kAS r d).2=true/\ARel (kAS r d).1 b:=by
 induction d with
 | nil=>intro r a i h g p;exact⟨g,rfl,h⟩
 | cons x d ih =>
  intro r a i h g p;have o:ARel { r with line:=r.line+1 } a:=⟨⟨h.rel.cnt,h.rel.few,h.rel.thr,h.rel.inn,h.rel.pos,h.rel.ths⟩,h.nm,h.lb,h.inn,h.most,h.ifs,h.pos⟩;obtain⟨j,f⟩:=zHW o (i+1) x (by show r.line+1=i+1;rw[g]) (by omega);rw[kAS,fZ]
  cases e:dG a (i+1) x with
  | none =>
   rw[e] at f;rw[f];exact⟨j,rfl⟩
  | some b =>
   rw[e] at f;rw[f.1];exact ih _ b (i+1) f.2 j (by omega)
end Go.Proofs.YtonodfjdiepglaaGreatDoor
