import Derived.Test.YtlikcongbhhpfaaGreatDoorM41
set_option linter.unusedVariables false
set_option linter.unusedSimpArgs false
set_option maxHeartbeats 12800000
namespace Go.Proofs.YtlikcongbhhpfaaGreatDoor
open Go Go.RowKit Go.Proofs.Tryz P Q
set_option maxRecDepth 1000000
variable {s w:List UInt8}{α β:Type}{r r1:Rd}{ws:List (List UInt8)}
open List renaming length->N
open _root_.Array renaming size->M
open Go.World renaming heap->L
open Bool renaming true->Y,false->G
open Go.Value renaming string->C
open Option renaming none->E,some->U
open Or renaming inr->xF,inl->x1
open _root_.ByteArray renaming toList->xR,size_append->xh
open Go.Value renaming string->xW
open List renaming map_append->x0,mem_singleton->x2,map_cons->x3,map_nil->x4,mem_cons_of_mem->x5,cons_append->x6,foldl_cons->x8,length_map->xc,length_cons->xd,take_succ_eq_append_getElem->xe,dropLast_concat_getLast->xi,take_of_length_le->xk,contains_iff_mem->xl,mem_append_left->xm,getElem?_eq_getElem->xn,getElem_mem->xo
open Nat renaming le_refl->x7,zero_le->xg
open Go.RowKit.Below renaming refl->x9
open Bool renaming false_eq_true->xj
namespace P
def fS:List (List UInt8)->List UInt8
 |[]=>[]
 |x::r=>x++10::fS r
theorem FH:∀{a:List (List UInt8)},(∀x∈a,(10:UInt8)∉x)->KD 10 (fS a)=a++[[]]
 |[],_=>Z
 |x::a,h=>by
  rw[fS,YG,YH 10 x (h x (by simp)),FH fun y b=>h y (x5 _ b)];rfl
theorem Dg:∀(a:List (List UInt8)),qF 10 (a++[[]])=fS a
 |[]=>Z
 |x::a=>by rw[x6,YI 10 x _ (by simp),Dg a];rfl
theorem Tc(h:(KD 10 s).getLast?=U []):s=fS (KD 10 s).dropLast:=by
 have b:=yB 10 s;have a:=(xi (lJ 10 s)).symm;rw[List.getLast?_eq_some_getLast (lJ 10 s)]at h;rw[Option.some.inj h]at a
 conv=>lhs;rw[<- b,a]
 exact Dg _
theorem zV(c:UInt8):∀(l w:List UInt8),w∈KD c l->c∉w
 |[],w,h=>by simp[KD]at h;rw[h];simp
 |x::l,w,h=>by
  by_cases hx:x=c
  ·subst hx;rw[qA]at h
   rcases List.mem_cons.1 h with rfl|h
   ·simp
   ·exact zV x l w h
  ·cases hs:KD c l with
   |nil=>exact absurd hs (lJ _ _)
   |cons a b =>
    rw[mP c x l hx a b hs]at h
    rcases List.mem_cons.1 h with rfl|h
    ·have:=zV c l a (by rw[hs];simp);intro d
     rcases List.mem_cons.1 d with e|d
     ·exact hx e.symm
     ·exact this d
    ·exact zV c l w (by rw[hs];exact x5 _ h)
def gH{α β:Type}(R:α->β->Prop):List α->List β->Prop
 |[],[]=>True
 |a::x,b::y=>R a b/\gH R x y
 |_,_=>False
theorem wX{α β:Type}{R:α->β->Prop}:∀{x:List α} {y:List β},gH R x y->N y=N x
 |[],[],_=>Z
 |a::x,b::y,h=>by rw[xd,xd,wX h.2]
 |[],b::y,h=>by simp[gH]at h
 |a::x,[],h=>by simp[gH]at h
section
variable {R:JR->JR->Prop}
abbrev eM:List UInt8:=[116,104,114,101,97,100]
theorem xH(f:r.most=8)(h:MD r ws=(r1,Y)):(∃c:UInt8,ws=[eM,[c]]/\(cH c 2).2=Y/\fB r (cH c 2).1 r.i=(r1,Y))\/∃st,cI ws=(st,Y)/\cZ r {st with i:=r.i}=(r1,Y)/\∃c q,ws=c::q/\(c==eM)=G:=by
 cases ws with
 |nil =>
  unfold MD at h;simp[cI]at h
 |cons c q =>
  cases hc:c==eM
  ·rw[CQ r c q hc f]at h
   split at h
   ·rename_i g;exact xF ⟨(cI (c::q)).1,by rw[<- g],h,c,q,Z,hc⟩
   ·simp at h
  ·have a:=eq_of_beq hc;subst a;have e:MD r (eM::q)=eW r (eM::q):=by unfold MD;simp
   rw[e]at h
   match q,h with
   |[],h=>unfold eW at h;split at h<;>simp at h
   |[[]],h=>unfold eW at h;split at h<;>simp at h
   |[[d]],h =>
    rw[SX]at h
    split at h
    ·rename_i b;exact x1 ⟨d,Z,b,h⟩
    ·simp at h
   |[d::d2::d3],h=>unfold eW at h;split at h<;>simp at h
   |_::_::_,h=>unfold eW at h;split at h<;>simp at h
end
theorem Dh(h:(KM s).2.1=0):∃r1,N s<=2000/\LZ Rd.zero (KD 10 s).dropLast=(r1,Y)/\(KD 10 s).getLast?=U []/\r1.O=[]/\r1.H≠[]/\KM s=(r1.H,0,0)/\fV r1.H=0/\dN r1.H r1.H=0/\hZ r1.H=G:=by
 unfold KM at h⊢
 split at h
 ·simp at h
 ·rename_i m
  split at h
  ·simp at h
  ·rename_i k
   split at h
   ·simp at h
   ·rename_i b
    split at h
    ·simp at h
    ·rename_i d
     split at h
     ·simp at h
     ·rename_i e;rw[if_neg m,if_neg k,if_neg b,if_neg d,if_neg e];have f:(aT s).2=0:=by simpa using k
      obtain⟨n,o,l⟩:=IG (KD 10 s).dropLast 0 Rd.zero BE;have z:Rd.zero.i=0:=Z;unfold aT at f b d e⊢;simp only[]at f b d e⊢
      cases hq:(LZ Rd.zero (KD 10 s).dropLast).2
      ·have:=l hq;simp[hq]at f;omega
      ·simp only[hq,if_true]at f b d e⊢
       split at f
       ·simp at f;omega
       ·rename_i a;rw[if_neg a]at b d e⊢;have g:(KD 10 s).getLast?=U []:=Decidable.byContradiction fun c=>a (x1 c)
        have j:(LZ Rd.zero (KD 10 s).dropLast).1.O=[]:=Decidable.byContradiction fun c=>a (xF (x1 c))
        exact⟨(LZ Rd.zero (KD 10 s).dropLast).1,by omega,by rw[<- hq],g,j,fun c=>a (xF (xF c)),Z,by simpa using b,by simpa using d,by simpa using e⟩
abbrev Td:List UInt8:=[115,116,111,114,101]
abbrev Te:List UInt8:=[108,111,97,100]
abbrev CC:List UInt8:=[97,100,100]
abbrev DZ:List UInt8:=[115,119,97,112]
abbrev Tf:List UInt8:=[102,101,110,99,101]
abbrev Di:List UInt8:=[98,97,114,114,105,101,114]
def Tg(p v:List UInt8):JR:={JR.zero with k:=1,z:=(cR p).1,a:=(aO v).1}
def Ti(d v:List UInt8):JR:={JR.zero with dest:=(aS d).1,k:=0,z:=(cR v).1}
def Dj(d p v:List UInt8)(k:Int):JR:={JR.zero with dest:=(aS d).1,k:=k,z:=(cR p).1,a:=(aO v).1}
def Tj:JR:={JR.zero with k:=4}
structure Plain(ws:List (List UInt8))(st:JR):Prop where
 head:∃c w q,ws=(c::w)::q/\c≠115/\c≠116/\c≠102/\(c::w=Di\/(c::w).length<=3)
 tail:∀x∈ws.tail,N x<=2
 nov:∀x∈ws.tail,∀c:UInt8,x=[c]->c.toNat<62
 k:OL st.k=G/\st.k≠4
theorem zJ(h:(aO w).2=Y)(c:UInt8)(e:w=[c]):c.toNat<62:=by
 subst e;simp only[aO,cH,Bool.and_eq_true,decide_eq_true_eq]at h;omega
theorem Tk(h:(cX w).2=Y)(c:UInt8)(e:w=[c]):c.toNat<62:=by
 unfold cX at h
 split at h
 ·rename_i a;rw[eq_of_beq a]at e;rw[<- (List.cons.inj e).1];decide
 ·split at h
  ·rename_i a;rw[eq_of_beq a]at e;rw[<- (List.cons.inj e).1];decide
  ·split at h
   ·rename_i a;rw[eq_of_beq a]at e;simp at e
   ·simp at h
theorem Tl{u:JR}(h:cI ws=(u,Y)):
  (∃p v r,ws=Td::p::v::r/\(cR p).2=Y/\(aO v).2=Y/\dI (Tg p v) r=(u,Y)) \/
  (∃d v r,ws=d::[61]::Te::v::r/\(aS d).2=Y/\(cR v).2=Y/\dI (Ti d v) r=(u,Y)) \/
  (∃d c k p v r,ws=d::[61]::c::p::v::r/\(aS d).2=Y/\(c=CC/\k=2\/c=DZ/\k=3)/\(cR p).2=Y/\(aO v).2=Y/\dI (Dj d p v k) r=(u,Y)) \/
  (∃r,ws=Tf::r/\dI Tj r=(u,Y))\/Plain ws u:=by
 cases ws with
 |nil=>simp[cI]at h
 |cons c r =>
  have X:=h;simp only[cI]at h
  split at h
  ·rename_i o;have i:=eq_of_beq o
   match r,h with
   |[],h=>simp[store]at h
   |[_],h=>simp[store]at h
   |p::v::r,h =>
    simp only[store]at h
    split at h
    ·rename_i t;simp only[MI]at t h
     split at t
     ·rename_i y;rw[if_pos y]at h;exact x1 ⟨p,v,r,by rw[i],y,t,h⟩
     ·simp at t
    ·simp at h
  ·split at h
   ·rename_i o;have i:=eq_of_beq o;exact xF (xF (xF (x1 ⟨r,by rw[i],h⟩)))
   ·split at h
    ·rename_i o;have i:=eq_of_beq o;simp only[Prod.mk.injEq]at h;have J:r=[]:=by simpa using h.2
     subst J;refine xF (xF (xF (xF ⟨⟨98,_,[],by rw[i],by decide,by decide,by decide,x1 Z⟩,fun x f=>by simp at f,fun x f=>by simp at f,?_⟩)));rw[<- h.1];decide
    ·split at h
     ·rename_i o;have i:=eq_of_beq o
      match r,h with
      |[],h=>simp[kN]at h
      |[a],h =>
       simp only[kN,Prod.mk.injEq]at h;refine xF (xF (xF (xF ⟨⟨105,_,[a],by rw[i],by decide,by decide,by decide,xF (by decide)⟩,fun x f=>?_,fun x f=>?_,?_⟩)))
       ·simp at f;rw[f];exact yA h.2
       ·simp at f;rw[f];exact zJ h.2
       ·rw[<- h.1];exact⟨show OL 10=G by decide,show(10:Int)≠4 by decide⟩
      |_::_::_,h=>simp[kN]at h
     ·split at h
      ·rename_i o;have i:=eq_of_beq o;simp only[Prod.mk.injEq]at h;have J:r=[]:=by simpa using h.2
       subst J;refine xF (xF (xF (xF ⟨⟨101,_,[],by rw[i],by decide,by decide,by decide,xF (by decide)⟩,fun x f=>by simp at f,fun x f=>by simp at f,?_⟩)));rw[<- h.1];decide
      ·match r,h with
       |[],h=>simp[eG]at h
       |[_],h=>simp[eG]at h
       |e::d::r,h =>
        simp only[eG]at h
        split at h
        ·rename_i V;have l:=eq_of_beq V
         split at h
         ·rename_i n;obtain⟨g,W⟩:=wQ n
          split at h
          ·rename_i A;have I:=eq_of_beq A
           cases r with
           |nil=>simp[load]at h
           |cons v r =>
            simp only[load]at h
            split at h
            ·rename_i y;exact xF (x1 ⟨c,v,r,by rw[l,I],n,y,h⟩)
            ·simp at h
          ·have D:∀k,step {JR.zero with dest:=(aS c).1} k r=(u,Y)->d=CC/\k=2\/d=DZ/\k=3->∃d0 c0 k p v r0,c::e::d::r=d0::[61]::c0::p::v::r0/\(aS d0).2=Y/\(c0=CC/\k=2\/c0=DZ/\k=3)/\(cR p).2=Y/\(aO v).2=Y/\dI (Dj d0 p v k) r0=(u,Y):=fun k j H=>by
            match r,j with
            |[],j=>simp[step]at j
            |[_],j=>simp[step]at j
            |p::v::r,j =>
             simp only[step]at j
             split at j
             ·rename_i t;simp only[MI]at t j
              split at t
              ·rename_i y;rw[if_pos y]at j;exact⟨c,d,k,p,v,r,by rw[l],n,H,y,t,j⟩
              ·simp at t
             ·simp at j
           split at h
           ·rename_i A;exact xF (xF (x1 (D 2 h (x1 ⟨eq_of_beq A,Z⟩))))
           ·split at h
            ·rename_i A;exact xF (xF (x1 (D 3 h (xF ⟨eq_of_beq A,Z⟩))))
            ·refine xF (xF (xF (xF ?_)));have m:∃z w q,c::e::d::r=(z::w)::q/\z≠115/\z≠116/\z≠102/\(z::w=Di\/(z::w).length<=3):=⟨114,[g],_,by rw[W],by decide,by decide,by decide,xF (by simp)⟩
             match r,h with
             |[],h =>
              simp only[sum]at h
              split at h
              ·rename_i O;simp only[Prod.mk.injEq]at h;refine⟨m,fun x f=>?_,fun x f=>?_,by rw[<- h.1];exact⟨show OL 6=G by decide,show(6:Int)≠4 by decide⟩⟩;simp at f
               rcases f with rfl|rfl
               ·rw[l];simp
               ·exact yA O
               simp at f
               rcases f with rfl|rfl
               ·rw[l];intro c e;rw[<- (List.cons.inj e).1];decide
               ·exact zJ O
              ·simp at h
             |[_],h=>simp[sum]at h
             |[s,b],h =>
              simp only[sum]at h
              split at h
              ·rename_i K
               split at h
               ·rename_i B;simp only[Prod.mk.injEq]at h;have j:(cX s).1=7\/(cX s).1=8\/(cX s).1=9:=by
                 unfold cX at B⊢
                 repeat' split at B
                 all_goals first
                  |(simp at B;done)
                  |(rename_i S;have T:=eq_of_beq S;subst T;decide)
                refine⟨m,fun x f=>?_,fun x f=>?_,?_⟩
                ·simp at f
                 rcases f with rfl|rfl|rfl|rfl
                 ·rw[l];simp
                 ·exact yA K
                 ·exact Np B
                 ·exact yA h.2
                ·simp at f
                 rcases f with rfl|rfl|rfl|rfl
                 ·rw[l];intro c e;rw[<- (List.cons.inj e).1];decide
                 ·exact zJ K
                 ·exact Tk B
                 ·exact zJ h.2
                ·rw[<- h.1];show OL (cX s).1=G/\(cX s).1≠4
                 rcases j with F|F|F<;>rw[F]<;>decide
               ·simp at h
              ·simp at h
             |_::_::_::_,h=>simp[sum]at h
         ·simp at h
        ·simp at h
end P
namespace Q
section
variable {q:Nat}{F:Ev}{m m':Ex}{st:P.JR}
end
end Q
namespace P
structure LP(r:Rd):Prop where
 i:0<=r.i
 thr:∀t∈r.H,0<t.i
 st:∀t∈r.H,∀s∈t.S,0<s.i
theorem Dk{s:JR}(e:0<s.i):∀{x:List JV},(∀t∈x,0<t.i)->(∀t∈x,∀s∈t.S,0<s.i)->(∀t∈eR x s,0<t.i)/\∀t∈eR x s,∀u∈t.S,0<u.i
 |[],_,_=>⟨fun t c=>by simp[eR]at c,fun t c=>by simp[eR]at c⟩
 |[a],h1,h2=>by
  refine⟨fun t c=>?_,fun t c u d=>?_⟩
  ·simp[eR]at c;rw[c];exact h1 a (by simp)
  ·simp[eR]at c;rw[c]at d
   rcases List.mem_append.1 d with d|d
   ·exact h2 a (by simp) u d
   ·rw[x2]at d;rw[d];exact e
 |a::b::x,h1,h2=>by
  obtain⟨f,g⟩:=Dk e (x:=b::x) (fun t c=>h1 t (x5 _ c)) fun t c=>h2 t (x5 _ c);refine⟨fun t c=>?_,fun t c u d=>?_⟩
  ·rcases List.mem_cons.1 c with rfl|c
   ·exact h1 t (by simp)
   ·exact f t c
  ·rcases List.mem_cons.1 c with rfl|c
   ·exact h2 t (by simp) u d
   ·exact g t c u d
theorem Tm(k:r.most=8)(p:0<r.i)(m:LP r)(h:MD r ws=(r1,Y)):LP r1/\r1.i=r.i/\r1.most=8/\r1.H≠[]:=by
 have A:=tC r ws k;rw[h]at A;have j:∀(o:List Int) (i c:Int) (s:JR),0<s.i->r.H≠[]->LP (put {r with O:=o,I:=i,count:=c} s)/\(put {r with O:=o,I:=i,count:=c} s).H≠[]:=fun o i c s x g=>by
  obtain⟨D,F⟩:=Dk x m.thr m.st;refine⟨⟨m.i,D,F⟩,fun e=>g ?_⟩;have:=uO r.H s;have y:eR r.H s=[]:=e;rw[y]at this;exact List.eq_nil_of_length_eq_zero this.symm
 rcases xH k h with⟨c,rfl,K,d⟩|⟨n,x,d,c,q,rfl,J⟩
 ·unfold fB at d
  split at d
  ·simp at d
  ·simp only[Prod.mk.injEq,and_true]at d;rw[<- d];refine⟨⟨m.i,fun t f=>?_,fun t f u v=>?_⟩,Z,k,by simp⟩
   ·rcases List.mem_append.1 f with f|f
    ·exact m.thr t f
    ·rw[x2]at f;rw[f];exact p
   ·rcases List.mem_append.1 f with f|f
    ·exact m.st t f u v
    ·rw[x2]at f;rw[f]at v;simp at v
 ·unfold cZ at d
  split at d
  ·simp at d
  ·rename_i z;have g:r.H≠[]:=by simpa using z
   split at d
   ·unfold ends at d
    split at d
    ·simp at d
    ·rename_i l B;simp only[Prod.mk.injEq,and_true]at d;rw[<- d];obtain⟨a,b⟩:=j r.O.dropLast r.I r.count {n with i:=r.i,label:=l} p g;exact⟨a,Z,k,b⟩
   ·split at d
    ·simp at d
    ·split at d
     ·split at d
      ·simp at d
      ·unfold gI at d
       split at d
       ·simp at d
       ·simp only[Prod.mk.injEq,and_true]at d;rw[<- d];obtain⟨a,b⟩:=j (r.O++[r.I+1]) (r.I+1) (r.count+1) {n with i:=r.i,label:=r.I+1} p g;exact⟨a,Z,k,b⟩
     ·simp only[Prod.mk.injEq,and_true]at d;rw[<- d];obtain⟨a,b⟩:=j r.O r.I (r.count+1) {n with i:=r.i} p g;exact⟨a,Z,k,b⟩
theorem Dl:∀(a:List (List UInt8)) {r r1:Rd},r.most=8->LP r->LZ r a=(r1,Y)->LP r1/\r1.most=8/\(a≠[]->r1.H≠[])
 |[],r,r1,hm,hr,h=>by
  simp[LZ]at h;subst h;exact⟨hr,hm,fun c=>absurd Z c⟩
 |x::a,r,r1,hm,hr,h=>by
  simp only[LZ]at h
  split at h
  ·rename_i b;have l:=hr.i;obtain⟨g,m,j,k⟩:=Tm (r:={r with i:=r.i+1}) hm (by show 0<r.i+1;omega) ⟨by show 0<=r.i+1;omega,hr.thr,hr.st⟩ (by rw[<- b]);obtain⟨d,e,f⟩:=Dl a j g h;refine⟨d,e,fun _=>?_⟩;by_cases c:a=[]
   ·subst c;simp[LZ]at h;rw[<- h];exact k
   ·exact f c
  ·simp at h
theorem Tn{d:Int}:∀{l:List JR} {n:Int},(∀s∈l,0<s.i)->MC d l=U n->0<n:=by
 intro l
 induction l generalizing d with
 |nil=>intro n _ h;simp[MC]at h
 |cons a l ih =>
  intro n c h;have b:∀s∈l,0<s.i:=fun s e=>c s (x5 _ e)
  rw[MC]at h
  split at h
  ·exact ih b h
  ·split at h
   ·exact ih b h
   ·split at h
    ·split at h
     ·rw[<- Option.some.inj h];exact c a (by simp)
     ·exact ih b h
    ·exact ih b h
theorem Dm:∀{c:List JV},(∀t∈c,∀s∈t.S,0<s.i)->fV c=0->∀t∈c,(MC 0 t.S).isNone=Y
 |[],_,_,t,b=>by simp at b
 |a::c,hl,h,t,b=>by
  rw[fV]at h
  cases hi:MC 0 a.S with
  |some n =>
   rw[hi]at h;have:=Tn (hl a (by simp)) hi;simp only at h;omega
  |none =>
   rw[hi]at h
   rcases List.mem_cons.1 b with rfl|b
   ·rw[hi];rfl
   ·exact Dm (fun u d=>hl u (x5 _ d)) h t b
def OU(x:List UInt8):Bool:=(KD 32 x).head?==U eM
abbrev Row:=List UInt8
structure GOk(g:List Row):Prop where
 is:∃x body,g=x::body/\OU x=Y/\∀y∈body,OU y=G
theorem DB{α β:Type}{R:α->β->Prop}(c:α)(d:β):∀{x:List α} {y:List β},gH R x y->∀k,k<N x->R (x.getD k c) (y.getD k d)
 |[],[],_,k,h=>by simp at h
 |a::x,b::y,h,0,_=>h.1
 |a::x,b::y,h,k+1,hk=>by
  have:=DB c d h.2 k (by simpa using hk);simpa using this
 |[],b::y,h,_,_=>by simp[gH]at h
 |a::x,[],h,_,_=>by simp[gH]at h
theorem Dn(p:JR->Bool)(c:∀(s:JR) (l b:Int),p {s with i:=l,label:=b}=p s):∀{x y:List JR},PB x y->JU p y=JU p x
 |[],[],_=>Z
 |a::x,b::y,h=>by rw[JU,JU,Dn p c h.2,h.1.eq,c]
 |[],b::y,h=>by simp[PB]at h
 |a::x,[],h=>by simp[PB]at h
theorem GI:∀{x y:List JR},PB x y->LF y=LF x
 |[],[],_=>Z
 |a::x,b::y,h=>by rw[LF,LF,GI h.2,show b.k=a.k by rw[h.1.eq]]
 |[],b::y,h=>by simp[PB]at h
 |a::x,[],h=>by simp[PB]at h
end P
namespace Q
section
variable {pi:Int->Int}{m:Ex}{s t:P.JR}
end
end Q
namespace P
theorem CB:∀x y:List (List UInt8),fS (x++y)=fS x++fS y
 |[],_=>Z
 |a::x,y=>by rw[x6,fS,fS,CB x y];simp
def rV{α:Type}:List (List α)->List α->List (List α)
 |[],_=>[]
 |[g],y=>[g++y]
 |g::h::r,y=>g::rV (h::r) y
theorem rN{α:Type}(g y:List α):∀c:List (List α),rV (c++[g]) y=c++[g++y]
 |[]=>Z
 |[a]=>Z
 |a::b::c=>by
  have:=rN g y (b::c);rw[x6,x6,rV,x6];rw[x6]at this;rw[this]
def ptS(acc:List (List UInt8))(x:Row):List (List UInt8):=rV (if kT x eM then acc++[[]]else acc) (x++[10])
def kI(acc:List (List Row))(x:Row):List (List Row):=if OU x then acc++[[x]]else rV acc [x]
theorem Dp(l:List α)(h:l≠[]):∃a b,l=a++[b]:=⟨l.dropLast,l.getLast h,(xi h).symm⟩
theorem Tp(d:List (List Row))(x:Row)(h:kT x eM=OU x):ptS (d.map fS) x=(kI d x).map fS:=by
 unfold ptS kI;rw[h]
 cases c:OU x
 ·simp only[xj,if_false];by_cases e:d=[]
  ·rw[e];rfl
  ·obtain⟨a,b,rfl⟩:=Dp d e;rw[x0,x3,x4,rN,rN,x0,x3,x4,CB];rfl
 ·simp only[if_true];rw[rN,x0];rfl
theorem Dq:∀(b:List Row) (a:List (List Row)),(∀x∈b,kT x eM=OU x)->b.foldl ptS (a.map fS)=(b.foldl kI a).map fS
 |[],_,_=>Z
 |x::b,a,h=>by
  rw[x8,x8,Tp a x (h x (by simp))];exact Dq b _ fun y c=>h y (x5 _ c)
theorem Dr{acc:List (List Row)}{x:Row}(h:∀g∈acc,GOk g)(m:acc≠[]\/OU x=Y):(∀g∈kI acc x,GOk g)/\(kI acc x).flatten=acc.flatten++[x]/\kI acc x≠[]:=by
 unfold kI
 cases c:OU x
 ·simp only[xj,if_false];have j:acc≠[]:=m.elim id (fun e=>by rw[c]at e;cases e);obtain⟨a,b,rfl⟩:=Dp acc j;rw[rN];refine⟨fun g d=>?_,by simp,by simp⟩
  rcases List.mem_append.1 d with d|d
  ·exact h g (xm _ d)
  ·rw[x2]at d;rw[d];obtain⟨y,i,e,k,l⟩:=(h b (by simp)).is;refine⟨y,i++[x],by rw[e];rfl,k,fun z f=>?_⟩
   rcases List.mem_append.1 f with f|f
   ·exact l z f
   ·rw[x2]at f;rw[f];exact c
 ·simp only[if_true];refine⟨fun g d=>?_,by simp,by simp⟩
  rcases List.mem_append.1 d with d|d
  ·exact h g d
  ·rw[x2]at d;rw[d];exact⟨x,[],Z,c,fun y k=>by simp at k⟩
theorem Ds:∀(b:List Row) (a:List (List Row)),(∀g∈a,GOk g)->a≠[]->(∀g∈b.foldl kI a,GOk g)/\(b.foldl kI a).flatten=a.flatten++b
 |[],a,h,_=>⟨h,by simp⟩
 |x::b,a,h,hne=>by
  obtain⟨c,d,e⟩:=Dr (x:=x) h (x1 hne);obtain⟨f,i⟩:=Ds b _ c e;rw[x8];exact⟨f,by rw[i,d];simp⟩
theorem Dt{x:Row}(B:r.most=8)(h:MD r (KD 32 x)=(r1,Y)):kT x eM=OU x/\(r.H=[]->OU x=Y):=by
 have o:=yB 32 x
 rcases xH B h with⟨c,j,n,m⟩|⟨K,u,m,c,q,j,A⟩
 ·have l:OU x=Y:=by unfold OU;rw[j];rfl
  refine⟨?_,fun _=>l⟩;rw[l];rw[j]at o;rw[<- o];rfl
 ·have l:OU x=G:=by
   unfold OU;rw[j];rw[List.head?_cons,beq_eq_false_iff_ne];intro e;exact(beq_eq_false_iff_ne.1 A) (Option.some.inj e)
  refine⟨?_,fun e=>?_⟩
  ·rw[l];rw[j]at u o;have f:∃a w,c=a::w/\a≠116:=by
    rcases Tl u with⟨p,v,r,e,_⟩|⟨d,v,r,e,n,_⟩|⟨d,I,k,p,v,r,e,n,_⟩|⟨r,e,_⟩|D
    ·rw[(List.cons.inj e).1];exact⟨115,_,Z,by decide⟩
    ·obtain⟨g,t⟩:=wQ n;rw[(List.cons.inj e).1,t];exact⟨114,_,Z,by decide⟩
    ·obtain⟨g,t⟩:=wQ n;rw[(List.cons.inj e).1,t];exact⟨114,_,Z,by decide⟩
    ·rw[(List.cons.inj e).1];exact⟨102,_,Z,by decide⟩
    ·obtain⟨a,w,J,e,_,i,_⟩:=D.head;rw[(List.cons.inj e).1];exact⟨a,w,Z,i⟩
   obtain⟨a,w,rfl,z⟩:=f;have F:∃y,x=a::y:=by
    rw[<- o]
    cases q with
    |nil=>exact⟨w,Z⟩
    |cons b q=>exact⟨_,Z⟩
   obtain⟨y,rfl⟩:=F;unfold kT;rw[Bool.and_eq_false_iff];refine xF ?_;rw[beq_eq_false_iff_ne];intro e;simp only[xd,List.take_succ_cons]at e;exact z (List.cons.inj e).1
  ·unfold cZ at m;rw[if_pos (by rw[e];rfl)]at m;simp at m
theorem Du:∀(b:List Row) {r r1:Rd},r.most=8->LZ r b=(r1,Y)->∀x∈b,kT x eM=OU x
 |[],_,_,_,_,x,a=>by simp at a
 |y::b,r,r1,hm,h,x,a=>by
  simp only[LZ]at h
  split at h
  ·rename_i c;have e:MD {r with i:=r.i+1} (KD 32 y)=((MD {r with i:=r.i+1} (KD 32 y)).1,Y):=by rw[<- c]
   rcases List.mem_cons.1 a with rfl|a
   ·exact(Dt (r:={r with i:=r.i+1}) hm e).1
   ·exact Du b (tC {r with i:=r.i+1} (KD 32 y) hm).2 h x a
  ·simp at h
theorem Dv{a:List Row}(h:LZ Rd.zero a=(r1,Y))(b:r1.H≠[]):(∀g∈a.foldl kI [],GOk g)/\(a.foldl kI []).flatten=a/\a.foldl kI []≠[]/\a.foldl ptS []=(a.foldl kI []).map fS:=by
 have l:=Dq a [] (Du a Z h)
 cases a with
 |nil=>simp[LZ]at h;rw[<- h]at b;exact absurd Z b
 |cons x a =>
  have o:OU x=Y:=by
   simp only[LZ]at h
   split at h
   ·rename_i n;exact(Dt (r:={Rd.zero with i:=Rd.zero.i+1}) Z (by rw[<- n])).2 Z
   ·simp at h
  obtain⟨f,c,j⟩:=Dr (acc:=[]) (x:=x) (fun g m=>by simp at m) (xF o);obtain⟨k,d⟩:=Ds a _ f j;refine⟨k,by rw[x8,d,c];rfl,fun e=>?_,l⟩;have:=d;rw[x8]at e;rw[e,c]at this;simp at this
theorem Tq{a b:List Int}{k:Nat}(d:k<N a)(c:k<N b)(h:a.take k=b.take k)(e:a.getD k 0=b.getD k 0):a.take (k+1)=b.take (k+1):=by
 rw[xe d,xe c,h];rw[eI a k d,eI b k c]at e;rw[e]
end P
theorem Dw(J K:Value)(a b:List Int)(w:World)(S:ME w J a)(T:ME w K b)(W:N a<1000):
  Calls prog 29 #[J,K] w fun e w'=>e=.returned (.bool (a==b))/\Below (M (L w)) w w':=by
 obtain⟨xa,ca,rfl,v⟩:=S.form;obtain⟨xb,cb,rfl,z⟩:=T.form;by_cases hlen:N a=N b
 ·have f:(N a:Int)=(N b:Int):=by omega
  have X:((N a:Int) != (N b:Int))=G:=by simp[f]
  have B:=JO hlen;go_enter func29,ntmps29;go_wp2;go_loopw[5] (fun j wr=>∃k:Nat,k<=N a/\j=.int .i64 k/\JP (a.take k=b.take k)/\Below (M (L w)) w wr) fun j _=>N a-(intOf j).toNat
  case atStart=>exact⟨0,xg _,Z,Z,x9 _ _⟩
  case round =>
   obtain⟨k,hk,rfl,A,c⟩:=hrel;by_cases hlt:k<N a
   ·have V:(k:Int)<(N a:Int):=by omega
    have d:k<N b:=by have:=B.o;omega
    have I:(k:Int)<(N b:Int):=by omega
    obtain⟨D,rfl,q,m⟩:=v (by omega);obtain⟨F,rfl,t,n⟩:=z (by omega);have d1:wr.cell? ⟨D,k,E⟩=U (.int .i64 (a.getD k 0)):=by rw[eI a k hlt];exact(c.cell (p:=⟨D,k,E⟩) q).trans (m k hlt)
    have d2:wr.cell? ⟨F,k,E⟩=U (.int .i64 (b.getD k 0)):=by rw[eI b k d];exact(c.cell (p:=⟨F,k,E⟩) t).trans (n k d)
    have O:=JO (Tq hlt d A.o);have l:JP (a.getD k 0≠b.getD k 0->(a==b)=G):=fun h=>by
     rw[beq_eq_false_iff_ne];intro e;exact h (by rw[e])
    generalize a.getD k 0=x at*;generalize b.getD k 0=y at*
    cases hz:x != y
    ·have i:JP (a.take (k+1)=b.take (k+1)):=O.o (by simpa using hz);go_wp2;go_quiet (fail)
     all_goals
      go_wp2;go_roundw
      case rel=>exact⟨k+1,by omega,by go_num,i,c.trans (dO _ _ _)⟩
      case measure=>simp[intOf];omega
    ·have i:JP ((a==b)=G):=l.o (by simpa using hz);go_wp2;go_quiet (fail)
     all_goals
      go_wp2;go_ret;rw[i.o];exact⟨Z,c.trans (dO _ _ _)⟩
   ·have u:k=N a:=by omega
    subst u;have g:JP ((a==b)=Y):=by
     have H:=A.o;rw[xk (x7 _),B.o,xk (x7 _)]at H;unfold JP;rw[H];simp
    go_wp2;go_ret;rw[g.o];exact⟨Z,c⟩
 ·have X:((N a:Int) != (N b:Int))=Y:=by simp;omega
  have g:JP ((a==b)=G):=by
   unfold JP;rw[beq_eq_false_iff_ne];intro e;exact hlen (by rw[e])
  go_enter func29,ntmps29;go_wp2;go_ret;rw[g.o];exact⟨Z,x9 _ _⟩
theorem Dx(B:Nat)(v S:Value)(a:List (List Int))(n:List Value)(r:List Int)(w:World)(h:LA w B v a n)(hr:ME w S r)(hs:∀x∈a,N x<1000)(hn:N a<100000000):
  Calls prog 15 #[v,S] w fun e w'=>e=.returned (.bool (a.contains r))/\Below (M (L w)) w w':=by
 obtain⟨xa,ca,rfl,F⟩:=h.form;have I:=JO h;have W:=JO hr;have V:=JO hs;go_enter func15,ntmps15;go_wp2;go_loopw[5] (fun j wr=>∃k:Nat,k<=N a/\j=.int .i64 k/\JP ((a.take k).contains r=G)/\JP (Below (M (L w)) w wr)) fun j _=>N a-(intOf j).toNat
 case atStart=>exact⟨0,xg _,Z,by simp[JP],x9 _ _⟩
 case round =>
  obtain⟨k,hk,rfl,H,HB⟩:=hrel;by_cases hlt:k<N a
  ·have aa:(k:Int)<(N a:Int):=by omega
   obtain⟨b,rfl,hB,hb,D⟩:=F (by omega);have l:k<N n:=by rw[I.o.len];exact hlt
   have cu:=(HB.o.cell (p:=⟨b,k,E⟩) hb).trans (D k l);have K:=JO ((I.o.y k hlt n[k] (xn l)).X HB.o);have i:=JO (W.o.X HB.o);have g:=JO (V.o a[k] (xo hlt));have J:JP (∀q,(a[k]==r)=q->(a.take (k+1)).contains r=q):=fun q f=>by
    rw[xe hlt];have m:=H.o;rw[Bool.eq_iff_iff,xl,List.mem_append,x2,<- f,beq_iff_eq];constructor
    ·rintro(c|c)
     ·rw[<- xl,m]at c;cases c
     ·exact c.symm
    ·exact fun c=>xF c.symm
   have A:JP ((a.take (k+1)).contains r=Y->a.contains r=Y):=fun c=>by
    rw[xl]at c⊢;exact List.mem_of_mem_take c
   generalize n[k]=u at*;generalize a[k]=x at*
   cases f:x==r
   ·have z:=JO (J.o G f);go_wp2_with(first
     |(go_at_call 29;refine(Dw _ _ x r _ K.o i.o g.o).mono ?_;rw[f];rintro e w1 ⟨rfl,d⟩;have t:=JO (JW HB.o (x7 _) d)))
    go_roundw
    case rel=>exact⟨k+1,by omega,by go_num,z,t⟩
    case measure=>simp[intOf];omega
   ·have z:=JO (A.o (J.o Y f));go_wp2_with(first
     |(go_at_call 29;refine(Dw _ _ x r _ K.o i.o g.o).mono ?_;rw[f];rintro e w1 ⟨rfl,d⟩;have t:=JO (JW HB.o (x7 _) d)))
    go_ret;rw[z.o];exact⟨Z,t.o⟩
  ·have O:decide ((k:Int)<(N a:Int))=G:=decide_eq_false (by omega);have T:JP (a.contains r=G):=by
    have m:=H.o;rw[xk (by omega)]at m;exact m
   go_wp2;go_ret;rw[T.o];exact⟨Z,HB.o⟩
theorem yV{w:World}{B n f:Nat}{t:TypeId}{v:Value}{i:List Value}(h:w.ownsRow B t f v n i):∃a c,v=.slice a n c:=by
 rcases h.2 with⟨e,d⟩|⟨j,c,b,e,_⟩
 ·exact⟨E,0,by rw[e,d]⟩
 ·exact⟨_,c,e⟩
theorem Dy(l:List α)(a b:α):(l++[a]).set (N l) b=l++[b]:=by
 induction l with
 |nil=>rfl
 |cons c l ih=>rw[x6,xd,List.set_cons_succ,ih];rfl
theorem Dz(l:List α)(a:α):(l++[a])[N l]?=U a:=by simp
theorem Ts(s:ByteArray)(w:World)(hs:s.size<=8192):
  Calls prog 9 #[C s] w fun e w'=>∃v,∃ws:List ByteArray,e=.returned v/\ws.map xR=(KD 10 s.toList).dropLast.foldl ptS []/\(∀b∈ws,b.size<=100000000)/\w'.ownsRow (M (L w)) 9 1 v (N ws) (ws.map xW)/\Below (M (L w)) w w':=by
 obtain⟨i0,hi,aG,aH,aI⟩:=info_parts Tryz.infoStr;have HI:=JO hi;have am:=JO aG;have an:=JO aH;have ao:=JO aI;go_enter func9,ntmps9;go_upto_region 2 with(first
  |(go_at_call_of 10 (xW s);refine(SV s _ (by omega)).mono ?_;rintro e i ⟨v,ws,rfl,aE,aF,W,ar⟩;have ad:=JO aE;have al:=JO aF;have O:=JO W;have B1:=JO ar;obtain⟨va,vc,hv⟩:=yV W;subst hv))
 have aO:N ws<=8192:=by
  have h6:=congrArg List.length ad.o;rw[xc,List.length_dropLast]at h6;have h7:=wM 10 s.toList;rw[MS]at h7;omega
 go_upto_region 4 with fail
 go_loopw[4,5] (fun ov iv wr=>∃(j:Nat) (c:List ByteArray) (v':Value),ov=v'/\j<=N ws/\iv=.int .i64 (j:Int)/\N c<=j/\JP (c.map xR=((ws.take j).map xR).foldl ptS [])/\JP (∀b∈c,b.size<=j*9000)/\JP (wr.ownsRow (M (L i)) 9 1 v' (N c) (c.map xW))/\JP (Below (M (L i)) i wr)) fun _ iv _=>N ws-(intOf iv).toNat
 case atStart=>exact⟨0,[],_,Z,xg _,Z,x7 _,Z,fun b hb=>by simp at hb,World.ownsRow_nil _ _ _ _,x9 _ _⟩
 case round =>
  obtain⟨j,c,v',ac,hj,rfl,af,HS,HZ,K,HB⟩:=hrel;have ac:=ac.symm;subst ac;by_cases hlt:j<N ws
  ·have aL:(j:Int)<(N ws:Int):=by omega
   obtain⟨T,aB⟩:∃T,va=U ⟨T,0,E⟩:=by
    rcases O.o.2 with⟨e1,J⟩|⟨T,c2,aq,e1,_⟩
    ·omega
    ·simp only[Value.slice.injEq]at e1;exact⟨T,e1.1⟩
   subst aB;have ae:=O.o.cellAt j (by omega);simp only[List.getElem?_map,xn hlt,Option.map_some]at ae;have ai:=(O.o.lt T Z).2;have cj:=JS HB.o ai ae;have aJ:=Nat.lt_of_lt_of_le ai HB.o.size;have S:JP (((ws.take (j+1)).map xR).foldl ptS []=rV (if kT ws[j].toList eM then c.map xR++[[]]else c.map xR) (ws[j].toList++[10])):=by
    unfold JP;rw[xe hlt,x0,List.foldl_append,<- HS.o];rfl
   have aP:ws[j].size<=8192:=Nat.le_trans (al.o _ (xo hlt)) hs;generalize ws[j]=x at*;obtain⟨q,zq⟩:∃q,kT x.toList eM=q:=⟨_,Z⟩;have HQ:JP (kT x.toList (⟨#[116,104,114,101,97,100]⟩:ByteArray).toList=q):=by unfold JP;rw[show(⟨#[116,104,114,101,97,100]⟩:ByteArray).toList=eM from eK _];exact zq
   rw[zq]at S;go_upto_region 7 with(first
    |(go_at_call 20;refine(Hi x _ _).mono ?_;rintro e I ⟨rfl,aD⟩;subst aD;rw[HQ.o]))
   cases q
   ·by_cases hbs:c=[]
    ·subst hbs;have A:JP (([]:List ByteArray).map xR=((ws.take (j+1)).map xR).foldl ptS []):=by unfold JP;rw[S.o];rfl
     obtain⟨oa,oc,az⟩:=yV K.o;subst az;go_wp2;go_roundw
     case rel=>exact⟨j+1,[],_,Z,by omega,by go_num,by simp,A,fun y f=>by simp at f,K,HB⟩
     case measure=>simp[intOf];omega
    ·obtain⟨a,b,aw⟩:∃a b,c=a++[b]:=⟨c.dropLast,c.getLast hbs,(xi hbs).symm⟩;subst aw;have ah:(a++[b]).length=N a+1:=by simp
     rw[ah]at K af;obtain⟨g,l,aC⟩:∃g l,v'=JQ g (N a+1) l:=by
      rcases K.o.2 with⟨_,e1⟩|⟨g,c2,aq,e1,_⟩
      ·omega
      ·exact⟨g,c2,e1⟩
     subst aC;have d:=K;have cl:=cj;have z:=HB;have av:b.size<=j*9000:=HZ.o b (by simp);have H:JP (∀y∈a,y.size<=j*9000):=fun y f=>HZ.o y (xm _ f)
     have A:JP ((a++[b++x++⟨#[10]⟩]).map xR=((ws.take (j+1)).map xR).foldl ptS []):=by
      unfold JP;rw[S.o];simp only[xj,if_false];rw[x0,x0,x3,x4,x3,x4,rN,gD,gD,show(⟨#[10]⟩:ByteArray).toList=[10]from eK _,List.append_assoc]
     have co:I.cell? ⟨g,N a,E⟩=U (C b):=by
      have J:=d.o.cellAt (N a) (by omega);rw[J,x0,x3,x4];have:=Dz (a.map xW) (C b);rw[xc]at this;exact this
     have fo:I.frozen? ⟨g,N a,E⟩=G:=d.o.frozenAt (N a);have B:JP (M (L i)<=g):=(d.o.lt g Z).1;have ax:(N a:Int)<(N a:Int)+1:=by omega
     have ay:(0:Int)<=(N a:Int):=by omega
     have au:(b.size:Int)<=100000000:=by omega
     have F:JP ((I.setCell ⟨g,N a,E⟩ (C (b++x++⟨#[10]⟩))).ownsRow (M (L i)) 9 1 (JQ g (N a+1) l) (N a+1) ((a++[b++x++⟨#[10]⟩]).map xW)):=by
      have J:=(d.o.stored (N a) (C (b++x++⟨#[10]⟩))).1;rw[x0,x3,x4]at J⊢;have h8:=Dy (a.map xW) (C b) (C (b++x++⟨#[10]⟩));rw[xc]at h8;rw[h8]at J;exact J
     have n:JP (Below (M (L i)) i (I.setCell ⟨g,N a,E⟩ (C (b++x++⟨#[10]⟩)))):=z.o.setCell B.o _;have X:JP (∀y∈a++[b++x++⟨#[10]⟩],y.size<=(j+1)*9000):=fun y f=>by
      rcases List.mem_append.1 f with f|f
      ·have:=H.o y f;omega
      ·rw[x2]at f;rw[f,xh,xh,show(⟨#[10]⟩:ByteArray).size=1 from rfl];omega
     have D:JP ((a++[b++x++⟨#[10]⟩]).length=N a+1):=by unfold JP;simp
     go_upto_region 11 with fail
     go_region;go_wp2;go_roundw
     case rel=>exact⟨j+1,a++[b++x++⟨#[10]⟩],_,Z,by omega,by go_num,by rw[D.o];omega,A,X,by unfold JP;rw[D.o];exact F.o,by first|exact n|exact n.o.drew|exact(z.o.drew).setCell B.o _⟩
     case measure=>simp[intOf];omega
   ·have ak:JP ((I.alloc (.cells #[C ⟨#[]⟩] 9)).ownsRow (M (L i)) 9 1 v' (N c) (c.map xW)):=K.o.alloc _;have aj:JP (∀y u,[xW ⟨#[]⟩][y]?=U u->(I.alloc (.cells #[C ⟨#[]⟩] 9)).cell? ((⟨M (L I),0,E⟩:Addr).add y)=U u):=World.news_of_block (cs:=#[C ⟨#[]⟩]) (t:=9) (fr:=(0,0)) (heap_alloc_new I _);have aA:=HB.o.size;go_upto_region 9 with(first
     |(at_builtin;refine wpList_append_lies _ Z (.tmp 22) (.tmp 23) 39 Z (M (L i)) 9 i0 (C ByteArray.empty) 1 16 underlying39 HI.o am.o an.o ao.o Z (by decide) _ (N c) (c.map xW) Z (by exact ak.o) ⟨M (L I),0,E⟩ 1 1 [C ⟨#[]⟩] Z Z (by exact aj.o) (by simp[Value.oneCell']) (by decide) (by unfold maxLen;omega) (by omega) (by simp;omega) _ Z ?_;intro g l w3 ab k aK aa))
    have z:JP (Below (M (L i)) i w3):=(HB.o.alloc HB.o.size _).grown k (by have:=HB.o.size;simp;omega) fun y f=>(K.o.lt y f).1;obtain⟨a,m⟩:∃a,a=c:=⟨_,Z⟩;obtain⟨b,V⟩:∃b:ByteArray,b=⟨#[]⟩:=⟨_,Z⟩;have d:JP (w3.ownsRow (M (L i)) 9 1 (JQ g (N a+1) l) (N a+1) ((a++[b]).map xW)):=by
     unfold JP;rw[m,V,x0];exact ab
    have aN:=O.o.cellAt j (by omega);have cl:w3.cell? ⟨T,j,E⟩=U (C x):=by
     rw[k.cell_far ⟨T,j,E⟩ (by simp;omega) fun e=>by have:=(K.o.lt T e.symm).1;omega];exact(Below.cell ((x9 (M (L I)) I).alloc (x7 _) _) (p:=⟨T,j,E⟩) aJ).trans cj
    have av:b.size<=j*9000:=by rw[V];exact xg _
    have H:JP (∀y∈a,y.size<=j*9000):=by rw[m];exact HZ
    have A:JP ((a++[b++x++⟨#[10]⟩]).map xR=((ws.take (j+1)).map xR).foldl ptS []):=by
     unfold JP;rw[S.o];simp only[if_true];rw[m,rN,x0,x3,x4,gD,gD,show(⟨#[10]⟩:ByteArray).toList=[10]from eK _,V,show(⟨#[]⟩:ByteArray).toList=[]from eK _];rfl
    rw[<- m]at af;rw[<- m];clear m V aa aA;have co:w3.cell? ⟨g,N a,E⟩=U (C b):=by
     rw[d.o.cellAt (N a) (by omega),x0,x3,x4];have:=Dz (a.map xW) (C b);rw[xc]at this;exact this
    have fo:w3.frozen? ⟨g,N a,E⟩=G:=d.o.frozenAt (N a);have B:JP (M (L i)<=g):=(d.o.lt g Z).1;have ax:(N a:Int)<(N a:Int)+1:=by omega
    have ay:(0:Int)<=(N a:Int):=by omega
    have au:(b.size:Int)<=100000000:=by omega
    have F:JP ((w3.setCell ⟨g,N a,E⟩ (C (b++x++⟨#[10]⟩))).ownsRow (M (L i)) 9 1 (JQ g (N a+1) l) (N a+1) ((a++[b++x++⟨#[10]⟩]).map xW)):=by
     have J:=(d.o.stored (N a) (C (b++x++⟨#[10]⟩))).1;rw[x0,x3,x4]at J⊢;have h8:=Dy (a.map xW) (C b) (C (b++x++⟨#[10]⟩));rw[xc]at h8;rw[h8]at J;exact J
    have n:JP (Below (M (L i)) i (w3.setCell ⟨g,N a,E⟩ (C (b++x++⟨#[10]⟩)))):=z.o.setCell B.o _;have X:JP (∀y∈a++[b++x++⟨#[10]⟩],y.size<=(j+1)*9000):=fun y f=>by
     rcases List.mem_append.1 f with f|f
     ·have:=H.o y f;omega
     ·rw[x2]at f;rw[f,xh,xh,show(⟨#[10]⟩:ByteArray).size=1 from rfl];omega
    have D:JP ((a++[b++x++⟨#[10]⟩]).length=N a+1):=by unfold JP;simp
    go_upto_region 11 with fail
    go_region;go_wp2;go_roundw
    case rel=>exact⟨j+1,a++[b++x++⟨#[10]⟩],_,Z,by omega,by go_num,by rw[D.o];omega,A,X,by unfold JP;rw[D.o];exact F.o,by first|exact n|exact n.o.drew|exact(z.o.drew).setCell B.o _⟩
    case measure=>simp[intOf];omega
  ·have aM:decide ((j:Int)<(N ws:Int))=G:=decide_eq_false (by omega);have ag:j=N ws:=by omega
   have HF:JP (c.map xR=(KD 10 s.toList).dropLast.foldl ptS []):=by
    unfold JP;rw[HS.o,ag,List.take_length,ad.o]
   have hb:M (L w)<=M (L i):=B1.o.size;have ap:JP (∀b∈c,b.size<=100000000):=fun b hb=>by have:=HZ.o b hb;omega
   clear ag HS HZ;go_wp2;go_ret;exact⟨_,Z,c,HF.o,ap.o,PG K.o hb,JW B1.o (x7 _) HB.o⟩
end Go.Proofs.YtlikcongbhhpfaaGreatDoor
