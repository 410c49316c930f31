import Derived.Test.YtonodfjdiepglaaGreatDoorL34
import Derived.Test.YtonodfjdiepglaaGreatDoorL42
import Derived.Test.YtonodfjdiepglaaGreatDoorL07
set_option linter.unusedVariables false
set_option linter.unusedSimpArgs false
set_option maxHeartbeats 12800000
namespace Go.Proofs.YtonodfjdiepglaaGreatDoor
open Go Go.RowKit Go.Proofs.Tryz P Q R
set_option maxRecDepth 1000000
variable {a b:AS} {l:List UInt8} {i k n:Int} {w:World}
open Or renaming inr→xF
open Nat renaming le_refl→xR
open Bool renaming false_eq_true→xW,and_eq_true→x3
open List renaming mem_singleton→x1,getElem_mem→x2
namespace R
def nG (x:Lh):Bool:=x.op.toList==kAe.toList
def jF:List Th->Int
 | []=>0
 | t::r=>bM nG t.body+2*bM isB t.body+jF r
theorem kIz {c:List Th} (x:Tree) (h:c≠[]):pN c x≠[]:=by
 match c,h with
 | [t],_=>simp[pN]
 | t::u::r,_=>simp[pN]
theorem kKp {s:St} (x:Tree) (h:s.ts≠[]):(put s x).ts≠[]:=by
 unfold put
 split
 ·exact kIz x h
 ·exact h
theorem kJd (c:a.s.ts≠[]) (h:fO a l=some b):b.s.ts≠[]:=by
 unfold fO at h
 split at h
 ·cases h
 split at h
 ·split at h
  ·split at h
   ·injection h with h;rw[<- h];exact c
   ·cases h
  ·cases h
 ·split at h
  ·injection h with h;rw[<- h];exact kKp _ c
  ·cases h
theorem kHp (h:dG a i l=some b):b.s.ts≠[]:=by
 unfold dG at h
 split at h
 ·split at h
  ·injection h with h;rw[<- h];simp
  ·cases h
 ·split at h
  ·cases h
  ·rename_i c;have d:a.s.ts≠[]:=fun e=>c (by rw[e];rfl)
   split at h
   ·split at h
    ·injection h with h;rw[<- h];exact kKp _ d
    ·exact kJd d h
   ·exact kJd d h
theorem kJX (d:List (List UInt8)):∀ (a b:AS) (i:Int),(fZ a i d).1=some b->(fZ a i d).2=i+d.length/\(d≠[]->b.s.ts≠[]):=by
 induction d with
 | nil=>intro a b i _;exact⟨by simp[fZ],fun h=>absurd rfl h⟩
 | cons x d ih =>
  intro a b i h;simp only[fZ] at h ⊢
  cases hs:dG a (i+1) x with
  | none=>rw[hs] at h;simp at h
  | some c =>
   rw[hs] at h;simp only at h ⊢;have:=ih _ _ _ h;refine⟨by rw[this.1];simp;omega,fun _=>?_⟩;by_cases hx:d=[]
   ·subst hx;simp[fZ] at h;rw[<- h];exact kHp hs
   ·exact this.2 hx
theorem kJR (d:List (List UInt8)):∀ (a:AS) (i:Int),(fZ a i d).1=none->i<(fZ a i d).2:=by
 induction d with
 | nil=>intro a i h;simp[fZ] at h
 | cons x d ih =>
  intro a i h;simp only[fZ] at h ⊢
  cases hs:dG a (i+1) x with
  | none=>simp only;omega
  | some c =>
   rw[hs] at h;simp only at h ⊢;have:=ih _ _ h;omega
def qV (ts:List Th):List Th × Int × Int :=
 if 0<fK ts then ([],3,fK ts) else if !uP ts||decide (50<jF ts) then ([],4,0) else (ts,0,0)
def kCZ (l:List UInt8):List Th × Int × Int :=
 if 2000<l.length then ([],1,0)
 else match fZ AS.zero 0 (zMi 10 l).dropLast with
  | (none,i)=>([],2,i)
  | (some a,n)=>if (zMi 10 l).getLast?≠some []\/n=0\/a.s.opn≠[] then ([],2,n+1) else qV a.s.ts
end R
theorem zJo:∀ l:List Stm,evS l=cnt (fun s=>s.kind==4) l+2*cnt (fun s=>s.kind==5) l
 | []=>rfl
 | s::r=>by
  rw[evS,cnt,cnt,zJo r];by_cases h4:s.kind=4
  ·simp[h4];omega
  ·by_cases h5:s.kind=5
   ·simp[h5];omega
   ·simp[h4,h5]
theorem zLM {d:List R.Th} {e:List Thr} (h:eH n d e k):evT e=jF d:=by
 induction h using eH.eG with
 | nil=>rfl
 | cons f _ _ _ ih =>
  rw[evT,jF,ih,zJo];rw[f.cnt (fun s=>s.kind==4) nG (fun _ _ t=>t.fe) (fun g c=>by simp[c]) (fun g c=>by simp[c]) (fun a=>by simp[nG,tM,kAe,aP])];rw[<- zHk,zJf f]
theorem zKk (l:List UInt8):(kAz l).2=(kCZ l).2/\((kCZ l).2.1=0->∃ k,eH 0 (kCZ l).1 (kAz l).1 k):=by
 unfold kAz kCZ;by_cases hl:2000<l.length
 ·rw[if_pos hl,if_pos hl];exact⟨rfl,fun h=>by simp at h⟩
 rw[if_neg hl,if_neg hl];have E:=zLf (zMi 10 l).dropLast Rd.zeroA AS.zero 0 zJh rfl (by omega);have S:=kJX (zMi 10 l).dropLast AS.zero;have N:=kJR (zMi 10 l).dropLast AS.zero 0;have Z:(zMi 10 l).dropLast=[]->(kAS Rd.zeroA (zMi 10 l).dropLast).1.Ec=[]:=fun h=>by rw[h];rfl
 unfold zMr;generalize kAS Rd.zeroA (zMi 10 l).dropLast=q at E Z ⊢;have z:=fun H=>S H 0
 clear S;generalize fZ AS.zero 0 (zMi 10 l).dropLast=o at E z N ⊢;obtain⟨o,n⟩:=o;obtain⟨r,d⟩:=E
 cases o with
 | none =>
  have:=N rfl;simp only[] at r d this ⊢;have x:(n != 0)=true:=by simp;omega
  simp only[d,xW,if_false,r,x,if_true];exact⟨trivial,fun h=>by simp at h⟩
 | some s =>
  obtain⟨C,I⟩:=z s rfl;simp only[] at r d C ⊢;obtain⟨d,g⟩:=d;simp only[d,if_true];have B:q.1.Ec=[] ↔ n=0:=by
   constructor
   ·intro h;have:s.s.ts=[]:=List.length_eq_zero_iff.1 (by rw[<- g.rel.gU,h];rfl);have t:(zMi 10 l).dropLast=[]:=by
     by_cases t:(zMi 10 l).dropLast=[]
     ·exact t
     ·exact absurd this (I t)
    rw[C,t];rfl
   ·intro h;refine Z (List.length_eq_zero_iff.1 ?_);omega
  have J:0<=n:=by omega
  have A:=g.rel.fT;have m:q.1.opn=[] ↔ s.s.opn=[]:=by
   constructor
   ·intro h;exact List.length_eq_zero_iff.1 (by rw[<- A,h];rfl)
   ·intro h;exact List.length_eq_zero_iff.1 (by rw[A,h];rfl)
  by_cases hb:(zMi 10 l).getLast?≠some []\/n=0\/s.s.opn≠[]
  ·have c:(zMi 10 l).getLast?≠some []\/q.1.opn≠[]\/q.1.Ec=[]:=by
    rcases hb with h | h | h
    ·exact Or.inl h
    ·exact xF (xF (B.2 h))
    ·exact xF (Or.inl (fun e=>h (m.1 e)))
   rw[if_pos hb,if_pos c];have x:(n+1 != 0)=true:=by simp;omega
   simp only[r,x,if_true];exact⟨trivial,fun h=>by simp at h⟩
  ·have c:¬ ((zMi 10 l).getLast?≠some []\/q.1.opn≠[]\/q.1.Ec=[]):=by
    rintro (h | h | h)
    ·exact hb (Or.inl h)
    ·exact hb (xF (xF (fun e=>h (m.2 e))))
    ·exact hb (xF (Or.inl (B.1 h)))
   rw[if_neg hb,if_neg c];have j:s.s.opn=[]:=Classical.byContradiction fun h=>hb (xF (xF h))
   obtain⟨k,W⟩:=g.rel.tY j;have p:zMs q.1.Ec q.1.Ec=fK s.s.ts:=by
    have:=zJg W [] (fun u f=>(g.rel.thr u f).2);simpa [fB,fK] using this
   have G:0<=fK s.s.ts:=by rw[<- p];exact zHV _ _ (fun u f=>(g.rel.thr u f).1)
   have y:=zJe W;have v:=zLM W;unfold qV;simp only[p,v,y,bne_self_eq_false,xW,if_false,Bool.not_not];by_cases f:fK s.s.ts=0
   ·rw[f];simp only[bne_self_eq_false,xW,if_false,Int.lt_irrefl]
    cases (over q.1.Ec||decide (50<jF s.s.ts))
    ·exact⟨rfl,fun _=>⟨k,W⟩⟩
    ·simp
   ·have D:(fK s.s.ts != 0)=true:=by simpa using f
    have F:0<fK s.s.ts:=by omega
    simp[D,F]
namespace R
theorem kCA (c d:Int) (t:Th) (r:List Th) (h:t.block=0):iW c d (t::r)=if (if c<0 then bM isB t.body else c) != bM isB t.body||decide (2<bM isB t.body) then t.row else iW (if c<0 then bM isB t.body else c) d r:=by
 simp[iW,h]
theorem kIl (d c:Int) (t:Th) (r:List Th) (h:t.block=1):iW d c (t::r)=if (if c<0 then bM isB t.body else c) != bM isB t.body||decide (2<bM isB t.body) then t.row else iW d (if c<0 then bM isB t.body else c) r:=by
 simp[iW,h]
end R
theorem nA {g:Nat} {a b:Value} (h:w.heap[g]?=some (.cells #[a,b] 3 (0,0))):w.cell? ⟨g,0,none⟩=some a/\w.cell? ⟨g,1,none⟩=some b/\w.frozen? ⟨g,0,none⟩=false/\w.frozen? ⟨g,1,none⟩=false:=by
 refine⟨by simp[World.cell?,h],by simp[World.cell?,h],by simp[World.frozen?,h],by simp[World.frozen?,h]⟩
theorem zGG (B d n U:Nat) (r:List R.Th) (vs:List Value) (Fs:List (List Nat)) (w:World) (h:ThsAt w B (.slice (some ⟨d,0,none⟩) n U) r vs Fs) (hn:n=r.length) (ac:n<10) (hs:∀ t∈r,kAs t.body<10000) (hb:∀ t∈r,t.block=0\/t.block=1) :
  Calls prog 14 #[.slice (some ⟨d,0,none⟩) n U] w fun e Z=>e=.returned (.int .i64 (fK r))/\Below w.heap.size w Z:=by
 have HA:=zAa h;have W:=zAa hn;have HS:=zAa hs;have HB:=zAa hb;clear h hn hs hb;go_enter func14,ntmps14;go_wp2;go_loopw [4] (fun i wr=>∃ (k:Nat) (D E:Int),k<=n/\i=.int .i64 k/\Hid (fK r=iW D E (r.drop k))/\(-1<=D/\D<10000/\-1<=E/\E<10000)/\wr.heap[w.heap.size]?=some (.cells #[.int .i64 D,.int .i64 E] 3 (0,0))/\Below w.heap.size w wr) (fun i _=>n-(intOf i).toNat)
 case atStart=>exact⟨0, -1, -1,Nat.zero_le _,rfl,rfl,by decide,heap_alloc_new w _,(Below.refl _ _).alloc (xR _) _⟩
 case round =>
  obtain⟨k,D,E,hk,rfl,X,hf,q,f⟩:=hrel;by_cases hlt:k<n
  ·have J:k<r.length:=by rw[<- W.out];exact hlt
   obtain⟨T,u,c0,c1,c2,HC⟩:=HA.out.get W.out HS.out k J;have F:=aC f T c0;have d1:=aC f T c1;have I:=aC f T c2;have hz:=HS.out r[k] (x2 J);unfold kAs at hz;have e1:=iR isB r[k].body;have HD:=zAa (tD r k J);have H:Hid (Calls prog 16 #[u,.string ⟨#[98,97,114,114,105,101,114]⟩,.string ⟨#[]⟩] wr fun e Z=>e=.returned (.int .i64 (bM isB r[k].body))/\Below wr.heap.size wr Z):=by
    have:=HC.out ⟨#[98,97,114,114,105,101,114]⟩ ⟨#[]⟩ wr f;rw[aP,aP] at this;rw[zPM];exact this
   have V:=HB.out r[k] (x2 J);have y:w.heap.size<wr.heap.size:=by
    have:=Array.getElem?_eq_some_iff.1 q;exact this.1
   have ab:(k:Int)<(n:Int):=by omega
   generalize r[k]=t at *;generalize hN:bM isB t.body=nb at *;have aa:0<=nb/\nb<10000:=by omega
   clear c0 c1 c2 HC hz e1
   rcases V with G | G
   ·have v:=R.kCA D E t (r.drop (k+1)) G;rw[hN,<- HD.out,<- X.out] at v;rw[G] at F;by_cases hneg:D<0
    ·rw[if_pos hneg] at v;by_cases hbig:2<nb
     ·have z:Hid (fK r=t.row):=by unfold Hid;rw[v];simp[hbig]
      clear v;go_wp2_with (first | (go_at_call 16;refine H.out.mono ?_;rintro e s ⟨rfl,c⟩;have O:=(c.cell (p:=⟨d,k*3,none⟩) (by show d<_;omega)).trans F;have C:=(c.cell (p:=⟨d,k*3+2,none⟩) (by show d<_;omega)).trans I;have x:=(c.block w.heap.size y).trans q;obtain⟨K,L,M,N⟩:=nA x;have m:d≠w.heap.size:=(by omega);have S:=fun u:Value=>(bI (w:=s) (g:=w.heap.size) (i:=0) (b:=d) (o:=k*3+2) (u:=u) m).trans C;have A:=c.size;have j:Below w.heap.size w s:=f.trans (c.mono (by omega))));go_ret;rw[z.out];exact⟨rfl,j.setCell (xR _) _⟩
     ·have z:Hid (fK r=iW nb E (r.drop (k+1))):=by unfold Hid;rw[v];simp[hbig]
      clear v;go_wp2_with (first | (go_at_call 16;refine H.out.mono ?_;rintro e s ⟨rfl,c⟩;have O:=(c.cell (p:=⟨d,k*3,none⟩) (by show d<_;omega)).trans F;have C:=(c.cell (p:=⟨d,k*3+2,none⟩) (by show d<_;omega)).trans I;have x:=(c.block w.heap.size y).trans q;obtain⟨K,L,M,N⟩:=nA x;have m:d≠w.heap.size:=(by omega);have S:=fun u:Value=>(bI (w:=s) (g:=w.heap.size) (i:=0) (b:=d) (o:=k*3+2) (u:=u) m).trans C;have A:=c.size;have j:Below w.heap.size w s:=f.trans (c.mono (by omega))));go_roundw
      case rel=>exact⟨k+1,nb,E,by omega,by go_num,z,by omega,by rw[bH x];rfl,j.setCell (xR _) _⟩
      case measure=>simp[intOf];omega
    ·rw[if_neg hneg] at v;by_cases hdiff:D=nb
     ·by_cases hbig:2<nb
      ·have z:Hid (fK r=t.row):=by unfold Hid;rw[v];simp[hbig]
       clear v;go_wp2_with (first | (go_at_call 16;refine H.out.mono ?_;rintro e s ⟨rfl,c⟩;have O:=(c.cell (p:=⟨d,k*3,none⟩) (by show d<_;omega)).trans F;have C:=(c.cell (p:=⟨d,k*3+2,none⟩) (by show d<_;omega)).trans I;have x:=(c.block w.heap.size y).trans q;obtain⟨K,L,M,N⟩:=nA x;have m:d≠w.heap.size:=(by omega);have S:=fun u:Value=>(bI (w:=s) (g:=w.heap.size) (i:=0) (b:=d) (o:=k*3+2) (u:=u) m).trans C;have A:=c.size;have j:Below w.heap.size w s:=f.trans (c.mono (by omega))));go_ret;rw[z.out];exact⟨rfl,j⟩
      ·have z:Hid (fK r=iW D E (r.drop (k+1))):=by unfold Hid;rw[v];simp[hbig,hdiff]
       clear v;go_wp2_with (first | (go_at_call 16;refine H.out.mono ?_;rintro e s ⟨rfl,c⟩;have O:=(c.cell (p:=⟨d,k*3,none⟩) (by show d<_;omega)).trans F;have C:=(c.cell (p:=⟨d,k*3+2,none⟩) (by show d<_;omega)).trans I;have x:=(c.block w.heap.size y).trans q;obtain⟨K,L,M,N⟩:=nA x;have m:d≠w.heap.size:=(by omega);have S:=fun u:Value=>(bI (w:=s) (g:=w.heap.size) (i:=0) (b:=d) (o:=k*3+2) (u:=u) m).trans C;have A:=c.size;have j:Below w.heap.size w s:=f.trans (c.mono (by omega))));go_roundw
       case rel=>exact⟨k+1,D,E,by omega,by go_num,z,hf,x,j⟩
       case measure=>simp[intOf];omega
     ·have z:Hid (fK r=t.row):=by unfold Hid;rw[v];simp[hdiff]
      clear v;go_wp2_with (first | (go_at_call 16;refine H.out.mono ?_;rintro e s ⟨rfl,c⟩;have O:=(c.cell (p:=⟨d,k*3,none⟩) (by show d<_;omega)).trans F;have C:=(c.cell (p:=⟨d,k*3+2,none⟩) (by show d<_;omega)).trans I;have x:=(c.block w.heap.size y).trans q;obtain⟨K,L,M,N⟩:=nA x;have m:d≠w.heap.size:=(by omega);have S:=fun u:Value=>(bI (w:=s) (g:=w.heap.size) (i:=0) (b:=d) (o:=k*3+2) (u:=u) m).trans C;have A:=c.size;have j:Below w.heap.size w s:=f.trans (c.mono (by omega))));go_ret;rw[z.out];exact⟨rfl,j⟩
   ·have v:=kIl D E t (r.drop (k+1)) G;rw[hN,<- HD.out,<- X.out] at v;rw[G] at F;by_cases hneg:E<0
    ·rw[if_pos hneg] at v;by_cases hbig:2<nb
     ·have z:Hid (fK r=t.row):=by unfold Hid;rw[v];simp[hbig]
      clear v;go_wp2_with (first | (go_at_call 16;refine H.out.mono ?_;rintro e s ⟨rfl,c⟩;have O:=(c.cell (p:=⟨d,k*3,none⟩) (by show d<_;omega)).trans F;have C:=(c.cell (p:=⟨d,k*3+2,none⟩) (by show d<_;omega)).trans I;have x:=(c.block w.heap.size y).trans q;obtain⟨K,L,M,N⟩:=nA x;have m:d≠w.heap.size:=(by omega);have S:=fun u:Value=>(bI (w:=s) (g:=w.heap.size) (i:=1) (b:=d) (o:=k*3+2) (u:=u) m).trans C;have A:=c.size;have j:Below w.heap.size w s:=f.trans (c.mono (by omega))));go_ret;rw[z.out];exact⟨rfl,j.setCell (xR _) _⟩
     ·have z:Hid (fK r=iW D nb (r.drop (k+1))):=by unfold Hid;rw[v];simp[hbig]
      clear v;go_wp2_with (first | (go_at_call 16;refine H.out.mono ?_;rintro e s ⟨rfl,c⟩;have O:=(c.cell (p:=⟨d,k*3,none⟩) (by show d<_;omega)).trans F;have C:=(c.cell (p:=⟨d,k*3+2,none⟩) (by show d<_;omega)).trans I;have x:=(c.block w.heap.size y).trans q;obtain⟨K,L,M,N⟩:=nA x;have m:d≠w.heap.size:=(by omega);have S:=fun u:Value=>(bI (w:=s) (g:=w.heap.size) (i:=1) (b:=d) (o:=k*3+2) (u:=u) m).trans C;have A:=c.size;have j:Below w.heap.size w s:=f.trans (c.mono (by omega))));go_roundw
      case rel=>exact⟨k+1,D,nb,by omega,by go_num,z,by omega,by rw[bH x];rfl,j.setCell (xR _) _⟩
      case measure=>simp[intOf];omega
    ·rw[if_neg hneg] at v;by_cases hdiff:E=nb
     ·by_cases hbig:2<nb
      ·have z:Hid (fK r=t.row):=by unfold Hid;rw[v];simp[hbig]
       clear v;go_wp2_with (first | (go_at_call 16;refine H.out.mono ?_;rintro e s ⟨rfl,c⟩;have O:=(c.cell (p:=⟨d,k*3,none⟩) (by show d<_;omega)).trans F;have C:=(c.cell (p:=⟨d,k*3+2,none⟩) (by show d<_;omega)).trans I;have x:=(c.block w.heap.size y).trans q;obtain⟨K,L,M,N⟩:=nA x;have m:d≠w.heap.size:=(by omega);have S:=fun u:Value=>(bI (w:=s) (g:=w.heap.size) (i:=1) (b:=d) (o:=k*3+2) (u:=u) m).trans C;have A:=c.size;have j:Below w.heap.size w s:=f.trans (c.mono (by omega))));go_ret;rw[z.out];exact⟨rfl,j⟩
      ·have z:Hid (fK r=iW D E (r.drop (k+1))):=by unfold Hid;rw[v];simp[hbig,hdiff]
       clear v;go_wp2_with (first | (go_at_call 16;refine H.out.mono ?_;rintro e s ⟨rfl,c⟩;have O:=(c.cell (p:=⟨d,k*3,none⟩) (by show d<_;omega)).trans F;have C:=(c.cell (p:=⟨d,k*3+2,none⟩) (by show d<_;omega)).trans I;have x:=(c.block w.heap.size y).trans q;obtain⟨K,L,M,N⟩:=nA x;have m:d≠w.heap.size:=(by omega);have S:=fun u:Value=>(bI (w:=s) (g:=w.heap.size) (i:=1) (b:=d) (o:=k*3+2) (u:=u) m).trans C;have A:=c.size;have j:Below w.heap.size w s:=f.trans (c.mono (by omega))));go_roundw
       case rel=>exact⟨k+1,D,E,by omega,by go_num,z,hf,x,j⟩
       case measure=>simp[intOf];omega
     ·have z:Hid (fK r=t.row):=by unfold Hid;rw[v];simp[hdiff]
      clear v;go_wp2_with (first | (go_at_call 16;refine H.out.mono ?_;rintro e s ⟨rfl,c⟩;have O:=(c.cell (p:=⟨d,k*3,none⟩) (by show d<_;omega)).trans F;have C:=(c.cell (p:=⟨d,k*3+2,none⟩) (by show d<_;omega)).trans I;have x:=(c.block w.heap.size y).trans q;obtain⟨K,L,M,N⟩:=nA x;have m:d≠w.heap.size:=(by omega);have S:=fun u:Value=>(bI (w:=s) (g:=w.heap.size) (i:=1) (b:=d) (o:=k*3+2) (u:=u) m).trans C;have A:=c.size;have j:Below w.heap.size w s:=f.trans (c.mono (by omega))));go_ret;rw[z.out];exact⟨rfl,j⟩
  ·have Y:Hid (fK r=0):=by
    unfold Hid;rw[X.out,List.drop_eq_nil_of_le (by have:=W.out;omega)];rfl
   go_wp2;go_ret;rw[Y.out];exact⟨rfl,f⟩
namespace R
def kBD:List Fr->Int
 | []=>0
 | f::r=>(1+kAs f.l)+kBD r
def kBo:List Th->Int
 | []=>0
 | [t]=>kAs t.body
 | _::u::r=>kBo (u::r)
theorem EJ (c:List Th) (t:Th):kBo (c++[t])=kAs t.body:=by
 induction c with
 | nil=>rfl
 | cons a r ih=>cases r with
  | nil=>rfl
  | cons b q=>simpa [kBo] using ih
theorem tO (c:List Fr) (f:Fr):kBD (c++[f])=kBD c+(1+kAs f.l):=by
 induction c with
 | nil=>simp[kBD]
 | cons a r ih=>simp only[List.cons_append,kBD,ih];omega
theorem uB (l:List Tree):0<=kAs l:=(iR (fun _=>true) l).1
theorem AN (c:List Fr):0<=kBD c:=by
 induction c with
 | nil=>simp[kBD]
 | cons f r ih=>have:=uB f.l;simp only[kBD];omega
theorem AO:∀ c:List Th,0<=kBo c
 | []=>by simp[kBo]
 | [t]=>by simpa [kBo] using uB t.body
 | _::u::r=>by simpa [kBo] using AO (u::r)
theorem vQ (l:List Tree) (x:Lh) (b:List Tree):kAs (l++[.mk x b])=kAs l+(1+kAs b):=by
 unfold kAs;rw[AY];simp[iI,lR,kL]
structure SzA (s:St):Prop where
 all:∀ t∈s.ts,kAs t.body<=40
 sum:kBo s.ts+kBD s.opn<=s.count
 cnt:s.count<=40
 nth:s.ts.length<=4
 nop:s.opn.length<=2
 blk:∀ t∈s.ts,t.block=0\/t.block=1
structure NmA (a:AS) (k:Int):Prop where
 len:a.nm.length=a.s.opn.length
 lb0:0<=a.lb
 lbk:a.lb<=k
 nms:∀ x∈a.nm,x.length<=5
theorem SzA.zero:SzA AS.zero.s:=⟨by simp[AS.zero,St.zero],by simp[AS.zero,St.zero,kBo,kBD],by simp[AS.zero,St.zero],by simp[AS.zero,St.zero],by simp[AS.zero,St.zero],by simp[AS.zero,St.zero]⟩
theorem NmA.zero:NmA AS.zero 0:=⟨rfl,Int.le_refl _,Int.le_refl _,by simp[AS.zero]⟩
theorem kIK (s:St) (x:Lh) (b:List Tree) (p:s.ts≠[]) (j:∀ t∈s.ts,kAs t.body<=40) (q:kBo s.ts+kBD s.opn+(1+kAs b)<=s.count) (r:s.count<=40) (m:s.ts.length<=4) (o:s.opn.length<=2) (d:∀ t∈s.ts,t.block=0\/t.block=1):SzA (put s (.mk x b)):=by
 obtain⟨z,t,e⟩:=iD s.ts p;have A:=uB b;have B:=AN s.opn;unfold put
 cases hop:s.opn.isEmpty
 ·obtain⟨v,f,g⟩:=iD s.opn (by intro h;simp[h] at hop);simp only[xW,if_false];rw[g,xA];rw[g,tO] at q;refine⟨j,?_,r,m,?_,d⟩
  ·show kBo s.ts+kBD (v++[_])<=s.count;rw[tO,vQ];omega
  ·rw[g] at o;simpa using o
 ·simp only[if_true];rw[e,zF];rw[e,EJ] at q;rw[e] at j m d;have y:kAs (t.body++[.mk x b])<=40:=by rw[vQ];omega
  refine⟨fun u c=>?_,?_,r,by simpa using m,o,fun u c=>?_⟩
  ·simp at c
   rcases c with c | rfl
   ·exact j u (by simp[c])
   ·exact y
  ·show kBo (z++[_])+kBD s.opn<=s.count;rw[EJ,vQ];omega
  ·simp at c
   rcases c with c | rfl
   ·exact d u (by simp[c])
   ·exact d t (by simp)
theorem kEX (c:List Fr) (x:Tree):(rS c x).length=c.length:=by
 match c with
 | []=>rfl
 | [t]=>rfl
 | t::u::r=>simp only[rS,List.length_cons,kEX (u::r) x]
theorem kIN (s:St) (x:Tree):(put s x).opn.length=s.opn.length:=by
 unfold put
 split
 ·rfl
 ·exact kEX _ _
theorem kKt (h:n<10000):(kAO n).length<=5:=by
 have:=zHm n.toNat (by omega);unfold kAO bP;simp;omega
theorem kIY (f:a.s.ts≠[]) (c:SzA a.s) (d:NmA a k) (p:k+1<10000) (h:fO a l=some b):SzA b.s/\NmA b (k+1):=by
 have g:=d.lb0;have o:=d.lbk;unfold fO at h
 split at h
 ·cases h
 rename_i j
 split at h
 ·split at h
  ·split at h
   ·rename_i m;rw[x3,decide_eq_true_iff] at m;injection h with h;rw[<- h]
    refine⟨⟨c.all,?_,?_,c.nth,?_,c.blk⟩,⟨?_,?_,?_,?_⟩⟩
    ·show kBo a.s.ts+kBD (a.s.opn++[_])<=a.s.count+1;have:=c.sum;rw[tO];simp[kAs,iI];omega
    ·show a.s.count+1<=40;omega
    ·show (a.s.opn++[_]).length<=2;simp;omega
    ·show (a.nm++[_]).length=(a.s.opn++[_]).length;simp[d.len]
    ·show 0<=a.lb+1;omega
    ·show a.lb+1<=k+1;omega
    ·intro x e
     rcases List.mem_append.1 e with e | e
     ·exact d.nms x e
     ·rw[x1] at e;rw[e];exact kKt (by omega)
   ·cases h
  ·cases h
 ·split at h
  ·injection h with h;rw[<- h]
   refine⟨kIK _ _ _ f c.all ?_ ?_ c.nth c.nop c.blk,⟨d.len.trans (kIN { a.s with count:=a.s.count+1 } (.mk (jB (eX l).1).1 [])).symm,g,by show a.lb<=k+1;omega,d.nms⟩⟩
   ·have:=c.sum;show kBo a.s.ts+kBD a.s.opn+(1+kAs [])<=a.s.count+1;simp[kAs,iI];omega
   ·show a.s.count+1<=40;omega
  ·cases h
theorem zPt (j:SzA a.s) (m:NmA a k) (A:k+1<10000) (h:dG a i l=some b):SzA b.s/\NmA b (k+1):=by
 have v:=m.lb0;have H:=m.lbk;unfold dG at h
 split at h
 ·rename_i G E
  split at h
  ·rename_i r;injection h with h;rw[<- h]
   rw[x3] at r;have u:a.s.opn=[]:=List.isEmpty_iff.1 r.1;have I:=j.nth;have D:¬ a.s.ts.length=4:=by simpa using r.2
   refine⟨⟨fun t d=>?_,?_,by show (0:Int)<=40;decide,by show (a.s.ts++[_]).length<=4;simp;omega,j.nop,fun t d=>?_⟩,⟨m.len,v,by show a.lb<=k+1;omega,m.nms⟩⟩
   ·rcases List.mem_append.1 d with d | d
    ·exact j.all t d
    ·rw[x1] at d;subst d;simp[kAs,iI]
   ·show kBo (a.s.ts++[_])+kBD a.s.opn<=0;rw[EJ,u];simp[kAs,iI,kBD]
   ·rcases List.mem_append.1 d with d | d
    ·exact j.blk t d
    ·rw[x1] at d;subst d;exact (zHl E).1
  ·cases h
 ·split at h
  ·cases h
  ·rename_i c;have o:a.s.ts≠[]:=fun e=>c (by rw[e];rfl)
   split at h
   ·rename_i f n p J
    split at h
    ·injection h with h;rw[<- h]
     obtain⟨q,g,e⟩:=iD a.s.opn (by intro e;rw[e] at p;simp at p);rw[e] at p;simp at p;subst p;have C:=j.sum;have y:=j.nop;have B:=m.len;rw[e,tO] at C;rw[e] at y B;have z:a.s.opn.dropLast=q:=by rw[e];simp
     refine⟨?_,⟨?_,v,by show a.lb<=k+1;omega,fun x F=>m.nms x ((List.dropLast_sublist _).subset F)⟩⟩
     ·rw[z];exact kIK _ _ _ o j.all (by show kBo a.s.ts+kBD q+(1+kAs g.l)<=a.s.count;omega) j.cnt j.nth (by show q.length<=2;simp at y;omega) j.blk
     ·show a.nm.dropLast.length=_;rw[kIN,z];simp at B ⊢;omega
    ·exact kIY o j m A h
   ·exact kIY o j m A h
end R
theorem Tryz.infoLn:(prog.info? 44).map (fun i=>(i.zero,i.size,i.bytes))=some (some (.agg (bV z0 (.slice none 0 0))),9,120):=by kernel_rfl
theorem zAq.cY {B:Nat} {v:Value} {l:List Tree} {F:List Nat} (h:zAq w B v l F):v.oneCell'=true:=by
 cases h using zAq.cs with
 | row ho _ _ _ _ =>
  rcases ho.2 with ⟨e,_⟩ | ⟨k,c,d,e,_⟩<;>rw[e]<;>rfl
theorem zEu (x:Lh) (u:Value) (h:u.oneCell'=true):∀ c∈(bV x u).toList,c.oneCell'=true:=by
 intro c d;simp[bV] at d
 rcases d with rfl | rfl | rfl | rfl | rfl | rfl | rfl | rfl | rfl<;>first | rfl | exact h
theorem zDQ {d:Array Oper} {rest:List Oper} {c:Oper} {a:Act} {Q:Exit->Act->World->Prop} (x:Operand) (f:c.guard=none) (g:c.op=.load 44 x)
  (b o:Nat) (y:Lh) (e:Value) (m:a.eval x=.pointer (some ⟨b,o,none⟩)) (j:w.rangeAt b o (bV y e).toList)
  (h:wpList prog d Q rest (a.put c.dst (.agg #[.string y.op,.int .i64 y.reg,.int .i64 y.var,.int .i64 y.a,.int .i64 y.b,.string y.sign,.string y.ord,.string y.scope,e])) w):wpList prog d Q (c::rest) a w :=
 wpList_load_mid f _ x g b o m (bV y e).toList _ j underlying44 rfl (by kernel_rfl) h
end Go.Proofs.YtonodfjdiepglaaGreatDoor
