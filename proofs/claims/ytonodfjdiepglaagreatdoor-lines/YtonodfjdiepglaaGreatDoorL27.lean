import Derived.Deep.Draws
import Derived.Laws.AppendOwnNone
import Derived.WalkSpells
import Derived.Test.YtonodfjdiepglaaGreatDoorL12
import Derived.Test.YtonodfjdiepglaaGreatDoorL24
set_option linter.unusedVariables false
set_option linter.unusedSimpArgs false
set_option maxHeartbeats 12800000
namespace Go.Proofs.YtonodfjdiepglaaGreatDoor
open Go Go.RowKit Go.Proofs.Tryz P Q R
set_option maxRecDepth 1000000
variable {r:Rd} {B k n:Nat} {rows:List ByteArray} {s:ByteArray} {v:Value} {m:ED} {st:Stm} {l rs:List (List Int)} {w:World} {vs:List Value}
open Nat renaming le_refl→xF,zero_le→x2,lt_of_lt_of_le→x4
open _root_.ByteArray renaming toList→xR
open List renaming getElem_mem→xW,takeWhile_cons→x1,mem_append→x3,getElem?_eq_getElem→x6,mem_singleton→x7,drop_eq_getElem_cons→x8,length_cons→x9,map_append→xc,dropLast_concat→xd,getElem?_eq_none→xg,mem_or_eq_of_mem_set→xh,drop_eq_nil_of_le→xi
open Go.RowKit.Below renaming refl→x5
open Go.World renaming ownsRow_nil→xe
theorem pV (B g:Nat) (r:Rd) (w:World) (h:dJ w B g r) (j:r.opn.length<10) :
  Calls prog 62 #[.pointer (some ⟨g,0,none⟩)] w fun e G=>e=.returned (.int .i64 (openL r))/\G=w:=by
 obtain⟨I,u,vs,h⟩:=h;by_cases he:r.opn=[]
 ·have p:u=.slice none 0 0\/∃ k c,u=.slice (some ⟨k,0,none⟩) 0 c:=by
   have:=h.opn;rw[he] at this
   rcases this.2 with ⟨e,_⟩ | ⟨k,c,y,e,_⟩
   ·exact .inl e
   ·exact .inr ⟨k,c,e⟩
  obtain⟨i,f,g0,z,A,C,D⟩:=h.facts;have d:Hid (openL r=0):=by unfold Hid;simp[openL,he]
  clear h
  rcases p with rfl | ⟨k,c,rfl⟩
  all_goals
   go_enter func62,ntmps62;go_wp2;go_ret;rw[fX d];exact⟨rfl,rfl⟩
 ·obtain⟨t,o,b⟩:=iD r.opn he;have a:=h.opn;rw[b] at a;simp only[List.length_append,x9,List.length_nil,Nat.zero_add,xc,List.map_cons,List.map_nil] at a;obtain⟨k,x,rfl,E,q⟩:=a.form (by omega);have H:w.cell? ⟨k,t.length,none⟩=some (.int .i64 o):=by
   rw[a.cellAt _ (by omega),List.getElem?_append_right (by simp)];simp
  obtain⟨i,f,g0,z,A,C,D⟩:=h.facts;have F:t.length<10:=by rw[b] at j;simp at j;omega
  have d:Hid (openL r=o):=by unfold Hid;simp[openL,b]
  clear h a b he j;go_enter func62,ntmps62;go_wp2;go_ret;rw[fX d];exact⟨rfl,rfl⟩
theorem sY (B g:Nat) (r:Rd) (w:World) (h:dJ w B g r) (o:0<=r.ifs) (p:r.ifs<10000) :
  Calls prog 65 #[.pointer (some ⟨g,0,none⟩)] w fun e c=>e=.returned (.int .i64 (r.ifs+1))/\c=w:=by
 obtain⟨t,q,vs,h⟩:=h;obtain⟨b,a,g0,d,f,i,j⟩:=h.facts;clear h;go_enter func65,ntmps65;go_wp2;go_ret
 first | exact⟨rfl,rfl⟩ | exact⟨by go_num,rfl⟩
theorem zJl (r:Rd) (l:List UInt8) (k:Nat) (h:k<2) (d:∀ j,j<k->(l==fS (j:Int))=false) (f:(l==fS (k:Int))=true):kAt r l=zNr r (k:Int) r.line:=by
 have e:l=fS (k:Int):=by simpa using f
 unfold kAt
 match k,h with
 | 0,_ =>
  have a:l=fS 0:=e;rw[if_pos a];rfl
 | 1,_ =>
  have c:¬ l=fS 0:=by have:=d 0 (by omega);simpa using this
  have b:l=fS 1:=e;rw[if_neg c,if_pos b];rfl
theorem zIf (r:Rd) (l:List UInt8) (a:∀ j,j<2->(l==fS ((j:Nat):Int))=false):kAt r l=if openL r != 0&&l==kAO (openL r)++[58] then kAT r { Stm.zero with kind:=11,line:=r.line }
 else if !(kAv l (r.ifs+1)).2||((kAv l (r.ifs+1)).1.kind==5&&openL r != 0) then (r,false)
 else kAT r { (kAv l (r.ifs+1)).1 with line:=r.line }:=by
 have b:¬ l=fS 0:=by have:=a 0 (by omega);simpa using this
 have c:¬ l=fS 1:=by have:=a 1 (by omega);simpa using this
 conv=>lhs;unfold kAt
 rw[if_neg b,if_neg c]
theorem zJm (B g N:Nat) (r:Rd) (s:ByteArray) (w:World) (h:dJ w B g r) (M:s.size<=8192)
  (S:uZ N r) (W:N<10000) (K:B<=w.heap.size) (d:r.opn.length<10) (p:0<=r.ifs) (aa:r.ifs<9999) (I:0<=r.count) (J:r.count<10000) (G:0<=openL r) (H:openL r<10000) (F:Tab w) :
  Calls prog 31 #[.pointer (some ⟨g,0,none⟩),.string s,.int .i64 r.line] w fun e y=>e=.returned (.bool (kAt r s.toList).2)/\dJ y B g (kAt r s.toList).1/\Ek B g w y:=by
 have o:=zAa h;clear h;go_enter func31,ntmps31;go_wp2;go_loop [7] (fun i=>∃ k:Nat,k<=2/\i=.int .i64 k/\Hid (∀ j:Nat,j<k->(s.toList==fS (j:Int))=false)) (fun i=>2-(intOf i).toNat)
 case atStart=>exact⟨0,by omega,rfl,fun j X=>absurd X (by omega)⟩
 case round =>
  obtain⟨k,hk,rfl,V⟩:=hrel;by_cases hlt:k<2
  ·have Z:(k:Int)<2:=by omega
   cases f:(s.toList==fS (k:Int))
   ·have HN:Hid (∀ j:Nat,j<k+1->(s.toList==fS (j:Int))=false):=fun j X=>by
     rcases Nat.lt_succ_iff_lt_or_eq.1 X with h | h
     ·exact V.out j h
     ·rw[h];exact f
    have E:=zAa f;clear f;go_wp2_with (first | (go_at_call 60;refine (zGY _ _ (by omega) (by omega)).mono ?_;rintro e y ⟨t,rfl,f,a⟩;have a:=a.symm;subst a;have T:(s.toList==t.toList)=false:=(by rw[f.1];exact E.out)));go_round
    case rel=>exact⟨k+1,by omega,by go_num,HN⟩
    case measure=>simp[intOf];omega
   ·have z:=zAa (zJl r s.toList k hlt V.out f);have E:=zAa f;clear f;go_wp2_with (first | (go_at_call 60;refine (zGY _ _ (by omega) (by omega)).mono ?_;rintro e y ⟨t,rfl,f,a⟩;have a:=a.symm;subst a;have T:(s.toList==t.toList)=true:=(by rw[f.1];exact E.out)) | (go_at_call 61;refine (zHE B g r (k:Int) r.line _ o.out K (by have:=S.1;omega) d).mono ?_;rintro e Y ⟨rfl,u,q⟩));go_ret;rw[z.out];exact⟨rfl,u,q⟩
  ·have ab:k=2:=by omega
   have Z:¬ (k:Int)<2:=by omega
   have E:=zAa (zIf r s.toList (fun j X=>V.out j (by omega)));clear V
   cases ho:(openL r != 0)
   ·have A:Hid (kAt r s.toList=if !(kAv s.toList (r.ifs+1)).2||((kAv s.toList (r.ifs+1)).1.kind==5&&openL r != 0) then (r,false) else kAT r { (kAv s.toList (r.ifs+1)).1 with line:=r.line }):=by unfold Hid;rw[E.out,ho];rfl
    clear E
    cases hok:(kAv s.toList (r.ifs+1)).2
    ·have z:Hid (kAt r s.toList=(r,false)):=by unfold Hid;rw[A.out,hok];rfl
     go_wp2_with (first | (go_at_call 62;refine (pV B g r _ o.out d).mono ?_;rintro e y ⟨rfl,a⟩;have a:=a.symm;subst a) | (go_at_call 65;refine (sY B g r _ o.out p (by omega)).mono ?_;rintro e y ⟨rfl,a⟩;have a:=a.symm;subst a) | (go_at_call 66;refine (sC s (r.ifs+1) _ M (by omega) (by omega) F).mono ?_;rintro e U ⟨x,c⟩;simp only[mC,aQ] at x;subst x));go_ret;rw[z.out];exact⟨rfl,(o.out.below c).alloc _,Ek.of ((c.mono K).alloc (by have:=c.size;omega) _)⟩
    cases h5:((kAv s.toList (r.ifs+1)).1.kind==5)
    rotate_left
    ·have z:Hid (kAt r s.toList=kAT r { (kAv s.toList (r.ifs+1)).1 with line:=r.line }):=by unfold Hid;rw[A.out,hok,h5,ho];rfl
     go_wp2_with (first | (go_at_call 62;refine (pV B g r _ o.out d).mono ?_;rintro e y ⟨rfl,a⟩;have a:=a.symm;subst a) | (go_at_call 65;refine (sY B g r _ o.out p (by omega)).mono ?_;rintro e y ⟨rfl,a⟩;have a:=a.symm;subst a) | (go_at_call 66;refine (sC s (r.ifs+1) _ M (by omega) (by omega) F).mono ?_;rintro e U ⟨x,c⟩;simp only[mC,aQ] at x;subst x) | (go_at_call 64;refine (zI B g N r { (kAv s.toList (r.ifs+1)).1 with line:=r.line } _ (by exact (o.out.below c).alloc (.cells (aQ { (kAv s.toList (r.ifs+1)).1 with line:=r.line }) 109)) S W (by have:=c.size;simp;omega) d p (by omega) I J).mono ?_;rintro e Y ⟨rfl,u,q⟩));go_ret;rw[z.out];exact⟨rfl,u,(Ek.of ((c.mono K).alloc (by have:=c.size;omega) _)).trans q⟩
    ·have z:Hid (kAt r s.toList=kAT r { (kAv s.toList (r.ifs+1)).1 with line:=r.line }):=by unfold Hid;rw[A.out,hok,h5];rfl
     go_wp2_with (first | (go_at_call 62;refine (pV B g r _ o.out d).mono ?_;rintro e y ⟨rfl,a⟩;have a:=a.symm;subst a) | (go_at_call 65;refine (sY B g r _ o.out p (by omega)).mono ?_;rintro e y ⟨rfl,a⟩;have a:=a.symm;subst a) | (go_at_call 66;refine (sC s (r.ifs+1) _ M (by omega) (by omega) F).mono ?_;rintro e U ⟨x,c⟩;simp only[mC,aQ] at x;subst x) | (go_at_call 64;refine (zI B g N r { (kAv s.toList (r.ifs+1)).1 with line:=r.line } _ (by exact (o.out.below c).alloc (.cells (aQ { (kAv s.toList (r.ifs+1)).1 with line:=r.line }) 109)) S W (by have:=c.size;simp;omega) d p (by omega) I J).mono ?_;rintro e Y ⟨rfl,u,q⟩));go_ret;rw[z.out];exact⟨rfl,u,(Ek.of ((c.mono K).alloc (by have:=c.size;omega) _)).trans q⟩
   ·cases hl:(s.toList==kAO (openL r)++[58])
    ·have A:Hid (kAt r s.toList=if !(kAv s.toList (r.ifs+1)).2||((kAv s.toList (r.ifs+1)).1.kind==5&&openL r != 0) then (r,false) else kAT r { (kAv s.toList (r.ifs+1)).1 with line:=r.line }):=by unfold Hid;rw[E.out,ho,hl];rfl
     have O:=zAa hl;clear E hl
     cases hok:(kAv s.toList (r.ifs+1)).2
     ·have z:Hid (kAt r s.toList=(r,false)):=by unfold Hid;rw[A.out,hok];rfl
      go_wp2_with (first | (go_at_call 62;refine (pV B g r _ o.out d).mono ?_;rintro e y ⟨rfl,a⟩;have a:=a.symm;subst a) | (go_at_call 63;refine (vG _ _ G H F).mono ?_;rintro e wL ⟨t,rfl,f,b⟩;have C:=zAa (o.out.below b);have L:=f.size;have T:(s.toList==(t++⟨#[58]⟩).toList)=false:=(by rw[kO,f.1,show (⟨#[58]⟩:ByteArray).toList=[58] from aP #[58]];exact O.out)) | (go_at_call 65;refine (sY B g r _ C.out p (by omega)).mono ?_;rintro e y ⟨rfl,a⟩;have a:=a.symm;subst a) | (go_at_call 66;refine (sC s (r.ifs+1) _ M (by omega) (by omega) (F.below b)).mono ?_;rintro e U ⟨x,D⟩;have c:=b.trans (D.mono b.size);simp only[mC,aQ] at x;subst x));go_ret;rw[z.out];exact⟨rfl,(o.out.below c).alloc _,Ek.of ((c.mono K).alloc (by have:=c.size;omega) _)⟩
     cases h5:((kAv s.toList (r.ifs+1)).1.kind==5)
     rotate_left
     ·have z:Hid (kAt r s.toList=(r,false)):=by unfold Hid;rw[A.out,hok,h5,ho];rfl
      go_wp2_with (first | (go_at_call 62;refine (pV B g r _ o.out d).mono ?_;rintro e y ⟨rfl,a⟩;have a:=a.symm;subst a) | (go_at_call 63;refine (vG _ _ G H F).mono ?_;rintro e wL ⟨t,rfl,f,b⟩;have C:=zAa (o.out.below b);have L:=f.size;have T:(s.toList==(t++⟨#[58]⟩).toList)=false:=(by rw[kO,f.1,show (⟨#[58]⟩:ByteArray).toList=[58] from aP #[58]];exact O.out)) | (go_at_call 65;refine (sY B g r _ C.out p (by omega)).mono ?_;rintro e y ⟨rfl,a⟩;have a:=a.symm;subst a) | (go_at_call 66;refine (sC s (r.ifs+1) _ M (by omega) (by omega) (F.below b)).mono ?_;rintro e U ⟨x,D⟩;have c:=b.trans (D.mono b.size);simp only[mC,aQ] at x;subst x));go_ret;rw[z.out];exact⟨rfl,(o.out.below c).alloc _,Ek.of ((c.mono K).alloc (by have:=c.size;omega) _)⟩
     ·have z:Hid (kAt r s.toList=kAT r { (kAv s.toList (r.ifs+1)).1 with line:=r.line }):=by unfold Hid;rw[A.out,hok,h5];rfl
      go_wp2_with (first | (go_at_call 62;refine (pV B g r _ o.out d).mono ?_;rintro e y ⟨rfl,a⟩;have a:=a.symm;subst a) | (go_at_call 63;refine (vG _ _ G H F).mono ?_;rintro e wL ⟨t,rfl,f,b⟩;have C:=zAa (o.out.below b);have L:=f.size;have T:(s.toList==(t++⟨#[58]⟩).toList)=false:=(by rw[kO,f.1,show (⟨#[58]⟩:ByteArray).toList=[58] from aP #[58]];exact O.out)) | (go_at_call 65;refine (sY B g r _ C.out p (by omega)).mono ?_;rintro e y ⟨rfl,a⟩;have a:=a.symm;subst a) | (go_at_call 66;refine (sC s (r.ifs+1) _ M (by omega) (by omega) (F.below b)).mono ?_;rintro e U ⟨x,D⟩;have c:=b.trans (D.mono b.size);simp only[mC,aQ] at x;subst x) | (go_at_call 64;refine (zI B g N r { (kAv s.toList (r.ifs+1)).1 with line:=r.line } _ (by exact (o.out.below c).alloc (.cells (aQ { (kAv s.toList (r.ifs+1)).1 with line:=r.line }) 109)) S W (by have:=c.size;simp;omega) d p (by omega) I J).mono ?_;rintro e Y ⟨rfl,u,q⟩));go_ret;rw[z.out];exact⟨rfl,u,(Ek.of ((c.mono K).alloc (by have:=c.size;omega) _)).trans q⟩
    ·have z:Hid (kAt r s.toList=kAT r { Stm.zero with kind:=11,line:=r.line }):=by unfold Hid;rw[E.out,ho,hl];rfl
     have O:=zAa hl;clear E hl;go_wp2_with (first | (go_at_call 62;refine (pV B g r _ o.out d).mono ?_;rintro e y ⟨rfl,a⟩;have a:=a.symm;subst a) | (go_at_call 63;refine (vG _ _ G H F).mono ?_;rintro e wL ⟨t,rfl,f,b⟩;have C:=zAa (o.out.below b);have L:=f.size;have T:(s.toList==(t++⟨#[58]⟩).toList)=true:=(by rw[kO,f.1,show (⟨#[58]⟩:ByteArray).toList=[58] from aP #[58]];exact O.out)) | (go_at_call 64;refine (zI B g N r { Stm.zero with kind:=11,line:=r.line } _ (by exact C.out) S W (by have:=b.size;omega) d p (by omega) I J).mono ?_;rintro e Y ⟨rfl,u,q⟩));go_ret;rw[z.out];exact⟨rfl,u,(Ek.of (b.mono K)).trans q⟩
namespace P
def Opn (r:Rd):Prop:=∀ x∈r.opn,0<=x/\x<=r.ifs
theorem zOX (h:Opn r) (a:0<=r.ifs):0<=openL r/\openL r<=r.ifs:=by
 unfold openL
 cases hl:r.opn.getLast? with
 | none=>exact⟨Int.le_refl _,a⟩
 | some x=>exact h x (List.mem_of_getLast? hl)
structure GoodA (k:Nat) (r:Rd):Prop where
 good:Good k r
 opn:Opn r
 cn:r.count<=k
theorem kEt (b l:Int) (h:GoodA (k+1) r):GoodA (k+1) (zNr r b l).1:=by
 unfold zNr
 split
 ·exact h
 ·rename_i d;have a:=h.good;refine⟨⟨by simp;omega,?_,a.opn,a.ifs0,a.ifs1,by simp,a.lin0,a.lin1⟩,h.opn,by simp;omega⟩;intro t c;simp at c
  rcases c with c | rfl
  ·exact a.stm t c
  ·simp
theorem kER (m:Int) (h:GoodA k r) (b:0<=m) (c:m<=k+1):GoodA (k+1) { r with line:=m }:=by
 have a:=h.good;exact⟨⟨a.few,fun t d=>by have:=a.stm t d;omega,a.opn,a.ifs0,by have:=a.ifs1;simp;omega,a.cnt,b,by simpa using c⟩,h.opn,by have:=h.cn;simp;omega⟩
theorem kGh (m:Int) (st:Stm) (h:GoodA k r) (e:0<=m) (f:m<=k+1):GoodA (k+1) (kAT { r with line:=m } st).1:=by
 have b:=h.good;have a:=kER m h e f;have g:∀ (o:List Int) (i c:Int) (s:Stm),o.length<=2->0<=i->i<=k+1->0<=c->Good (k+1) (put { r with line:=m,opn:=o,ifs:=i,count:=c } s):=fun o i c s t u y z =>
  ⟨by simp only[put,uS];exact b.few,kEC _ _ _ b.stm,t,u,by simpa [put] using y,z,e,by simpa [put] using f⟩
 have D:=b.ifs1;have p:=b.ifs0;have q:=b.cnt;have C:=h.cn;have A:=b.opn;unfold kAT
 split
 ·exact a
 split
 ·unfold ends
  split
  ·exact a
  ·refine⟨g _ r.ifs r.count _ (by simp;omega) p (by omega) q,?_,by simp[put];omega⟩;intro x d;exact h.opn x (List.dropLast_subset _ d)
 split
 ·exact a
 split
 ·split
  ·exact⟨⟨a.good.few,a.good.stm,a.good.opn,a.good.ifs0,a.good.ifs1,by simp;omega,a.good.lin0,a.good.lin1⟩,a.opn,by simp;omega⟩
  ·rename_i j;unfold branch;rw[if_neg j];refine⟨g (r.opn++[r.ifs+1]) (r.ifs+1) (r.count+1) _ (by simp at j ⊢;omega) (by omega) (by omega) (by omega),?_,by simp[put];omega⟩;intro x d;simp[put] at d ⊢
   rcases d with d | rfl
   ·have:=h.opn x d;omega
   ·omega
 ·refine⟨g r.opn r.ifs (r.count+1) _ A p (by omega) (by omega),h.opn,by simp[put];omega⟩
theorem kFb (l:List UInt8) (h:GoodA k r) (b:r.line=k):GoodA (k+1) (kAt { r with line:=r.line+1 } l).1:=by
 have a:=kER (r.line+1) h (by omega) (by omega);unfold kAt
 split
 ·exact kEt _ _ a
 split
 ·exact kEt _ _ a
 split
 ·exact kGh _ _ h (by omega) (by omega)
 split
 ·exact a
 ·exact kGh _ _ h (by omega) (by omega)
theorem kDC:GoodA 0 Rd.zeroA:=⟨⟨by simp[Rd.zeroA],by simp[Rd.zeroA],by simp[Rd.zeroA],by simp[Rd.zeroA],by simp[Rd.zeroA],by simp[Rd.zeroA],by simp[Rd.zeroA],by simp[Rd.zeroA]⟩,by simp[Opn,Rd.zeroA],by simp[Rd.zeroA]⟩
end P
structure LoopA (rows:List ByteArray) (k:Nat) (r:Rd):Prop where
 run:kAS Rd.zeroA ((rows.take k).map xR)=(r,true)
 good:GoodA k r
 lin:r.line=k
theorem zGF (rows:List ByteArray):LoopA rows 0 Rd.zeroA:=⟨by simp[kAS],kDC,rfl⟩
theorem zIg (h:LoopA rows k r) (b:k<rows.length) (c:(kAt { r with line:=r.line+1 } rows[k].toList).2=true) :
  LoopA rows (k+1) (kAt { r with line:=r.line+1 } rows[k].toList).1:=by
 have a:=zOC { r with line:=r.line+1 } rows[k].toList;refine⟨?_,kFb _ h.good h.lin,?_⟩
 ·rw[zDh rows k b,zOU _ _ _ _ h.run,<- c]
 ·rw[a.1];have:=h.lin;simp;omega
theorem zIh {last:ByteArray} (d:rows.map xR++[last.toList]=zMi 10 s.toList) (h:LoopA rows k r) (f:k<rows.length) (c:(kAt { r with line:=r.line+1 } rows[k].toList).2=false) :
  zMr s.toList=([],(k:Int)+1):=by
 have b:=zOC { r with line:=r.line+1 } rows[k].toList;have a:kAS Rd.zeroA ((rows.take (k+1)).map xR)=kAt { r with line:=r.line+1 } rows[k].toList:=by
  rw[zDh rows k f,zOU _ _ _ _ h.run]
 have e:(zMi 10 s.toList).dropLast=(rows.take (k+1)).map xR++(rows.drop (k+1)).map xR:=by
  rw[<- d,xd,<- xc,List.take_append_drop]
 have:=kKd _ Rd.zeroA ((rows.drop (k+1)).map xR) (by rw[a];exact c);unfold zMr;simp only[e,this,a,c];simp only[Bool.false_eq_true,if_false];rw[b.1,h.lin]
theorem zJn {last:ByteArray} (c:rows.map xR++[last.toList]=zMi 10 s.toList) (h:LoopA rows rows.length r) :
  zMr s.toList=if last.toList.isEmpty=false\/r.Ec.length=0\/0<r.opn.length then ([],(rows.length:Int)+1) else (r.Ec,0):=by
 have a:=h.run;rw[List.take_length] at a;have b:last.toList=[] ↔ last.toList.isEmpty=true:=by rw[List.isEmpty_iff]
 unfold zMr;simp only[<- c,xd,a,List.getLast?_concat,if_true,h.lin]
 congr 1
 simp only[ne_eq,Option.some.injEq,b,eq_iff_iff];simp[List.length_pos_iff,or_comm]
theorem zLg (B:Nat) (w:World):dJ (w.alloc (.cells #[.slice none 0 0,.int .i64 40,.int .i64 0,.int .i64 0,.slice none 0 0] 97)) B w.heap.size Rd.zeroA:=by
 refine⟨.slice none 0 0,.slice none 0 0,[],?_,xe _ _ _ _,xe _ _ _ _,trivial⟩;have:=heap_alloc_new w (.cells #[.slice none 0 0,.int .i64 40,.int .i64 0,.int .i64 0,.slice none 0 0] 97);simpa [Rd.zeroA] using this
theorem zEY (s:ByteArray) (w:World) (hs:s.size<=8192) (hT:Tab w) :
  Calls prog 17 #[.string s] w fun e w'=>∃ tv,e=.returned (.tuple #[.agg #[tv],.int .i64 (zMr s.toList).2])/\eF w' w.heap.size tv (zMr s.toList).1/\Below w.heap.size w w':=by
 go_enter func17,ntmps17;go_wp2_with fail;refine (zIL 40 _).mono ?_;rintro e H ⟨rfl,x⟩;have ax:w.heap.size+1<=H.heap.size:=by have:=x.size;simpa using this
 have o:H.heap[w.heap.size]?=some (.cells #[.slice none 0 0] 32 (0,0)):=by
  rw[x.block _ (by simp)];exact heap_alloc_new w _
 obtain⟨z0,z1,z2⟩:=kY o;have aa:=zAa o;have z:Hid (Below w.heap.size w H):=((x5 _ _).alloc (xF _) _).trans (x.mono (by simp));clear o x;go_wp2_with fail;refine (zFh s _ hs).mono ?_;rintro e I ⟨gl,cl,rows,last,rfl,HW,X,aF,aE,an,O,Y,g⟩;have am:=zAa ((zLg I.heap.size H).below g);have q:I.heap[w.heap.size]?=some (.cells #[.slice none 0 0] 32 (0,0)):=by
  rw[g.block _ (by simp;omega),Below.heap_alloc _ _ _ (by omega)];exact aa.out
 have ab:=zAa q;have A:Hid (Below w.heap.size w I):=(z.out.alloc (by omega) _).trans (g.mono (by simp;omega));have ay:H.heap.size+1<=I.heap.size:=by have:=g.size;simpa using this
 have ah:=zAa X;have ai:=zAa Y;have av:rows.length<9000:=by
  have:=pY 10 s.toList;rw[<- HW.out,bS] at this;simp at this;omega
 clear q g z0 z1 z2 X Y;go_wp2;go_loopw [18] (fun i wr=>∃ k:Nat,∃ r:Rd,k<=rows.length/\i=.int .i64 k/\Hid (LoopA rows k r)/\Hid (dJ wr I.heap.size H.heap.size r)/\Hid (zAp wr gl 0 rows) /\
   Hid (wr.heap[w.heap.size]?=some (.cells #[.slice none 0 0] 32 (0,0)))/\I.heap.size<=wr.heap.size/\Below w.heap.size w wr) (fun i _=>rows.length-(intOf i).toNat)
 case atStart=>exact⟨0,Rd.zeroA,x2 _,rfl,zGF _,am,ah,ab,xF _,A.out⟩
 case round =>
  obtain⟨k,r,hk,rfl,C,HR,N,HB,aq,b⟩:=hrel;have a:=C.out.good.good;have y:=C.out.good.opn;have t:=C.out.lin;have az:=C.out.good.cn;have U:=(zOX y a.ifs0).1;have au:=(zOX y a.ifs0).2;have aB:=a.ifs1;have aw:=zAa y;clear y;by_cases hlt:k<rows.length
  ·have W:rows[k]?=some rows[k]:=x6 hlt;have al:=N.out k rows[k] W;simp only[Nat.zero_add] at al;have ar:=ai.out rows[k] (xW hlt);have aA:gl<wr.heap.size:=by omega
   have aC:(k:Int)<(rows.length:Int):=by omega
   have aj:=zAa (fun h=>zIg C.out hlt h);have ad:=zAa (fun h=>zIh HW.out C.out hlt h);generalize rows[k]=row at *;have L:=zAa t;clear W t
   cases ht:(kAt { r with line:=r.line+1 } row.toList).2
   all_goals
    have ap:=zAa (HR.out.uT ((k:Int)+1));go_wp2_with fail;refine (zJm I.heap.size H.heap.size k { r with line:=(k:Int)+1 } row _ ap.out ar ⟨a.few,a.stm⟩ (by omega) aq (by have:=a.opn;simp;omega) a.ifs0 (by simp;omega) a.cnt (by simp;omega) U (by have h9:openL { r with line:=(k:Int)+1 }=openL r:=rfl;omega) (hT.below b)).mono ?_;rintro e w3 ⟨J,E,j⟩;have eL:({ r with line:=(k:Int)+1 }:Rd)={ r with line:=r.line+1 }:=by rw[L.out]
    rw[eL] at J E;rw[ht] at J;subst J;have c:w3.heap[w.heap.size]?=some (.cells #[.slice none 0 0] 32 (0,0)):=(j.block _ (by omega) (by omega)).trans HB.out;obtain⟨z0,z1,z2⟩:=kY c;have K:=zAa c;have f:Hid (Below w.heap.size w w3):=b.trans (j.below (by omega) (by omega));have ak:Hid (zAp w3 gl 0 rows):=N.out.kX (fun _=>j.block gl an (by simp at O;omega));have aG:=j.size;have ag:=zAa E;clear c j E eL;go_wp2
   ·rw[ad.out ht];refine xP (p:=2) (u:=3) w.heap.size (.slice none 0 0) _ (by kernel_rfl) rfl rfl (by exact bH K.out 0 _) rfl ⟨_,rfl,eF.nil _ _,?_⟩;exact (f.out).setCell (xF _) _
   ·go_roundw
    case rel=>exact⟨k+1,_,by omega,by go_num,aj.out ht,ag,ak,K,by omega,f.out⟩
    case measure=>simp[intOf];omega
  ·have ao:k=rows.length:=by omega
   subst ao;have HE:=zAa (zJn HW.out C.out);have Z:r.Ec.length<6:=by have:=a.few;omega
   have T:r.opn.length<10:=by have:=a.opn;omega
   obtain⟨z0,z1,z2⟩:=kY HB.out;have aD:¬ ((rows.length:Int)<(rows.length:Int)):=by omega
   clear t a
   cases J:last.toList.isEmpty
   ·go_wp2;rw[fX HE,if_pos (Or.inl J)];refine xP (p:=2) (u:=3) w.heap.size (.slice none 0 0) _ (by kernel_rfl) rfl rfl (by exact bH HB.out 0 _) rfl ⟨_,rfl,eF.nil _ _,?_⟩;exact b.setCell (xF _) _
   cases hw:(decide (0<r.Ec.length)&&decide (r.opn.length=0))
   ·have V:last.toList.isEmpty=false\/r.Ec.length=0\/0<r.opn.length:=by
     have G:=hw;rw[Bool.and_eq_false_iff,decide_eq_false_iff_not,decide_eq_false_iff_not] at G;omega
    have af:=zAa V;clear V;go_wp2_with (first | (go_at_call 32;refine (zFA _ _ r _ HR.out Z T).mono ?_;rintro e w' ⟨rfl,rfl⟩;rw[hw]));rw[fX HE,if_pos af.out];refine xP (p:=2) (u:=3) w.heap.size (.slice none 0 0) _ (by kernel_rfl) rfl rfl (by exact bH HB.out 0 _) rfl ⟨_,rfl,eF.nil _ _,?_⟩;exact b.setCell (xF _) _
   ·have S:¬ (last.toList.isEmpty=false\/r.Ec.length=0\/0<r.opn.length):=by
     have G:=hw;rw[Bool.and_eq_true,decide_eq_true_eq,decide_eq_true_eq] at G;rintro (h | h | h)
     ·rw[J] at h;cases h
     ·omega
     ·omega
    have ae:=zAa S;clear S;obtain⟨tv,ov,vs,F⟩:=HR.out;obtain⟨ta,tc,oa,oc,rfl,rfl⟩:=F.iN;have M:=zAa F;clear F;go_wp2_with (first | (go_at_call 32;refine (zFA _ _ r _ HR.out Z T).mono ?_;rintro e w' ⟨rfl,rfl⟩;rw[hw]) | (go_at_call 33;refine (zGp _ _ r _ _ vs _ M.out).mono ?_;rintro e w4 ⟨rfl,D⟩;have d:=(D.block _ (by omega)).trans HB.out;obtain⟨y0,y1,y2⟩:=kY d;have ac:=zAa d;clear d));rw[fX HE,if_neg ae.out];refine xP (p:=2) (u:=3) w.heap.size _ _ (by kernel_rfl) rfl rfl (by exact bH ac.out 0 _) rfl ⟨_,rfl,zHF M.out D (by omega) _,(b.trans (D.mono (by omega))).setCell (xF _) _⟩
theorem zDK {b:Func} {p q u v:Tmp} (h:b.results=#[.tmp p,.tmp q,.tmp u,.tmp v]) (a:Array Value) (c:Program) (w:World) :
  (results b a).run c w=.ok (.tuple #[a.getD p undef,a.getD q undef,a.getD u undef,a.getD v undef]) w:=by
 simp only[results,h];simp[Sem.run_bind,Result.andThen]
namespace Q
structure ED.Ok (m:ED) (n:Nat):Prop where
 regs:∀ x∈m.regs,0<=x/\x<4
 made:∀ x∈m.made,x<M64
 Ee:m.Ee<M64
 evs:∀ e∈m.Ea,0<=e.value/\e.value<4/\e.Ef<M64
 len:m.Ea.length<=2*n
 bars:m.bars<=n
 unread:m.unread<1000000000
def kKK (a:Opd):Prop:=0<=a.n/\a.n<4
def kCY (st:Stm):Prop:=kKK st.a/\kKK st.b
theorem kLG (l:List Int) (h:∀ x∈l,0<=x/\x<4) (i:Nat):0<=l.getD i 0/\l.getD i 0<4:=by
 by_cases hi:i<l.length
 ·rw[eT l i hi];exact h _ (xW hi)
 ·simp[List.getD,xg (by omega:l.length<=i)]
theorem ED.Ok.value (h:m.Ok n) {a:Opd} (b:kKK a):0<=m.value a/\m.value a<4:=by
 unfold ED.value
 split
 ·split
  ·omega
  ·exact kLG _ h.regs _
 ·exact b
theorem ED.Ok.aV (h:m.Ok n) (i:Nat):0<=m.aV i/\m.aV i<4:=by
 unfold ED.aV;by_cases hi:i<m.Ea.length
 ·have e:m.Ea.getD i Ev.zero=m.Ea[i]:=by simp[hi]
  rw[e];have:=h.evs _ (xW hi);omega
 ·have e:m.Ea.getD i Ev.zero=Ev.zero:=by simp[xg (by omega:m.Ea.length<=i)]
  rw[e];simp[Ev.zero]
theorem ED.Ok.bK (h:m.Ok n) (d v:Int) (s:Nat) (c:0<=v/\v<4) (b:s<M64):(m.bK d v s).Ok n:=by
 unfold ED.bK
 split
 ·exact h
 ·refine⟨fun x a=>?_,fun x a=>?_,h.Ee,h.evs,h.len,h.bars,h.unread⟩
  ·rcases xh a with a | rfl
   ·exact h.regs x a
   ·exact c
  ·rcases xh a with a | rfl
   ·exact h.made x a
   ·exact b
theorem ED.Ok.mE (h:m.Ok n):m.Ok (n+1):=⟨h.regs,h.made,h.Ee,h.evs,by have:=h.len;omega,by have:=h.bars;omega,h.unread⟩
theorem ED.Ok.aU (h:m.Ok n) (st:Stm):(∀ x∈(m.aU st).regs,0<=x/\x<4)/\(∀ x∈(m.aU st).made,x<M64)/\(m.aU st).Ee<M64/\(∀ e∈(m.aU st).Ea,0<=e.value/\e.value<4/\e.Ef<M64)/\(m.aU st).Ea.length=m.Ea.length+1/\(m.aU st).unread<1000000000:=by
 refine⟨h.regs,h.made,h.Ee,fun e a=>?_,by simp[ED.aU],by have:=h.unread;simp[ED.aU];omega⟩;simp only[ED.aU,x3,x7] at a
 rcases a with a | rfl
 ·exact h.evs e a
 ·refine⟨by simp;omega,by simp;omega,?_⟩;simp[ED.event];exact h.Ee
end Q
theorem yR (B g k:Nat) (m:ED) (ev:Value) (st:Stm) (w:World) (h:Em w B g m ev) (p:m.Ok k) (q:kCY st) :
  Calls prog 143 #[.pointer (some ⟨g,0,none⟩),.agg (aQ st)] w fun x Y=>x=.returned (.int .i64 (m.bF st))/\Below w.heap.size w Y:=by
 obtain⟨V,U,o⟩:=jE w (aQ st) 109;have z:=zAa (h.below o);have O:=zAa o;have C:Hid (bC _ _ st):=V;have u:Hid (m.bF st=if st.kind==7 then (m.value ⟨st.a.reg,st.a.n⟩+m.value ⟨st.b.reg,st.b.n⟩) % 4 else if st.kind==8 then (m.value ⟨st.a.reg,st.a.n⟩+4-m.value ⟨st.b.reg,st.b.n⟩) % 4 else if st.kind==9 then (if m.value ⟨st.a.reg,st.a.n⟩==m.value ⟨st.b.reg,st.b.n⟩ then 1 else 0) else m.value ⟨st.a.reg,st.a.n⟩):=rfl;have ha:=p.value (a:=⟨st.a.reg,st.a.n⟩) q.1;have hb:=p.value (a:=⟨st.b.reg,st.b.n⟩) q.2;clear h o V U p q;simp only[aQ] at *;go_enter func143,ntmps143;go_upto_region 1 with fail
 generalize X:w.alloc (.cells #[.int .i64 st.kind,.int .i64 st.line,.int .i64 st.dest,.int .i64 st.var,.bool st.a.reg,.int .i64 st.a.n,.bool st.b.reg,.int .i64 st.b.n,.int .i64 st.order,.int .i64 st.scope,.int .i64 st.label] 109)=Z at *;obtain⟨E,F,G,H,I,J,K,L,M,N,d,f,i⟩:=C.out.facts;clear X;go_upto_region 2 with (first
  | (go_at_call 121;refine (tG B g m ev st.a.reg st.a.n _ z.out).mono ?_;rintro e w1 ⟨rfl,j⟩;have S:=zAa (z.out.below j);have A:=zAa (C.out.below j);have W:=zAa (aK O.out (xF _) j);clear E F G H I J K L M N d f i;obtain⟨E,F,G,H,I,J,K,L,M,N,d,f,i⟩:=A.out.facts))
 go_upto_region 3 with (first
  | (go_at_call 121;refine (tG B g m ev st.b.reg st.b.n _ S.out).mono ?_;rintro e w2 ⟨rfl,D⟩;have T:=zAa (A.out.below D);have t:=zAa (aK W.out (xF _) D);clear E F G H I J K L M N d f i;obtain⟨E,F,G,H,I,J,K,L,M,N,d,f,i⟩:=T.out.facts))
 generalize m.value ⟨st.a.reg,st.a.n⟩=x at *;generalize m.value ⟨st.b.reg,st.b.n⟩=y at *
 cases z7:(st.kind==7)
 rotate_left
 ·have c:Hid (m.bF st=(x+y) % 4):=by unfold Hid;rw[u.out,z7];rfl
  go_wp2;go_ret;rw[c.out];exact⟨rfl,t.out⟩
 cases z8:(st.kind==8)
 rotate_left
 ·have c:Hid (m.bF st=(x+4-y) % 4):=by unfold Hid;rw[u.out,z7,z8];rfl
  go_wp2;go_ret;rw[c.out];exact⟨rfl,t.out⟩
 cases z9:(st.kind==9)
 ·have c:Hid (m.bF st=x):=by unfold Hid;rw[u.out,z7,z8,z9];rfl
  go_wp2;go_ret;rw[c.out];exact⟨rfl,t.out⟩
 cases zz:(x==y)
 ·have c:Hid (m.bF st=0):=by unfold Hid;rw[u.out,z7,z8,z9,zz];rfl
  go_wp2;go_ret;rw[c.out];exact⟨rfl,t.out⟩
 ·have c:Hid (m.bF st=1):=by unfold Hid;rw[u.out,z7,z8,z9,zz];rfl
  go_wp2;go_ret;rw[c.out];exact⟨rfl,t.out⟩
namespace P
theorem kCI:kKK Opd.zero:=⟨by decide,by decide⟩
end P
namespace Q
theorem ED.gJ (m:ED) (st:Stm) (v:Int) (s:Nat):(m.bX st v s).Ea.length=m.Ea.length+1:=by simp[ED.bX,ED.put]
theorem ED.gN {n:Nat} (c:∀ e∈m.Ea,0<=e.value/\e.value<4/\e.Ef<M64) (d:m.Ee<M64) (st:Stm) (v:Int) (s:Nat) (b:0<=v/\v<4) (f:s<M64):∀ e∈(m.bX st v s).Ea,0<=e.value/\e.value<4/\e.Ef<M64:=by
 intro e a;simp only[ED.bX,ED.put,x3,x7] at a
 rcases a with a | rfl
 ·exact c e a
 ·exact⟨b.1,b.2,mM d f⟩
theorem BI (x:Int):0<=x % 4/\x % 4<4:=⟨Int.emod_nonneg _ (by decide),Int.emod_lt_of_pos _ (by decide)⟩
theorem ED.Ok.bF (h:m.Ok n) (a:kCY st):0<=m.bF st/\m.bF st<4:=by
 unfold ED.bF
 split
 ·exact BI _
 ·split
  ·exact BI _
  ·split
   ·split<;>omega
   ·exact h.value a.1
theorem ED.Ok.pT (h:m.Ok n) (st:Stm):(m.aU st).Ok (n+1):=by
 obtain⟨a,b,c,d,f,e⟩:=h.aU st;exact⟨a,b,c,d,by have:=h.len;omega,by have:=h.bars;show m.bars<=n+1;omega,e⟩
theorem ED.Ok.bG (h:m.Ok n) (g:kCY st):(m.bG st).Ok (n+1):=by
 have c:=h.pT st;have f:(m.aU st).Ea.length=m.Ea.length+1:=(h.aU st).2.2.2.2.1;have p:=h.len;have i:∀ (v:Int) (s:Nat),0<=v/\v<4->s<M64->((m.aU st).bX st v s).Ok (n+1):=fun v s o j =>
  ⟨c.regs,c.made,c.Ee,ED.gN (n:=n) c.evs c.Ee st v s o j,by rw[ED.gJ,f];omega,c.bars,c.unread⟩
 unfold ED.bG
 split
 ·exact c.bK _ _ _ (c.aV _) (oK _)
 split
 ·exact⟨h.regs,h.made,h.Ee,ED.gN (n:=n) h.evs h.Ee st _ _ (h.value g.1) (lS h.made _),by unfold ED.store;rw[ED.gJ];omega,by have:=h.bars;show m.bars<=n+1;omega,h.unread⟩
 split
 ·unfold ED.step
  split
  ·have d:=i ((m.value st.a+(m.aU st).aV m.Ea.length) % 4) (m.Ed st.a ||| cY (m.Ea.length:Nat)) (BI _) (mM (lS h.made _) (oK _));exact d.bK _ _ _ (d.aV _) (oK _)
  ·have d:=i (m.value st.a) (m.Ed st.a) (h.value g.1) (lS h.made _);exact d.bK _ _ _ (d.aV _) (oK _)
 split
 ·refine⟨h.regs,h.made,h.Ee,fun e b=>?_,by simp[ED.put];omega,by have:=h.bars;show m.bars<=n+1;omega,h.unread⟩;simp only[ED.put,x3,x7] at b
  rcases b with b | rfl
  ·exact h.evs e b
  ·simp[ED.event]
 split
 ·refine⟨h.regs,h.made,h.Ee,fun e b=>?_,by simp[ED.dC];omega,by have:=h.bars;show m.bars+1<=n+1;omega,h.unread⟩;simp only[ED.dC,x3,List.mem_cons,List.mem_nil_iff,or_false] at b
  rcases b with b | rfl | rfl
  ·exact h.evs e b
  ·simp[ED.event]
  ·simp[ED.event]
 split
 ·exact (h.bK _ _ _ (h.bF g) (mM (lS h.made _) (lS h.made _))).mE
 ·exact h.mE
theorem ED.Ok.kV (h:m.Ok n) (st:Stm):(m.kV st).Ok n:=⟨h.regs,h.made,mM h.Ee (lS h.made _),h.evs,h.len,h.bars,h.unread⟩
theorem CQ {p:ED × Nat} (h:p.1.Ok n) (a:kCY st):(carry p st).1.Ok (n+1):=by
 unfold carry
 split
 ·split
  ·exact (h.kV st).mE
  ·exact h.bG a
 ·split
  ·exact h.mE
  ·split<;>exact h.mE
theorem CA (t b:Int) (u:Nat) (d:u<1000000000):(ED.start t b u).Ok 0:=by
 refine⟨?_,?_,(by show (0:Nat)<M64;decide),?_,by simp[ED.start],by simp[ED.start],d⟩
 ·intro x a;simp[ED.start] at a;omega
 ·intro x a;simp[ED.start] at a;rw[a];decide
 ·intro e c;simp[ED.start] at c
theorem kIg (p:ED × Nat) (st:Stm):(carry p st).2<=p.2+1:=by
 unfold carry
 split
 ·split
  ·split<;>simp
  ·simp
 ·split
  ·simp
  ·split
   ·simp;omega
   ·omega
theorem DX:∀ {a b c:List Int},cC a b<0->cC b c<0->cC a c<0
 | [],[],c,h,k=>by simp[cC] at h
 | [],b::bs,[],h,k=>by simp[cC] at k
 | [],b::bs,c::cs,h,k=>by simp[cC]
 | a::x,[],c,h,k=>by simp[cC] at h
 | a::x,b::bs,[],h,k=>by simp[cC] at k
 | a::x,b::bs,c::cs,h,k=>by
  simp only[cC] at h k ⊢;by_cases h1:a=b
  ·subst h1;by_cases h2:a=c
   ·subst h2;simp at h k ⊢;exact DX h k
   ·simp[h2] at k ⊢;exact k
  ·by_cases h2:b=c
   ·subst h2;simp[h1] at h ⊢;exact h
   ·simp[h1,h2] at h k;have d:a≠c:=by omega
    simp[d];omega
theorem kKR:∀ {a b:List Int},cC a b=0->a=b
 | [],[],_=>rfl
 | [],b::bs,h=>by simp[cC] at h;omega
 | a::x,[],h=>by simp[cC] at h
 | a::x,b::bs,h=>by
  simp only[cC] at h;by_cases h1:a=b
  ·subst h1;simp at h;rw[kKR h]
  ·simp[h1] at h;omega
theorem kHn:∀ (a:List Int),cC a a=0
 | []=>rfl
 | a::x=>by simp[cC,kHn x]
theorem kHo:∀ {a b:List Int},0<cC a b->cC b a<0
 | [],[],h=>by simp[cC] at h
 | [],b::bs,h=>by simp[cC] at h;omega
 | a::x,[],h=>by simp[cC]
 | a::x,b::bs,h=>by
  simp only[cC] at h ⊢;by_cases h1:a=b
  ·subst h1;simp at h ⊢;exact kHo h
  ·have c:b≠a:=fun e=>h1 e.symm
   simp[h1] at h;simp[c];omega
def zPb (l:List (List Int)):Prop:=l.Pairwise fun a b=>cC a b<0
def aO (l:List (List Int)) (r:List Int):Nat:=(l.takeWhile fun x=>decide (cC x r<0)).length
theorem zPS (l:List (List Int)) (r:List Int):aO l r<=l.length:=by
 induction l with
 | nil=>simp[aO]
 | cons x q ih =>
  unfold aO at *;rw[x1]
  split
  ·simp;omega
  ·simp
theorem kKT {r:List Int}:∀ {l:List (List Int)} {p:Nat},p<=l.length->(∀ i (h:i<l.length),i<p->cC l[i] r<0)->(∀ h:p<l.length,¬ cC l[p] r<0)->aO l r=p
 | [],p,h,_,_=>by simp at h;subst h;rfl
 | x::q,0,h,h1,h2=>by
  have:=h2 (by simp);simp at this;unfold aO;rw[x1,decide_eq_false (by omega)];rfl
 | x::q,p+1,h,h1,h2=>by
  have b:=h1 0 (by simp) (by omega);simp at b;have ih:aO q r=p:=kKT (by simpa using h) (fun i c a=>by have:=h1 (i+1) (by simpa using c) (by omega);simpa using this) (fun a=>by have:=h2 (by simpa using a);simpa using this);unfold aO at *;rw[x1,decide_eq_true b];simp[ih]
theorem kKN {r:List Int}:∀ (l:List (List Int)),eW l r=if h:aO l r<l.length then (if cC l[aO l r] r=0 then l else l.take (aO l r)++r::l.drop (aO l r)) else l++[r]
 | []=>rfl
 | x::q=>by
  have ih:=kKN (r:=r) q;by_cases hx:cC x r<0
  ·have e:aO (x::q) r=aO q r+1:=by unfold aO;rw[x1,decide_eq_true hx];rfl
   rw[eW,if_pos hx,ih];by_cases hl:aO q r<q.length
   ·have a:aO (x::q) r<(x::q).length:=by simp;omega
    rw[dif_pos hl,dif_pos a];simp only[e,List.getElem_cons_succ]
    split
    ·rfl
    ·simp
   ·have a:¬ aO (x::q) r<(x::q).length:=by simp;omega
    rw[dif_neg hl,dif_neg a];rfl
  ·have e:aO (x::q) r=0:=by unfold aO;rw[x1,decide_eq_false hx];rfl
   have a:aO (x::q) r<(x::q).length:=by simp;omega
   rw[eW,if_neg hx,dif_pos a];simp only[e,List.getElem_cons_zero];by_cases h0:cC x r=0
   ·simp[h0]
   ·simp[h0]
theorem BU {r y:List Int}:∀ {l:List (List Int)},y∈eW l r->y=r\/y∈l
 | [],h=>by simp[eW] at h;exact Or.inl h
 | x::q,h=>by
  rw[eW] at h
  split at h
  ·rcases List.mem_cons.1 h with rfl | h
   ·exact Or.inr (by simp)
   ·rcases BU h with h | h
    ·exact Or.inl h
    ·exact Or.inr (by simp[h])
  ·split at h
   ·exact Or.inr h
   ·rcases List.mem_cons.1 h with rfl | h
    ·exact Or.inl rfl
    ·exact Or.inr h
theorem zZ {r:List Int}:∀ {l:List (List Int)},zPb l->zPb (eW l r)
 | [],_=>by simp[eW,zPb]
 | x::q,h=>by
  have g:zPb q:=(List.pairwise_cons.1 h).2;have e:=(List.pairwise_cons.1 h).1;rw[eW]
  split
  ·rename_i c;refine List.pairwise_cons.2 ⟨fun y a=>?_,zZ g⟩
   rcases BU a with rfl | a
   ·exact c
   ·exact e y a
  ·rename_i f
   split
   ·exact h
   ·rename_i d;have i:¬ cC x r=0:=by simpa using d
    have b:cC r x<0:=kHo (by omega);refine List.pairwise_cons.2 ⟨fun y a=>?_,h⟩
    rcases List.mem_cons.1 a with rfl | a
    ·exact b
    ·exact DX b (e y a)
theorem kGn (h:zPb l) (r:List Int) (i m:Nat) (d:m<l.length) (b:i<l.length) (c:i<=m) (a:cC l[m] r<0):cC l[i] r<0:=by
 by_cases e:i=m
 ·subst e;exact a
 ·exact DX (List.pairwise_iff_getElem.1 h i m b d (by omega)) a
theorem kJF (h:zPb l) (r:List Int) (i m:Nat) (e:m<l.length) (d:i<l.length) (a:m<=i) (c:¬ cC l[m] r<0):¬ cC l[i] r<0 :=
 fun b=>c (kGn h r m i d e a b)
end Q
namespace P
def nE (s:Stm):Bool:=s.kind != 11
def iE (s:Stm):Bool:=s.kind==11
def iB (s:Stm):Bool:=s.kind==10
theorem kIE {b:List Thr} (h:b≠[]) (s:Stm):∃ a t,b=a++[t]/\zMI b s=a++[{ t with Eb:=t.Eb++[s] }]:=by
 rcases List.eq_nil_or_concat b with c | ⟨a,t,rfl⟩
 ·exact absurd c h
 ·rw[List.concat_eq_append];exact⟨a,t,rfl,sH a t s⟩
theorem kCA (all:List Thr):∀ (l:List Thr),(∀ u∈l,0<u.line)->zMs all l=0->∀ t∈l,bars t.Eb=zNl t.block all/\bars t.Eb<=2
 | [],_,_,t,a=>by simp at a
 | u::l,hl,h,t,a=>by
  simp only[zMs] at h
  split at h
  ·have:=hl u (by simp);omega
  ·rename_i b
   rcases List.mem_cons.1 a with rfl | a
   ·simp at b;exact⟨b.1,by omega⟩
   ·exact kCA all l (fun u c=>hl u (List.mem_cons_of_mem _ c)) h t a
theorem kHA {p q:Stm->Bool} (h:∀ s,p s=true->q s=true):∀ l,cnt p l<=cnt q l
 | []=>by simp[cnt]
 | s::l=>by
  have:=kHA h l;simp only[cnt];by_cases hp:p s=true
  ·rw[if_pos hp,if_pos (h s hp)];omega
  ·rw[if_neg hp];split<;>omega
theorem kGC:∀ l:List Stm,(l.length:Int)=cnt nE l+cnt iE l
 | []=>by simp[cnt]
 | s::l=>by
  have:=kGC l;simp only[cnt,nE,iE,x9];by_cases h:s.kind=11
  ·simp[h];omega
  ·simp[h];omega
end P
namespace Q
theorem kKo (a b:List Int) (k:Nat) (c:k<a.length) (d:k<b.length):cC (a.drop k) (b.drop k)=if a.getD k 0 != b.getD k 0 then a.getD k 0-b.getD k 0 else cC (a.drop (k+1)) (b.drop (k+1)):=by
 rw[x8 c,x8 d,eT a k c,eT b k d];rfl
theorem kJL (a b:List Int) (k:Nat) (c:k<a.length) (d:b.length<=k):cC (a.drop k) (b.drop k)=1:=by
 rw[x8 c,xi d];rfl
theorem kKH (a b:List Int) (c:a.length<=b.length):cC (a.drop a.length) (b.drop a.length)=(a.length:Int)-b.length:=by
 rw[xi (xF _)];simp[cC];omega
def kCs (l:List Int):Prop:=∀ x∈l,0<=x/\x<4
end Q
theorem xY (T U:Value) (a b:List Int) (w:World) (N:zCj w T a) (O:zCj w U b) (i:kCs a) (o:kCs b) (W:a.length<1000) (X:b.length<1000) :
  Calls prog 113 #[T,U] w fun e Y=>e=.returned (.int .i64 (cC a b))/\Below w.heap.size w Y:=by
 obtain⟨xa,Z,rfl,I⟩:=N.form;obtain⟨xb,cb,rfl,J⟩:=O.form;have z:=zAa i;have A:=zAa o;clear N O i o;go_enter func113,ntmps113;go_wp2;go_loopw [8] (fun j wr=>∃ k:Nat,k<=a.length/\k<=b.length/\j=.int .i64 k/\Hid (cC a b=cC (a.drop k) (b.drop k))/\Below w.heap.size w wr) (fun j _=>a.length-(intOf j).toNat)
 case atStart=>exact⟨0,x2 _,x2 _,rfl,rfl,x5 _ _⟩
 case round =>
  obtain⟨k,hk,F,rfl,q,c⟩:=hrel;by_cases hlt:k<a.length
  ·have V:(k:Int)<(a.length:Int):=by omega
   by_cases hb2:b.length<=k
   ·have E:(b.length:Int)<=(k:Int):=by omega
    have t:Hid (cC a b=1):=by unfold Hid;rw[q.out,kJL a b k hlt hb2]
    go_wp2;go_ret;rw[t.out];exact⟨rfl,c⟩
   ·have d:k<b.length:=by omega
    have S:(k:Int)<(b.length:Int):=by omega
    have E:decide ((b.length:Int)<=(k:Int))=false:=decide_eq_false (by omega);obtain⟨L,rfl,f,C⟩:=I (by omega);obtain⟨M,rfl,g,D⟩:=J (by omega);have d1:wr.cell? ⟨L,k,none⟩=some (.int .i64 (a.getD k 0)):=by rw[eT a k hlt];exact (c.cell (p:=⟨L,k,none⟩) f).trans (C k hlt)
    have d2:wr.cell? ⟨M,k,none⟩=some (.int .i64 (b.getD k 0)):=by rw[eT b k d];exact (c.cell (p:=⟨M,k,none⟩) g).trans (D k d)
    have l1:=x4 f c.size;have l2:=x4 g c.size;have K:=zAa (kKo a b k hlt d);have s1:0<=a.getD k 0/\a.getD k 0<4:=by rw[eT a k hlt];exact z.out _ (xW hlt)
    have s2:0<=b.getD k 0/\b.getD k 0<4:=by rw[eT b k d];exact A.out _ (xW d)
    generalize a.getD k 0=x at *;generalize b.getD k 0=y at *
    cases hz:(x != y)
    ·have u:Hid (cC a b=cC (a.drop (k+1)) (b.drop (k+1))):=by unfold Hid;rw[q.out,K.out,hz];rfl
     go_wp2;go_quiet (fail)
     all_goals
      go_wp2;go_roundw
      case rel=>exact⟨k+1,by omega,by omega,by go_num,u,c.trans (dZ _ _ _)⟩
      case measure=>simp[intOf];omega
    ·have u:Hid (cC a b=x-y):=by unfold Hid;rw[q.out,K.out,hz];rfl
     have H:IntKind.i64.wrap (x-y)=x-y:=IntWalk.i64_in _ ⟨by omega,by omega⟩;go_wp2;go_quiet (fail)
     all_goals
      go_wp2;go_quiet (fail)
      all_goals
       go_wp2;go_ret;rw[u.out];exact⟨by first | rfl | rw[H],(c.trans (dZ _ _ _)).trans (dZ _ _ _)⟩
  ·have G:k=a.length:=by omega
   subst G;have t:Hid (cC a b=(a.length:Int)-b.length):=by unfold Hid;rw[q.out,kKH a b F]
   have H:IntKind.i64.wrap ((a.length:Int)-b.length)=(a.length:Int)-b.length:=IntWalk.i64_in _ ⟨by omega,by omega⟩;go_wp2;go_ret;rw[t.out];exact⟨by first | rfl | rw[H],c⟩
structure RowsI (w:World) (B:Nat) (v:Value) (rs:List (List Int)) (vs:List Value):Prop where
 own:w.ownsRow B 68 1 v rs.length vs
 len:vs.length=rs.length
 rows:∀ i (h:i<rs.length) (u:Value),vs[i]?=some u->zCj w u rs[i]
theorem RowsI.below {b:World} (h:RowsI w B v rs vs) (a:Below w.heap.size w b):RowsI b B v rs vs :=
 ⟨aX h.own (fun k e=>a.block k (h.own.lt k e).2),h.len,fun i c u d=>(h.rows i c u d).below a⟩
theorem RowsI.form (h:RowsI w B v rs vs):∃ a c,v=.slice a rs.length c/\(0<rs.length->∃ b,a=some ⟨b,0,none⟩/\B<=b/\b<w.heap.size/\∀ i (f:i<vs.length),w.cell? ⟨b,i,none⟩=some vs[i]):=by
 rcases h.own.2 with ⟨e,j⟩ | ⟨k,c,g,e,o,_⟩
 ·exact⟨none,0,by rw[e,j],fun h=>by omega⟩
 ·refine⟨_,c,e,fun _=>⟨k,rfl,o,(h.own.lt k (by rw[e];rfl)).2,fun i f=>?_⟩⟩;have d:=h.own;rw[e] at d;rw[d.cellAt i (by have:=h.len;omega),x6 f]
theorem zHs (B g:Nat) (v vr:Value) (rs:List (List Int)) (vs:List Value) (r:List Int) (w:World) (K:w.cell? ⟨g,0,none⟩=some v) (hg:g<w.heap.size) (h:RowsI w B v rs vs) (V:zCj w vr r) (I:zPb rs) (hs:∀ x∈rs,kCs x/\x.length<1000) (J:kCs r/\r.length<1000) (hn:rs.length<100000000) :
  Calls prog 112 #[.pointer (some ⟨g,0,none⟩),vr] w fun e w'=>e=.returned (.int .i64 (aO rs r:Int))/\Below w.heap.size w w':=by
 obtain⟨xa,ca,rfl,W⟩:=h.form;obtain⟨ra,rc,rfl,_⟩:=V.form;have H:=zAa h;have HR:=zAa V;have C:=zAa I;have HS:=zAa hs;have q:=zAa J;clear h V I hs J;go_enter func112,ntmps112;go_wp2;go_loopw [5,6] (fun a b wr=>∃ f j:Nat,f<=j/\j<=rs.length/\a=.int .i64 f/\b=.int .i64 j/\Hid (∀ i (h:i<rs.length),i<f->cC rs[i] r<0)/\Hid (∀ i (h:i<rs.length),j<=i->0<=cC rs[i] r)/\Below w.heap.size w wr) (fun a b _=>(intOf b).toNat-(intOf a).toNat)
 case atStart=>exact⟨0,rs.length,x2 _,xF _,rfl,rfl,fun i h h2=>by omega,fun i h h2=>by omega,x5 _ _⟩
 case round =>
  obtain⟨f,j,ad,T,rfl,rfl,Y,X,c⟩:=hrel;have d0:=aC c hg K;have lg:=x4 hg c.size;by_cases hlt:f<j
  ·have ac:(f:Int)<(j:Int):=by omega
   obtain⟨d,U⟩:∃ d:Nat,d=f+(j-f) / 2:=⟨_,rfl⟩;have ae:f<=d:=by omega
   have af:d<j:=by omega
   have ag:(f:Int)+((j:Int)-(f:Int)) / 2=(d:Int):=by omega
   have o:d<rs.length:=by omega
   have aa:(d:Int)<(rs.length:Int):=by omega
   obtain⟨b,rfl,ab,Z,S⟩:=W (by omega);have G:d<vs.length:=by rw[H.out.len];exact o
   have cm:wr.cell? ⟨b,d,none⟩=some vs[d]:=(c.cell (p:=⟨b,d,none⟩) Z).trans (S d G);have lb:=x4 Z c.size;have D:=zAa ((H.out.rows d o vs[d] (x6 G)).below c);have t:=HS.out rs[d] (xW o);have E:=zAa (HR.out.below c);have O:Hid (cC rs[d] r<0->∀ i (h:i<rs.length),i<d+1->cC rs[i] r<0):=fun K i A F=>kGn C.out r i d o A (by omega) K
   have L:Hid (0<=cC rs[d] r->∀ i (h:i<rs.length),d<=i->0<=cC rs[i] r):=fun K i A F=>by have:=kJF C.out r i d o A F (by omega);omega
   generalize vs[d]=u at *;generalize rs[d]=y at *;clear U;by_cases hz:cC y r<0
   ·have N:=zAa (O.out hz);go_wp2_with (first | (go_at_call 113;refine (xY _ _ y r _ D.out E.out t.1 q.out.1 t.2 q.out.2).mono ?_;rintro e w1 ⟨rfl,z⟩));go_roundw
    case rel=>exact⟨d+1,j,by omega,T,by go_num,rfl,N,X,aK c (xF _) z⟩
    case measure=>simp[intOf];omega
   ·have M:=zAa (L.out (by omega));go_wp2_with (first | (go_at_call 113;refine (xY _ _ y r _ D.out E.out t.1 q.out.1 t.2 q.out.2).mono ?_;rintro e w1 ⟨rfl,z⟩));go_roundw
    case rel=>exact⟨f,d,by omega,by omega,rfl,by first | rfl | go_num,Y,M,aK c (xF _) z⟩
    case measure=>simp[intOf];omega
  ·obtain rfl:f=j:=by omega
   have HE:Hid (aO rs r=f):=kKT (by omega) Y.out (fun h=>by have:=X.out f h (by omega);omega);go_wp2;go_ret;rw[HE.out];exact⟨rfl,c⟩
end Go.Proofs.YtonodfjdiepglaaGreatDoor
