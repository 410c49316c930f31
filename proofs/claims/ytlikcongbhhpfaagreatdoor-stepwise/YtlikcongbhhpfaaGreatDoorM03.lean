import Derived.Deep.MidRow
import Derived.Laws.Bits64b
import Derived.Deep.RegionLaw
import Derived.Deep.RegionWith
import Derived.BigQuiet
import Derived.Deep.QuietTactic
import Derived.Deep.OwnRows
import Derived.Laws.IdiomCopy
import Derived.Test.YtlikcongbhhpfaaGreatDoorM02
set_option linter.unusedVariables false
set_option linter.unusedSimpArgs false
set_option maxHeartbeats 12800000
namespace Go.Proofs.YtlikcongbhhpfaaGreatDoor
open Go Go.RowKit Go.Proofs.Tryz P
set_option maxRecDepth 1000000
variable {B b g k n sz:Nat}{e e' t:TypeId}{fr:Nat × Nat}{w w':World}{cs:Array Value}{ops:Array Oper}{op:Oper}{a:Act}{st:JR}{c l o r:List Nat}{α:Type}{ov tv v:Value}{vs xs:List Value}
open List renaming length->A
open _root_.Array renaming size->K
open Go.World renaming heap->J,cell?->V
open Option renaming some->Y,none->G
open Go.Obj renaming cells->C
open Go.IntKind renaming i64->E
open Go.Value renaming int->U,bool->L,agg->D
open Go.Ending renaming returned->z
open Bool renaming false->M,true->T
open List renaming replicate->xF,range->xW,drop_eq_getElem_cons->x8,mem_map->xa,set_append_right->xb,getElem_mem->xg,drop_eq_nil_of_le->xh,replicate_succ'->xi,append_assoc->xj
open Go.Value renaming int->xR,ownBlock->x9,oneCell'->xd
open Go.World renaming cell?->x0,setCells->x2,frozen?->x6,cell?_setCell_other->xk,cell?_of_block->xm
open Nat renaming le_refl->x1
open Go.RowKit.Below renaming heap_alloc->x3,refl->x4,heap_setCell->x5
open _root_.Array renaming getElem?_eq_none->x7,ext_getElem?->xc
open Go.Result renaming andThen_ok->xe
open Go.Instr renaming makeSlice->xl
def pR(cur:Array Value)(o:Nat):List Value->Array Value
 |[]=>cur
 |v::r=>pR (cur.setIfInBounds o v) (o+1) r
theorem uY{g:Nat}{e:TypeId}{fr:Nat×Nat}:∀(vs:List Value) (o:Nat) (w:World) (d:Array Value),w.heap[g]?=Y (C d e fr)->(w.setCells g o vs).heap[g]?=Y (C (pR d o vs) e fr)
 |[],_,_,_,h=>h
 |v::r,o,w,d,h=>by
  rw[x2];exact uY r (o+1) _ _ (bC h o v)
theorem CT{g:Nat}:∀(vs:List Value) (o:Nat) (w:World),w.grownBy (w.setCells g o vs) (Y g)
 |[],_,w=>eA w _
 |v::r,o,w=>by
  rw[x2];exact lE (dB (eA _ _) _ _) (CT r (o+1) _)
theorem Ho(vs:List Value):∀(o:Nat) (d:Array Value),(pR d o vs).size=d.size:=by
 induction vs with
 |nil=>intro o d;rfl
 |cons v r ih=>intro o d;rw[pR,ih];simp
theorem TE(vs:List Value):∀(o:Nat) (d:Array Value) (j:Nat),o+A vs<=d.size->(pR d o vs)[j]?=if o<=j/\j<o+A vs then vs[j-o]? else d[j]?:=by
 induction vs with
 |nil=>intro o d j _;simp[pR];omega
 |cons v r ih =>
  intro o d j h;simp at h;rw[pR,ih _ _ _ (by simp;omega)];by_cases h1:o=j
  ·subst h1;rw[if_neg (by omega),if_pos (by simp)];simp[Array.getElem?_setIfInBounds];omega
  ·by_cases h2:o+1<=j/\j<o+1+A r
   ·rw[if_pos h2,if_pos (by simp;omega)];rw[show j-o=j-(o+1)+1 by omega];simp
   ·rw[if_neg h2,if_neg (by simp;omega)];simp[h1]
theorem TF(d bA:Array Value)(h:d.size=bA.size):pR d 0 bA.toList=bA:=by
 apply xc;intro j;rw[TE _ _ _ _ (by simp;omega)];by_cases h1:j<bA.size
 ·rw[if_pos (by simp;omega)];simp
 ·rw[if_neg (by simp;omega),x7 (by omega),x7 (by omega)]
theorem DO(d:w.heap[g]?=Y (C cs e (0,0))):w.rangeAt g 0 cs.toList:=by
 intro j v f;simp[x0,d];simpa using f
theorem TG(d:w.heap[g]?=Y (C cs e (0,0)))(n:Nat)(i:n<=cs.size):w.there g 0 n:=by
 intro j f;simp[x0,x6,d];omega
variable {Pg:Program}
theorem rQ(w:World)(g:Nat)(f:TypeId)(cs:Array Value)(e:TypeId)(j:w.heap[g]?=Y (C cs e (0,0)))(d:TypeDesc)(p:Pg.underlying f=Y d)(i:d.isRow=T)(m:(Pg.info? f).map (·.size)=Y cs.size):
  (loadVar f ⟨g,0,G⟩).run Pg w=.ok (D cs) w:=by
 have:=run_loadVar_mid (P:=Pg) w g 0 f cs.toList d (DO j) p i (by simpa using m);simpa using this
theorem AX{rest:List Oper}{Q:Exit->Act->World->Prop}(i:op.guard=G)(f:TypeId)(x:Operand)(q:op.op=.load f x)(g:Nat)(u:a.eval x=.pointer (Y ⟨g,0,G⟩))(cs:Array Value)(e:TypeId)(m:w.heap[g]?=Y (C cs e (0,0)))(d:TypeDesc)(s:Pg.underlying f=Y d)(j:d.isRow=T)(p:(Pg.info? f).map (·.size)=Y cs.size)(h:wpList Pg ops Q rest (a.put op.dst (D cs)) w):wpList Pg ops Q (op::rest) a w :=
 wpList_load_mid i f x q g 0 u cs.toList d (DO m) s j (by simpa using p) (by simpa using h)
theorem TI{rest:List Oper}{Q:Exit->Act->World->Prop}(f:op.guard=G)(j:TypeId)(x y:Operand)(u:op.op=.store j x y)(g:Nat)(d cs:Array Value)(e:TypeId)(F:a.eval x=.pointer (Y ⟨g,0,G⟩))(H:a.eval y=D d)(p:w.heap[g]?=Y (C cs e (0,0)))(i:cs.size=d.size)(s:(Pg.info? j).map (·.size)=Y d.size)(q:d.all (·.oneCell')=T)(h:∀w',w'.heap[g]?=Y (C d e (0,0))->w.grownBy w' (Y g)->wpList Pg ops Q rest (a.put op.dst undef) w'):wpList Pg ops Q (op::rest) a w:=by
 refine wpList_store_mid f j x y u g 0 d F H (TG p _ (by omega)) s q ?_;have m:=uY d.toList 0 w cs p;rw[TF cs d i]at m;exact h _ m (CT _ _ _)
theorem eV{rest:List Oper}{Q:Exit->Act->World->Prop}(x:Operand)(d:op.guard=G)(i:op.op=.load 104 x)(g:Nat)(st:JR)(j:a.eval x=.pointer (Y ⟨g,0,G⟩))(f:KH w g st)(h:wpList prog ops Q rest (a.put op.dst (D (aC st))) w):wpList prog ops Q (op::rest) a w :=
 AX d _ x i g j _ _ f _ underlying104 Z (by kernel_rfl) h
theorem eU{rest:List Oper}{Q:Exit->Act->World->Prop}(x y:Operand)(d:op.guard=G)(i:op.op=.store 104 x y)(g:Nat)(st t:JR)(j:a.eval x=.pointer (Y ⟨g,0,G⟩))(m:a.eval y=D (aC t))(f:KH w g st)(h:∀w',KH w' g t->w.grownBy w' (Y g)->wpList prog ops Q rest (a.put op.dst undef) w'):wpList prog ops Q (op::rest) a w :=
 TI d _ x y i g (aC t) (aC st) _ j m f Z (by kernel_rfl) (by simp[aC,xd]) h
theorem Hp(h:KH w g st):(loadVar 104 ⟨g,0,G⟩).run prog w=.ok (D (aC st)) w :=
 rQ w g _ _ _ h _ underlying104 Z (by kernel_rfl)
def gB(r:JR×Bool):Value:=.tuple #[D (aC r.1),L r.2]
theorem eP{i:Func}{R:Ending->World->Prop}{p u:Tmp}(g:Nat)(st:JR)(f:Bool)(d:i.results=#[.cell p 104,.tmp u])(q:a.tmps.getD p undef=.pointer (Y ⟨g,0,G⟩))(s:a.tmps.getD u undef=L f)(h:KH w g st)(m:a.defers=[])(j:R (z (gB (st,f))) w):bodyPost prog i R .ret a w:=by
 refine bodyPost_ret (v:=gB (st,f)) ?_ m j;rw[results_cell_tmp d,q,s];have:(asAddr (.pointer (Y ⟨g,0,G⟩))).run prog w=.ok ⟨g,0,G⟩ w:=Z;rw[this,xe,Hp h,xe];rfl
namespace Q
def one(i:Int):Nat:=if i<0\/64<=i then 0 else 2^i.toNat
def OG(s:Nat)(i:Int):Bool:=s &&& one i != 0
def OT(s:Nat)(n:Int):Nat:=if n<0\/64<=n then 0 else s*2^n.toNat%18446744073709551616
def cD(r:List Nat)(a:Int):Nat:=if a<0 then 0 else r.getD a.toNat 0
def bB(r:List Nat)(a b:Int):Bool:=OG (cD r a) b
def LH(n:Nat):List Nat:=xF n 0
def cL(r:List Nat)(a b:Int):List Nat:=if a<0\/(A r:Int)<=a\/(A r:Int)<=b then r else r.set a.toNat (cD r a|||one b)
def cE(r o:List Nat):List Nat:=(xW (A r)).map fun i:Nat=>cD r (i:Int)|||cD o (i:Int)
def fY(r o:List Nat):List Nat:=(xW (A r)).map fun i:Nat=>cD r (i:Int) &&& cD o (i:Int)
def nG(r:List Nat)(a:Nat)(t:List Nat)(b:Nat):List Nat:=if bB r a b then cL t b a else t
def oK(r:List Nat)(t:List Nat)(a:Nat):List Nat:=(xW (A r)).foldl (nG r a) t
def lB(r:List Nat):List Nat:=(xW (A r)).foldl (oK r) (LH (A r))
def jG(r next:List Nat)(a:Nat)(acc:Nat)(b:Nat):Nat:=if bB r a b then acc|||cD next b else acc
def jN(r next:List Nat)(a:Nat):Nat:=(xW (A r)).foldl (jG r next a) 0
def LR(r next:List Nat):List Nat:=(xW (A r)).map (jN r next)
def jH(b:Nat)(c:List Nat)(a:Nat):List Nat:=if bB c a b then c.set a (cD c a|||cD c b)else c
def kA(n:Nat)(c:List Nat)(b:Nat):List Nat:=(xW n).foldl (jH b) c
def iR(r:List Nat):List Nat:=(xW (A r)).foldl (kA (A r)) (cE r r)
def cU(r:List Nat):Bool:=r.any fun x=>x != 0
def aL(r:List Nat):Bool:=(xW (A r)).any fun i:Nat=>bB r (i:Int) (i:Int)
def bJ(r:List Nat):Bool:=aL (iR r)
abbrev MU:Nat:=18446744073709551616
structure KX(r:List Nat):Prop where
 len:A r<=64
 lt:∀x∈r,x<MU
theorem pN(i:Int):one i<MU:=by
 unfold one
 split
 ·decide
 ·have:i.toNat<=63:=by omega
  exact Nat.lt_of_le_of_lt (Nat.pow_le_pow_right (by omega) this) (by decide)
theorem nR{a:Nat}(d:a<MU)(f:b<MU):a|||b<MU:=Nat.or_lt_two_pow (n:=64) d f
theorem Hq{a:Nat}(d:b<MU):a &&& b<MU:=Nat.and_lt_two_pow (n:=64) a d
theorem TJ(s:Nat)(n:Int):OT s n<MU:=by
 unfold OT
 split
 ·decide
 ·exact Nat.mod_lt _ (by decide)
theorem mX(r:List Nat)(i:Nat)(h:i<A r):r.getD i 0=r[i]:=by simp[List.getD,List.getElem?_eq_getElem h]
theorem oA(r:List Nat)(i:Nat)(h:A r<=i):r.getD i 0=0:=by simp[List.getD,List.getElem?_eq_none h]
theorem iN(h:KX r)(a:Int):cD r a<MU:=by
 unfold cD
 split
 ·decide
 ·by_cases hl:a.toNat<A r
  ·rw[mX _ _ hl];exact h.lt _ (xg hl)
  ·rw[oA _ _ (by omega)];decide
theorem nQ(r:List Nat)(i:Nat):cD r (i:Int)=r.getD i 0:=by
 unfold cD;rw[if_neg (by omega)];rfl
theorem FQ(r:List Nat)(i:Nat)(h:i<A r):cD r (i:Int)=r[i]:=by
 rw[nQ,mX _ _ h]
theorem TL(r:List Nat)(a:Int)(h:a<0\/(A r:Int)<=a):cD r a=0:=by
 unfold cD
 split
 ·rfl
 ·rw[oA _ _ (by omega)]
theorem TM(n:Nat)(h:n<=64):KX (LH n):=⟨by simpa[LH]using h,fun x d=>by rw[List.eq_of_mem_replicate d];decide⟩
theorem EY(h:KX r)(i x:Nat)(f:x<MU):KX (r.set i x):=
 ⟨by simpa using h.len,fun y d=>by rcases List.mem_or_eq_of_mem_set d with d|rfl;exact h.lt _ d;exact f⟩
theorem rW(r:List Nat)(a b:Int):(cL r a b).length=A r:=by unfold cL;split<;>simp
theorem yX(h:KX r)(a b:Int):KX (cL r a b):=by
 unfold cL
 split
 ·exact h
 ·exact EY h _ _ (nR (iN h _) (pN _))
theorem BK(r o:List Nat):(cE r o).length=A r:=by simp[cE]
theorem JD(r o:List Nat):(fY r o).length=A r:=by simp[fY]
theorem CU(r o:List Nat):(LR r o).length=A r:=by simp[LR]
theorem TN(h:KX r)(k:KX o):KX (cE r o):=
 ⟨by rw[BK];exact h.len,fun x d=>by simp only[cE,xa]at d;obtain⟨i,_,rfl⟩:=d;exact nR (iN h _) (iN k _)⟩
theorem Hr(h:KX r)(k:KX o):KX (fY r o):=
 ⟨by rw[JD];exact h.len,fun x d=>by simp only[fY,xa]at d;obtain⟨i,_,rfl⟩:=d;exact Hq (iN k _)⟩
theorem TO(k:KX o)(a:Nat)(l:List Nat):∀d,d<MU->l.foldl (jG r o a) d<MU:=by
 induction l with
 |nil=>intro d h;exact h
 |cons b q ih =>
  intro d h;refine ih _ ?_;unfold jG;split
  ·exact nR h (iN k _)
  ·exact h
theorem Hs(h:KX r)(k:KX o):KX (LR r o):=
 ⟨by rw[CU];exact h.len,fun x d=>by simp only[LR,xa]at d;obtain⟨i,_,rfl⟩:=d;exact TO k _ _ _ (by decide)⟩
theorem fP(f:α->Nat->α)(x:α)(n:Nat):(xW (n+1)).foldl f x=f ((xW n).foldl f x) n:=by
 rw[List.range_succ,List.foldl_append];rfl
theorem TP(b:Nat)(c:List Nat)(a:Nat):(jH b c a).length=A c:=by unfold jH;split<;>simp
theorem Ht(h:KX c)(b a:Nat):KX (jH b c a):=by
 unfold jH;split
 ·exact EY h _ _ (nR (iN h _) (iN h _))
 ·exact h
theorem yO(P:α->Prop)(f:α->Nat->α)(d:∀x i,P x->P (f x i))(l:List Nat):∀x,P x->P (l.foldl f x):=by
 induction l with
 |nil=>intro x h;exact h
 |cons i q ih=>intro x h;exact ih _ (d _ _ h)
theorem Hu(n m b:Nat)(h:KX c/\A c=m):KX (kA n c b)/\(kA n c b).length=m :=
 yO (fun c=>KX c/\A c=m) _ (fun x i d=>⟨Ht d.1 _ _,by rw[TP];exact d.2⟩) _ _ h
theorem Hv(h:KX r):KX (iR r)/\(iR r).length=A r:=
 yO (fun c=>KX c/\A c=A r) _ (fun x i d=>Hu _ _ _ d) _ _ ⟨TN h h,BK _ _⟩
theorem Hw(r:List Nat)(a m:Nat){t:List Nat}(h:KX t/\A t=m):KX (oK r t a)/\(oK r t a).length=m :=
 yO (fun c=>KX c/\A c=m) _ (fun x i d=>by unfold nG;split;exact⟨yX d.1 _ _,by rw[rW];exact d.2⟩;exact d) _ _ h
theorem Hx(h:A r<=64):KX (lB r)/\(lB r).length=A r:=
 yO (fun c=>KX c/\A c=A r) _ (fun x i d=>Hw _ _ _ d) _ _ ⟨TM _ h,by simp[LH]⟩
end Q
theorem Tryz.infoSet:(prog.info? 164).map (fun i=>(i.zero,i.size,i.bytes))=Y (Y (U .u64 0),1,8):=by kernel_rfl
theorem Hy(n:Nat)(h:n<64):IntKind.u64.wrap ((2:Int)^n)=((2^n:Nat):Int):=by
 have d:(2:Int)^n=((2^n:Nat):Int):=by push_cast;rfl
 rw[d];exact IntWalk.u64_in _ ⟨Int.natCast_nonneg _,Int.ofNat_le.2 (Nat.le_of_lt_succ (Nat.pow_lt_pow_right (by omega) h))⟩
theorem AG(i:Int)(w:World):
  Calls prog 159 #[U E i] w fun e w'=>e=z (U .u64 (Q.one i:Nat))/\w'=w:=by
 by_cases h0:i<0
 ·have d:JP (Q.one i=0):=by unfold JP Q.one;rw[if_pos (Or.inl h0)]
  go_enter func159,ntmps159;go_wp2;go_ret;rw[d.o];exact⟨Z,Z⟩
 by_cases h1:64<=i
 ·have d:JP (Q.one i=0):=by unfold JP Q.one;rw[if_pos (Or.inr h1)]
  go_enter func159,ntmps159;go_wp2;go_ret;rw[d.o];exact⟨Z,Z⟩
 ·have d:JP (IntKind.u64.wrap ((2:Int)^i.toNat)=(Q.one i:Nat)):=by unfold JP Q.one;rw[if_neg (by omega)];exact Hy _ (by omega)
  go_enter func159,ntmps159;go_wp2;go_ret;exact⟨by first|(rw[<- d.o];rfl)|(simp;exact d.o),Z⟩
theorem TQ(s:Nat)(i:Int)(w:World)(j:s<Q.MU):
  Calls prog 160 #[U .u64 (s:Nat),U E i] w fun e w'=>e=z (L (Q.OG s i))/\w'=w:=by
 have m:=bits_and_u64_nat s (Q.one i) j (Q.pN i);have f:JP (Q.OG s i=(s &&& Q.one i != 0)):=Z;generalize(s &&& Q.one i)=x at*;have d:JP ((x != 0)=((x:Int) != 0)):=by unfold JP;cases x<;>rfl
 cases hx:(x:Int) != 0
 all_goals
  go_enter func160,ntmps160;go_wp2_with(first|(go_at_call 159;refine(AG _ _).mono ?_;rintro e w' ⟨rfl,rfl⟩));go_ret;refine⟨?_,Z⟩;rw[f.o,d.o,hx]
  first|rfl|simp
theorem Hz(s:Nat)(i:Int)(w:World)(f:s<Q.MU):
  Calls prog 178 #[U .u64 (s:Nat),U E i] w fun e w'=>e=z (U .u64 (Q.OT s i:Nat))/\w'=w:=by
 by_cases h0:i<0
 ·have d:JP (Q.OT s i=0):=by unfold JP Q.OT;rw[if_pos (Or.inl h0)]
  go_enter func178,ntmps178;go_wp2;go_ret;rw[d.o];exact⟨Z,Z⟩
 by_cases h1:64<=i
 ·have d:JP (Q.OT s i=0):=by unfold JP Q.OT;rw[if_pos (Or.inr h1)]
  go_enter func178,ntmps178;go_wp2;go_ret;rw[d.o];exact⟨Z,Z⟩
 ·have d:JP (IntKind.u64.wrap ((s:Int)*(2:Int)^i.toNat)=(Q.OT s i:Nat)):=by
   unfold JP Q.OT;rw[if_neg (by omega),IntKind.wrap_u64,Int.natCast_emod,Int.natCast_mul,Int.natCast_pow];rfl
  go_enter func178,ntmps178;go_wp2;go_ret;exact⟨by first|(rw[<- d.o];rfl)|(simp;exact d.o),Z⟩
def pU(l:List Nat):Array Value:=(l.map fun x=>xR .u64 (x:Nat)).toArray
theorem TT(l:List Nat)(i:Nat)(h:i<A l):(pU l)[i]?=Y (U .u64 (l[i]:Nat)):=by simp[pU,h]
theorem H2(l:List Nat)(i x:Nat):(pU l).setIfInBounds i (U .u64 (x:Nat))=pU (l.set i x):=by
 simp[pU,List.map_set]
def LJ(w:World)(g:Nat)(l:List Nat):Prop:=w.heap[g]?=Y (C (pU l) 164 (0,0))
theorem LJ.lt(h:LJ w g l):g<K (J w):=(Array.getElem?_eq_some_iff.1 h).1
theorem LJ.aA(h:LJ w g l)(e:w'.heap[g]?=w.heap[g]?):LJ w' g l:=by unfold LJ at*;rw[e];exact h
theorem LJ.X(h:LJ w g l)(d:Below (K (J w)) w w'):LJ w' g l:=h.aA (d.block g h.lt)
theorem LJ.alloc(h:LJ w g l)(o:Obj):LJ (w.alloc o) g l:=h.aA (x3 _ _ _ h.lt)
theorem LJ.cell(h:LJ w g l)(i:Nat)(d:i<A l):V w ⟨g,i,G⟩=Y (U .u64 (l[i]:Nat)):=by
 unfold LJ at h;simp only[x0,h];exact TT l i d
theorem LJ.fR(h:LJ w g l)(i:Nat)(d:i<A l):V w ⟨g,i,G⟩=Y (U .u64 (Q.cD l (i:Int):Nat)):=by
 rw[Q.FQ l i d];exact h.cell i d
theorem LJ.free(h:LJ w g l)(i:Nat):w.frozen? ⟨g,i,G⟩=M:=by
 unfold LJ at h;simp[x6,h]
theorem LJ.set(h:LJ w g l)(i x:Nat):LJ (w.setCell ⟨g,i,G⟩ (U .u64 (x:Nat))) g (l.set i x):=by
 unfold LJ at*;rw[bC h,H2]
theorem pS(g n:Nat)(l:List Nat)(a:Int)(w:World)(h:LJ w g l)(s:n=A l)(q:n<=64):
  Calls prog 115 #[D #[JQ g n n],U E a] w fun e w'=>e=z (U .u64 (Q.cD l a:Nat))/\Below (K (J w)) w w':=by
 have f:=h.lt;by_cases h0:a<0
 ·have d:JP (Q.cD l a=0):=Q.TL l a (Or.inl h0);go_enter func115,ntmps115;go_wp2;go_ret;rw[d.o];exact⟨Z,(x4 _ _).alloc (x1 _) _⟩
 have j:decide (a<0)=M:=by simpa using h0
 by_cases h1:(n:Int)<=a
 ·have d:JP (Q.cD l a=0):=Q.TL l a (Or.inr (by omega));go_enter func115,ntmps115;go_wp2;go_ret;rw[d.o];exact⟨Z,(x4 _ _).alloc (x1 _) _⟩
 ·obtain⟨i,rfl⟩:=Int.eq_ofNat_of_zero_le (by omega:0<=a);have m:i<A l:=by omega
  have c:=h.fR i m;have p:(i:Int)<(n:Int):=by omega
  generalize Q.cD l (i:Int)=x at*;go_enter func115,ntmps115;go_wp2;go_ret;exact⟨Z,(x4 _ _).alloc (x1 _) _⟩
theorem oH(g n:Nat)(l:List Nat)(a b:Int)(w:World)(h:LJ w g l)(j:n=A l)(d:Q.KX l):
  Calls prog 112 #[D #[JQ g n n],U E a,U E b] w fun e w'=>e=z (L (Q.bB l a b))/\Below (K (J w)) w w':=by
 have i:=d.len;have p:=JO d;have m:=JO (h.alloc (C #[JQ g n n] 76));have f:=JO j;clear d h j;go_enter func112,ntmps112;go_wp2_with(first
  |(go_at_call 115;refine(pS g n l a _ m.o f.o (by have:=f.o;omega)).mono ?_;rintro e s ⟨rfl,q⟩)
  |(go_at_call 160;refine(TQ _ _ _ (Q.iN p.o a)).mono ?_;rintro e w' ⟨rfl,rfl⟩))
 go_ret;exact⟨Z,((x4 _ _).alloc (x1 _) _).trans (q.mono (by simp))⟩
namespace Q
def fG(b:List Int):Bool:=b.all fun x=>decide (1<=x)
def inc:List Int->List Int->List Int×Bool
 |b::bs,d::ds=>if d+1<b then((d+1)::ds,T)else(0::(inc bs ds).1,(inc bs ds).2)
 |_,ds=>(ds,M)
end Q
def lU(l:List Int):Array Value:=(l.map (xR E)).toArray
def LE(w:World)(g:Nat)(l:List Int):Prop:=w.heap[g]?=Y (C (lU l) 3 (0,0))
theorem LE.lt{l:List Int}(h:LE w g l):g<K (J w):=(Array.getElem?_eq_some_iff.1 h).1
theorem LE.aA{l:List Int}(h:LE w g l)(e:w'.heap[g]?=w.heap[g]?):LE w' g l:=by unfold LE at*;rw[e];exact h
theorem LE.X{l:List Int}(h:LE w g l)(d:Below (K (J w)) w w'):LE w' g l:=h.aA (d.block g h.lt)
theorem LE.cell{l:List Int}(h:LE w g l)(i:Nat)(d:i<A l):V w ⟨g,i,G⟩=Y (U E l[i]):=by
 unfold LE at h;simp[x0,h,lU,d]
theorem LE.free{l:List Int}(h:LE w g l)(i:Nat):w.frozen? ⟨g,i,G⟩=M:=by
 unfold LE at h;simp[x6,h]
theorem LE.set{l:List Int}(h:LE w g l)(i:Nat)(x:Int):LE (w.setCell ⟨g,i,G⟩ (U E x)) g (l.set i x):=by
 unfold LE at*;rw[bC h];simp[lU,List.map_set]
structure NH(w:World)(gc o gb gd:Nat)(bs ds:List Int)(begun:Bool):Prop where
 c0:V w ⟨gc,o,G⟩=Y (JQ gb (A bs) (A bs))
 c1:V w ⟨gc,o+1,G⟩=Y (JQ gd (A ds) (A ds))
 c2:V w ⟨gc,o+2,G⟩=Y (L begun)
 free:∀j,w.frozen? ⟨gc,j,G⟩=M
 lt:gc<K (J w)
 bases:LE w gb bs
 digits:LE w gd ds
 cd:gc≠gd
 cb:gc≠gb
 bd:gb≠gd
 len:A ds=A bs
theorem H3(q o x y:Nat)(d u:List Int)(f:Bool)(w:World)(h:NH w q o x y d u f)(X:A d<10000):
  Calls prog 161 #[.pointer (Y ⟨q,o,G⟩)] w fun e w'=>e=z (L (Q.fG d))/\w'=w:=by
 obtain⟨H,I,N,O,cl,_,_,_,_,_,_⟩:=id h;have HB:=JO h.bases;go_enter func161,ntmps161;go_wp2;go_loop [10] (fun i=>∃k:Nat,k<=A d/\i=U E k/\JP (Q.fG d=Q.fG (d.drop k))) fun i=>A d-(intOf i).toNat
 case atStart=>exact⟨0,Nat.zero_le _,Z,Z⟩
 case round =>
  obtain⟨k,W,rfl,m⟩:=hrel;by_cases hlt:k<A d
  ·have F:(k:Int)<(A d:Int):=by omega
   have S:=HB.o.cell k hlt;have p:JP (Q.fG (d.drop k)=(decide (1<=d[k])&&Q.fG (d.drop (k+1)))):=by
    unfold JP;rw[x8 hlt];rfl
   generalize d[k]=b at*;by_cases hb:b<1
   ·have j:JP (Q.fG d=M):=by unfold JP;rw[m.o,p.o,decide_eq_false (by omega)];rfl
    go_wp2;go_ret;rw[j.o];exact⟨Z,Z⟩
   ·have s:JP (Q.fG d=Q.fG (d.drop (k+1))):=by unfold JP;rw[m.o,p.o,decide_eq_true (by omega)];rfl
    go_wp2;go_round
    case rel=>exact⟨k+1,by omega,by go_num,s⟩
    case measure=>simp[intOf];omega
  ·have j:JP (Q.fG d=T):=by unfold JP;rw[m.o,xh (by omega)];rfl
   go_wp2;go_ret;rw[j.o];exact⟨Z,Z⟩
theorem H4(f d:List Int)(k:Nat)(i:k<A f)(j:k<A d):Q.inc (f.drop k) (d.drop k)=if d[k]+1<f[k]then((d[k]+1)::d.drop (k+1),T)else(0::(Q.inc (f.drop (k+1)) (d.drop (k+1))).1,(Q.inc (f.drop (k+1)) (d.drop (k+1))).2):=by
 rw[x8 i,x8 j,Q.inc]
theorem TU(d:List Int)(k:Nat)(f:k<A d)(x:Int):(xF k 0++d.drop k).set k x=xF k 0++x::d.drop (k+1):=by
 have e:k-(xF k (0:Int)).length=0:=by simp
 rw[xb _ _ (by simp),e,x8 f];rfl
theorem H6(d:List Int)(k:Nat)(f:k<A d):(xF k 0++d.drop k).set k 0=xF (k+1) 0++d.drop (k+1):=by
 rw[TU d k f,xi,xj];rfl
theorem H7(d:List Int)(k:Nat)(f:k<=A d):(xF k (0:Int)++d.drop k).length=A d:=by simp;omega
theorem H8(d:List Int)(k:Nat)(f:k<A d)(h:k<(xF k (0:Int)++d.drop k).length):(xF k (0:Int)++d.drop k)[k]=d[k]:=by
 rw[List.getElem_append_right (by simp)];simp
theorem H9(f o p q:Nat)(i m:List Int)(w:World)(h:NH w f o p q i m M)(F:A i<10000):
  Calls prog 117 #[.pointer (Y ⟨f,o,G⟩)] w fun e w'=>e=z (L (Q.fG i))/\w'=w.setCell ⟨f,o+2,G⟩ (L T):=by
 have s:JP (NH (w.setCell ⟨f,o+2,G⟩ (L T)) f o p q i m T):=
  ⟨(xk _ _ _ _ (by simp)).trans h.c0,(xk _ _ _ _ (by simp)).trans h.c1,World.cell?_setCell_same _ _ _ h.c2,fun j=>by rw[World.frozen?_setCell];exact h.free j,by simpa using h.lt,
   h.bases.aA (x5 _ _ _ _ fun e=>h.cb e.symm),h.digits.aA (x5 _ _ _ _ fun e=>h.cd e.symm),h.cd,h.cb,h.bd,h.len⟩
 obtain⟨u,x,y,H,cl,_,_,_,_,_,_⟩:=id h;go_enter func117,ntmps117;go_wp2_with(first|(go_at_call 161;refine(H3 f o p q i m T _ s.o F).mono ?_;rintro e w' ⟨rfl,d⟩;have d:=d.symm;subst d));go_ret;exact⟨Z,Z⟩
theorem Ia(u o gb q:Nat)(m f:List Int)(w:World)(h:NH w u o gb q m f T)(hn:A m<10000)(hd:∀d∈f,0<=d/\d<1000000000):
  Calls prog 117 #[.pointer (Y ⟨u,o,G⟩)] w fun e w'=>e=z (L (Q.inc m f).2)/\LE w' q (Q.inc m f).1/\w.grownBy w' (Y q)/\K (J w')=K (J w):=by
 obtain⟨c0,c1,c2,cf,cl,ae,ag,af,ai,ad,am⟩:=h;have x:=JO ae;have S:=JO hd;go_enter func117,ntmps117;go_wp2;go_loopw[20] (fun i wr=>∃k:Nat,k<=A m/\i=U E k/\JP (Q.inc m f=(xF k 0++(Q.inc (m.drop k) (f.drop k)).1,(Q.inc (m.drop k) (f.drop k)).2))/\JP (LE wr q (xF k 0++f.drop k))/\w.grownBy wr (Y q)/\K (J wr)=K (J w)) fun i _=>A m-(intOf i).toNat
 case atStart=>exact⟨0,Nat.zero_le _,Z,by simp[JP],by simpa[JP]using ag,eA _ _,Z⟩
 case round =>
  obtain⟨k,hk,rfl,X,y,O,s⟩:=hrel;have ac:wr.heap[u]?=w.heap[u]?:=O.block u cl (by simp;exact af);have d1:V wr ⟨u,o+1,G⟩=Y (JQ q (A f) (A f)):=by rw[<- c1];simp only[x0,ac]
  have HB:JP (LE wr gb m):=x.o.aA (O.block gb x.o.lt (by simp;exact ad));have aj:∀j,wr.frozen? ⟨q,j,G⟩=M:=fun j=>y.o.free j
  by_cases hlt:k<A m
  ·have p:k<A f:=by omega
   have ak:(k:Int)<(A m:Int):=by omega
   have ah:=HB.o.cell k hlt;have N:=y.o.cell k (by rw[H7 f k (by omega)];exact p);rw[H8 f k p]at N;have an:=S.o f[k] (xg p);have I:=JO (H4 m f k hlt p);have H:=JO (y.o.set k (f[k]+1));have F:=JO ((y.o.set k (f[k]+1)).set k 0);have ab:(xF k (0:Int)++f.drop k).set k (f[k]+1)=xF k 0++(f[k]+1)::f.drop (k+1):=TU f k p _;have aa:((xF k (0:Int)++f.drop k).set k (f[k]+1)).set k 0=xF (k+1) 0++f.drop (k+1):=by rw[List.set_set];exact H6 f k p
   rw[ab]at H;rw[aa]at F;generalize f[k]=d at*;generalize m[k]=b at*;by_cases hb:d+1<b
   ·have W:JP (Q.inc m f=(xF k 0++(d+1)::f.drop (k+1),T)):=by unfold JP;rw[X.o,I.o,if_pos hb]
    go_wp2;go_ret;rw[W.o];exact⟨Z,H.o,dB O _ _,by simpa using s⟩
   ·have HN:JP (Q.inc m f=(xF (k+1) 0++(Q.inc (m.drop (k+1)) (f.drop (k+1))).1,(Q.inc (m.drop (k+1)) (f.drop (k+1))).2)):=by
     unfold JP;rw[X.o,I.o,if_neg hb,xi,xj];rfl
    go_wp2;go_roundw
    case rel=>exact⟨k+1,by omega,by go_num,HN,F,dB (dB O _ _) _ _,by simpa using s⟩
    case measure=>simp[intOf];omega
  ·have al:k=A m:=by omega
   have W:JP (Q.inc m f=(xF k 0++f.drop k,M)):=by
    unfold JP;rw[X.o,xh (by omega)];simp[Q.inc]
   go_wp2;go_ret;rw[W.o];exact⟨Z,y.o,O,s⟩
def zB(l:List Value)(o:Nat):List Value->List Value
 |[]=>l
 |v::vs=>zB (l.set o v) (o+1) vs
theorem tV(b:Nat)(e:TypeId)(fr:Nat×Nat):∀(vs l:List Value) (o:Nat) (w:World),w.heap[b]?=Y (C l.toArray e fr)->(w.setCells b o vs).heap[b]?=Y (C (zB l o vs).toArray e fr)
 |[],l,o,w,h=>h
 |v::vs,l,o,w,h=>by
  have d:=bC h o v;rw[x2];exact tV b e fr vs (l.set o v) (o+1) _ (by rw[d];simp)
theorem DT:∀(vs d rest:List Value),A rest=A vs->zB (d++rest) (A d) vs=d++vs
 |[],d,rest,h=>by have:rest=[]:=List.eq_nil_of_length_eq_zero h;rw[this];rfl
 |v::vs,d,[],h=>by simp at h
 |v::vs,d,r::rest,h=>by
  have e:(d++r::rest).set (A d) v=d++[v]++rest:=by rw[xb _ _ (x1 _),Nat.sub_self];simp
  have:=DT vs (d++[v]) rest (by simpa using h);rw[zB,e,show A d+1=(d++[v]).length by simp,this];simp
theorem vL(b:Nat):∀(vs:List Value) (o:Nat) (w:World) (k:Nat),k≠b->(w.setCells b o vs).heap[k]?=w.heap[k]?
 |[],_,_,_,_=>Z
 |v::vs,o,w,k,h=>by rw[x2,vL b vs (o+1) _ k h,x5 _ _ _ _ h]
theorem rE(n:Nat):madeCells #[U E 0] n=lU (xF n 0):=by
 apply xc;intro i;by_cases h:i<n
 ·simp[madeCells,lU,h,Nat.mod_one]
 ·rw[x7 (by simpa[madeCells]using h),x7 (by simpa[lU]using h)]
theorem nN(b:Nat):∀(vs:List Value) (o:Nat) (w:World),(w.setCells b o vs).heap.size=K (J w)
 |[],_,_=>Z
 |v::vs,o,w=>by rw[x2,nN b vs (o+1)];simp
theorem Below.setCells{B b:Nat}{a:World}(d:B<=b):∀(vs:List Value) (o:Nat) (w:World),Below B a w->Below B a (w.setCells b o vs)
 |[],_,_,h=>h
 |v::vs,o,w,h=>by rw[x2];exact Below.setCells d vs (o+1) _ (h.setCell d v)
theorem Tryz.MZ:(prog.info? 3).map (fun i=>(i.zero,i.size,i.bytes))=Y (Y (U E 0),1,8):=by kernel_rfl
def ME(w:World)(v:Value)(l:List Int):Prop:=v=.slice G 0 0/\l=[]\/∃g cap,v=JQ g (A l) cap/\(∀i (h:i<A l),V w ⟨g,i,G⟩=Y (U E l[i]))/\g<K (J w)/\A l<=cap
theorem AE(v:Value)(l:List Int)(w:World)(h:ME w v l)(hn:A l<10000):
  Calls prog 123 #[v] w fun e w'=>∃g,e=z (JQ g (A l) (A l))/\LE w' g l/\K (J w)<=g/\Below (K (J w)) w w':=by
 have s:∀w,(xl 31 (U E (A l:Int)) (U E (A l:Int))).run prog w=.ok (JQ (K (J w)) (A l) (A l)) (w.alloc (C (madeCells #[U E 0] (A l)) 3)):=
  fun w=>run_make_row' 31 3 (U E 0) 8 underlying31 Tryz.MZ Z E E (A l) (by omega) (by omega) w
 have d:(w.alloc (C (madeCells #[U E 0] (A l)) 3)).heap[K (J w)]?=Y (C (lU (xF (A l) 0)) 3 (0,0)):=by rw[rE];exact heap_alloc_new w _
 have m:(prog.info? 3).map (·.size)=Y 1:=by kernel_rfl
 rcases h with⟨rfl,rfl⟩|⟨g,p,rfl,O,S,_⟩
 ·have F:=JO d;have u:∀w,(xl 31 (U E 0) (U E 0)).run prog w=.ok (JQ (K (J w)) 0 0) (w.alloc (C (madeCells #[U E 0] 0) 3)):=s;have q:∀W:World,(Builtin.copy_ #[31,31] 3 #[JQ (K (J w)) 0 0,.slice G 0 0]).run prog W=.ok (goInt 0) W:=fun W=>run_copy_none W _ _ _ 3 _ _ 0 0 0 0 underlying31 m Z
  go_enter func123,ntmps123;go_wp2;go_ret;refine⟨K (J w),Z,?_,x1 _,(x4 _ _).alloc (x1 _) _⟩;exact F.o
 ·have N:∀j (f:j<A l),(w.alloc (C (madeCells #[U E 0] (A l)) 3)).cell? ⟨g,j,G⟩=Y (U E l[j]):=fun j f=>by
   rw[<- O j f];simp only[x0,x3 _ _ _ S]
  have q:(Builtin.copy_ #[31,31] 3 #[JQ (K (J w)) (A l) (A l),JQ g (A l) p]).run prog (w.alloc (C (madeCells #[U E 0] (A l)) 3))=.ok (goInt (l.map (xR E)).length) ((w.alloc (C (madeCells #[U E 0] (A l)) 3)).setCells (K (J w)) 0 (l.map (xR E))):=by
   refine run_copy_cells _ _ _ _ 3 _ _ _ _ _ _ _ _ underlying31 m (by simp) ?_ ?_ ?_ ?_
   ·intro j v i;rw[List.getElem?_map]at i;obtain⟨x,X,rfl⟩:=Option.map_eq_some_iff.1 i;obtain⟨f,rfl⟩:=List.getElem?_eq_some_iff.1 X;have H:(⟨g,0,G⟩:Addr).add j=⟨g,j,G⟩:=by unfold Addr.add;split<;>simp_all
    rw[H];exact N j f
   ·intro j f;simp only[x0,d];simp at f;simp[lU,f]
   ·intro j f;have I:LE (w.alloc (C (madeCells #[U E 0] (A l)) 3)) (K (J w)) (xF (A l) 0):=d;exact I.free _
   ·intro v i;simp at i;obtain⟨x,_,rfl⟩:=i;rfl
  have y:JP (LE ((w.alloc (C (madeCells #[U E 0] (A l)) 3)).setCells (K (J w)) 0 (l.map (xR E))) (K (J w)) l):=by
   unfold JP LE;have:=tV (K (J w)) 3 (0,0) (l.map (xR E)) ((xF (A l) 0).map (xR E)) 0 _ d;rw[this];have e:=DT (l.map (xR E)) [] ((xF (A l) 0).map (xR E)) (by simp);simp only[List.nil_append,List.length_nil]at e;rw[e];rfl
  have HB:JP (Below (K (J w)) w ((w.alloc (C (madeCells #[U E 0] (A l)) 3)).setCells (K (J w)) 0 (l.map (xR E)))):=Below.setCells (x1 _) _ _ _ ((x4 _ _).alloc (x1 _) _);go_enter func123,ntmps123;go_wp2;go_ret;exact⟨K (J w),Z,y.o,x1 _,HB.o⟩
def OA:List JV->List Value->List Value
 |t::ts,v::vs=>U E t.block::U E t.i::v::OA ts vs
 |_,_=>[]
def MG(l:List JR):List Value:=l.flatMap fun s=>(aC s).toList
theorem nK(l:List JR)(s:JR):MG (l++[s])=MG l++(aC s).toList:=by simp[MG]
def NU(w:World)(B:Nat):List JV->List Value->Prop
 |[],[]=>True
 |t::ts,v::vs=>w.ownsRow B 104 11 v (A t.S) (MG t.S)/\(∀u∈vs,v.ownBlock=G\/v.ownBlock≠u.ownBlock)/\NU w B ts vs
 |_,_=>False
structure MW(w:World)(B g:Nat)(r:Rd)(tv ov:Value)(vs:List Value):Prop where
 cells:w.heap[g]?=Y (C #[tv,U E r.most,U E r.count,U E r.I,ov] 114 (0,0))
 H:w.ownsRow B 96 3 tv (A r.H) (OA r.H vs)
 O:w.ownsRow B 3 1 ov (A r.O) (r.O.map (xR E))
 S:NU w B r.H vs
def cN(w:World)(B g:Nat)(r:Rd):Prop:=∃tv ov vs,MW w B g r tv ov vs
theorem aU(h:w.ownsRow B e sz v n xs)(m:∀k,v.ownBlock=Y k->w'.heap[k]?=w.heap[k]?):w'.ownsRow B e sz v n xs:=by
 refine⟨h.1,?_⟩
 rcases h.2 with p|⟨g,d,f,rfl,j,i,rest⟩
 ·exact .inl p
 ·exact .inr ⟨g,d,f,Z,j,by rw[m g rfl];exact i,rest⟩
theorem NU.qB{w:World}{B:Nat}:∀{d:List JV} {vs:List Value},NU w B d vs->A vs=A d
 |[],[],_=>Z
 |_::_,_::_,h=>by simp[NU.qB h.2.2]
theorem NU.keep{w w':World}{B:Nat}:∀{d:List JV} {vs:List Value},NU w B d vs->(∀v∈vs,∀k,v.ownBlock=Y k->w'.heap[k]?=w.heap[k]?)->NU w' B d vs
 |[],[],_,_=>trivial
 |_::_,v::_,h,hk=>⟨aU h.1 (hk v (by simp)),h.2.1,NU.keep h.2.2 fun u f=>hk u (by simp[f])⟩
theorem NU.mem{w:World}{B:Nat}:∀{f:List JV} {vs:List Value},NU w B f vs->∀v∈vs,∃n xs,w.ownsRow B 104 11 v n xs
 |[],[],_,u,d=>by simp at d
 |_::_,v::_,h,u,d=>by
  rcases List.mem_cons.1 d with rfl|d
  ·exact⟨_,_,h.1⟩
  ·exact NU.mem h.2.2 u d
theorem MW.lt{r:Rd}(h:MW w B g r tv ov vs):g<K (J w):=(Array.getElem?_eq_some_iff.1 h.cells).1
theorem MW.keep{r:Rd}(h:MW w B g r tv ov vs)(d:∀k,k<K (J w)->w'.heap[k]?=w.heap[k]?):MW w' B g r tv ov vs :=
 ⟨by rw[d g h.lt];exact h.cells,aU h.H fun k e=>d k (h.H.lt k e).2,aU h.O fun k e=>d k (h.O.lt k e).2,
  h.S.keep fun v i k e=>by obtain⟨n,xs,f⟩:=h.S.mem v i;exact d k (f.lt k e).2⟩
theorem cN.X{r:Rd}(h:cN w B g r)(d:Below (K (J w)) w w'):cN w' B g r:=by
 obtain⟨tv,ov,vs,h⟩:=h;exact⟨tv,ov,vs,h.keep d.block⟩
theorem gE(h:w.ownsRow B e sz v n xs)(i:v.ownBlock=Y k):∃d,w.heap[k]?=Y (C d e (0,0)):=by
 rcases h.2 with⟨rfl,_⟩|⟨g,j,d,rfl,m,f,rest⟩
 ·simp[x9]at i
 ·simp[x9]at i;subst i;exact⟨d,f⟩
theorem eX{q:Nat}{j:Nat}{p:Value}{y:Nat}{m:List Value}(h:w.ownsRow B e sz v n xs)(s:w.ownsRow q e' j p y m)(i:e≠e')(x:v.ownBlock=Y k):p.ownBlock≠Y k:=by
 intro f;obtain⟨c,u⟩:=gE h x;obtain⟨F,d⟩:=gE s f;rw[u]at d;simp at d;exact i d.2
theorem kE(h:w.ownsRow B e sz v n xs)(d:w.heap[g]?=Y (C cs e' fr))(f:e≠e'):v.ownBlock≠Y g:=by
 intro j;obtain⟨c,i⟩:=gE h j;rw[i]at d;simp at d;exact f d.2.1
theorem uG:∀(d:List JV) (vs:List Value) (t:JV) (v:Value),A vs=A d->OA (d++[t]) (vs++[v])=OA d vs++[U E t.block,U E t.i,v]
 |[],[],_,_,_=>Z
 |a::r,b::q,t,v,h=>by simp[OA,uG r q t v (by simpa using h)]
theorem wF:∀(d:List JV) (vs:List Value),A vs=A d->(OA d vs).length=A d*3
 |[],[],_=>Z
 |a::r,b::q,h=>by simp[OA,wF r q (by simpa using h)];omega
theorem tW{w:World}{B:Nat}:∀(s:List JV) (vs:List Value) (t:JV) (v:Value),NU w B (s++[t]) (vs++[v])↔NU w B s vs/\w.ownsRow B 104 11 v (A t.S) (MG t.S)/\∀u∈vs,u.ownBlock=G\/u.ownBlock≠v.ownBlock
 |[],[],t,v=>by simp[NU]
 |[],b::q,t,v=>by
  cases q with
  |nil=>simp[NU]
  |cons c q=>simp[NU]
 |a::r,[],t,v=>by
  cases r with
  |nil=>simp[NU]
  |cons c q=>simp[NU]
 |a::r,b::q,t,v=>by
  have ih:=tW (w:=w) (B:=B) r q t v;simp only[List.cons_append,NU,ih];constructor
  ·rintro⟨j,f,m,p,i⟩;refine⟨⟨j,fun u d=>f u (by simp[d]),m⟩,p,fun u d=>?_⟩
   rcases List.mem_cons.1 d with rfl|d
   ·exact f v (by simp)
   ·exact i u d
  ·rintro⟨⟨j,f,m⟩,p,i⟩;refine⟨j,fun u d=>?_,m,p,fun u d=>i u (by simp[d])⟩
   rcases List.mem_append.1 d with d|d
   ·exact f u d
   ·simp at d;subst d;exact i b (by simp)
theorem rX(l:List α)(h:l≠[]):∃a b,l=a++[b]:=⟨l.dropLast,l.getLast h,(List.dropLast_concat_getLast h).symm⟩
theorem Tryz.infoStm:(prog.info? 104).map (fun i=>(i.zero,i.size,i.bytes))=Y (Y (D (aC JR.zero)),11,88):=by kernel_rfl
theorem Ib{W0 w1:World}{s F m y j:Nat}{r:Rd}{ts:List JV}{t:JV}{sv:Value}(hr:r.H=ts++[t])(hn:A ts=n)(hm:A t.S=m)(h:MW w B g r (JQ s (n+1) F) ov (vs++[sv]))(hk:∀k,k<K (J w)->W0.heap[k]?=w.heap[k]?)(ap:K (J w)<=K (J W0))(al:W0.os=w.os)(an:W0.tape=w.tape)(am:W0.output=w.output)(hB:B<=K (J w))(ai:w1.ownsRow B 104 11 (JQ y (m+1) j) (m+1) (MG t.S++(aC st).toList))(f:W0.grownBy w1 sv.ownBlock)(af:sv.ownBlock=Y y\/y=K (J W0)):
  cN (w1.setCell ⟨s,n*3+2,G⟩ (JQ y (m+1) j)) B g (put r st)/\Below B w (w1.setCell ⟨s,n*3+2,G⟩ (JQ y (m+1) j)):=by
 have ak:=h.S;rw[hr,tW]at ak;obtain⟨W,ad,aj⟩:=ak;have p:=h.H;have ag:=gE p (k:=s) Z;obtain⟨ae,q⟩:=ag;have aa:s<K (J w):=(Array.getElem?_eq_some_iff.1 q).1;have N:A vs=A ts:=W.qB;have I:∀k c e fr,w.heap[k]?=Y (C c e fr)->e≠104->sv.ownBlock≠Y k:=fun k c e fr hc he=>kE ad hc (Ne.symm he)
 have x:∀k,k<K (J w)->sv.ownBlock≠Y k->k≠s->(w1.setCell ⟨s,n*3+2,G⟩ (JQ y (m+1) j)).heap[k]?=w.heap[k]?:=fun k ac h1 h2=>by
  rw[x5 _ _ _ _ h2,f.block k (by omega) (Ne.symm h1),hk k ac]
 have ab:y≠s:=by
  intro e;subst e
  rcases af with ha|ha
  ·exact I y ae _ _ q (by decide) ha
  ·omega
 refine⟨⟨JQ s (n+1) F,ov,vs++[JQ y (m+1) j],?_,?_,?_,?_⟩,?_⟩
 ·have ah:g≠s:=fun e=>by subst e;rw[h.cells]at q;simp at q
  rw[x g h.lt (I g _ _ _ h.cells (by decide)) ah];exact h.cells
 ·have h1:w1.ownsRow B 96 3 (JQ s (n+1) F) (n+1) (OA r.H (vs++[sv])):=by
   have e:A r.H=n+1:=by rw[hr];simp;omega
   rw[e]at p;exact aU p fun k d=>by
    simp[x9]at d;subst d;rw[f.block s (by omega) (Ne.symm (I s ae _ _ q (by decide))),hk s aa]
  have h2:=(h1.stored (n*3+2) (JQ y (m+1) j)).1;have e1:(put r st).H=ts++[{t with S:=t.S++[st]}]:=by simp only[put,hr,wG]
  rw[e1,uG _ _ _ _ N];rw[hr,uG _ _ _ _ N]at h2;have e2:(OA ts vs++[xR E t.block,U E t.i,sv]).set (n*3+2) (JQ y (m+1) j)=OA ts vs++[U E t.block,U E t.i,JQ y (m+1) j]:=by
   rw[xb _ _ (by rw[wF _ _ N];omega),wF _ _ N,show n*3+2-A ts*3=2 by omega];rfl
  rw[e2]at h2;simpa[hn]using h2
 ·refine aU h.O fun k d=>?_;have hl:=h.O.lt k d;refine x k hl.2 ?_ ?_
  ·exact eX h.O ad (by decide) d
  ·intro e;subst e;exact eX h.O p (by decide) d Z
 ·have e1:(put r st).H=ts++[{t with S:=t.S++[st]}]:=by simp only[put,hr,wG]
  rw[e1,tW];refine⟨W.keep fun u hu k d=>?_,?_,fun u hu=>?_⟩
  ·obtain⟨n',ao,X⟩:=W.mem u hu;have ac:=(X.lt k d).2;refine x k ac (fun e=>?_) fun e=>?_
   ·rcases aj u hu with hp|hp
    ·rw[hp]at d;cases d
    ·exact hp (by rw[d,e])
   ·subst e;exact eX X p (by decide) d Z
  ·have:=ai;rw[<- nK]at this;refine aU (by simpa[hm]using this) fun k d=>?_;simp[x9]at d;subst d;exact x5 _ _ _ _ ab
  ·rcases aj u hu with hp|hp
   ·exact .inl hp
   ·rcases af with ha|ha
    ·exact .inr (by rw[ha]at hp;exact hp)
    ·refine .inr fun e=>?_;obtain⟨n',ao,X⟩:=W.mem u hu;have:=(X.lt y e).2;omega
 ·refine⟨f.os.trans al,f.tape.trans an,f.output.trans am,?_,fun k d=>?_⟩
  ·have:=f.size;simp[World.setCell];omega
  ·refine x k (by omega) (fun e=>?_) fun e=>?_
   ·have:=(ad.lt k e).1;omega
   ·have:=(p.lt s Z).1;omega
theorem Ic(B g f n x:Nat)(st:JR)(s:Value)(m:Nat)(xs:List Value)(w:World)(hg:V w ⟨g,0,G⟩=Y (JQ f (n+1) x))(hn:n<5)(hm:m<10000)(hc:V w ⟨f,n*3+2,G⟩=Y s)(hf:w.frozen? ⟨f,n*3+2,G⟩=M)(F:w.ownsRow B 104 11 s m xs)(O:Y f≠s.ownBlock)(S:Y g≠s.ownBlock)(hB:B<=K (J w))(N:g<K (J w))(y:f<K (J w))(Q:Ending->World->Prop)(hQ:∀I i X,X.ownsRow B 104 11 (JQ I (m+1) i) (m+1) (xs++(aC st).toList)->((w.alloc (C (aC st) 104)).drew.alloc (C (aC st) 104)).grownBy X s.ownBlock->s.ownBlock=Y I\/I=K (J w)+2 ->
   Q (z (.tuple #[])) (X.setCell ⟨f,n*3+2,G⟩ (JQ I (m+1) i))):
  Calls prog 153 #[.pointer (Y ⟨g,0,G⟩),D (aC st)] w Q:=by
 obtain⟨i0,hi,ab,ac,ad⟩:=info_parts Tryz.infoStm;have q:((w.alloc (C (aC st) 104)).drew.alloc (C (aC st) 104)).ownsRow B 104 11 s m xs:=((F.alloc _).drew).alloc _;have HO:=JO q;have p:∀j u,(aC st).toList[j]?=Y u->((w.alloc (C (aC st) 104)).drew.alloc (C (aC st) 104)).cell? ((⟨K (J w)+1,0,G⟩:Addr).add j)=Y u:=World.news_of_block (t:=104) (fr:=(0,0)) (by have:=heap_alloc_new (w.alloc (C (aC st) 104)).drew (C (aC st) 104);simpa using this);have HN:=JO p;have W:∀k,k<K (J w)->((w.alloc (C (aC st) 104)).drew.alloc (C (aC st) 104)).heap[k]?=w.heap[k]?:=fun k hk=>by
  rw[x3 _ _ _ (by simp;omega)];exact x3 _ _ _ hk
 have HC:JP (((w.alloc (C (aC st) 104)).drew.alloc (C (aC st) 104)).cell? ⟨f,n*3+2,G⟩=Y s):=(xm (w:=w) (W f y)).trans hc;have HF:JP (((w.alloc (C (aC st) 104)).drew.alloc (C (aC st) 104)).frozen? ⟨f,n*3+2,G⟩=M):=(World.frozen?_of_block (w:=w) (W f y)).trans hf;have HG:JP (((w.alloc (C (aC st) 104)).drew.alloc (C (aC st) 104)).cell? ⟨g,0,G⟩=Y (JQ f (n+1) x)):=(xm (w:=w) (W g N)).trans hg;have HQ:=JO hQ;clear q p W hQ F;have af:(n:Int)<(n:Int)+1:=by omega
 have ag:(0:Int)<=(n:Int):=by omega
 simp only[aC];go_enter func153,ntmps153;go_wp2_with fail;go_region_law(refine step_append_lies _ Z (.tmp 25) (.tmp 27) 94 Z B 104 i0 (D (aC JR.zero)) 11 88 underlying94 hi ab ac ad Z (by decide) s m xs (by simp[Act.eval]) (by exact HO.o) ⟨K (J w)+1,0,G⟩ 1 1 (aC st).toList (by simp[Act.eval]) Z (by exact HN.o) (by simp[aC,xd]) (by decide) (by unfold maxLen;omega) (by omega) (by simp;omega) (K (J w)+2) (by simp) ?_;intro I i X H d aa ae;have c1:=(d.cell_far ⟨f,n*3+2,G⟩ (by simp;omega) O).trans HC.o;have f1:=(d.frozen_far ⟨f,n*3+2,G⟩ (by simp;omega) O).trans HF.o;have d1:=(d.cell_far ⟨g,0,G⟩ (by simp;omega) S).trans HG.o)
 all_goals go_end0
 all_goals exact HQ.o _ _ _ H d aa
def uA(N:Nat)(r:Rd):Prop:=A r.H<=4/\∀t∈r.H,A t.S<=N
theorem IC(B g N:Nat)(r:Rd)(st:JR)(w:World)(h:cN w B g r)(aa:r.H≠[])(hF:uA N r)(hN:N<10000)(hB:B<=K (J w)):
  Calls prog 153 #[.pointer (Y ⟨g,0,G⟩),D (aC st)] w fun e w'=>e=z (.tuple #[])/\cN w' B g (put r st)/\Below B w w':=by
 obtain⟨tv,ov,vs,h⟩:=h;obtain⟨s,t,u⟩:=rX r.H aa;have hl:=h.S.qB;have I:vs≠[]:=by intro e;subst e;rw[u]at hl;simp at hl
 obtain⟨ac,sv,rfl⟩:=rX vs I;have y:A r.H=A s+1:=by rw[u];simp
 have d:=h.H;rw[y]at d;obtain⟨O,f,rfl,_,i⟩:=d.form (by omega);have F:=h.S;rw[u,tW]at F;obtain⟨ab,q,af⟩:=F;have m:A ac=A s:=ab.qB;have hc:V w ⟨O,A s*3+2,G⟩=Y sv:=by
  rw[d.cellAt _ (by omega),u,uG _ _ _ _ m,List.getElem?_append_right (by rw[wF _ _ m];omega),wF _ _ m,show A s*3+2-A s*3=2 by omega];rfl
 have X:V w ⟨g,0,G⟩=Y (JQ O (A s+1) f):=by
  simp[x0,h.cells]
 have hm:A t.S<=N:=hF.2 t (by rw[u];simp);obtain⟨ae,x⟩:=gE d (k:=O) Z;refine Ic B g O (A s) f st sv (A t.S) (MG t.S) w X (by have:=hF.1;omega) (by omega) hc (d.frozenAt _) q (Ne.symm (kE q x (by decide))) (Ne.symm (kE q h.cells (by decide))) hB h.lt i _ ?_;intro g1 ad w1 p j W;refine⟨Z,Ib (W0:=(w.alloc (C (aC st) 104)).drew.alloc (C (aC st) 104)) u Z Z h (fun k hk=>?_) (by simp;omega) Z Z Z hB p j (by rcases W with ha|ha;exact .inl ha;right;simp;omega)⟩;rw[x3 _ _ _ (by simp;omega)];exact x3 _ _ _ hk
theorem MW.qS{r:Rd}(j:Rd)(f:Value)(h:MW w B g r tv ov vs)(i:Nat)(u:Value)(y:j.H=r.H)(x:w.ownsRow B 3 1 f (A j.O) (j.O.map (xR E)))(F:(#[tv,U E r.most,U E r.count,U E r.I,ov]:Array Value).setIfInBounds i u=#[tv,U E j.most,U E j.count,U E j.I,f]):
  MW (w.setCell ⟨g,i,G⟩ u) B g j tv f vs:=by
 have keep:∀k,(∃(c:Array Value) (e:TypeId),w.heap[k]?=Y (Obj.cells c e (0,0))/\e≠114)->(w.setCell ⟨g,i,G⟩ u).heap[k]?=w.heap[k]?:=fun k ⟨c,e,d,p⟩ =>
  x5 _ _ _ _ fun s=>by simp at s;subst s;rw[h.cells]at d;simp at d;exact p d.2.symm
 refine⟨by rw[bC h.cells,F],?_,?_,?_⟩
 ·rw[y];exact aU h.H fun k m=>by obtain⟨c,d⟩:=gE h.H m;exact keep k ⟨c,_,d,by decide⟩
 ·exact aU x fun k m=>by obtain⟨c,d⟩:=gE x m;exact keep k ⟨c,_,d,by decide⟩
 ·rw[y];exact h.S.keep fun v N k m=>by
   obtain⟨n,xs,q⟩:=h.S.mem v N;obtain⟨c,d⟩:=gE q m;exact keep k ⟨c,_,d,by decide⟩
theorem MW.F{r:Rd}(h:MW w B g r tv ov vs):g<K (J w)/\(∀i,w.frozen? ⟨g,i,G⟩=M)/\V w ⟨g,0,G⟩=Y tv/\V w ⟨g,1,G⟩=Y (U E r.most)/\
  V w ⟨g,2,G⟩=Y (U E r.count)/\V w ⟨g,3,G⟩=Y (U E r.I)/\V w ⟨g,4,G⟩=Y ov:=by
 refine⟨h.lt,fun i=>?_,?_,?_,?_,?_,?_⟩<;>simp[x0,x6,h.cells]
theorem Ie{d:Nat}{x:Value}(h:w.ownsRow B e 1 (JQ k (n+1) d) (n+1) (xs++[x])):w.ownsRow B e 1 (JQ k n d) n xs:=by
 have s:=h.1
 rcases h.2 with⟨j,_⟩|⟨I,q,f,j,u,y,F,m,p,i⟩
 ·simp at j
 ·simp only[Value.slice.injEq,Option.some.injEq,Addr.mk.injEq,and_true,true_and]at j;obtain⟨rfl,rfl⟩:=j;refine⟨by simp at s;omega,.inr ⟨k,d,f,Z,u,y,by omega,m,p,?_⟩⟩;have H:A xs=n:=by simp at s;omega
  have e:f.toList.take n=(f.toList.take ((n+1)*1)).take n:=by rw[List.take_take];congr 1;omega
  rw[Nat.mul_one,e,i,<- H];simp
theorem vG{f:World}{d:Array Value}(bA:List Value)(h:f.heap[b]?=Y (C d t (0,0)))(q:d.size=A bA):(f.setCells b 0 bA).heap[b]?=Y (C bA.toArray t (0,0))/\(∀k,k≠b->(f.setCells b 0 bA).heap[k]?=f.heap[k]?)/\∀(w:World) (B:Nat),B<=b->Below B w f->Below B w (f.setCells b 0 bA):=by
 refine⟨?_,fun k p=>vL _ _ _ _ _ p,fun w B j m=>Below.setCells j _ _ _ m⟩;have i:=TF d bA.toArray (by simpa using q);rw[uY bA 0 f d h];simp only[List.toList_toArray]at i;rw[i]
theorem gL{d f i m p q s u x y:Value}(h:w.heap[g]?=Y (C #[d,f,i,m,p,q,s,u,x,y] t (0,0))):
  V w ⟨g,0,G⟩=Y d/\V w ⟨g,1,G⟩=Y f/\V w ⟨g,2,G⟩=Y i/\V w ⟨g,3,G⟩=Y m/\V w ⟨g,4,G⟩=Y p/\V w ⟨g,5,G⟩=Y q/\V w ⟨g,6,G⟩=Y s/\V w ⟨g,7,G⟩=Y u/\V w ⟨g,8,G⟩=Y x/\V w ⟨g,9,G⟩=Y y/\(∀j,w.frozen? ⟨g,j,G⟩=M)/\g<K (J w):=by
 refine⟨?_,?_,?_,?_,?_,?_,?_,?_,?_,?_,fun j=>?_,(Array.getElem?_eq_some_iff.1 h).1⟩<;>simp[x0,x6,h]
end Go.Proofs.YtlikcongbhhpfaaGreatDoor
