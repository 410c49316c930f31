import Derived.Test.YtonodfjdiepglaaGreatDoorL05
set_option linter.unusedVariables false
set_option linter.unusedSimpArgs false
set_option maxHeartbeats 12800000
namespace Go.Proofs.YtonodfjdiepglaaGreatDoor
open Go Go.RowKit Go.Proofs.Tryz P R
set_option maxRecDepth 1000000
variable {w w':World} {B B' b cap g n:Nat} {r:Rd} {ov tv v:Value} {vs:List Value} {ts:List Thr} {a:Act}
open Go.RowKit.Below renaming refl→x2,heap_setCell→xb,heap_alloc→xg
open Nat renaming le_refl→x3,zero_le→x4
open _root_.ByteArray renaming toList→x5
open List renaming take_succ_eq_append_getElem→x6,length_cons→x7,length_take_le→x8,getElem_mem→x9,getElem?_append_left→xc,take_of_length_le→xd,drop_eq_nil_of_le→xe
open Go.Result renaming andThen_ok→xa
theorem RdIn.iN (h:RdIn w B g r tv ov vs):∃ l m i j,tv=.slice l r.Ec.length m/\ov=.slice i r.opn.length j:=by
 have q:∃ a c,ov=.slice a r.opn.length c:=by
  rcases h.opn.2 with ⟨e,f⟩ | ⟨k,c,d,e,_⟩
  ·exact⟨none,0,by rw[e,f]⟩
  ·exact⟨_,c,e⟩
 have s:∃ a c,tv=.slice a r.Ec.length c:=by
  rcases h.Ec.2 with ⟨e,f⟩ | ⟨k,c,d,e,_⟩
  ·exact⟨none,0,by rw[e,f]⟩
  ·exact⟨_,c,e⟩
 obtain⟨i,j,o⟩:=q;obtain⟨l,m,p⟩:=s;exact⟨l,m,i,j,p,o⟩
theorem dJ.nU (h:dJ w B g r) (x:Int):dJ (w.setCell ⟨g,2,none⟩ (.int .i64 x)) B g { r with count:=x }:=by
 obtain⟨tv,ov,vs,h⟩:=h;exact⟨tv,ov,vs,h.qD { r with count:=x } ov 2 (.int .i64 x) rfl h.opn rfl⟩
theorem dJ.uT (h:dJ w B g r) (x:Int):dJ w B g { r with line:=x }:=by
 obtain⟨tv,ov,vs,h⟩:=h;exact⟨tv,ov,vs,⟨h.cells,h.Ec,h.opn,h.Eb⟩⟩
theorem dJ.alloc (h:dJ w B g r) (o:Obj):dJ (w.alloc o) B g r:=h.below ((x2 _ _).alloc (x3 _) _)
theorem dJ.drew (h:dJ w B g r):dJ w.drew B g r:=h.below (x2 _ _).drew
theorem zGo (B g:Nat) (r:Rd) (k:Stm) (w:World) (h:dJ w B g r) (i:B<=w.heap.size) (q:2<=r.opn.length) :
  Calls prog 98 #[.pointer (some ⟨g,0,none⟩),.agg (aQ k)] w fun e w'=>e=.returned (.bool false)/\dJ w' B g r/\Ek B g w w':=by
 have f:=zAa h;obtain⟨tv,ov,vs,h⟩:=h;obtain⟨u,x,s,t,rfl,rfl⟩:=h.iN;obtain⟨d,c,g0,l,m,o,p⟩:=h.facts;have j:(2:Int)<=(r.opn.length:Int):=by omega
 clear h;go_enter func98,ntmps98;go_wp2;go_ret;exact⟨rfl,f.out.alloc _,(Ek.refl _ _ _).alloc i _⟩
theorem zII (r:Rd) (c:Stm) (h:r.Ec=[]):kAT r c=(r,false):=by simp[kAT,h]
theorem zJU (r:Rd) (c:Stm) (h:r.Ec≠[]) (d:(c.kind==11)=true):kAT r c=ends r c:=by simp[kAT,h,show c.kind=11 by simpa using d]
theorem zIJ (r:Rd) (c:Stm) (h:r.Ec≠[]) (e:(c.kind==11)=false) (d:r.most<=r.count):kAT r c=(r,false):=by
 simp[kAT,h,show ¬ c.kind=11 by simpa using e,d]
theorem zIK (r:Rd) (c:Stm) (h:r.Ec≠[]) (e:¬ r.most<=r.count) (d:(c.kind==10)=true) (f:2<=r.opn.length):kAT r c=({ r with count:=r.count+1 },false):=by
 simp[kAT,h,show c.kind=10 by simpa using d,e,f]
theorem zKU (r:Rd) (c:Stm) (h:r.Ec≠[]) (e:¬ r.most<=r.count) (d:(c.kind==10)=true) (f:¬ 2<=r.opn.length):kAT r c=branch { r with count:=r.count+1 } c:=by
 simp[kAT,h,show c.kind=10 by simpa using d,e,f]
theorem zJV (r:Rd) (c:Stm) (h:r.Ec≠[]) (f:(c.kind==11)=false) (e:¬ r.most<=r.count) (d:(c.kind==10)=false):kAT r c=(P.put { r with count:=r.count+1 } c,true):=by
 simp[kAT,h,show ¬ c.kind=11 by simpa using f,show ¬ c.kind=10 by simpa using d,e]
theorem zI (B g N:Nat) (r:Rd) (c:Stm) (w:World) (h:dJ w B g r) (p:uZ N r) (q:N<10000) (z:B<=w.heap.size) (x:r.opn.length<10) (t:0<=r.ifs) (u:r.ifs<10000) (D:0<=r.count) (E:r.count<10000) :
  Calls prog 64 #[.pointer (some ⟨g,0,none⟩),.agg (aQ c)] w fun e w'=>e=.returned (.bool (kAT r c).2)/\dJ w' B g (kAT r c).1/\Ek B g w w':=by
 have o:=zAa (h.alloc (.cells (aQ c) 109));have l:=zAa (((h.nU (r.count+1)).alloc (.cells (aQ c) 109)).drew);obtain⟨tv,ov,vs,h⟩:=h;obtain⟨M,O,K,L,rfl,rfl⟩:=h.iN;obtain⟨C,A,g0,G,H,I,J⟩:=h.facts;have s:=zAa (bC.bT w c);have m:Ek B g w (w.alloc (.cells (aQ c) 109)):=(Ek.refl _ _ _).alloc z _;clear h;by_cases hne:r.Ec=[]
 ·have i:=zAa (zII r c hne);have F:((r.Ec.length:Int)==0)=true:=by simp[hne]
  clear hne;simp only[aQ];go_enter func64,ntmps64;go_wp2;go_ret;rw[fX i];exact⟨rfl,o.out,m⟩
 have F:((r.Ec.length:Int)==0)=false:=by simpa using hne
 cases hk:(c.kind==11)
 rotate_left
 ·have i:=zAa (zJU r c hne hk);simp only[aQ];go_enter func64,ntmps64;go_wp2_with (first
   | (refine pR (.tmp 3) rfl rfl w.heap.size c rfl (by exact s.out) ?_)
   | (go_at_call 97;refine (zJT B g N r c _ (by exact o.out) hne p q (by simp;omega) x).mono ?_;rintro e y ⟨rfl,f,d⟩))
  go_ret;rw[fX i];exact⟨rfl,f,m.trans d⟩
 by_cases h8:r.most<=r.count
 ·have i:=zAa (zIJ r c hne hk h8);simp only[aQ];go_enter func64,ntmps64;go_wp2;go_region
  all_goals go_wp2
  go_ret;rw[fX i];exact⟨rfl,o.out.drew,m.drew⟩
 have k:Hid (bC ((w.setCell ⟨g,2,none⟩ (.int .i64 (r.count+1))).alloc (.cells (aQ c) 109)).drew w.heap.size c):=by
  unfold Hid;have:=(bC.bT (w.setCell ⟨g,2,none⟩ (.int .i64 (r.count+1))) c).drew;simpa using this
 have j:Ek B g w ((w.setCell ⟨g,2,none⟩ (.int .i64 (r.count+1))).alloc (.cells (aQ c) 109)).drew:=(((Ek.refl _ _ _).setCell _).alloc (by simp;exact z) _).drew
 cases hbk:(c.kind==10)
 ·have i:=zAa (zJV r c hne hk h8 hbk);simp only[aQ];go_enter func64,ntmps64;go_wp2;go_region
  all_goals
   go_wp2_with (first
    | (refine pR (.tmp 3) rfl rfl w.heap.size c rfl (by exact k.out) ?_)
    | (go_at_call 99;refine (AL B g N { r with count:=r.count+1 } c _ (by exact l.out) hne p q (by simp;omega)).mono ?_;rintro e y ⟨rfl,f,d⟩))
   go_ret;rw[fX i];exact⟨rfl,f,j.trans (Ek.of d)⟩
 by_cases ho:2<=r.opn.length
 ·have i:=zAa (zIK r c hne h8 hbk ho);simp only[aQ];go_enter func64,ntmps64;go_wp2;go_region
  all_goals
   go_wp2_with (first
    | (refine pR (.tmp 3) rfl rfl w.heap.size c rfl (by exact k.out) ?_)
    | (go_at_call 98;refine (zGo B g { r with count:=r.count+1 } c _ (by exact l.out) (by simp;omega) ho).mono ?_;rintro e y ⟨rfl,f,d⟩))
   go_ret;rw[fX i];exact⟨rfl,f,j.trans d⟩
 ·have i:=zAa (zKU r c hne h8 hbk ho);simp only[aQ];go_enter func64,ntmps64;go_wp2;go_region
  all_goals
   go_wp2_with (first
    | (refine pR (.tmp 3) rfl rfl w.heap.size c rfl (by exact k.out) ?_)
    | (go_at_call 98;refine (zHD B g N { r with count:=r.count+1 } c _ (by exact l.out) hne p q (by simp;omega) (by simp;omega) t u).mono ?_;rintro e y ⟨rfl,f,d⟩))
   go_ret;rw[fX i];exact⟨rfl,f,j.trans d⟩
def eF (w:World) (B:Nat) (tv:Value) (ts:List Thr):Prop:=∃ vs,w.ownsRow B 104 3 tv ts.length (zAK ts vs)/\zAO w B ts vs
theorem eF.keep (h:eF w B tv ts) (f:∀ k,k<w.heap.size->w'.heap[k]?=w.heap[k]?):eF w' B tv ts:=by
 obtain⟨vs,c,d⟩:=h;exact⟨vs,aX c (fun k e=>f k (c.lt k e).2),d.keep (fun v j k e=>by obtain⟨n,l,i⟩:=d.mem v j;exact f k (i.lt k e).2)⟩
theorem eF.nil (w:World) (B:Nat):eF w B (.slice none 0 0) []:=⟨[],World.ownsRow_nil _ _ _ _,trivial⟩
theorem P.kIt (c:UInt8) (l:List UInt8):∀ x∈zMi c l,x.length<=l.length:=by
 induction l with
 | nil=>intro x d;simp[zMi] at d;simp[d]
 | cons y r ih =>
  intro x d;by_cases hy:y=c
  ·subst hy;rw[DL] at d
   rcases List.mem_cons.1 d with rfl | d
   ·simp
   ·have:=ih x d;simp;omega
  ·cases hs:zMi c r with
   | nil=>exact absurd hs (mB _ _)
   | cons a b =>
    rw[sP c y r hy a b hs] at d
    rcases List.mem_cons.1 d with rfl | d
    ·have:=ih a (by rw[hs];simp);simp;omega
    ·have:=ih x (by rw[hs];simp[d]);simp;omega
theorem zDh (c:List ByteArray) (k:Nat) (d:k<c.length):(c.take (k+1)).map x5=(c.take k).map x5++[c[k].toList]:=by
 rw[x6 d,List.map_append,List.map_cons,List.map_nil]
theorem xP {e:Func} {R:Ending->World->Prop} {p u:Tmp} (g:Nat) (tv d:Value) (c:e.results=#[.cell p 32,.tmp u])
  (j:a.tmps.getD p undef=.pointer (some ⟨g,0,none⟩)) (k:a.tmps.getD u undef=d) (h:w.heap[g]?=some (.cells #[tv] 32 (0,0))) (i:a.defers=[]) (f:R (.returned (.tuple #[.agg #[tv],d])) w):bodyPost prog e R .ret a w:=by
 refine bodyPost_ret (v:=.tuple #[.agg #[tv],d]) ?_ i f;rw[results_cell_tmp c,j,k];have:(asAddr (.pointer (some ⟨g,0,none⟩))).run prog w=.ok ⟨g,0,none⟩ w:=rfl;rw[this,xa,qX w g _ _ _ h _ underlying32 rfl (by kernel_rfl),xa]
theorem yV {e:TypeId} {d:Nat} {f:List Value} (h:w.ownsRow B e d v n f) (k:B'<=B):w.ownsRow B' e d v n f:=by
 refine⟨h.1,?_⟩
 rcases h.2 with j | ⟨g,cap,c,rfl,i,rest⟩
 ·exact .inl j
 ·exact .inr ⟨g,cap,c,rfl,by omega,rest⟩
theorem zAO.base {w:World} {B B':Nat} (c:B'<=B):∀ {ts:List Thr} {vs:List Value},zAO w B ts vs->zAO w B' ts vs
 | [],[],_=>trivial
 | _::_,_::_,h=>⟨yV h.1 c,h.2.1,zAO.base c h.2.2⟩
theorem zHF {p:Nat} (h:RdIn w B g r tv ov vs) (d:Below w.heap.size w w') (i:p<B) (u:Value):eF (w'.setCell ⟨p,0,none⟩ u) p tv r.Ec:=by
 refine⟨vs,yV (aX h.Ec (fun k c=>?_)) (by omega),(h.Eb.keep (fun v f k c=>?_)).base (by omega)⟩
 ·have:=(h.Ec.lt k c);rw[xb _ _ _ _ (by simp;omega),d.block k this.2]
 ·obtain⟨n,j,e⟩:=h.Eb.mem v f;have:=(e.lt k c);rw[xb _ _ _ _ (by simp;omega),d.block k this.2]
theorem kY {t:TypeId} (h:w.heap[g]?=some (.cells #[v] t (0,0))):w.cell? ⟨g,0,none⟩=some v/\w.frozen? ⟨g,0,none⟩=false/\g<w.heap.size:=by
 refine⟨?_,?_,(Array.getElem?_eq_some_iff.1 h).1⟩<;>simp[World.cell?,World.frozen?,h]
theorem EZ (s:ByteArray) (m k:Nat):(s.extract m k).size<=s.size:=by
 simp[ByteArray.size_extract];omega
theorem zFh (s:ByteArray) (w:World) (J:s.size<=8192) :
  Calls prog 30 #[.string s] w fun e w'=>∃ g cap,∃ (c:List ByteArray) (last:ByteArray),e=.returned (.tuple #[.slice (some ⟨g,0,none⟩) c.length cap,.bool last.toList.isEmpty])/\Hid (c.map x5++[last.toList]=zMi 10 s.toList)/\zAp w' g 0 c/\c.length<=8192/\c.length<=cap/\g<w'.heap.size/\w.heap.size<=g/\(∀ x∈c,x.size<=8192)/\Below w.heap.size w w':=by
 go_enter func30,ntmps30;go_wp2_with fail;refine (zID 10 s _ J).mono ?_;rintro e y ⟨g,cap,z,rfl,f,d,F⟩;obtain⟨q,D,E⟩:=FG d;have C:w.heap.size<=g:=(d.lt g rfl).1;have u:=pY 10 s.toList;rw[<- f,List.length_map,bS] at u;have k:z≠[]:=by intro e;rw[e] at f;exact mB _ _ f.symm
 obtain⟨c,last,rfl⟩:=iD z k;have t:Hid (c.map x5++[last.toList]=zMi 10 s.toList):=by unfold Hid;rw[<- f];simp
 have l:zAp y g 0 c:=fun i x o=>q i x (by rw[xc (List.getElem?_eq_some_iff.1 o).1];exact o)
 have G:y.cell? ⟨g,c.length,none⟩=some (.string last):=by
  have:=q c.length last (by simp);simpa using this
 have m:∀ x∈c,x.size<=8192:=fun x o=>by
  have H:x.toList∈zMi 10 s.toList:=by rw[<- t.out];simp;left;exact⟨x,o,rfl⟩
  have:=kIt 10 s.toList x.toList H;rw[bS,bS] at this;omega
 have A:=zAa m;have p:=zAa l;simp only[List.length_append,x7,List.length_nil,Nat.zero_add] at u D;have I:¬ ((c.length:Int)<0):=by omega
 have j:(c++[last]).length=c.length+1:=by simp
 clear f d q l m k;simp only[j];go_wp2;go_region
 all_goals go_wp2
 go_ret2;refine⟨g,cap,c,last,?_,t,?_,by omega,by omega,E,C,A.out,F.drew⟩
 ·first | rfl | simp
 ·exact p.out.drew
theorem zIL (m:Int) (w:World) :
  Calls prog 29 #[.int .i64 m] w fun e w'=>e=.returned (.agg #[.slice none 0 0,.int .i64 m,.int .i64 0,.int .i64 0,.slice none 0 0])/\Below w.heap.size w w':=by
 go_enter func29,ntmps29;go_wp2;refine bodyPost_ret (v:=.agg #[.slice none 0 0,.int .i64 m,.int .i64 0,.int .i64 0,.slice none 0 0]) ?_ rfl ⟨rfl,(x2 _ _).alloc (x3 _) _⟩;simp[results,Tryz.results29,go_sem]
theorem zFA (B g:Nat) (r:Rd) (w:World) (h:dJ w B g r) (m:r.Ec.length<6) (l:r.opn.length<10) :
  Calls prog 32 #[.pointer (some ⟨g,0,none⟩)] w fun e w'=>e=.returned (.bool (decide (0<r.Ec.length)&&decide (r.opn.length=0)))/\w'=w:=by
 obtain⟨tv,ov,vs,h⟩:=h;obtain⟨x,y,t,u,rfl,rfl⟩:=h.iN;obtain⟨j,i,g0,o,p,q,s⟩:=h.facts;clear h;by_cases h1:0<r.Ec.length
 ·have c:(0:Int)<(r.Ec.length:Int):=by omega
  cases h2:((r.opn.length:Int)==0)
  all_goals
   have f:=h2;simp at f;go_enter func32,ntmps32;go_wp2;go_ret;refine⟨?_,rfl⟩;simp[h1,f]
 ·have c:¬ (0:Int)<(r.Ec.length:Int):=by omega
  have k:decide ((0:Int)<(r.Ec.length:Int))=false:=decide_eq_false c;have d:decide (0<r.Ec.length)=false:=decide_eq_false h1;go_enter func32,ntmps32;go_wp2;go_ret;refine⟨?_,rfl⟩;simp[d]
theorem zGp (B g:Nat) (r:Rd) (tv ov:Value) (vs:List Value) (w:World) (h:RdIn w B g r tv ov vs) :
  Calls prog 33 #[.pointer (some ⟨g,0,none⟩)] w fun e w'=>e=.returned (.agg #[tv])/\Below w.heap.size w w':=by
 obtain⟨f,i,o,p,rfl,rfl⟩:=h.iN;obtain⟨d,c,g0,j,k,l,m⟩:=h.facts;clear h;go_enter func33,ntmps33;go_wp2;refine bodyPost_ret (v:=.agg #[.slice f r.Ec.length i]) ?_ rfl ⟨rfl,(x2 _ _).alloc (x3 _) _⟩;simp[results,Tryz.results33,go_sem]
namespace P
def bars:List Stm->Int
 | []=>0
 | s::r=>(if s.kind==5 then 1 else 0)+bars r
theorem yE (a b:List Stm):bars (a++b)=bars a+bars b:=by
 induction a with
 | nil=>simp[bars]
 | cons s r ih=>simp[bars,ih];omega
theorem qL (l:List Stm):0<=bars l/\bars l<=l.length:=by
 induction l with
 | nil=>simp[bars]
 | cons s r ih=>simp only[bars,x7];split<;>omega
theorem kJY (l:List Stm) (k:Nat) (h:k<l.length):bars (l.take (k+1))=bars (l.take k)+if l[k].kind==5 then 1 else 0:=by
 rw[x6 h,yE];simp[bars]
end P
theorem zGq (l:List Stm):∀ (k:Nat) (h:k<l.length) (i:Nat),i<11->(iF l)[k*11+i]?=(aQ l[k]).toList[i]?:=by
 induction l with
 | nil=>intro k h;simp at h
 | cons a r ih =>
  intro k h i c;have e:iF (a::r)=(aQ a).toList++iF r:=by simp[iF]
  have d:(aQ a).toList.length=11:=rfl;rw[e]
  cases k with
  | zero =>
   rw[xc (by omega)];simp
  | succ k =>
   rw[List.getElem?_append_right (by omega),d,show (k+1)*11+i-11=k*11+i by omega,ih k (by simpa using h) i c];simp
theorem wA {l:List Stm} (h:w.ownsRow B 109 11 (.slice (some ⟨b,0,none⟩) n cap) n (iF l)) (f:n=l.length) (k:Nat) (e:k<l.length):w.rangeAt b (k*11) (aQ l[k]).toList:=by
 intro j v c;have d:j<11:=(List.getElem?_eq_some_iff.1 c).1;rw[h.cellAt _ (by omega),zGq l k e j d];exact c
theorem fY {o:Nat} {cs:List Value} (h:w.rangeAt b o cs) (e:w'.heap[b]?=w.heap[b]?):w'.rangeAt b o cs:=fun j v c=>by
 rw[World.cell?_of_block (w:=w) (a:=⟨b,o+j,none⟩) e];exact h j v c
theorem kW {e:Array Oper} {rest:List Oper} {d:Oper} {Q:Exit->Act->World->Prop} (x:Operand) (f:d.guard=none) (i:d.op=.load 109 x)
  (b o:Nat) (c:Stm) (k:a.eval x=.pointer (some ⟨b,o,none⟩)) (j:w.rangeAt b o (aQ c).toList)
  (h:wpList prog e Q rest (a.put d.dst (.agg #[.int .i64 c.kind,.int .i64 c.line,.int .i64 c.dest,.int .i64 c.var,.bool c.a.reg,.int .i64 c.a.n,.bool c.b.reg,.int .i64 c.b.n,.int .i64 c.order,.int .i64 c.scope,.int .i64 c.label])) w):wpList prog e Q (d::rest) a w :=
 wpList_load_mid f _ x i b o k (aQ c).toList _ j underlying109 rfl (by kernel_rfl) h
theorem xE (B n:Nat) (E K:Int) (z:Value) (l:List Stm) (w:World) (f:w.ownsRow B 109 11 z n (iF l)) (A:n=l.length) (J:n<10000) :
  Calls prog 34 #[.agg #[.int .i64 E,.int .i64 K,z]] w fun e w'=>e=.returned (.int .i64 (bars l))/\Below w.heap.size w w':=by
 have x:∃ a c,z=.slice a n c/\(0<n->∃ b,a=some ⟨b,0,none⟩/\b<w.heap.size):=by
  rcases f.2 with ⟨e,G⟩ | ⟨k,c,F,e,_⟩
  ·exact⟨none,0,by rw[e,G],fun h=>by omega⟩
  ·exact⟨_,c,e,fun _=>⟨k,rfl,(f.lt k (by rw[e];rfl)).2⟩⟩
 obtain⟨M,N,rfl,t⟩:=x;have C:=zAa f;have p:=zAa A;clear f A;go_enter func34,ntmps34;go_wp2;go_loopw [3,9] (fun c i wr=>∃ k:Nat,k<=n/\i=.int .i64 k/\c=.int .i64 (bars (l.take k))/\Below w.heap.size w wr) (fun _ i _=>n-(intOf i).toNat)
 case atStart=>exact⟨0,x4 _,rfl,by simp[bars],(x2 _ _).alloc (x3 _) _⟩
 case round =>
  obtain⟨k,L,rfl,rfl,d⟩:=hrel;have H:=qL (l.take k);have I:(l.take k).length<=k:=x8 _ _;by_cases hlt:k<n
  ·obtain⟨b,rfl,m⟩:=t (by omega);have o:k<l.length:=by rw[<- p.out];exact hlt
   have s:=zAa (fY (wA C.out p.out k o) (d.block b m));have j:=zAa (kJY l k o);generalize u:l[k]=y at s j;clear u
   cases h5:(y.kind==5)
   ·go_wp2_with (first | (refine kW (.tmp 11) rfl rfl b (k*11) y rfl s.out ?_));go_roundw
    case rel=>exact⟨k+1,by omega,by go_num,by rw[j.out,h5];simp,d.alloc (by have:=d.size;omega) _⟩
    case measure=>simp[intOf];omega
   ·go_wp2_with (first | (refine kW (.tmp 11) rfl rfl b (k*11) y rfl s.out ?_));go_roundw
    case rel=>exact⟨k+1,by omega,by go_num,by rw[j.out,h5];simp,d.alloc (by have:=d.size;omega) _⟩
    case measure=>simp[intOf];omega
  ·have q:k=n:=by omega
   subst q;have D:Hid (l.take k=l):=xd (by have:=p.out;omega);go_wp2;go_ret;rw[D.out];exact⟨rfl,d⟩
namespace P
def zNl (b:Int):List Thr->Int
 | []=>0
 | t::r=>if t.block==b then bars t.Eb else zNl b r
def zMs (all:List Thr):List Thr->Int
 | []=>0
 | t::r=>if bars t.Eb != zNl t.block all||decide (2<bars t.Eb) then t.line else zMs all r
theorem kJK (b:Int) (ts:List Thr):0<=zNl b ts:=by
 induction ts with
 | nil=>simp[zNl]
 | cons t r ih=>simp only[zNl];split;exact (qL _).1;exact ih
end P
theorem zFB (ts:List Thr):∀ (vs:List Value),vs.length=ts.length->∀ (k:Nat) (h:k<ts.length),∃ v,vs[k]?=some v/\(zAK ts vs)[k*3]?=some (.int .i64 ts[k].block)/\(zAK ts vs)[k*3+1]?=some (.int .i64 ts[k].line)/\(zAK ts vs)[k*3+2]?=some v:=by
 induction ts with
 | nil=>intro vs _ k h;simp at h
 | cons t r ih =>
  intro vs c k h
  match vs,c with
  | v::q,c =>
   cases k with
   | zero=>exact⟨v,rfl,by simp[zAK],by simp[zAK],by simp[zAK]⟩
   | succ k =>
    obtain⟨u,d,e,f,i⟩:=ih q (by simpa using c) k (by simpa using h);refine⟨u,by simpa using d,?_,?_,?_⟩
    ·rw[show (k+1)*3=k*3+3 by omega];simpa [zAK] using e
    ·rw[show (k+1)*3+1=k*3+1+3 by omega];simpa [zAK] using f
    ·rw[show (k+1)*3+2=k*3+2+3 by omega];simpa [zAK] using i
theorem zAO.get {w:World} {B:Nat}:∀ {ts:List Thr} {vs:List Value},zAO w B ts vs->∀ (k:Nat) (h:k<ts.length) (v:Value),vs[k]?=some v->w.ownsRow B 109 11 v ts[k].Eb.length (iF ts[k].Eb)
 | t::r,u::q,h,0,_,v,hv=>by simp at hv;subst hv;exact h.1
 | t::r,u::q,h,k+1,hk,v,hv=>zAO.get h.2.2 k (by simpa using hk) v (by simpa using hv)
theorem uE {d:Nat} (h:eF w B (.slice (some ⟨d,0,none⟩) n cap) ts) (y:n=ts.length) (k:Nat) (m:k<ts.length) :
  d<w.heap.size/\∃ i j,w.cell? ⟨d,k*3,none⟩=some (.int .i64 ts[k].block)/\w.cell? ⟨d,k*3+1,none⟩=some (.int .i64 ts[k].line)/\w.cell? ⟨d,k*3+2,none⟩=some (.slice i ts[k].Eb.length j)/\w.ownsRow B 109 11 (.slice i ts[k].Eb.length j) ts[k].Eb.length (iF ts[k].Eb):=by
 obtain⟨vs,f,l⟩:=h;rw[<- y] at f;obtain⟨v,q,s,t,u⟩:=zFB ts vs l.length k m;have o:=l.get k m v q;have z:∃ a c,v=.slice a ts[k].Eb.length c:=by
  rcases o.2 with ⟨e,x⟩ | ⟨A,c,p,e,_⟩
  ·exact⟨none,0,by rw[e,x]⟩
  ·exact⟨_,c,e⟩
 obtain⟨i,j,rfl⟩:=z;refine⟨(f.lt d rfl).2,i,j,?_,?_,?_,o⟩
 ·rw[f.cellAt _ (by omega)];exact s
 ·rw[f.cellAt _ (by omega)];exact t
 ·rw[f.cellAt _ (by omega)];exact u
theorem DC (B y n cap:Nat) (b:Int) (ts:List Thr) (w:World) (h:eF w B (.slice (some ⟨y,0,none⟩) n cap) ts) (D:n=ts.length) (H:n<10) (f:∀ t∈ts,t.Eb.length<10000) :
  Calls prog 35 #[.agg #[.slice (some ⟨y,0,none⟩) n cap],.int .i64 b] w fun e w'=>e=.returned (.int .i64 (zNl b ts))/\Below w.heap.size w w':=by
 have E:=zAa h;have o:=zAa D;have F:=zAa f;clear h D f;go_enter func35,ntmps35;go_wp2;go_loopw [10] (fun i wr=>∃ k:Nat,k<=n/\i=.int .i64 k/\Hid (zNl b ts=zNl b (ts.drop k))/\Below w.heap.size w wr) (fun i _=>n-(intOf i).toNat)
 case atStart=>exact⟨0,x4 _,rfl,rfl,(x2 _ _).alloc (x3 _) _⟩
 case round =>
  obtain⟨k,M,rfl,HB,c⟩:=hrel;by_cases hlt:k<n
  ·have m:k<ts.length:=by rw[<- o.out];exact hlt
   obtain⟨l,N,O,z,A,C,s⟩:=uE E.out o.out k m;have J:=aC c l z;have K:=aC c l A;have L:=aC c l C;have q:=F.out ts[k] (x9 m);have x:=zAa (tD ts k m);have u:=zAa (aX s (fun j G=>c.block j (s.lt j G).2));generalize f:ts[k]=t at *;clear f z A C s;have I:w.heap.size<=wr.heap.size:=c.size
   cases hb:(t.block==b)
   ·have d:Hid (zNl b ts=zNl b (ts.drop (k+1))):=by
     unfold Hid;rw[HB.out,x.out,zNl,hb];simp
    go_wp2;go_roundw
    case rel=>exact⟨k+1,by omega,by go_num,d,c.alloc (by omega) _⟩
    case measure=>simp[intOf];omega
   ·have d:Hid (zNl b ts=bars t.Eb):=by
     unfold Hid;rw[HB.out,x.out,zNl,hb];simp
    go_wp2_with (first | (go_at_call 34;refine (xE B t.Eb.length _ _ _ t.Eb _ (by exact u.out.alloc _) rfl q).mono ?_;rintro e S ⟨rfl,p⟩));go_ret;rw[d.out];exact⟨rfl,(c.alloc (by omega) _).trans (p.mono (by simp;omega))⟩
  ·have d:Hid (zNl b ts=0):=by
    unfold Hid;rw[HB.out,xe (by have:=o.out;omega)];rfl
   go_wp2;go_ret;rw[d.out];exact⟨rfl,c⟩
theorem zHG (B q n cap:Nat) (ts:List Thr) (w:World) (h:eF w B (.slice (some ⟨q,0,none⟩) n cap) ts) (M:n=ts.length) (y:n<10) (o:∀ t∈ts,t.Eb.length<10000) :
  Calls prog 18 #[.agg #[.slice (some ⟨q,0,none⟩) n cap]] w fun e w'=>e=.returned (.int .i64 (zMs ts ts))/\Below w.heap.size w w':=by
 have G:=zAa h;have A:=zAa M;have C:=zAa o;clear h M o;go_enter func18,ntmps18;go_wp2;go_loopw [10] (fun i wr=>∃ k:Nat,k<=n/\i=.int .i64 k/\Hid (zMs ts ts=zMs ts (ts.drop k))/\Hid (wr.heap[w.heap.size]?=some (.cells #[.slice (some ⟨q,0,none⟩) n cap] 32 (0,0)))/\Below w.heap.size w wr) (fun i _=>n-(intOf i).toNat)
 case atStart=>exact⟨0,x4 _,rfl,rfl,heap_alloc_new w _,(x2 _ _).alloc (x3 _) _⟩
 case round =>
  obtain⟨k,hk,rfl,HB,I,d⟩:=hrel;by_cases hlt:k<n
  ·have u:k<ts.length:=by rw[<- A.out];exact hlt
   obtain⟨s,O,S,J,K,L,F⟩:=uE G.out A.out k u;have d0:=aC d s J;have d1:=aC d s K;have d2:=aC d s L;have x:=C.out ts[k] (x9 u);have H:=zAa (tD ts k u);have z:=zAa (aX F (fun j E=>d.block j (F.lt j E).2));generalize o:ts[k]=t at *;clear o J K L F;have ad:w.heap.size<=wr.heap.size:=d.size;obtain⟨p0,_,p2⟩:=kY I.out;have Y:=qL t.Eb;have Z:=kJK t.block ts;have D:Hid (∀ l:World,Below (wr.alloc (.cells #[.int .i64 t.block,.int .i64 t.line,.slice O t.Eb.length S] 104)).heap.size (wr.alloc (.cells #[.int .i64 t.block,.int .i64 t.line,.slice O t.Eb.length S] 104)) l->eF l B (.slice (some ⟨q,0,none⟩) n cap) ts):=fun l c=>by
    refine G.out.keep (fun j E=>?_);rw[c.block j (by simp;omega),xg _ _ _ (by omega),d.block j E]
   cases hu:(bars t.Eb != zNl t.block ts||decide (2<bars t.Eb))
   ·have m:Hid (zMs ts ts=zMs ts (ts.drop (k+1))):=by
     unfold Hid;rw[HB.out,H.out,zMs,hu];simp
    obtain⟨aa,ab⟩:(bars t.Eb != zNl t.block ts)=false/\decide (2<bars t.Eb)=false:=by simpa using hu
    go_wp2_with (first | (go_at_call 34;refine (xE B t.Eb.length _ _ _ t.Eb _ (by exact z.out.alloc _) rfl x).mono ?_;rintro e l ⟨rfl,c⟩;have N:wr.heap.size+1<=l.heap.size:=(by have:=c.size;simp at this;omega);have V:=c.cell (p:=⟨wr.heap.size,0,none⟩) (by simp);have W:=c.cell (p:=⟨wr.heap.size,1,none⟩) (by simp);have X:=c.cell (p:=⟨w.heap.size,0,none⟩) (by simp;omega)) | (go_at_call 35;refine (DC B q n cap _ ts _ (by exact D.out l c) A.out y C.out).mono ?_;rintro e T ⟨rfl,f⟩;have U:=f.cell (p:=⟨wr.heap.size,1,none⟩) (show wr.heap.size<l.heap.size by omega)));go_roundw
    case rel=>exact⟨k+1,by omega,by go_num,m,by unfold Hid;rw[f.block _ (by omega),c.block _ (by simp;omega),xg _ _ _ p2];exact I.out,(d.alloc (by omega) _).trans ((c.mono (by simp;omega)).trans (f.mono (by omega)))⟩
    case measure=>simp[intOf];omega
   ·have m:Hid (zMs ts ts=t.line):=by
     unfold Hid;rw[HB.out,H.out,zMs,hu];simp
    cases hv:(bars t.Eb != zNl t.block ts)
    ·have ac:2<bars t.Eb:=by simpa [hv] using hu
     clear hu;go_wp2_with (first | (go_at_call 34;refine (xE B t.Eb.length _ _ _ t.Eb _ (by exact z.out.alloc _) rfl x).mono ?_;rintro e l ⟨rfl,c⟩;have N:wr.heap.size+1<=l.heap.size:=(by have:=c.size;simp at this;omega);have V:=c.cell (p:=⟨wr.heap.size,0,none⟩) (by simp);have W:=c.cell (p:=⟨wr.heap.size,1,none⟩) (by simp);have X:=c.cell (p:=⟨w.heap.size,0,none⟩) (by simp;omega)) | (go_at_call 35;refine (DC B q n cap _ ts _ (by exact D.out l c) A.out y C.out).mono ?_;rintro e T ⟨rfl,f⟩;have U:=f.cell (p:=⟨wr.heap.size,1,none⟩) (show wr.heap.size<l.heap.size by omega)));go_ret;rw[m.out];exact⟨rfl,(d.alloc (by omega) _).trans ((c.mono (by simp;omega)).trans (f.mono (by omega)))⟩
    ·clear hu;go_wp2_with (first | (go_at_call 34;refine (xE B t.Eb.length _ _ _ t.Eb _ (by exact z.out.alloc _) rfl x).mono ?_;rintro e l ⟨rfl,c⟩;have N:wr.heap.size+1<=l.heap.size:=(by have:=c.size;simp at this;omega);have V:=c.cell (p:=⟨wr.heap.size,0,none⟩) (by simp);have W:=c.cell (p:=⟨wr.heap.size,1,none⟩) (by simp);have X:=c.cell (p:=⟨w.heap.size,0,none⟩) (by simp;omega)) | (go_at_call 35;refine (DC B q n cap _ ts _ (by exact D.out l c) A.out y C.out).mono ?_;rintro e T ⟨rfl,f⟩;have U:=f.cell (p:=⟨wr.heap.size,1,none⟩) (show wr.heap.size<l.heap.size by omega)));go_ret;rw[m.out];exact⟨rfl,(d.alloc (by omega) _).trans ((c.mono (by simp;omega)).trans (f.mono (by omega)))⟩
  ·have m:Hid (zMs ts ts=0):=by
    unfold Hid;rw[HB.out,xe (by have:=A.out;omega)];rfl
   go_wp2;go_ret;rw[m.out];exact⟨rfl,d⟩
namespace P
def mG (d:Int):List Stm->Option Int
 | []=>none
 | s::r =>
  if s.kind==10 then mG (d+1) r
  else if s.kind==11 then mG (d-1) r
  else if s.kind==5 then (if 0<d then some s.line else mG d r)
  else mG d r
def cnt (p:Stm->Bool):List Stm->Int
 | []=>0
 | s::r=>(if p s then 1 else 0)+cnt p r
theorem zNY (p:Stm->Bool) (a b:List Stm):cnt p (a++b)=cnt p a+cnt p b:=by
 induction a with
 | nil=>simp[cnt]
 | cons s r ih=>simp[cnt,ih];omega
theorem oD (p:Stm->Bool) (l:List Stm):0<=cnt p l/\cnt p l<=l.length:=by
 induction l with
 | nil=>simp[cnt]
 | cons s r ih=>simp only[cnt,x7];split<;>omega
theorem DA (p:Stm->Bool) (l:List Stm) (k:Nat) (h:k<l.length):cnt p (l.take (k+1))=cnt p (l.take k)+if p l[k] then 1 else 0:=by
 rw[x6 h,zNY];simp[cnt]
def tot (p:Stm->Bool):List Thr->Int
 | []=>0
 | t::r=>cnt p t.Eb+tot p r
theorem kIv (p:Stm->Bool) (a b:List Thr):tot p (a++b)=tot p a+tot p b:=by
 induction a with
 | nil=>simp[tot]
 | cons s r ih=>simp[tot,ih];omega
theorem BP (p:Stm->Bool) (l:List Thr) (k:Nat) (h:k<l.length):tot p (l.take (k+1))=tot p (l.take k)+cnt p l[k].Eb:=by
 rw[x6 h,kIv];simp[tot]
theorem zM (p:Stm->Bool) (l:List Thr) (N:Nat) (h:∀ t∈l,t.Eb.length<N):0<=tot p l/\tot p l<=l.length*N:=by
 induction l with
 | nil=>simp[tot]
 | cons t r ih =>
  have d:=ih (fun t c=>h t (by simp[c]));have e:=oD p t.Eb;have f:=h t (by simp);simp only[tot,x7];refine⟨by omega,?_⟩;have:((r.length+1:Nat):Int)*N=r.length*N+N:=by push_cast;rw[Int.add_mul];omega
  rw[this];omega
def isR (s:Stm):Bool:=reads s.kind
def isW (s:Stm):Bool:=zMK s.kind
def isF (s:Stm):Bool:=s.kind==4&&s.order==5
def over (ts:List Thr):Bool:=decide (4<tot isR ts)||decide (3<tot isW ts)||decide (3<tot isF ts)
end P
theorem zJW (B X n cap:Nat) (ts:List Thr) (w:World) (h:eF w B (.slice (some ⟨X,0,none⟩) n cap) ts) (hn:n=ts.length) (am:n<10) (f:∀ t∈ts,t.Eb.length<10000) :
  Calls prog 19 #[.agg #[.slice (some ⟨X,0,none⟩) n cap]] w fun e w'=>e=.returned (.bool (over ts))/\Below w.heap.size w w':=by
 have HA:=zAa h;have z:=zAa hn;have S:=zAa f;clear h hn f;go_enter func19,ntmps19;go_wp2;go_loopw [3,4,5,13] (fun a b c i wr=>∃ k:Nat,k<=n/\i=.int .i64 k/\a=.int .i64 (tot P.isR (ts.take k))/\b=.int .i64 (tot P.isW (ts.take k))/\c=.int .i64 (tot P.isF (ts.take k))/\Below w.heap.size w wr) (fun _ _ _ i _=>n-(intOf i).toNat)
 case atStart=>exact⟨0,x4 _,rfl,by simp[tot],by simp[tot],by simp[tot],(x2 _ _).alloc (x3 _) _⟩
 case round =>
  obtain⟨k,hk,rfl,rfl,rfl,rfl,d⟩:=hrel;have o:∀ t∈ts.take k,t.Eb.length<10000:=fun t ht=>S.out t (List.mem_of_mem_take ht)
  have ae:=zM P.isR (ts.take k) 10000 o;have af:=zM P.isW (ts.take k) 10000 o;have ad:=zM P.isF (ts.take k) 10000 o;have aj:(ts.take k).length<=k:=x8 _ _;clear o;by_cases hlt:k<n
  ·have m:k<ts.length:=by rw[<- z.out];exact hlt
   obtain⟨p,sa,sc,Y,Z,c2,I⟩:=uE HA.out z.out k m;have d0:=aC d p Y;have d1:=aC d p Z;have d2:=aC d p c2;have al:=S.out ts[k] (x9 m);have HR:=zAa (BP P.isR ts k m);have HW:=zAa (BP P.isW ts k m);have HF:=zAa (BP P.isF ts k m);have A:=zAa I;generalize f:ts[k]=t at *;have K:0<t.Eb.length->∃ b,sa=some ⟨b,0,none⟩/\b<w.heap.size:=fun h0=>by
    rcases I.2 with ⟨e,ab⟩ | ⟨b',c',aa,e,ac,G,_⟩
    ·omega
    ·simp only[Value.slice.injEq] at e;exact⟨b',e.1,(Array.getElem?_eq_some_iff.1 G).1⟩
   clear f Y Z c2 I;have L:w.heap.size<=wr.heap.size:=d.size;have y:Hid (Below w.heap.size w (wr.alloc (.cells #[.int .i64 t.block,.int .i64 t.line,.slice sa t.Eb.length sc] 104))):=d.alloc L _;clear d;generalize hR:tot P.isR (ts.take k)=R at *;generalize hW:tot P.isW (ts.take k)=W at *;generalize hF:tot P.isF (ts.take k)=F at *;clear hR hW hF;go_wp2;go_loopw [3,4,5,20] (fun a b c j w2=>∃ q:Nat,q<=t.Eb.length/\j=.int .i64 q/\a=.int .i64 (R+cnt P.isR (t.Eb.take q))/\b=.int .i64 (W+cnt P.isW (t.Eb.take q))/\c=.int .i64 (F+cnt P.isF (t.Eb.take q))/\Below w.heap.size w w2) (fun _ _ _ j _=>t.Eb.length-(intOf j).toNat)
   case atStart=>exact⟨0,x4 _,rfl,by simp[cnt],by simp[cnt],by simp[cnt],y.out⟩
   case round =>
    obtain⟨q,hq,rfl,rfl,rfl,rfl,d⟩:=hrel;have ah:=oD P.isR (t.Eb.take q);have ai:=oD P.isW (t.Eb.take q);have ag:=oD P.isF (t.Eb.take q);have ak:(t.Eb.take q).length<=q:=x8 _ _;by_cases hql:q<t.Eb.length
    ·obtain⟨b,rfl,u⟩:=K (by omega);have hr:=zAa (fY (wA A.out rfl q hql) (d.block b u));have D:=zAa (DA P.isR t.Eb q hql);have E:=zAa (DA P.isW t.Eb q hql);have C:=zAa (DA P.isF t.Eb q hql);generalize f:t.Eb[q]=l at hr D E C;clear f;have x:=d.size;generalize N:cnt P.isR (t.Eb.take q)=xR at *;generalize O:cnt P.isW (t.Eb.take q)=xW at *;generalize M:cnt P.isF (t.Eb.take q)=xF at *;clear N O M
     cases b1:reads l.kind<;>cases b2:zMK l.kind<;>cases b3:(l.kind==4)
     all_goals
      try cases b4:(l.order==5)
     all_goals
      have e1:P.isR l=reads l.kind:=rfl;have e2:P.isW l=zMK l.kind:=rfl;have e3:P.isF l=(l.kind==4&&l.order==5):=rfl;have U:Hid (cnt P.isR (t.Eb.take (q+1))=_):=D.out;have V:Hid (cnt P.isW (t.Eb.take (q+1))=_):=E.out;have T:Hid (cnt P.isF (t.Eb.take (q+1))=_):=C.out;rw[e1,b1] at U;rw[e2,b2] at V;simp only[e3,b3,b4] at T;clear e1 e2 e3 D E C;go_wp2_with (first | (refine kW (.tmp 22) rfl rfl b (q*11) l rfl hr.out ?_) | (go_at_call 36;refine (CO _ _).mono ?_;rintro e w' ⟨rfl,rfl⟩) | (go_at_call 37;refine (zHx _ _).mono ?_;rintro e w' ⟨rfl,rfl⟩));go_roundw
      case rel=>exact⟨q+1,by omega,by go_num,by rw[U.out];simp<;>omega,by rw[V.out];simp<;>omega,by rw[T.out];simp<;>omega,d.alloc x _⟩
      case measure=>simp[intOf];omega
    ·have J:q=t.Eb.length:=by omega
     subst J;have s:Hid (t.Eb.take t.Eb.length=t.Eb):=List.take_length;go_wp2;go_roundw
     case rel=>exact⟨k+1,by omega,by go_num,by rw[HR.out,s.out],by rw[HW.out,s.out],by rw[HF.out,s.out],d⟩
     case measure=>simp[intOf];omega
  ·have H:k=n:=by omega
   subst H;have s:Hid (ts.take k=ts):=xd (by have:=z.out;omega);have A:Hid (over ts=(decide (4<tot P.isR (ts.take k))||decide (3<tot P.isW (ts.take k))||decide (3<tot P.isF (ts.take k)))):=by
    unfold Hid;rw[s.out];rfl
   generalize tot P.isR (ts.take k)=R at *;generalize tot P.isW (ts.take k)=W at *;generalize tot P.isF (ts.take k)=F at *;go_wp2
   all_goals go_ret
   all_goals rw[A.out]
   all_goals refine⟨?_,d⟩
   all_goals simp[*]
end Go.Proofs.YtonodfjdiepglaaGreatDoor
