import Derived.Test.YtpkjmdcabdplfaaGreatDoorB06
set_option linter.unusedVariables false
set_option linter.unusedSimpArgs false
namespace Go.Proofs.YtpkjmdcabdplfaaGreatDoor
open Go Go.RowKit
set_option maxRecDepth 100000
namespace R
theorem okL_get (l:List Tree):okL l→∀ (k:Nat) (h:k<l.length),Fit l[k].x∧okL l[k].body:=by
 induction l with
 | nil=>intro _ k h;simp at h
 | cons t r ih =>
  intro h k hk
  simp only[okL_nil,okL_cons] at h
  cases k with
  | zero =>
   cases t with
   | mk x b=>simp only[okT] at h;exact h.1
  | succ k=>exact ih h.2 k (by simpa using hk)
theorem signs_bd (v:List UInt8):inn v signs<0∨inn v signs=0∨inn v signs=1∨inn v signs=2:=by
 rw[inn_lit v signs [[43],[45],[61,61]] (by decide)]
 by_cases h1:v=[43]
 ·subst h1;decide
 by_cases h2:v=[45]
 ·subst h2;decide
 by_cases h3:v=[61,61]
 ·subst h3;decide
 simp[idxFrom,Ne.symm h1,Ne.symm h2,Ne.symm h3]
end R
namespace R
theorem line_load (x:Lh) (h:x.op.toList=[108,111,97,100]):lineT x=[108,100,46]++scopd x.ord.toList x.scope.toList++[32]++regT x++[44,32]++celT x.var:=by
 unfold lineT
 simp[h,sLoad,sStore,sFence,sBarrier,lAdd,lSwap,lit_toList]
theorem line_store (x:Lh) (h:x.op.toList=[115,116,111,114,101]):lineT x=[115,116,46]++scopd x.ord.toList x.scope.toList++[32]++celT x.var++[44,32]++shown x.a:=by
 unfold lineT
 simp[h,sLoad,sStore,sFence,sBarrier,lAdd,lSwap,lit_toList]
theorem line_add (x:Lh) (h:x.op.toList=[97,100,100]):lineT x=[97,116,111,109,46,97,100,100,46]++scopd x.ord.toList x.scope.toList++[32]++regT x++[44,32]++celT x.var++[44,32]++shown x.a:=by
 unfold lineT
 simp[h,sLoad,sStore,sFence,sBarrier,lAdd,lSwap,lit_toList]
theorem line_swap (x:Lh) (h:x.op.toList=[115,119,97,112]):lineT x=[97,116,111,109,46,101,120,99,104,46]++scopd x.ord.toList x.scope.toList++[32]++regT x++[44,32]++celT x.var++[44,32]++shown x.a:=by
 unfold lineT
 simp[h,sLoad,sStore,sFence,sBarrier,lAdd,lSwap,lit_toList]
theorem line_fence (x:Lh) (h:x.op.toList=[102,101,110,99,101]):lineT x=[102,101,110,99,101,46]++scopd x.ord.toList x.scope.toList:=by
 unfold lineT
 simp[h,sLoad,sStore,sFence,sBarrier,lAdd,lSwap,lit_toList]
theorem line_barrier (x:Lh) (h:x.op.toList=[98,97,114,114,105,101,114]):lineT x=[98,97,114,46,115,121,110,99]:=by
 unfold lineT
 simp[h,sLoad,sStore,sFence,sBarrier,lAdd,lSwap,lit_toList]
theorem line_mov (x:Lh) (h:x.op.toList=[115,101,116]) (hs:inn x.sign.toList signs<0):lineT x=[109,111,118,32]++regT x++[44,32]++shown x.a:=by
 unfold lineT
 simp[h,hs,sLoad,sStore,sFence,sBarrier,lAdd,lSwap,lit_toList]
theorem line_set (x:Lh) (q:Int) (h:x.op.toList=[115,101,116]) (hq:inn x.sign.toList signs=q) (hs:¬ q<0):lineT x=(if q==0 then [97,100,100] else if q==1 then [115,117,98] else [115,101,116,101,113])++[32]++regT x++[44,32]++shown x.a++[44,32]++shown x.b:=by
 unfold lineT
 simp[h,hq,hs,sLoad,sStore,sFence,sBarrier,lAdd,lSwap,lit_toList]
end R
def WrAt (w:World) (g:Nat) (t:ByteArray) (n:Int) (pv:Value):Prop:=w.heap[g]?=some (.cells #[.string t,.int .i64 n,pv,.bool false] 62 (0,0))
theorem WrAt.facts {w:World} {g:Nat} {t:ByteArray} {n:Int} {pv:Value} (h:WrAt w g t n pv):g<w.heap.size∧(∀ i,w.frozen? ⟨g,i,none⟩=false)∧w.cell? ⟨g,0,none⟩=some (.string t)∧w.cell? ⟨g,1,none⟩=some (.int .i64 n)∧w.cell? ⟨g,2,none⟩=some pv∧w.cell? ⟨g,3,none⟩=some (.bool false):=by
 unfold WrAt at h
 refine⟨(Array.getElem?_eq_some_iff.1 h).1,fun i=>?_,?_,?_,?_,?_⟩<;>simp[World.cell?,World.frozen?,h]
theorem WrAt.lt {w:World} {g:Nat} {t:ByteArray} {n:Int} {pv:Value} (h:WrAt w g t n pv):g<w.heap.size:=h.facts.1
theorem WrAt.of_block {w w':World} {g:Nat} {t:ByteArray} {n:Int} {pv:Value} (h:WrAt w g t n pv) (e:w'.heap[g]?=w.heap[g]?):WrAt w' g t n pv:=by
 unfold WrAt at *;rw[e];exact h
theorem WrAt.below {w w':World} {g:Nat} {t:ByteArray} {n:Int} {pv:Value} (h:WrAt w g t n pv) (hb:Below w.heap.size w w'):WrAt w' g t n pv:=h.of_block (hb.block g h.lt)
theorem WrAt.alloc {w:World} {g:Nat} {t:ByteArray} {n:Int} {pv:Value} (h:WrAt w g t n pv) (o:Obj):WrAt (w.alloc o) g t n pv:=h.of_block (Below.heap_alloc _ _ _ h.lt)
theorem WrAt.setT {w:World} {g:Nat} {t:ByteArray} {n:Int} {pv:Value} (h:WrAt w g t n pv) (t':ByteArray):WrAt (w.setCell ⟨g,0,none⟩ (.string t')) g t' n pv:=by
 unfold WrAt at *;rw[setCell_block h];rfl
theorem WrAt.setN {w:World} {g:Nat} {t:ByteArray} {n:Int} {pv:Value} (h:WrAt w g t n pv) (n':Int):WrAt (w.setCell ⟨g,1,none⟩ (.int .i64 n')) g t n' pv:=by
 unfold WrAt at *;rw[setCell_block h];rfl
theorem WrAt.setP {w:World} {g:Nat} {t:ByteArray} {n:Int} {pv:Value} (h:WrAt w g t n pv) (p':Value):WrAt (w.setCell ⟨g,2,none⟩ p') g t n p':=by
 unfold WrAt at *;rw[setCell_block h];rfl
theorem below_same {B:Nat} {a w w':World} (h:Below B a w) (e1:w'.os=w.os) (e2:w'.tape=w.tape) (e3:w'.output=w.output) (e4:w'.heap=w.heap):Below B a w':=⟨by rw[e1];exact h.os,by rw[e2];exact h.tape,by rw[e3];exact h.output,by rw[e4];exact h.size,by rw[e4];exact h.block⟩
theorem below_drewN {B:Nat} {a w:World} (h:Below B a w) (n:Nat):Below B a (w.drewN n):=⟨h.os,h.tape,h.output,h.size,h.block⟩
def loopIn:Code→Option Code
 | .loop c=>some c
 | .scope c=>loopIn c
 | .block _ c=>loopIn c
 | .seq a b=>(loopIn a).orElse fun _=>loopIn b
 | .cond _ a b=>(loopIn a).orElse fun _=>loopIn b
 | _=>none
def bodyOf (fn:Func):Code:=(fn.body.bind loopIn).getD .skip
def LR (w:World) (g:Nat) (tx:ByteArray) (lb:Int) (pv:Value) (l:List R.Tree) (n:Nat) (i:Value) (wr:World):Prop :=
 ∃ (k:Nat) (u:ByteArray),k≤n∧i=.int .i64 k∧WrAt wr g u (R.textL lb (l.take k)).2 pv∧u.toList=tx.toList++(R.textL lb (l.take k)).1∧(u.size:Int)≤tx.size+20000*R.sizeL (l.take k)∧w.grownBy wr (some g)
structure LC (w wr:World) (g:Nat) (tx:ByteArray) (lb:Int) (pv:Value) (l:List R.Tree) (n k:Nat) (u:ByteArray) (lk:Int) (b:Nat) (uv:Value) (t:R.Tree):Prop where
 hlt:k<n
 hn:n<10000
 ts:R.textL lb (l.take (k+1))=((R.textL lb (l.take k)).1++(R.textT lk t).1,(R.textT lk t).2)
 zs:R.sizeL (l.take (k+1))=R.sizeL (l.take k)+(1+R.sizeL t.body)
 hx:∀ w2:World,wr.grownBy w2 (some g)→w2.cell? ⟨b,k*9,none⟩=some (.string t.x.op)∧w2.cell? ⟨b,k*9+1,none⟩=some (.int .i64 t.x.reg)∧w2.cell? ⟨b,k*9+2,none⟩=some (.int .i64 t.x.var)∧w2.cell? ⟨b,k*9+3,none⟩=some (.int .i64 t.x.a)∧w2.cell? ⟨b,k*9+4,none⟩=some (.int .i64 t.x.b) ∧
   w2.cell? ⟨b,k*9+5,none⟩=some (.string t.x.sign)∧w2.cell? ⟨b,k*9+6,none⟩=some (.string t.x.ord)∧w2.cell? ⟨b,k*9+7,none⟩=some (.string t.x.scope)∧w2.cell? ⟨b,k*9+8,none⟩=some uv
 hw:WrAt wr g u lk pv
 hu:u.toList=tx.toList++(R.textL lb (l.take k)).1
 hz:(u.size:Int)≤tx.size+20000*R.sizeL (l.take k)
 hgr:w.grownBy wr (some g)
 lk0:0≤lk
 lk1:lk+(1+R.sizeL t.body)<90
 us:(u.size:Int)+20000*(1+R.sizeL t.body)<1000000000
 fit:R.Fit t.x
 hbg:b≠g
 hblt:b<wr.heap.size
theorem LC.next {w wr:World} {g:Nat} {tx:ByteArray} {lb:Int} {pv:Value} {l:List R.Tree} {n k:Nat} {u:ByteArray} {lk:Int} {b:Nat} {uv:Value} {t:R.Tree} (h:LC w wr g tx lb pv l n k u lk b uv t) {w2:World} {u2:ByteArray} (hw:WrAt w2 g u2 (R.textT lk t).2 pv) (ht:u2.toList=u.toList++(R.textT lk t).1) (hz:(u2.size:Int)≤u.size+20000*(1+R.sizeL t.body)) (hg:wr.grownBy w2 (some g)) :
  LR w g tx lb pv l n (.int .i64 ((k:Int)+1)) w2:=by
 refine⟨k+1,u2,h.hlt,by go_num,by rw[h.ts];exact hw,by rw[h.ts,ht,h.hu,List.append_assoc],?_,grown_trans h.hgr hg⟩
 have:=h.hz
 rw[h.zs];omega
theorem LC.facts {w wr:World} {g:Nat} {tx:ByteArray} {lb:Int} {pv:Value} {l:List R.Tree} {n k:Nat} {u:ByteArray} {lk:Int} {b:Nat} {uv:Value} {t:R.Tree} (h:LC w wr g tx lb pv l n k u lk b uv t) {w2:World} (hb:Below wr.heap.size wr w2) :
  w2.cell? ⟨b,k*9,none⟩=some (.string t.x.op)∧w2.cell? ⟨b,k*9+1,none⟩=some (.int .i64 t.x.reg)∧w2.cell? ⟨b,k*9+2,none⟩=some (.int .i64 t.x.var)∧w2.cell? ⟨b,k*9+3,none⟩=some (.int .i64 t.x.a)∧w2.cell? ⟨b,k*9+4,none⟩=some (.int .i64 t.x.b) ∧
   w2.cell? ⟨b,k*9+5,none⟩=some (.string t.x.sign)∧w2.cell? ⟨b,k*9+6,none⟩=some (.string t.x.ord)∧w2.cell? ⟨b,k*9+7,none⟩=some (.string t.x.scope)∧w2.cell? ⟨b,k*9+8,none⟩=some uv∧WrAt w2 g u lk pv∧g<w2.heap.size∧w2.frozen? ⟨g,0,none⟩=false∧w2.cell? ⟨g,0,none⟩=some (.string u)∧w2.cell? ⟨g,1,none⟩=some (.int .i64 lk)∧w2.cell? ⟨g,2,none⟩=some pv∧w2.cell? ⟨g,3,none⟩=some (.bool false):=by
 obtain⟨d0,d1,d2,d3,d4,d5,d6,d7,d8⟩:=h.hx w2 (grown_of_below hb _)
 have hw:=h.hw.below hb
 obtain⟨e1,e2,e3,e4,e5,e6⟩:=hw.facts
 exact⟨d0,d1,d2,d3,d4,d5,d6,d7,d8,hw,e1,e2 0,e3,e4,e5,e6⟩
theorem cel_xyz (v:Int) (h0:0≤v) (h1:v<3):Txt 3 ((⟨#[91]⟩:ByteArray)++(⟨#[120,121,122]⟩:ByteArray).extract v.toNat (v+1).toNat++(⟨#[93]⟩:ByteArray)) (R.celT v):=by
 have h3:v=0∨v=1∨v=2:=by omega
 have e:((⟨#[91]⟩:ByteArray)++(⟨#[120,121,122]⟩:ByteArray).extract v.toNat (v+1).toNat++(⟨#[93]⟩:ByteArray)).toList=R.celT v:=by
  rcases h3 with rfl | rfl | rfl<;>simp[app_toList,lit_toList,extract_toList,R.celT,P.varT]
 refine⟨e,?_⟩
 rw[← size_toList,e]
 rcases h3 with rfl | rfl | rfl<;>decide
end Go.Proofs.YtpkjmdcabdplfaaGreatDoor
namespace Go.Proofs.YtpkjmdcabdplfaaGreatDoor
open Go Go.RowKit
def flatC:Code→List Code
 | .seq a b=>flatC a++flatC b
 | c=>[c]
def wpL (P:Program):List Code→(Exit→Act→World→Prop)→Act→World→Prop
 | [],Q,a,w=>Q .normal a w
 | c::r,Q,a,w=>Code.wp P c (Exit.then (fun a' w'=>wpL P r Q a' w') Q) a w
theorem wpL_append {P:Program} {Q:Exit→Act→World→Prop} (x y:List Code):∀ (a:Act) (w:World),wpL P (x++y) Q a w→wpL P x (Exit.then (fun a' w'=>wpL P y Q a' w') Q) a w:=by
 induction x with
 | nil=>intro a w h;exact h
 | cons c r ih =>
  intro a w h
  refine wp_mono h (fun e a' w' he=>?_)
  cases e<;>first | exact ih _ _ he | exact he
theorem wp_flat {P:Program} (c:Code):∀ (Q:Exit→Act→World→Prop) (a:Act) (w:World),wpL P (flatC c) Q a w→Code.wp P c Q a w:=by
 have one:∀ (c:Code) (Q:Exit→Act→World→Prop) (a:Act) (w:World),wpL P [c] Q a w→Code.wp P c Q a w:=fun c Q a w h =>
  wp_mono h (fun e a' w' he=>by cases e<;>exact he)
 induction c with
 | seq x y hx hy =>
  intro Q a w h
  refine wp_seq (hx _ _ _ ?_)
  have h1:=wpL_append (flatC x) (flatC y) a w h
  have mono:∀ (l:List Code) (Q1 Q2:Exit→Act→World→Prop) (a:Act) (w:World),(∀ e a w,Q1 e a w→Q2 e a w)→wpL P l Q1 a w→wpL P l Q2 a w:=by
   intro l
   induction l with
   | nil=>intro Q1 Q2 a w hq h;exact hq _ _ _ h
   | cons c r ih =>
    intro Q1 Q2 a w hq h
    refine wp_mono h (fun e a' w' he=>?_)
    cases e<;>first | exact ih _ _ _ _ hq he | exact hq _ _ _ he
  refine mono _ _ _ _ _ (fun e a' w' he=>?_) h1
  cases e<;>first | exact hy _ _ _ he | exact he
 | _=>exact fun Q a w h=>one _ Q a w h
theorem wpL_step {P:Program} {c:Code} {r:List Code} {Q:Exit→Act→World→Prop} {a:Act} {w:World} (h:∀ K:Act→World→Prop,(∀ a w,wpL P r Q a w→K a w)→Code.wp P c (Exit.then K Q) a w):wpL P (c::r) Q a w :=
 h _ (fun _ _ h=>h)
def stmOf (c:Code) (i:Nat):Code:=((flatC c)[i]?).getD .skip
def inOf (c:Code):Code:=match c with
 | .block _ d=>d
 | d=>d
theorem linesBody_flat:flatC (bodyOf Tryz.f22)=[(stmOf (bodyOf Tryz.f22) 0),(stmOf (bodyOf Tryz.f22) 1),(stmOf (bodyOf Tryz.f22) 2),(stmOf (bodyOf Tryz.f22) 3)]:=by kernel_rfl
theorem linesStm_two:(stmOf (bodyOf Tryz.f22) 2)=Code.block 1 (inOf (stmOf (bodyOf Tryz.f22) 2)):=by kernel_rfl
theorem linesIn_flat:flatC (inOf (stmOf (bodyOf Tryz.f22) 2))=[(stmOf (inOf (stmOf (bodyOf Tryz.f22) 2)) 0),(stmOf (inOf (stmOf (bodyOf Tryz.f22) 2)) 1),(stmOf (inOf (stmOf (bodyOf Tryz.f22) 2)) 2),(stmOf (inOf (stmOf (bodyOf Tryz.f22) 2)) 3),(stmOf (inOf (stmOf (bodyOf Tryz.f22) 2)) 4),(stmOf (inOf (stmOf (bodyOf Tryz.f22) 2)) 5),(stmOf (inOf (stmOf (bodyOf Tryz.f22) 2)) 6),(stmOf (inOf (stmOf (bodyOf Tryz.f22) 2)) 7),(stmOf (inOf (stmOf (bodyOf Tryz.f22) 2)) 8),(stmOf (inOf (stmOf (bodyOf Tryz.f22) 2)) 9),(stmOf (inOf (stmOf (bodyOf Tryz.f22) 2)) 10),(stmOf (inOf (stmOf (bodyOf Tryz.f22) 2)) 11),(stmOf (inOf (stmOf (bodyOf Tryz.f22) 2)) 12),(stmOf (inOf (stmOf (bodyOf Tryz.f22) 2)) 13),(stmOf (inOf (stmOf (bodyOf Tryz.f22) 2)) 14),(stmOf (inOf (stmOf (bodyOf Tryz.f22) 2)) 15),(stmOf (inOf (stmOf (bodyOf Tryz.f22) 2)) 16)]:=by kernel_rfl
theorem own_one {w:World} {B:Nat} {e:TypeId} {sz:Nat} {v:Value} {n:Nat} {xs ys:List Value} (h:w.ownsRow B e sz v n xs) (k:w.ownsRow B e sz v n ys):xs=ys:=by
 rcases h.2 with ⟨e1,h0⟩ | ⟨g,c,cur,e1,_,hg,_,_,_,ht⟩
 ·have a:=h.1
  have b:=k.1
  rw[h0] at a b
  simp at a b
  rw[a,b]
 ·rcases k.2 with ⟨e2,_⟩ | ⟨g',c',cur',e2,_,hg',_,_,_,ht'⟩
  ·rw[e1] at e2;simp at e2
  ·rw[e1] at e2
   simp at e2
   obtain⟨rfl,rfl⟩:=e2
   rw[hg] at hg'
   simp at hg'
   rw[← ht,← ht',hg']
theorem own_popN {w:World} {B:Nat} {e:TypeId} {sz k n cap:Nat} {xs ys:List Value} (h:w.ownsRow B e sz (.slice (some ⟨k,0,none⟩) (n+1) cap) (n+1) (xs++ys)) (hx:xs.length=n*sz):w.ownsRow B e sz (.slice (some ⟨k,0,none⟩) n cap) n xs:=by
 rcases h.2 with ⟨h',_⟩ | ⟨g',cap',cur,h',hb,hg,hnc,hcm,hcs,htake⟩
 ·simp at h'
 ·simp only[Value.slice.injEq,Option.some.injEq,Addr.mk.injEq,and_true,true_and] at h'
  obtain⟨rfl,rfl⟩:=h'
  refine⟨hx,.inr ⟨k,cap,cur,rfl,hb,hg,by omega,hcm,hcs,?_⟩⟩
  have e:cur.toList.take (n*sz)=(cur.toList.take ((n+1)*sz)).take (n*sz):=by
   rw[List.take_take];congr 1
   rw[Nat.add_mul];omega
  rw[e,htake,← hx]
  simp
theorem LinesAt.typed {w:World} {B:Nat} {v:Value} {l:List R.Tree} {F:List Nat} (h:LinesAt w B v l F):∀ k∈F,∃ cur,w.heap[k]?=some (.cells cur 49 (0,0)):=by
 induction h using LinesAt.ind with
 | @row v l vs Fs ho hv hF hc hn ih =>
  intro k hk
  simp only[List.mem_append,List.mem_flatten,Option.mem_toList] at hk
  rcases hk with hk | ⟨F,hF',hk⟩
  ·exact own_type ho hk
  ·obtain⟨i,hi,e⟩:=List.mem_iff_getElem.1 hF'
   have h1:i<l.length:=by omega
   have h2:i<vs.length:=by omega
   exact ih i l[i] vs[i] F (by simp[h1]) (by simp[h2]) (by simp[hi,e]) k hk
theorem LinesAt.own0 {w:World} {B:Nat} {v:Value} {l:List R.Tree} {F:List Nat} (h:LinesAt w B v l F):∃ xs,w.ownsRow B 49 9 v l.length xs:=by
 cases h using LinesAt.cs with
 | row ho _ _ _ _=>exact⟨_,ho⟩
def Kids (w:World) (B:Nat) (vs:List Value) (ls:List (List R.Tree)) (G:List Nat):Prop :=
 ∀ M:List Value→List (List R.Tree)→List Nat→Prop,M [] [] []→(∀ (vs:List Value) (ls:List (List R.Tree)) (G:List Nat) (u:Value) (l:List R.Tree) (F:List Nat),M vs ls G→LinesAt w B u l F→(∀ k∈F,k ∉ G)→M (vs++[u]) (ls++[l]) (G++F))→M vs ls G
theorem Kids.nil {w:World} {B:Nat}:Kids w B [] [] []:=fun _ h1 _=>h1
theorem Kids.snoc {w:World} {B:Nat} {vs:List Value} {ls:List (List R.Tree)} {G:List Nat} {u:Value} {l:List R.Tree} {F:List Nat} (h:Kids w B vs ls G) (g:LinesAt w B u l F) (d:∀ k∈F,k ∉ G):Kids w B (vs++[u]) (ls++[l]) (G++F) :=
 fun M h1 h2=>h2 _ _ _ _ _ _ (h M h1 h2) g d
theorem Kids.ind {w:World} {B:Nat} {motive:∀ (vs:List Value) (ls:List (List R.Tree)) (G:List Nat),Kids w B vs ls G→Prop} (nil:motive [] [] [] Kids.nil)
  (snoc:∀ {vs:List Value} {ls:List (List R.Tree)} {G:List Nat} {u:Value} {l:List R.Tree} {F:List Nat} (h:Kids w B vs ls G) (g:LinesAt w B u l F) (d:∀ k∈F,k ∉ G),motive vs ls G h→motive (vs++[u]) (ls++[l]) (G++F) (Kids.snoc h g d))
  {vs:List Value} {ls:List (List R.Tree)} {G:List Nat} (h:Kids w B vs ls G):motive vs ls G h :=
 (h (fun vs ls G=>∃ h:Kids w B vs ls G,motive vs ls G h) ⟨_,nil⟩ (fun _ _ _ _ _ _ ⟨h,h'⟩ g d=>⟨Kids.snoc h g d,snoc h g d h'⟩)).2
theorem Kids.cs {w:World} {B:Nat} {motive:∀ (vs:List Value) (ls:List (List R.Tree)) (G:List Nat),Kids w B vs ls G→Prop} (nil:motive [] [] [] Kids.nil)
  (snoc:∀ {vs:List Value} {ls:List (List R.Tree)} {G:List Nat} {u:Value} {l:List R.Tree} {F:List Nat} (h:Kids w B vs ls G) (g:LinesAt w B u l F) (d:∀ k∈F,k ∉ G),motive (vs++[u]) (ls++[l]) (G++F) (Kids.snoc h g d))
  {vs:List Value} {ls:List (List R.Tree)} {G:List Nat} (h:Kids w B vs ls G):motive vs ls G h:=Kids.ind nil (fun h g d _=>snoc h g d) h
theorem Kids.len {w:World} {B:Nat} {vs:List Value} {ls:List (List R.Tree)} {G:List Nat} (h:Kids w B vs ls G):vs.length=ls.length:=by
 induction h using Kids.ind with
 | nil=>rfl
 | snoc _ _ _ ih=>simp[ih]
theorem Kids.last {w:World} {B:Nat} {vs:List Value} {u:Value} {ls:List (List R.Tree)} {l:List R.Tree} {G:List Nat} (h:Kids w B (vs++[u]) (ls++[l]) G):∃ Ga F,G=Ga++F∧Kids w B vs ls Ga∧LinesAt w B u l F∧∀ k∈F,k ∉ Ga:=by
 generalize hv:vs++[u]=vs' at h
 generalize hl:ls++[l]=ls' at h
 cases h using Kids.cs with
 | nil=>simp at hv
 | snoc h1 h2 h3 =>
  obtain⟨a,b⟩:=List.append_inj' hv rfl
  obtain⟨c,d⟩:=List.append_inj' hl rfl
  simp at b d
  subst a b c d
  exact⟨_,_,rfl,h1,h2,h3⟩
theorem Kids.keep {w w':World} {B:Nat} {vs:List Value} {ls:List (List R.Tree)} {G:List Nat} (h:Kids w B vs ls G) (hk:∀ k∈G,w'.heap[k]?=w.heap[k]?):Kids w' B vs ls G:=by
 induction h using Kids.ind with
 | nil=>exact .nil
 | snoc h1 h2 h3 ih=>exact .snoc (ih (fun k hkG=>hk k (List.mem_append_left _ hkG))) (h2.keep (fun k hkF=>hk k (List.mem_append_right _ hkF))) h3
theorem Kids.typed {w:World} {B:Nat} {vs:List Value} {ls:List (List R.Tree)} {G:List Nat} (h:Kids w B vs ls G):∀ k∈G,∃ cur,w.heap[k]?=some (.cells cur 49 (0,0)):=by
 induction h using Kids.ind with
 | nil=>simp
 | snoc h1 h2 h3 ih =>
  intro k hk
  rcases List.mem_append.1 hk with hk | hk
  ·exact ih k hk
  ·exact h2.typed k hk
theorem Kids.lt {w:World} {B:Nat} {vs:List Value} {ls:List (List R.Tree)} {G:List Nat} (h:Kids w B vs ls G):∀ k∈G,k<w.heap.size:=fun k hk=>by
 obtain⟨c,hc⟩:=h.typed k hk
 exact (Array.getElem?_eq_some_iff.1 hc).1
theorem Kids.all {w:World} {B:Nat} {vs:List Value} {ls:List (List R.Tree)} {G:List Nat} (h:Kids w B vs ls G):∃ Fs:List (List Nat),Fs.length=ls.length∧∀ (i:Nat) (l:List R.Tree) (u:Value) (F:List Nat),ls[i]?=some l→vs[i]?=some u→Fs[i]?=some F→LinesAt w B u l F:=by
 induction h using Kids.ind with
 | nil=>exact⟨[],rfl,by simp⟩
 | @snoc vs ls G u l F h1 h2 h3 ih =>
  obtain⟨Fs,e,hF⟩:=ih
  have hl:=h1.len
  refine⟨Fs++[F],by simp[e],fun i l' u' F' hl' hu' hF'=>?_⟩
  by_cases hi:i<ls.length
  ·rw[List.getElem?_append_left hi] at hl'
   rw[List.getElem?_append_left (by omega)] at hu' hF'
   exact hF i l' u' F' hl' hu' hF'
  ·have hi':i=ls.length:=by
    have:=(List.getElem?_eq_some_iff.1 hl').1
    simp at this;omega
   subst hi'
   rw[List.getElem?_append_right (by omega)] at hl' hu' hF'
   simp at hl'
   simp[hl] at hu'
   simp[e] at hF'
   subst hl' hu' hF'
   exact h2
theorem Kids.put {w w':World} {B:Nat} {vs:List Value} {u u':Value} {ls:List (List R.Tree)} {l:List R.Tree} {G:List Nat} {x:R.Lh} {b:List R.Tree} {bv:Value} {F:List Nat} {xs:List Value}
  (h:Kids w B (vs++[u]) (ls++[l]) G) (hb:LinesAt w B bv b F) (hd:∀ k∈F,k ∉ G)
  (hx:w.ownsRow B 49 9 u l.length xs) (ho:w'.ownsRow B 49 9 u' (l.length+1) (xs++(lnCells x bv).toList))
  (hk:∀ k,k<w.heap.size→some k≠u.ownBlock→(∃ cur,w.heap[k]?=some (.cells cur 49 (0,0)))→w'.heap[k]?=w.heap[k]?)
  (hat:u'.ownBlock=u.ownBlock∨∀ k,u'.ownBlock=some k→w.heap.size≤k) :
  ∃ G',Kids w' B (vs++[u']) (ls++[l++[.mk x b]]) G':=by
 obtain⟨Ga,H,rfl,h1,h2,h3⟩:=h.last
 have hk2:∀ k,(k∈Ga∨k∈H∨k∈F)→some k≠u.ownBlock→w'.heap[k]?=w.heap[k]?:=fun k hm hne=>by
  have ht:∃ cur,w.heap[k]?=some (.cells cur 49 (0,0)):=by
   rcases hm with hm | hm | hm
   ·exact h1.typed k hm
   ·exact h2.typed k hm
   ·exact hb.typed k hm
  obtain⟨c,hc⟩:=ht
  exact hk k (Array.getElem?_eq_some_iff.1 hc).1 hne ⟨c,hc⟩
 have hda:∀ k∈H,k ∉ F:=fun k hk' hF=>hd k hF (List.mem_append_right _ hk')
 obtain⟨F',hF',hsub⟩:=LinesAt.snoc (x:=x) h2 hb hda (fun vs hvs=>by rw[own_one hvs hx];exact ho) (fun k hm hne=>hk2 k (Or.inr hm) hne) hat
 have hga:∀ k∈Ga,some k≠u.ownBlock:=fun k hkG e=>h3 k (h2.own k e.symm) hkG
 refine⟨_,.snoc (h1.keep (fun k hkG=>hk2 k (Or.inl hkG) (hga k hkG))) hF' (fun k hkF hkG=>?_)⟩
 rcases hsub k hkF with h4 | h4 | h4
 ·exact h3 k h4 hkG
 ·exact hd k h4 (List.mem_append_left _ hkG)
 ·rcases hat with ha | ha
  ·exact hga k hkG (by rw[← ha,h4])
  ·have:=ha k h4
   have:=h1.lt k hkG
   omega
def frOne (a:Int) (v:Value):List Value:=v::(lnCells (R.lIf a) (.slice none 0 0)).toList
def frCells:List R.Fr→List Value→List Value
 | f::l,v::vs=>frOne f.a v++frCells l vs
 | _,_=>[]
theorem frCells_length (l:List R.Fr):∀ (vs:List Value),vs.length=l.length→(frCells l vs).length=l.length*10:=by
 induction l with
 | nil=>intro vs _;simp[frCells]
 | cons t l ih =>
  intro vs h
  cases vs with
  | nil=>simp at h
  | cons v vs =>
   have:=ih vs (by simpa using h)
   simp only[frCells,List.length_append,this,List.length_cons]
   simp[frOne,lnCells];omega
theorem frCells_append (l m:List R.Fr):∀ (vs us:List Value),vs.length=l.length→frCells (l++m) (vs++us)=frCells l vs++frCells m us:=by
 induction l with
 | nil =>
  intro vs us h
  have:vs=[]:=List.length_eq_zero_iff.1 h
  subst this
  simp[frCells]
 | cons t l ih =>
  intro vs us h
  cases vs with
  | nil=>simp at h
  | cons v vs=>simp only[List.cons_append,frCells,ih vs us (by simpa using h),List.append_assoc]
structure RdM (w:World) (B:Nat) (tv ov:Value) (ts:List R.Th) (fs:List R.Fr) (tvs ovs:List Value) (G:List Nat):Prop where
 th:w.ownsRow B 46 3 tv ts.length (thCells ts tvs)
 fr:w.ownsRow B 51 10 ov fs.length (frCells fs ovs)
 lt:tvs.length=ts.length
 lo:ovs.length=fs.length
 kids:Kids w B (tvs++ovs) (ts.map R.Th.body++fs.map R.Fr.l) G
theorem RdM.zero (w:World) (B:Nat):RdM w B (.slice none 0 0) (.slice none 0 0) [] [] [] [] [] :=
 ⟨World.ownsRow_nil _ _ _ _,World.ownsRow_nil _ _ _ _,rfl,rfl,.nil⟩
theorem RdM.keep {w w':World} {B:Nat} {tv ov:Value} {ts:List R.Th} {fs:List R.Fr} {tvs ovs:List Value} {G:List Nat} (h:RdM w B tv ov ts fs tvs ovs G) (hb:∀ k,k<w.heap.size→w'.heap[k]?=w.heap[k]?):RdM w' B tv ov ts fs tvs ovs G :=
 ⟨ownsRow_keep h.th (fun k e=>hb k (h.th.lt k e).2),ownsRow_keep h.fr (fun k e=>hb k (h.fr.lt k e).2),h.lt,h.lo,h.kids.keep (fun k hk=>hb k (h.kids.lt k hk))⟩
theorem grown_typed {w W0 w1:World} {B:Nat} {e:TypeId} {sz n:Nat} {v:Value} {xs:List Value} (h:w.ownsRow B e sz v n xs) (hk:∀ k,k<w.heap.size→W0.heap[k]?=w.heap[k]?) (hsz:w.heap.size≤W0.heap.size) (hgrow:W0.grownBy w1 v.ownBlock)
  {k:Nat} {c:Array Value} {e':TypeId} (hc:w.heap[k]?=some (.cells c e' (0,0))) (hne:e≠e'):w1.heap[k]?=w.heap[k]?:=by
 have hlt:=(Array.getElem?_eq_some_iff.1 hc).1
 rw[hgrow.block k (by omega) (Ne.symm (own_ne_blk h hc hne)),hk k hlt]
theorem RdM.thread {w W0 w1:World} {B:Nat} {tv tv' ov:Value} {ts:List R.Th} {tvs ovs:List Value} {G:List Nat} {b row:Int} (h:RdM w B tv ov ts [] tvs ovs G) (hk:∀ k,k<w.heap.size→W0.heap[k]?=w.heap[k]?) (hsz:w.heap.size≤W0.heap.size)
  (hown:w1.ownsRow B 46 3 tv' (ts.length+1) (thCells ts tvs++[.int .i64 b,.slice none 0 0,.int .i64 row])) (hgrow:W0.grownBy w1 tv.ownBlock) :
  RdM w1 B tv' ov (ts++[⟨b,[],row⟩]) [] (tvs++[.slice none 0 0]) ovs G:=by
 have ho:ovs=[]:=List.length_eq_zero_iff.1 h.lo
 subst ho
 refine⟨?_,?_,by simp[h.lt],rfl,?_⟩
 ·rw[thCells_append _ _ _ _ h.lt,List.length_append]
  simpa [thCells] using hown
 ·refine ownsRow_keep h.fr (fun k e=>?_)
  obtain⟨c,hc⟩:=own_type h.fr e
  exact grown_typed h.th hk hsz hgrow hc (by decide)
 ·have h1:=h.kids.keep (w':=w1) (fun k hkG=>by
   obtain⟨c,hc⟩:=h.kids.typed k hkG
   exact grown_typed h.th hk hsz hgrow hc (by decide))
  have h2:=Kids.snoc h1 (LinesAt.nil w1 B) (by simp)
  simpa using h2
theorem RdM.branch {w W0 w1:World} {B:Nat} {tv ov ov':Value} {ts:List R.Th} {fs:List R.Fr} {tvs ovs:List Value} {G:List Nat} {a:Int} (h:RdM w B tv ov ts fs tvs ovs G) (hk:∀ k,k<w.heap.size→W0.heap[k]?=w.heap[k]?) (hsz:w.heap.size≤W0.heap.size)
  (hown:w1.ownsRow B 51 10 ov' (fs.length+1) (frCells fs ovs++frOne a (.slice none 0 0))) (hgrow:W0.grownBy w1 ov.ownBlock) :
  RdM w1 B tv ov' ts (fs++[⟨[],a⟩]) tvs (ovs++[.slice none 0 0]) G:=by
 refine⟨?_,?_,h.lt,by simp[h.lo],?_⟩
 ·refine ownsRow_keep h.th (fun k e=>?_)
  obtain⟨c,hc⟩:=own_type h.th e
  exact grown_typed h.fr hk hsz hgrow hc (by decide)
 ·rw[frCells_append _ _ _ _ h.lo,List.length_append]
  simpa [frCells] using hown
 ·have h1:=h.kids.keep (w':=w1) (fun k hkG=>by
   obtain⟨c,hc⟩:=h.kids.typed k hkG
   exact grown_typed h.fr hk hsz hgrow hc (by decide))
  have h2:=Kids.snoc h1 (LinesAt.nil w1 B) (by simp)
  simpa using h2
theorem RdM.pop {w:World} {B bo n cap:Nat} {tv u:Value} {ts:List R.Th} {fs:List R.Fr} {f:R.Fr} {tvs ovs:List Value} {G:List Nat} (h:RdM w B tv (.slice (some ⟨bo,0,none⟩) (n+1) cap) ts (fs++[f]) tvs (ovs++[u]) G) (hn:n=fs.length) :
  ∃ Ga F,RdM w B tv (.slice (some ⟨bo,0,none⟩) n cap) ts fs tvs ovs Ga∧LinesAt w B u f.l F∧∀ k∈F,k ∉ Ga:=by
 subst hn
 have hlo:ovs.length=fs.length:=by simpa using h.lo
 have hk:=h.kids
 rw[List.map_append,← List.append_assoc,← List.append_assoc] at hk
 obtain⟨Ga,F,_,h1,h2,h3⟩:=Kids.last hk
 refine⟨Ga,F,⟨h.th,?_,h.lt,hlo,h1⟩,h2,h3⟩
 have hf:=h.fr
 rw[frCells_append _ _ _ _ hlo] at hf
 simp only[List.length_append,List.length_cons,List.length_nil,Nat.zero_add] at hf
 exact own_popN hf (frCells_length _ _ hlo)
theorem RdM.putT {w W0 w1:World} {B bt n cap:Nat} {ov u u' bv:Value} {us:List R.Th} {t:R.Th} {uvs ovs xs:List Value} {G F:List Nat} {x:R.Lh} {b:List R.Tree}
  (h:RdM w B (.slice (some ⟨bt,0,none⟩) (n+1) cap) ov (us++[t]) [] (uvs++[u]) ovs G) (hn:n=us.length) (hb:LinesAt w B bv b F) (hd:∀ k∈F,k ∉ G)
  (hk:∀ k,k<w.heap.size→W0.heap[k]?=w.heap[k]?) (hsz:w.heap.size≤W0.heap.size)
  (hx:w.ownsRow B 49 9 u t.body.length xs) (ho:w1.ownsRow B 49 9 u' (t.body.length+1) (xs++(lnCells x bv).toList)) (hgrow:W0.grownBy w1 u.ownBlock)
  (hat:u'.ownBlock=u.ownBlock∨∀ k,u'.ownBlock=some k→w.heap.size≤k) :
  ∃ G',RdM (w1.setCell ⟨bt,n*3+1,none⟩ u') B (.slice (some ⟨bt,0,none⟩) (n+1) cap) ov (us++[{ t with body:=t.body++[.mk x b] }]) [] (uvs++[u']) ovs G':=by
 subst hn
 have hov:ovs=[]:=List.length_eq_zero_iff.1 h.lo
 subst hov
 have hlu:uvs.length=us.length:=by simpa using h.lt
 have hth:=h.th
 simp only[List.length_append,List.length_cons,List.length_nil,Nat.zero_add] at hth
 obtain⟨cur,hcur⟩:=own_type hth (k:=bt) rfl
 have hbt1:w1.heap[bt]?=w.heap[bt]?:=grown_typed hx hk hsz hgrow hcur (by decide)
 have other:∀ k c e,w.heap[k]?=some (Obj.cells c e (0,0))→e≠46→e≠49→(w1.setCell ⟨bt,us.length*3+1,none⟩ u').heap[k]?=w.heap[k]?:=fun k c e hc h1 h2=>by
  rw[Below.heap_setCell _ _ _ _ (fun e'=>by simp at e';subst e';rw[hcur] at hc;simp at hc;exact h1 hc.2.symm)]
  exact grown_typed hx hk hsz hgrow hc (Ne.symm h2)
 have line:∀ k,(∃ c,w.heap[k]?=some (Obj.cells c 49 (0,0)))→(w1.setCell ⟨bt,us.length*3+1,none⟩ u').heap[k]?=w1.heap[k]?:=fun k ⟨c,hc⟩ =>
  Below.heap_setCell _ _ _ _ (fun e'=>by simp at e';subst e';rw[hcur] at hc;simp at hc)
 have ho2:(w1.setCell ⟨bt,us.length*3+1,none⟩ u').ownsRow B 49 9 u' (t.body.length+1) (xs++(lnCells x bv).toList):=ownsRow_keep ho (fun k e=>Below.heap_setCell _ _ _ _ (fun e'=>by
  simp at e';subst e'
  obtain⟨c,hc⟩:=own_type ho e
  rw[hbt1,hcur] at hc;simp at hc))
 have hk0:=h.kids
 simp only[List.append_nil,List.map_append,List.map_cons,List.map_nil] at hk0
 obtain⟨G',hG⟩:=Kids.put (w':=w1.setCell ⟨bt,us.length*3+1,none⟩ u') (x:=x) hk0 hb hd hx ho2 (fun k h1 h2 h3=>by rw[line k h3,hgrow.block k (by omega) h2,hk k h1]) hat
 refine⟨G',?_,?_,by simp[hlu],rfl,by simpa using hG⟩
 ·have h1:w1.ownsRow B 46 3 (.slice (some ⟨bt,0,none⟩) (us.length+1) cap) (us.length+1) (thCells (us++[t]) (uvs++[u])):=ownsRow_keep hth (fun k hk'=>by
   simp[Value.ownBlock] at hk';subst hk';exact hbt1)
  have h2:=(h1.stored (us.length*3+1) u').1
  rw[thCells_append _ _ _ _ hlu] at h2 ⊢
  have e2:(thCells us uvs++thCells [t] [u]).set (us.length*3+1) u'=thCells us uvs++thCells [{ t with body:=t.body++[.mk x b] }] [u']:=by
   rw[List.set_append_right _ _ (by rw[thCells_length _ _ hlu];omega),thCells_length _ _ hlu,show us.length*3+1-us.length*3=1 by omega]
   rfl
  rw[e2] at h2
  simpa using h2
 ·refine ownsRow_keep h.fr (fun k e=>?_)
  obtain⟨c,hc⟩:=own_type h.fr e
  exact other k c _ hc (by decide) (by decide)
theorem RdM.putF {w W0 w1:World} {B bo n cap:Nat} {tv u u' bv:Value} {ts:List R.Th} {fs:List R.Fr} {f:R.Fr} {tvs ovs xs:List Value} {G F:List Nat} {x:R.Lh} {b:List R.Tree}
  (h:RdM w B tv (.slice (some ⟨bo,0,none⟩) (n+1) cap) ts (fs++[f]) tvs (ovs++[u]) G) (hn:n=fs.length) (hb:LinesAt w B bv b F) (hd:∀ k∈F,k ∉ G)
  (hk:∀ k,k<w.heap.size→W0.heap[k]?=w.heap[k]?) (hsz:w.heap.size≤W0.heap.size)
  (hx:w.ownsRow B 49 9 u f.l.length xs) (ho:w1.ownsRow B 49 9 u' (f.l.length+1) (xs++(lnCells x bv).toList)) (hgrow:W0.grownBy w1 u.ownBlock)
  (hat:u'.ownBlock=u.ownBlock∨∀ k,u'.ownBlock=some k→w.heap.size≤k) :
  ∃ G',RdM (w1.setCell ⟨bo,n*10,none⟩ u') B tv (.slice (some ⟨bo,0,none⟩) (n+1) cap) ts (fs++[{ f with l:=f.l++[.mk x b] }]) tvs (ovs++[u']) G':=by
 subst hn
 have hlu:ovs.length=fs.length:=by simpa using h.lo
 have hth:=h.fr
 simp only[List.length_append,List.length_cons,List.length_nil,Nat.zero_add] at hth
 obtain⟨cur,hcur⟩:=own_type hth (k:=bo) rfl
 have hbt1:w1.heap[bo]?=w.heap[bo]?:=grown_typed hx hk hsz hgrow hcur (by decide)
 have other:∀ k c e,w.heap[k]?=some (Obj.cells c e (0,0))→e≠51→e≠49→(w1.setCell ⟨bo,fs.length*10,none⟩ u').heap[k]?=w.heap[k]?:=fun k c e hc h1 h2=>by
  rw[Below.heap_setCell _ _ _ _ (fun e'=>by simp at e';subst e';rw[hcur] at hc;simp at hc;exact h1 hc.2.symm)]
  exact grown_typed hx hk hsz hgrow hc (Ne.symm h2)
 have line:∀ k,(∃ c,w.heap[k]?=some (Obj.cells c 49 (0,0)))→(w1.setCell ⟨bo,fs.length*10,none⟩ u').heap[k]?=w1.heap[k]?:=fun k ⟨c,hc⟩ =>
  Below.heap_setCell _ _ _ _ (fun e'=>by simp at e';subst e';rw[hcur] at hc;simp at hc)
 have ho2:(w1.setCell ⟨bo,fs.length*10,none⟩ u').ownsRow B 49 9 u' (f.l.length+1) (xs++(lnCells x bv).toList):=ownsRow_keep ho (fun k e=>Below.heap_setCell _ _ _ _ (fun e'=>by
  simp at e';subst e'
  obtain⟨c,hc⟩:=own_type ho e
  rw[hbt1,hcur] at hc;simp at hc))
 have hk0:=h.kids
 rw[List.map_append,← List.append_assoc,← List.append_assoc] at hk0
 simp only[List.map_cons,List.map_nil] at hk0
 obtain⟨G',hG⟩:=Kids.put (w':=w1.setCell ⟨bo,fs.length*10,none⟩ u') (x:=x) hk0 hb hd hx ho2 (fun k h1 h2 h3=>by rw[line k h3,hgrow.block k (by omega) h2,hk k h1]) hat
 refine⟨G',?_,?_,h.lt,by simp[hlu],by simpa using hG⟩
 ·refine ownsRow_keep h.th (fun k e=>?_)
  obtain⟨c,hc⟩:=own_type h.th e
  exact other k c _ hc (by decide) (by decide)
 ·have h1:w1.ownsRow B 51 10 (.slice (some ⟨bo,0,none⟩) (fs.length+1) cap) (fs.length+1) (frCells (fs++[f]) (ovs++[u])):=ownsRow_keep hth (fun k hk'=>by
   simp[Value.ownBlock] at hk';subst hk';exact hbt1)
  have h2:=(h1.stored (fs.length*10) u').1
  rw[frCells_append _ _ _ _ hlu] at h2 ⊢
  have e2:(frCells fs ovs++frCells [f] [u]).set (fs.length*10) u'=frCells fs ovs++frCells [{ f with l:=f.l++[.mk x b] }] [u']:=by
   rw[List.set_append_right _ _ (by rw[frCells_length _ _ hlu];omega),frCells_length _ _ hlu,show fs.length*10-fs.length*10=0 by omega]
   rfl
  rw[e2] at h2
  simpa using h2
theorem RdM.done {w:World} {B:Nat} {tv ov:Value} {ts:List R.Th} {tvs ovs:List Value} {G:List Nat} (h:RdM w B tv ov ts [] tvs ovs G):∃ Fs,ThsAt w B tv ts tvs Fs:=by
 have hov:ovs=[]:=List.length_eq_zero_iff.1 h.lo
 subst hov
 have hk:=h.kids
 simp only[List.append_nil,List.map_nil] at hk
 obtain⟨Fs,hl,hF⟩:=hk.all
 refine⟨Fs,h.th,h.lt,by simpa using hl,fun i t u F ht hu hf=>hF i t.body u F ?_ hu hf⟩
 rw[List.getElem?_map,ht];rfl
end Go.Proofs.YtpkjmdcabdplfaaGreatDoor
