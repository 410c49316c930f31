import Derived.Test.YtpkjmdcabdplfaaGreatDoorB28
set_option linter.unusedVariables false
set_option linter.unusedSimpArgs false
namespace Go.Proofs.YtpkjmdcabdplfaaGreatDoor
open Go
namespace P
def reachS (v:Int) (st:Stm):Bool:=isAcc st.kind&&st.var==v
def blockReaches (ts:List Thr) (b v:Int):Bool:=ts.any fun t=>t.block==b&&t.stmts.any (reachS v)
def bothReach (ts:List Thr) (v:Int):Bool:=blockReaches ts 0 v&&blockReaches ts 1 v
def ofOne (ts:List Thr):Bool:=match ts with
 | []=>true
 | t::r=>(t::r).all fun u=>u.block==t.block
def stays (ts:List Thr) (st:Stm):Bool:=if st.kind==4 then ofOne ts else isAcc st.kind&&!bothReach ts st.var
def narrowS (ts:List Thr) (st:Stm):Stm:=if stays ts st then { st with scope:=0 } else st
def narrowed (ts:List Thr) (ss:List Stm):List Stm:=ss.map (narrowS ts)
def ofReg (k:Int):Bool:=isReg k||k==10||k==11
def idlesGo (n:Int):List Stm→Bool
 | []=>true
 | s::r=>if s.kind==5 then idlesGo (n+1) r else if n==1&&!ofReg s.kind then false else idlesGo n r
def idleB (ts:List Thr) (b:Int):Bool:=ts.all fun t=>t.block != b||idlesGo 0 t.stmts
def dropGo (n:Int):List Stm→List Stm
 | []=>[]
 | s::r=>if s.kind==5 then (if n+1==2 then dropGo (n+1) r else s::dropGo (n+1) r) else s::dropGo n r
def covers (a b:Stm):Bool:=a.kind==4&&b.kind==4&&(a.order==5||b.order==4)&&(a.scope==1||b.scope==0)
def covO (p:Option Stm) (s:Stm):Bool:=match p with
 | none=>false
 | some q=>covers q s
def thinGo (p:Option Stm):List Stm→List Stm
 | []=>[]
 | s::r=>if covO p s then thinGo p r else s::thinGo (some s) r
def secondT (ts:List Thr) (b:Int) (ss:List Stm):List Stm:=if idleB ts b then dropGo 0 ss else ss
def trimT (ts:List Thr) (t:Thr):Thr:={ t with stmts:=thinGo none (secondT ts t.block (narrowed ts t.stmts)) }
def trimmed (ts:List Thr):List Thr:=ts.map (trimT ts)
def needs (st:Stm) (shared:Bool):Bool:=st.order==0||(shared&&(st.scope==0||st.order==4))
def isPure (ts:List Thr) (v:Int):Bool:=ts.all fun t=>t.stmts.all fun st=>!(reachS v st&&needs st (bothReach ts v))
def acq (o:Int):Bool:=o==2||o==4
def rel (o:Int):Bool:=o==3||o==4
def fenceS (st:Stm):Stm:=⟨4,st.line,0,0,Opd.zero,Opd.zero,4,st.scope,0⟩
def fenced1 (pr:Int→Bool) (st:Stm):List Stm :=
 if isAcc st.kind&&pr st.var then (if rel st.order then [fenceS st] else [])++[{ st with order:=1 }]++(if acq st.order then [fenceS st] else []) else [st]
def fencedS (pr:Int→Bool):List Stm→List Stm
 | []=>[]
 | s::r=>fenced1 pr s++fencedS pr r
def fencedT (ts:List Thr) (t:Thr):Thr:={ t with stmts:=fencedS (isPure ts) t.stmts }
def fenced (ts:List Thr):List Thr:=ts.map (fencedT ts)
def ways (ts:List Thr) (opt fen:Bool):List Thr :=
 if fen then fenced (if opt then trimmed ts else ts) else if opt then trimmed ts else ts
end P
namespace R
def bBlock:ByteArray:=⟨#[98,108,111,99,107]⟩
def bRelaxed:ByteArray:=⟨#[114,101,108,97,120,101,100]⟩
def bAcqrel:ByteArray:=⟨#[97,99,113,114,101,108]⟩
def lBlock:List UInt8:=[98,108,111,99,107]
def lDevice:List UInt8:=[100,101,118,105,99,101]
def flatL:List Tree→List Lh
 | []=>[]
 | .mk x b::r=>x::(flatL b++flatL r)
def narL (f:Lh→Lh):List Tree→List Tree
 | []=>[]
 | .mk x b::r=>.mk (f x) (narL f b)::narL f r
def cov (p:Option Lh) (x:Lh):Bool:=match p with
 | none=>false
 | some q=>x.op.toList==sFence.toList&&q.op.toList==sFence.toList&&(q.ord.toList==oS||x.ord.toList==oQ)&&(q.scope.toList==lDevice||x.scope.toList==lBlock)
def thinL (p:Option Lh):List Tree→List Tree
 | []=>[]
 | .mk x b::r=>if cov p x then thinL p r else .mk x (thinL none b)::thinL (some x) r
def mem1 (x:Lh):Int:=if x.op.toList != sSet.toList&&x.op.toList != sIf.toList then 1 else 0
def memN:List Lh→Int
 | []=>0
 | x::r=>mem1 x+memN r
def strGo (bar:Int):List Tree→Int
 | []=>0
 | t::r=>if isB t.x then strGo (bar+1) r else if bar==1 then memN (flatL [t])+strGo bar r else strGo bar r
def dropL (k:Int):List Tree→List Tree
 | []=>[]
 | t::r=>if isB t.x then (if k-1==0 then dropL (k-1) r else t::dropL (k-1) r) else t::dropL k r
def hasV (v:Int) (x:Lh):Bool:=x.var==v
def weakX (v:Int) (x:Lh):Bool:=x.var==v&&x.ord.toList==oW
def smallX (v:Int) (x:Lh):Bool:=x.var==v&&(x.scope.toList==lBlock||x.ord.toList==oQ)
def anyB (p:Lh→Bool) (b:Int) (ts:List Th):Bool:=ts.any fun t=>t.block==b&&(flatL t.body).any p
def anyV (p:Lh→Bool) (ts:List Th):Bool:=ts.any fun t=>(flatL t.body).any p
def onev (ts:List Th) (v:Int):Bool:=!anyB (hasV v) 0 ts||!anyB (hasV v) 1 ts
def there (ts:List Th) (b:Int):Bool:=ts.any fun t=>t.block==b
def both (ts:List Th):Bool:=there ts 0&&there ts 1
def narX (one:Int→Bool) (bo:Bool) (x:Lh):Lh :=
 if x.scope.toList != []&&((decide (0≤x.var)&&one x.var)||(decide (x.var<0)&&!bo)) then { x with scope:=bBlock } else x
def narT (one:Int→Bool) (bo:Bool) (t:Th):Th:={ t with body:=narL (narX one bo) t.body }
def step1 (ts:List Th):List Th:=ts.map (narT (onev ts) (both ts))
def idle (ts:List Th) (b:Int):Bool:=ts.all fun t=>t.block != b||strGo 0 t.body==0
def dropT (b:Int) (t:Th):Th:=if t.block==b then { t with body:=dropL 2 t.body } else t
def step2 (b:Int) (ts:List Th):List Th:=if idle ts b then ts.map (dropT b) else ts
def thinT (t:Th):Th:={ t with body:=thinL none t.body }
def better (ts:List Th):List Th:=(step2 1 (step2 0 (step1 ts))).map thinT
def pureV (ts:List Th) (v:Int):Bool:=!anyV (weakX v) ts&&!(anyB (hasV v) 0 ts&&anyB (hasV v) 1 ts&&anyV (smallX v) ts)
def fenB (pr:Int→Bool) (x:Lh):Bool:=decide (0≤x.var)&&pr x.var&&x.ord.toList != oW&&x.ord.toList != oR
def fenT (x:Lh):List UInt8:=[102,101,110,99,101,46]++scopd oQ x.scope.toList++[10]
def aheadT (pr:Int→Bool) (x:Lh):List UInt8:=if fenB pr x&&x.ord.toList != oA then fenT x else []
def behindT (pr:Int→Bool) (x:Lh):List UInt8:=if fenB pr x&&x.ord.toList != oL then fenT x else []
def ordX (pr:Int→Bool) (x:Lh):ByteArray:=if fenB pr x then bRelaxed else x.ord
def lineP (pr:Int→Bool) (x:Lh):List UInt8:=aheadT pr x++lineT { x with ord:=ordX pr x }++[10]++behindT pr x
def textP (pr:Int→Bool) (n:Int):List Tree→List UInt8 × Int
 | []=>([],n)
 | .mk x b::r =>
  let p:=if x.op.toList==[105,102] then ([98,122,32]++shown x.a++[44,32]++P.labT (n+1)++[10]++(textP pr (n+1) b).1++P.labT (n+1)++[58,10],(textP pr (n+1) b).2) else (lineP pr x,n)
  (p.1++(textP pr p.2 r).1,(textP pr p.2 r).2)
def textPs (pr:Int→Bool) (n:Int):List Th→List UInt8
 | []=>[]
 | t::r=>[46,116,104,114,101,97,100,32]++P.dec t.block++[10]++(textP pr n t.body).1++textPs pr (textP pr n t.body).2 r
def bettered (ts:List Th) (opt:Bool):List Th:=if opt then better ts else ts
def compW (ts:List Th) (opt fen:Bool):List UInt8:=textPs (fun v=>fen&&pureV (bettered ts opt) v) 0 (bettered ts opt)
end R
end Go.Proofs.YtpkjmdcabdplfaaGreatDoor
namespace Go.Proofs.YtpkjmdcabdplfaaGreatDoor
open Go Go.RowKit
set_option maxRecDepth 100000
theorem flat_append (a b:List R.Tree):R.flatL (a++b)=R.flatL a++R.flatL b:=by
 induction a with
 | nil=>simp[R.flatL]
 | cons t r ih=>cases t with
  | mk x c=>simp[R.flatL,ih]
theorem flat_one (t:R.Tree):R.flatL [t]=t.x::R.flatL t.body:=by cases t;simp[R.flatL]
theorem flat_snoc (l:List R.Tree) (k:Nat) (h:k<l.length):R.flatL (l.take (k+1))=R.flatL (l.take k)++(l[k].x::R.flatL l[k].body):=by
 rw[List.take_succ_eq_append_getElem h,flat_append,flat_one]
set_option maxHeartbeats 6400000 in
theorem all2_any {w0:World} {B:Nat} {v:Value} {l:List R.Tree} {F:List Nat} (h:LinesAt w0 B v l F):R.sizeL l<10000→∀ w:World,(∀ k∈F,w.heap[k]?=w0.heap[k]?) →
  Calls Tryz.prog 40 #[v] w fun e w'=>∃ (v':Value) (ys:List R.Tree) (us:List Value),e=.returned v'∧ys.map R.Tree.x=R.flatL l∧us.length=ys.length∧(ys.length:Int)≤R.sizeL l∧(∀ u∈us,u.oneCell'=true)∧(l=[]→v'=.slice none 0 0)∧(l≠[]→0<ys.length)∧w'.ownsRow w.heap.size 49 9 v' ys.length (rowLn ys us)∧Below w.heap.size w w':=by
 induction h using LinesAt.ind with
 | @row v l vs Fs ho hv hF hc hnd ih =>
 intro hsz w hk
 obtain⟨i0,hi,hz0,hz1,hz2⟩:=info_parts Tryz.infoLn
 have hbd0:=(LinesAt.row ho hv hF hc hnd).bound
 have hlt:∀ k∈v.ownBlock.toList++Fs.flatten,k<w.heap.size:=fun k hkF=>by
  have h1:=(hbd0 k hkF).2
  have h2:=hk k hkF
  rw[Array.getElem?_eq_getElem h1] at h2
  exact (Array.getElem?_eq_some_iff.1 h2).1
 have how:w.ownsRow B 49 9 v l.length (rowLn l vs):=ownsRow_keep ho (fun k e=>hk k (by simp[e]))
 have hsv:∃ a c,v=.slice a l.length c∧(0<l.length→∃ b,a=some ⟨b,0,none⟩∧b<w.heap.size):=by
  rcases how.2 with ⟨e,h0⟩ | ⟨k,c,cur,e,_⟩
  ·exact⟨none,0,by rw[e,h0],fun h=>by omega⟩
  ·exact⟨_,c,e,fun _=>⟨k,rfl,(how.lt k (by rw[e];rfl)).2⟩⟩
 obtain⟨sa,sc,rfl,hsa⟩:=hsv
 have hlen:=R.size_len l
 have HO:=hide how
 have HIH:=hide ih
 have HK:=hide hk
 have HLT:=hide hlt
 have HV:=hide hv
 have HF:=hide hF
 have HS:=hide hsz
 have HCC:=hide hc
 have hn:l.length<10000:=by omega
 generalize hN:l.length=n at *
 have HL:=hide hN
 clear hN how ih hk hlt hv hF hsz ho hc hnd hbd0 hlen
 go_enter Tryz.func40,Tryz.ntmps40
 go_wp2
 go_loopw [3,4] (fun o i wr=>∃ (k:Nat) (ys:List R.Tree) (us:List Value),k≤n∧i=.int .i64 k∧Hid (ys.map R.Tree.x=R.flatL (l.take k))∧us.length=ys.length∧Hid ((ys.length:Int)≤R.sizeL (l.take k))∧Hid (∀ u∈us,u.oneCell'=true)∧Hid (k=0→o=.slice none 0 0)∧Hid (0<k→0<ys.length)∧wr.ownsRow w.heap.size 49 9 o ys.length (rowLn ys us)∧Below w.heap.size w wr) (fun _ i _=>n-(intOf i).toNat)
 case atStart=>exact⟨0,[],[],Nat.zero_le _,rfl,by unfold Hid;simp[R.flatL],rfl,by unfold Hid;simp[R.sizeL,R.numL_nil,R.numL_cons],by unfold Hid;simp,fun _=>rfl,fun h=>by omega,World.ownsRow_nil _ _ _ _,Below.refl _ _⟩
 case round =>
  obtain⟨k,ys,us,hk,rfl,HFL,hus,HZ,HU1,HN1,HN2,hown,hbel⟩:=hrel
  by_cases hlt:k<n
  ·obtain⟨b,rfl,hblt⟩:=hsa (by omega)
   have hkl:k<l.length:=by rw[HL.out];exact hlt
   have hin:(k:Int)<(n:Int):=by omega
   have hkv:k<vs.length:=by rw[HV.out];exact hlt
   have hkf:k<Fs.length:=by rw[HF.out];exact hlt
   have hsg:=R.sizeL_get l k hkl
   have hsk:=R.sizeL_nn (l.take k)
   have hsb:=R.sizeL_nn l[k].body
   have hS:=HS.out
   have hZ:=HZ.out
   have ZS:Hid (R.sizeL (l.take (k+1))=R.sizeL (l.take k)+(1+R.sizeL l[k].body)):=by
    unfold Hid R.sizeL
    have:=R.numL_snoc (fun _=>true) l k hkl
    simpa using this
   have HFS:=hide (flat_snoc l k hkl)
   have hone:=(HCC.out k l[k] vs[k] Fs[k] (by simp[hkl]) (by simp[hkv]) (by simp[hkf])).one
   have CE:=LinesAt.line HO.out HL.out.symm (by rw[HV.out,HL.out]) k hkl vs[k] (by simp[hkv])
   have hr:=hide (rangeAt_keep2 (range_ln HO.out HL.out.symm (by rw[HV.out,HL.out]) k hkl vs[k] (by simp[hkv])) (hbel.block b hblt))
   have C8:Hid (w.cell? ⟨b,k*9+8,none⟩=some vs[k]):=by
    unfold Hid
    have:=CE 8 (by omega)
    simpa [lnCells] using this
   have HC:∀ w2:World,Below w.heap.size w w2→Calls Tryz.prog 40 #[vs[k]] w2 fun e w'=>∃ (v':Value) (zs:List R.Tree) (us':List Value),e=.returned v'∧zs.map R.Tree.x=R.flatL l[k].body∧us'.length=zs.length∧(zs.length:Int)≤R.sizeL l[k].body∧(∀ u∈us',u.oneCell'=true)∧(l[k].body=[]→v'=.slice none 0 0)∧(l[k].body≠[]→0<zs.length)∧w'.ownsRow w2.heap.size 49 9 v' zs.length (rowLn zs us')∧Below w2.heap.size w2 w':=by
    intro w2 hb2
    refine HIH.out k l[k] vs[k] Fs[k] (by simp[hkl]) (by simp[hkv]) (by simp[hkf]) (by omega) w2 (fun j hj=>?_)
    have hj':j∈(Value.slice (some ⟨b,0,none⟩) n sc).ownBlock.toList++Fs.flatten:=by
     simp only[List.mem_append,List.mem_flatten]
     exact Or.inr ⟨Fs[k],List.getElem_mem hkf,hj⟩
    rw[hb2.block j (HLT.out j hj'),HK.out j hj']
   clear CE
   generalize l[k]=t at *
   generalize vs[k]=u at *
   have hws:w.heap.size≤wr.heap.size:=hbel.size
   have hyl:ys.length<10000:=by omega
   have htb:R.sizeL t.body<10000:=by omega
   have HOW:=hide hown
   have HBL:=hide hbel
   have HCC0:Hid (t.body=[]→∀ w2:World,Below w.heap.size w w2→Calls Tryz.prog 40 #[u] w2 fun e w'=>e=.returned (.slice none 0 0)∧Below w2.heap.size w2 w'):=fun h0 w2 hb2=>by
    refine (HC w2 hb2).mono ?_
    rintro e w' ⟨v',zs,us',rfl,_,_,_,_,h1,_,_,h2⟩
    rw[h1 h0]
    exact⟨rfl,h2⟩
   have HCC1:Hid (t.body≠[]→∀ w2:World,Below w.heap.size w w2→Calls Tryz.prog 40 #[u] w2 fun e w'=>∃ (g2 cap2:Nat) (zs:List R.Tree) (us':List Value),e=.returned (.slice (some ⟨g2,0,none⟩) zs.length cap2)∧zs.map R.Tree.x=R.flatL t.body∧us'.length=zs.length∧(zs.length:Int)≤R.sizeL t.body∧(∀ u∈us',u.oneCell'=true)∧0<zs.length∧w'.ownsRow w2.heap.size 49 9 (.slice (some ⟨g2,0,none⟩) zs.length cap2) zs.length (rowLn zs us')∧Below w2.heap.size w2 w'):=fun h0 w2 hb2=>by
    refine (HC w2 hb2).mono ?_
    rintro e w' ⟨v',zs,us',rfl,h1f,h1,h2,h3,_,h4,h5,h6⟩
    have h7:=h4 h0
    obtain⟨g2,cap2,rfl,_,_⟩:=h5.form h7
    exact⟨g2,cap2,zs,us',rfl,h1f,h1,h2,h3,h7,h5,h6⟩
   clear hown hbel hsg hS hZ HC HCC
   go_wp2_with (first
    | (refine wpList_load_lnAt (.tmp 17) rfl rfl b (k*9) t.x u rfl hr.out ?_)
    | (at_builtin;refine wpList_append_lies _ rfl (.tmp 14) (.tmp 19) 44 rfl w.heap.size 49 i0 (.agg (lnCells R.z0 (.slice none 0 0))) 9 120 Tryz.underlying44 hi hz0 hz1 hz2 rfl (by decide) _ _ _ rfl (HOW.out.alloc _) ⟨wr.heap.size,0,none⟩ 1 1 (lnCells t.x u).toList rfl rfl ?c1 ?c2 (by decide) ?c3 ?c4 ?c5 _ rfl ?_))
   case c1=>exact World.news_of_block (t:=49) (fr:=(0,0)) (heap_alloc_new wr _)
   case c2=>exact lnCells_one _ _ hone
   case c3=>unfold maxLen;omega
   case c4=>omega
   case c5=>simp;omega
   intro g1 cap1 w1 hown1 hgrow hat hlt1
   have hb1:Below w.heap.size w w1:=(HBL.out.alloc hws _).grown hgrow (by simp;omega) (fun j hj=>(HOW.out.lt j hj).1)
   have c8:=(hb1.cell (p:=⟨b,k*9+8,none⟩) hblt).trans C8.out
   have hw1:=hb1.size
   have HOW1:=hide hown1
   clear hown1 hgrow hat
   have hrl:rowLn (ys++[t]) (us++[u])=rowLn ys us++(lnCells t.x u).toList:=by rw[rowLn_append _ _ _ _ hus];simp[rowLn]
   have hou:∀ x∈us++[u],x.oneCell'=true:=fun x hx=>by
    rcases List.mem_append.1 hx with h | h
    ·exact HU1.out x h
    ·simp at h;rw[h];exact hone
   have HR:=hide hrl
   have HOU:=hide hou
   clear hrl hou
   by_cases hz:t.body=[]
   ·have HC0:=hide (HCC0.out hz)
    clear HCC0 HCC1
    go_wp2_with (first
     | (go_at_call 40;refine (HC0.out _ hb1).mono ?_;rintro e w2 ⟨rfl,hbm⟩;have hb2:Below w.heap.size w w2:=hb1.trans (hbm.mono hw1);have HOW3:Hid (w2.ownsRow w.heap.size 49 9 (.slice (some ⟨g1,0,none⟩) (ys.length+1) cap1) (ys.length+1) (rowLn ys us++(lnCells t.x u).toList)):=ownsRow_keep HOW1.out (fun j hj=>hbm.block j (HOW1.out.lt j hj).2))
     | (at_builtin;refine wpList_append_own_none rfl (.tmp 27) (.tmp 28) 44 rfl w.heap.size 49 i0 9 Tryz.underlying44 hi _ _ _ rfl HOW3.out rfl ?_))
    go_roundw
    case rel =>
     refine⟨k+1,ys++[t],us++[u],by omega,by go_num,by unfold Hid;rw[HFS.out,List.map_append,HFL.out,hz];simp[R.flatL],by simp[hus],?_,HOU,?_,?_,?_,hb2⟩
     ·unfold Hid;rw[ZS.out];have:=HZ.out;simp;omega
     ·intro e;omega
     ·intro e;simp
     ·rw[HR.out];simpa using HOW3.out
    case measure=>simp[intOf];omega
   ·have HC1:=hide (HCC1.out hz)
    clear HCC0 HCC1
    go_wp2_with (first
     | (go_at_call 40;refine (HC1.out _ hb1).mono ?_;rintro e w2 ⟨g2,cap2,zs,us',rfl,hfl2,hul,hzl,huo,hzp,hown2,hbm⟩;have hb2:Below w.heap.size w w2:=hb1.trans (hbm.mono hw1);have HOW3:Hid (w2.ownsRow w.heap.size 49 9 (.slice (some ⟨g1,0,none⟩) (ys.length+1) cap1) (ys.length+1) (rowLn ys us++(lnCells t.x u).toList)):=ownsRow_keep HOW1.out (fun j hj=>hbm.block j (HOW1.out.lt j hj).2);have hnw:=hide (hown2.cells (g:=g2) rfl);have hrz:=rowLn_length zs us' hul;clear hown2)
     | (at_builtin;refine wpList_append_lies _ rfl (.tmp 27) (.tmp 28) 44 rfl w.heap.size 49 i0 (.agg (lnCells R.z0 (.slice none 0 0))) 9 120 Tryz.underlying44 hi hz0 hz1 hz2 rfl (by decide) _ _ _ rfl HOW3.out ⟨g2,0,none⟩ zs.length cap2 (rowLn zs us') rfl hrz hnw.out ?e2 hzp ?e3 ?e4 ?e5 _ rfl ?_))
    case e2=>exact rowLn_one _ _ huo
    case e3=>unfold maxLen;omega
    case e4=>omega
    case e5=>exact hb2.size
    intro g3 cap3 w3 hown4 hgrow4 hat4 hlt4
    have hb3:Below w.heap.size w w3:=hb2.grown hgrow4 hb2.size (fun j hj=>(HOW3.out.lt j hj).1)
    have HOW4:=hide hown4
    clear hown4 hgrow4 hat4
    go_wp2
    go_roundw
    case rel =>
     refine⟨k+1,ys++[t]++zs,us++[u]++us',by omega,by go_num,by unfold Hid;rw[HFS.out,List.map_append,List.map_append,HFL.out,hfl2];simp,by simp[hus,hul],?_,?_,?_,?_,?_,hb3⟩
     ·unfold Hid;rw[ZS.out];have:=HZ.out;simp;omega
     ·intro x hx
      rcases List.mem_append.1 hx with h | h
      ·exact HOU.out x h
      ·exact huo x h
     ·intro e;omega
     ·intro e;simp;omega
     ·have el:(ys++[t]++zs).length=ys.length+1+zs.length:=by simp;omega
      rw[el,rowLn_append _ _ _ _ (by simp[hus]),HR.out,List.append_assoc];exact HOW4.out
    case measure=>simp[intOf];omega
  ·have hkn:k=n:=by omega
   subst hkn
   have HT:Hid (l.take k=l):=List.take_of_length_le (by have:=HL.out;omega)
   go_wp2
   go_ret
   have h1:=HZ.out
   have h2:=HFL.out
   rw[HT.out] at h1 h2
   exact⟨_,ys,us,rfl,h2,hus,h1,HU1.out,fun e=>HN1.out (by have:=HL.out;simp[e] at this;omega),fun e=>HN2.out (by have:=HL.out;rcases l with _ | ⟨a,l⟩;exact absurd rfl e;simp at this;omega),hown,hbel⟩
set_option maxHeartbeats 400000 in
theorem isAcc_any (k:Int) (w:World) :
  Calls Tryz.prog 56 #[.int .i64 k] w fun e w'=>e=.returned (.bool (P.isAcc k))∧w'=w:=by
 go_enter Tryz.func56,Tryz.ntmps56
 go_wp2
 all_goals go_ret
 all_goals simp[P.isAcc, *]
set_option maxHeartbeats 400000 in
theorem acq_any (k:Int) (w:World) :
  Calls Tryz.prog 59 #[.int .i64 k] w fun e w'=>e=.returned (.bool (P.acq k))∧w'=w:=by
 go_enter Tryz.func59,Tryz.ntmps59
 go_wp2
 all_goals go_ret
 all_goals simp[P.acq, *]
set_option maxHeartbeats 400000 in
theorem rel_any (k:Int) (w:World) :
  Calls Tryz.prog 58 #[.int .i64 k] w fun e w'=>e=.returned (.bool (P.rel k))∧w'=w:=by
 go_enter Tryz.func58,Tryz.ntmps58
 go_wp2
 all_goals go_ret
 all_goals simp[P.rel, *]
set_option maxHeartbeats 400000 in
theorem ofReg_any (k:Int) (w:World) :
  Calls Tryz.prog 72 #[.int .i64 k] w fun e w'=>e=.returned (.bool (P.ofReg k))∧w'=w:=by
 go_enter Tryz.func72,Tryz.ntmps72
 go_wp2
 all_goals go_ret
 all_goals simp[P.ofReg,P.isReg, *]
set_option maxHeartbeats 800000 in
theorem reaches_any (st:P.Stm) (v:Int) (w:World) :
  Calls Tryz.prog 73 #[.agg (stmCells st),.int .i64 v] w fun e w'=>e=.returned (.bool (P.reachS v st))∧Below w.heap.size w w':=by
 simp only[stmCells]
 cases ha:P.isAcc st.kind<;>cases hv:(st.var==v)
 all_goals
  go_enter Tryz.func73,Tryz.ntmps73
  go_wp2_with (first | (go_at_call 56;refine (isAcc_any _ _).mono ?_;rintro e w' ⟨rfl,rfl⟩;rw[ha]))
  go_ret
  exact⟨by simp[P.reachS,ha,hv],(Below.refl _ _).alloc (Nat.le_refl _) _⟩
set_option maxHeartbeats 800000 in
theorem needs_any (st:P.Stm) (s:Bool) (w:World) :
  Calls Tryz.prog 74 #[.agg (stmCells st),.bool s] w fun e w'=>e=.returned (.bool (P.needs st s))∧Below w.heap.size w w':=by
 simp only[stmCells]
 cases h0:(st.order==0)<;>cases s<;>cases h1:(st.scope==0)<;>cases h4:(st.order==4)
 all_goals
  go_enter Tryz.func74,Tryz.ntmps74
  go_wp2
  go_ret
  exact⟨by simp[P.needs,h0,h1,h4],(Below.refl _ _).alloc (Nat.le_refl _) _⟩
theorem own_slice {w:World} {B:Nat} {sa:Option Addr} {sc n:Nat} {xs:List Value} {e:TypeId} {sz:Nat} (h:w.ownsRow B e sz (.slice sa n sc) n xs):0<n→∃ b,sa=some ⟨b,0,none⟩∧b<w.heap.size:=fun h0=>by
 rcases h.2 with ⟨e,h0'⟩ | ⟨b',c',cur,e,hb',hg',_⟩
 ·omega
 ·simp only[Value.slice.injEq] at e
  exact⟨b',e.1,(Array.getElem?_eq_some_iff.1 hg').1⟩
set_option maxHeartbeats 3200000 in
theorem blockReaches_any (B bt n cap:Nat) (bl v:Int) (ts:List P.Thr) (w:World) (h:ThreadsAt w B (.slice (some ⟨bt,0,none⟩) n cap) ts) (hn:n=ts.length) (hnb:n<10) (hst:∀ t∈ts,t.stmts.length<10000) :
  Calls Tryz.prog 89 #[.agg #[.slice (some ⟨bt,0,none⟩) n cap],.int .i64 bl,.int .i64 v] w fun e w'=>e=.returned (.bool (P.blockReaches ts bl v))∧Below w.heap.size w w':=by
 have HA:=hide h
 have HN:=hide hn
 have HS:=hide hst
 clear h hn hst
 go_enter Tryz.func89,Tryz.ntmps89
 go_wp2
 go_loopw [14] (fun i wr=>∃ k:Nat,k≤n∧i=.int .i64 k∧Hid (P.blockReaches (ts.drop k) bl v=P.blockReaches ts bl v)∧Below w.heap.size w wr) (fun i _=>n-(intOf i).toNat)
 case atStart=>exact⟨0,Nat.zero_le _,rfl,by unfold Hid;simp,(Below.refl _ _).alloc (Nat.le_refl _) _⟩
 case round =>
  obtain⟨k,hk,rfl,HR,hbel⟩:=hrel
  by_cases hlt:k<n
  ·have hkl:k<ts.length:=by rw[← HN.out];exact hlt
   obtain⟨hbt,sa,sc,c0,c1,c2,ho⟩:=thr_at HA.out HN.out k hkl
   have d0:=(hbel.cell (p:=⟨bt,k*3,none⟩) hbt).trans c0
   have d1:=(hbel.cell (p:=⟨bt,k*3+1,none⟩) hbt).trans c1
   have d2:=(hbel.cell (p:=⟨bt,k*3+2,none⟩) hbt).trans c2
   have hls:=HS.out ts[k] (List.getElem_mem hkl)
   have HD:=hide (P.drop_cons ts k hkl)
   have HO:=hide ho
   have hws:w.heap.size≤wr.heap.size:=hbel.size
   generalize ts[k]=t at *
   clear c0 c1 c2 ho
   by_cases hb:t.block=bl
   ·have nb:(t.block != bl)=false:=by simp[hb]
    go_wp2
    go_loopw [25] (fun j w2=>∃ q:Nat,q≤t.stmts.length∧j=.int .i64 q∧Hid ((t.stmts.drop q).any (P.reachS v)=t.stmts.any (P.reachS v))∧Below w.heap.size w w2) (fun j _=>t.stmts.length-(intOf j).toNat)
    case atStart=>exact⟨0,Nat.zero_le _,rfl,by unfold Hid;simp,hbel.alloc hws _⟩
    case round =>
     obtain⟨q,hq,rfl,HQ,hbel2⟩:=hrel
     by_cases hql:q<t.stmts.length
     ·obtain⟨b,rfl,hblt⟩:=own_slice HO.out (by omega)
      have hr:=hide (rangeAt_keep (range_stm HO.out rfl q hql) (hbel2.block b hblt))
      have HDQ:=hide (P.drop_cons t.stmts q hql)
      generalize t.stmts[q]=st at *
      have hws2:=hbel2.size
      cases hrs:P.reachS v st
      ·go_wp2_with (first | (refine wpList_load_at (.tmp 27) rfl rfl b (q*11) st rfl hr.out ?_) | (go_at_call 73;refine (reaches_any st v _).mono ?_;rintro e w3 ⟨rfl,hb3⟩;rw[hrs]))
       go_roundw
       case rel =>
        refine⟨q+1,by omega,by go_num,?_,(hbel2.alloc hws2 _).trans (hb3.mono (by simp;omega))⟩
        have:=HQ.out
        unfold Hid;rw[← this,HDQ.out];simp[hrs]
       case measure=>simp[intOf];omega
      ·have HE:Hid (P.blockReaches ts bl v=true):=by
        unfold Hid
        rw[← HR.out,HD.out]
        have:=HQ.out
        rw[HDQ.out] at this
        simp[P.blockReaches,hb,← this,hrs]
       go_wp2_with (first | (refine wpList_load_at (.tmp 27) rfl rfl b (q*11) st rfl hr.out ?_) | (go_at_call 73;refine (reaches_any st v _).mono ?_;rintro e w3 ⟨rfl,hb3⟩;rw[hrs]))
       go_ret
       exact⟨by rw[HE.out];rfl,(hbel2.alloc hws2 _).trans (hb3.mono (by simp;omega))⟩
     ·have hqq:q=t.stmts.length:=by omega
      have HE:Hid (P.blockReaches (ts.drop (k+1)) bl v=P.blockReaches ts bl v):=by
       have h1:t.stmts.any (P.reachS v)=false:=by rw[← HQ.out,hqq,List.drop_length];rfl
       unfold Hid
       rw[← HR.out,HD.out]
       simp only[P.blockReaches,List.any_cons,h1,Bool.and_false,Bool.false_or]
      go_wp2
      go_roundw
      case rel=>exact⟨k+1,by omega,by go_num,HE,hbel2⟩
      case measure=>simp[intOf];omega
   ·have nb:(t.block != bl)=true:=by simp[hb]
    have HE:Hid (P.blockReaches (ts.drop (k+1)) bl v=P.blockReaches ts bl v):=by
     unfold Hid
     rw[← HR.out,HD.out]
     simp[P.blockReaches,hb]
    go_wp2
    go_roundw
    case rel=>exact⟨k+1,by omega,by go_num,HE,hbel.alloc hws _⟩
    case measure=>simp[intOf];omega
  ·have HE:Hid (P.blockReaches ts bl v=false):=by
    unfold Hid
    rw[← HR.out,List.drop_eq_nil_of_le (by have:=HN.out;omega)];rfl
   go_wp2
   go_ret
   exact⟨by rw[HE.out];rfl,hbel⟩
set_option maxHeartbeats 3200000 in
theorem idles_any (B n:Nat) (sa:Option Addr) (sc:Nat) (l:List P.Stm) (w:World) (hown:w.ownsRow B 80 11 (.slice sa n sc) n (flatStm l)) (hn:n=l.length) (hnb:n<10000) :
  Calls Tryz.prog 54 #[.slice sa n sc] w fun e w'=>e=.returned (.bool (P.idlesGo 0 l))∧Below w.heap.size w w':=by
 have HO:=hide hown
 have HN:=hide hn
 clear hown hn
 go_enter Tryz.func54,Tryz.ntmps54
 go_wp2
 go_loopw [3,8] (fun c i wr=>∃ (k:Nat) (q:Int),k≤n∧i=.int .i64 k∧c=.int .i64 q∧0≤q∧q≤k∧Hid (P.idlesGo q (l.drop k)=P.idlesGo 0 l)∧Below w.heap.size w wr) (fun _ i _=>n-(intOf i).toNat)
 case atStart=>exact⟨0,0,Nat.zero_le _,rfl,rfl,by omega,by omega,by unfold Hid;simp,Below.refl _ _⟩
 case round =>
  obtain⟨k,q,hk,rfl,rfl,hq0,hq1,HR,hbel⟩:=hrel
  have hws:=hbel.size
  by_cases hlt:k<n
  ·obtain⟨b,rfl,hblt⟩:=own_slice HO.out (by omega)
   have hkl:k<l.length:=by rw[← HN.out];exact hlt
   have hr:=hide (rangeAt_keep (range_stm HO.out HN.out k hkl) (hbel.block b hblt))
   have HD:=hide (P.drop_cons l k hkl)
   generalize hst:l[k]=st at *
   clear hst
   cases h5:(st.kind==5)
   ·cases hq:(q==1)
    ·go_wp2_with (first | (refine wpList_load_at (.tmp 10) rfl rfl b (k*11) st rfl hr.out ?_))
     go_roundw
     case rel =>
      refine⟨k+1,q,by omega,by go_num,rfl,hq0,by omega,?_,hbel.alloc hws _⟩
      unfold Hid;rw[← HR.out,HD.out];simp[P.idlesGo,h5,hq]
     case measure=>simp[intOf];omega
    ·cases hf:P.ofReg st.kind
     ·have HE:Hid (P.idlesGo 0 l=false):=by
       unfold Hid;rw[← HR.out,HD.out];simp[P.idlesGo,h5,hq,hf]
      go_wp2_with (first | (refine wpList_load_at (.tmp 10) rfl rfl b (k*11) st rfl hr.out ?_) | (go_at_call 72;refine (ofReg_any _ _).mono ?_;rintro e w' ⟨rfl,rfl⟩;rw[hf]))
      go_ret
      exact⟨by rw[HE.out];rfl,hbel.alloc hws _⟩
     ·go_wp2_with (first | (refine wpList_load_at (.tmp 10) rfl rfl b (k*11) st rfl hr.out ?_) | (go_at_call 72;refine (ofReg_any _ _).mono ?_;rintro e w' ⟨rfl,rfl⟩;rw[hf]))
      go_roundw
      case rel =>
       refine⟨k+1,q,by omega,by go_num,rfl,hq0,by omega,?_,hbel.alloc hws _⟩
       unfold Hid;rw[← HR.out,HD.out];simp[P.idlesGo,h5,hq,hf]
      case measure=>simp[intOf];omega
   ·go_wp2_with (first | (refine wpList_load_at (.tmp 10) rfl rfl b (k*11) st rfl hr.out ?_))
    go_roundw
    case rel =>
     refine⟨k+1,q+1,by omega,by go_num,by go_num,by omega,by omega,?_,hbel.alloc hws _⟩
     unfold Hid;rw[← HR.out,HD.out];simp[P.idlesGo,h5]
    case measure=>simp[intOf];omega
  ·have HE:Hid (P.idlesGo 0 l=true):=by
    unfold Hid
    rw[← HR.out,List.drop_eq_nil_of_le (by have:=HN.out;omega)];rfl
   go_wp2
   go_ret
   exact⟨by rw[HE.out];rfl,hbel⟩
set_option maxHeartbeats 3200000 in
theorem idleB_any (B bt n cap:Nat) (bl:Int) (ts:List P.Thr) (w:World) (h:ThreadsAt w B (.slice (some ⟨bt,0,none⟩) n cap) ts) (hn:n=ts.length) (hnb:n<10) (hst:∀ t∈ts,t.stmts.length<10000) :
  Calls Tryz.prog 28 #[.agg #[.slice (some ⟨bt,0,none⟩) n cap],.int .i64 bl] w fun e w'=>e=.returned (.bool (P.idleB ts bl))∧Below w.heap.size w w':=by
 have HA:=hide h
 have HN:=hide hn
 have HS:=hide hst
 clear h hn hst
 go_enter Tryz.func28,Tryz.ntmps28
 go_wp2
 go_loopw [10] (fun i wr=>∃ k:Nat,k≤n∧i=.int .i64 k∧Hid (P.idleB (ts.drop k) bl=P.idleB ts bl)∧Below w.heap.size w wr) (fun i _=>n-(intOf i).toNat)
 case atStart=>exact⟨0,Nat.zero_le _,rfl,by unfold Hid;simp,(Below.refl _ _).alloc (Nat.le_refl _) _⟩
 case round =>
  obtain⟨k,hk,rfl,HR,hbel⟩:=hrel
  have hws:w.heap.size≤wr.heap.size:=hbel.size
  by_cases hlt:k<n
  ·have hkl:k<ts.length:=by rw[← HN.out];exact hlt
   obtain⟨hbt,sa,sc,c0,c1,c2,ho⟩:=thr_at HA.out HN.out k hkl
   have d0:=(hbel.cell (p:=⟨bt,k*3,none⟩) hbt).trans c0
   have d1:=(hbel.cell (p:=⟨bt,k*3+1,none⟩) hbt).trans c1
   have d2:=(hbel.cell (p:=⟨bt,k*3+2,none⟩) hbt).trans c2
   have hls:=HS.out ts[k] (List.getElem_mem hkl)
   have HD:=hide (P.drop_cons ts k hkl)
   generalize ts[k]=t at *
   have HC:Hid (∀ w2:World,Below w.heap.size w w2→Calls Tryz.prog 54 #[.slice sa t.stmts.length sc] w2 fun e w'=>e=.returned (.bool (P.idlesGo 0 t.stmts))∧Below w2.heap.size w2 w'):=fun w2 hb=>idles_any B _ sa sc t.stmts w2 (ownsRow_keep ho (fun j hj=>hb.block j (ho.lt j hj).2)) rfl hls
   clear c0 c1 c2 ho
   by_cases hb:t.block=bl
   ·have nb:(t.block != bl)=false:=by simp[hb]
    cases hi:P.idlesGo 0 t.stmts
    ·have HE:Hid (P.idleB ts bl=false):=by
      unfold Hid;rw[← HR.out,HD.out];simp[P.idleB,hb,hi]
     go_wp2_with (first | (go_at_call 54;refine (HC.out _ (hbel.alloc hws _)).mono ?_;rintro e w3 ⟨rfl,hb3⟩;rw[hi]))
     go_ret
     exact⟨by rw[HE.out];rfl,(hbel.alloc hws _).trans (hb3.mono (by simp;omega))⟩
    ·have HE:Hid (P.idleB (ts.drop (k+1)) bl=P.idleB ts bl):=by
      unfold Hid;rw[← HR.out,HD.out];simp[P.idleB,hb,hi]
     go_wp2_with (first | (go_at_call 54;refine (HC.out _ (hbel.alloc hws _)).mono ?_;rintro e w3 ⟨rfl,hb3⟩;rw[hi]))
     go_roundw
     case rel=>exact⟨k+1,by omega,by go_num,HE,(hbel.alloc hws _).trans (hb3.mono (by simp;omega))⟩
     case measure=>simp[intOf];omega
   ·have nb:(t.block != bl)=true:=by simp[hb]
    have HE:Hid (P.idleB (ts.drop (k+1)) bl=P.idleB ts bl):=by
     unfold Hid;rw[← HR.out,HD.out];simp[P.idleB,hb]
    go_wp2
    go_roundw
    case rel=>exact⟨k+1,by omega,by go_num,HE,hbel.alloc hws _⟩
    case measure=>simp[intOf];omega
  ·have HE:Hid (P.idleB ts bl=true):=by
    unfold Hid
    rw[← HR.out,List.drop_eq_nil_of_le (by have:=HN.out;omega)];rfl
   go_wp2
   go_ret
   exact⟨by rw[HE.out];rfl,hbel⟩
end Go.Proofs.YtpkjmdcabdplfaaGreatDoor
