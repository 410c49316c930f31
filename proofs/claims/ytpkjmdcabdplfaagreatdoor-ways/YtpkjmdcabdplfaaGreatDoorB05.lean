import Derived.Test.YtpkjmdcabdplfaaGreatDoorB04
set_option linter.unusedVariables false
set_option linter.unusedSimpArgs false
namespace Go.Proofs.YtpkjmdcabdplfaaGreatDoor
open Go Go.RowKit
def rowLn:List R.Tree→List Value→List Value
 | t::l,v::vs=>(lnCells t.x v).toList++rowLn l vs
 | _,_=>[]
theorem rowLn_append (l m:List R.Tree):∀ (vs us:List Value),vs.length=l.length→rowLn (l++m) (vs++us)=rowLn l vs++rowLn m us:=by
 induction l with
 | nil =>
  intro vs us h
  have:vs=[]:=List.length_eq_zero_iff.1 h
  subst this
  simp[rowLn]
 | cons t l ih =>
  intro vs us h
  cases vs with
  | nil=>simp at h
  | cons v vs=>simp only[List.cons_append,rowLn,ih vs us (by simpa using h),List.append_assoc]
theorem rowLn_length (l:List R.Tree):∀ (vs:List Value),vs.length=l.length→(rowLn l vs).length=l.length*9:=by
 induction l with
 | nil=>intro vs _;simp[rowLn]
 | cons t l ih =>
  intro vs h
  cases vs with
  | nil=>simp at h
  | cons v vs =>
   have:=ih vs (by simpa using h)
   simp only[rowLn,List.length_append,this,List.length_cons]
   simp[lnCells];omega
theorem rowLn_get (l:List R.Tree):∀ (vs:List Value),vs.length=l.length→∀ (i:Nat) (t:R.Tree) (v:Value),l[i]?=some t→vs[i]?=some v→∀ j,j<9→(rowLn l vs)[i*9+j]?=(lnCells t.x v)[j]?:=by
 induction l with
 | nil=>intro vs _ i t v h;simp at h
 | cons t0 l ih =>
  intro vs hl i t v ht hv j hj
  cases vs with
  | nil=>simp at hl
  | cons v0 vs =>
   cases i with
   | zero =>
    simp at ht hv
    subst ht hv
    simp only[rowLn]
    rw[List.getElem?_append_left (by simp[lnCells];omega)]
    simp
   | succ i =>
    simp at ht hv
    have:=ih vs (by simpa using hl) i t v ht hv j hj
    simp only[rowLn]
    rw[List.getElem?_append_right (by simp[lnCells];omega),← this]
    congr 1
    simp[lnCells];omega
def LinesAt (w:World) (B:Nat) (v:Value) (l:List R.Tree) (F:List Nat):Prop :=
 ∀ M:Value→List R.Tree→List Nat→Prop,(∀ (v:Value) (l:List R.Tree) (vs:List Value) (Fs:List (List Nat)),w.ownsRow B 49 9 v l.length (rowLn l vs)→vs.length=l.length→Fs.length=l.length →
   (∀ (i:Nat) (t:R.Tree) (u:Value) (F:List Nat),l[i]?=some t→vs[i]?=some u→Fs[i]?=some F→M u t.body F)→(v.ownBlock.toList++Fs.flatten).Nodup→M v l (v.ownBlock.toList++Fs.flatten))→M v l F
theorem LinesAt.row {w:World} {B:Nat} {v:Value} {l:List R.Tree} {vs:List Value} {Fs:List (List Nat)} (ho:w.ownsRow B 49 9 v l.length (rowLn l vs)) (hv:vs.length=l.length) (hF:Fs.length=l.length)
   (hc:∀ (i:Nat) (t:R.Tree) (u:Value) (F:List Nat),l[i]?=some t→vs[i]?=some u→Fs[i]?=some F→LinesAt w B u t.body F) (hn:(v.ownBlock.toList++Fs.flatten).Nodup):LinesAt w B v l (v.ownBlock.toList++Fs.flatten) :=
 fun M hM=>hM v l vs Fs ho hv hF (fun i t u F h1 h2 h3=>hc i t u F h1 h2 h3 M hM) hn
theorem LinesAt.ind {w:World} {B:Nat} {motive:∀ (v:Value) (l:List R.Tree) (F:List Nat),LinesAt w B v l F→Prop}
  (row:∀ {v:Value} {l:List R.Tree} {vs:List Value} {Fs:List (List Nat)} (ho:w.ownsRow B 49 9 v l.length (rowLn l vs)) (hv:vs.length=l.length) (hF:Fs.length=l.length)
   (hc:∀ (i:Nat) (t:R.Tree) (u:Value) (F:List Nat),l[i]?=some t→vs[i]?=some u→Fs[i]?=some F→LinesAt w B u t.body F) (hn:(v.ownBlock.toList++Fs.flatten).Nodup)
   (_:∀ (i:Nat) (t:R.Tree) (u:Value) (F:List Nat) (h1:l[i]?=some t) (h2:vs[i]?=some u) (h3:Fs[i]?=some F),motive u t.body F (hc i t u F h1 h2 h3)),motive v l (v.ownBlock.toList++Fs.flatten) (LinesAt.row ho hv hF hc hn))
  {v:Value} {l:List R.Tree} {F:List Nat} (h:LinesAt w B v l F):motive v l F h :=
 (h (fun v l F=>∃ h:LinesAt w B v l F,motive v l F h) (fun v l vs Fs ho hv hF hc hn=>⟨LinesAt.row ho hv hF (fun i t u F h1 h2 h3=>(hc i t u F h1 h2 h3).1) hn,row ho hv hF _ hn (fun i t u F h1 h2 h3=>(hc i t u F h1 h2 h3).2)⟩)).2
theorem LinesAt.cs {w:World} {B:Nat} {motive:∀ (v:Value) (l:List R.Tree) (F:List Nat),LinesAt w B v l F→Prop}
  (row:∀ {v:Value} {l:List R.Tree} {vs:List Value} {Fs:List (List Nat)} (ho:w.ownsRow B 49 9 v l.length (rowLn l vs)) (hv:vs.length=l.length) (hF:Fs.length=l.length)
   (hc:∀ (i:Nat) (t:R.Tree) (u:Value) (F:List Nat),l[i]?=some t→vs[i]?=some u→Fs[i]?=some F→LinesAt w B u t.body F) (hn:(v.ownBlock.toList++Fs.flatten).Nodup),motive v l (v.ownBlock.toList++Fs.flatten) (LinesAt.row ho hv hF hc hn))
  {v:Value} {l:List R.Tree} {F:List Nat} (h:LinesAt w B v l F):motive v l F h :=
 LinesAt.ind (fun ho hv hF hc hn _=>row ho hv hF hc hn) h
theorem LinesAt.nil (w:World) (B:Nat):LinesAt w B (.slice none 0 0) [] [] :=
 .row (Fs:=[]) (vs:=[]) (World.ownsRow_nil _ _ _ _) rfl rfl (fun i t u F h=>by simp at h) (by simp[Value.ownBlock])
theorem LinesAt.nodup {w:World} {B:Nat} {v:Value} {l:List R.Tree} {F:List Nat} (h:LinesAt w B v l F):F.Nodup:=by
 cases h using LinesAt.cs with
 | row _ _ _ _ hn=>exact hn
theorem LinesAt.own {w:World} {B:Nat} {v:Value} {l:List R.Tree} {F:List Nat} (h:LinesAt w B v l F):∀ k,v.ownBlock=some k→k∈F:=by
 intro k hk
 cases h using LinesAt.cs with
 | row _ _ _ _ _=>simp[hk]
theorem LinesAt.keep {w w':World} {B:Nat} {v:Value} {l:List R.Tree} {F:List Nat} (h:LinesAt w B v l F) (hk:∀ k∈F,w'.heap[k]?=w.heap[k]?):LinesAt w' B v l F:=by
 induction h using LinesAt.ind with
 | @row v l vs Fs ho hv hF hc hn ih =>
  refine .row (ownsRow_keep ho (fun k e=>hk k (by simp[e]))) hv hF (fun i t u F ht hu hf=>ih i t u F ht hu hf (fun k hkF=>hk k ?_)) hn
  have:F∈Fs:=List.mem_of_getElem? hf
  simp only[List.mem_append,List.mem_flatten]
  exact Or.inr ⟨F,this,hkF⟩
theorem LinesAt.bound {w:World} {B:Nat} {v:Value} {l:List R.Tree} {F:List Nat} (h:LinesAt w B v l F):∀ k∈F,B≤k∧k<w.heap.size:=by
 induction h using LinesAt.ind with
 | @row v l vs Fs ho hv hF hc hn ih =>
  intro k hk
  simp only[List.mem_append,List.mem_flatten,Option.mem_toList] at hk
  rcases hk with hk | ⟨F,hF',hk⟩
  ·exact ho.lt k hk
  ·obtain⟨i,hi,e⟩:=List.mem_iff_getElem.1 hF'
   have h1:i<l.length:=by omega
   have h2:i<vs.length:=by omega
   exact ih i l[i] vs[i] F (by simp[h1]) (by simp[h2]) (by simp[hi,e]) k hk
theorem LinesAt.snoc {w w':World} {B:Nat} {v v':Value} {l:List R.Tree} {F G:List Nat} {x:R.Lh} {b:List R.Tree} {bv:Value}
  (h:LinesAt w B v l F) (hb:LinesAt w B bv b G) (hd:∀ k∈F,k ∉ G)
  (ho:∀ vs:List Value,w.ownsRow B 49 9 v l.length (rowLn l vs)→w'.ownsRow B 49 9 v' (l.length+1) (rowLn l vs++(lnCells x bv).toList))
  (hk:∀ k,(k∈F∨k∈G)→some k≠v.ownBlock→w'.heap[k]?=w.heap[k]?)
  (hat:v'.ownBlock=v.ownBlock∨∀ k,v'.ownBlock=some k→w.heap.size≤k) :
  ∃ F',LinesAt w' B v' (l++[.mk x b]) F'∧∀ k∈F',k∈F∨k∈G∨v'.ownBlock=some k:=by
 have hB:=h.bound
 have hG:=hb.bound
 cases h using LinesAt.cs with
 | @row _ _ vs Fs ho0 hv hF hc hn =>
  have hlen:(Fs++[G]).flatten=Fs.flatten++G:=by simp
  refine⟨v'.ownBlock.toList++(Fs++[G]).flatten,.row (vs:=vs++[bv]) ?_ (by simp[hv]) (by simp[hF]) ?_ ?_,?_⟩
  ·rw[rowLn_append _ _ _ _ hv,List.length_append]
   simpa [rowLn] using ho vs ho0
  ·intro i t u F ht hu hf
   have far:∀ k∈Fs.flatten,w'.heap[k]?=w.heap[k]?:=fun k hkF=>by
    refine hk k (Or.inl (List.mem_append_right _ hkF)) (fun e=>?_)
    rw[List.nodup_append] at hn
    exact hn.2.2 k (by rw[← e];simp) k hkF rfl
   by_cases hi:i<l.length
   ·rw[List.getElem?_append_left hi] at ht
    rw[List.getElem?_append_left (by omega)] at hu
    rw[List.getElem?_append_left (by omega)] at hf
    refine (hc i t u F ht hu hf).keep (fun k hkF=>far k ?_)
    simp only[List.mem_flatten]
    exact⟨F,List.mem_of_getElem? hf,hkF⟩
   ·have hi':i=l.length:=by
     have:=(List.getElem?_eq_some_iff.1 ht).1
     simp at this;omega
    subst hi'
    rw[List.getElem?_append_right (by omega)] at ht hu hf
    simp at ht
    simp[hv] at hu
    simp[hF] at hf
    subst ht hu hf
    refine hb.keep (fun k hkG=>hk k (Or.inr hkG) (fun e=>?_))
    exact hd k (by simp[← e]) hkG
  ·rw[hlen]
   have hn1:=hn
   rw[List.nodup_append] at hn1
   have hfg:(Fs.flatten++G).Nodup:=by
    rw[List.nodup_append]
    refine⟨hn1.2.1,hb.nodup,fun a ha c hc' e=>?_⟩
    subst e
    exact hd a (List.mem_append_right _ ha) hc'
   rw[List.nodup_append]
   refine⟨by cases v'.ownBlock<;>simp,hfg,fun a ha c hc' e=>?_⟩
   subst e
   simp only[Option.mem_toList] at ha
   rcases hat with hat | hat
   ·rw[hat] at ha
    rcases List.mem_append.1 hc' with h1 | h1
    ·exact hn1.2.2 a (by simpa using ha) a h1 rfl
    ·exact hd a (by simp;exact Or.inl ha) h1
   ·have h2:=hat a ha
    rcases List.mem_append.1 hc' with h1 | h1
    ·have:=(hB a (List.mem_append_right _ h1)).2;omega
    ·have:=(hG a h1).2;omega
  ·intro k hk'
   rw[hlen] at hk'
   simp only[List.mem_append,Option.mem_toList] at hk' ⊢
   rcases hk' with h1 | h1 | h1
   ·exact Or.inr (Or.inr h1)
   ·exact Or.inl (Or.inr h1)
   ·exact Or.inr (Or.inl h1)
end Go.Proofs.YtpkjmdcabdplfaaGreatDoor
namespace Go.Proofs.YtpkjmdcabdplfaaGreatDoor
open Go Go.RowKit
set_option maxRecDepth 100000
namespace R
def numP (op ord:List UInt8) (x:Lh):Bool:=(x.op.toList==op)&&(ord.isEmpty||x.ord.toList==ord)
def sizeL (l:List Tree):Int:=numL (fun _=>true) l
theorem numL_bd (p:Lh→Bool) (l:List Tree):0≤numL p l∧numL p l≤numL (fun _=>true) l:=by
 induction l using numL.induct with
 | case1=>simp[numL_nil]
 | case2 x b r h1 h2 =>
  simp only[numL_cons,numT,if_true]
  split<;>omega
theorem numL_append (p:Lh→Bool) (a b:List Tree):numL p (a++b)=numL p a+numL p b:=by
 induction a with
 | nil=>simp[numL_nil,numL_cons]
 | cons t r ih=>simp only[List.cons_append,numL_nil,numL_cons,ih];omega
theorem numL_snoc (p:Lh→Bool) (l:List Tree) (k:Nat) (h:k<l.length):numL p (l.take (k+1))=numL p (l.take k)+((if p l[k].x then 1 else 0)+numL p l[k].body):=by
 rw[List.take_succ_eq_append_getElem h,numL_append]
 simp only[numL_nil,numL_cons]
 cases l[k] with
 | mk x b=>cases hp:p x<;>simp[numT,numL_nil,hp]
theorem sizeL_get (l:List Tree) (k:Nat) (h:k<l.length):sizeL (l.take k)+1+sizeL l[k].body≤sizeL l:=by
 have h1:=numL_snoc (fun _=>true) l k h
 have h2:numL (fun _=>true) l=numL (fun _=>true) (l.take (k+1))+numL (fun _=>true) (l.drop (k+1)):=by
  rw[← numL_append,List.take_append_drop]
 have h3:=(numL_bd (fun _=>true) (l.drop (k+1))).1
 simp only[if_true] at h1
 unfold sizeL
 omega
theorem size_len (l:List Tree):(l.length:Int)≤sizeL l:=by
 induction l with
 | nil=>simp[sizeL,numL_nil,numL_cons]
 | cons t r ih =>
  have:1≤numT (fun _=>true) t:=by
   cases t with
   | mk x b=>have:=(numL_bd (fun _=>true) b).1;simp[numT];omega
  simp only[sizeL,numL_nil,numL_cons,List.length_cons] at ih ⊢
  omega
end R
theorem LinesAt.line {w:World} {B g n cap:Nat} {l:List R.Tree} {vs:List Value} (ho:w.ownsRow B 49 9 (.slice (some ⟨g,0,none⟩) n cap) n (rowLn l vs)) (hn:n=l.length) (hv:vs.length=l.length) (k:Nat) (hk:k<l.length) (u:Value) (hu:vs[k]?=some u) :
  ∀ j,j<9→w.cell? ⟨g,k*9+j,none⟩=(lnCells l[k].x u)[j]?:=by
 intro j hj
 rw[ho.cellAt _ (by omega)]
 exact rowLn_get l vs hv k l[k] u (by simp[hk]) hu j hj
set_option maxHeartbeats 3200000 in
theorem number_any (op ord:ByteArray) {w0:World} {B:Nat} {v:Value} {l:List R.Tree} {F:List Nat} (h:LinesAt w0 B v l F):R.sizeL l<10000→∀ w:World,(∀ k∈F,w.heap[k]?=w0.heap[k]?) →
  Calls Tryz.prog 35 #[v,.string op,.string ord] w fun e w'=>e=.returned (.int .i64 (R.numL (R.numP op.toList ord.toList) l))∧Below w.heap.size w w':=by
 induction h using LinesAt.ind with
 | @row v l vs Fs ho hv hF hc hnd ih =>
 intro hsz w hk
 have hbd0:=(LinesAt.row ho hv hF hc hnd).bound
 have hlt:∀ k∈v.ownBlock.toList++Fs.flatten,k<w.heap.size:=fun k hkF=>by
  have h1:=(hbd0 k hkF).2
  have h2:=hk k hkF
  rw[Array.getElem?_eq_getElem h1] at h2
  exact (Array.getElem?_eq_some_iff.1 h2).1
 have how:w.ownsRow B 49 9 v l.length (rowLn l vs):=ownsRow_keep ho (fun k e=>hk k (by simp[e]))
 have hsv:∃ a c,v=.slice a l.length c∧(0<l.length→∃ b,a=some ⟨b,0,none⟩∧b<w.heap.size):=by
  rcases how.2 with ⟨e,h0⟩ | ⟨k,c,cur,e,_⟩
  ·exact⟨none,0,by rw[e,h0],fun h=>by omega⟩
  ·exact⟨_,c,e,fun _=>⟨k,rfl,(how.lt k (by rw[e];rfl)).2⟩⟩
 obtain⟨sa,sc,rfl,hsa⟩:=hsv
 have hlen:=R.size_len l
 have HO:=hide how
 have HIH:=hide ih
 have HK:=hide hk
 have HLT:=hide hlt
 have HV:=hide hv
 have HF:=hide hF
 have HS:=hide hsz
 have hn:l.length<10000:=by omega
 generalize hN:l.length=n at *
 have HL:=hide hN
 clear hN how ih hk hlt hv hF hsz ho hc hnd hbd0
 go_enter Tryz.func35,Tryz.ntmps35
 go_wp2
 go_loopw [7,8] (fun c i wr=>∃ k:Nat,k≤n∧i=.int .i64 k∧c=.int .i64 (R.numL (R.numP op.toList ord.toList) (l.take k))∧Below w.heap.size w wr) (fun _ i _=>n-(intOf i).toNat)
 case atStart=>exact⟨0,Nat.zero_le _,rfl,by simp[R.numL_nil,R.numL_cons],Below.refl _ _⟩
 case round =>
  obtain⟨k,hk,rfl,rfl,hbel⟩:=hrel
  have hpb:=R.numL_bd (R.numP op.toList ord.toList) (l.take k)
  by_cases hlt:k<n
  ·obtain⟨b,rfl,hblt⟩:=hsa (by omega)
   have hkl:k<l.length:=by rw[HL.out];exact hlt
   have hin:(k:Int)<(n:Int):=by omega
   have hkv:k<vs.length:=by rw[HV.out];exact hlt
   have hkf:k<Fs.length:=by rw[HF.out];exact hlt
   have CE:=LinesAt.line HO.out HL.out.symm (by rw[HV.out,HL.out]) k hkl vs[k] (by simp[hkv])
   have c0:=(hbel.cell (p:=⟨b,k*9,none⟩) hblt).trans (CE 0 (by omega))
   have c6:=(hbel.cell (p:=⟨b,k*9+6,none⟩) hblt).trans (CE 6 (by omega))
   have c8:=(hbel.cell (p:=⟨b,k*9+8,none⟩) hblt).trans (CE 8 (by omega))
   simp[lnCells] at c0 c6 c8
   have hsg:=R.sizeL_get l k hkl
   have hsk:=(R.numL_bd (fun _=>true) (l.take k)).1
   have hsb:=R.numL_bd (R.numP op.toList ord.toList) l[k].body
   have hS:=HS.out
   have HC:Hid (∀ w2:World,Below w.heap.size w w2→Calls Tryz.prog 35 #[vs[k],.string op,.string ord] w2 fun e w'=>e=.returned (.int .i64 (R.numL (R.numP op.toList ord.toList) l[k].body))∧Below w2.heap.size w2 w'):=by
    intro w2 hb2
    refine HIH.out k l[k] vs[k] Fs[k] (by simp[hkl]) (by simp[hkv]) (by simp[hkf]) (by unfold R.sizeL at *;omega) w2 (fun j hj=>?_)
    have hj':j∈(Value.slice (some ⟨b,0,none⟩) n sc).ownBlock.toList++Fs.flatten:=by
     simp only[List.mem_append,List.mem_flatten]
     exact Or.inr ⟨Fs[k],List.getElem_mem hkf,hj⟩
    rw[hb2.block j (HLT.out j hj'),HK.out j hj']
   have hsn:=hide (R.numL_snoc (R.numP op.toList ord.toList) l k hkl)
   have hb0:0≤R.numL (R.numP op.toList ord.toList) l[k].body∧R.numL (R.numP op.toList ord.toList) l[k].body<10000:=by unfold R.sizeL at *;omega
   have hb1:0≤R.numL (R.numP op.toList ord.toList) (l.take k)∧R.numL (R.numP op.toList ord.toList) (l.take k)<10000:=by unfold R.sizeL at *;omega
   clear hsg hsk hsb hS CE hpb
   generalize l[k]=t at *
   generalize vs[k]=u at *
   generalize R.numL (R.numP op.toList ord.toList) t.body=nb at *
   generalize R.numL (R.numP op.toList ord.toList) (l.take k)=na at *
   have hws:w.heap.size≤wr.heap.size:=hbel.size
   have fin:∀ w1,Below wr.heap.size wr w1→Below w.heap.size w w1:=fun w1 h1=>hbel.trans (h1.mono hws)
   by_cases e1:t.x.op.toList=op.toList
   ·cases e2:ord.toList.isEmpty
    ·cases e3:(t.x.ord.toList==ord.toList)
     ·have hp:R.numP op.toList ord.toList t.x=false:=by simp[R.numP,e3,e2]
      rw[hp] at hsn
      go_wp2_with (first | (go_at_call 35;refine (HC.out _ (by first | exact hbel | exact hbel.alloc hws _)).mono ?_;rintro e w1 ⟨rfl,hb1⟩))
      go_roundw
      case rel=>exact⟨k+1,by omega,by go_num,by rw[hsn.out];congr 1;first | (simp only[Bool.false_eq_true,if_false];omega) | (simp only[if_true];omega),fin _ hb1⟩
      case measure=>simp[intOf];omega
     ·have hp:R.numP op.toList ord.toList t.x=true:=by simp[R.numP,e1,e3]
      rw[hp] at hsn
      go_wp2_with (first | (go_at_call 35;refine (HC.out _ (by first | exact hbel | exact hbel.alloc hws _)).mono ?_;rintro e w1 ⟨rfl,hb1⟩))
      go_roundw
      case rel=>exact⟨k+1,by omega,by go_num,by rw[hsn.out];congr 1;first | (simp only[Bool.false_eq_true,if_false];omega) | (simp only[if_true];omega),fin _ hb1⟩
      case measure=>simp[intOf];omega
    ·have hp:R.numP op.toList ord.toList t.x=true:=by simp[R.numP,e1,e2]
     rw[hp] at hsn
     go_wp2_with (first | (go_at_call 35;refine (HC.out _ (by first | exact hbel | exact hbel.alloc hws _)).mono ?_;rintro e w1 ⟨rfl,hb1⟩))
     go_roundw
     case rel=>exact⟨k+1,by omega,by go_num,by rw[hsn.out];congr 1;first | (simp only[Bool.false_eq_true,if_false];omega) | (simp only[if_true];omega),fin _ hb1⟩
     case measure=>simp[intOf];omega
   ·have hp:R.numP op.toList ord.toList t.x=false:=by simp[R.numP,e1]
    rw[hp] at hsn
    go_wp2_with (first | (go_at_call 35;refine (HC.out _ (by first | exact hbel | exact hbel.alloc hws _)).mono ?_;rintro e w1 ⟨rfl,hb1⟩))
    go_roundw
    case rel=>exact⟨k+1,by omega,by go_num,by rw[hsn.out];congr 1;first | (simp only[Bool.false_eq_true,if_false];omega) | (simp only[if_true];omega),fin _ hb1⟩
    case measure=>simp[intOf];omega
  ·have hkn:k=n:=by omega
   subst hkn
   have HT:Hid (l.take k=l):=List.take_of_length_le (by have:=HL.out;omega)
   go_wp2
   go_ret
   rw[HT.out]
   exact⟨rfl,hbel⟩
def thCells:List R.Th→List Value→List Value
 | t::l,v::vs=>[.int .i64 t.block,v,.int .i64 t.row]++thCells l vs
 | _,_=>[]
theorem thCells_length (l:List R.Th):∀ (vs:List Value),vs.length=l.length→(thCells l vs).length=l.length*3:=by
 induction l with
 | nil=>intro vs _;simp[thCells]
 | cons t l ih =>
  intro vs h
  cases vs with
  | nil=>simp at h
  | cons v vs =>
   have:=ih vs (by simpa using h)
   simp only[thCells,List.length_append,this,List.length_cons,List.length_nil]
   omega
theorem thCells_at (l:List R.Th):∀ (vs:List Value),vs.length=l.length→∀ (i:Nat) (t:R.Th) (v:Value),l[i]?=some t→vs[i]?=some v →
  (thCells l vs)[i*3]?=some (.int .i64 t.block)∧(thCells l vs)[i*3+1]?=some v∧(thCells l vs)[i*3+2]?=some (.int .i64 t.row):=by
 induction l with
 | nil=>intro vs _ i t v h;simp at h
 | cons t0 l ih =>
  intro vs hl i t v ht hv
  cases vs with
  | nil=>simp at hl
  | cons v0 vs =>
   cases i with
   | zero =>
    simp at ht hv
    subst ht hv
    simp[thCells]
   | succ i =>
    simp at ht hv
    have:=ih vs (by simpa using hl) i t v ht hv
    rw[show (i+1)*3=i*3+3 by omega]
    simpa [thCells] using this
theorem thCells_append (l m:List R.Th):∀ (vs us:List Value),vs.length=l.length→thCells (l++m) (vs++us)=thCells l vs++thCells m us:=by
 induction l with
 | nil =>
  intro vs us h
  have:vs=[]:=List.length_eq_zero_iff.1 h
  subst this
  simp[thCells]
 | cons t l ih =>
  intro vs us h
  cases vs with
  | nil=>simp at h
  | cons v vs=>simp only[List.cons_append,thCells,ih vs us (by simpa using h),List.nil_append]
structure ThsAt (w:World) (B:Nat) (tv:Value) (ts:List R.Th) (vs:List Value) (Fs:List (List Nat)):Prop where
 own:w.ownsRow B 46 3 tv ts.length (thCells ts vs)
 lv:vs.length=ts.length
 lF:Fs.length=ts.length
 kid:∀ (i:Nat) (t:R.Th) (u:Value) (F:List Nat),ts[i]?=some t→vs[i]?=some u→Fs[i]?=some F→LinesAt w B u t.body F
theorem ThsAt.keep {w w':World} {B:Nat} {tv:Value} {ts:List R.Th} {vs:List Value} {Fs:List (List Nat)} (h:ThsAt w B tv ts vs Fs) (hb:∀ k,k<w.heap.size→w'.heap[k]?=w.heap[k]?):ThsAt w' B tv ts vs Fs :=
 ⟨ownsRow_keep h.own (fun k e=>hb k (h.own.lt k e).2),h.lv,h.lF,fun i t u F ht hu hF=>(h.kid i t u F ht hu hF).keep (fun k hk=>hb k ((h.kid i t u F ht hu hF).bound k hk).2)⟩
namespace R
theorem totT_append (p:Lh→Bool) (a b:List Th):totT p (a++b)=totT p a+totT p b:=by
 induction a with
 | nil=>simp[totT]
 | cons t r ih=>simp only[List.cons_append,totT,ih];omega
theorem totT_snoc (p:Lh→Bool) (l:List Th) (k:Nat) (h:k<l.length):totT p (l.take (k+1))=totT p (l.take k)+numL p l[k].body:=by
 rw[List.take_succ_eq_append_getElem h,totT_append]
 simp only[totT];omega
theorem totT_bd (p:Lh→Bool) (l:List Th) (h:∀ t∈l,sizeL t.body<10000):0≤totT p l∧totT p l≤l.length*10000:=by
 induction l with
 | nil=>simp[totT]
 | cons t r ih =>
  have h1:=ih (fun t ht=>h t (by simp[ht]))
  have h2:=h t (by simp)
  have h3:=numL_bd p t.body
  unfold sizeL at h2
  simp only[totT,List.length_cons]
  push_cast
  omega
theorem num_split (p q r:Lh→Bool) (h:∀ x,(if p x then (1:Int) else 0)=(if q x then 1 else 0)+(if r x then 1 else 0)):(∀ t,numT p t=numT q t+numT r t)∧∀ l,numL p l=numL q l+numL r l:=by
 have hh:∀ l,numL p l=numL q l+numL r l:=by
  intro l
  induction l using numL.induct with
  | case1=>simp[numL_nil]
  | case2 x b l h1 h2 =>
   have:=h x
   simp only[numL_cons,numT,h1,h2];omega
 refine⟨fun t=>?_,hh⟩
 cases t with
 | mk x b=>have:=h x;have:=hh b;simp only[numT];omega
end R
namespace R
def pLoad:Lh→Bool:=numP [108,111,97,100] []
def pStore:Lh→Bool:=numP [115,116,111,114,101] []
def pAdd:Lh→Bool:=numP [97,100,100] []
def pSwap:Lh→Bool:=numP [115,119,97,112] []
def pFence:Lh→Bool:=numP [102,101,110,99,101] [115,99]
theorem isR_num (l:List Tree):numL isR l=numL pLoad l+numL pAdd l+numL pSwap l:=by
 have h1:=(num_split isR pLoad (fun x=>pAdd x||pSwap x) (fun x=>by
  simp only[isR,pLoad,pAdd,pSwap,numP,List.isEmpty_nil,Bool.true_or,Bool.and_true,sLoad,lit_toList,lAdd,lSwap]
  by_cases h:x.op.toList=[108,111,97,100]
  ·rw[h];decide
  ·simp[h])).2 l
 have h2:=(num_split (fun x=>pAdd x||pSwap x) pAdd pSwap (fun x=>by
  simp only[pAdd,pSwap,numP,List.isEmpty_nil,Bool.true_or,Bool.and_true]
  by_cases h:x.op.toList=[97,100,100]
  ·rw[h];decide
  ·simp[h])).2 l
 rw[h1,h2];omega
theorem isW_num (l:List Tree):numL isW l=numL pStore l+numL pAdd l+numL pSwap l:=by
 have h1:=(num_split isW pStore (fun x=>pAdd x||pSwap x) (fun x=>by
  simp only[isW,pStore,pAdd,pSwap,numP,List.isEmpty_nil,Bool.true_or,Bool.and_true,sStore,lit_toList,lAdd,lSwap]
  by_cases h:x.op.toList=[115,116,111,114,101]
  ·rw[h];decide
  ·simp[h])).2 l
 have h2:=(num_split (fun x=>pAdd x||pSwap x) pAdd pSwap (fun x=>by
  simp only[pAdd,pSwap,numP,List.isEmpty_nil,Bool.true_or,Bool.and_true]
  by_cases h:x.op.toList=[97,100,100]
  ·rw[h];decide
  ·simp[h])).2 l
 rw[h1,h2];omega
theorem isF_num:isF=pFence:=by
 funext x
 simp[isF,pFence,numP,sFence,lit_toList,oS]
theorem isB_num:isB=numP [98,97,114,114,105,101,114] []:=by
 funext x
 simp[isB,numP,sBarrier,lit_toList]
end R
theorem ThsAt.get {w:World} {B bt n cap:Nat} {ts:List R.Th} {vs:List Value} {Fs:List (List Nat)} (h:ThsAt w B (.slice (some ⟨bt,0,none⟩) n cap) ts vs Fs) (hn:n=ts.length) (hs:∀ t∈ts,R.sizeL t.body<10000) (k:Nat) (hk:k<ts.length) :
  bt<w.heap.size∧∃ u,w.cell? ⟨bt,k*3,none⟩=some (.int .i64 ts[k].block)∧w.cell? ⟨bt,k*3+1,none⟩=some u∧w.cell? ⟨bt,k*3+2,none⟩=some (.int .i64 ts[k].row) ∧
   Hid (∀ (op ord:ByteArray) (w2:World),Below w.heap.size w w2→Calls Tryz.prog 35 #[u,.string op,.string ord] w2 fun e w'=>e=.returned (.int .i64 (R.numL (R.numP op.toList ord.toList) ts[k].body))∧Below w2.heap.size w2 w'):=by
 have hv:k<vs.length:=by rw[h.lv];exact hk
 have hF:k<Fs.length:=by rw[h.lF];exact hk
 have ho:=h.own
 rw[← hn] at ho
 obtain⟨c0,c1,c2⟩:=thCells_at ts vs h.lv k ts[k] vs[k] (by simp[hk]) (by simp[hv])
 refine⟨(ho.lt bt rfl).2,vs[k],?_,?_,?_,?_⟩
 ·rw[ho.cellAt _ (by omega)];exact c0
 ·rw[ho.cellAt _ (by omega)];exact c1
 ·rw[ho.cellAt _ (by omega)];exact c2
 ·intro op ord w2 hb
  have L:=h.kid k ts[k] vs[k] Fs[k] (by simp[hk]) (by simp[hv]) (by simp[hF])
  refine (number_any op ord L (hs _ (List.getElem_mem hk)) w2 (fun j hj=>hb.block j (L.bound j hj).2)).mono ?_
  rintro e w' ⟨rfl,h2⟩
  exact⟨rfl,h2⟩
set_option maxHeartbeats 3200000 in
theorem within_any (B bt n cap:Nat) (ts:List R.Th) (vs:List Value) (Fs:List (List Nat)) (w:World) (h:ThsAt w B (.slice (some ⟨bt,0,none⟩) n cap) ts vs Fs) (hn:n=ts.length) (hnb:n<10) (hs:∀ t∈ts,R.sizeL t.body<10000) :
  Calls Tryz.prog 18 #[.slice (some ⟨bt,0,none⟩) n cap] w fun e w'=>e=.returned (.bool (R.within ts))∧Below w.heap.size w w':=by
 have HA:=hide h
 have HN:=hide hn
 have HS:=hide hs
 clear h hn hs
 go_enter Tryz.func18,Tryz.ntmps18
 go_wp2
 go_loopw [3,4,5,6] (fun a b c i wr=>∃ k:Nat,k≤n∧i=.int .i64 k∧a=.int .i64 (R.totT R.isR (ts.take k))∧b=.int .i64 (R.totT R.isW (ts.take k))∧c=.int .i64 (R.totT R.isF (ts.take k))∧Below w.heap.size w wr) (fun _ _ _ i _=>n-(intOf i).toNat)
 case atStart=>exact⟨0,Nat.zero_le _,rfl,rfl,rfl,rfl,Below.refl _ _⟩
 case round =>
  obtain⟨k,hk,rfl,rfl,rfl,rfl,hbel⟩:=hrel
  have hsk:∀ t∈ts.take k,R.sizeL t.body<10000:=fun t ht=>HS.out t (List.mem_of_mem_take ht)
  have hlk:((ts.take k).length:Int)≤10:=by have:=List.length_take_le k ts;omega
  have b1:0≤R.totT R.isR (ts.take k)∧R.totT R.isR (ts.take k)≤100000:=by have:=R.totT_bd R.isR _ hsk;omega
  have b2:0≤R.totT R.isW (ts.take k)∧R.totT R.isW (ts.take k)≤100000:=by have:=R.totT_bd R.isW _ hsk;omega
  have b3:0≤R.totT R.isF (ts.take k)∧R.totT R.isF (ts.take k)≤100000:=by have:=R.totT_bd R.isF _ hsk;omega
  by_cases hlt:k<n
  ·have hkl:k<ts.length:=by rw[← HN.out];exact hlt
   obtain⟨hbt,u,c0,c1,c2,HC⟩:=HA.out.get HN.out HS.out k hkl
   have d1:=(hbel.cell (p:=⟨bt,k*3+1,none⟩) hbt).trans c1
   have s1:=R.totT_snoc R.isR ts k hkl
   have s2:=R.totT_snoc R.isW ts k hkl
   have s3:=R.totT_snoc R.isF ts k hkl
   rw[R.isR_num] at s1
   rw[R.isW_num] at s2
   rw[R.isF_num] at s3
   have hz:=HS.out ts[k] (List.getElem_mem hkl)
   unfold R.sizeL at hz
   have e1:=R.numL_bd R.pLoad ts[k].body
   have e2:=R.numL_bd R.pStore ts[k].body
   have e3:=R.numL_bd R.pAdd ts[k].body
   have e4:=R.numL_bd R.pSwap ts[k].body
   have e5:=R.numL_bd R.pFence ts[k].body
   obtain⟨NN,hNN⟩:∃ f:ByteArray→ByteArray→Int,∀ op ord,f op ord=R.numL (R.numP op.toList ord.toList) ts[k].body:=⟨_,fun _ _=>rfl⟩
   have HC':Hid (∀ (op ord:ByteArray) (w2:World),Below w.heap.size w w2→Calls Tryz.prog 35 #[u,.string op,.string ord] w2 fun e w'=>e=.returned (.int .i64 (NN op ord))∧Below w.heap.size w w'):=fun op ord w2 hb=>by
    rw[hNN]
    refine (HC.out op ord w2 hb).mono ?_
    rintro e w' ⟨rfl,h2⟩
    exact⟨rfl,hb.trans (h2.mono hb.size)⟩
   have N1:R.numL R.pLoad ts[k].body=NN ⟨#[108,111,97,100]⟩ ⟨#[]⟩:=by rw[hNN,lit_toList,lit_toList];rfl
   have N2:R.numL R.pStore ts[k].body=NN ⟨#[115,116,111,114,101]⟩ ⟨#[]⟩:=by rw[hNN,lit_toList,lit_toList];rfl
   have N3:R.numL R.pAdd ts[k].body=NN ⟨#[97,100,100]⟩ ⟨#[]⟩:=by rw[hNN,lit_toList,lit_toList];rfl
   have N4:R.numL R.pSwap ts[k].body=NN ⟨#[115,119,97,112]⟩ ⟨#[]⟩:=by rw[hNN,lit_toList,lit_toList];rfl
   have N5:R.numL R.pFence ts[k].body=NN ⟨#[102,101,110,99,101]⟩ ⟨#[115,99]⟩:=by rw[hNN,lit_toList,lit_toList];rfl
   rw[N1] at e1 s1
   rw[N2] at e2 s2
   rw[N3] at e3 s1 s2
   rw[N4] at e4 s1 s2
   rw[N5] at e5 s3
   have f1:0≤NN ⟨#[108,111,97,100]⟩ ⟨#[]⟩∧NN ⟨#[108,111,97,100]⟩ ⟨#[]⟩<10000:=by omega
   have f2:0≤NN ⟨#[115,116,111,114,101]⟩ ⟨#[]⟩∧NN ⟨#[115,116,111,114,101]⟩ ⟨#[]⟩<10000:=by omega
   have f3:0≤NN ⟨#[97,100,100]⟩ ⟨#[]⟩∧NN ⟨#[97,100,100]⟩ ⟨#[]⟩<10000:=by omega
   have f4:0≤NN ⟨#[115,119,97,112]⟩ ⟨#[]⟩∧NN ⟨#[115,119,97,112]⟩ ⟨#[]⟩<10000:=by omega
   have f5:0≤NN ⟨#[102,101,110,99,101]⟩ ⟨#[115,99]⟩∧NN ⟨#[102,101,110,99,101]⟩ ⟨#[115,99]⟩<10000:=by omega
   clear HC c0 c1 c2 N1 N2 N3 N4 N5 hNN
   have S1:=hide s1
   have S2:=hide s2
   have S3:=hide s3
   clear s1 s2 s3 e1 e2 e3 e4 e5 hz
   rw[R.isF_num] at *
   generalize R.totT R.isR (ts.take k)=t1 at *
   generalize R.totT R.isW (ts.take k)=t2 at *
   generalize R.totT R.pFence (ts.take k)=t3 at *
   have hin:(k:Int)<(n:Int):=by omega
   go_wp2_with (first | (go_at_call 35;refine (HC'.out _ _ _ (by assumption)).mono ?_;rintro e w1 ⟨rfl,hb1⟩))
   go_roundw
   case rel=>exact⟨k+1,by omega,by go_num,by rw[S1.out];congr 1;omega,by rw[S2.out];congr 1;omega,by rw[S3.out],by assumption⟩
   case measure=>simp[intOf];omega
  ·have hkn:k=n:=by omega
   subst hkn
   have HT:Hid (ts.take k=ts):=List.take_of_length_le (by have:=HN.out;omega)
   rw[HT.out] at *
   have HW:Hid (R.within ts=(decide (R.totT R.isR ts≤4)&&decide (R.totT R.isW ts≤3)&&decide (R.totT R.isF ts≤3))):=rfl
   generalize R.totT R.isR ts=t1 at *
   generalize R.totT R.isW ts=t2 at *
   generalize R.totT R.isF ts=t3 at *
   by_cases g1:t1≤4
   ·by_cases g2:t2≤3
    ·by_cases g3:t3≤3
     ·go_wp2
      go_ret
      rw[HW.out];simp[g1,g2,g3];exact hbel
     ·go_wp2
      go_ret
      rw[HW.out];simp[g1,g2,g3];exact hbel
    ·go_wp2
     go_ret
     rw[HW.out,decide_eq_false (show ¬ t2≤3 by omega)];simp;exact hbel
   ·go_wp2
    go_ret
    rw[HW.out,decide_eq_false (show ¬ t1≤4 by omega)];simp;exact hbel
end Go.Proofs.YtpkjmdcabdplfaaGreatDoor
