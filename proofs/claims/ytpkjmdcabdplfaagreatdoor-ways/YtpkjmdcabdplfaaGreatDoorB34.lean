import Derived.Test.YtpkjmdcabdplfaaGreatDoorB32
set_option linter.unusedVariables false
set_option linter.unusedSimpArgs false
namespace Go.Proofs.YtpkjmdcabdplfaaGreatDoor
open Go Go.RowKit
set_option maxRecDepth 100000
structure Sub (k:Nat) (l:List R.Tree) (vs:List Value) (Fs:List (List Nat)) (ys:List R.Tree) (us:List Value) (Gs:List (List Nat)):Prop where
 lu:us.length=ys.length
 lg:Gs.length=ys.length
 mem:∀ (i:Nat) (t:R.Tree) (u:Value) (F:List Nat),ys[i]?=some t→us[i]?=some u→Gs[i]?=some F→∃ j:Nat,l[j]?=some t∧vs[j]?=some u∧Fs[j]?=some F
 sub:Gs.Sublist (Fs.take k)
theorem flatten_sub {a b:List (List Nat)} (h:a.Sublist b):a.flatten.Sublist b.flatten:=by
 induction h with
 | slnil=>exact .slnil
 | cons x _ ih=>simpa using List.Sublist.trans ih (List.sublist_append_right x _)
 | cons_cons x _ ih=>simpa using List.Sublist.append_left ih x
theorem LinesAt.some {w0 w1:World} {B:Nat} {v:Value} {l ys:List R.Tree} {vs us:List Value} {Fs Gs:List (List Nat)} {o:Value} {k0:Nat} (hS:Sub k0 l vs Fs ys us Gs) (hnd:(v.ownBlock.toList++Fs.flatten).Nodup)
  (hc:∀ (i:Nat) (t:R.Tree) (u:Value) (F:List Nat),l[i]?=Option.some t→vs[i]?=Option.some u→Fs[i]?=Option.some F→LinesAt w0 B u t.body F)
  (hk:∀ F∈Fs,∀ k∈F,w1.heap[k]?=w0.heap[k]?∧k<w0.heap.size) (ho:w1.ownsRow w0.heap.size 49 9 o ys.length (rowLn ys us)) (hB:B≤w0.heap.size) :
  LinesAt w1 B o ys (o.ownBlock.toList++Gs.flatten):=by
 have hsub:=flatten_sub (hS.sub.trans (List.take_sublist _ _))
 refine .row (own_base ho hB) hS.lu hS.lg (fun i t u F h1 h2 h3=>?_) ?_
 ·obtain⟨j,e1,e2,e3⟩:=hS.mem i t u F h1 h2 h3
  exact (hc j t u F e1 e2 e3).keep (fun k hkF=>(hk F (List.mem_of_getElem? e3) k hkF).1)
 ·rw[List.nodup_append] at hnd ⊢
  refine⟨by cases o.ownBlock<;>simp,hnd.2.1.sublist hsub,fun a ha c hc' e=>?_⟩
  subst e
  simp only[Option.mem_toList] at ha
  have h1:=(ho.lt a ha).1
  have h2:=hsub.subset hc'
  obtain⟨F,hF,hkF⟩:=List.mem_flatten.1 h2
  have:=(hk F hF a hkF).2
  omega
theorem Sub.nil (l:List R.Tree) (vs:List Value) (Fs:List (List Nat)):Sub 0 l vs Fs [] [] []:=⟨rfl,rfl,fun i t u F h=>by simp at h,by simp⟩
theorem Sub.skip {k:Nat} {l ys:List R.Tree} {vs us:List Value} {Fs Gs:List (List Nat)} (h:Sub k l vs Fs ys us Gs):Sub (k+1) l vs Fs ys us Gs :=
 ⟨h.lu,h.lg,h.mem,h.sub.trans (List.take_sublist_take_left (Nat.le_succ k))⟩
theorem Sub.put {k:Nat} {l ys:List R.Tree} {vs us:List Value} {Fs Gs:List (List Nat)} (h:Sub k l vs Fs ys us Gs) (hl:k<l.length) (hv:k<vs.length) (hF:k<Fs.length):Sub (k+1) l vs Fs (ys++[l[k]]) (us++[vs[k]]) (Gs++[Fs[k]]):=by
 refine⟨by simp[h.lu],by simp[h.lg],fun i t u F h1 h2 h3=>?_,?_⟩
 ·by_cases hi:i<ys.length
  ·rw[List.getElem?_append_left hi] at h1
   rw[List.getElem?_append_left (by have:=h.lu;omega)] at h2
   rw[List.getElem?_append_left (by have:=h.lg;omega)] at h3
   exact h.mem i t u F h1 h2 h3
  ·have hi':i=ys.length:=by
    have:=(List.getElem?_eq_some_iff.1 h1).1
    simp at this;omega
   subst hi'
   rw[List.getElem?_append_right (by omega)] at h1
   rw[List.getElem?_append_right (by have:=h.lu;omega)] at h2
   rw[List.getElem?_append_right (by have:=h.lg;omega)] at h3
   simp at h1
   simp[h.lu] at h2
   simp[h.lg] at h3
   exact⟨k,by simp[hl,h1],by simp[hv,h2],by simp[hF,h3]⟩
 ·rw[List.take_succ_eq_append_getElem hF]
  exact List.Sublist.append_right h.sub _
set_option maxHeartbeats 6400000 in
theorem drop_any {w:World} {B:Nat} {v:Value} {l:List R.Tree} {F:List Nat} (k0:Int) (h:LinesAt w B v l F) (hsz:l.length<10000) (hB:B≤w.heap.size) (hk0:-10<k0∧k0<10) :
  Calls Tryz.prog 38 #[v,.int .i64 k0] w fun e w'=>∃ v' F',e=.returned v'∧LinesAt w' B v' (R.dropL k0 l) F'∧Below w.heap.size w w':=by
 cases h using LinesAt.cs with
 | @row v l vs Fs how hv hF hc hnd =>
 obtain⟨i0,hi,hz0,hz1,hz2⟩:=info_parts Tryz.infoLn
 have hbd:∀ G∈Fs,∀ k∈G,k<w.heap.size:=fun G hG k hk=>by
  obtain⟨j,hj,e⟩:=List.mem_iff_getElem.1 hG
  exact ((hc j (l[j]'(by omega)) (vs[j]'(by omega)) G (by simp[show j<l.length by omega]) (by simp[show j<vs.length by omega]) (by simp[hj,e])).bound k hk).2
 have hsv:∃ a c,v=.slice a l.length c∧(0<l.length→∃ b,a=some ⟨b,0,none⟩∧b<w.heap.size):=by
  rcases how.2 with ⟨e,h0⟩ | ⟨k,c,cur,e,_⟩
  ·exact⟨none,0,by rw[e,h0],fun h=>by omega⟩
  ·exact⟨_,c,e,fun _=>⟨k,rfl,(how.lt k (by rw[e];rfl)).2⟩⟩
 obtain⟨sa,sc,rfl,hsa⟩:=hsv
 have HO:=hide how
 have HV:=hide hv
 have HF:=hide hF
 have HCC:=hide hc
 have HND:=hide hnd
 have HBD:=hide hbd
 generalize hN:l.length=n at *
 have HL:=hide hN
 clear hN how hv hF hc hnd hbd
 go_enter Tryz.func38,Tryz.ntmps38
 go_wp2
 go_loopw [1,5,6] (fun kk o i wr=>∃ (k:Nat) (q:Int) (acc:List R.Tree) (us:List Value) (Gs:List (List Nat)),k≤n∧i=.int .i64 k∧kk=.int .i64 q∧q≤k0∧k0-k≤q∧acc.length≤k∧Hid (Sub k l vs Fs acc us Gs)∧Hid (acc++R.dropL q (l.drop k)=R.dropL k0 l)∧Hid (∀ u∈us,u.oneCell'=true)∧wr.ownsRow w.heap.size 49 9 o acc.length (rowLn acc us)∧Below w.heap.size w wr) (fun _ _ i _=>n-(intOf i).toNat)
 case atStart=>exact⟨0,k0,[],[],[],Nat.zero_le _,rfl,rfl,by omega,by omega,by simp,Sub.nil _ _ _,by unfold Hid;simp,by unfold Hid;simp,World.ownsRow_nil _ _ _ _,Below.refl _ _⟩
 case round =>
  obtain⟨k,q,acc,us,Gs,hk,rfl,rfl,hq0,hq1,hac,HSB,HR,HU,hrow,hbel⟩:=hrel
  have hws:=hbel.size
  by_cases hlt:k<n
  ·obtain⟨b,rfl,hblt⟩:=hsa (by omega)
   have hkl:k<l.length:=by rw[HL.out];exact hlt
   have hin:(k:Int)<(n:Int):=by omega
   have hkv:k<vs.length:=by rw[HV.out];exact hlt
   have hkf:k<Fs.length:=by rw[HF.out];exact hlt
   have CE:=LinesAt.line HO.out HL.out.symm (by rw[HV.out,HL.out]) k hkl vs[k] (by simp[hkv])
   have d0:wr.cell? ⟨b,k*9,none⟩=some (.string l[k].x.op):=(World.cell?_of_block (w:=w) (a:=⟨b,k*9,none⟩) (hbel.block b hblt)).trans (CE 0 (by omega))
   have hr:=hide (rangeAt_keep2 (range_ln HO.out HL.out.symm (by rw[HV.out,HL.out]) k hkl vs[k] (by simp[hkv])) (hbel.block b hblt))
   obtain⟨xsu,hxu⟩:=(HCC.out k l[k] vs[k] Fs[k] (by simp[hkl]) (by simp[hkv]) (by simp[hkf])).own0
   obtain⟨ua,uc,hu⟩:=own_formS hxu
   have HSP:=hide (HSB.out.put hkl hkv hkf)
   have HSK:=hide HSB.out.skip
   have HD:=hide (P.drop_cons l k hkl)
   have HRL:Hid (rowLn (acc++[l[k]]) (us++[vs[k]])=rowLn acc us++(lnCells l[k].x vs[k]).toList):=by
    unfold Hid;rw[rowLn_append _ _ _ _ HSB.out.lu];simp[rowLn]
   generalize l[k]=t at *
   generalize vs[k]=u at *
   generalize Fs[k]=G at *
   subst hu
   clear CE hxu HCC
   have HOW:=hide hrow
   have HBL:=hide hbel
   clear hrow hbel
   have HOU:Hid (∀ x∈us++[Value.slice ua t.body.length uc],x.oneCell'=true):=fun x hx=>by
    rcases List.mem_append.1 hx with h | h
    ·exact HU.out x h
    ·simp at h;rw[h];rfl
   cases hb:(t.x.op.toList==[98,97,114,114,105,101,114])
   ·have HST:Hid ((acc++[t])++R.dropL q (l.drop (k+1))=R.dropL k0 l):=by
     have hb':R.isB t.x=false:=by simpa [R.isB,R.sBarrier,lit_toList] using hb
     have h1:=HR.out
     rw[HD.out] at h1
     unfold Hid;rw[← h1];simp[R.dropL,hb']
    go_wp2_with (first
     | (refine wpList_load_lnAt (.tmp 27) rfl rfl b (k*9) t.x (.slice ua t.body.length uc) rfl hr.out ?_)
     | (at_builtin;refine wpList_append_lies _ rfl (.tmp 24) (.tmp 29) 44 rfl w.heap.size 49 i0 (.agg (lnCells R.z0 (.slice none 0 0))) 9 120 Tryz.underlying44 hi hz0 hz1 hz2 rfl (by decide) _ _ _ rfl (HOW.out.alloc _) ⟨wr.heap.size,0,none⟩ 1 1 (lnCells t.x (.slice ua t.body.length uc)).toList rfl rfl ?c1 ?c2 (by decide) ?c3 ?c4 ?c5 _ rfl ?_))
    case c1=>exact World.news_of_block (t:=49) (fr:=(0,0)) (heap_alloc_new wr _)
    case c2=>exact lnCells_one _ _ rfl
    case c3=>unfold maxLen;omega
    case c4=>omega
    case c5=>simp;omega
    intro g1 cap1 w1 hown1 hgrow hat hlt1
    have FIN:=hide (grown_row HBL.out ((Below.refl _ _).alloc (Nat.le_refl _) _) HOW.out hgrow)
    have FOW:Hid (w1.ownsRow w.heap.size 49 9 (.slice (some ⟨g1,0,none⟩) (acc.length+1) cap1) (acc++[t]).length (rowLn (acc++[t]) (us++[.slice ua t.body.length uc]))):=by
     unfold Hid;rw[HRL.out];simpa using hown1
    clear hown1 hgrow hat HOW HBL
    go_wp2
    go_roundw
    case rel=>exact⟨k+1,q,acc++[t],_,_,by omega,by go_num,rfl,hq0,by omega,by simp;omega,HSP,HST,HOU,FOW.out,FIN.out⟩
    case measure=>simp[intOf];omega
   ·have hb':Hid (R.isB t.x=true):=by unfold Hid;simpa [R.isB,R.sBarrier,lit_toList] using hb
    by_cases hq:q-1=0
    ·have HST:Hid (acc++R.dropL (q-1) (l.drop (k+1))=R.dropL k0 l):=by
      have h1:=HR.out
      rw[HD.out] at h1
      unfold Hid;rw[← h1];simp[R.dropL,hb'.out,hq]
     have bq:(q-1==0)=true:=by simpa using hq
     clear hq
     go_wp2
     go_roundw
     case rel=>exact⟨k+1,q-1,acc,us,Gs,by omega,by go_num,by go_num,by omega,by omega,by omega,HSK,HST,HU,HOW.out,HBL.out⟩
     case measure=>simp[intOf];omega
    ·have HST:Hid ((acc++[t])++R.dropL (q-1) (l.drop (k+1))=R.dropL k0 l):=by
      have h1:=HR.out
      rw[HD.out] at h1
      unfold Hid;rw[← h1];simp[R.dropL,hb'.out,hq]
     have bq:(q-1==0)=false:=by simpa using hq
     clear hq
     go_wp2_with (first
      | (refine wpList_load_lnAt (.tmp 27) rfl rfl b (k*9) t.x (.slice ua t.body.length uc) rfl hr.out ?_)
      | (at_builtin;refine wpList_append_lies _ rfl (.tmp 24) (.tmp 29) 44 rfl w.heap.size 49 i0 (.agg (lnCells R.z0 (.slice none 0 0))) 9 120 Tryz.underlying44 hi hz0 hz1 hz2 rfl (by decide) _ _ _ rfl (HOW.out.alloc _) ⟨wr.heap.size,0,none⟩ 1 1 (lnCells t.x (.slice ua t.body.length uc)).toList rfl rfl ?c1 ?c2 (by decide) ?c3 ?c4 ?c5 _ rfl ?_))
     case c1=>exact World.news_of_block (t:=49) (fr:=(0,0)) (heap_alloc_new wr _)
     case c2=>exact lnCells_one _ _ rfl
     case c3=>unfold maxLen;omega
     case c4=>omega
     case c5=>simp;omega
     intro g1 cap1 w1 hown1 hgrow hat hlt1
     have FIN:=hide (grown_row HBL.out ((Below.refl _ _).alloc (Nat.le_refl _) _) HOW.out hgrow)
     have FOW:Hid (w1.ownsRow w.heap.size 49 9 (.slice (some ⟨g1,0,none⟩) (acc.length+1) cap1) (acc++[t]).length (rowLn (acc++[t]) (us++[.slice ua t.body.length uc]))):=by
      unfold Hid;rw[HRL.out];simpa using hown1
     clear hown1 hgrow hat HOW HBL
     go_wp2
     go_roundw
     case rel=>exact⟨k+1,q-1,acc++[t],_,_,by omega,by go_num,by go_num,by omega,by omega,by simp;omega,HSP,HST,HOU,FOW.out,FIN.out⟩
     case measure=>simp[intOf];omega
  ·have HE:Hid (R.dropL k0 l=acc):=by
    unfold Hid
    rw[← HR.out,List.drop_eq_nil_of_le (by have:=HL.out;omega)];simp[R.dropL]
   have HLS:Hid (LinesAt wr B u5 acc (u5.ownBlock.toList++Gs.flatten)):=LinesAt.some HSB.out HND.out HCC.out (fun F hF k hk=>⟨hbel.block k (HBD.out F hF k hk),HBD.out F hF k hk⟩) hrow hB
   go_wp2
   go_ret
   exact⟨_,_,rfl,by rw[HE.out];exact HLS.out,hbel⟩
set_option maxHeartbeats 6400000 in
theorem all_one {w:World} {B b k c:Nat} {t:R.Tree} {u:Value} {F:List Nat} (hr0:w.rangeAt b (k*9) (lnCells t.x u).toList) (hblt:b<w.heap.size) (hch:LinesAt w B u t.body F) (htb:R.sizeL t.body<10000) :
  Calls Tryz.prog 40 #[.slice (some ⟨b,k*9,none⟩) 1 c] w fun e w'=>∃ (v':Value) (ys:List R.Tree) (us:List Value),e=.returned v'∧ys.map R.Tree.x=t.x::R.flatL t.body∧us.length=ys.length∧(ys.length:Int)≤1+R.sizeL t.body∧w'.ownsRow w.heap.size 49 9 v' ys.length (rowLn ys us)∧Below w.heap.size w w':=by
 obtain⟨i0,hi,hz0,hz1,hz2⟩:=info_parts Tryz.infoLn
 have hone:=hch.one
 have C8:Hid (w.cell? ⟨b,k*9+8,none⟩=some u):=hr0 8 u rfl
 have HC:∀ w2:World,Below w.heap.size w w2→Calls Tryz.prog 40 #[u] w2 fun e w'=>∃ (v':Value) (zs:List R.Tree) (us':List Value),e=.returned v'∧zs.map R.Tree.x=R.flatL t.body∧us'.length=zs.length∧(zs.length:Int)≤R.sizeL t.body∧(∀ u∈us',u.oneCell'=true)∧(t.body=[]→v'=.slice none 0 0)∧(t.body≠[]→0<zs.length)∧w'.ownsRow w2.heap.size 49 9 v' zs.length (rowLn zs us')∧Below w2.heap.size w2 w' :=
  fun w2 hb2=>all2_any hch htb w2 (fun j hj=>hb2.block j (hch.bound j hj).2)
 have HCC0:Hid (t.body=[]→∀ w2:World,Below w.heap.size w w2→Calls Tryz.prog 40 #[u] w2 fun e w'=>e=.returned (.slice none 0 0)∧Below w2.heap.size w2 w'):=fun h0 w2 hb2=>by
  refine (HC w2 hb2).mono ?_
  rintro e w' ⟨v',zs,us',rfl,_,_,_,_,h1,_,_,h2⟩
  rw[h1 h0]
  exact⟨rfl,h2⟩
 have HCC1:Hid (t.body≠[]→∀ w2:World,Below w.heap.size w w2→Calls Tryz.prog 40 #[u] w2 fun e w'=>∃ (g2 cap2:Nat) (zs:List R.Tree) (us':List Value),e=.returned (.slice (some ⟨g2,0,none⟩) zs.length cap2)∧zs.map R.Tree.x=R.flatL t.body∧us'.length=zs.length∧(zs.length:Int)≤R.sizeL t.body∧(∀ u∈us',u.oneCell'=true)∧0<zs.length∧w'.ownsRow w2.heap.size 49 9 (.slice (some ⟨g2,0,none⟩) zs.length cap2) zs.length (rowLn zs us')∧Below w2.heap.size w2 w'):=fun h0 w2 hb2=>by
  refine (HC w2 hb2).mono ?_
  rintro e w' ⟨v',zs,us',rfl,h1f,h1,h2,h3,_,h4,h5,h6⟩
  have h7:=h4 h0
  obtain⟨g2,cap2,rfl,_,_⟩:=h5.form h7
  exact⟨g2,cap2,zs,us',rfl,h1f,h1,h2,h3,h7,h5,h6⟩
 have hr:=hide hr0
 have hsb:=R.sizeL_nn t.body
 clear HC hr0 hch
 go_enter Tryz.func40,Tryz.ntmps40
 go_wp2
 go_loopw [3,4] (fun o i wr=>(i=.int .i64 0∧o=.slice none 0 0∧wr=w)∨(i=.int .i64 1∧∃ (ys:List R.Tree) (us:List Value),Hid (ys.map R.Tree.x=t.x::R.flatL t.body)∧us.length=ys.length∧(ys.length:Int)≤1+R.sizeL t.body∧wr.ownsRow w.heap.size 49 9 o ys.length (rowLn ys us)∧Below w.heap.size w wr)) (fun _ i _=>1-(intOf i).toNat)
 case atStart=>exact Or.inl ⟨rfl,rfl,rfl⟩
 case round =>
  rcases hrel with ⟨rfl,rfl,rfl⟩ | ⟨rfl,ys,us,HX,hul,hyl,hown,hbel⟩
  ·have HOW:Hid (wr.ownsRow wr.heap.size 49 9 (.slice none 0 0) 0 (rowLn [] [])):=World.ownsRow_nil _ _ _ _
   go_wp2_with (first
    | (refine wpList_load_lnAt (.tmp 17) rfl rfl b (k*9) t.x u rfl hr.out ?_)
    | (at_builtin;refine wpList_append_lies _ rfl (.tmp 14) (.tmp 19) 44 rfl wr.heap.size 49 i0 (.agg (lnCells R.z0 (.slice none 0 0))) 9 120 Tryz.underlying44 hi hz0 hz1 hz2 rfl (by decide) _ _ _ rfl (HOW.out.alloc _) ⟨wr.heap.size,0,none⟩ 1 1 (lnCells t.x u).toList rfl rfl ?c1 ?c2 (by decide) ?c3 ?c4 ?c5 _ rfl ?_))
   case c1=>exact World.news_of_block (t:=49) (fr:=(0,0)) (heap_alloc_new wr _)
   case c2=>exact lnCells_one _ _ hone
   case c3=>unfold maxLen;omega
   case c4=>omega
   case c5=>simp
   intro g1 cap1 w1 hown1 hgrow hat hlt1
   have hb1:Below wr.heap.size wr w1:=grown_row (Below.refl _ _) ((Below.refl _ _).alloc (Nat.le_refl _) _) HOW.out hgrow
   have c8:=(hb1.cell (p:=⟨b,k*9+8,none⟩) hblt).trans C8.out
   have hw1:=hb1.size
   have HOW1:Hid (w1.ownsRow wr.heap.size 49 9 (.slice (some ⟨g1,0,none⟩) 1 cap1) 1 (rowLn [t] [u])):=by
    unfold Hid;simpa [rowLn] using hown1
   clear hown1 hgrow hat
   by_cases hz:t.body=[]
   ·have HC0:=hide (HCC0.out hz)
    have HFN:Hid (R.flatL t.body=[]):=by unfold Hid;rw[hz];simp[R.flatL]
    clear HCC0 HCC1
    go_wp2_with (first
     | (go_at_call 40;refine (HC0.out _ hb1).mono ?_;rintro e w2 ⟨rfl,hbm⟩;have hb2:Below wr.heap.size wr w2:=hb1.trans (hbm.mono hw1);have HOW3:Hid (w2.ownsRow wr.heap.size 49 9 (.slice (some ⟨g1,0,none⟩) 1 cap1) 1 (rowLn [t] [u])):=ownsRow_keep HOW1.out (fun j hj=>hbm.block j (HOW1.out.lt j hj).2))
     | (at_builtin;refine wpList_append_own_none rfl (.tmp 27) (.tmp 28) 44 rfl wr.heap.size 49 i0 9 Tryz.underlying44 hi _ _ _ rfl HOW3.out rfl ?_))
    go_roundw
    case rel=>exact Or.inr ⟨rfl,[t],[u],by unfold Hid;simp[HFN.out],rfl,by simp;omega,by simpa using HOW3.out,hb2⟩
    case measure=>simp[intOf]
   ·have HC1:=hide (HCC1.out hz)
    clear HCC0 HCC1
    go_wp2_with (first
     | (go_at_call 40;refine (HC1.out _ hb1).mono ?_;rintro e w2 ⟨g2,cap2,zs,us',rfl,hfl2,hul,hzl,huo,hzp,hown2,hbm⟩;have hb2:Below wr.heap.size wr w2:=hb1.trans (hbm.mono hw1);have HOW3:Hid (w2.ownsRow wr.heap.size 49 9 (.slice (some ⟨g1,0,none⟩) 1 cap1) 1 (rowLn [t] [u])):=ownsRow_keep HOW1.out (fun j hj=>hbm.block j (HOW1.out.lt j hj).2);have hnw:=hide (hown2.cells (g:=g2) rfl);have hrz:=rowLn_length zs us' hul;clear hown2)
     | (at_builtin;refine wpList_append_lies _ rfl (.tmp 27) (.tmp 28) 44 rfl wr.heap.size 49 i0 (.agg (lnCells R.z0 (.slice none 0 0))) 9 120 Tryz.underlying44 hi hz0 hz1 hz2 rfl (by decide) _ _ _ rfl HOW3.out ⟨g2,0,none⟩ zs.length cap2 (rowLn zs us') rfl hrz hnw.out ?e2 hzp ?e3 ?e4 ?e5 _ rfl ?_))
    case e2=>exact rowLn_one _ _ huo
    case e3=>unfold maxLen;omega
    case e4=>omega
    case e5=>exact hb2.size
    intro g3 cap3 w3 hown4 hgrow4 hat4 hlt4
    have hb3:Below wr.heap.size wr w3:=hb2.grown hgrow4 hb2.size (fun j hj=>(HOW3.out.lt j hj).1)
    have HOW4:=hide hown4
    clear hown4 hgrow4 hat4
    go_wp2
    go_roundw
    case rel=>exact Or.inr ⟨rfl,[t]++zs,[u]++us',by unfold Hid;rw[List.map_append,hfl2];rfl,by simp[hul],by simp;omega,by
      rw[rowLn_append _ _ _ _ rfl]
      have e1:([t]++zs).length=1+zs.length:=by simp;omega
      rw[e1];exact HOW4.out,hb3⟩
    case measure=>simp[intOf]
  ·go_wp2
   go_ret
   exact⟨_,ys,us,rfl,HX.out,hul,hyl,hown,hbel⟩
theorem pairB_facts {w:World} {g:Nat} {a b:Value} (h:w.heap[g]?=some (.cells #[a,b] 4 (0,0))):w.cell? ⟨g,0,none⟩=some a∧w.cell? ⟨g,1,none⟩=some b∧w.frozen? ⟨g,0,none⟩=false∧w.frozen? ⟨g,1,none⟩=false:=by
 refine⟨by simp[World.cell?,h],by simp[World.cell?,h],by simp[World.frozen?,h],by simp[World.frozen?,h]⟩
theorem three (p s:Bool):p=true∨(p=false∧s=false)∨(p=false∧s=true):=by cases p<;>cases s<;>simp
theorem four (q s t:Bool):q=true∨(q=false∧s=true)∨(q=false∧s=false∧t=false)∨(q=false∧s=false∧t=true):=by cases q<;>cases s<;>cases t<;>simp
theorem ts_snoc (ts:List R.Th) (k:Nat) (h:k<ts.length):ts.take (k+1)=ts.take k++[ts[k]]:=List.take_succ_eq_append_getElem h
theorem ys_snoc (ys:List R.Tree) (k:Nat) (h:k<ys.length):(ys.take (k+1)).map R.Tree.x=(ys.take k).map R.Tree.x++[ys[k].x]:=by rw[List.take_succ_eq_append_getElem h,List.map_append];rfl
def TI (v:Int) (ts:List R.Th) (b0 b1 p q:Bool):Prop:=b0=R.anyB (R.hasV v) 0 ts∧b1=R.anyB (R.hasV v) 1 ts∧p=R.anyV (R.weakX v) ts∧q=R.anyV (R.smallX v) ts
def TJ (v:Int) (ts:List R.Th) (bl:Int) (xs:List R.Lh) (b0 b1 p q:Bool):Prop :=
 b0=(R.anyB (R.hasV v) 0 ts||(bl==0&&xs.any (R.hasV v)))∧b1=(R.anyB (R.hasV v) 1 ts||(bl==1&&xs.any (R.hasV v)))∧p=(R.anyV (R.weakX v) ts||xs.any (R.weakX v))∧q=(R.anyV (R.smallX v) ts||xs.any (R.smallX v))
theorem TJ_start {v:Int} {ts:List R.Th} {bl:Int} {b0 b1 p q:Bool} (h:TI v ts b0 b1 p q):TJ v ts bl [] b0 b1 p q:=by
 obtain⟨h1,h2,h3,h4⟩:=h
 exact⟨by simp[h1],by simp[h2],by simp[h3],by simp[h4]⟩
theorem TJ_no {v:Int} {ts:List R.Th} {bl:Int} {xs:List R.Lh} {b0 b1 p q:Bool} (h:TJ v ts bl xs b0 b1 p q) (x:R.Lh) (hx:¬ x.var=v):TJ v ts bl (xs++[x]) b0 b1 p q:=by
 obtain⟨h1,h2,h3,h4⟩:=h
 have hv:(x.var==v)=false:=by simpa using hx
 exact⟨by simp[h1,R.hasV,hv],by simp[h2,R.hasV,hv],by simp[h3,R.weakX,hv],by simp[h4,R.smallX,hv]⟩
theorem TJ_yes {v:Int} {ts:List R.Th} {bl:Int} {xs:List R.Lh} {b0 b1 p q:Bool} (h:TJ v ts bl xs b0 b1 p q) (x:R.Lh) (hx:x.var=v):TJ v ts bl (xs++[x]) (b0||bl==0) (b1||bl==1) (p||x.ord.toList==[119,101,97,107]) (q||x.scope.toList==[98,108,111,99,107]||x.ord.toList==[97,99,113,114,101,108]):=by
 obtain⟨h1,h2,h3,h4⟩:=h
 refine⟨?_,?_,?_,?_⟩
 ·subst h1;simp only[List.any_append,List.any_cons,List.any_nil,R.hasV,hx];cases bl==0<;>simp
 ·subst h2;simp only[List.any_append,List.any_cons,List.any_nil,R.hasV,hx];cases bl==1<;>simp
 ·subst h3;simp only[List.any_append,List.any_cons,List.any_nil,R.weakX,hx,oW];simp[Bool.or_assoc]
 ·subst h4;simp only[List.any_append,List.any_cons,List.any_nil,R.smallX,hx,R.lBlock,oQ];simp[Bool.or_assoc]
theorem TJ_end {v:Int} {ts:List R.Th} {t:R.Th} {b0 b1 p q:Bool} (h:TJ v ts t.block (R.flatL t.body) b0 b1 p q):TI v (ts++[t]) b0 b1 p q:=by
 obtain⟨h1,h2,h3,h4⟩:=h
 exact⟨by simp[h1,R.anyB],by simp[h2,R.anyB],by simp[h3,R.anyV],by simp[h4,R.anyV]⟩
theorem ThsAt.getA2 {w:World} {B bt n cap:Nat} {ts:List R.Th} {vs:List Value} {Fs:List (List Nat)} (h:ThsAt w B (.slice (some ⟨bt,0,none⟩) n cap) ts vs Fs) (hn:n=ts.length) (hs:∀ t∈ts,R.sizeL t.body≤8) (k:Nat) (hk:k<ts.length) :
  bt<w.heap.size∧∃ u,w.cell? ⟨bt,k*3,none⟩=some (.int .i64 ts[k].block)∧w.cell? ⟨bt,k*3+1,none⟩=some u ∧
   Hid (∀ w2:World,Below w.heap.size w w2→Calls Tryz.prog 40 #[u] w2 fun e w'=>∃ (v':Value) (ys:List R.Tree) (us:List Value),e=.returned v'∧ys.map R.Tree.x=R.flatL ts[k].body∧us.length=ys.length∧(ys.length:Int)≤8∧w'.ownsRow w2.heap.size 49 9 v' ys.length (rowLn ys us)∧Below w2.heap.size w2 w'):=by
 have hv:k<vs.length:=by rw[h.lv];exact hk
 have hF:k<Fs.length:=by rw[h.lF];exact hk
 have ho:=h.own
 rw[← hn] at ho
 obtain⟨c0,c1,c2⟩:=thCells_at ts vs h.lv k ts[k] vs[k] (by simp[hk]) (by simp[hv])
 refine⟨(ho.lt bt rfl).2,vs[k],?_,?_,?_⟩
 ·rw[ho.cellAt _ (by omega)];exact c0
 ·rw[ho.cellAt _ (by omega)];exact c1
 ·intro w2 hb
  have L:=h.kid k ts[k] vs[k] Fs[k] (by simp[hk]) (by simp[hv]) (by simp[hF])
  have h8:=hs _ (List.getElem_mem hk)
  refine (all2_any L (by omega) w2 (fun j hj=>hb.block j (L.bound j hj).2)).mono ?_
  rintro e w' ⟨v',ys,us,rfl,h0,h1,h2,h3,h4,h4b,h5,h6⟩
  exact⟨v',ys,us,rfl,h0,h1,by omega,h5,h6⟩
set_option maxHeartbeats 6400000 in
theorem touched2_any (B bt n cap:Nat) (x:Int) (ts:List R.Th) (vs:List Value) (Fs:List (List Nat)) (w:World) (h:ThsAt w B (.slice (some ⟨bt,0,none⟩) n cap) ts vs Fs) (hn:n=ts.length) (hnb:n<10) (hs:∀ t∈ts,R.sizeL t.body≤8) (hb:∀ t∈ts,t.block=0∨t.block=1) :
  Calls Tryz.prog 20 #[.slice (some ⟨bt,0,none⟩) n cap,.int .i64 x] w fun e w'=>e=.returned (.tuple #[.slice (some ⟨w.heap.size,0,none⟩) 2 2,.bool (R.anyV (R.weakX x) ts),.bool (R.anyV (R.smallX x) ts)])∧w'.heap[w.heap.size]?=some (.cells #[.bool (R.anyB (R.hasV x) 0 ts),.bool (R.anyB (R.hasV x) 1 ts)] 4 (0,0))∧Below w.heap.size w w':=by
 have HA:=hide h
 have HN:=hide hn
 have HS:=hide hs
 have HB:=hide hb
 clear h hn hs hb
 have hmk:∀ w,(Instr.makeSlice 60 (.int .i64 2) (.int .i64 2)).run Tryz.prog w=.ok (.slice (some ⟨w.heap.size,0,none⟩) 2 2) (w.alloc (.cells #[.bool false,.bool false] 4)):=fun _=>by kernel_rfl
 go_enter Tryz.func20,Tryz.ntmps20
 go_wp2
 go_loopw [8,9,10] (fun p q i wr=>∃ (k:Nat) (b0 b1 p' q':Bool),k≤n∧i=.int .i64 k∧p=.bool p'∧q=.bool q'∧Hid (TI x (ts.take k) b0 b1 p' q')∧wr.heap[w.heap.size]?=some (.cells #[.bool b0,.bool b1] 4 (0,0))∧Below w.heap.size w wr) (fun _ _ i _=>n-(intOf i).toNat)
 case atStart=>exact⟨0,false,false,false,false,Nat.zero_le _,rfl,rfl,rfl,by unfold Hid;simp[TI,R.anyB,R.anyV],heap_alloc_new w _,(Below.refl _ _).alloc (Nat.le_refl _) _⟩
 case round =>
  obtain⟨k,b0,b1,p',q',hk,rfl,rfl,rfl,HTI,hcur,hbel⟩:=hrel
  by_cases hlt:k<n
  ·have hkl:k<ts.length:=by rw[← HN.out];exact hlt
   obtain⟨hbt,u,c0,c1,HC⟩:=HA.out.getA2 HN.out HS.out k hkl
   have hblk:=HB.out ts[k] (List.getElem_mem hkl)
   have hin:(k:Int)<(n:Int):=by omega
   have HSN:=hide (ts_snoc ts k hkl)
   generalize ts[k]=t at *
   have d1:=(hbel.cell (p:=⟨bt,k*3+1,none⟩) hbt).trans c1
   have hws:w.heap.size<wr.heap.size:=(Array.getElem?_eq_some_iff.1 hcur).1
   go_wp2_with (first | (go_at_call 40;refine (HC.out _ hbel).mono ?_;rintro e w1 ⟨v',ys,us,rfl,hfl,hul,hyl,hown,hb1⟩))
   have hsv:∃ a c,v'=.slice a ys.length c∧(0<ys.length→∃ b,a=some ⟨b,0,none⟩∧b<w1.heap.size∧wr.heap.size≤b):=by
    rcases hown.2 with ⟨e,h0⟩ | ⟨k,c,cur,e,hb,hg,_⟩
    ·exact⟨none,0,by rw[e,h0],fun h=>by omega⟩
    ·exact⟨_,c,e,fun _=>⟨k,rfl,(Array.getElem?_eq_some_iff.1 hg).1,hb⟩⟩
   obtain⟨sa,sc,rfl,hsa⟩:=hsv
   have q3:=(hb1.block w.heap.size hws).trans hcur
   have hbw:Below w.heap.size w w1:=hbel.trans (hb1.mono (by omega))
   have HOW:=hide hown
   have HBW:=hide hbw
   have hw1:=hb1.size
   have hyn:ys.length<10:=by omega
   have C0:=hide c0
   clear hown hb1 hbw d1 c0 c1 HC hbel hcur
   have HFL:=hide hfl
   clear hfl
   go_loopw [8,9,12] (fun p q j w2=>∃ (m:Nat) (b0 b1 p' q':Bool),m≤ys.length∧j=.int .i64 m∧p=.bool p'∧q=.bool q'∧Hid (TJ x (ts.take k) t.block ((ys.take m).map R.Tree.x) b0 b1 p' q')∧w2.heap[w.heap.size]?=some (.cells #[.bool b0,.bool b1] 4 (0,0))∧(∀ i,i<w1.heap.size→i≠w.heap.size→w2.heap[i]?=w1.heap[i]?)∧Below w.heap.size w w2) (fun _ _ j _=>ys.length-(intOf j).toNat)
   case atStart=>exact⟨0,b0,b1,p',q',Nat.zero_le _,rfl,rfl,rfl,by unfold Hid;exact TJ_start HTI.out,q3,fun _ _ _=>rfl,HBW.out⟩
   case round =>
    clear HTI
    obtain⟨m,b0,b1,p',q',hm,rfl,rfl,rfl,HTJ,hcur,hkeep,hbel⟩:=hrel
    by_cases hml:m<ys.length
    ·obtain⟨b,rfl,hblt,hbge⟩:=hsa (by omega)
     have hmi:(m:Int)<(ys.length:Int):=by omega
     have hmu:m<us.length:=by omega
     have CE:=LinesAt.line HOW.out rfl hul m hml us[m] (by simp[hmu])
     have hkb:=hkeep b hblt (by omega)
     have cc:∀ j,j<9→wr.cell? ⟨b,m*9+j,none⟩=(lnCells ys[m].x us[m])[j]?:=fun j hj=>(World.cell?_of_block (w:=w1) (a:=⟨b,m*9+j,none⟩) hkb).trans (CE j hj)
     have e2:=cc 2 (by omega)
     have e6:=cc 6 (by omega)
     have e7:=cc 7 (by omega)
     simp[lnCells] at e2 e6 e7
     have d0:=(hbel.cell (p:=⟨bt,k*3,none⟩) hbt).trans C0.out
     obtain⟨p1,p2,p3,p4⟩:=pairB_facts hcur
     have hne:bt≠w.heap.size:=by omega
     have hne2:b≠w.heap.size:=by omega
     have HYS:=hide (ys_snoc ys m hml)
     generalize ys[m]=y at *
     clear cc CE
     by_cases hx:y.x.var=x
     ·rcases hblk with hbk | hbk
      ·rw[hbk] at d0
       have s6:=fun u':Value=>(cell_set_ne (w:=wr) (g:=w.heap.size) (i:=0) (b:=b) (o:=m*9+6) (u:=u') hne2).trans e6
       have s7:=fun u':Value=>(cell_set_ne (w:=wr) (g:=w.heap.size) (i:=0) (b:=b) (o:=m*9+7) (u:=u') hne2).trans e7
       have fin:Hid ((wr.setCell ⟨w.heap.size,0,none⟩ (.bool true)).heap[w.heap.size]?=some (.cells #[.bool true,.bool b1] 4 (0,0))∧(∀ i,i<w1.heap.size→i≠w.heap.size→(wr.setCell ⟨w.heap.size,0,none⟩ (.bool true)).heap[i]?=w1.heap[i]?)∧Below w.heap.size w (wr.setCell ⟨w.heap.size,0,none⟩ (.bool true))) :=
        ⟨by rw[setCell_block hcur];rfl,fun i h1 h2=>by rw[Below.heap_setCell _ _ _ _ h2];exact hkeep i h1 h2,hbel.setCell (Nat.le_refl _) _⟩
       rcases three p' (y.x.ord.toList==[119,101,97,107]) with hp | ⟨hp,hs1⟩ | ⟨hp,hs1⟩<;>rcases four q' (y.x.scope.toList==[98,108,111,99,107]) (y.x.ord.toList==[97,99,113,114,101,108]) with hq | ⟨hq,hs2⟩ | ⟨hq,hs2,hs3⟩ | ⟨hq,hs2,hs3⟩<;>subst hp<;>subst hq
       all_goals
        go_wp2
        go_roundw
        case rel=>exact⟨m+1,true,b1,_,_,by omega,by go_num,rfl,rfl,by unfold Hid;rw[HYS.out];have hj:=TJ_yes HTJ.out y.x hx;rw[hbk] at hj ⊢;(first | (simp only[hs1] at hj) | skip);(first | (simp only[hs2,hs3] at hj) | (simp only[hs2] at hj) | skip);simpa using hj,fin.out.1,fin.out.2.1,fin.out.2.2⟩
        case measure=>simp[intOf];omega
      ·rw[hbk] at d0
       have s6:=fun u':Value=>(cell_set_ne (w:=wr) (g:=w.heap.size) (i:=1) (b:=b) (o:=m*9+6) (u:=u') hne2).trans e6
       have s7:=fun u':Value=>(cell_set_ne (w:=wr) (g:=w.heap.size) (i:=1) (b:=b) (o:=m*9+7) (u:=u') hne2).trans e7
       have fin:Hid ((wr.setCell ⟨w.heap.size,1,none⟩ (.bool true)).heap[w.heap.size]?=some (.cells #[.bool b0,.bool true] 4 (0,0))∧(∀ i,i<w1.heap.size→i≠w.heap.size→(wr.setCell ⟨w.heap.size,1,none⟩ (.bool true)).heap[i]?=w1.heap[i]?)∧Below w.heap.size w (wr.setCell ⟨w.heap.size,1,none⟩ (.bool true))) :=
        ⟨by rw[setCell_block hcur];rfl,fun i h1 h2=>by rw[Below.heap_setCell _ _ _ _ h2];exact hkeep i h1 h2,hbel.setCell (Nat.le_refl _) _⟩
       rcases three p' (y.x.ord.toList==[119,101,97,107]) with hp | ⟨hp,hs1⟩ | ⟨hp,hs1⟩<;>rcases four q' (y.x.scope.toList==[98,108,111,99,107]) (y.x.ord.toList==[97,99,113,114,101,108]) with hq | ⟨hq,hs2⟩ | ⟨hq,hs2,hs3⟩ | ⟨hq,hs2,hs3⟩<;>subst hp<;>subst hq
       all_goals
        go_wp2
        go_roundw
        case rel=>exact⟨m+1,b0,true,_,_,by omega,by go_num,rfl,rfl,by unfold Hid;rw[HYS.out];have hj:=TJ_yes HTJ.out y.x hx;rw[hbk] at hj ⊢;(first | (simp only[hs1] at hj) | skip);(first | (simp only[hs2,hs3] at hj) | (simp only[hs2] at hj) | skip);simpa using hj,fin.out.1,fin.out.2.1,fin.out.2.2⟩
        case measure=>simp[intOf];omega
     ·have hx':(y.x.var==x)=false:=by simpa using hx
      go_wp2
      go_roundw
      case rel=>exact⟨m+1,b0,b1,p',q',by omega,by go_num,rfl,rfl,by unfold Hid;rw[HYS.out];exact TJ_no HTJ.out y.x hx,hcur,hkeep,hbel⟩
      case measure=>simp[intOf];omega
    ·have HNX:Hid (TI x (ts.take (k+1)) b0 b1 p' q'):=by
      have h1:=HTJ.out
      have e1:ys.take m=ys:=List.take_of_length_le (by omega)
      rw[e1,HFL.out] at h1
      unfold Hid;rw[HSN.out];exact TJ_end h1
     go_wp2
     go_roundw
     case rel=>exact⟨k+1,b0,b1,p',q',by omega,by go_num,rfl,rfl,HNX,hcur,hbel⟩
     case measure=>simp[intOf];omega
  ·have HFI:=HTI.out
   have e1:ts.take k=ts:=List.take_of_length_le (by have:=HN.out;omega)
   rw[e1] at HFI
   obtain⟨t1,t2,t3,t4⟩:=HFI
   subst t1 t2 t3 t4
   go_wp2
   go_ret3
   exact⟨rfl,hcur,hbel⟩
end Go.Proofs.YtpkjmdcabdplfaaGreatDoor
