import Derived.BigGuard
import Derived.Deep.Cut
import Derived.Test.YtpkjmdcabdplfaaGreatDoorB31
set_option linter.unusedVariables false
set_option linter.unusedSimpArgs false
namespace Go.Proofs.YtpkjmdcabdplfaaGreatDoor
open Go Go.RowKit
set_option maxRecDepth 100000
theorem LinesAt.base {w:World} {B B':Nat} {v:Value} {l:List R.Tree} {F:List Nat} (h:LinesAt w B v l F) (hb:B'≤B):LinesAt w B' v l F:=by
 induction h using LinesAt.ind with
 | @row v l vs Fs ho hv hF hc hn ih=>exact .row (own_base ho hb) hv hF (fun i t u F ht hu hf=>ih i t u F ht hu hf) hn
theorem lines_app {w wr W w1:World} {o:Value} {l b:List R.Tree} {F G:List Nat} {x:R.Lh} {bv:Value} {B' g1 cap1 n:Nat} {xs:List Value}
  (ho:LinesAt wr w.heap.size o l F) (hbw:w.heap.size≤wr.heap.size) (hW:Below wr.heap.size wr W) (hB:wr.heap.size≤B') (hc:LinesAt W B' bv b G) (hgrow:W.grownBy w1 o.ownBlock) (hn:l.length=n)
  (hxs:wr.ownsRow w.heap.size 49 9 o n xs) (hown1:w1.ownsRow w.heap.size 49 9 (.slice (some ⟨g1,0,none⟩) (n+1) cap1) (n+1) (xs++(lnCells x bv).toList)) (hat:o.ownBlock=some g1∨g1=W.heap.size) :
  ∃ F',LinesAt w1 w.heap.size (.slice (some ⟨g1,0,none⟩) (n+1) cap1) (l++[.mk x b]) F':=by
 subst hn
 have hb1:=ho.bound
 have hb2:=hc.bound
 have h2:=hW.size
 have hoW:LinesAt W w.heap.size o l F:=ho.keep (fun k hk=>hW.block k (hb1 k hk).2)
 have hcW:LinesAt W w.heap.size bv b G:=hc.base (by omega)
 obtain⟨F',hF',_⟩:=LinesAt.snoc (w':=w1) (v':=.slice (some ⟨g1,0,none⟩) (l.length+1) cap1) (x:=x) hoW hcW (fun k hk hg=>by have:=(hb1 k hk).2;have:=(hb2 k hg).1;omega) (fun vs hvs=>by
  have hxW:W.ownsRow w.heap.size 49 9 o l.length xs:=ownsRow_keep hxs (fun j hj=>hW.block j (hxs.lt j hj).2)
  rw[own_one hvs hxW];exact hown1) (fun k hk hne=>by
  refine hgrow.block k ?_ hne
  rcases hk with hk | hk
  ·have:=(hb1 k hk).2;omega
  ·exact (hb2 k hk).2) (by
  rcases hat with ha | ha
  ·left;rw[ha];rfl
  ·right;intro k hk;simp[Value.ownBlock] at hk;omega)
 exact⟨F',hF'⟩
theorem narL_append (f:R.Lh→R.Lh) (a b:List R.Tree):R.narL f (a++b)=R.narL f a++R.narL f b:=by
 induction a with
 | nil=>simp[R.narL]
 | cons t r ih=>cases t with
  | mk x c=>simp[R.narL,ih]
theorem narL_len (f:R.Lh→R.Lh) (l:List R.Tree):(R.narL f l).length=l.length:=by
 induction l with
 | nil=>simp[R.narL]
 | cons t r ih=>cases t with
  | mk x c=>simp[R.narL,ih]
theorem narL_snoc (f:R.Lh→R.Lh) (l:List R.Tree) (k:Nat) (h:k<l.length):R.narL f (l.take (k+1))=R.narL f (l.take k)++[.mk (f l[k].x) (R.narL f l[k].body)]:=by
 rw[List.take_succ_eq_append_getElem h,narL_append]
 cases l[k] with
 | mk x c=>simp[R.narL]
def one3 (o0 o1 o2:Bool) (v:Int):Bool:=if v=0 then o0 else if v=1 then o1 else o2
def Tri (w:World) (g:Nat) (o0 o1 o2:Bool):Prop:=w.heap[g]?=some (.cells #[.bool o0,.bool o1,.bool o2] 4 (0,0))
theorem Tri.cell {w:World} {g:Nat} {o0 o1 o2:Bool} (h:Tri w g o0 o1 o2) (v:Int) (h0:0≤v) (h1:v<3):w.cell? ⟨g,v.toNat,none⟩=some (.bool (one3 o0 o1 o2 v)):=by
 have:v=0∨v=1∨v=2:=by omega
 unfold Tri at h
 rcases this with rfl | rfl | rfl<;>simp[World.cell?,h,one3]
theorem Tri.lt {w:World} {g:Nat} {o0 o1 o2:Bool} (h:Tri w g o0 o1 o2):g<w.heap.size:=(Array.getElem?_eq_some_iff.1 h).1
theorem Tri.keep {w w':World} {g:Nat} {o0 o1 o2:Bool} (h:Tri w g o0 o1 o2) (e:w'.heap[g]?=w.heap[g]?):Tri w' g o0 o1 o2:=by unfold Tri;rw[e];exact h
set_option maxHeartbeats 12800000 in
theorem narrow_any {w0:World} {B:Nat} {v:Value} {l:List R.Tree} {F:List Nat} (h:LinesAt w0 B v l F):R.sizeL l<10000→R.okL l→∀ (w:World) (go:Nat) (o0 o1 o2 bo:Bool),(∀ k∈F,w.heap[k]?=w0.heap[k]?)→Tri w go o0 o1 o2 →
  Calls Tryz.prog 36 #[v,.slice (some ⟨go,0,none⟩) 3 3,.bool bo] w fun e w'=>∃ v' F',e=.returned v'∧LinesAt w' w.heap.size v' (R.narL (R.narX (one3 o0 o1 o2) bo) l) F'∧Below w.heap.size w w':=by
 induction h using LinesAt.ind with
 | @row v l vs Fs ho hv hF hc hnd ih =>
 intro hsz hok w go o0 o1 o2 bo hk htri
 obtain⟨i0,hi,hz0,hz1,hz2⟩:=info_parts Tryz.infoLn
 have hbd0:=(LinesAt.row ho hv hF hc hnd).bound
 have hlt:∀ k∈v.ownBlock.toList++Fs.flatten,k<w.heap.size:=fun k hkF=>by
  have h1:=(hbd0 k hkF).2
  have h2:=hk k hkF
  rw[Array.getElem?_eq_getElem h1] at h2
  exact (Array.getElem?_eq_some_iff.1 h2).1
 have how:w.ownsRow B 49 9 v l.length (rowLn l vs):=ownsRow_keep ho (fun k e=>hk k (by simp[e]))
 have hsv:∃ a c,v=.slice a l.length c∧(0<l.length→∃ b,a=some ⟨b,0,none⟩∧b<w.heap.size):=by
  rcases how.2 with ⟨e,h0⟩ | ⟨k,c,cur,e,_⟩
  ·exact⟨none,0,by rw[e,h0],fun h=>by omega⟩
  ·exact⟨_,c,e,fun _=>⟨k,rfl,(how.lt k (by rw[e];rfl)).2⟩⟩
 obtain⟨sa,sc,rfl,hsa⟩:=hsv
 have hlen:=R.size_len l
 have HO:=hide how
 have HIH:=hide ih
 have HK:=hide hk
 have HLT:=hide hlt
 have HV:=hide hv
 have HF:=hide hF
 have HOK:=hide hok
 have HTRI:=hide htri
 have HS:=hide hsz
 have HCC:=hide hc
 have hn:l.length<10000:=by omega
 have hgo:=htri.lt
 generalize hN:l.length=n at *
 have HL:=hide hN
 generalize hff:R.narX (one3 o0 o1 o2) bo=f at *
 have HFF:=hide hff
 clear hN how ih hk hlt hv hF ho hc hnd hbd0 hlen hok htri hff hsz
 go_enter Tryz.func36,Tryz.ntmps36
 go_wp2
 go_loopw [7,8] (fun o i wr=>∃ (k:Nat) (F':List Nat),k≤n∧i=.int .i64 k∧Hid (LinesAt wr w.heap.size o (R.narL f (l.take k)) F')∧Below w.heap.size w wr) (fun _ i _=>n-(intOf i).toNat)
 case atStart=>exact⟨0,[],Nat.zero_le _,rfl,by unfold Hid;simp only[List.take_zero,R.narL];exact LinesAt.nil _ _,Below.refl _ _⟩
 case round =>
  obtain⟨k,F',hk,rfl,HLN,hbel⟩:=hrel
  have hws:=hbel.size
  by_cases hlt:k<n
  ·obtain⟨b,rfl,hblt⟩:=hsa (by omega)
   have hkl:k<l.length:=by rw[HL.out];exact hlt
   have hin:(k:Int)<(n:Int):=by omega
   have hkv:k<vs.length:=by rw[HV.out];exact hlt
   have hkf:k<Fs.length:=by rw[HF.out];exact hlt
   have hr:=hide (rangeAt_keep2 (range_ln HO.out HL.out.symm (by rw[HV.out,HL.out]) k hkl vs[k] (by simp[hkv])) (hbel.block b hblt))
   obtain⟨hfit,hok2⟩:=R.okL_get l HOK.out k hkl
   obtain⟨r0,r1,v0,v1,a0,a1,b0,b1,os,ss⟩:=hfit.ok
   have hsg:=R.sizeL_get l k hkl
   have hsk:=R.sizeL_nn (l.take k)
   have HS1:=HS.out
   have HSN:=hide (narL_snoc f l k hkl)
   have HLL:Hid ((R.narL f (l.take k)).length=k):=by unfold Hid;rw[narL_len];simp;omega
   have HC:Hid (∀ w2:World,Below w.heap.size w w2→Calls Tryz.prog 36 #[vs[k],.slice (some ⟨go,0,none⟩) 3 3,.bool bo] w2 fun e w'=>∃ a3 m3 c3 F',e=.returned (.slice a3 m3 c3)∧LinesAt w' w2.heap.size (.slice a3 m3 c3) (R.narL f l[k].body) F'∧Below w2.heap.size w2 w'):=fun w2 hb2=>by
    refine Calls.mono (R:=fun e w'=>∃ v' F',e=.returned v'∧LinesAt w' w2.heap.size v' (R.narL f l[k].body) F'∧Below w2.heap.size w2 w') ?_ (fun e w' ⟨v',F',h1,h2,h3⟩=>by
     obtain⟨xs3,hx3⟩:=h2.own0
     obtain⟨a3,c3,rfl⟩:=own_formS hx3
     exact⟨a3,_,c3,F',h1,h2,h3⟩)
    rw[← HFF.out]
    refine HIH.out k l[k] vs[k] Fs[k] (by simp[hkl]) (by simp[hkv]) (by simp[hkf]) (by omega) hok2 w2 go o0 o1 o2 bo (fun j hj=>?_) (HTRI.out.keep (hb2.block go hgo))
    have hj':j∈(Value.slice (some ⟨b,0,none⟩) n sc).ownBlock.toList++Fs.flatten:=by
     simp only[List.mem_append,List.mem_flatten]
     exact Or.inr ⟨Fs[k],List.getElem_mem hkf,hj⟩
    rw[hb2.block j (HLT.out j hj'),HK.out j hj']
   obtain⟨xsu,hxu⟩:=(HCC.out k l[k] vs[k] Fs[k] (by simp[hkl]) (by simp[hkv]) (by simp[hkf])).own0
   obtain⟨ua,uc,hu⟩:=own_formS hxu
   obtain⟨xs,hxs⟩:=HLN.out.own0
   rw[HLL.out] at hxs
   have HXS:=hide hxs
   have HBL:=hide hbel
   have htc:=(HTRI.out.keep (hbel.block go hgo))
   have HNB:Hid (R.narL f l[k].body=R.narL f l[k].body):=rfl
   generalize l[k]=t at *
   generalize vs[k]=u at *
   subst hu
   generalize R.narL f t.body=nb at *
   clear HNB hbel hxs hsg hok2 hfit HIH HCC hxu
   by_cases hsE:t.x.scope.toList=[]
   ·skip
    have HFX:Hid (f t.x=t.x):=by unfold Hid;rw[← HFF.out];simp[R.narX,hsE]
    have hs1:t.x.scope.toList.isEmpty=true:=by simp[hsE]
    clear hsE
    go_upto_region 6 with (first | (refine wpList_load_lnAt (.tmp 19) rfl rfl b (k*9) t.x (.slice ua t.body.length uc) rfl hr.out ?_))
    go_wp2_with (first
     | (go_at_call 36;refine (HC.out _ (HBL.out.alloc hws _)).mono ?_;rintro e w3 ⟨a3,m3,c3,F3,rfl,hl3,hb3⟩;have LB:LnAt w3 wr.heap.size t.x (.slice ua t.body.length uc):=(LnAt.new wr t.x (.slice ua t.body.length uc)).below (by exact hb3);obtain⟨f1,f2,s0,s1,s2,s3,s4,s5,s6,s7,s8⟩:=LB.facts;have f28:=f2 8;have hW3:Below wr.heap.size wr w3:=((Below.refl wr.heap.size wr).alloc (Nat.le_refl _) _).trans (hb3.mono (by simp));have LB2:=hide (LB.setBody (.slice a3 m3 c3));have WS:=hide (hW3.setCell (p:=⟨wr.heap.size,8,none⟩) (Nat.le_refl _) (.slice a3 m3 c3));have CS:Hid (LinesAt (w3.setCell ⟨wr.heap.size,8,none⟩ (.slice a3 m3 c3)) (wr.heap.size+1) (.slice a3 m3 c3) (nb) F3):=((hl3.base (by simp)).keep (fun j hj=>Below.heap_setCell _ _ _ _ (fun ej=>by have h1:=(hl3.bound j hj).1;have h2:j=wr.heap.size:=ej;simp at h1;omega)));have hws6:=WS.out.size;clear hl3 LB)
     | (generalize w3.setCell ⟨wr.heap.size,8,none⟩ (.slice a3 m3 c3)=W at *;refine wpList_load_ln (.tmp 9) rfl rfl wr.heap.size t.x (.slice a3 m3 c3) rfl (by exact LB2.out) ?_;simp only[lnCells])
     | (at_builtin;refine wpList_append_lies _ rfl (.tmp 52) (.tmp 54) 44 rfl w.heap.size 49 i0 (.agg (lnCells R.z0 (.slice none 0 0))) 9 120 Tryz.underlying44 hi hz0 hz1 hz2 rfl (by decide) _ _ _ rfl ((ownsRow_keep HXS.out (fun j hj=>WS.out.block j (HXS.out.lt j hj).2)).alloc _) ⟨W.heap.size,0,none⟩ 1 1 (lnCells t.x (.slice a3 m3 c3)).toList rfl rfl ?c1 ?c2 (by decide) ?c3 ?c4 ?c5 _ rfl ?_))
    case c1=>first | exact World.news_of_block (t:=49) (fr:=(0,0)) (heap_alloc_new W _) | (intro j u hj;simpa [lnCells] using hj)
    case c2=>first | exact lnCells_one _ _ rfl | simp[lnCells,Value.oneCell']
    case c3=>unfold maxLen;omega
    case c4=>omega
    case c5=>simp;omega
    intro g1 cap1 w1 hown1 hgrow hat hlt1
    have hW':Below wr.heap.size wr (W.alloc (.cells (lnCells t.x (.slice a3 m3 c3)) 49)):=WS.out.alloc (by omega) _
    have FIN:=hide (grown_row HBL.out hW' HXS.out hgrow)
    have CA:LinesAt (W.alloc (.cells (lnCells t.x (.slice a3 m3 c3)) 49)) (wr.heap.size+1) (.slice a3 m3 c3) (nb) F3:=CS.out.keep (fun j hj=>Below.heap_alloc _ _ _ (CS.out.bound j hj).2)
    obtain⟨F1,hF1⟩:=lines_app (x:=t.x) HLN.out hws hW' (Nat.le_succ _) CA hgrow HLL.out HXS.out hown1 (by simpa using hat)
    have FLN:Hid (LinesAt w1 w.heap.size (.slice (some ⟨g1,0,none⟩) (k+1) cap1) (R.narL f (l.take (k+1))) F1):=by unfold Hid;rw[HSN.out,HFX.out];exact hF1
    clear hown1 hgrow hat HXS HBL hW' LB2 WS CS CA HLN hF1
    go_wp2
    go_roundw
    case rel=>exact⟨k+1,F1,by omega,by go_num,FLN,FIN.out⟩
    case measure=>simp[intOf];omega
   ·have hs1:t.x.scope.toList.isEmpty=false:=by simpa using hsE
    have hs2:=hide (show (t.x.scope.toList != [])=true by simpa using hsE)
    by_cases hv:0≤t.x.var
    ·have hvd:decide (0≤t.x.var)=true:=by simpa using hv
     have hvn:decide (t.x.var<0)=false:=by simpa using hv
     have c1:=htc.cell t.x.var hv v1
     have hgo2:go<wr.heap.size:=by omega
     cases h1:one3 o0 o1 o2 t.x.var
     ·rw[h1] at c1
      have HFX:Hid (f t.x=t.x):=by unfold Hid;rw[← HFF.out];simp[R.narX,h1,hvn]
      clear hsE h1
      go_upto_region 6 with (first | (refine wpList_load_lnAt (.tmp 19) rfl rfl b (k*9) t.x (.slice ua t.body.length uc) rfl hr.out ?_))
      go_wp2_with (first
       | (go_at_call 36;refine (HC.out _ (HBL.out.alloc hws _)).mono ?_;rintro e w3 ⟨a3,m3,c3,F3,rfl,hl3,hb3⟩;have LB:LnAt w3 wr.heap.size t.x (.slice ua t.body.length uc):=(LnAt.new wr t.x (.slice ua t.body.length uc)).below (by exact hb3);obtain⟨f1,f2,s0,s1,s2,s3,s4,s5,s6,s7,s8⟩:=LB.facts;have f28:=f2 8;have hW3:Below wr.heap.size wr w3:=((Below.refl wr.heap.size wr).alloc (Nat.le_refl _) _).trans (hb3.mono (by simp));have LB2:=hide (LB.setBody (.slice a3 m3 c3));have WS:=hide (hW3.setCell (p:=⟨wr.heap.size,8,none⟩) (Nat.le_refl _) (.slice a3 m3 c3));have CS:Hid (LinesAt (w3.setCell ⟨wr.heap.size,8,none⟩ (.slice a3 m3 c3)) (wr.heap.size+1) (.slice a3 m3 c3) (nb) F3):=((hl3.base (by simp)).keep (fun j hj=>Below.heap_setCell _ _ _ _ (fun ej=>by have h1:=(hl3.bound j hj).1;have h2:j=wr.heap.size:=ej;simp at h1;omega)));have hws6:=WS.out.size;clear hl3 LB)
       | (generalize w3.setCell ⟨wr.heap.size,8,none⟩ (.slice a3 m3 c3)=W at *;refine wpList_load_ln (.tmp 9) rfl rfl wr.heap.size t.x (.slice a3 m3 c3) rfl (by exact LB2.out) ?_;simp only[lnCells])
       | (at_builtin;refine wpList_append_lies _ rfl (.tmp 52) (.tmp 54) 44 rfl w.heap.size 49 i0 (.agg (lnCells R.z0 (.slice none 0 0))) 9 120 Tryz.underlying44 hi hz0 hz1 hz2 rfl (by decide) _ _ _ rfl ((ownsRow_keep HXS.out (fun j hj=>WS.out.block j (HXS.out.lt j hj).2)).alloc _) ⟨W.heap.size,0,none⟩ 1 1 (lnCells t.x (.slice a3 m3 c3)).toList rfl rfl ?c1 ?c2 (by decide) ?c3 ?c4 ?c5 _ rfl ?_))
      case c1=>first | exact World.news_of_block (t:=49) (fr:=(0,0)) (heap_alloc_new W _) | (intro j u hj;simpa [lnCells] using hj)
      case c2=>first | exact lnCells_one _ _ rfl | simp[lnCells,Value.oneCell']
      case c3=>unfold maxLen;omega
      case c4=>omega
      case c5=>simp;omega
      intro g1 cap1 w1 hown1 hgrow hat hlt1
      have hW':Below wr.heap.size wr (W.alloc (.cells (lnCells t.x (.slice a3 m3 c3)) 49)):=WS.out.alloc (by omega) _
      have FIN:=hide (grown_row HBL.out hW' HXS.out hgrow)
      have CA:LinesAt (W.alloc (.cells (lnCells t.x (.slice a3 m3 c3)) 49)) (wr.heap.size+1) (.slice a3 m3 c3) (nb) F3:=CS.out.keep (fun j hj=>Below.heap_alloc _ _ _ (CS.out.bound j hj).2)
      obtain⟨F1,hF1⟩:=lines_app (x:=t.x) HLN.out hws hW' (Nat.le_succ _) CA hgrow HLL.out HXS.out hown1 (by simpa using hat)
      have FLN:Hid (LinesAt w1 w.heap.size (.slice (some ⟨g1,0,none⟩) (k+1) cap1) (R.narL f (l.take (k+1))) F1):=by unfold Hid;rw[HSN.out,HFX.out];exact hF1
      clear hown1 hgrow hat HXS HBL hW' LB2 WS CS CA HLN hF1
      go_wp2
      go_roundw
      case rel=>exact⟨k+1,F1,by omega,by go_num,FLN,FIN.out⟩
      case measure=>simp[intOf];omega
     ·rw[h1] at c1
      have HFX:Hid (f t.x={ t.x with scope:=R.bBlock }):=by unfold Hid;rw[← HFF.out];simp[R.narX,h1,hs2.out,hvd]
      clear hsE h1
      go_upto_region 6 with (first | (refine wpList_load_lnAt (.tmp 19) rfl rfl b (k*9) t.x (.slice ua t.body.length uc) rfl hr.out ?_))
      go_wp2_with (first
       | (go_at_call 36;refine (HC.out _ (HBL.out.alloc hws _)).mono ?_;rintro e w3 ⟨a3,m3,c3,F3,rfl,hl3,hb3⟩;have LB:LnAt w3 wr.heap.size { t.x with scope:=R.bBlock } (.slice ua t.body.length uc):=(LnAt.new wr { t.x with scope:=R.bBlock } (.slice ua t.body.length uc)).below (by exact hb3);obtain⟨f1,f2,s0,s1,s2,s3,s4,s5,s6,s7,s8⟩:=LB.facts;have f28:=f2 8;have hW3:Below wr.heap.size wr w3:=((Below.refl wr.heap.size wr).alloc (Nat.le_refl _) _).trans (hb3.mono (by simp));have LB2:=hide (LB.setBody (.slice a3 m3 c3));have WS:=hide (hW3.setCell (p:=⟨wr.heap.size,8,none⟩) (Nat.le_refl _) (.slice a3 m3 c3));have CS:Hid (LinesAt (w3.setCell ⟨wr.heap.size,8,none⟩ (.slice a3 m3 c3)) (wr.heap.size+1) (.slice a3 m3 c3) (nb) F3):=((hl3.base (by simp)).keep (fun j hj=>Below.heap_setCell _ _ _ _ (fun ej=>by have h1:=(hl3.bound j hj).1;have h2:j=wr.heap.size:=ej;simp at h1;omega)));have hws6:=WS.out.size;clear hl3 LB)
       | (generalize w3.setCell ⟨wr.heap.size,8,none⟩ (.slice a3 m3 c3)=W at *;refine wpList_load_ln (.tmp 9) rfl rfl wr.heap.size { t.x with scope:=R.bBlock } (.slice a3 m3 c3) rfl (by exact LB2.out) ?_;simp only[lnCells])
       | (at_builtin;refine wpList_append_lies _ rfl (.tmp 52) (.tmp 54) 44 rfl w.heap.size 49 i0 (.agg (lnCells R.z0 (.slice none 0 0))) 9 120 Tryz.underlying44 hi hz0 hz1 hz2 rfl (by decide) _ _ _ rfl ((ownsRow_keep HXS.out (fun j hj=>WS.out.block j (HXS.out.lt j hj).2)).alloc _) ⟨W.heap.size,0,none⟩ 1 1 (lnCells { t.x with scope:=R.bBlock } (.slice a3 m3 c3)).toList rfl rfl ?c1 ?c2 (by decide) ?c3 ?c4 ?c5 _ rfl ?_))
      case c1=>first | exact World.news_of_block (t:=49) (fr:=(0,0)) (heap_alloc_new W _) | (intro j u hj;simpa [lnCells] using hj)
      case c2=>first | exact lnCells_one _ _ rfl | simp[lnCells,Value.oneCell']
      case c3=>unfold maxLen;omega
      case c4=>omega
      case c5=>simp;omega
      intro g1 cap1 w1 hown1 hgrow hat hlt1
      have hW':Below wr.heap.size wr (W.alloc (.cells (lnCells { t.x with scope:=R.bBlock } (.slice a3 m3 c3)) 49)):=WS.out.alloc (by omega) _
      have FIN:=hide (grown_row HBL.out hW' HXS.out hgrow)
      have CA:LinesAt (W.alloc (.cells (lnCells { t.x with scope:=R.bBlock } (.slice a3 m3 c3)) 49)) (wr.heap.size+1) (.slice a3 m3 c3) (nb) F3:=CS.out.keep (fun j hj=>Below.heap_alloc _ _ _ (CS.out.bound j hj).2)
      obtain⟨F1,hF1⟩:=lines_app (x:={ t.x with scope:=R.bBlock }) HLN.out hws hW' (Nat.le_succ _) CA hgrow HLL.out HXS.out hown1 (by simpa using hat)
      have FLN:Hid (LinesAt w1 w.heap.size (.slice (some ⟨g1,0,none⟩) (k+1) cap1) (R.narL f (l.take (k+1))) F1):=by unfold Hid;rw[HSN.out,HFX.out];exact hF1
      clear hown1 hgrow hat HXS HBL hW' LB2 WS CS CA HLN hF1
      go_wp2
      go_roundw
      case rel=>exact⟨k+1,F1,by omega,by go_num,FLN,FIN.out⟩
      case measure=>simp[intOf];omega
    ·have hvd:decide (0≤t.x.var)=false:=by simpa using hv
     have hvn:decide (t.x.var<0)=true:=by simpa using hv
     cases bo
     ·skip
      have HFX:Hid (f t.x={ t.x with scope:=R.bBlock }):=by unfold Hid;rw[← HFF.out];simp[R.narX,hs2.out,hvn]
      clear hsE
      go_upto_region 6 with (first | (refine wpList_load_lnAt (.tmp 19) rfl rfl b (k*9) t.x (.slice ua t.body.length uc) rfl hr.out ?_))
      go_wp2_with (first
       | (go_at_call 36;refine (HC.out _ (HBL.out.alloc hws _)).mono ?_;rintro e w3 ⟨a3,m3,c3,F3,rfl,hl3,hb3⟩;have LB:LnAt w3 wr.heap.size { t.x with scope:=R.bBlock } (.slice ua t.body.length uc):=(LnAt.new wr { t.x with scope:=R.bBlock } (.slice ua t.body.length uc)).below (by exact hb3);obtain⟨f1,f2,s0,s1,s2,s3,s4,s5,s6,s7,s8⟩:=LB.facts;have f28:=f2 8;have hW3:Below wr.heap.size wr w3:=((Below.refl wr.heap.size wr).alloc (Nat.le_refl _) _).trans (hb3.mono (by simp));have LB2:=hide (LB.setBody (.slice a3 m3 c3));have WS:=hide (hW3.setCell (p:=⟨wr.heap.size,8,none⟩) (Nat.le_refl _) (.slice a3 m3 c3));have CS:Hid (LinesAt (w3.setCell ⟨wr.heap.size,8,none⟩ (.slice a3 m3 c3)) (wr.heap.size+1) (.slice a3 m3 c3) (nb) F3):=((hl3.base (by simp)).keep (fun j hj=>Below.heap_setCell _ _ _ _ (fun ej=>by have h1:=(hl3.bound j hj).1;have h2:j=wr.heap.size:=ej;simp at h1;omega)));have hws6:=WS.out.size;clear hl3 LB)
       | (generalize w3.setCell ⟨wr.heap.size,8,none⟩ (.slice a3 m3 c3)=W at *;refine wpList_load_ln (.tmp 9) rfl rfl wr.heap.size { t.x with scope:=R.bBlock } (.slice a3 m3 c3) rfl (by exact LB2.out) ?_;simp only[lnCells])
       | (at_builtin;refine wpList_append_lies _ rfl (.tmp 52) (.tmp 54) 44 rfl w.heap.size 49 i0 (.agg (lnCells R.z0 (.slice none 0 0))) 9 120 Tryz.underlying44 hi hz0 hz1 hz2 rfl (by decide) _ _ _ rfl ((ownsRow_keep HXS.out (fun j hj=>WS.out.block j (HXS.out.lt j hj).2)).alloc _) ⟨W.heap.size,0,none⟩ 1 1 (lnCells { t.x with scope:=R.bBlock } (.slice a3 m3 c3)).toList rfl rfl ?c1 ?c2 (by decide) ?c3 ?c4 ?c5 _ rfl ?_))
      case c1=>first | exact World.news_of_block (t:=49) (fr:=(0,0)) (heap_alloc_new W _) | (intro j u hj;simpa [lnCells] using hj)
      case c2=>first | exact lnCells_one _ _ rfl | simp[lnCells,Value.oneCell']
      case c3=>unfold maxLen;omega
      case c4=>omega
      case c5=>simp;omega
      intro g1 cap1 w1 hown1 hgrow hat hlt1
      have hW':Below wr.heap.size wr (W.alloc (.cells (lnCells { t.x with scope:=R.bBlock } (.slice a3 m3 c3)) 49)):=WS.out.alloc (by omega) _
      have FIN:=hide (grown_row HBL.out hW' HXS.out hgrow)
      have CA:LinesAt (W.alloc (.cells (lnCells { t.x with scope:=R.bBlock } (.slice a3 m3 c3)) 49)) (wr.heap.size+1) (.slice a3 m3 c3) (nb) F3:=CS.out.keep (fun j hj=>Below.heap_alloc _ _ _ (CS.out.bound j hj).2)
      obtain⟨F1,hF1⟩:=lines_app (x:={ t.x with scope:=R.bBlock }) HLN.out hws hW' (Nat.le_succ _) CA hgrow HLL.out HXS.out hown1 (by simpa using hat)
      have FLN:Hid (LinesAt w1 w.heap.size (.slice (some ⟨g1,0,none⟩) (k+1) cap1) (R.narL f (l.take (k+1))) F1):=by unfold Hid;rw[HSN.out,HFX.out];exact hF1
      clear hown1 hgrow hat HXS HBL hW' LB2 WS CS CA HLN hF1
      go_wp2
      go_roundw
      case rel=>exact⟨k+1,F1,by omega,by go_num,FLN,FIN.out⟩
      case measure=>simp[intOf];omega
     ·skip
      have HFX:Hid (f t.x=t.x):=by unfold Hid;rw[← HFF.out];simp[R.narX,hvd]
      clear hsE
      go_upto_region 6 with (first | (refine wpList_load_lnAt (.tmp 19) rfl rfl b (k*9) t.x (.slice ua t.body.length uc) rfl hr.out ?_))
      go_wp2_with (first
       | (go_at_call 36;refine (HC.out _ (HBL.out.alloc hws _)).mono ?_;rintro e w3 ⟨a3,m3,c3,F3,rfl,hl3,hb3⟩;have LB:LnAt w3 wr.heap.size t.x (.slice ua t.body.length uc):=(LnAt.new wr t.x (.slice ua t.body.length uc)).below (by exact hb3);obtain⟨f1,f2,s0,s1,s2,s3,s4,s5,s6,s7,s8⟩:=LB.facts;have f28:=f2 8;have hW3:Below wr.heap.size wr w3:=((Below.refl wr.heap.size wr).alloc (Nat.le_refl _) _).trans (hb3.mono (by simp));have LB2:=hide (LB.setBody (.slice a3 m3 c3));have WS:=hide (hW3.setCell (p:=⟨wr.heap.size,8,none⟩) (Nat.le_refl _) (.slice a3 m3 c3));have CS:Hid (LinesAt (w3.setCell ⟨wr.heap.size,8,none⟩ (.slice a3 m3 c3)) (wr.heap.size+1) (.slice a3 m3 c3) (nb) F3):=((hl3.base (by simp)).keep (fun j hj=>Below.heap_setCell _ _ _ _ (fun ej=>by have h1:=(hl3.bound j hj).1;have h2:j=wr.heap.size:=ej;simp at h1;omega)));have hws6:=WS.out.size;clear hl3 LB)
       | (generalize w3.setCell ⟨wr.heap.size,8,none⟩ (.slice a3 m3 c3)=W at *;refine wpList_load_ln (.tmp 9) rfl rfl wr.heap.size t.x (.slice a3 m3 c3) rfl (by exact LB2.out) ?_;simp only[lnCells])
       | (at_builtin;refine wpList_append_lies _ rfl (.tmp 52) (.tmp 54) 44 rfl w.heap.size 49 i0 (.agg (lnCells R.z0 (.slice none 0 0))) 9 120 Tryz.underlying44 hi hz0 hz1 hz2 rfl (by decide) _ _ _ rfl ((ownsRow_keep HXS.out (fun j hj=>WS.out.block j (HXS.out.lt j hj).2)).alloc _) ⟨W.heap.size,0,none⟩ 1 1 (lnCells t.x (.slice a3 m3 c3)).toList rfl rfl ?c1 ?c2 (by decide) ?c3 ?c4 ?c5 _ rfl ?_))
      case c1=>first | exact World.news_of_block (t:=49) (fr:=(0,0)) (heap_alloc_new W _) | (intro j u hj;simpa [lnCells] using hj)
      case c2=>first | exact lnCells_one _ _ rfl | simp[lnCells,Value.oneCell']
      case c3=>unfold maxLen;omega
      case c4=>omega
      case c5=>simp;omega
      intro g1 cap1 w1 hown1 hgrow hat hlt1
      have hW':Below wr.heap.size wr (W.alloc (.cells (lnCells t.x (.slice a3 m3 c3)) 49)):=WS.out.alloc (by omega) _
      have FIN:=hide (grown_row HBL.out hW' HXS.out hgrow)
      have CA:LinesAt (W.alloc (.cells (lnCells t.x (.slice a3 m3 c3)) 49)) (wr.heap.size+1) (.slice a3 m3 c3) (nb) F3:=CS.out.keep (fun j hj=>Below.heap_alloc _ _ _ (CS.out.bound j hj).2)
      obtain⟨F1,hF1⟩:=lines_app (x:=t.x) HLN.out hws hW' (Nat.le_succ _) CA hgrow HLL.out HXS.out hown1 (by simpa using hat)
      have FLN:Hid (LinesAt w1 w.heap.size (.slice (some ⟨g1,0,none⟩) (k+1) cap1) (R.narL f (l.take (k+1))) F1):=by unfold Hid;rw[HSN.out,HFX.out];exact hF1
      clear hown1 hgrow hat HXS HBL hW' LB2 WS CS CA HLN hF1
      go_wp2
      go_roundw
      case rel=>exact⟨k+1,F1,by omega,by go_num,FLN,FIN.out⟩
      case measure=>simp[intOf];omega
  ·have hkn:k=n:=by omega
   subst hkn
   have HT:Hid (l.take k=l):=List.take_of_length_le (by have:=HL.out;omega)
   go_wp2
   go_ret
   have h1:=HLN.out
   rw[HT.out] at h1
   exact⟨_,F',rfl,h1,hbel⟩
end Go.Proofs.YtpkjmdcabdplfaaGreatDoor
