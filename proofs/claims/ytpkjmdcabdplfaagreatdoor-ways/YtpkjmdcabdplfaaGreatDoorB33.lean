import Derived.Test.YtpkjmdcabdplfaaGreatDoorB32
set_option linter.unusedVariables false
set_option linter.unusedSimpArgs false
namespace Go.Proofs.YtpkjmdcabdplfaaGreatDoor
open Go Go.RowKit
set_option maxRecDepth 100000
def lastX (acc:List R.Tree):Option R.Lh:=acc.getLast?.map R.Tree.x
theorem orT (p s:Bool):p=true∨(p=false∧s=true)∨(p=false∧s=false):=by cases p<;>cases s<;>simp
theorem cov_op (q:Option R.Lh) (x:R.Lh) (h:¬ x.op.toList=R.sFence.toList):R.cov q x=false:=by
 cases q with
 | none=>rfl
 | some y=>simp[R.cov,h]
theorem thin_cons (p:Option R.Lh) (t:R.Tree) (r:List R.Tree):R.thinL p (t::r)=if R.cov p t.x then R.thinL p r else .mk t.x (R.thinL none t.body)::R.thinL (some t.x) r:=by
 cases t;simp[R.thinL]
theorem LinesAt.lastF {w:World} {B:Nat} {v:Value} {ac:List R.Tree} {p:R.Tree} {F:List Nat} (h:LinesAt w B v (ac++[p]) F):∃ g c,v=.slice (some ⟨g,0,none⟩) (ac++[p]).length c∧g<w.heap.size∧w.cell? ⟨g,ac.length*9,none⟩=some (.string p.x.op)∧w.cell? ⟨g,ac.length*9+6,none⟩=some (.string p.x.ord)∧w.cell? ⟨g,ac.length*9+7,none⟩=some (.string p.x.scope):=by
 generalize hl:ac++[p]=l at h
 cases h using LinesAt.cs with
 | @row v l vs Fs ho hv hF hc hn =>
  subst hl
  obtain⟨g,c,rfl,_,hlt⟩:=ho.form (by simp)
  have hk:ac.length<vs.length:=by rw[hv];simp
  have CE:=LinesAt.line ho rfl hv ac.length (by simp) vs[ac.length] (by simp[hk])
  have e:(ac++[p])[ac.length]'(by simp)=p:=by simp
  rw[e] at CE
  exact⟨g,c,rfl,hlt,CE 0 (by omega),CE 6 (by omega),CE 7 (by omega)⟩
set_option maxHeartbeats 12800000 in
theorem thinner_any {w0:World} {B:Nat} {v:Value} {l:List R.Tree} {F:List Nat} (h:LinesAt w0 B v l F):R.sizeL l<10000→R.okL l→∀ (w:World),(∀ k∈F,w.heap[k]?=w0.heap[k]?) →
  Calls Tryz.prog 39 #[v] w fun e w'=>∃ v' F',e=.returned v'∧LinesAt w' w.heap.size v' (R.thinL none l) F'∧Below w.heap.size w w':=by
 induction h using LinesAt.ind with
 | @row v l vs Fs ho hv hF hc hnd ih =>
 intro hsz hok w hk
 obtain⟨i0,hi,hz0,hz1,hz2⟩:=info_parts Tryz.infoLn
 have hbd0:=(LinesAt.row ho hv hF hc hnd).bound
 have hlt:∀ k∈v.ownBlock.toList++Fs.flatten,k<w.heap.size:=fun k hkF=>by
  have h1:=(hbd0 k hkF).2
  have h2:=hk k hkF
  rw[Array.getElem?_eq_getElem h1] at h2
  exact (Array.getElem?_eq_some_iff.1 h2).1
 have how:w.ownsRow B 49 9 v l.length (rowLn l vs):=ownsRow_keep ho (fun k e=>hk k (by simp[e]))
 have hsv:∃ a c,v=.slice a l.length c∧(0<l.length→∃ b,a=some ⟨b,0,none⟩∧b<w.heap.size):=by
  rcases how.2 with ⟨e,h0⟩ | ⟨k,c,cur,e,_⟩
  ·exact⟨none,0,by rw[e,h0],fun h=>by omega⟩
  ·exact⟨_,c,e,fun _=>⟨k,rfl,(how.lt k (by rw[e];rfl)).2⟩⟩
 obtain⟨sa,sc,rfl,hsa⟩:=hsv
 have hlen:=R.size_len l
 have HO:=hide how
 have HIH:=hide ih
 have HK:=hide hk
 have HLT:=hide hlt
 have HV:=hide hv
 have HF:=hide hF
 have HOK:=hide hok
 have HS:=hide hsz
 have HCC:=hide hc
 have hn:l.length<10000:=by omega
 generalize hN:l.length=n at *
 have HL:=hide hN
 clear hN how ih hk hlt hv hF ho hc hnd hbd0 hlen hok hsz
 go_enter Tryz.func39,Tryz.ntmps39
 go_wp2
 go_loopw [3,4] (fun o i wr=>∃ (k:Nat) (acc:List R.Tree) (F':List Nat),k≤n∧i=.int .i64 k∧acc.length≤k∧Hid (acc++R.thinL (lastX acc) (l.drop k)=R.thinL none l)∧Hid (LinesAt wr w.heap.size o acc F')∧Below w.heap.size w wr) (fun _ i _=>n-(intOf i).toNat)
 case atStart=>exact⟨0,[],[],Nat.zero_le _,rfl,by simp,by unfold Hid;simp[lastX],by unfold Hid;exact LinesAt.nil _ _,Below.refl _ _⟩
 case round =>
  obtain⟨k,acc,F',hk,rfl,hac,HR,HLN,hbel⟩:=hrel
  have hws:=hbel.size
  by_cases hlt:k<n
  ·obtain⟨b,rfl,hblt⟩:=hsa (by omega)
   have hkl:k<l.length:=by rw[HL.out];exact hlt
   have hin:(k:Int)<(n:Int):=by omega
   have hkv:k<vs.length:=by rw[HV.out];exact hlt
   have hkf:k<Fs.length:=by rw[HF.out];exact hlt
   have hr:=hide (rangeAt_keep2 (range_ln HO.out HL.out.symm (by rw[HV.out,HL.out]) k hkl vs[k] (by simp[hkv])) (hbel.block b hblt))
   obtain⟨hfit,hok2⟩:=R.okL_get l HOK.out k hkl
   obtain⟨r0,r1,v0,v1,a0,a1,b0,b1,os,ss⟩:=hfit.ok
   have hsg:=R.sizeL_get l k hkl
   have hsk:=R.sizeL_nn (l.take k)
   have HS1:=HS.out
   have HD:=hide (P.drop_cons l k hkl)
   have HLL:Hid (acc.length=acc.length):=rfl
   have HC:Hid (∀ w2:World,Below w.heap.size w w2→Calls Tryz.prog 39 #[vs[k]] w2 fun e w'=>∃ a3 m3 c3 F',e=.returned (.slice a3 m3 c3)∧LinesAt w' w2.heap.size (.slice a3 m3 c3) (R.thinL none l[k].body) F'∧Below w2.heap.size w2 w'):=fun w2 hb2=>by
    refine Calls.mono (R:=fun e w'=>∃ v' F',e=.returned v'∧LinesAt w' w2.heap.size v' (R.thinL none l[k].body) F'∧Below w2.heap.size w2 w') ?_ (fun e w' ⟨v',F',h1,h2,h3⟩=>by
     obtain⟨xs3,hx3⟩:=h2.own0
     obtain⟨a3,c3,rfl⟩:=own_formS hx3
     exact⟨a3,_,c3,F',h1,h2,h3⟩)
    refine HIH.out k l[k] vs[k] Fs[k] (by simp[hkl]) (by simp[hkv]) (by simp[hkf]) (by omega) hok2 w2 (fun j hj=>?_)
    have hj':j∈(Value.slice (some ⟨b,0,none⟩) n sc).ownBlock.toList++Fs.flatten:=by
     simp only[List.mem_append,List.mem_flatten]
     exact Or.inr ⟨Fs[k],List.getElem_mem hkf,hj⟩
    rw[hb2.block j (HLT.out j hj'),HK.out j hj']
   obtain⟨xsu,hxu⟩:=(HCC.out k l[k] vs[k] Fs[k] (by simp[hkl]) (by simp[hkv]) (by simp[hkf])).own0
   obtain⟨ua,uc,hu⟩:=own_formS hxu
   obtain⟨xs,hxs⟩:=HLN.out.own0
   have HXS:=hide hxs
   have HBL:=hide hbel
   have HKP:Hid (R.cov (lastX acc) l[k].x=false→Hid ((acc++[.mk l[k].x (R.thinL none l[k].body)])++R.thinL (lastX (acc++[.mk l[k].x (R.thinL none l[k].body)])) (l.drop (k+1))=R.thinL none l)):=fun hcv=>by
    have h1:=HR.out
    rw[HD.out,thin_cons,hcv] at h1
    unfold Hid
    rw[← h1];simp[lastX]
   have HGO:Hid (R.cov (lastX acc) l[k].x=true→Hid (acc++R.thinL (lastX acc) (l.drop (k+1))=R.thinL none l)):=fun hcv=>by
    have h1:=HR.out
    rw[HD.out,thin_cons,hcv] at h1
    unfold Hid
    rw[← h1];simp
   have HNB:Hid (R.thinL none l[k].body=R.thinL none l[k].body):=rfl
   generalize l[k]=t at *
   generalize vs[k]=u at *
   subst hu
   generalize R.thinL none t.body=nb at *
   clear r0 r1 v0 v1 a0 a1 b0 b1 os ss HNB hbel hxs hsg hok2 hfit HIH HCC hxu
   obtain⟨oa,oc,rfl⟩:=own_formS HXS.out
   by_cases hfe:t.x.op.toList=[102,101,110,99,101]
   ·have o1:(t.x.op.toList==[102,101,110,99,101])=true:=by simp[hfe]
    clear hfe
    by_cases hae:acc=[]
    ·subst hae
     have HCV:Hid (R.cov (lastX []) t.x=false):=rfl
     simp only[List.length_nil] at HXS HLL hac ⊢
     go_upto_region 7 with (first | (refine wpList_load_lnAt (.tmp 19) rfl rfl b (k*9) t.x (.slice ua t.body.length uc) rfl hr.out ?_))
     go_wp2_with (first
      | (go_at_call 39;refine (HC.out _ (HBL.out.alloc hws _)).mono ?_;rintro e w3 ⟨a3,m3,c3,F3,rfl,hl3,hb3⟩;have LB:LnAt w3 wr.heap.size t.x (.slice ua t.body.length uc):=(LnAt.new wr t.x (.slice ua t.body.length uc)).below (by exact hb3);obtain⟨f1,f2,s0,s1,s2,s3,s4,s5,s6,s7,s8⟩:=LB.facts;have f28:=f2 8;have hW3:Below wr.heap.size wr w3:=((Below.refl wr.heap.size wr).alloc (Nat.le_refl _) _).trans (hb3.mono (by simp));have LB2:=hide (LB.setBody (.slice a3 m3 c3));have WS:=hide (hW3.setCell (p:=⟨wr.heap.size,8,none⟩) (Nat.le_refl _) (.slice a3 m3 c3));have CS:Hid (LinesAt (w3.setCell ⟨wr.heap.size,8,none⟩ (.slice a3 m3 c3)) (wr.heap.size+1) (.slice a3 m3 c3) nb F3):=((hl3.base (by simp)).keep (fun j hj=>Below.heap_setCell _ _ _ _ (fun ej=>by have h1:=(hl3.bound j hj).1;have h2:j=wr.heap.size:=ej;simp at h1;omega)));have hws6:=WS.out.size;clear hl3 LB)
      | (generalize w3.setCell ⟨wr.heap.size,8,none⟩ (.slice a3 m3 c3)=W at *;refine wpList_load_ln (.tmp 5) rfl rfl wr.heap.size t.x (.slice a3 m3 c3) rfl (by exact LB2.out) ?_;simp only[lnCells])
      | (at_builtin;refine wpList_append_lies _ rfl (.tmp 71) (.tmp 73) 44 rfl w.heap.size 49 i0 (.agg (lnCells R.z0 (.slice none 0 0))) 9 120 Tryz.underlying44 hi hz0 hz1 hz2 rfl (by decide) _ _ _ rfl ((ownsRow_keep HXS.out (fun j hj=>WS.out.block j (HXS.out.lt j hj).2)).alloc _) ⟨W.heap.size,0,none⟩ 1 1 (lnCells t.x (.slice a3 m3 c3)).toList rfl rfl ?c1 ?c2 (by decide) ?c3 ?c4 ?c5 _ rfl ?_))
     case c1=>exact World.news_of_block (t:=49) (fr:=(0,0)) (heap_alloc_new W _)
     case c2=>exact lnCells_one _ _ rfl
     case c3=>unfold maxLen;omega
     case c4=>omega
     case c5=>simp;omega
     intro g1 cap1 w1 hown1 hgrow hat hlt1
     have hW':Below wr.heap.size wr (W.alloc (.cells (lnCells t.x (.slice a3 m3 c3)) 49)):=WS.out.alloc (by omega) _
     have FIN:=hide (grown_row HBL.out hW' HXS.out hgrow)
     have CA:LinesAt (W.alloc (.cells (lnCells t.x (.slice a3 m3 c3)) 49)) (wr.heap.size+1) (.slice a3 m3 c3) nb F3:=CS.out.keep (fun j hj=>Below.heap_alloc _ _ _ (CS.out.bound j hj).2)
     obtain⟨F1,hF1⟩:=lines_app (x:=t.x) HLN.out hws hW' (Nat.le_succ _) CA hgrow (by first | exact HLL.out | rfl) HXS.out hown1 (by simpa using hat)
     have FLN:=hide hF1
     clear hown1 hgrow hat HXS HBL hW' LB2 WS CS CA HLN hF1
     go_wp2
     go_roundw
     case rel=>exact⟨k+1,[]++[.mk t.x nb],F1,by omega,by go_num,by first | (simp;done) | (simp;omega),HKP.out HCV.out,FLN,FIN.out⟩
     case measure=>simp[intOf];omega
    ·obtain⟨ac,p,rfl⟩:=snoc_of acc hae
     obtain⟨g,oc2,eo,hglt,z0,z6,z7⟩:=HLN.out.lastF
     simp only[Value.slice.injEq,true_and] at eo
     obtain⟨rfl,rfl⟩:=eo
     have hal:ac.length<10000:=by simp at hac;omega
     have el:(ac++[p]).length=ac.length+1:=by simp
     have HCD:Hid (R.cov (lastX (ac++[p])) t.x=(t.x.op.toList==R.sFence.toList&&p.x.op.toList==R.sFence.toList&&(p.x.ord.toList==oS||t.x.ord.toList==oQ)&&(p.x.scope.toList==R.lDevice||t.x.scope.toList==R.lBlock))):=by unfold Hid;simp[lastX,R.cov]
     rw[el] at hac HXS HLN
     rw[el]
     clear HLL
     generalize hna:ac.length=na at *
     have HNA:=hide hna
     clear hna
     have HLL:Hid ((ac++[p]).length=na+1):=el
     have hin:((na:Int)<(na:Int)+1):=by omega
     have hn0:(0:Int)≤(na:Int):=by omega
     have hgt:(0:Int)<(na:Int)+1:=by omega
     have hwp:IntKind.i64.wrap (na:Int)=(na:Int):=by simp[IntKind.wrap,IntKind.signed,IntKind.bits];omega
     cases p1:(p.x.op.toList==[102,101,110,99,101])
     ·have HCV:Hid (R.cov (lastX (ac++[p])) t.x=false):=by unfold Hid;rw[HCD.out];simp only[R.sFence,lit_toList,p1];simp
      go_upto_region 7 with (first | (refine wpList_load_lnAt (.tmp 19) rfl rfl b (k*9) t.x (.slice ua t.body.length uc) rfl hr.out ?_))
      go_wp2_with (first
       | (go_at_call 39;refine (HC.out _ (HBL.out.alloc hws _)).mono ?_;rintro e w3 ⟨a3,m3,c3,F3,rfl,hl3,hb3⟩;have LB:LnAt w3 wr.heap.size t.x (.slice ua t.body.length uc):=(LnAt.new wr t.x (.slice ua t.body.length uc)).below (by exact hb3);obtain⟨f1,f2,s0,s1,s2,s3,s4,s5,s6,s7,s8⟩:=LB.facts;have f28:=f2 8;have hW3:Below wr.heap.size wr w3:=((Below.refl wr.heap.size wr).alloc (Nat.le_refl _) _).trans (hb3.mono (by simp));have LB2:=hide (LB.setBody (.slice a3 m3 c3));have WS:=hide (hW3.setCell (p:=⟨wr.heap.size,8,none⟩) (Nat.le_refl _) (.slice a3 m3 c3));have CS:Hid (LinesAt (w3.setCell ⟨wr.heap.size,8,none⟩ (.slice a3 m3 c3)) (wr.heap.size+1) (.slice a3 m3 c3) nb F3):=((hl3.base (by simp)).keep (fun j hj=>Below.heap_setCell _ _ _ _ (fun ej=>by have h1:=(hl3.bound j hj).1;have h2:j=wr.heap.size:=ej;simp at h1;omega)));have hws6:=WS.out.size;clear hl3 LB)
       | (generalize w3.setCell ⟨wr.heap.size,8,none⟩ (.slice a3 m3 c3)=W at *;refine wpList_load_ln (.tmp 5) rfl rfl wr.heap.size t.x (.slice a3 m3 c3) rfl (by exact LB2.out) ?_;simp only[lnCells])
       | (at_builtin;refine wpList_append_lies _ rfl (.tmp 71) (.tmp 73) 44 rfl w.heap.size 49 i0 (.agg (lnCells R.z0 (.slice none 0 0))) 9 120 Tryz.underlying44 hi hz0 hz1 hz2 rfl (by decide) _ _ _ rfl ((ownsRow_keep HXS.out (fun j hj=>WS.out.block j (HXS.out.lt j hj).2)).alloc _) ⟨W.heap.size,0,none⟩ 1 1 (lnCells t.x (.slice a3 m3 c3)).toList rfl rfl ?c1 ?c2 (by decide) ?c3 ?c4 ?c5 _ rfl ?_))
      case c1=>exact World.news_of_block (t:=49) (fr:=(0,0)) (heap_alloc_new W _)
      case c2=>exact lnCells_one _ _ rfl
      case c3=>unfold maxLen;omega
      case c4=>omega
      case c5=>simp;omega
      intro g1 cap1 w1 hown1 hgrow hat hlt1
      have hW':Below wr.heap.size wr (W.alloc (.cells (lnCells t.x (.slice a3 m3 c3)) 49)):=WS.out.alloc (by omega) _
      have FIN:=hide (grown_row HBL.out hW' HXS.out hgrow)
      have CA:LinesAt (W.alloc (.cells (lnCells t.x (.slice a3 m3 c3)) 49)) (wr.heap.size+1) (.slice a3 m3 c3) nb F3:=CS.out.keep (fun j hj=>Below.heap_alloc _ _ _ (CS.out.bound j hj).2)
      obtain⟨F1,hF1⟩:=lines_app (x:=t.x) HLN.out hws hW' (Nat.le_succ _) CA hgrow (by first | exact HLL.out | rfl) HXS.out hown1 (by simpa using hat)
      have FLN:=hide hF1
      clear hown1 hgrow hat HXS HBL hW' LB2 WS CS CA HLN hF1
      go_wp2
      go_roundw
      case rel=>exact⟨k+1,ac++[p]++[.mk t.x nb],F1,by omega,by go_num,by rw[List.length_append,HLL.out];simp;omega,HKP.out HCV.out,FLN,FIN.out⟩
      case measure=>simp[intOf];omega
     ·rcases orT (p.x.ord.toList==[115,99]) (t.x.ord.toList==[97,99,113,114,101,108]) with q1 | ⟨q1,q2⟩ | ⟨q1,q2⟩
      ·rcases orT (p.x.scope.toList==[100,101,118,105,99,101]) (t.x.scope.toList==[98,108,111,99,107]) with r1 | ⟨r1,r2⟩ | ⟨r1,r2⟩
       ·have HCV:Hid (R.cov (lastX (ac++[p])) t.x=true):=by unfold Hid;rw[HCD.out];simp only[R.sFence,lit_toList,oS,oQ,R.lDevice,R.lBlock,o1,p1,q1,r1];simp
        go_upto_region 7 with (first | (refine wpList_load_lnAt (.tmp 19) rfl rfl b (k*9) t.x (.slice ua t.body.length uc) rfl hr.out ?_))
        go_wp2
        go_roundw
        case rel=>exact⟨k+1,ac++[p],F',by omega,by go_num,by rw[el];omega,HGO.out HCV.out,by unfold Hid;exact HLN.out.keep (fun j hj=>Below.heap_alloc _ _ _ (HLN.out.bound j hj).2),HBL.out.alloc hws _⟩
        case measure=>simp[intOf];omega
       ·have HCV:Hid (R.cov (lastX (ac++[p])) t.x=true):=by unfold Hid;rw[HCD.out];simp only[R.sFence,lit_toList,oS,oQ,R.lDevice,R.lBlock,o1,p1,q1,r1,r2];simp
        go_upto_region 7 with (first | (refine wpList_load_lnAt (.tmp 19) rfl rfl b (k*9) t.x (.slice ua t.body.length uc) rfl hr.out ?_))
        go_wp2
        go_roundw
        case rel=>exact⟨k+1,ac++[p],F',by omega,by go_num,by rw[el];omega,HGO.out HCV.out,by unfold Hid;exact HLN.out.keep (fun j hj=>Below.heap_alloc _ _ _ (HLN.out.bound j hj).2),HBL.out.alloc hws _⟩
        case measure=>simp[intOf];omega
       ·have HCV:Hid (R.cov (lastX (ac++[p])) t.x=false):=by unfold Hid;rw[HCD.out];simp only[R.sFence,lit_toList,oS,oQ,R.lDevice,R.lBlock,o1,p1,q1,r1,r2];simp
        go_upto_region 7 with (first | (refine wpList_load_lnAt (.tmp 19) rfl rfl b (k*9) t.x (.slice ua t.body.length uc) rfl hr.out ?_))
        go_wp2_with (first
         | (go_at_call 39;refine (HC.out _ (HBL.out.alloc hws _)).mono ?_;rintro e w3 ⟨a3,m3,c3,F3,rfl,hl3,hb3⟩;have LB:LnAt w3 wr.heap.size t.x (.slice ua t.body.length uc):=(LnAt.new wr t.x (.slice ua t.body.length uc)).below (by exact hb3);obtain⟨f1,f2,s0,s1,s2,s3,s4,s5,s6,s7,s8⟩:=LB.facts;have f28:=f2 8;have hW3:Below wr.heap.size wr w3:=((Below.refl wr.heap.size wr).alloc (Nat.le_refl _) _).trans (hb3.mono (by simp));have LB2:=hide (LB.setBody (.slice a3 m3 c3));have WS:=hide (hW3.setCell (p:=⟨wr.heap.size,8,none⟩) (Nat.le_refl _) (.slice a3 m3 c3));have CS:Hid (LinesAt (w3.setCell ⟨wr.heap.size,8,none⟩ (.slice a3 m3 c3)) (wr.heap.size+1) (.slice a3 m3 c3) nb F3):=((hl3.base (by simp)).keep (fun j hj=>Below.heap_setCell _ _ _ _ (fun ej=>by have h1:=(hl3.bound j hj).1;have h2:j=wr.heap.size:=ej;simp at h1;omega)));have hws6:=WS.out.size;clear hl3 LB)
         | (generalize w3.setCell ⟨wr.heap.size,8,none⟩ (.slice a3 m3 c3)=W at *;refine wpList_load_ln (.tmp 5) rfl rfl wr.heap.size t.x (.slice a3 m3 c3) rfl (by exact LB2.out) ?_;simp only[lnCells])
         | (at_builtin;refine wpList_append_lies _ rfl (.tmp 71) (.tmp 73) 44 rfl w.heap.size 49 i0 (.agg (lnCells R.z0 (.slice none 0 0))) 9 120 Tryz.underlying44 hi hz0 hz1 hz2 rfl (by decide) _ _ _ rfl ((ownsRow_keep HXS.out (fun j hj=>WS.out.block j (HXS.out.lt j hj).2)).alloc _) ⟨W.heap.size,0,none⟩ 1 1 (lnCells t.x (.slice a3 m3 c3)).toList rfl rfl ?c1 ?c2 (by decide) ?c3 ?c4 ?c5 _ rfl ?_))
        case c1=>exact World.news_of_block (t:=49) (fr:=(0,0)) (heap_alloc_new W _)
        case c2=>exact lnCells_one _ _ rfl
        case c3=>unfold maxLen;omega
        case c4=>omega
        case c5=>simp;omega
        intro g1 cap1 w1 hown1 hgrow hat hlt1
        have hW':Below wr.heap.size wr (W.alloc (.cells (lnCells t.x (.slice a3 m3 c3)) 49)):=WS.out.alloc (by omega) _
        have FIN:=hide (grown_row HBL.out hW' HXS.out hgrow)
        have CA:LinesAt (W.alloc (.cells (lnCells t.x (.slice a3 m3 c3)) 49)) (wr.heap.size+1) (.slice a3 m3 c3) nb F3:=CS.out.keep (fun j hj=>Below.heap_alloc _ _ _ (CS.out.bound j hj).2)
        obtain⟨F1,hF1⟩:=lines_app (x:=t.x) HLN.out hws hW' (Nat.le_succ _) CA hgrow (by first | exact HLL.out | rfl) HXS.out hown1 (by simpa using hat)
        have FLN:=hide hF1
        clear hown1 hgrow hat HXS HBL hW' LB2 WS CS CA HLN hF1
        go_wp2
        go_roundw
        case rel=>exact⟨k+1,ac++[p]++[.mk t.x nb],F1,by omega,by go_num,by rw[List.length_append,HLL.out];simp;omega,HKP.out HCV.out,FLN,FIN.out⟩
        case measure=>simp[intOf];omega
      ·rcases orT (p.x.scope.toList==[100,101,118,105,99,101]) (t.x.scope.toList==[98,108,111,99,107]) with r1 | ⟨r1,r2⟩ | ⟨r1,r2⟩
       ·have HCV:Hid (R.cov (lastX (ac++[p])) t.x=true):=by unfold Hid;rw[HCD.out];simp only[R.sFence,lit_toList,oS,oQ,R.lDevice,R.lBlock,o1,p1,q1,q2,r1];simp
        go_upto_region 7 with (first | (refine wpList_load_lnAt (.tmp 19) rfl rfl b (k*9) t.x (.slice ua t.body.length uc) rfl hr.out ?_))
        go_wp2
        go_roundw
        case rel=>exact⟨k+1,ac++[p],F',by omega,by go_num,by rw[el];omega,HGO.out HCV.out,by unfold Hid;exact HLN.out.keep (fun j hj=>Below.heap_alloc _ _ _ (HLN.out.bound j hj).2),HBL.out.alloc hws _⟩
        case measure=>simp[intOf];omega
       ·have HCV:Hid (R.cov (lastX (ac++[p])) t.x=true):=by unfold Hid;rw[HCD.out];simp only[R.sFence,lit_toList,oS,oQ,R.lDevice,R.lBlock,o1,p1,q1,q2,r1,r2];simp
        go_upto_region 7 with (first | (refine wpList_load_lnAt (.tmp 19) rfl rfl b (k*9) t.x (.slice ua t.body.length uc) rfl hr.out ?_))
        go_wp2
        go_roundw
        case rel=>exact⟨k+1,ac++[p],F',by omega,by go_num,by rw[el];omega,HGO.out HCV.out,by unfold Hid;exact HLN.out.keep (fun j hj=>Below.heap_alloc _ _ _ (HLN.out.bound j hj).2),HBL.out.alloc hws _⟩
        case measure=>simp[intOf];omega
       ·have HCV:Hid (R.cov (lastX (ac++[p])) t.x=false):=by unfold Hid;rw[HCD.out];simp only[R.sFence,lit_toList,oS,oQ,R.lDevice,R.lBlock,o1,p1,q1,q2,r1,r2];simp
        go_upto_region 7 with (first | (refine wpList_load_lnAt (.tmp 19) rfl rfl b (k*9) t.x (.slice ua t.body.length uc) rfl hr.out ?_))
        go_wp2_with (first
         | (go_at_call 39;refine (HC.out _ (HBL.out.alloc hws _)).mono ?_;rintro e w3 ⟨a3,m3,c3,F3,rfl,hl3,hb3⟩;have LB:LnAt w3 wr.heap.size t.x (.slice ua t.body.length uc):=(LnAt.new wr t.x (.slice ua t.body.length uc)).below (by exact hb3);obtain⟨f1,f2,s0,s1,s2,s3,s4,s5,s6,s7,s8⟩:=LB.facts;have f28:=f2 8;have hW3:Below wr.heap.size wr w3:=((Below.refl wr.heap.size wr).alloc (Nat.le_refl _) _).trans (hb3.mono (by simp));have LB2:=hide (LB.setBody (.slice a3 m3 c3));have WS:=hide (hW3.setCell (p:=⟨wr.heap.size,8,none⟩) (Nat.le_refl _) (.slice a3 m3 c3));have CS:Hid (LinesAt (w3.setCell ⟨wr.heap.size,8,none⟩ (.slice a3 m3 c3)) (wr.heap.size+1) (.slice a3 m3 c3) nb F3):=((hl3.base (by simp)).keep (fun j hj=>Below.heap_setCell _ _ _ _ (fun ej=>by have h1:=(hl3.bound j hj).1;have h2:j=wr.heap.size:=ej;simp at h1;omega)));have hws6:=WS.out.size;clear hl3 LB)
         | (generalize w3.setCell ⟨wr.heap.size,8,none⟩ (.slice a3 m3 c3)=W at *;refine wpList_load_ln (.tmp 5) rfl rfl wr.heap.size t.x (.slice a3 m3 c3) rfl (by exact LB2.out) ?_;simp only[lnCells])
         | (at_builtin;refine wpList_append_lies _ rfl (.tmp 71) (.tmp 73) 44 rfl w.heap.size 49 i0 (.agg (lnCells R.z0 (.slice none 0 0))) 9 120 Tryz.underlying44 hi hz0 hz1 hz2 rfl (by decide) _ _ _ rfl ((ownsRow_keep HXS.out (fun j hj=>WS.out.block j (HXS.out.lt j hj).2)).alloc _) ⟨W.heap.size,0,none⟩ 1 1 (lnCells t.x (.slice a3 m3 c3)).toList rfl rfl ?c1 ?c2 (by decide) ?c3 ?c4 ?c5 _ rfl ?_))
        case c1=>exact World.news_of_block (t:=49) (fr:=(0,0)) (heap_alloc_new W _)
        case c2=>exact lnCells_one _ _ rfl
        case c3=>unfold maxLen;omega
        case c4=>omega
        case c5=>simp;omega
        intro g1 cap1 w1 hown1 hgrow hat hlt1
        have hW':Below wr.heap.size wr (W.alloc (.cells (lnCells t.x (.slice a3 m3 c3)) 49)):=WS.out.alloc (by omega) _
        have FIN:=hide (grown_row HBL.out hW' HXS.out hgrow)
        have CA:LinesAt (W.alloc (.cells (lnCells t.x (.slice a3 m3 c3)) 49)) (wr.heap.size+1) (.slice a3 m3 c3) nb F3:=CS.out.keep (fun j hj=>Below.heap_alloc _ _ _ (CS.out.bound j hj).2)
        obtain⟨F1,hF1⟩:=lines_app (x:=t.x) HLN.out hws hW' (Nat.le_succ _) CA hgrow (by first | exact HLL.out | rfl) HXS.out hown1 (by simpa using hat)
        have FLN:=hide hF1
        clear hown1 hgrow hat HXS HBL hW' LB2 WS CS CA HLN hF1
        go_wp2
        go_roundw
        case rel=>exact⟨k+1,ac++[p]++[.mk t.x nb],F1,by omega,by go_num,by rw[List.length_append,HLL.out];simp;omega,HKP.out HCV.out,FLN,FIN.out⟩
        case measure=>simp[intOf];omega
      ·rcases orT (p.x.scope.toList==[100,101,118,105,99,101]) (t.x.scope.toList==[98,108,111,99,107]) with r1 | ⟨r1,r2⟩ | ⟨r1,r2⟩
       ·have HCV:Hid (R.cov (lastX (ac++[p])) t.x=false):=by unfold Hid;rw[HCD.out];simp only[R.sFence,lit_toList,oS,oQ,R.lDevice,R.lBlock,o1,p1,q1,q2,r1];simp
        go_upto_region 7 with (first | (refine wpList_load_lnAt (.tmp 19) rfl rfl b (k*9) t.x (.slice ua t.body.length uc) rfl hr.out ?_))
        go_wp2_with (first
         | (go_at_call 39;refine (HC.out _ (HBL.out.alloc hws _)).mono ?_;rintro e w3 ⟨a3,m3,c3,F3,rfl,hl3,hb3⟩;have LB:LnAt w3 wr.heap.size t.x (.slice ua t.body.length uc):=(LnAt.new wr t.x (.slice ua t.body.length uc)).below (by exact hb3);obtain⟨f1,f2,s0,s1,s2,s3,s4,s5,s6,s7,s8⟩:=LB.facts;have f28:=f2 8;have hW3:Below wr.heap.size wr w3:=((Below.refl wr.heap.size wr).alloc (Nat.le_refl _) _).trans (hb3.mono (by simp));have LB2:=hide (LB.setBody (.slice a3 m3 c3));have WS:=hide (hW3.setCell (p:=⟨wr.heap.size,8,none⟩) (Nat.le_refl _) (.slice a3 m3 c3));have CS:Hid (LinesAt (w3.setCell ⟨wr.heap.size,8,none⟩ (.slice a3 m3 c3)) (wr.heap.size+1) (.slice a3 m3 c3) nb F3):=((hl3.base (by simp)).keep (fun j hj=>Below.heap_setCell _ _ _ _ (fun ej=>by have h1:=(hl3.bound j hj).1;have h2:j=wr.heap.size:=ej;simp at h1;omega)));have hws6:=WS.out.size;clear hl3 LB)
         | (generalize w3.setCell ⟨wr.heap.size,8,none⟩ (.slice a3 m3 c3)=W at *;refine wpList_load_ln (.tmp 5) rfl rfl wr.heap.size t.x (.slice a3 m3 c3) rfl (by exact LB2.out) ?_;simp only[lnCells])
         | (at_builtin;refine wpList_append_lies _ rfl (.tmp 71) (.tmp 73) 44 rfl w.heap.size 49 i0 (.agg (lnCells R.z0 (.slice none 0 0))) 9 120 Tryz.underlying44 hi hz0 hz1 hz2 rfl (by decide) _ _ _ rfl ((ownsRow_keep HXS.out (fun j hj=>WS.out.block j (HXS.out.lt j hj).2)).alloc _) ⟨W.heap.size,0,none⟩ 1 1 (lnCells t.x (.slice a3 m3 c3)).toList rfl rfl ?c1 ?c2 (by decide) ?c3 ?c4 ?c5 _ rfl ?_))
        case c1=>exact World.news_of_block (t:=49) (fr:=(0,0)) (heap_alloc_new W _)
        case c2=>exact lnCells_one _ _ rfl
        case c3=>unfold maxLen;omega
        case c4=>omega
        case c5=>simp;omega
        intro g1 cap1 w1 hown1 hgrow hat hlt1
        have hW':Below wr.heap.size wr (W.alloc (.cells (lnCells t.x (.slice a3 m3 c3)) 49)):=WS.out.alloc (by omega) _
        have FIN:=hide (grown_row HBL.out hW' HXS.out hgrow)
        have CA:LinesAt (W.alloc (.cells (lnCells t.x (.slice a3 m3 c3)) 49)) (wr.heap.size+1) (.slice a3 m3 c3) nb F3:=CS.out.keep (fun j hj=>Below.heap_alloc _ _ _ (CS.out.bound j hj).2)
        obtain⟨F1,hF1⟩:=lines_app (x:=t.x) HLN.out hws hW' (Nat.le_succ _) CA hgrow (by first | exact HLL.out | rfl) HXS.out hown1 (by simpa using hat)
        have FLN:=hide hF1
        clear hown1 hgrow hat HXS HBL hW' LB2 WS CS CA HLN hF1
        go_wp2
        go_roundw
        case rel=>exact⟨k+1,ac++[p]++[.mk t.x nb],F1,by omega,by go_num,by rw[List.length_append,HLL.out];simp;omega,HKP.out HCV.out,FLN,FIN.out⟩
        case measure=>simp[intOf];omega
       ·have HCV:Hid (R.cov (lastX (ac++[p])) t.x=false):=by unfold Hid;rw[HCD.out];simp only[R.sFence,lit_toList,oS,oQ,R.lDevice,R.lBlock,o1,p1,q1,q2,r1,r2];simp
        go_upto_region 7 with (first | (refine wpList_load_lnAt (.tmp 19) rfl rfl b (k*9) t.x (.slice ua t.body.length uc) rfl hr.out ?_))
        go_wp2_with (first
         | (go_at_call 39;refine (HC.out _ (HBL.out.alloc hws _)).mono ?_;rintro e w3 ⟨a3,m3,c3,F3,rfl,hl3,hb3⟩;have LB:LnAt w3 wr.heap.size t.x (.slice ua t.body.length uc):=(LnAt.new wr t.x (.slice ua t.body.length uc)).below (by exact hb3);obtain⟨f1,f2,s0,s1,s2,s3,s4,s5,s6,s7,s8⟩:=LB.facts;have f28:=f2 8;have hW3:Below wr.heap.size wr w3:=((Below.refl wr.heap.size wr).alloc (Nat.le_refl _) _).trans (hb3.mono (by simp));have LB2:=hide (LB.setBody (.slice a3 m3 c3));have WS:=hide (hW3.setCell (p:=⟨wr.heap.size,8,none⟩) (Nat.le_refl _) (.slice a3 m3 c3));have CS:Hid (LinesAt (w3.setCell ⟨wr.heap.size,8,none⟩ (.slice a3 m3 c3)) (wr.heap.size+1) (.slice a3 m3 c3) nb F3):=((hl3.base (by simp)).keep (fun j hj=>Below.heap_setCell _ _ _ _ (fun ej=>by have h1:=(hl3.bound j hj).1;have h2:j=wr.heap.size:=ej;simp at h1;omega)));have hws6:=WS.out.size;clear hl3 LB)
         | (generalize w3.setCell ⟨wr.heap.size,8,none⟩ (.slice a3 m3 c3)=W at *;refine wpList_load_ln (.tmp 5) rfl rfl wr.heap.size t.x (.slice a3 m3 c3) rfl (by exact LB2.out) ?_;simp only[lnCells])
         | (at_builtin;refine wpList_append_lies _ rfl (.tmp 71) (.tmp 73) 44 rfl w.heap.size 49 i0 (.agg (lnCells R.z0 (.slice none 0 0))) 9 120 Tryz.underlying44 hi hz0 hz1 hz2 rfl (by decide) _ _ _ rfl ((ownsRow_keep HXS.out (fun j hj=>WS.out.block j (HXS.out.lt j hj).2)).alloc _) ⟨W.heap.size,0,none⟩ 1 1 (lnCells t.x (.slice a3 m3 c3)).toList rfl rfl ?c1 ?c2 (by decide) ?c3 ?c4 ?c5 _ rfl ?_))
        case c1=>exact World.news_of_block (t:=49) (fr:=(0,0)) (heap_alloc_new W _)
        case c2=>exact lnCells_one _ _ rfl
        case c3=>unfold maxLen;omega
        case c4=>omega
        case c5=>simp;omega
        intro g1 cap1 w1 hown1 hgrow hat hlt1
        have hW':Below wr.heap.size wr (W.alloc (.cells (lnCells t.x (.slice a3 m3 c3)) 49)):=WS.out.alloc (by omega) _
        have FIN:=hide (grown_row HBL.out hW' HXS.out hgrow)
        have CA:LinesAt (W.alloc (.cells (lnCells t.x (.slice a3 m3 c3)) 49)) (wr.heap.size+1) (.slice a3 m3 c3) nb F3:=CS.out.keep (fun j hj=>Below.heap_alloc _ _ _ (CS.out.bound j hj).2)
        obtain⟨F1,hF1⟩:=lines_app (x:=t.x) HLN.out hws hW' (Nat.le_succ _) CA hgrow (by first | exact HLL.out | rfl) HXS.out hown1 (by simpa using hat)
        have FLN:=hide hF1
        clear hown1 hgrow hat HXS HBL hW' LB2 WS CS CA HLN hF1
        go_wp2
        go_roundw
        case rel=>exact⟨k+1,ac++[p]++[.mk t.x nb],F1,by omega,by go_num,by rw[List.length_append,HLL.out];simp;omega,HKP.out HCV.out,FLN,FIN.out⟩
        case measure=>simp[intOf];omega
       ·have HCV:Hid (R.cov (lastX (ac++[p])) t.x=false):=by unfold Hid;rw[HCD.out];simp only[R.sFence,lit_toList,oS,oQ,R.lDevice,R.lBlock,o1,p1,q1,q2,r1,r2];simp
        go_upto_region 7 with (first | (refine wpList_load_lnAt (.tmp 19) rfl rfl b (k*9) t.x (.slice ua t.body.length uc) rfl hr.out ?_))
        go_wp2_with (first
         | (go_at_call 39;refine (HC.out _ (HBL.out.alloc hws _)).mono ?_;rintro e w3 ⟨a3,m3,c3,F3,rfl,hl3,hb3⟩;have LB:LnAt w3 wr.heap.size t.x (.slice ua t.body.length uc):=(LnAt.new wr t.x (.slice ua t.body.length uc)).below (by exact hb3);obtain⟨f1,f2,s0,s1,s2,s3,s4,s5,s6,s7,s8⟩:=LB.facts;have f28:=f2 8;have hW3:Below wr.heap.size wr w3:=((Below.refl wr.heap.size wr).alloc (Nat.le_refl _) _).trans (hb3.mono (by simp));have LB2:=hide (LB.setBody (.slice a3 m3 c3));have WS:=hide (hW3.setCell (p:=⟨wr.heap.size,8,none⟩) (Nat.le_refl _) (.slice a3 m3 c3));have CS:Hid (LinesAt (w3.setCell ⟨wr.heap.size,8,none⟩ (.slice a3 m3 c3)) (wr.heap.size+1) (.slice a3 m3 c3) nb F3):=((hl3.base (by simp)).keep (fun j hj=>Below.heap_setCell _ _ _ _ (fun ej=>by have h1:=(hl3.bound j hj).1;have h2:j=wr.heap.size:=ej;simp at h1;omega)));have hws6:=WS.out.size;clear hl3 LB)
         | (generalize w3.setCell ⟨wr.heap.size,8,none⟩ (.slice a3 m3 c3)=W at *;refine wpList_load_ln (.tmp 5) rfl rfl wr.heap.size t.x (.slice a3 m3 c3) rfl (by exact LB2.out) ?_;simp only[lnCells])
         | (at_builtin;refine wpList_append_lies _ rfl (.tmp 71) (.tmp 73) 44 rfl w.heap.size 49 i0 (.agg (lnCells R.z0 (.slice none 0 0))) 9 120 Tryz.underlying44 hi hz0 hz1 hz2 rfl (by decide) _ _ _ rfl ((ownsRow_keep HXS.out (fun j hj=>WS.out.block j (HXS.out.lt j hj).2)).alloc _) ⟨W.heap.size,0,none⟩ 1 1 (lnCells t.x (.slice a3 m3 c3)).toList rfl rfl ?c1 ?c2 (by decide) ?c3 ?c4 ?c5 _ rfl ?_))
        case c1=>exact World.news_of_block (t:=49) (fr:=(0,0)) (heap_alloc_new W _)
        case c2=>exact lnCells_one _ _ rfl
        case c3=>unfold maxLen;omega
        case c4=>omega
        case c5=>simp;omega
        intro g1 cap1 w1 hown1 hgrow hat hlt1
        have hW':Below wr.heap.size wr (W.alloc (.cells (lnCells t.x (.slice a3 m3 c3)) 49)):=WS.out.alloc (by omega) _
        have FIN:=hide (grown_row HBL.out hW' HXS.out hgrow)
        have CA:LinesAt (W.alloc (.cells (lnCells t.x (.slice a3 m3 c3)) 49)) (wr.heap.size+1) (.slice a3 m3 c3) nb F3:=CS.out.keep (fun j hj=>Below.heap_alloc _ _ _ (CS.out.bound j hj).2)
        obtain⟨F1,hF1⟩:=lines_app (x:=t.x) HLN.out hws hW' (Nat.le_succ _) CA hgrow (by first | exact HLL.out | rfl) HXS.out hown1 (by simpa using hat)
        have FLN:=hide hF1
        clear hown1 hgrow hat HXS HBL hW' LB2 WS CS CA HLN hF1
        go_wp2
        go_roundw
        case rel=>exact⟨k+1,ac++[p]++[.mk t.x nb],F1,by omega,by go_num,by rw[List.length_append,HLL.out];simp;omega,HKP.out HCV.out,FLN,FIN.out⟩
        case measure=>simp[intOf];omega
   ·have o1:(t.x.op.toList==[102,101,110,99,101])=false:=by simpa using hfe
    have HCV:Hid (R.cov (lastX acc) t.x=false):=by unfold Hid;exact cov_op _ _ (by simpa [R.sFence,lit_toList] using hfe)
    clear hfe
    go_upto_region 7 with (first | (refine wpList_load_lnAt (.tmp 19) rfl rfl b (k*9) t.x (.slice ua t.body.length uc) rfl hr.out ?_))
    go_wp2_with (first
     | (go_at_call 39;refine (HC.out _ (HBL.out.alloc hws _)).mono ?_;rintro e w3 ⟨a3,m3,c3,F3,rfl,hl3,hb3⟩;have LB:LnAt w3 wr.heap.size t.x (.slice ua t.body.length uc):=(LnAt.new wr t.x (.slice ua t.body.length uc)).below (by exact hb3);obtain⟨f1,f2,s0,s1,s2,s3,s4,s5,s6,s7,s8⟩:=LB.facts;have f28:=f2 8;have hW3:Below wr.heap.size wr w3:=((Below.refl wr.heap.size wr).alloc (Nat.le_refl _) _).trans (hb3.mono (by simp));have LB2:=hide (LB.setBody (.slice a3 m3 c3));have WS:=hide (hW3.setCell (p:=⟨wr.heap.size,8,none⟩) (Nat.le_refl _) (.slice a3 m3 c3));have CS:Hid (LinesAt (w3.setCell ⟨wr.heap.size,8,none⟩ (.slice a3 m3 c3)) (wr.heap.size+1) (.slice a3 m3 c3) nb F3):=((hl3.base (by simp)).keep (fun j hj=>Below.heap_setCell _ _ _ _ (fun ej=>by have h1:=(hl3.bound j hj).1;have h2:j=wr.heap.size:=ej;simp at h1;omega)));have hws6:=WS.out.size;clear hl3 LB)
     | (generalize w3.setCell ⟨wr.heap.size,8,none⟩ (.slice a3 m3 c3)=W at *;refine wpList_load_ln (.tmp 5) rfl rfl wr.heap.size t.x (.slice a3 m3 c3) rfl (by exact LB2.out) ?_;simp only[lnCells])
     | (at_builtin;refine wpList_append_lies _ rfl (.tmp 71) (.tmp 73) 44 rfl w.heap.size 49 i0 (.agg (lnCells R.z0 (.slice none 0 0))) 9 120 Tryz.underlying44 hi hz0 hz1 hz2 rfl (by decide) _ _ _ rfl ((ownsRow_keep HXS.out (fun j hj=>WS.out.block j (HXS.out.lt j hj).2)).alloc _) ⟨W.heap.size,0,none⟩ 1 1 (lnCells t.x (.slice a3 m3 c3)).toList rfl rfl ?c1 ?c2 (by decide) ?c3 ?c4 ?c5 _ rfl ?_))
    case c1=>exact World.news_of_block (t:=49) (fr:=(0,0)) (heap_alloc_new W _)
    case c2=>exact lnCells_one _ _ rfl
    case c3=>unfold maxLen;omega
    case c4=>omega
    case c5=>simp;omega
    intro g1 cap1 w1 hown1 hgrow hat hlt1
    have hW':Below wr.heap.size wr (W.alloc (.cells (lnCells t.x (.slice a3 m3 c3)) 49)):=WS.out.alloc (by omega) _
    have FIN:=hide (grown_row HBL.out hW' HXS.out hgrow)
    have CA:LinesAt (W.alloc (.cells (lnCells t.x (.slice a3 m3 c3)) 49)) (wr.heap.size+1) (.slice a3 m3 c3) nb F3:=CS.out.keep (fun j hj=>Below.heap_alloc _ _ _ (CS.out.bound j hj).2)
    obtain⟨F1,hF1⟩:=lines_app (x:=t.x) HLN.out hws hW' (Nat.le_succ _) CA hgrow (by first | exact HLL.out | rfl) HXS.out hown1 (by simpa using hat)
    have FLN:=hide hF1
    clear hown1 hgrow hat HXS HBL hW' LB2 WS CS CA HLN hF1
    go_wp2
    go_roundw
    case rel=>exact⟨k+1,acc++[.mk t.x nb],F1,by omega,by go_num,by first | (simp;done) | (simp;omega),HKP.out HCV.out,FLN,FIN.out⟩
    case measure=>simp[intOf];omega
  ·have hkn:k=n:=by omega
   subst hkn
   have HT:Hid (R.thinL none l=acc):=by
    unfold Hid
    rw[← HR.out,List.drop_eq_nil_of_le (by have:=HL.out;omega)];simp[R.thinL]
   go_wp2
   go_ret
   exact⟨_,F',rfl,by rw[HT.out];exact HLN.out,hbel⟩
end Go.Proofs.YtpkjmdcabdplfaaGreatDoor
