import Derived.Test.YtehclbpoabdpoaaGreatDoorRows
import Derived.Test.YtehclbpoabdpoaaGreatDoorCards
import Derived.Test.YtehclbpoabdpoaaGreatDoorTie
import Derived.ProofKit
import Derived.ChangeBears2
import Derived.LaidMore
import Derived.OpenShut
import Derived.Stop.Joined
import Derived.SevenTiedAt
import Derived.Stop.LaidErr
import Derived.MakeChecks
import Derived.Test.YtehclbpoabdpoaaGreatDoorO34
import Derived.Test.YtehclbpoabdpoaaGreatDoorO40
import Derived.Test.YtehclbpoabdpoaaGreatDoorO49
set_option linter.all false
set_option maxHeartbeats 0
namespace Go.Proofs.YtehclbpoabdpoaaGreatDoor
open Go Go.RowKit
set_option maxRecDepth 100000
def LL (w:World) (v:Value) (rs:List (List Int)):Prop:=∃ o cap,v=.slice o rs.length cap∧(0<rs.length→∃ b,o=some ⟨b,0,none⟩∧b<w.heap.size∧∀ i (h:i<rs.length),∃ a c,w.cell? ⟨b,i,none⟩=some (.slice (some ⟨a,0,none⟩) rs[i].length c)∧a<w.heap.size∧∀ k (h2:k<rs[i].length),w.cell? ⟨a,k,none⟩=some (.int .i64 rs[i][k]))
def Xg (va vb:Value) (rs:List (List Int)) (w:World) (ha:LL w va rs) (hb:LL w vb rs) (hn:rs.length<100000000) (hs:∀ r∈rs,r.length<1000) :
  Calls Tryz.prog 23 #[va,vb] w fun e w'=>e=.returned (.bool true)∧Below w.heap.size w w':=by
 obtain⟨xa,ca,rfl,hxa⟩:=ha
 obtain⟨xb,cb,rfl,hxb⟩:=hb
 have HXA:=MS hxa
 have HXB:=MS hxb
 have HS:=MS hs
 go_enter Tryz.func23,Tryz.ntmps23
 go_wp2
 go_loopw [5] (fun j wr=>∃ k:Nat,k≤rs.length∧j=.int .i64 k∧Below w.heap.size w wr) fun j _=>rs.length-(intOf j).toNat
 case atStart=>exact⟨0,Nat.zero_le _,rfl,Below.refl _ _⟩
 case round =>
  obtain⟨i,hi,rfl,hbel⟩:=hrel
  by_cases hlt:i<rs.length
  ·have hin:(i:Int)<(rs.length:Int):=by omega
   obtain⟨b1,rfl,lb1,h1⟩:=HXA.o (by omega)
   obtain⟨b2,rfl,lb2,h2⟩:=HXB.o (by omega)
   obtain⟨a1,c1,p1,l1,q1⟩:=h1 i hlt
   obtain⟨a2,c2,p2,l2,q2⟩:=h2 i hlt
   have hsr:=HS.o rs[i] (List.getElem_mem hlt)
   generalize rs[i]=r at *
   have Q1:=MS q1
   have Q2:=MS q2
   have d1:=MZ hbel lb1 p1
   have d2:=MZ hbel lb2 p2
   have HP1:=MS p1
   have HP2:=MS p2
   have HB:=MS hbel
   go_wp2
   go_quiet (fail)
   all_goals
    go_wp2
    go_loopw [6] (fun j wy=>∃ k:Nat,k≤r.length∧j=.int .i64 k∧MT (Below w.heap.size w wy)) fun j _=>r.length-(intOf j).toNat
    case atStart=>exact⟨0,Nat.zero_le _,rfl,HB.trans (QA _ _ _)⟩
    case round =>
     obtain⟨k,hk,rfl,HB⟩:=hrel
     have d1:=(HB.cell (p:=⟨b1,i,none⟩) lb1).trans HP1.o
     have d2:=(HB.cell (p:=⟨b2,i,none⟩) lb2).trans HP2.o
     by_cases hkl:k<r.length
     ·have hkI:(k:Int)<(r.length:Int):=by omega
      have e1:=(HB.cell (p:=⟨a1,k,none⟩) l1).trans (Q1.o k hkl)
      have e2:=(HB.cell (p:=⟨a2,k,none⟩) l2).trans (Q2.o k hkl)
      generalize r[k]=x at *
      go_wp2
      go_quiet (fail)
      all_goals
       go_wp2
       go_roundw
       case rel=>exact⟨k+1,by omega,by go_num,HB.trans (QA _ _ _)⟩
       case measure=>simp[intOf];omega
     ·have hkI:decide ((k:Int)<(r.length:Int))=false:=decide_eq_false (by omega)
      go_wp2
      go_roundw
      case rel=>exact⟨i+1,by omega,by go_num,HB.o⟩
      case measure=>simp[intOf];omega
  ·have hin:decide ((i:Int)<(rs.length:Int))=false:=decide_eq_false (by omega)
   go_wp2
   go_ret
   exact⟨rfl,hbel⟩
structure O4 (a:Act) (g v:Nat):Prop where
 sz:a.tmps.size=106
 df:a.defers=[]
 s6:gA a 6=.pointer (some ⟨g,0,none⟩)
 s12:gA a 12=.int .i64 (v:Int)
structure FW (ws:World) (g:Nat) (pv ev:Value) (v:Nat) (w':World):Prop where
 blk:Blk w' g (jw false pv ev OM OM OM OM OM false) 109
 row:w'.ownsRow ws.heap.size 116 10 ev v (ON (J.fws v) (List.replicate v OM))
 x:JX (fun k=>k=g) ws w'
 lg:g<ws.heap.size
def FW.next {ws w1 w5:World} {g v g5 c5:Nat} {pv ev:Value} (h:FW ws g pv ev v w1) (hown:w5.ownsRow ws.heap.size 116 10 (.slice (some ⟨g5,0,none⟩) (v+1) c5) (v+1) (ON (J.fws v) (List.replicate v OM)++evc (J.fw (v:Int)) OM)) (hg:(w1.alloc (.cells (evc (J.fw (v:Int)) OM).toArray 116)).grownBy w5 ev.ownBlock) :
  FW ws g pv (.slice (some ⟨g5,0,none⟩) (v+1) c5) (v+1) (w5.setCell ⟨g,2,none⟩ (.slice (some ⟨g5,0,none⟩) (v+1) c5)):=by
 have ha:Below w1.heap.size w1 (w1.alloc (.cells (evc (J.fw (v:Int)) OM).toArray 116)):=(Below.refl _ _).alloc (Nat.le_refl _) _
 have s1:=h.x.size
 have lg:=h.lg
 have eb:∀ b,ev.ownBlock=some b→ws.heap.size≤b:=fun b hb=>(h.row.lt b hb).1
 have hx:JX (fun k=>k=g) ws w5:=⟨hg.os.trans (ha.os.trans h.x.os),hg.tape.trans (ha.tape.trans h.x.tape),hg.output.trans (ha.output.trans h.x.output),Nat.le_trans s1 (Nat.le_trans ha.size hg.size),fun k hk hd=>(hg.block k (Nat.lt_of_lt_of_le (Nat.lt_of_lt_of_le hk s1) ha.size) fun e=>by have:=eb k e.symm;omega).trans ((ha.block k (by omega)).trans (h.x.block k hk hd))⟩
 have hb5:Blk w5 g (jw false pv ev OM OM OM OM OM false) 109:=(h.blk.X ha).keep (hg.block g (Nat.lt_of_lt_of_le h.blk.lt ha.size) fun e=>by have:=eb g e.symm;omega)
 refine⟨hb5.set 2 _,?_,hx.set (Or.inl rfl) _ _,lg⟩
 have e:ON (J.fws (v+1)) (List.replicate (v+1) OM)=ON (J.fws v) (List.replicate v OM)++evc (J.fw (v:Int)) OM:=by
  rw[J.fws_snoc,List.replicate_succ',SV (by simp[J.fws_len])]
  simp[ON]
 rw[e]
 exact ownsRow_setCell_other hown fun e=>by have:=(hown.lt g e).1;omega _
def Xh {ws:World} {g:Nat} {pv:Value} {a:Act} {R0:Ending→World→Prop} (hb:Blk ws g (jw false pv OM OM OM OM OM OM false) 109) (sz:a.tmps.size=106) (df:a.defers=[]) (s6:gA a 6=.pointer (some ⟨g,0,none⟩))
  (hN:∀ a' w' ev,a'.tmps.size=106→a'.defers=[]→gA a' 6=.pointer (some ⟨g,0,none⟩)→FW ws g pv ev 3 w'→NG Tryz.prog ((uF Tryz.f22).drop 6) (bodyPost Tryz.prog Tryz.f22 R0) a' w') :
  NG Tryz.prog ((uF Tryz.f22).drop 4) (bodyPost Tryz.prog Tryz.f22 R0) a ws:=by
 obtain⟨i0,hi,hz0,hz1,hz2⟩:=RW Tryz.infoE
 have HN:=MS hN
 have HF0:MT (FW ws g pv OM 0 ws):=⟨hb,World.ownsRow_nil _ _ _ _,JX.refl _ _,hb.lt⟩
 clear hN hb
 rw[OQ sz df]
 simp only[List.range,List.range.loop,List.map_cons,List.map_nil,s6]
 generalize gA a=f
 clear s6 sz df
 refine MX 4 SH rfl fun K HK=>?_
 conv=>arg 2;whnf
 go_wp2_with fail
 refine HK.o _ _ ?_
 clear HK
 refine MX 5 SH rfl fun K8 HK8=>?_
 rw[uF5]
 refine wp_block (wp_loop (fun a w'=>∃ v ev,v≤3∧O4 a g v∧FW ws g pv ev v w') (fun a _=>3-(intOf (gA a 12)).toNat) ⟨0,OM,by omega,⟨rfl,rfl,rfl,rfl⟩,HF0.o⟩ fun a w1 hL=>?_)
 obtain⟨v,ev,hv,hf,hF⟩:=hL
 refine PW _ _ _ _ ?_
 show NG Tryz.prog ((uP Tryz.f22).drop 0) _ a w1
 have hmu:3-(intOf (gA a 12)).toNat=3-v:=by rw[hf.s12];simp[intOf]
 rw[hmu]
 have HF:=MS hF
 clear hmu HF0 hF
 obtain⟨sz,df,s6,s12⟩:=hf
 rw[OQ sz df]
 simp only[List.range,List.range.loop,List.map_cons,List.map_nil,s6,s12]
 generalize gA a=f2
 clear s6 s12 sz df
 by_cases hlt:v<3
 ·have hin:(v:Int)<3:=by omega
  refine MX 0 SS rfl fun K HK=>?_
  conv=>arg 2;whnf
  go_wp2_with fail
  refine HK.o _ _ ?_
  clear HK
  refine MX 1 SS rfl fun K HK=>?_
  conv=>arg 2;whnf
  go_wp2_with fail
  refine HK.o _ _ ?_
  clear HK
  refine MX 2 SS rfl fun K2 HK2=>?_
  rw[uP2]
  refine wp_block (PW _ _ _ _ ?_)
  show NG Tryz.prog ((uE Tryz.f22).drop 0) _ _ w1
  obtain⟨ea,ec,rfl⟩:=RL HF.row
  have cg:=HF.blk.cell (i:=2) (v:=.slice ea v ec) rfl
  have fg:=HF.blk.free 2
  have lg:=HF.blk.lt
  have HAL:MT (Below w1.heap.size w1 (w1.alloc (.cells (evc (J.fw (v:Int)) OM).toArray 116))):=(Below.refl _ _).alloc (Nat.le_refl _) _
  have HGZ:MT (∀ b,Value.ownBlock (.slice ea v ec)=some b→b≠g):=fun b hb e=>by have:=(HF.row.lt b hb).1;have:=HF.lg;omega
  have hsz:ws.heap.size≤w1.heap.size:=HF.x.size
  refine MX 0 Vj rfl fun K HK=>?_
  conv=>arg 2;whnf
  go_wp2_with (first | (at_builtin;refine wpList_append_lies _ rfl (.tmp 89) (.tmp 92) 107 rfl ws.heap.size 116 i0 (.agg (evc J.E.zero (.slice none 0 0)).toArray) 10 120 Tryz.underlying107 hi hz0 hz1 hz2 rfl (by decide) _ v (ON (J.fws v) (List.replicate v OM)) rfl (by exact RO HF.row HAL.o) ⟨w1.heap.size,0,none⟩ 1 1 (evc (J.fw (v:Int)) OM) rfl rfl (fun j u hu=>by rw[RK,Nat.zero_add];exact (Blk.new w1 (evc (J.fw (v:Int)) OM) 116).cell hu) (by exact TB [J.fw (v:Int)] [OM] (by simp[OM];rfl)) (by decide) (by unfold maxLen;omega) (by omega) (by simp;omega) (w1.heap.size+1) (by simp) ?_;intro g5 c5 w5 hown5 hgrow5 hat5 hlt5;have HLP:=MS (HF.next (g5:=g5) (c5:=c5) (w5:=w5) hown5 hgrow5);have cg5:=(hgrow5.cell_far ⟨g,2,none⟩ (by simp;omega) fun e=>HGZ.o g e.symm rfl).trans ((HAL.cell (p:=⟨g,2,none⟩) lg).trans cg);have fg5:=(hgrow5.frozen_far ⟨g,2,none⟩ (by simp;omega) fun e=>HGZ.o g e.symm rfl).trans ((HAL.frozen (p:=⟨g,2,none⟩) lg).trans fg);have lg5:g<w5.heap.size:=(by have:=hgrow5.size;simp at this;omega);clear hown5 hgrow5 hat5 hlt5))
  refine HK.o _ _ ?_
  clear HK
  refine HK2.o _ _ ?_
  refine MX 3 SS rfl fun K HK=>?_
  conv=>arg 2;whnf
  go_wp2_with fail
  refine HK.o _ _ ?_
  clear HK
  refine⟨⟨v+1,_,hlt,⟨rfl,rfl,rfl,rfl⟩,HLP.o⟩,?_⟩
  show 3-((v:Int)+1).toNat<3-v
  omega
 ·have hve:v=3:=by omega
  subst hve
  refine MX 0 SS rfl fun K HK=>?_
  conv=>arg 2;whnf
  go_wp2_with fail
  refine HK.o _ _ ?_
  clear HK
  refine MX 1 SS rfl fun K _=>?_
  conv=>arg 2;whnf
  go_wp2_with fail
  refine HK8.o _ _ ?_
  exact HN.o _ _ _ rfl rfl rfl HF.o
def Xi (w:World) (ts:List R.Th) (e:Ending) (w':World):Prop:=∃ (ov:Value) (rs:List (List Int)) (c:Bool) (D:Nat→Prop),e=.returned (.tuple #[ov,.bool c])∧QP w' D ov rs∧J.Grew (4*ts.length+3) [] rs false c (J.ThP (J.pss ts) J.W0) (J.ThC (J.pss ts) J.W0)∧Below w.heap.size w w'
def FW.th {ws:World} {g:Nat} {pv ev:Value} {w3:World} {pss:List (List J.Pth)} {L:Nat} (h:FW ws g pv ev 3 w3) (hps:SN ws g pv pss) (pk:∀ ps∈pss,∀ p∈ps,p.e.length≤100∧p.g.length=4) (pl:∀ ps∈pss,ps.length≤1000) :
  QD w3 w3 (fun k=>k=g) g pv ev OM OM OM OM OM pss J.W0 [] [] (List.replicate 3 OM) L [] false J.W0.base:=by
 have lg:=h.blk.lt
 have hge:∀ b,ev.ownBlock=some b→b≠g:=fun b hb e=>by have:=(h.row.lt b hb).1;have:=h.lg;omega
 refine⟨JX.refl _ _,hps.x h.x,lg,h.blk,⟨?_,by simp[J.W0,J.fws_len],fun i hi=>?_⟩,fun b hb e=>hge b hb e,⟨none,0,rfl,Nat.le_refl _,Or.inl ⟨rfl,rfl,rfl⟩⟩,(fun b hb=>by cases hb),⟨Or.inl ⟨rfl,rfl⟩⟩,Nat.le_refl _,rfl,(fun b hb=>by cases hb),⟨[],⟨rfl,fun i u a h1=>by simp at h1⟩,Or.inl ⟨rfl,rfl⟩⟩,?_,by simp,fun x e=>by rw[e];exact lg,rfl,fun x e=>Or.inl e,by simp[J.W0,J.fws_len],by simp[J.W0,J.fws_len],rfl,pk,pl⟩
 ·have:=SlC.own h.row (by omega)
  simpa [J.W0,J.fws_len] using this
 ·have hi3:i<3:=by simpa [J.W0,J.fws_len] using hi
  have:i=0∨i=1∨i=2:=by omega
  rcases this with rfl | rfl | rfl<;>exact OP.nil _ _
 ·exact List.Pairwise.nil
def Xj {w:World} {B0 bt ct:Nat} {ts:List R.Th} (hT:ThW w B0 bt ts) (hp:0<ts.length) (hF:∀ W',J.Reach (J.pss ts) J.W0 W'→J.FinOk (4*ts.length+3) W') :
  Calls Tryz.prog 22 #[.slice (some ⟨bt,0,none⟩) ts.length ct,.bool false] w (Xi w ts):=by
 have HT:=MS hT
 have HF:=MS hF
 have HP:=MS hp
 clear hT hF hp
 go_enter Tryz.func22,Tryz.ntmps22
 refine PW _ _ _ _ ?_
 show NG Tryz.prog ((uF Tryz.f22).drop 0) _ _ w
 refine MX 0 SH rfl fun K HK=>?_
 conv=>arg 2;whnf
 go_wp2_with fail
 refine HK.o _ _ ?_
 clear HK
 refine MX 1 SH rfl fun K HK=>?_
 conv=>arg 2;whnf
 go_wp2_with fail
 refine HK.o _ _ ?_
 clear HK
 refine MX 2 SH rfl fun K HK=>?_
 conv=>arg 2;whnf
 go_wp2_with fail
 refine HK.o _ _ ?_
 clear HK
 have HAL:MT (Below w.heap.size w (w.alloc (.cells #[.bool false,.slice none 0 0,.slice none 0 0,.slice none 0 0,.slice none 0 0,.slice none 0 0,.slice none 0 0,.slice none 0 0,.bool false] 109))):=(Below.refl _ _).alloc (Nat.le_refl _) _
 refine Vp (g:=w.heap.size) HT.o ⟨Nat.le_refl _,Blk.new w (jw false OM OM OM OM OM OM OM false) 109,World.ownsRow_nil _ _ _ _,trivial,fun k ⟨x,hx,_⟩=>by simp at hx,(fun b hb=>by cases hb),HAL.o⟩ ⟨rfl,rfl,rfl,rfl,rfl,rfl⟩ fun a1 w1 pv Us f1 o1=>?_
 refine Xh o1.blk f1.sz f1.df f1.s6 fun a2 w2 ev sz df s6 hFW=>?_
 have hpl:0<(J.pss ts).length:=by rw[J.pss_len];exact HP.o
 have hpl4:(J.pss ts).length≤4:=by rw[J.pss_len];exact HT.n
 have hmem:∀ ps∈J.pss ts,∃ (t:Nat) (h:t<ts.length),ps=J.pths ts[t] t:=fun ps hps=>by
  obtain⟨t,h1,h2⟩:=List.mem_iff_getElem.1 hps
  rw[J.pss_len] at h1
  exact⟨t,h1,by rw[← h2];simp[J.pss]⟩
 have hps:=o1.ps hpl fun ps hps=>by
  obtain⟨t,h,rfl⟩:=hmem ps hps
  have:=J.paths_pos ts[t].body 4 []
  simpa [J.pths] using this
 have hth:=hFW.th (L:=4*ts.length+3) hps fun ps hps p hp=>by
  obtain⟨t,h,rfl⟩:=hmem ps hps
  obtain⟨q,hq,rfl⟩:=List.mem_map.1 hp
  have hok:=(HT.at_ t h).1
  have:=J.paths_len _ hok.fit hok.sz 4 [] (by simp) (by simp) q hq
  simp only[J.Pth.tag,List.length_map]
  omega fun ps hps=>by
  obtain⟨t,h,rfl⟩:=hmem ps hps
  have:=J.paths_le ts[t].body 4 []
  simp only[J.pths,List.length_map]
  omega
 have HCL:=MS (Di hpl hpl4 (J.pss ts).length 0 (by omega) w2 _ _ _ _ _ _ _ _ _ _ _ hth rfl HF.o)
 have HO:=MS o1
 have HX:=MS hFW.x
 clear hth hps hmem o1 hFW f1
 rw[OQ sz df]
 simp only[List.range,List.range.loop,List.map_cons,List.map_nil,s6]
 generalize gA a2=f
 clear s6 sz df
 refine MX 6 SH rfl fun K HK=>?_
 conv=>arg 2;whnf
 go_wp2_with (first | (go_at_call 40;refine HCL.mono ?_;rintro e w5 ⟨rfl,D',ev',rv',bv',fv',av',ov',rs',c',ons',bl',hJ,hd1,hd2,hx5,hgr⟩;have HJ:=MS hJ;have HX5:=MS hx5;have HG:=MS hgr;clear hJ hd1 hd2 hx5 hgr))
 refine HK.o _ _ ?_
 clear HK
 have c7:=HJ.blk.cell (i:=7) (v:=ov') rfl
 have c8:=HJ.blk.cell (i:=8) (v:=.bool c') rfl
 have lg:=HJ.blk.lt
 refine MX 7 SH rfl fun K1 HK1=>?_
 conv=>arg 2;whnf
 go_quiet (fail)
 refine HK1.o _ _ ?_
 refine MX 8 SH rfl fun K _=>?_
 conv=>arg 2;whnf
 go_wp2_with fail
 refine bodyPost_ret (results_tmp2 (t:=4) (u:=5) rfl _ _ _) rfl ?_
 have hbb:Below w.heap.size w w5:=⟨HX5.os.trans (HX.os.trans HO.be.os),HX5.tape.trans (HX.tape.trans HO.be.tape),HX5.output.trans (HX.output.trans HO.be.output),Nat.le_trans HO.be.size (Nat.le_trans HX.size HX5.size),fun k hk=>by
  have s1:=HO.be.size
  have s2:=HX.size
  rw[HX5.block k (by omega) (by omega),HX.block k (by omega) (by omega),HO.be.block k hk]⟩
 have hd:Below w5.heap.size w5 (w5.drewN nq):=PZ _ _ nq
 exact⟨ov',rs',c',D',rfl,HJ.y.x (JX.of (P:=fun _=>False) hd) fun _ _ e=>e.elim,HG.o,hbb.trans (hd.mono hbb.size)⟩
namespace Q
def src_lens {ts:List P.NB} (h:P.KerIs ts):∀ r∈(QJ ts).y,r.length<1000:=fun r hr=>by
 obtain⟨c,hc,ds,hds,_,rfl⟩:=(TG ts r).1 hr
 obtain⟨d,hd,rs,hrs,rfl,_⟩:=SP.1 hc
 have hw:=TF (SZ h (SI hd)) (by have:=h.few;omega)
 have:=hw.g
 unfold RE
 simp only[List.length_append,List.length_cons,List.length_nil]
 omega
end Q
def Xk {w:World} {B bt cap:Nat} {ts:List R.Th} {vs:List Value} {Fs:List (List Nat)} (h:ThsAt w B (.slice (some ⟨bt,0,none⟩) ts.length cap) ts vs Fs) (hok:∀ t∈ts,J.ThOk t) (hn:ts.length≤4):ThW w B bt ts:=by
 refine⟨(h.own.lt bt rfl).2,hn,fun t ht=>⟨hok _ (List.getElem_mem ht),?_⟩⟩
 have hv:t<vs.length:=by rw[h.lv];exact ht
 have hF:t<Fs.length:=by rw[h.lF];exact ht
 obtain⟨c0,c1,c2⟩:=WG ts vs h.lv t ts[t] vs[t] (by simp[ht]) (by simp[hv])
 exact⟨vs[t],Fs[t],(h.own.cellAt _ (by omega)).trans c0,(h.own.cellAt _ (by omega)).trans c1,h.kid t ts[t] vs[t] Fs[t] (by simp[ht]) (by simp[hv]) (by simp[hF])⟩
def HandO.X {B:Nat} {w w':World} {ov:Value} {rs:List (List Int)} {vs:List Value} (h:HandO B w ov rs vs) (hb:Below w.heap.size w w'):HandO B w' ov rs vs:=by
 refine⟨h.y.X hb,h.hand.own fun u hu k e=>?_,h.lo,h.lr⟩
 obtain⟨i,hi,rfl⟩:=List.mem_iff_getElem.1 hu
 obtain⟨k',e1,e2⟩:=h.hand.ex i (by rw[← h.y.len];exact hi) vs[i] (List.getElem?_eq_getElem hi)
 rw[e1] at e
 simp only[Value.ownBlock,Option.some.injEq] at e
 subst e
 exact hb.block _ e2.lt
def HandO.ll {B:Nat} {w:World} {ov:Value} {rs:List (List Int)} {vs:List Value} (h:HandO B w ov rs vs):LL w ov rs:=by
 obtain⟨a,c,e,hf⟩:=h.y.form
 refine⟨a,c,e,fun h0=>?_⟩
 obtain⟨b,e1,_,e2,e3⟩:=hf h0
 refine⟨b,e1,e2,fun i hi=>?_⟩
 have hv:i<vs.length:=by rw[h.y.len];exact hi
 obtain⟨k,f1,f2⟩:=h.hand.ex i hi vs[i] (List.getElem?_eq_getElem hv)
 exact⟨k,_,by rw[e3 i hv,f1],f2.lt,fun j hj=>f2.cell j hj⟩
def QP.ll {D:Nat→Prop} {w:World} {ov:Value} {rs:List (List Int)} (h:QP w D ov rs):LL w ov rs:=by
 obtain⟨us,hr,h⟩:=h
 rcases h with ⟨rfl,rfl⟩ | ⟨b,cap,rfl,h1,h2,_,_⟩
 ·exact⟨none,0,rfl,fun h=>absurd h (by simp)⟩
 ·refine⟨_,cap,rfl,fun h0=>⟨b,rfl,h2,fun i hi=>?_⟩⟩
  have hv:i<us.length:=by rw[hr.1];exact hi
  obtain⟨a,c,f1,f2,f3,_⟩:=hr.2 i us[i] rs[i] (List.getElem?_eq_getElem hv) (List.getElem?_eq_getElem hi)
  exact⟨a,c,by rw[h1 i us[i] (List.getElem?_eq_getElem hv),f1],f3,f2⟩
def RJ.of {N gw:Nat} {w w1 w2:World} (h:RJ N w1 w2 gw) (hb:Below w.heap.size w w1) (hN:N≤w.heap.size):RJ N w w2 gw:=by
 obtain⟨o1,n1,c1,o2,n2,c2,a,b,c,d,e,f,g,h⟩:=h
 exact⟨o1,n1,c1,o2,n2,c2,a,b,c,d,e,f,g,(hb.mono hN).trans h⟩
def RJ.nil {N gw:Nat} {t:Value} {w w':World} (hg:w.heap[gw]?=some (.cells #[t,.slice none 0 0,.slice none 0 0] 26 (0,0))) (hb:Below w.heap.size w w') (hN:N≤w.heap.size):RJ N w w' gw:=by
 have hl:=(Array.getElem?_eq_some_iff.1 hg).1
 have hg':=(hb.block gw hl).trans hg
 exact⟨none,0,0,none,0,0,by simp[World.cell?,hg'],by simp[World.cell?,hg'],fun h=>absurd h (by omega),fun h=>absurd h (by omega),by omega,by omega,Nat.lt_of_lt_of_le hl hb.size,hb.mono hN⟩
def Xl (s:ByteArray) (w:World) (h:s.size≤8192) (hf:((P.PK s.toList).2.1 != 0)=true) :
  Calls Tryz.prog 9 #[.string s] w fun e w'=>e=.returned (.tuple #[.slice none 0 0,.bool false,.int .i64 (P.PK s.toList).2.1,.int .i64 (P.PK s.toList).2.2])∧Below w.heap.size w w':=by
 go_enter Tryz.func9,Tryz.ntmps9
 go_wp2_with (first | (go_at_call 25;refine (VL s _ h).mono ?_;rintro e w1 ⟨tv,rfl,⟨ta,tm,tc,rfl⟩,_,hb1⟩))
 refine bodyPost_ret (Aj rfl _ _ _) rfl ⟨rfl,?_⟩
 exact hb1.alloc hb1.size _
def Xm (N gw:Nat) (t:Value) (ec lc:Int) (ta:Option Addr) (tn tc:Nat) (w:World) (hec:(ec != 0)=true) (hg:w.heap[gw]?=some (.cells #[t,.slice none 0 0,.slice none 0 0] 26 (0,0))) (hN:N≤w.heap.size) :
  Calls Tryz.prog 8 #[.pointer (some ⟨gw,0,none⟩),.slice none 0 0,.bool false,.int .i64 ec,.int .i64 lc,.slice ta tn tc,.int .i64 ec,.int .i64 lc,.bool false] w fun e w'=>e=.returned (.bool true)∧RJ N w w' gw:=by
 have HE:MT (RJ N w w gw):=RJ.nil hg (Below.refl _ _) hN
 have hnil:∀ wx,(binOp .eql 23 (.slice none 0 0) (.slice none 0 0)).run Tryz.prog wx=.ok (.bool true) wx:=fun wx=>run_eql_nil_slice wx _ 37 none 0 0 0 0 (by kernel_rfl)
 go_enter Tryz.func8,Tryz.ntmps8
 go_wp2
 go_ret
 exact⟨rfl,HE.o⟩
def Xn (N gw bt ct B0:Nat) (t ov:Value) (cl:Bool) (rows:List (List Int)) (vs:List Value) (ts:List R.Th) (w:World) (hg:w.heap[gw]?=some (.cells #[t,.slice none 0 0,.slice none 0 0] 26 (0,0))) (hNg:N≤gw) (h:HandO N w ov rows vs) (hn:rows.length<100000000) (hs:∀ r∈rows,r.length<1000)
  (hT:ThW w B0 bt ts) (hp:0<ts.length) (hF:∀ W',J.Reach (J.pss ts) J.W0 W'→J.FinOk (4*ts.length+3) W') (hEq:∀ rs c,J.Grew (4*ts.length+3) [] rs false c (J.ThP (J.pss ts) J.W0) (J.ThC (J.pss ts) J.W0)→rs=rows∧c=cl) :
  Calls Tryz.prog 8 #[.pointer (some ⟨gw,0,none⟩),ov,.bool cl,.int .i64 0,.int .i64 0,.slice (some ⟨bt,0,none⟩) ts.length ct,.int .i64 0,.int .i64 0,.bool false] w fun e w'=>e=.returned (.bool true)∧RJ N w w' gw:=by
 have hl:=(Array.getElem?_eq_some_iff.1 hg).1
 obtain⟨xa,xc,hov,_⟩:=h.y.form
 have HG:=MS hg
 have HH:=MS h
 have HT:=MS hT
 have HF:=MS hF
 have HQ:=MS hEq
 have HS:=MS hs
 have hNw:N≤w.heap.size:=by omega
 have hcc:(cl==cl)=true:=by simp
 subst hov
 go_enter Tryz.func8,Tryz.ntmps8
 go_wp2_with (first
  | (go_at_call 22;refine (Xj HT.o hp HF.o).mono ?_;rintro e w1 ⟨jv,rs,c,D,rfl,hjr,hgr,hb1⟩;obtain⟨hr,hc⟩:=HQ.o rs c hgr;subst hr;subst hc;have JR:=MS hjr.ll;have B1:=MS hb1;obtain⟨ja,jc,hjv,_⟩:=hjr.ll;subst hjv;dsimp only)
  | (go_at_call 23;refine (Xg _ _ rs _ (HH.X B1.o).ll JR.o hn HS.o).mono ?_;rintro e w2 ⟨rfl,hb2⟩;have B2:=MS (NE B1.o (Nat.le_refl _) hb2))
  | (go_at_call 24;refine (Rm ((B2.block gw hl).trans HG.o) hNg (HH.X B2.o) hn HS.o).mono ?_;rintro e w3 ⟨rfl,hm⟩;have HM:=MS (hm.of B2.o hNw)))
 go_ret
 exact⟨rfl,HM.o⟩
def Xo (N gw:Nat) (t:Value) (s:ByteArray) (w:World) (hs:s.size≤8192) (hg:w.heap[gw]?=some (.cells #[t,.slice none 0 0,.slice none 0 0] 26 (0,0))) (hNg:N≤gw) :
  Calls Tryz.prog 4 #[.pointer (some ⟨gw,0,none⟩),.string s,.bool false] w fun e w'=>e=.returned (.bool true)∧RJ N w w' gw:=by
 have hl:=(Array.getElem?_eq_some_iff.1 hg).1
 obtain⟨hk,hc⟩:=V0 s.toList
 have HG:=MS hg
 have hNw:N≤w.heap.size:=by omega
 have HR:=MS fun w=>T0 s w hs
 cases ze:(P.PK s.toList).2.1 != 0
 ·have h0:(P.PK s.toList).2.1=0:=by simpa using ze
  have hl0:=(P.TD h0).2.1
  have hr2:(R.read s.toList).2=(0,0):=by rw[← hk];exact Prod.ext h0 hl0
  obtain⟨k,hth,_⟩:=hc (by rw[hr2])
  have hki:=P.TE h0
  obtain⟨hok,hlen,_,_⟩:=J.two_sides hth hki
  have HSK:=MS fun w=>Um s w hs h0
  have HLN:=MS (Q.src_lens hki)
  have HFW:=MS (Q.Ck hki)
  have HQ:=MS fun rs c (g:J.Grew (4*(R.read s.toList).1.length+3) [] rs false c (J.ThP (J.pss (R.read s.toList).1) J.W0) (J.ThC (J.pss (R.read s.toList).1) J.W0))=>J.two_rows hth hki g
  have h4:(R.read s.toList).1.length≤4:=by have:=hki.few;omega
  have hp:0<(R.read s.toList).1.length:=by have:=List.length_pos_iff.2 hki.ne;omega
  have HF:=MS (J.fin_ok hok hp h4)
  have HOK:=MS hok
  have HP:MT (∀ w,Calls Tryz.prog 10 #[.string s] w fun e w'=>∃ bt cap B vs Fs,e=.returned (.tuple #[.slice (some ⟨bt,0,none⟩) (R.read s.toList).1.length cap,.int .i64 0,.int .i64 0])∧ThsAt w' B (.slice (some ⟨bt,0,none⟩) (R.read s.toList).1.length cap) (R.read s.toList).1 vs Fs∧Below w.heap.size w w'):=fun w=>by
   refine (HR.o w).mono ?_
   rintro e w' ⟨tv,rfl,h1,_,hb⟩
   rw[hr2] at h1 ⊢
   obtain⟨bt,cap,B,vs,Fs,rfl,h2⟩:=h1 rfl
   exact⟨bt,cap,B,vs,Fs,rfl,h2,hb⟩
  clear hk hc ze h0 hl0 hr2 hth hki hok hlen HR hg
  generalize (R.read s.toList).1=ts at *
  generalize Q.QJ (P.PK s.toList).1=SO at *
  go_enter Tryz.func4,Tryz.ntmps4
  go_wp2_with (first
   | (go_at_call 9;refine (HSK.o _).mono ?_;rintro e w1 ⟨ov,vs,rfl,hho,hb1⟩;have HO:=MS hho;have B1:=MS hb1;obtain⟨xa,xc,hov,_⟩:=hho.y.form;subst hov;clear hho hb1;dsimp only)
   | (go_at_call 10;refine (HP.o _).mono ?_;rintro e w2 ⟨bt,cap,B,us,Fs,rfl,hths,hb2⟩;have HT2:=MS (Xk hths HOK.o h4);have HO2:=MS (HO.X hb2);have B2:=MS (NE B1.o (Nat.le_refl _) hb2);dsimp only)
   | (go_at_call 8;refine (Xn N gw bt cap B t _ SO.clash SO.y vs ts _ ((B2.block gw hl).trans HG.o) hNg (HO2.mono hNw) HFW.o HLN.o HT2.o hp HF.o HQ.o).mono ?_;rintro e w3 ⟨rfl,hm⟩;have HM:=MS (hm.of B2.o hNw)))
  go_ret
  exact⟨rfl,HM.o⟩
 ·have HSK:=MS fun w=>Xl s w hs ze
  have HP:MT (∀ w,Calls Tryz.prog 10 #[.string s] w fun e w'=>∃ a q cc,e=.returned (.tuple #[.slice a q cc,.int .i64 (P.PK s.toList).2.1,.int .i64 (P.PK s.toList).2.2])∧Below w.heap.size w w'):=fun w=>by
   refine (HR.o w).mono ?_
   rintro e w' ⟨tv,rfl,_,⟨a,q,cc,rfl⟩,hb⟩
   rw[hk]
   exact⟨a,q,cc,rfl,hb⟩
  generalize (P.PK s.toList).2.1=ec at *
  generalize (P.PK s.toList).2.2=lc at *
  have HZ:=MS ze
  go_enter Tryz.func4,Tryz.ntmps4
  go_wp2_with (first
   | (go_at_call 9;refine (HSK.o _).mono ?_;rintro e w1 ⟨rfl,hb1⟩;have B1:=MS hb1;dsimp only)
   | (go_at_call 10;refine (HP.o _).mono ?_;rintro e w2 ⟨va,vq,vc,rfl,hb2⟩;have B2:=MS (NE B1.o (Nat.le_refl _) hb2);dsimp only)
   | (go_at_call 8;refine (Xm N gw t ec lc va vq vc _ HZ.o ((B2.block gw hl).trans HG.o) (Nat.le_trans hNw B2.size)).mono ?_;rintro e w3 ⟨rfl,hm⟩;have HM:=MS (hm.of B2.o hNw)))
  go_ret
  exact⟨rfl,HM.o⟩
def Xp (s:ByteArray) (w:World):Calls Tryz.prog 3 #[.string s] w fun e w'=>e=.returned (.bool true)∧Below w.heap.size w w':=by
 by_cases hs:s.size≤8192
 ·have hs':¬ (8192:Int)<(s.size:Int):=by omega
  go_enter Tryz.func3,Tryz.ntmps3
  go_wp2_with (first
   | (go_at_call 4;refine (Xo w.heap.size w.heap.size (.string ⟨#[]⟩) s _ hs (by exact heap_alloc_new w _) (Nat.le_refl _)).mono ?_;rintro e w1 ⟨rfl,o1,n1,c1,o2,n2,c2,a1,a2,a3,a4,a5,a6,a7,hb⟩;have HB:=MS (((Below.refl w.heap.size w).alloc (Nat.le_refl _) _).trans hb);have H3:=MS a3;have H4:=MS a4)
   | (go_at_call 5;refine (Oc w.heap.size o1 o2 n1 n2 c1 c2 _ a7 a1 a2 H3.o H4.o a5 a6).mono ?_;rintro e w2 ⟨rfl,hb2⟩;have HB2:=MS (HB.trans (hb2.mono HB.size))))
  go_ret
  exact⟨rfl,HB2.o⟩
 ·have hs':(8192:Int)<(s.size:Int):=by omega
  go_enter Tryz.func3,Tryz.ntmps3
  go_wp2
  go_ret
  exact⟨rfl,Below.refl _ _⟩
end Go.Proofs.YtehclbpoabdpoaaGreatDoor
namespace Go.Proofs.YtehclbpoabdpoaaGreatDoor
set_option maxRecDepth 100000
open Go Go.ChangeShapes Go.WideShapes Go.ChangeAt Go.RowKit Go.WideElems
open Go.ChangeMaps (open_string shut_string)
def Xq:ownKnob Tryz.prog.godebug=none:=by kernel_rfl
def Xr (os:Os) (args:Array Value):laidMetH Tryz.prog Rows.sourcesRow.laid ((World.doorLaid Tryz.prog 400 os).forCall (fun _ _=>0) ⟨#[],args,[]⟩).memory :=
 laidMetH_of_parts3 (fuel:=8) (laidMet_of_run' 8 (by kernel_rfl) (by kernel_rfl)) (by kernel_rfl) (by kernel_rfl)
def Xs (os:Os) (started:os.Started) (H:Type) (enc:TypeId × Value→H) :
  ReturnsInHanded {} Tryz.checked os 3 .any (fun w args=>(Rows.sourcesSpec.pre enc Tryz.prog Tryz.f3 [] false w args∧laidMetH Tryz.prog Rows.sourcesRow.laid w)∧sizedMet enc Tryz.prog Tryz.f3 (OpenSpec.ofChange Rows.sourcesSpec) false w args)
   (Rows.sourcesSpec.post enc Tryz.prog Tryz.f3 false true false false):=by
 refine returnsInHanded_of_change_and (C:=Tryz.checked) (X:=fun w _=>laidMetH Tryz.prog Rows.sourcesRow.laid w) (fun _ _ _ hh h=>h.of_heap hh) Xq started (by kernel_rfl) Tryz.func3
  (ChangeSpec.witness_shaped (enc:=enc) (C:=Tryz.checked) (os:=os) (X:=fun w _=>laidMetH Tryz.prog Rows.sourcesRow.laid w) false (World.doorLaid Tryz.prog 400 os) #[.string ⟨#[]⟩] 8 rfl (World.shaped_of_RefB (by kernel_rfl) (by kernel_rfl)) (by kernel_rfl) (by kernel_rfl) (by kernel_rfl) (Xr os _)) ?_
 intro W base args ds gs MY hval0 hW _ _ _ _
 have hval:∀ (j:Nat) t v,Tryz.f3.params[j]?=some t→args[j]?=some v→Value.okWide Tryz.prog W .any base t v:=hval0
 have hW':=hW
 obtain⟨p,q,hA0,hV,rfl,hfz,hnd⟩:=hW
 have hA:DataW.TrodAll enc Tryz.prog W 0 (fun _=>true) true Tryz.f3.params.toList args.toList ds p:=hA0
 rw[Tryz.params3] at hA hval
 obtain⟨v0,d0,rfl,rfl,h0⟩:=trodAll_one hA
 obtain⟨rfl,rfl⟩:=trodVars_none hV
 obtain⟨s,rfl,rfl,rfl,ws⟩:=open_string Tryz.underlying9 (hval 0 9 v0 rfl rfl) h0
 simp only[List.append_nil] at hW'
 have e1:Rows.sourcesSpec.fn H ([.lit (.string s.data.toList)]++[])={ results:=[.lit (.bool true)],args:=[.lit (.string s.data.toList)] }:=by simp[Rows.sourcesSpec]
 refine (Xp s W).mono fun e W' ⟨he,hB⟩=>?_
 subst he
 refine⟨_,rfl,_,_,_,[],[],[],hW',?_,?_,?_,hB.frame _,fun h=>by cases h⟩
 ·rw[e1];exact trodAll_mk1 (shut_bool Tryz.underlying4 true)
 ·rw[e1];exact trodAll_mk1 (shut_string Tryz.underlying9 ws)
 ·rw[e1];rfl
def sources_holds:Rows.SourcesSaid :=
 OpenClaim.holds_of_wide 3 Tryz.f3 rfl rfl rfl rfl rfl rfl rfl ⟨rfl,rfl,rfl,rfl,rfl⟩ rfl rfl rfl rfl rfl (by kernel_rfl) Tryz.func3 (by kernel_rfl)
  (of_decide_eq_true (by kernel_rfl)) (by unfold Func.isWrapper;first | (rw[if_pos (by decide +kernel)];kernel_rfl) | (rw[if_neg (by decide +kernel)];exact⟨rfl,rfl⟩))
  fun os started H enc _=>Xs os started H enc
def sources_card_holds:Rows.SourcesCardSaid :=
 Claim7.holds_tied_plain_at .later [] [.data,.data,.data] true Rows.sourcesCard.stood.harness false
  sources_holds (fun _ h=>by cases h) (by kernel_rfl) (fun _ h=>by cases h) sources_row_tie rfl ⟨rfl,rfl⟩ (by kernel_rfl) rfl
  fun f fn hf hfn=>by
   obtain rfl:f=3:=Option.some.inj ((show Tryz.prog.funcNamed Rows.sourcesRow.func=some 3 by kernel_rfl).symm.trans hf) |>.symm
   obtain rfl:fn=Tryz.f3:=(Option.some.inj (Tryz.func3.symm.trans hfn)).symm
   exact⟨by kernel_rfl,fun j t ht=>by
    rw[Tryz.params3] at ht
    have hm:t∈[9]:=by simpa using Array.mem_of_getElem? ht
    have hall:([9].all fun u=>!Tryz.prog.wantsStandIn u)=true:=by kernel_rfl
    exact show Tryz.prog.wantsStandIn t=false by simpa using List.all_eq_true.1 hall t hm⟩
  (by kernel_rfl)
#print axioms sources_card_holds
end Go.Proofs.YtehclbpoabdpoaaGreatDoor
