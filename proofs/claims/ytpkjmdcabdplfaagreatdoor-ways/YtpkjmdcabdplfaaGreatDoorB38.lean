import Derived.Test.YtpkjmdcabdplfaaGreatDoorB37
set_option linter.unusedVariables false
set_option linter.unusedSimpArgs false
namespace Go.Proofs.YtpkjmdcabdplfaaGreatDoor
open Go Go.RowKit
set_option maxRecDepth 100000
set_option maxRecDepth 1000000 in
set_option maxHeartbeats 12800000 in
theorem VlPreF (w wr:World) (g:Nat) (tx:ByteArray) (lb:Int) (pv:Value) (fb:Bool) (pr:Int→Bool) (l:List R.Tree) (n k:Nat) (u:ByteArray) (lk:Int) (b sc:Nat) (uv:Value) (t:R.Tree) (H:Hid (VC w wr g tx lb pv fb pr l n k u lk b uv t)) (hv0:0≤t.x.var) (HF:R.fenB pr t.x=true) (Q:Exit→Act→World→Prop) (c2 c3 u5 u6 u7 u8 u9 Za Zl Zw ZH ZS Z3 Ye Yp YA YL YW Y7 Xi Xt XE XP XX XY XZ X0 X1 X2 X3 X4 X5 X6 X7 X8 X9 Wa Wb Wc Wd We Wf Wg Wh Wi Wj Wk Wl Wm Wn Wo Wp Wq Wr Ws Wt Wu Wv Ww Wx Wy Wz WA WB WC WD WE WF WG WH WI WJ WK WL WM WN WO WP WQ WR WS WT WU WV WW WX WY WZ W0 W4 W5 W6 W7 W8 W9 Va Vb Zb Zc Zd Ze Zf Zg Zh Zi Zj Zk Zm Zn Zo Zp Zq Zr Zs Zt Zu Zv Zx Zy Zz ZA ZB ZC ZD ZE ZF ZG ZI ZJ ZK ZL ZM ZN ZO ZP ZQ ZR ZT ZU ZV ZW ZX ZY ZZ Z0 Z1 Z2 Z4 Z5 Z6 Z7 Z8 Z9 Ya Yb Yc Yd Yf Yg Yh Yi Yj Yk Yl Ym Yn Yo Yq Yr Ys Yt Yu Yv Yw Yx Yy Yz YB YC YD YE YF YG YH YI YJ YK YM YN YO YP YQ YR YS YT YU YV YX YY YZ Y0 Y1 Y2 Y3 Y4 Y5 Y6 Y8 Y9 Xa Xb Xc Xd Xe Xf Xg Xh Xj Xk Xl Xm Xn Xo Xp Xq Xr Xs Xu Xv Xw Xx Xy Xz XA XB XC XD XF XG XH XI XJ XK XL XM XN XO XQ XR XS XT XU XV XW:Value)
  (hK:Hid (∀ (so sh sq sr sa sb se st:ByteArray) (w3:World) (VG Ub Um Ux UI UT U4 Tf Tq TB TM TU TV TW TX TY TZ T0 T1 T2 T3 T4 T5 T6 T7 T8 T9 Sa Sb Sc Sd Se Sf Sg Sh Si Sj Sk Sl Sm Sn So Sp Sq Sr Ss St Su Sv Sw Sx Sy Sz SA SB SC SD SE SF SG SH SI SJ SK SL SM SN SO SP SQ SR SS ST SU SV SW SX SY SZ S0 S1 S2 S3 S4 S5 Vc Vd Ve Vf Vg Vh Vi Vj Vk Vl Vm Vn Vo Vp Vq Vr Vs Vt Vu Vv Vw Vx Vy Vz VA VB VD VE VF VH VI VJ VK VL VM VN VO VP VQ VR VS VT VU VV VW VX VY VZ V0 V1 V2 V3 V4 V5 V6 V7 V8 V9 Ua Uc Ud Ue Uf Ug Uh Ui Uj Uk Ul Un Uo Up Uq Ur Us Ut Uu Uv Uw Uy Uz UA UB UC UD UE UF UG UH UJ UK UL UM UN UO UP UQ UR US UU UV UW UX UY UZ U0 U1 U2 U3 U5 U6 U7 U8 U9 Ta Tb Tc Td Te Tg Th Ti Tj Tk Tl Tm Tn To Tp Tr Ts Tt Tu Tv Tw Tx Ty Tz TA TC TD TE TF TG TH TI TJ TK TL TN TO TP TQ TR TS TT:Value),Txt 20000 sh (R.aheadT pr t.x)→Txt 20000 sq (R.behindT pr t.x)→Txt 4 sr (R.regT t.x)→Txt 4 sa (R.shown t.x.a)→Txt 4 sb (R.shown t.x.b)→Txt 3 se (R.celT t.x.var)→Txt 10000 st (R.scopd (R.ordX pr t.x).toList t.x.scope.toList)→Below wr.heap.size wr w3→wpL Tryz.prog [(stmOf (inOf (stmOf (bodyOf Tryz.f22) 2)) 15),(stmOf (inOf (stmOf (bodyOf Tryz.f22) 2)) 16)] Q ⟨#[.pointer (some ⟨g,0,none⟩),.slice (some ⟨b,0,none⟩) n sc,c2,c3,.int .i64 (k:Int),.pointer (some ⟨b,k*9,none⟩),.string sr,.string sa,.string sb,.string se,.string so,.string sh,.string sq,VG,.string st,.string ⟨#[]⟩,Ub,Um,Ux,UI,UT,U4,Tf,Tq,TB,TM,TU,TV,TW,TX,TY,TZ,T0,T1,T2,T3,T4,T5,T6,T7,T8,T9,Sa,Sb,Sc,Sd,Se,Sf,Sg,Sh,Si,Sj,Sk,Sl,Sm,Sn,So,Sp,Sq,Sr,Ss,St,Su,Sv,Sw,Sx,Sy,Sz,SA,SB,SC,SD,SE,SF,SG,SH,SI,SJ,SK,SL,SM,SN,SO,SP,SQ,SR,SS,ST,SU,SV,SW,SX,SY,SZ,S0,S1,S2,S3,S4,S5,Vc,Vd,Ve,Vf,Vg,Vh,Vi,Vj,Vk,Vl,Vm,Vn,Vo,Vp,Vq,Vr,Vs,Vt,.string t.x.op,Vu,Vv,Vw,Vx,Vy,Vz,VA,VB,VD,VE,VF,VH,VI,VJ,VK,VL,VM,VN,VO,VP,VQ,VR,VS,VT,VU,VV,VW,VX,VY,VZ,V0,V1,V2,V3,V4,V5,V6,V7,V8,V9,Ua,Uc,Ud,Ue,Uf,Ug,Uh,Ui,Uj,Uk,Ul,Un,Uo,Up,Uq,Ur,Us,Ut,Uu,Uv,Uw,Uy,Uz,UA,UB,UC,UD,UE,UF,UG,UH,UJ,UK,UL,UM,UN,UO,UP,UQ,UR,US,UU,UV,UW,UX,UY,UZ,U0,U1,U2,U3,U5,U6,U7,U8,U9,Ta,Tb,Tc,Td,Te,Tg,Th,Ti,Tj,Tk,Tl,Tm,Tn,To,Tp,Tr,Ts,Tt,Tu,Tv,Tw,Tx,Ty,Tz,TA,TC,TD,TE,TF,TG,TH,TI,TJ,TK,TL,TN,TO,TP,TQ,TR,TS,TT],[]⟩ w3)) :
  wpL Tryz.prog [(stmOf (inOf (stmOf (bodyOf Tryz.f22) 2)) 0),(stmOf (inOf (stmOf (bodyOf Tryz.f22) 2)) 1),(stmOf (inOf (stmOf (bodyOf Tryz.f22) 2)) 2),(stmOf (inOf (stmOf (bodyOf Tryz.f22) 2)) 3),(stmOf (inOf (stmOf (bodyOf Tryz.f22) 2)) 4),(stmOf (inOf (stmOf (bodyOf Tryz.f22) 2)) 5),(stmOf (inOf (stmOf (bodyOf Tryz.f22) 2)) 6),(stmOf (inOf (stmOf (bodyOf Tryz.f22) 2)) 7),(stmOf (inOf (stmOf (bodyOf Tryz.f22) 2)) 8),(stmOf (inOf (stmOf (bodyOf Tryz.f22) 2)) 9),(stmOf (inOf (stmOf (bodyOf Tryz.f22) 2)) 10),(stmOf (inOf (stmOf (bodyOf Tryz.f22) 2)) 11),(stmOf (inOf (stmOf (bodyOf Tryz.f22) 2)) 12),(stmOf (inOf (stmOf (bodyOf Tryz.f22) 2)) 13),(stmOf (inOf (stmOf (bodyOf Tryz.f22) 2)) 14),(stmOf (inOf (stmOf (bodyOf Tryz.f22) 2)) 15),(stmOf (inOf (stmOf (bodyOf Tryz.f22) 2)) 16)] Q ⟨#[.pointer (some ⟨g,0,none⟩),.slice (some ⟨b,0,none⟩) n sc,c2,c3,.int .i64 (k:Int),u5,u6,u7,u8,u9,Za,Zl,Zw,ZH,ZS,Z3,Ye,Yp,YA,YL,YW,Y7,Xi,Xt,XE,XP,XX,XY,XZ,X0,X1,X2,X3,X4,X5,X6,X7,X8,X9,Wa,Wb,Wc,Wd,We,Wf,Wg,Wh,Wi,Wj,Wk,Wl,Wm,Wn,Wo,Wp,Wq,Wr,Ws,Wt,Wu,Wv,Ww,Wx,Wy,Wz,WA,WB,WC,WD,WE,WF,WG,WH,WI,WJ,WK,WL,WM,WN,WO,WP,WQ,WR,WS,WT,WU,WV,WW,WX,WY,WZ,W0,W4,W5,W6,W7,W8,W9,Va,Vb,Zb,Zc,Zd,Ze,Zf,Zg,Zh,Zi,Zj,Zk,Zm,Zn,Zo,Zp,Zq,Zr,Zs,Zt,Zu,Zv,Zx,Zy,Zz,ZA,ZB,ZC,ZD,ZE,ZF,ZG,ZI,ZJ,ZK,ZL,ZM,ZN,ZO,ZP,ZQ,ZR,ZT,ZU,ZV,ZW,ZX,ZY,ZZ,Z0,Z1,Z2,Z4,Z5,Z6,Z7,Z8,Z9,Ya,Yb,Yc,Yd,Yf,Yg,Yh,Yi,Yj,Yk,Yl,Ym,Yn,Yo,Yq,Yr,Ys,Yt,Yu,Yv,Yw,Yx,Yy,Yz,YB,YC,YD,YE,YF,YG,YH,YI,YJ,YK,YM,YN,YO,YP,YQ,YR,YS,YT,YU,YV,YX,YY,YZ,Y0,Y1,Y2,Y3,Y4,Y5,Y6,Y8,Y9,Xa,Xb,Xc,Xd,Xe,Xf,Xg,Xh,Xj,Xk,Xl,Xm,Xn,Xo,Xp,Xq,Xr,Xs,Xu,Xv,Xw,Xx,Xy,Xz,XA,XB,XC,XD,XF,XG,XH,XI,XJ,XK,XL,XM,XN,XO,XQ,XR,XS,XT,XU,XV,XW],[]⟩ wr:=by
 have hlt:=H.out.hlt
 have hn:=H.out.hn
 have hin:(k:Int)<(n:Int):=by omega
 obtain⟨r0,r1,v0,v1,a0,a1,b0,b1,os,ss⟩:=H.out.fit.ok
 have hbg:=H.out.hbg
 have hblt:=H.out.hblt
 have hw0:=H.out.hw
 obtain⟨glt,gfr,g0,g1,g2,g3⟩:=hw0.facts
 obtain⟨d0,d1,d2,d3,d4,d5,d6,d7,d8⟩:=H.out.hx wr (grown_refl _ _)
 clear hw0 d0 d2 d3 d4 d5 d6 d7 d8 g0 g1 g2 g3 gfr
 have hsl:∀ w,(Instr.slice 9 (.string ⟨#[120,121,122]⟩) (some (.int .i64 t.x.var)) (some (.int .i64 (t.x.var+1))) none).run Tryz.prog w=.ok (.string ((⟨#[120,121,122]⟩:ByteArray).extract t.x.var.toNat (t.x.var+1).toNat)) w:=fun w =>
  run_slice_string w 9 ⟨#[120,121,122]⟩ .i64 .i64 _ _ Tryz.underlying9 (by omega) (by omega) (by simp[lit_size];omega)
 have hce:=hide (cel_xyz t.x.var hv0 v1)
 have hex:((⟨#[120,121,122]⟩:ByteArray).extract t.x.var.toNat (t.x.var+1).toNat).size≤3:=by simp[ByteArray.size_extract,lit_size];omega
 have hvd:decide (0≤t.x.var)=true:=by simpa using hv0
 have HFB:=hide HF
 clear HF
 dsimp only
 refine wpL_step (fun K hK=>?_)
 have HK:=hide hK
 clear hK
 conv=>arg 2;whnf
 go_wp2_with fail
 refine HK.out _ _ ?_
 clear HK
 refine wpL_step (fun K hK=>?_)
 have HK:=hide hK
 clear hK
 conv=>arg 2;whnf
 go_wp2_with (first | (go_at_call 41;refine (shown_any (-1-t.x.reg) _ (by omega) (by omega)).mono ?_;rintro e w1 ⟨sr,rfl,hsr,B1⟩;have zr:=hsr.size;obtain⟨d0,d1,d2,d3,d4,d5,d6,d7,d8,W1,glt,gfr,g0,g1,g2,g3⟩:=H.out.facts B1;clear d0 d1 d2 d4 d5 d6 d7 d8 g0 g1 g2 g3 W1;dsimp only))
 refine HK.out _ _ ?_
 clear HK
 refine wpL_step (fun K hK=>?_)
 have HK:=hide hK
 clear hK
 conv=>arg 2;whnf
 go_wp2_with (first | (go_at_call 41;refine (shown_any t.x.a _ (by omega) (by omega)).mono ?_;rintro e w2 ⟨sa,rfl,hsa,hb2⟩;have za:=hsa.size;have B2:=B1.trans (hb2.mono B1.size);obtain⟨d0,d1,d2,d3,d4,d5,d6,d7,d8,W2,glt,gfr,g0,g1,g2,g3⟩:=H.out.facts B2;clear d0 d1 d2 d3 d5 d6 d7 d8 g0 g1 g2 g3 W2;dsimp only))
 refine HK.out _ _ ?_
 clear HK
 refine wpL_step (fun K hK=>?_)
 have HK:=hide hK
 clear hK
 conv=>arg 2;whnf
 go_wp2_with (first | (go_at_call 41;refine (shown_any t.x.b _ (by omega) (by omega)).mono ?_;rintro e w3 ⟨sb,rfl,hsb,hb3⟩;have zb:=hsb.size;have B3:=B2.trans (hb3.mono B2.size);obtain⟨d0,d1,d2,d3,d4,d5,d6,d7,d8,W3,glt,gfr,g0,g1,g2,g3⟩:=H.out.facts B3;clear W3;dsimp only))
 refine HK.out _ _ ?_
 clear HK
 refine wpL_step (fun K hK=>?_)
 have HK:=hide hK
 clear hK
 conv=>arg 2;whnf
 go_wp2_with fail
 refine HK.out _ _ ?_
 clear HK
 refine wpL_step (fun K hK=>?_)
 have HK:=hide hK
 clear hK
 conv=>arg 2;whnf
 go_wp2_with fail
 refine HK.out _ _ ?_
 clear HK
 refine wpL_step (fun K hK=>?_)
 have HK:=hide hK
 clear hK
 conv=>arg 2;whnf
 go_wp2_with fail
 go_quiet (fail)
 go_wp2_with fail
 refine HK.out _ _ ?_
 clear HK
 refine wpL_step (fun K hK=>?_)
 have HK:=hide hK
 clear hK
 conv=>arg 2;whnf
 go_wp2_with fail
 refine HK.out _ _ ?_
 clear HK
 refine wpL_step (fun K hK=>?_)
 have HK:=hide hK
 clear hK
 conv=>arg 2;whnf
 go_wp2_with fail
 refine HK.out _ _ ?_
 clear HK
 refine wpL_step (fun K hK=>?_)
 have HK:=hide hK
 clear hK
 conv=>arg 2;whnf
 go_wp2_with fail
 refine HK.out _ _ ?_
 clear HK
 have HP:=H.out.pure B3
 have HCS:∃ gp cp,pv=.slice (some ⟨gp,0,none⟩) 3 cp∧fb=true∧gp<w3.heap.size∧w3.cell? ⟨gp,t.x.var.toNat,none⟩=some (.bool true)∧(t.x.ord.toList==[119,101,97,107])=false∧(t.x.ord.toList==[114,101,108,97,120,101,100])=false:=by
  have h6:=HFB.out
  unfold R.fenB at h6
  simp only[Bool.and_eq_true,bne,Bool.not_eq_true'] at h6
  obtain⟨⟨⟨_,hq⟩,hw⟩,hr⟩:=h6
  rcases HP with ⟨_,h1⟩ | ⟨h1,gp,cp,h2,h3,h4⟩
  ·rw[h1] at hq;cases hq
  ·have h5:=h4 t.x.var.toNat (by omega)
   rw[show ((t.x.var.toNat:Nat):Int)=t.x.var by omega,hq] at h5
   exact⟨gp,cp,h2,h1,h3,h5,hw,hr⟩
 clear HP
 obtain⟨gp,cp,rfl,rfl,hgp,hpc,how,hor⟩:=HCS
 have HFO:Hid (R.ordX pr t.x=R.bRelaxed∧R.aheadT pr t.x=(if t.x.ord.toList != oA then R.fenT t.x else [])∧R.behindT pr t.x=(if t.x.ord.toList != oL then R.fenT t.x else [])):=by
  unfold Hid R.ordX R.aheadT R.behindT;rw[HFB.out];exact⟨rfl,by simp,by simp⟩
 have hlr:(⟨#[114,101,108,97,120,101,100]⟩:ByteArray).size≤10:=by simp[lit_size]
 have hlq:(⟨#[97,99,113,114,101,108]⟩:ByteArray).size≤10:=by simp[lit_size]
 refine wpL_step (fun K hK=>?_)
 have HK:=hide hK
 clear hK
 conv=>arg 2;whnf
 go_quiet (fail)
 go_wp2_with fail
 refine HK.out _ _ ?_
 clear HK
 cases hA:(t.x.ord.toList==[97,99,113,117,105,114,101])<;>cases hL:(t.x.ord.toList==[114,101,108,101,97,115,101])
 all_goals
  refine wpL_step (fun K hK=>?_)
  have HK:=hide hK
  clear hK
  conv=>arg 2;whnf
  go_wp2_with (first | (go_at_call 42;refine (scoped_any ⟨#[97,99,113,114,101,108]⟩ t.x.scope _ hlq ss).mono ?_;rintro e w4 ⟨sf,rfl,hsf,rfl⟩;have zf:=hsf.size;dsimp only))
  refine HK.out _ _ ?_
  clear HK
  refine wpL_step (fun K hK=>?_)
  have HK:=hide hK
  clear hK
  conv=>arg 2;whnf
  go_wp2_with (first | (go_at_call 42;refine (scoped_any ⟨#[114,101,108,97,120,101,100]⟩ t.x.scope _ hlr ss).mono ?_;rintro e w4 ⟨st,rfl,hst,rfl⟩;have zs:=hst.size;dsimp only))
  refine HK.out _ _ ?_
  clear HK
  refine wpL_step (fun K hK=>?_)
  have HK:=hide hK
  clear hK
  conv=>arg 2;whnf
  go_wp2_with fail
  refine HK.out _ _ ?_
  clear HK
  refine wpL_step (fun K hK=>?_)
  have HK:=hide hK
  clear hK
  conv=>arg 2;whnf
  go_wp2_with fail
  refine HK.out _ _ ?_
  clear HK
  refine hK.out _ _ _ sr sa sb _ st _ _ _ _ _ _ _ _ _ _ _ _ _ _ _ _ _ _ _ _ _ _ _ _ _ _ _ _ _ _ _ _ _ _ _ _ _ _ _ _ _ _ _ _ _ _ _ _ _ _ _ _ _ _ _ _ _ _ _ _ _ _ _ _ _ _ _ _ _ _ _ _ _ _ _ _ _ _ _ _ _ _ _ _ _ _ _ _ _ _ _ _ _ _ _ _ _ _ _ _ _ _ _ _ _ _ _ _ _ _ _ _ _ _ _ _ _ _ _ _ _ _ _ _ _ _ _ _ _ _ _ _ _ _ _ _ _ _ _ _ _ _ _ _ _ _ _ _ _ _ _ _ _ _ _ _ _ _ _ _ _ _ _ _ _ _ _ _ _ _ _ _ _ _ _ _ _ _ _ _ _ _ _ _ _ _ _ _ _ _ _ _ _ _ _ _ _ _ _ _ _ _ _ _ _ _ _ _ _ _ _ _ _ _ _ _ _ _ _ _ _ _ _ _ _ _ _ _ _ _ _ _ _ _ _ _ _ _ _ _ _ _ ⟨?q1,?q2⟩ ⟨?q3,?q4⟩ hsr hsa hsb hce.out (by rw[HFO.out.1];exact hst) (below_same B3 rfl rfl rfl rfl)
  case q1=>rw[HFO.out.2.1];simp[oA,bne,hA,app_toList,lit_toList,R.fenT,hsf.1,oQ]
  case q2=>simp[lit_size]<;>omega
  case q3=>rw[HFO.out.2.2];simp[oL,bne,hL,app_toList,lit_toList,R.fenT,hsf.1,oQ]
  case q4=>simp[lit_size]<;>omega
set_option maxRecDepth 1000000 in
set_option maxHeartbeats 12800000 in
theorem VlOpLoad (w wr:World) (g:Nat) (tx:ByteArray) (lb:Int) (pv:Value) (fb:Bool) (pr:Int→Bool) (l:List R.Tree) (n k:Nat) (u:ByteArray) (lk:Int) (b sc:Nat) (uv:Value) (t:R.Tree) (H:Hid (VC w wr g tx lb pv fb pr l n k u lk b uv t)) (ho:t.x.op.toList=[108,111,97,100]) (so sh sq sr sa sb se st:ByteArray) (w3:World) (c2 c3 VE Ua Ul Uw UH US U3 Te Tp TA TL TT TU TV TW TX TY TZ T0 T1 T2 T3 T4 T5 T6 T7 T8 T9 Sa Sb Sc Sd Se Sf Sg Sh Si Sj Sk Sl Sm Sn So Sp Sq Sr Ss St Su Sv Sw Sx Sy Sz SA SB SC SD SE SF SG SH SI SJ SK SL SM SN SO SP SQ SR SS ST SU SV SW SX SY SZ S0 S1 S2 S3 S4 Va Vb Vc Vd Ve Vf Vg Vh Vi Vj Vk Vl Vm Vn Vo Vp Vq Vr Vs Vt Vu Vv Vw Vx Vy Vz VA VB VD VF VG VH VI VJ VK VL VM VN VO VP VQ VS VT VU VV VW VX VY VZ V0 V1 V2 V3 V4 V5 V6 V7 V8 V9 Ub Uc Ud Ue Uf Ug Uh Ui Uj Uk Um Un Uo Up Uq Ur Us Ut Uu Uv Ux Uy Uz UA UB UC UD UE UF UG UI UJ UK UL UM UN UO UP UQ UR UT UU UV UW UX UY UZ U0 U1 U2 U4 U5 U6 U7 U8 U9 Ta Tb Tc Td Tf Tg Th Ti Tj Tk Tl Tm Tn To Tq Tr Ts Tt Tu Tv Tw Tx Ty Tz TB TC TD TE TF TG TH TI TJ TK TM TN TO TP TQ TR TS:Value) (hsh:Txt 20000 sh (R.aheadT pr t.x)) (hsq:Txt 20000 sq (R.behindT pr t.x)) (hsr:Txt 4 sr (R.regT t.x)) (hsa:Txt 4 sa (R.shown t.x.a)) (hsb:Txt 4 sb (R.shown t.x.b)) (hse:Txt 3 se (R.celT t.x.var)) (hst:Txt 10000 st (R.scopd (R.ordX pr t.x).toList t.x.scope.toList)) (B3:Below wr.heap.size wr w3) (K0:Act→World→Prop) (Q0:Exit→Act→World→Prop)
  (hK0:Hid (∀ (u5 u6 u7 u8 u9 Za Zl Zw ZH ZS Z3 Ye Yp YA YL YW Y7 Xi Xt XE XP XX XY XZ X0 X1 X2 X3 X4 X5 X6 X7 X8 X9 Wa Wb Wc Wd We Wf Wg Wh Wi Wj Wk Wl Wm Wn Wo Wp Wq Wr Ws Wt Wu Wv Ww Wx Wy Wz WA WB WC WD WE WF WG WH WI WJ WK WL WM WN WO WP WQ WR WS WT WU WV WW WX WY WZ W0 W1 W2 W4 W5 W6 W7 W8 W9 Zb Zc Zd Ze Zf Zg Zh Zi Zj Zk Zm Zn Zo Zp Zq Zr Zs Zt Zu Zv Zx Zy Zz ZA ZB ZC ZD ZE ZF ZG ZI ZJ ZK ZL ZM ZN ZO ZP ZQ ZR ZT ZU ZV ZW ZX ZY ZZ Z0 Z1 Z2 Z4 Z5 Z6 Z7 Z8 Z9 Ya Yb Yc Yd Yf Yg Yh Yi Yj Yk Yl Ym Yn Yo Yq Yr Ys Yt Yu Yv Yw Yx Yy Yz YB YC YD YE YF YG YH YI YJ YK YM YN YO YP YQ YR YS YT YU YV YX YY YZ Y0 Y1 Y2 Y3 Y4 Y5 Y6 Y8 Y9 Xa Xb Xc Xd Xe Xf Xg Xh Xj Xk Xl Xm Xn Xo Xp Xq Xr Xs Xu Xv Xw Xx Xy Xz XA XB XC XD XF XG XH XI XJ XK XL XM XN XO XQ XR XS XT XU XV XW:Value) (w2:World),VR w g tx lb pv fb pr l n (.int .i64 ((k:Int)+1)) w2→K0 ⟨#[.pointer (some ⟨g,0,none⟩),.slice (some ⟨b,0,none⟩) n sc,c2,c3,.int .i64 (k:Int),u5,u6,u7,u8,u9,Za,Zl,Zw,ZH,ZS,Z3,Ye,Yp,YA,YL,YW,Y7,Xi,Xt,XE,XP,XX,XY,XZ,X0,X1,X2,X3,X4,X5,X6,X7,X8,X9,Wa,Wb,Wc,Wd,We,Wf,Wg,Wh,Wi,Wj,Wk,Wl,Wm,Wn,Wo,Wp,Wq,Wr,Ws,Wt,Wu,Wv,Ww,Wx,Wy,Wz,WA,WB,WC,WD,WE,WF,WG,WH,WI,WJ,WK,WL,WM,WN,WO,WP,WQ,WR,WS,WT,WU,WV,WW,WX,WY,WZ,W0,W1,W2,W4,W5,W6,W7,W8,W9,Zb,Zc,Zd,Ze,Zf,Zg,Zh,Zi,Zj,Zk,Zm,Zn,Zo,Zp,Zq,Zr,Zs,Zt,Zu,Zv,Zx,Zy,Zz,ZA,ZB,ZC,ZD,ZE,ZF,ZG,ZI,ZJ,ZK,ZL,ZM,ZN,ZO,ZP,ZQ,ZR,ZT,ZU,ZV,ZW,ZX,ZY,ZZ,Z0,Z1,Z2,Z4,Z5,Z6,Z7,Z8,Z9,Ya,Yb,Yc,Yd,Yf,Yg,Yh,Yi,Yj,Yk,Yl,Ym,Yn,Yo,Yq,Yr,Ys,Yt,Yu,Yv,Yw,Yx,Yy,Yz,YB,YC,YD,YE,YF,YG,YH,YI,YJ,YK,YM,YN,YO,YP,YQ,YR,YS,YT,YU,YV,YX,YY,YZ,Y0,Y1,Y2,Y3,Y4,Y5,Y6,Y8,Y9,Xa,Xb,Xc,Xd,Xe,Xf,Xg,Xh,Xj,Xk,Xl,Xm,Xn,Xo,Xp,Xq,Xr,Xs,Xu,Xv,Xw,Xx,Xy,Xz,XA,XB,XC,XD,XF,XG,XH,XI,XJ,XK,XL,XM,XN,XO,XQ,XR,XS,XT,XU,XV,XW],[]⟩ w2)) :
  wpL Tryz.prog [(stmOf (inOf (stmOf (bodyOf Tryz.f22) 2)) 15),(stmOf (inOf (stmOf (bodyOf Tryz.f22) 2)) 16)] (Exit.inBlock 1 (Exit.then K0 Q0)) ⟨#[.pointer (some ⟨g,0,none⟩),.slice (some ⟨b,0,none⟩) n sc,c2,c3,.int .i64 (k:Int),.pointer (some ⟨b,k*9,none⟩),.string sr,.string sa,.string sb,.string se,.string so,.string sh,.string sq,VE,.string st,.string ⟨#[]⟩,Ua,Ul,Uw,UH,US,U3,Te,Tp,TA,TL,TT,TU,TV,TW,TX,TY,TZ,T0,T1,T2,T3,T4,T5,T6,T7,T8,T9,Sa,Sb,Sc,Sd,Se,Sf,Sg,Sh,Si,Sj,Sk,Sl,Sm,Sn,So,Sp,Sq,Sr,Ss,St,Su,Sv,Sw,Sx,Sy,Sz,SA,SB,SC,SD,SE,SF,SG,SH,SI,SJ,SK,SL,SM,SN,SO,SP,SQ,SR,SS,ST,SU,SV,SW,SX,SY,SZ,S0,S1,S2,S3,S4,Va,Vb,Vc,Vd,Ve,Vf,Vg,Vh,Vi,Vj,Vk,Vl,Vm,Vn,Vo,Vp,Vq,Vr,.string t.x.op,Vs,Vt,Vu,Vv,Vw,Vx,Vy,Vz,VA,VB,VD,VF,VG,VH,VI,VJ,VK,VL,VM,VN,VO,VP,VQ,VS,VT,VU,VV,VW,VX,VY,VZ,V0,V1,V2,V3,V4,V5,V6,V7,V8,V9,Ub,Uc,Ud,Ue,Uf,Ug,Uh,Ui,Uj,Uk,Um,Un,Uo,Up,Uq,Ur,Us,Ut,Uu,Uv,Ux,Uy,Uz,UA,UB,UC,UD,UE,UF,UG,UI,UJ,UK,UL,UM,UN,UO,UP,UQ,UR,UT,UU,UV,UW,UX,UY,UZ,U0,U1,U2,U4,U5,U6,U7,U8,U9,Ta,Tb,Tc,Td,Tf,Tg,Th,Ti,Tj,Tk,Tl,Tm,Tn,To,Tq,Tr,Ts,Tt,Tu,Tv,Tw,Tx,Ty,Tz,TB,TC,TD,TE,TF,TG,TH,TI,TJ,TK,TM,TN,TO,TP,TQ,TR,TS],[]⟩ w3:=by
 have zh:=hsh.size
 have zq:=hsq.size
 have zr:=hsr.size
 have za:=hsa.size
 have zb:=hsb.size
 have ze:=hse.size
 have zs:=hst.size
 have hus:=H.out.us
 have hlk0:=H.out.lk0
 have hlk1:=H.out.lk1
 have hsz:=R.sizeL_nn t.body
 have hbg:=H.out.hbg
 have hblt:=H.out.hblt
 have hws:=B3.size
 obtain⟨d0,d1,d2,d3,d4,d5,d6,d7,d8,W3,glt,gfr,g0,g1,g2,g3⟩:=H.out.facts B3
 have HW3:=hide W3
 clear W3 d0 d1 d2 d3 d4 d6 d7
 have f1:(t.x.op.toList==[108,111,97,100])=true:=by rw[ho];rfl
 have f8:(t.x.op.toList==[105,102])=false:=by rw[ho];rfl
 dsimp only
 refine wpL_step (fun K hK=>?_)
 have HK:=hide hK
 clear hK
 conv=>arg 2;whnf
 go_wp2_with fail
 refine HK.out _ _ ?_
 clear HK
 refine wpL_step (fun K hK=>?_)
 have HK:=hide hK
 clear hK
 conv=>arg 2;whnf
 go_wp2_with fail
 refine HK.out _ _ ?_
 clear HK
 simp only[wpL,Exit.inBlock,Exit.then]
 refine hK0.out _ _ _ _ _ _ _ _ _ _ _ _ _ _ _ _ _ _ _ _ _ _ _ _ _ _ _ _ _ _ _ _ _ _ _ _ _ _ _ _ _ _ _ _ _ _ _ _ _ _ _ _ _ _ _ _ _ _ _ _ _ _ _ _ _ _ _ _ _ _ _ _ _ _ _ _ _ _ _ _ _ _ _ _ _ _ _ _ _ _ _ _ _ _ _ _ _ _ _ _ _ _ _ _ _ _ _ _ _ _ _ _ _ _ _ _ _ _ _ _ _ _ _ _ _ _ _ _ _ _ _ _ _ _ _ _ _ _ _ _ _ _ _ _ _ _ _ _ _ _ _ _ _ _ _ _ _ _ _ _ _ _ _ _ _ _ _ _ _ _ _ _ _ _ _ _ _ _ _ _ _ _ _ _ _ _ _ _ _ _ _ _ _ _ _ _ _ _ _ _ _ _ _ _ _ _ _ _ _ _ _ _ _ _ _ _ _ _ _ _ _ _ _ _ _ _ _ _ _ _ _ _ _ _ _ _ _ _ _ _ _ _ _ _ _ _ _ _ _ _ _ _ _ ?_
 refine H.out.next (u2:=?uu) ?h1 ?h2 ?h3 (grown_setCell (grown_of_below B3 _) _ _)
 case h1=>rw[R.textP_leaf pr lk t f8];exact VrAt.setT (by exact HW3.out) _
 case h2=>rw[R.textP_leaf pr lk t f8,R.line_load { t.x with ord:=R.ordX pr t.x } ho];simp[app_toList,lit_toList,hst.1,hsr.1,hse.1,hsa.1,hsb.1,hsh.1,hsq.1,R.regT_ord]
 case h3=>simp[lit_size];omega
set_option maxRecDepth 1000000 in
set_option maxHeartbeats 12800000 in
theorem VlOpStore (w wr:World) (g:Nat) (tx:ByteArray) (lb:Int) (pv:Value) (fb:Bool) (pr:Int→Bool) (l:List R.Tree) (n k:Nat) (u:ByteArray) (lk:Int) (b sc:Nat) (uv:Value) (t:R.Tree) (H:Hid (VC w wr g tx lb pv fb pr l n k u lk b uv t)) (ho:t.x.op.toList=[115,116,111,114,101]) (so sh sq sr sa sb se st:ByteArray) (w3:World) (c2 c3 VE Ua Ul Uw UH US U3 Te Tp TA TL TT TU TV TW TX TY TZ T0 T1 T2 T3 T4 T5 T6 T7 T8 T9 Sa Sb Sc Sd Se Sf Sg Sh Si Sj Sk Sl Sm Sn So Sp Sq Sr Ss St Su Sv Sw Sx Sy Sz SA SB SC SD SE SF SG SH SI SJ SK SL SM SN SO SP SQ SR SS ST SU SV SW SX SY SZ S0 S1 S2 S3 S4 Va Vb Vc Vd Ve Vf Vg Vh Vi Vj Vk Vl Vm Vn Vo Vp Vq Vr Vs Vt Vu Vv Vw Vx Vy Vz VA VB VD VF VG VH VI VJ VK VL VM VN VO VP VQ VS VT VU VV VW VX VY VZ V0 V1 V2 V3 V4 V5 V6 V7 V8 V9 Ub Uc Ud Ue Uf Ug Uh Ui Uj Uk Um Un Uo Up Uq Ur Us Ut Uu Uv Ux Uy Uz UA UB UC UD UE UF UG UI UJ UK UL UM UN UO UP UQ UR UT UU UV UW UX UY UZ U0 U1 U2 U4 U5 U6 U7 U8 U9 Ta Tb Tc Td Tf Tg Th Ti Tj Tk Tl Tm Tn To Tq Tr Ts Tt Tu Tv Tw Tx Ty Tz TB TC TD TE TF TG TH TI TJ TK TM TN TO TP TQ TR TS:Value) (hsh:Txt 20000 sh (R.aheadT pr t.x)) (hsq:Txt 20000 sq (R.behindT pr t.x)) (hsr:Txt 4 sr (R.regT t.x)) (hsa:Txt 4 sa (R.shown t.x.a)) (hsb:Txt 4 sb (R.shown t.x.b)) (hse:Txt 3 se (R.celT t.x.var)) (hst:Txt 10000 st (R.scopd (R.ordX pr t.x).toList t.x.scope.toList)) (B3:Below wr.heap.size wr w3) (K0:Act→World→Prop) (Q0:Exit→Act→World→Prop)
  (hK0:Hid (∀ (u5 u6 u7 u8 u9 Za Zl Zw ZH ZS Z3 Ye Yp YA YL YW Y7 Xi Xt XE XP XX XY XZ X0 X1 X2 X3 X4 X5 X6 X7 X8 X9 Wa Wb Wc Wd We Wf Wg Wh Wi Wj Wk Wl Wm Wn Wo Wp Wq Wr Ws Wt Wu Wv Ww Wx Wy Wz WA WB WC WD WE WF WG WH WI WJ WK WL WM WN WO WP WQ WR WS WT WU WV WW WX WY WZ W0 W1 W2 W4 W5 W6 W7 W8 W9 Zb Zc Zd Ze Zf Zg Zh Zi Zj Zk Zm Zn Zo Zp Zq Zr Zs Zt Zu Zv Zx Zy Zz ZA ZB ZC ZD ZE ZF ZG ZI ZJ ZK ZL ZM ZN ZO ZP ZQ ZR ZT ZU ZV ZW ZX ZY ZZ Z0 Z1 Z2 Z4 Z5 Z6 Z7 Z8 Z9 Ya Yb Yc Yd Yf Yg Yh Yi Yj Yk Yl Ym Yn Yo Yq Yr Ys Yt Yu Yv Yw Yx Yy Yz YB YC YD YE YF YG YH YI YJ YK YM YN YO YP YQ YR YS YT YU YV YX YY YZ Y0 Y1 Y2 Y3 Y4 Y5 Y6 Y8 Y9 Xa Xb Xc Xd Xe Xf Xg Xh Xj Xk Xl Xm Xn Xo Xp Xq Xr Xs Xu Xv Xw Xx Xy Xz XA XB XC XD XF XG XH XI XJ XK XL XM XN XO XQ XR XS XT XU XV XW:Value) (w2:World),VR w g tx lb pv fb pr l n (.int .i64 ((k:Int)+1)) w2→K0 ⟨#[.pointer (some ⟨g,0,none⟩),.slice (some ⟨b,0,none⟩) n sc,c2,c3,.int .i64 (k:Int),u5,u6,u7,u8,u9,Za,Zl,Zw,ZH,ZS,Z3,Ye,Yp,YA,YL,YW,Y7,Xi,Xt,XE,XP,XX,XY,XZ,X0,X1,X2,X3,X4,X5,X6,X7,X8,X9,Wa,Wb,Wc,Wd,We,Wf,Wg,Wh,Wi,Wj,Wk,Wl,Wm,Wn,Wo,Wp,Wq,Wr,Ws,Wt,Wu,Wv,Ww,Wx,Wy,Wz,WA,WB,WC,WD,WE,WF,WG,WH,WI,WJ,WK,WL,WM,WN,WO,WP,WQ,WR,WS,WT,WU,WV,WW,WX,WY,WZ,W0,W1,W2,W4,W5,W6,W7,W8,W9,Zb,Zc,Zd,Ze,Zf,Zg,Zh,Zi,Zj,Zk,Zm,Zn,Zo,Zp,Zq,Zr,Zs,Zt,Zu,Zv,Zx,Zy,Zz,ZA,ZB,ZC,ZD,ZE,ZF,ZG,ZI,ZJ,ZK,ZL,ZM,ZN,ZO,ZP,ZQ,ZR,ZT,ZU,ZV,ZW,ZX,ZY,ZZ,Z0,Z1,Z2,Z4,Z5,Z6,Z7,Z8,Z9,Ya,Yb,Yc,Yd,Yf,Yg,Yh,Yi,Yj,Yk,Yl,Ym,Yn,Yo,Yq,Yr,Ys,Yt,Yu,Yv,Yw,Yx,Yy,Yz,YB,YC,YD,YE,YF,YG,YH,YI,YJ,YK,YM,YN,YO,YP,YQ,YR,YS,YT,YU,YV,YX,YY,YZ,Y0,Y1,Y2,Y3,Y4,Y5,Y6,Y8,Y9,Xa,Xb,Xc,Xd,Xe,Xf,Xg,Xh,Xj,Xk,Xl,Xm,Xn,Xo,Xp,Xq,Xr,Xs,Xu,Xv,Xw,Xx,Xy,Xz,XA,XB,XC,XD,XF,XG,XH,XI,XJ,XK,XL,XM,XN,XO,XQ,XR,XS,XT,XU,XV,XW],[]⟩ w2)) :
  wpL Tryz.prog [(stmOf (inOf (stmOf (bodyOf Tryz.f22) 2)) 15),(stmOf (inOf (stmOf (bodyOf Tryz.f22) 2)) 16)] (Exit.inBlock 1 (Exit.then K0 Q0)) ⟨#[.pointer (some ⟨g,0,none⟩),.slice (some ⟨b,0,none⟩) n sc,c2,c3,.int .i64 (k:Int),.pointer (some ⟨b,k*9,none⟩),.string sr,.string sa,.string sb,.string se,.string so,.string sh,.string sq,VE,.string st,.string ⟨#[]⟩,Ua,Ul,Uw,UH,US,U3,Te,Tp,TA,TL,TT,TU,TV,TW,TX,TY,TZ,T0,T1,T2,T3,T4,T5,T6,T7,T8,T9,Sa,Sb,Sc,Sd,Se,Sf,Sg,Sh,Si,Sj,Sk,Sl,Sm,Sn,So,Sp,Sq,Sr,Ss,St,Su,Sv,Sw,Sx,Sy,Sz,SA,SB,SC,SD,SE,SF,SG,SH,SI,SJ,SK,SL,SM,SN,SO,SP,SQ,SR,SS,ST,SU,SV,SW,SX,SY,SZ,S0,S1,S2,S3,S4,Va,Vb,Vc,Vd,Ve,Vf,Vg,Vh,Vi,Vj,Vk,Vl,Vm,Vn,Vo,Vp,Vq,Vr,.string t.x.op,Vs,Vt,Vu,Vv,Vw,Vx,Vy,Vz,VA,VB,VD,VF,VG,VH,VI,VJ,VK,VL,VM,VN,VO,VP,VQ,VS,VT,VU,VV,VW,VX,VY,VZ,V0,V1,V2,V3,V4,V5,V6,V7,V8,V9,Ub,Uc,Ud,Ue,Uf,Ug,Uh,Ui,Uj,Uk,Um,Un,Uo,Up,Uq,Ur,Us,Ut,Uu,Uv,Ux,Uy,Uz,UA,UB,UC,UD,UE,UF,UG,UI,UJ,UK,UL,UM,UN,UO,UP,UQ,UR,UT,UU,UV,UW,UX,UY,UZ,U0,U1,U2,U4,U5,U6,U7,U8,U9,Ta,Tb,Tc,Td,Tf,Tg,Th,Ti,Tj,Tk,Tl,Tm,Tn,To,Tq,Tr,Ts,Tt,Tu,Tv,Tw,Tx,Ty,Tz,TB,TC,TD,TE,TF,TG,TH,TI,TJ,TK,TM,TN,TO,TP,TQ,TR,TS],[]⟩ w3:=by
 have zh:=hsh.size
 have zq:=hsq.size
 have zr:=hsr.size
 have za:=hsa.size
 have zb:=hsb.size
 have ze:=hse.size
 have zs:=hst.size
 have hus:=H.out.us
 have hlk0:=H.out.lk0
 have hlk1:=H.out.lk1
 have hsz:=R.sizeL_nn t.body
 have hbg:=H.out.hbg
 have hblt:=H.out.hblt
 have hws:=B3.size
 obtain⟨d0,d1,d2,d3,d4,d5,d6,d7,d8,W3,glt,gfr,g0,g1,g2,g3⟩:=H.out.facts B3
 have HW3:=hide W3
 clear W3 d0 d1 d2 d3 d4 d6 d7
 have f1:(t.x.op.toList==[108,111,97,100])=false:=by rw[ho];rfl
 have f2:(t.x.op.toList==[115,116,111,114,101])=true:=by rw[ho];rfl
 have f8:(t.x.op.toList==[105,102])=false:=by rw[ho];rfl
 dsimp only
 refine wpL_step (fun K hK=>?_)
 have HK:=hide hK
 clear hK
 conv=>arg 2;whnf
 go_wp2_with fail
 refine HK.out _ _ ?_
 clear HK
 refine wpL_step (fun K hK=>?_)
 have HK:=hide hK
 clear hK
 conv=>arg 2;whnf
 go_wp2_with fail
 refine HK.out _ _ ?_
 clear HK
 simp only[wpL,Exit.inBlock,Exit.then]
 refine hK0.out _ _ _ _ _ _ _ _ _ _ _ _ _ _ _ _ _ _ _ _ _ _ _ _ _ _ _ _ _ _ _ _ _ _ _ _ _ _ _ _ _ _ _ _ _ _ _ _ _ _ _ _ _ _ _ _ _ _ _ _ _ _ _ _ _ _ _ _ _ _ _ _ _ _ _ _ _ _ _ _ _ _ _ _ _ _ _ _ _ _ _ _ _ _ _ _ _ _ _ _ _ _ _ _ _ _ _ _ _ _ _ _ _ _ _ _ _ _ _ _ _ _ _ _ _ _ _ _ _ _ _ _ _ _ _ _ _ _ _ _ _ _ _ _ _ _ _ _ _ _ _ _ _ _ _ _ _ _ _ _ _ _ _ _ _ _ _ _ _ _ _ _ _ _ _ _ _ _ _ _ _ _ _ _ _ _ _ _ _ _ _ _ _ _ _ _ _ _ _ _ _ _ _ _ _ _ _ _ _ _ _ _ _ _ _ _ _ _ _ _ _ _ _ _ _ _ _ _ _ _ _ _ _ _ _ _ _ _ _ _ _ _ _ _ _ _ _ _ _ _ _ _ _ ?_
 refine H.out.next (u2:=?uu) ?h1 ?h2 ?h3 (grown_setCell (grown_of_below B3 _) _ _)
 case h1=>rw[R.textP_leaf pr lk t f8];exact VrAt.setT (by exact HW3.out) _
 case h2=>rw[R.textP_leaf pr lk t f8,R.line_store { t.x with ord:=R.ordX pr t.x } ho];simp[app_toList,lit_toList,hst.1,hsr.1,hse.1,hsa.1,hsb.1,hsh.1,hsq.1,R.regT_ord]
 case h3=>simp[lit_size];omega
set_option maxRecDepth 1000000 in
set_option maxHeartbeats 12800000 in
theorem VlOpAdd (w wr:World) (g:Nat) (tx:ByteArray) (lb:Int) (pv:Value) (fb:Bool) (pr:Int→Bool) (l:List R.Tree) (n k:Nat) (u:ByteArray) (lk:Int) (b sc:Nat) (uv:Value) (t:R.Tree) (H:Hid (VC w wr g tx lb pv fb pr l n k u lk b uv t)) (ho:t.x.op.toList=[97,100,100]) (so sh sq sr sa sb se st:ByteArray) (w3:World) (c2 c3 VE Ua Ul Uw UH US U3 Te Tp TA TL TT TU TV TW TX TY TZ T0 T1 T2 T3 T4 T5 T6 T7 T8 T9 Sa Sb Sc Sd Se Sf Sg Sh Si Sj Sk Sl Sm Sn So Sp Sq Sr Ss St Su Sv Sw Sx Sy Sz SA SB SC SD SE SF SG SH SI SJ SK SL SM SN SO SP SQ SR SS ST SU SV SW SX SY SZ S0 S1 S2 S3 S4 Va Vb Vc Vd Ve Vf Vg Vh Vi Vj Vk Vl Vm Vn Vo Vp Vq Vr Vs Vt Vu Vv Vw Vx Vy Vz VA VB VD VF VG VH VI VJ VK VL VM VN VO VP VQ VS VT VU VV VW VX VY VZ V0 V1 V2 V3 V4 V5 V6 V7 V8 V9 Ub Uc Ud Ue Uf Ug Uh Ui Uj Uk Um Un Uo Up Uq Ur Us Ut Uu Uv Ux Uy Uz UA UB UC UD UE UF UG UI UJ UK UL UM UN UO UP UQ UR UT UU UV UW UX UY UZ U0 U1 U2 U4 U5 U6 U7 U8 U9 Ta Tb Tc Td Tf Tg Th Ti Tj Tk Tl Tm Tn To Tq Tr Ts Tt Tu Tv Tw Tx Ty Tz TB TC TD TE TF TG TH TI TJ TK TM TN TO TP TQ TR TS:Value) (hsh:Txt 20000 sh (R.aheadT pr t.x)) (hsq:Txt 20000 sq (R.behindT pr t.x)) (hsr:Txt 4 sr (R.regT t.x)) (hsa:Txt 4 sa (R.shown t.x.a)) (hsb:Txt 4 sb (R.shown t.x.b)) (hse:Txt 3 se (R.celT t.x.var)) (hst:Txt 10000 st (R.scopd (R.ordX pr t.x).toList t.x.scope.toList)) (B3:Below wr.heap.size wr w3) (K0:Act→World→Prop) (Q0:Exit→Act→World→Prop)
  (hK0:Hid (∀ (u5 u6 u7 u8 u9 Za Zl Zw ZH ZS Z3 Ye Yp YA YL YW Y7 Xi Xt XE XP XX XY XZ X0 X1 X2 X3 X4 X5 X6 X7 X8 X9 Wa Wb Wc Wd We Wf Wg Wh Wi Wj Wk Wl Wm Wn Wo Wp Wq Wr Ws Wt Wu Wv Ww Wx Wy Wz WA WB WC WD WE WF WG WH WI WJ WK WL WM WN WO WP WQ WR WS WT WU WV WW WX WY WZ W0 W1 W2 W4 W5 W6 W7 W8 W9 Zb Zc Zd Ze Zf Zg Zh Zi Zj Zk Zm Zn Zo Zp Zq Zr Zs Zt Zu Zv Zx Zy Zz ZA ZB ZC ZD ZE ZF ZG ZI ZJ ZK ZL ZM ZN ZO ZP ZQ ZR ZT ZU ZV ZW ZX ZY ZZ Z0 Z1 Z2 Z4 Z5 Z6 Z7 Z8 Z9 Ya Yb Yc Yd Yf Yg Yh Yi Yj Yk Yl Ym Yn Yo Yq Yr Ys Yt Yu Yv Yw Yx Yy Yz YB YC YD YE YF YG YH YI YJ YK YM YN YO YP YQ YR YS YT YU YV YX YY YZ Y0 Y1 Y2 Y3 Y4 Y5 Y6 Y8 Y9 Xa Xb Xc Xd Xe Xf Xg Xh Xj Xk Xl Xm Xn Xo Xp Xq Xr Xs Xu Xv Xw Xx Xy Xz XA XB XC XD XF XG XH XI XJ XK XL XM XN XO XQ XR XS XT XU XV XW:Value) (w2:World),VR w g tx lb pv fb pr l n (.int .i64 ((k:Int)+1)) w2→K0 ⟨#[.pointer (some ⟨g,0,none⟩),.slice (some ⟨b,0,none⟩) n sc,c2,c3,.int .i64 (k:Int),u5,u6,u7,u8,u9,Za,Zl,Zw,ZH,ZS,Z3,Ye,Yp,YA,YL,YW,Y7,Xi,Xt,XE,XP,XX,XY,XZ,X0,X1,X2,X3,X4,X5,X6,X7,X8,X9,Wa,Wb,Wc,Wd,We,Wf,Wg,Wh,Wi,Wj,Wk,Wl,Wm,Wn,Wo,Wp,Wq,Wr,Ws,Wt,Wu,Wv,Ww,Wx,Wy,Wz,WA,WB,WC,WD,WE,WF,WG,WH,WI,WJ,WK,WL,WM,WN,WO,WP,WQ,WR,WS,WT,WU,WV,WW,WX,WY,WZ,W0,W1,W2,W4,W5,W6,W7,W8,W9,Zb,Zc,Zd,Ze,Zf,Zg,Zh,Zi,Zj,Zk,Zm,Zn,Zo,Zp,Zq,Zr,Zs,Zt,Zu,Zv,Zx,Zy,Zz,ZA,ZB,ZC,ZD,ZE,ZF,ZG,ZI,ZJ,ZK,ZL,ZM,ZN,ZO,ZP,ZQ,ZR,ZT,ZU,ZV,ZW,ZX,ZY,ZZ,Z0,Z1,Z2,Z4,Z5,Z6,Z7,Z8,Z9,Ya,Yb,Yc,Yd,Yf,Yg,Yh,Yi,Yj,Yk,Yl,Ym,Yn,Yo,Yq,Yr,Ys,Yt,Yu,Yv,Yw,Yx,Yy,Yz,YB,YC,YD,YE,YF,YG,YH,YI,YJ,YK,YM,YN,YO,YP,YQ,YR,YS,YT,YU,YV,YX,YY,YZ,Y0,Y1,Y2,Y3,Y4,Y5,Y6,Y8,Y9,Xa,Xb,Xc,Xd,Xe,Xf,Xg,Xh,Xj,Xk,Xl,Xm,Xn,Xo,Xp,Xq,Xr,Xs,Xu,Xv,Xw,Xx,Xy,Xz,XA,XB,XC,XD,XF,XG,XH,XI,XJ,XK,XL,XM,XN,XO,XQ,XR,XS,XT,XU,XV,XW],[]⟩ w2)) :
  wpL Tryz.prog [(stmOf (inOf (stmOf (bodyOf Tryz.f22) 2)) 15),(stmOf (inOf (stmOf (bodyOf Tryz.f22) 2)) 16)] (Exit.inBlock 1 (Exit.then K0 Q0)) ⟨#[.pointer (some ⟨g,0,none⟩),.slice (some ⟨b,0,none⟩) n sc,c2,c3,.int .i64 (k:Int),.pointer (some ⟨b,k*9,none⟩),.string sr,.string sa,.string sb,.string se,.string so,.string sh,.string sq,VE,.string st,.string ⟨#[]⟩,Ua,Ul,Uw,UH,US,U3,Te,Tp,TA,TL,TT,TU,TV,TW,TX,TY,TZ,T0,T1,T2,T3,T4,T5,T6,T7,T8,T9,Sa,Sb,Sc,Sd,Se,Sf,Sg,Sh,Si,Sj,Sk,Sl,Sm,Sn,So,Sp,Sq,Sr,Ss,St,Su,Sv,Sw,Sx,Sy,Sz,SA,SB,SC,SD,SE,SF,SG,SH,SI,SJ,SK,SL,SM,SN,SO,SP,SQ,SR,SS,ST,SU,SV,SW,SX,SY,SZ,S0,S1,S2,S3,S4,Va,Vb,Vc,Vd,Ve,Vf,Vg,Vh,Vi,Vj,Vk,Vl,Vm,Vn,Vo,Vp,Vq,Vr,.string t.x.op,Vs,Vt,Vu,Vv,Vw,Vx,Vy,Vz,VA,VB,VD,VF,VG,VH,VI,VJ,VK,VL,VM,VN,VO,VP,VQ,VS,VT,VU,VV,VW,VX,VY,VZ,V0,V1,V2,V3,V4,V5,V6,V7,V8,V9,Ub,Uc,Ud,Ue,Uf,Ug,Uh,Ui,Uj,Uk,Um,Un,Uo,Up,Uq,Ur,Us,Ut,Uu,Uv,Ux,Uy,Uz,UA,UB,UC,UD,UE,UF,UG,UI,UJ,UK,UL,UM,UN,UO,UP,UQ,UR,UT,UU,UV,UW,UX,UY,UZ,U0,U1,U2,U4,U5,U6,U7,U8,U9,Ta,Tb,Tc,Td,Tf,Tg,Th,Ti,Tj,Tk,Tl,Tm,Tn,To,Tq,Tr,Ts,Tt,Tu,Tv,Tw,Tx,Ty,Tz,TB,TC,TD,TE,TF,TG,TH,TI,TJ,TK,TM,TN,TO,TP,TQ,TR,TS],[]⟩ w3:=by
 have zh:=hsh.size
 have zq:=hsq.size
 have zr:=hsr.size
 have za:=hsa.size
 have zb:=hsb.size
 have ze:=hse.size
 have zs:=hst.size
 have hus:=H.out.us
 have hlk0:=H.out.lk0
 have hlk1:=H.out.lk1
 have hsz:=R.sizeL_nn t.body
 have hbg:=H.out.hbg
 have hblt:=H.out.hblt
 have hws:=B3.size
 obtain⟨d0,d1,d2,d3,d4,d5,d6,d7,d8,W3,glt,gfr,g0,g1,g2,g3⟩:=H.out.facts B3
 have HW3:=hide W3
 clear W3 d0 d1 d2 d3 d4 d6 d7
 have f1:(t.x.op.toList==[108,111,97,100])=false:=by rw[ho];rfl
 have f2:(t.x.op.toList==[115,116,111,114,101])=false:=by rw[ho];rfl
 have f3:(t.x.op.toList==[97,100,100])=true:=by rw[ho];rfl
 have f8:(t.x.op.toList==[105,102])=false:=by rw[ho];rfl
 dsimp only
 refine wpL_step (fun K hK=>?_)
 have HK:=hide hK
 clear hK
 conv=>arg 2;whnf
 go_wp2_with fail
 refine HK.out _ _ ?_
 clear HK
 refine wpL_step (fun K hK=>?_)
 have HK:=hide hK
 clear hK
 conv=>arg 2;whnf
 go_wp2_with fail
 refine HK.out _ _ ?_
 clear HK
 simp only[wpL,Exit.inBlock,Exit.then]
 refine hK0.out _ _ _ _ _ _ _ _ _ _ _ _ _ _ _ _ _ _ _ _ _ _ _ _ _ _ _ _ _ _ _ _ _ _ _ _ _ _ _ _ _ _ _ _ _ _ _ _ _ _ _ _ _ _ _ _ _ _ _ _ _ _ _ _ _ _ _ _ _ _ _ _ _ _ _ _ _ _ _ _ _ _ _ _ _ _ _ _ _ _ _ _ _ _ _ _ _ _ _ _ _ _ _ _ _ _ _ _ _ _ _ _ _ _ _ _ _ _ _ _ _ _ _ _ _ _ _ _ _ _ _ _ _ _ _ _ _ _ _ _ _ _ _ _ _ _ _ _ _ _ _ _ _ _ _ _ _ _ _ _ _ _ _ _ _ _ _ _ _ _ _ _ _ _ _ _ _ _ _ _ _ _ _ _ _ _ _ _ _ _ _ _ _ _ _ _ _ _ _ _ _ _ _ _ _ _ _ _ _ _ _ _ _ _ _ _ _ _ _ _ _ _ _ _ _ _ _ _ _ _ _ _ _ _ _ _ _ _ _ _ _ _ _ _ _ _ _ _ _ _ _ _ _ ?_
 refine H.out.next (u2:=?uu) ?h1 ?h2 ?h3 (grown_setCell (grown_of_below B3 _) _ _)
 case h1=>rw[R.textP_leaf pr lk t f8];exact VrAt.setT (by exact HW3.out) _
 case h2=>rw[R.textP_leaf pr lk t f8,R.line_add { t.x with ord:=R.ordX pr t.x } ho];simp[app_toList,lit_toList,hst.1,hsr.1,hse.1,hsa.1,hsb.1,hsh.1,hsq.1,R.regT_ord]
 case h3=>simp[lit_size];omega
end Go.Proofs.YtpkjmdcabdplfaaGreatDoor
