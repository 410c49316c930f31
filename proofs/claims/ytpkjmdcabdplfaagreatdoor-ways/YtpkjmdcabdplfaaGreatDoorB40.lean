import Derived.Test.YtpkjmdcabdplfaaGreatDoorB37
set_option linter.unusedVariables false
set_option linter.unusedSimpArgs false
namespace Go.Proofs.YtpkjmdcabdplfaaGreatDoor
open Go Go.RowKit
set_option maxRecDepth 100000
set_option maxRecDepth 1000000 in
set_option maxHeartbeats 12800000 in
theorem VlOpSetA (w wr:World) (g:Nat) (tx:ByteArray) (lb:Int) (pv:Value) (fb:Bool) (pr:Int→Bool) (l:List R.Tree) (n k:Nat) (u:ByteArray) (lk:Int) (b sc:Nat) (uv:Value) (t:R.Tree) (H:Hid (VC w wr g tx lb pv fb pr l n k u lk b uv t)) (ho:t.x.op.toList=[115,101,116]) (q:Int) (hqe:R.inn t.x.sign.toList R.signs=q) (hq0:q=0) (so sh sq sr sa sb se st:ByteArray) (w3:World) (c2 c3 VE Ua Ul Uw UH US U3 Te Tp TA TL TT TU TV TW TX TY TZ T0 T1 T2 T3 T4 T5 T6 T7 T8 T9 Sa Sb Sc Sd Se Sf Sg Sh Si Sj Sk Sl Sm Sn So Sp Sq Sr Ss St Su Sv Sw Sx Sy Sz SA SB SC SD SE SF SG SH SI SJ SK SL SM SN SO SP SQ SR SS ST SU SV SW SX SY SZ S0 S1 S2 S3 S4 Va Vb Vc Vd Ve Vf Vg Vh Vi Vj Vk Vl Vm Vn Vo Vp Vq Vr Vs Vt Vu Vv Vw Vx Vy Vz VA VB VD VF VG VH VI VJ VK VL VM VN VO VP VQ VS VT VU VV VW VX VY VZ V0 V1 V2 V3 V4 V5 V6 V7 V8 V9 Ub Uc Ud Ue Uf Ug Uh Ui Uj Uk Um Un Uo Up Uq Ur Us Ut Uu Uv Ux Uy Uz UA UB UC UD UE UF UG UI UJ UK UL UM UN UO UP UQ UR UT UU UV UW UX UY UZ U0 U1 U2 U4 U5 U6 U7 U8 U9 Ta Tb Tc Td Tf Tg Th Ti Tj Tk Tl Tm Tn To Tq Tr Ts Tt Tu Tv Tw Tx Ty Tz TB TC TD TE TF TG TH TI TJ TK TM TN TO TP TQ TR TS:Value) (hsh:Txt 20000 sh (R.aheadT pr t.x)) (hsq:Txt 20000 sq (R.behindT pr t.x)) (hsr:Txt 4 sr (R.regT t.x)) (hsa:Txt 4 sa (R.shown t.x.a)) (hsb:Txt 4 sb (R.shown t.x.b)) (hse:Txt 3 se (R.celT t.x.var)) (hst:Txt 10000 st (R.scopd (R.ordX pr t.x).toList t.x.scope.toList)) (B3:Below wr.heap.size wr w3) (K0:Act→World→Prop) (Q0:Exit→Act→World→Prop)
  (hK0:Hid (∀ (u5 u6 u7 u8 u9 Za Zl Zw ZH ZS Z3 Ye Yp YA YL YW Y7 Xi Xt XE XP XX XY XZ X0 X1 X2 X3 X4 X5 X6 X7 X8 X9 Wa Wb Wc Wd We Wf Wg Wh Wi Wj Wk Wl Wm Wn Wo Wp Wq Wr Ws Wt Wu Wv Ww Wx Wy Wz WA WB WC WD WE WF WG WH WI WJ WK WL WM WN WO WP WQ WR WS WT WU WV WW WX WY WZ W0 W1 W2 W4 W5 W6 W7 W8 W9 Zb Zc Zd Ze Zf Zg Zh Zi Zj Zk Zm Zn Zo Zp Zq Zr Zs Zt Zu Zv Zx Zy Zz ZA ZB ZC ZD ZE ZF ZG ZI ZJ ZK ZL ZM ZN ZO ZP ZQ ZR ZT ZU ZV ZW ZX ZY ZZ Z0 Z1 Z2 Z4 Z5 Z6 Z7 Z8 Z9 Ya Yb Yc Yd Yf Yg Yh Yi Yj Yk Yl Ym Yn Yo Yq Yr Ys Yt Yu Yv Yw Yx Yy Yz YB YC YD YE YF YG YH YI YJ YK YM YN YO YP YQ YR YS YT YU YV YX YY YZ Y0 Y1 Y2 Y3 Y4 Y5 Y6 Y8 Y9 Xa Xb Xc Xd Xe Xf Xg Xh Xj Xk Xl Xm Xn Xo Xp Xq Xr Xs Xu Xv Xw Xx Xy Xz XA XB XC XD XF XG XH XI XJ XK XL XM XN XO XQ XR XS XT XU XV XW:Value) (w2:World),VR w g tx lb pv fb pr l n (.int .i64 ((k:Int)+1)) w2→K0 ⟨#[.pointer (some ⟨g,0,none⟩),.slice (some ⟨b,0,none⟩) n sc,c2,c3,.int .i64 (k:Int),u5,u6,u7,u8,u9,Za,Zl,Zw,ZH,ZS,Z3,Ye,Yp,YA,YL,YW,Y7,Xi,Xt,XE,XP,XX,XY,XZ,X0,X1,X2,X3,X4,X5,X6,X7,X8,X9,Wa,Wb,Wc,Wd,We,Wf,Wg,Wh,Wi,Wj,Wk,Wl,Wm,Wn,Wo,Wp,Wq,Wr,Ws,Wt,Wu,Wv,Ww,Wx,Wy,Wz,WA,WB,WC,WD,WE,WF,WG,WH,WI,WJ,WK,WL,WM,WN,WO,WP,WQ,WR,WS,WT,WU,WV,WW,WX,WY,WZ,W0,W1,W2,W4,W5,W6,W7,W8,W9,Zb,Zc,Zd,Ze,Zf,Zg,Zh,Zi,Zj,Zk,Zm,Zn,Zo,Zp,Zq,Zr,Zs,Zt,Zu,Zv,Zx,Zy,Zz,ZA,ZB,ZC,ZD,ZE,ZF,ZG,ZI,ZJ,ZK,ZL,ZM,ZN,ZO,ZP,ZQ,ZR,ZT,ZU,ZV,ZW,ZX,ZY,ZZ,Z0,Z1,Z2,Z4,Z5,Z6,Z7,Z8,Z9,Ya,Yb,Yc,Yd,Yf,Yg,Yh,Yi,Yj,Yk,Yl,Ym,Yn,Yo,Yq,Yr,Ys,Yt,Yu,Yv,Yw,Yx,Yy,Yz,YB,YC,YD,YE,YF,YG,YH,YI,YJ,YK,YM,YN,YO,YP,YQ,YR,YS,YT,YU,YV,YX,YY,YZ,Y0,Y1,Y2,Y3,Y4,Y5,Y6,Y8,Y9,Xa,Xb,Xc,Xd,Xe,Xf,Xg,Xh,Xj,Xk,Xl,Xm,Xn,Xo,Xp,Xq,Xr,Xs,Xu,Xv,Xw,Xx,Xy,Xz,XA,XB,XC,XD,XF,XG,XH,XI,XJ,XK,XL,XM,XN,XO,XQ,XR,XS,XT,XU,XV,XW],[]⟩ w2)) :
  wpL Tryz.prog [(stmOf (inOf (stmOf (bodyOf Tryz.f22) 2)) 15),(stmOf (inOf (stmOf (bodyOf Tryz.f22) 2)) 16)] (Exit.inBlock 1 (Exit.then K0 Q0)) ⟨#[.pointer (some ⟨g,0,none⟩),.slice (some ⟨b,0,none⟩) n sc,c2,c3,.int .i64 (k:Int),.pointer (some ⟨b,k*9,none⟩),.string sr,.string sa,.string sb,.string se,.string so,.string sh,.string sq,VE,.string st,.string ⟨#[]⟩,Ua,Ul,Uw,UH,US,U3,Te,Tp,TA,TL,TT,TU,TV,TW,TX,TY,TZ,T0,T1,T2,T3,T4,T5,T6,T7,T8,T9,Sa,Sb,Sc,Sd,Se,Sf,Sg,Sh,Si,Sj,Sk,Sl,Sm,Sn,So,Sp,Sq,Sr,Ss,St,Su,Sv,Sw,Sx,Sy,Sz,SA,SB,SC,SD,SE,SF,SG,SH,SI,SJ,SK,SL,SM,SN,SO,SP,SQ,SR,SS,ST,SU,SV,SW,SX,SY,SZ,S0,S1,S2,S3,S4,Va,Vb,Vc,Vd,Ve,Vf,Vg,Vh,Vi,Vj,Vk,Vl,Vm,Vn,Vo,Vp,Vq,Vr,.string t.x.op,Vs,Vt,Vu,Vv,Vw,Vx,Vy,Vz,VA,VB,VD,VF,VG,VH,VI,VJ,VK,VL,VM,VN,VO,VP,VQ,VS,VT,VU,VV,VW,VX,VY,VZ,V0,V1,V2,V3,V4,V5,V6,V7,V8,V9,Ub,Uc,Ud,Ue,Uf,Ug,Uh,Ui,Uj,Uk,Um,Un,Uo,Up,Uq,Ur,Us,Ut,Uu,Uv,Ux,Uy,Uz,UA,UB,UC,UD,UE,UF,UG,UI,UJ,UK,UL,UM,UN,UO,UP,UQ,UR,UT,UU,UV,UW,UX,UY,UZ,U0,U1,U2,U4,U5,U6,U7,U8,U9,Ta,Tb,Tc,Td,Tf,Tg,Th,Ti,Tj,Tk,Tl,Tm,Tn,To,Tq,Tr,Ts,Tt,Tu,Tv,Tw,Tx,Ty,Tz,TB,TC,TD,TE,TF,TG,TH,TI,TJ,TK,TM,TN,TO,TP,TQ,TR,TS],[]⟩ w3:=by
 have zh:=hsh.size
 have zq:=hsq.size
 have zr:=hsr.size
 have za:=hsa.size
 have zb:=hsb.size
 have ze:=hse.size
 have zs:=hst.size
 have hus:=H.out.us
 have hlk0:=H.out.lk0
 have hlk1:=H.out.lk1
 have hsz:=R.sizeL_nn t.body
 have hbg:=H.out.hbg
 have hblt:=H.out.hblt
 have hws:=B3.size
 obtain⟨d0,d1,d2,d3,d4,d5,d6,d7,d8,W3,glt,gfr,g0,g1,g2,g3⟩:=H.out.facts B3
 have HW3:=hide W3
 clear W3 d0 d1 d2 d3 d4 d6 d7
 have f1:(t.x.op.toList==[108,111,97,100])=false:=by rw[ho];rfl
 have f2:(t.x.op.toList==[115,116,111,114,101])=false:=by rw[ho];rfl
 have f3:(t.x.op.toList==[97,100,100])=false:=by rw[ho];rfl
 have f4:(t.x.op.toList==[115,119,97,112])=false:=by rw[ho];rfl
 have f5:(t.x.op.toList==[102,101,110,99,101])=false:=by rw[ho];rfl
 have f6:(t.x.op.toList==[98,97,114,114,105,101,114])=false:=by rw[ho];rfl
 have f7:(t.x.op.toList==[115,101,116])=true:=by rw[ho];rfl
 have f8:(t.x.op.toList==[105,102])=false:=by rw[ho];rfl
 dsimp only
 subst hq0
 have INQ:Hid (∀ w:World,Calls Tryz.prog 14 #[.string t.x.sign,.string ⟨#[43,32,45,32,61,61]⟩] w fun e w'=>e=.returned (.int .i64 0)∧Below w.heap.size w w'):=fun w=>by
  rw[← hqe];exact in_lst t.x.sign R.signs _ _ rfl (by simp)
 refine wpL_step (fun K hK=>?_)
 have HK:=hide hK
 clear hK
 conv=>arg 2;whnf
 go_wp2_with fail
 refine (INQ.out _).mono ?_
 rintro e w4 ⟨rfl,hb4⟩
 have HW4:=hide (HW3.out.below hb4)
 obtain⟨glt,gfr,g0,g1,g2,g3⟩:=HW4.out.facts
 have G4:=hide (grown_trans (grown_of_below B3 (some g)) (grown_of_below hb4 (some g)))
 dsimp only
 go_wp2_with fail
 refine HK.out _ _ ?_
 clear HK
 refine wpL_step (fun K hK=>?_)
 have HK:=hide hK
 clear hK
 conv=>arg 2;whnf
 go_wp2_with fail
 refine HK.out _ _ ?_
 clear HK
 simp only[wpL,Exit.inBlock,Exit.then]
 refine hK0.out _ _ _ _ _ _ _ _ _ _ _ _ _ _ _ _ _ _ _ _ _ _ _ _ _ _ _ _ _ _ _ _ _ _ _ _ _ _ _ _ _ _ _ _ _ _ _ _ _ _ _ _ _ _ _ _ _ _ _ _ _ _ _ _ _ _ _ _ _ _ _ _ _ _ _ _ _ _ _ _ _ _ _ _ _ _ _ _ _ _ _ _ _ _ _ _ _ _ _ _ _ _ _ _ _ _ _ _ _ _ _ _ _ _ _ _ _ _ _ _ _ _ _ _ _ _ _ _ _ _ _ _ _ _ _ _ _ _ _ _ _ _ _ _ _ _ _ _ _ _ _ _ _ _ _ _ _ _ _ _ _ _ _ _ _ _ _ _ _ _ _ _ _ _ _ _ _ _ _ _ _ _ _ _ _ _ _ _ _ _ _ _ _ _ _ _ _ _ _ _ _ _ _ _ _ _ _ _ _ _ _ _ _ _ _ _ _ _ _ _ _ _ _ _ _ _ _ _ _ _ _ _ _ _ _ _ _ _ _ _ _ _ _ _ _ _ _ _ _ _ _ _ _ ?_
 refine H.out.next (u2:=?uu) ?h1 ?h2 ?h3 (grown_alloc (grown_setCell (G4.out) _ _) _)
 case h1=>rw[R.textP_leaf pr lk t f8];exact VrAt.alloc (VrAt.setT (by exact HW4.out) _) _
 case h2=>rw[R.textP_leaf pr lk t f8,R.line_set { t.x with ord:=R.ordX pr t.x } _ ho hqe (by omega)];simp[app_toList,lit_toList,hst.1,hsr.1,hse.1,hsa.1,hsb.1,hsh.1,hsq.1,R.regT_ord]
 case h3=>simp[lit_size];omega
set_option maxRecDepth 1000000 in
set_option maxHeartbeats 12800000 in
theorem VlOpSetB (w wr:World) (g:Nat) (tx:ByteArray) (lb:Int) (pv:Value) (fb:Bool) (pr:Int→Bool) (l:List R.Tree) (n k:Nat) (u:ByteArray) (lk:Int) (b sc:Nat) (uv:Value) (t:R.Tree) (H:Hid (VC w wr g tx lb pv fb pr l n k u lk b uv t)) (ho:t.x.op.toList=[115,101,116]) (q:Int) (hqe:R.inn t.x.sign.toList R.signs=q) (hq0:q=1) (so sh sq sr sa sb se st:ByteArray) (w3:World) (c2 c3 VE Ua Ul Uw UH US U3 Te Tp TA TL TT TU TV TW TX TY TZ T0 T1 T2 T3 T4 T5 T6 T7 T8 T9 Sa Sb Sc Sd Se Sf Sg Sh Si Sj Sk Sl Sm Sn So Sp Sq Sr Ss St Su Sv Sw Sx Sy Sz SA SB SC SD SE SF SG SH SI SJ SK SL SM SN SO SP SQ SR SS ST SU SV SW SX SY SZ S0 S1 S2 S3 S4 Va Vb Vc Vd Ve Vf Vg Vh Vi Vj Vk Vl Vm Vn Vo Vp Vq Vr Vs Vt Vu Vv Vw Vx Vy Vz VA VB VD VF VG VH VI VJ VK VL VM VN VO VP VQ VS VT VU VV VW VX VY VZ V0 V1 V2 V3 V4 V5 V6 V7 V8 V9 Ub Uc Ud Ue Uf Ug Uh Ui Uj Uk Um Un Uo Up Uq Ur Us Ut Uu Uv Ux Uy Uz UA UB UC UD UE UF UG UI UJ UK UL UM UN UO UP UQ UR UT UU UV UW UX UY UZ U0 U1 U2 U4 U5 U6 U7 U8 U9 Ta Tb Tc Td Tf Tg Th Ti Tj Tk Tl Tm Tn To Tq Tr Ts Tt Tu Tv Tw Tx Ty Tz TB TC TD TE TF TG TH TI TJ TK TM TN TO TP TQ TR TS:Value) (hsh:Txt 20000 sh (R.aheadT pr t.x)) (hsq:Txt 20000 sq (R.behindT pr t.x)) (hsr:Txt 4 sr (R.regT t.x)) (hsa:Txt 4 sa (R.shown t.x.a)) (hsb:Txt 4 sb (R.shown t.x.b)) (hse:Txt 3 se (R.celT t.x.var)) (hst:Txt 10000 st (R.scopd (R.ordX pr t.x).toList t.x.scope.toList)) (B3:Below wr.heap.size wr w3) (K0:Act→World→Prop) (Q0:Exit→Act→World→Prop)
  (hK0:Hid (∀ (u5 u6 u7 u8 u9 Za Zl Zw ZH ZS Z3 Ye Yp YA YL YW Y7 Xi Xt XE XP XX XY XZ X0 X1 X2 X3 X4 X5 X6 X7 X8 X9 Wa Wb Wc Wd We Wf Wg Wh Wi Wj Wk Wl Wm Wn Wo Wp Wq Wr Ws Wt Wu Wv Ww Wx Wy Wz WA WB WC WD WE WF WG WH WI WJ WK WL WM WN WO WP WQ WR WS WT WU WV WW WX WY WZ W0 W1 W2 W4 W5 W6 W7 W8 W9 Zb Zc Zd Ze Zf Zg Zh Zi Zj Zk Zm Zn Zo Zp Zq Zr Zs Zt Zu Zv Zx Zy Zz ZA ZB ZC ZD ZE ZF ZG ZI ZJ ZK ZL ZM ZN ZO ZP ZQ ZR ZT ZU ZV ZW ZX ZY ZZ Z0 Z1 Z2 Z4 Z5 Z6 Z7 Z8 Z9 Ya Yb Yc Yd Yf Yg Yh Yi Yj Yk Yl Ym Yn Yo Yq Yr Ys Yt Yu Yv Yw Yx Yy Yz YB YC YD YE YF YG YH YI YJ YK YM YN YO YP YQ YR YS YT YU YV YX YY YZ Y0 Y1 Y2 Y3 Y4 Y5 Y6 Y8 Y9 Xa Xb Xc Xd Xe Xf Xg Xh Xj Xk Xl Xm Xn Xo Xp Xq Xr Xs Xu Xv Xw Xx Xy Xz XA XB XC XD XF XG XH XI XJ XK XL XM XN XO XQ XR XS XT XU XV XW:Value) (w2:World),VR w g tx lb pv fb pr l n (.int .i64 ((k:Int)+1)) w2→K0 ⟨#[.pointer (some ⟨g,0,none⟩),.slice (some ⟨b,0,none⟩) n sc,c2,c3,.int .i64 (k:Int),u5,u6,u7,u8,u9,Za,Zl,Zw,ZH,ZS,Z3,Ye,Yp,YA,YL,YW,Y7,Xi,Xt,XE,XP,XX,XY,XZ,X0,X1,X2,X3,X4,X5,X6,X7,X8,X9,Wa,Wb,Wc,Wd,We,Wf,Wg,Wh,Wi,Wj,Wk,Wl,Wm,Wn,Wo,Wp,Wq,Wr,Ws,Wt,Wu,Wv,Ww,Wx,Wy,Wz,WA,WB,WC,WD,WE,WF,WG,WH,WI,WJ,WK,WL,WM,WN,WO,WP,WQ,WR,WS,WT,WU,WV,WW,WX,WY,WZ,W0,W1,W2,W4,W5,W6,W7,W8,W9,Zb,Zc,Zd,Ze,Zf,Zg,Zh,Zi,Zj,Zk,Zm,Zn,Zo,Zp,Zq,Zr,Zs,Zt,Zu,Zv,Zx,Zy,Zz,ZA,ZB,ZC,ZD,ZE,ZF,ZG,ZI,ZJ,ZK,ZL,ZM,ZN,ZO,ZP,ZQ,ZR,ZT,ZU,ZV,ZW,ZX,ZY,ZZ,Z0,Z1,Z2,Z4,Z5,Z6,Z7,Z8,Z9,Ya,Yb,Yc,Yd,Yf,Yg,Yh,Yi,Yj,Yk,Yl,Ym,Yn,Yo,Yq,Yr,Ys,Yt,Yu,Yv,Yw,Yx,Yy,Yz,YB,YC,YD,YE,YF,YG,YH,YI,YJ,YK,YM,YN,YO,YP,YQ,YR,YS,YT,YU,YV,YX,YY,YZ,Y0,Y1,Y2,Y3,Y4,Y5,Y6,Y8,Y9,Xa,Xb,Xc,Xd,Xe,Xf,Xg,Xh,Xj,Xk,Xl,Xm,Xn,Xo,Xp,Xq,Xr,Xs,Xu,Xv,Xw,Xx,Xy,Xz,XA,XB,XC,XD,XF,XG,XH,XI,XJ,XK,XL,XM,XN,XO,XQ,XR,XS,XT,XU,XV,XW],[]⟩ w2)) :
  wpL Tryz.prog [(stmOf (inOf (stmOf (bodyOf Tryz.f22) 2)) 15),(stmOf (inOf (stmOf (bodyOf Tryz.f22) 2)) 16)] (Exit.inBlock 1 (Exit.then K0 Q0)) ⟨#[.pointer (some ⟨g,0,none⟩),.slice (some ⟨b,0,none⟩) n sc,c2,c3,.int .i64 (k:Int),.pointer (some ⟨b,k*9,none⟩),.string sr,.string sa,.string sb,.string se,.string so,.string sh,.string sq,VE,.string st,.string ⟨#[]⟩,Ua,Ul,Uw,UH,US,U3,Te,Tp,TA,TL,TT,TU,TV,TW,TX,TY,TZ,T0,T1,T2,T3,T4,T5,T6,T7,T8,T9,Sa,Sb,Sc,Sd,Se,Sf,Sg,Sh,Si,Sj,Sk,Sl,Sm,Sn,So,Sp,Sq,Sr,Ss,St,Su,Sv,Sw,Sx,Sy,Sz,SA,SB,SC,SD,SE,SF,SG,SH,SI,SJ,SK,SL,SM,SN,SO,SP,SQ,SR,SS,ST,SU,SV,SW,SX,SY,SZ,S0,S1,S2,S3,S4,Va,Vb,Vc,Vd,Ve,Vf,Vg,Vh,Vi,Vj,Vk,Vl,Vm,Vn,Vo,Vp,Vq,Vr,.string t.x.op,Vs,Vt,Vu,Vv,Vw,Vx,Vy,Vz,VA,VB,VD,VF,VG,VH,VI,VJ,VK,VL,VM,VN,VO,VP,VQ,VS,VT,VU,VV,VW,VX,VY,VZ,V0,V1,V2,V3,V4,V5,V6,V7,V8,V9,Ub,Uc,Ud,Ue,Uf,Ug,Uh,Ui,Uj,Uk,Um,Un,Uo,Up,Uq,Ur,Us,Ut,Uu,Uv,Ux,Uy,Uz,UA,UB,UC,UD,UE,UF,UG,UI,UJ,UK,UL,UM,UN,UO,UP,UQ,UR,UT,UU,UV,UW,UX,UY,UZ,U0,U1,U2,U4,U5,U6,U7,U8,U9,Ta,Tb,Tc,Td,Tf,Tg,Th,Ti,Tj,Tk,Tl,Tm,Tn,To,Tq,Tr,Ts,Tt,Tu,Tv,Tw,Tx,Ty,Tz,TB,TC,TD,TE,TF,TG,TH,TI,TJ,TK,TM,TN,TO,TP,TQ,TR,TS],[]⟩ w3:=by
 have zh:=hsh.size
 have zq:=hsq.size
 have zr:=hsr.size
 have za:=hsa.size
 have zb:=hsb.size
 have ze:=hse.size
 have zs:=hst.size
 have hus:=H.out.us
 have hlk0:=H.out.lk0
 have hlk1:=H.out.lk1
 have hsz:=R.sizeL_nn t.body
 have hbg:=H.out.hbg
 have hblt:=H.out.hblt
 have hws:=B3.size
 obtain⟨d0,d1,d2,d3,d4,d5,d6,d7,d8,W3,glt,gfr,g0,g1,g2,g3⟩:=H.out.facts B3
 have HW3:=hide W3
 clear W3 d0 d1 d2 d3 d4 d6 d7
 have f1:(t.x.op.toList==[108,111,97,100])=false:=by rw[ho];rfl
 have f2:(t.x.op.toList==[115,116,111,114,101])=false:=by rw[ho];rfl
 have f3:(t.x.op.toList==[97,100,100])=false:=by rw[ho];rfl
 have f4:(t.x.op.toList==[115,119,97,112])=false:=by rw[ho];rfl
 have f5:(t.x.op.toList==[102,101,110,99,101])=false:=by rw[ho];rfl
 have f6:(t.x.op.toList==[98,97,114,114,105,101,114])=false:=by rw[ho];rfl
 have f7:(t.x.op.toList==[115,101,116])=true:=by rw[ho];rfl
 have f8:(t.x.op.toList==[105,102])=false:=by rw[ho];rfl
 dsimp only
 subst hq0
 have INQ:Hid (∀ w:World,Calls Tryz.prog 14 #[.string t.x.sign,.string ⟨#[43,32,45,32,61,61]⟩] w fun e w'=>e=.returned (.int .i64 1)∧Below w.heap.size w w'):=fun w=>by
  rw[← hqe];exact in_lst t.x.sign R.signs _ _ rfl (by simp)
 refine wpL_step (fun K hK=>?_)
 have HK:=hide hK
 clear hK
 conv=>arg 2;whnf
 go_wp2_with fail
 refine (INQ.out _).mono ?_
 rintro e w4 ⟨rfl,hb4⟩
 have HW4:=hide (HW3.out.below hb4)
 obtain⟨glt,gfr,g0,g1,g2,g3⟩:=HW4.out.facts
 have G4:=hide (grown_trans (grown_of_below B3 (some g)) (grown_of_below hb4 (some g)))
 dsimp only
 go_wp2_with fail
 refine HK.out _ _ ?_
 clear HK
 refine wpL_step (fun K hK=>?_)
 have HK:=hide hK
 clear hK
 conv=>arg 2;whnf
 go_wp2_with fail
 refine HK.out _ _ ?_
 clear HK
 simp only[wpL,Exit.inBlock,Exit.then]
 refine hK0.out _ _ _ _ _ _ _ _ _ _ _ _ _ _ _ _ _ _ _ _ _ _ _ _ _ _ _ _ _ _ _ _ _ _ _ _ _ _ _ _ _ _ _ _ _ _ _ _ _ _ _ _ _ _ _ _ _ _ _ _ _ _ _ _ _ _ _ _ _ _ _ _ _ _ _ _ _ _ _ _ _ _ _ _ _ _ _ _ _ _ _ _ _ _ _ _ _ _ _ _ _ _ _ _ _ _ _ _ _ _ _ _ _ _ _ _ _ _ _ _ _ _ _ _ _ _ _ _ _ _ _ _ _ _ _ _ _ _ _ _ _ _ _ _ _ _ _ _ _ _ _ _ _ _ _ _ _ _ _ _ _ _ _ _ _ _ _ _ _ _ _ _ _ _ _ _ _ _ _ _ _ _ _ _ _ _ _ _ _ _ _ _ _ _ _ _ _ _ _ _ _ _ _ _ _ _ _ _ _ _ _ _ _ _ _ _ _ _ _ _ _ _ _ _ _ _ _ _ _ _ _ _ _ _ _ _ _ _ _ _ _ _ _ _ _ _ _ _ _ _ _ _ _ ?_
 refine H.out.next (u2:=?uu) ?h1 ?h2 ?h3 (grown_alloc (grown_setCell (G4.out) _ _) _)
 case h1=>rw[R.textP_leaf pr lk t f8];exact VrAt.alloc (VrAt.setT (by exact HW4.out) _) _
 case h2=>rw[R.textP_leaf pr lk t f8,R.line_set { t.x with ord:=R.ordX pr t.x } _ ho hqe (by omega)];simp[app_toList,lit_toList,hst.1,hsr.1,hse.1,hsa.1,hsb.1,hsh.1,hsq.1,R.regT_ord]
 case h3=>simp[lit_size];omega
set_option maxRecDepth 1000000 in
set_option maxHeartbeats 12800000 in
theorem VlOpSetC (w wr:World) (g:Nat) (tx:ByteArray) (lb:Int) (pv:Value) (fb:Bool) (pr:Int→Bool) (l:List R.Tree) (n k:Nat) (u:ByteArray) (lk:Int) (b sc:Nat) (uv:Value) (t:R.Tree) (H:Hid (VC w wr g tx lb pv fb pr l n k u lk b uv t)) (ho:t.x.op.toList=[115,101,116]) (q:Int) (hqe:R.inn t.x.sign.toList R.signs=q) (hq0:q=2) (so sh sq sr sa sb se st:ByteArray) (w3:World) (c2 c3 VE Ua Ul Uw UH US U3 Te Tp TA TL TT TU TV TW TX TY TZ T0 T1 T2 T3 T4 T5 T6 T7 T8 T9 Sa Sb Sc Sd Se Sf Sg Sh Si Sj Sk Sl Sm Sn So Sp Sq Sr Ss St Su Sv Sw Sx Sy Sz SA SB SC SD SE SF SG SH SI SJ SK SL SM SN SO SP SQ SR SS ST SU SV SW SX SY SZ S0 S1 S2 S3 S4 Va Vb Vc Vd Ve Vf Vg Vh Vi Vj Vk Vl Vm Vn Vo Vp Vq Vr Vs Vt Vu Vv Vw Vx Vy Vz VA VB VD VF VG VH VI VJ VK VL VM VN VO VP VQ VS VT VU VV VW VX VY VZ V0 V1 V2 V3 V4 V5 V6 V7 V8 V9 Ub Uc Ud Ue Uf Ug Uh Ui Uj Uk Um Un Uo Up Uq Ur Us Ut Uu Uv Ux Uy Uz UA UB UC UD UE UF UG UI UJ UK UL UM UN UO UP UQ UR UT UU UV UW UX UY UZ U0 U1 U2 U4 U5 U6 U7 U8 U9 Ta Tb Tc Td Tf Tg Th Ti Tj Tk Tl Tm Tn To Tq Tr Ts Tt Tu Tv Tw Tx Ty Tz TB TC TD TE TF TG TH TI TJ TK TM TN TO TP TQ TR TS:Value) (hsh:Txt 20000 sh (R.aheadT pr t.x)) (hsq:Txt 20000 sq (R.behindT pr t.x)) (hsr:Txt 4 sr (R.regT t.x)) (hsa:Txt 4 sa (R.shown t.x.a)) (hsb:Txt 4 sb (R.shown t.x.b)) (hse:Txt 3 se (R.celT t.x.var)) (hst:Txt 10000 st (R.scopd (R.ordX pr t.x).toList t.x.scope.toList)) (B3:Below wr.heap.size wr w3) (K0:Act→World→Prop) (Q0:Exit→Act→World→Prop)
  (hK0:Hid (∀ (u5 u6 u7 u8 u9 Za Zl Zw ZH ZS Z3 Ye Yp YA YL YW Y7 Xi Xt XE XP XX XY XZ X0 X1 X2 X3 X4 X5 X6 X7 X8 X9 Wa Wb Wc Wd We Wf Wg Wh Wi Wj Wk Wl Wm Wn Wo Wp Wq Wr Ws Wt Wu Wv Ww Wx Wy Wz WA WB WC WD WE WF WG WH WI WJ WK WL WM WN WO WP WQ WR WS WT WU WV WW WX WY WZ W0 W1 W2 W4 W5 W6 W7 W8 W9 Zb Zc Zd Ze Zf Zg Zh Zi Zj Zk Zm Zn Zo Zp Zq Zr Zs Zt Zu Zv Zx Zy Zz ZA ZB ZC ZD ZE ZF ZG ZI ZJ ZK ZL ZM ZN ZO ZP ZQ ZR ZT ZU ZV ZW ZX ZY ZZ Z0 Z1 Z2 Z4 Z5 Z6 Z7 Z8 Z9 Ya Yb Yc Yd Yf Yg Yh Yi Yj Yk Yl Ym Yn Yo Yq Yr Ys Yt Yu Yv Yw Yx Yy Yz YB YC YD YE YF YG YH YI YJ YK YM YN YO YP YQ YR YS YT YU YV YX YY YZ Y0 Y1 Y2 Y3 Y4 Y5 Y6 Y8 Y9 Xa Xb Xc Xd Xe Xf Xg Xh Xj Xk Xl Xm Xn Xo Xp Xq Xr Xs Xu Xv Xw Xx Xy Xz XA XB XC XD XF XG XH XI XJ XK XL XM XN XO XQ XR XS XT XU XV XW:Value) (w2:World),VR w g tx lb pv fb pr l n (.int .i64 ((k:Int)+1)) w2→K0 ⟨#[.pointer (some ⟨g,0,none⟩),.slice (some ⟨b,0,none⟩) n sc,c2,c3,.int .i64 (k:Int),u5,u6,u7,u8,u9,Za,Zl,Zw,ZH,ZS,Z3,Ye,Yp,YA,YL,YW,Y7,Xi,Xt,XE,XP,XX,XY,XZ,X0,X1,X2,X3,X4,X5,X6,X7,X8,X9,Wa,Wb,Wc,Wd,We,Wf,Wg,Wh,Wi,Wj,Wk,Wl,Wm,Wn,Wo,Wp,Wq,Wr,Ws,Wt,Wu,Wv,Ww,Wx,Wy,Wz,WA,WB,WC,WD,WE,WF,WG,WH,WI,WJ,WK,WL,WM,WN,WO,WP,WQ,WR,WS,WT,WU,WV,WW,WX,WY,WZ,W0,W1,W2,W4,W5,W6,W7,W8,W9,Zb,Zc,Zd,Ze,Zf,Zg,Zh,Zi,Zj,Zk,Zm,Zn,Zo,Zp,Zq,Zr,Zs,Zt,Zu,Zv,Zx,Zy,Zz,ZA,ZB,ZC,ZD,ZE,ZF,ZG,ZI,ZJ,ZK,ZL,ZM,ZN,ZO,ZP,ZQ,ZR,ZT,ZU,ZV,ZW,ZX,ZY,ZZ,Z0,Z1,Z2,Z4,Z5,Z6,Z7,Z8,Z9,Ya,Yb,Yc,Yd,Yf,Yg,Yh,Yi,Yj,Yk,Yl,Ym,Yn,Yo,Yq,Yr,Ys,Yt,Yu,Yv,Yw,Yx,Yy,Yz,YB,YC,YD,YE,YF,YG,YH,YI,YJ,YK,YM,YN,YO,YP,YQ,YR,YS,YT,YU,YV,YX,YY,YZ,Y0,Y1,Y2,Y3,Y4,Y5,Y6,Y8,Y9,Xa,Xb,Xc,Xd,Xe,Xf,Xg,Xh,Xj,Xk,Xl,Xm,Xn,Xo,Xp,Xq,Xr,Xs,Xu,Xv,Xw,Xx,Xy,Xz,XA,XB,XC,XD,XF,XG,XH,XI,XJ,XK,XL,XM,XN,XO,XQ,XR,XS,XT,XU,XV,XW],[]⟩ w2)) :
  wpL Tryz.prog [(stmOf (inOf (stmOf (bodyOf Tryz.f22) 2)) 15),(stmOf (inOf (stmOf (bodyOf Tryz.f22) 2)) 16)] (Exit.inBlock 1 (Exit.then K0 Q0)) ⟨#[.pointer (some ⟨g,0,none⟩),.slice (some ⟨b,0,none⟩) n sc,c2,c3,.int .i64 (k:Int),.pointer (some ⟨b,k*9,none⟩),.string sr,.string sa,.string sb,.string se,.string so,.string sh,.string sq,VE,.string st,.string ⟨#[]⟩,Ua,Ul,Uw,UH,US,U3,Te,Tp,TA,TL,TT,TU,TV,TW,TX,TY,TZ,T0,T1,T2,T3,T4,T5,T6,T7,T8,T9,Sa,Sb,Sc,Sd,Se,Sf,Sg,Sh,Si,Sj,Sk,Sl,Sm,Sn,So,Sp,Sq,Sr,Ss,St,Su,Sv,Sw,Sx,Sy,Sz,SA,SB,SC,SD,SE,SF,SG,SH,SI,SJ,SK,SL,SM,SN,SO,SP,SQ,SR,SS,ST,SU,SV,SW,SX,SY,SZ,S0,S1,S2,S3,S4,Va,Vb,Vc,Vd,Ve,Vf,Vg,Vh,Vi,Vj,Vk,Vl,Vm,Vn,Vo,Vp,Vq,Vr,.string t.x.op,Vs,Vt,Vu,Vv,Vw,Vx,Vy,Vz,VA,VB,VD,VF,VG,VH,VI,VJ,VK,VL,VM,VN,VO,VP,VQ,VS,VT,VU,VV,VW,VX,VY,VZ,V0,V1,V2,V3,V4,V5,V6,V7,V8,V9,Ub,Uc,Ud,Ue,Uf,Ug,Uh,Ui,Uj,Uk,Um,Un,Uo,Up,Uq,Ur,Us,Ut,Uu,Uv,Ux,Uy,Uz,UA,UB,UC,UD,UE,UF,UG,UI,UJ,UK,UL,UM,UN,UO,UP,UQ,UR,UT,UU,UV,UW,UX,UY,UZ,U0,U1,U2,U4,U5,U6,U7,U8,U9,Ta,Tb,Tc,Td,Tf,Tg,Th,Ti,Tj,Tk,Tl,Tm,Tn,To,Tq,Tr,Ts,Tt,Tu,Tv,Tw,Tx,Ty,Tz,TB,TC,TD,TE,TF,TG,TH,TI,TJ,TK,TM,TN,TO,TP,TQ,TR,TS],[]⟩ w3:=by
 have zh:=hsh.size
 have zq:=hsq.size
 have zr:=hsr.size
 have za:=hsa.size
 have zb:=hsb.size
 have ze:=hse.size
 have zs:=hst.size
 have hus:=H.out.us
 have hlk0:=H.out.lk0
 have hlk1:=H.out.lk1
 have hsz:=R.sizeL_nn t.body
 have hbg:=H.out.hbg
 have hblt:=H.out.hblt
 have hws:=B3.size
 obtain⟨d0,d1,d2,d3,d4,d5,d6,d7,d8,W3,glt,gfr,g0,g1,g2,g3⟩:=H.out.facts B3
 have HW3:=hide W3
 clear W3 d0 d1 d2 d3 d4 d6 d7
 have f1:(t.x.op.toList==[108,111,97,100])=false:=by rw[ho];rfl
 have f2:(t.x.op.toList==[115,116,111,114,101])=false:=by rw[ho];rfl
 have f3:(t.x.op.toList==[97,100,100])=false:=by rw[ho];rfl
 have f4:(t.x.op.toList==[115,119,97,112])=false:=by rw[ho];rfl
 have f5:(t.x.op.toList==[102,101,110,99,101])=false:=by rw[ho];rfl
 have f6:(t.x.op.toList==[98,97,114,114,105,101,114])=false:=by rw[ho];rfl
 have f7:(t.x.op.toList==[115,101,116])=true:=by rw[ho];rfl
 have f8:(t.x.op.toList==[105,102])=false:=by rw[ho];rfl
 dsimp only
 subst hq0
 have INQ:Hid (∀ w:World,Calls Tryz.prog 14 #[.string t.x.sign,.string ⟨#[43,32,45,32,61,61]⟩] w fun e w'=>e=.returned (.int .i64 2)∧Below w.heap.size w w'):=fun w=>by
  rw[← hqe];exact in_lst t.x.sign R.signs _ _ rfl (by simp)
 refine wpL_step (fun K hK=>?_)
 have HK:=hide hK
 clear hK
 conv=>arg 2;whnf
 go_wp2_with fail
 refine (INQ.out _).mono ?_
 rintro e w4 ⟨rfl,hb4⟩
 have HW4:=hide (HW3.out.below hb4)
 obtain⟨glt,gfr,g0,g1,g2,g3⟩:=HW4.out.facts
 have G4:=hide (grown_trans (grown_of_below B3 (some g)) (grown_of_below hb4 (some g)))
 dsimp only
 go_wp2_with fail
 refine HK.out _ _ ?_
 clear HK
 refine wpL_step (fun K hK=>?_)
 have HK:=hide hK
 clear hK
 conv=>arg 2;whnf
 go_wp2_with fail
 refine HK.out _ _ ?_
 clear HK
 simp only[wpL,Exit.inBlock,Exit.then]
 refine hK0.out _ _ _ _ _ _ _ _ _ _ _ _ _ _ _ _ _ _ _ _ _ _ _ _ _ _ _ _ _ _ _ _ _ _ _ _ _ _ _ _ _ _ _ _ _ _ _ _ _ _ _ _ _ _ _ _ _ _ _ _ _ _ _ _ _ _ _ _ _ _ _ _ _ _ _ _ _ _ _ _ _ _ _ _ _ _ _ _ _ _ _ _ _ _ _ _ _ _ _ _ _ _ _ _ _ _ _ _ _ _ _ _ _ _ _ _ _ _ _ _ _ _ _ _ _ _ _ _ _ _ _ _ _ _ _ _ _ _ _ _ _ _ _ _ _ _ _ _ _ _ _ _ _ _ _ _ _ _ _ _ _ _ _ _ _ _ _ _ _ _ _ _ _ _ _ _ _ _ _ _ _ _ _ _ _ _ _ _ _ _ _ _ _ _ _ _ _ _ _ _ _ _ _ _ _ _ _ _ _ _ _ _ _ _ _ _ _ _ _ _ _ _ _ _ _ _ _ _ _ _ _ _ _ _ _ _ _ _ _ _ _ _ _ _ _ _ _ _ _ _ _ _ _ ?_
 refine H.out.next (u2:=?uu) ?h1 ?h2 ?h3 (grown_alloc (grown_setCell (G4.out) _ _) _)
 case h1=>rw[R.textP_leaf pr lk t f8];exact VrAt.alloc (VrAt.setT (by exact HW4.out) _) _
 case h2=>rw[R.textP_leaf pr lk t f8,R.line_set { t.x with ord:=R.ordX pr t.x } _ ho hqe (by omega)];simp[app_toList,lit_toList,hst.1,hsr.1,hse.1,hsa.1,hsb.1,hsh.1,hsq.1,R.regT_ord]
 case h3=>simp[lit_size];omega
set_option maxRecDepth 1000000 in
set_option maxHeartbeats 12800000 in
theorem VlOpIf (w wr:World) (g:Nat) (tx:ByteArray) (lb:Int) (pv:Value) (fb:Bool) (pr:Int→Bool) (l:List R.Tree) (n k:Nat) (u:ByteArray) (lk:Int) (b sc:Nat) (uv:Value) (t:R.Tree) (H:Hid (VC w wr g tx lb pv fb pr l n k u lk b uv t))
  (HC:Hid (∀ (w2:World) (u2:ByteArray) (lb2:Int),wr.grownBy w2 (some g)→VrAt w2 g u2 lb2 pv fb→0≤lb2→lb2+R.sizeL t.body<90→(u2.size:Int)+60000*R.sizeL t.body<1000000000→Calls Tryz.prog 22 #[.pointer (some ⟨g,0,none⟩),uv] w2 fun e w'=>e=.returned (.tuple #[])∧w2.grownBy w' (some g)∧∃ t',VrAt w' g t' (R.textP pr lb2 t.body).2 pv fb∧t'.toList=u2.toList++(R.textP pr lb2 t.body).1∧(t'.size:Int)≤u2.size+60000*R.sizeL t.body)) (ho:t.x.op.toList=[105,102]) (so sh sq sr sa sb se st:ByteArray) (w3:World) (c2 c3 VE Ua Ul Uw UH US U3 Te Tp TA TL TT TU TV TW TX TY TZ T0 T1 T2 T3 T4 T5 T6 T7 T8 T9 Sa Sb Sc Sd Se Sf Sg Sh Si Sj Sk Sl Sm Sn So Sp Sq Sr Ss St Su Sv Sw Sx Sy Sz SA SB SC SD SE SF SG SH SI SJ SK SL SM SN SO SP SQ SR SS ST SU SV SW SX SY SZ S0 S1 S2 S3 S4 Va Vb Vc Vd Ve Vf Vg Vh Vi Vj Vk Vl Vm Vn Vo Vp Vq Vr Vs Vt Vu Vv Vw Vx Vy Vz VA VB VD VF VG VH VI VJ VK VL VM VN VO VP VQ VS VT VU VV VW VX VY VZ V0 V1 V2 V3 V4 V5 V6 V7 V8 V9 Ub Uc Ud Ue Uf Ug Uh Ui Uj Uk Um Un Uo Up Uq Ur Us Ut Uu Uv Ux Uy Uz UA UB UC UD UE UF UG UI UJ UK UL UM UN UO UP UQ UR UT UU UV UW UX UY UZ U0 U1 U2 U4 U5 U6 U7 U8 U9 Ta Tb Tc Td Tf Tg Th Ti Tj Tk Tl Tm Tn To Tq Tr Ts Tt Tu Tv Tw Tx Ty Tz TB TC TD TE TF TG TH TI TJ TK TM TN TO TP TQ TR TS:Value) (hsh:Txt 20000 sh (R.aheadT pr t.x)) (hsq:Txt 20000 sq (R.behindT pr t.x)) (hsr:Txt 4 sr (R.regT t.x)) (hsa:Txt 4 sa (R.shown t.x.a)) (hsb:Txt 4 sb (R.shown t.x.b)) (hse:Txt 3 se (R.celT t.x.var)) (hst:Txt 10000 st (R.scopd (R.ordX pr t.x).toList t.x.scope.toList)) (B3:Below wr.heap.size wr w3) (K0:Act→World→Prop) (Q0:Exit→Act→World→Prop)
  (hK0:Hid (∀ (u5 u6 u7 u8 u9 Za Zl Zw ZH ZS Z3 Ye Yp YA YL YW Y7 Xi Xt XE XP XX XY XZ X0 X1 X2 X3 X4 X5 X6 X7 X8 X9 Wa Wb Wc Wd We Wf Wg Wh Wi Wj Wk Wl Wm Wn Wo Wp Wq Wr Ws Wt Wu Wv Ww Wx Wy Wz WA WB WC WD WE WF WG WH WI WJ WK WL WM WN WO WP WQ WR WS WT WU WV WW WX WY WZ W0 W1 W2 W4 W5 W6 W7 W8 W9 Zb Zc Zd Ze Zf Zg Zh Zi Zj Zk Zm Zn Zo Zp Zq Zr Zs Zt Zu Zv Zx Zy Zz ZA ZB ZC ZD ZE ZF ZG ZI ZJ ZK ZL ZM ZN ZO ZP ZQ ZR ZT ZU ZV ZW ZX ZY ZZ Z0 Z1 Z2 Z4 Z5 Z6 Z7 Z8 Z9 Ya Yb Yc Yd Yf Yg Yh Yi Yj Yk Yl Ym Yn Yo Yq Yr Ys Yt Yu Yv Yw Yx Yy Yz YB YC YD YE YF YG YH YI YJ YK YM YN YO YP YQ YR YS YT YU YV YX YY YZ Y0 Y1 Y2 Y3 Y4 Y5 Y6 Y8 Y9 Xa Xb Xc Xd Xe Xf Xg Xh Xj Xk Xl Xm Xn Xo Xp Xq Xr Xs Xu Xv Xw Xx Xy Xz XA XB XC XD XF XG XH XI XJ XK XL XM XN XO XQ XR XS XT XU XV XW:Value) (w2:World),VR w g tx lb pv fb pr l n (.int .i64 ((k:Int)+1)) w2→K0 ⟨#[.pointer (some ⟨g,0,none⟩),.slice (some ⟨b,0,none⟩) n sc,c2,c3,.int .i64 (k:Int),u5,u6,u7,u8,u9,Za,Zl,Zw,ZH,ZS,Z3,Ye,Yp,YA,YL,YW,Y7,Xi,Xt,XE,XP,XX,XY,XZ,X0,X1,X2,X3,X4,X5,X6,X7,X8,X9,Wa,Wb,Wc,Wd,We,Wf,Wg,Wh,Wi,Wj,Wk,Wl,Wm,Wn,Wo,Wp,Wq,Wr,Ws,Wt,Wu,Wv,Ww,Wx,Wy,Wz,WA,WB,WC,WD,WE,WF,WG,WH,WI,WJ,WK,WL,WM,WN,WO,WP,WQ,WR,WS,WT,WU,WV,WW,WX,WY,WZ,W0,W1,W2,W4,W5,W6,W7,W8,W9,Zb,Zc,Zd,Ze,Zf,Zg,Zh,Zi,Zj,Zk,Zm,Zn,Zo,Zp,Zq,Zr,Zs,Zt,Zu,Zv,Zx,Zy,Zz,ZA,ZB,ZC,ZD,ZE,ZF,ZG,ZI,ZJ,ZK,ZL,ZM,ZN,ZO,ZP,ZQ,ZR,ZT,ZU,ZV,ZW,ZX,ZY,ZZ,Z0,Z1,Z2,Z4,Z5,Z6,Z7,Z8,Z9,Ya,Yb,Yc,Yd,Yf,Yg,Yh,Yi,Yj,Yk,Yl,Ym,Yn,Yo,Yq,Yr,Ys,Yt,Yu,Yv,Yw,Yx,Yy,Yz,YB,YC,YD,YE,YF,YG,YH,YI,YJ,YK,YM,YN,YO,YP,YQ,YR,YS,YT,YU,YV,YX,YY,YZ,Y0,Y1,Y2,Y3,Y4,Y5,Y6,Y8,Y9,Xa,Xb,Xc,Xd,Xe,Xf,Xg,Xh,Xj,Xk,Xl,Xm,Xn,Xo,Xp,Xq,Xr,Xs,Xu,Xv,Xw,Xx,Xy,Xz,XA,XB,XC,XD,XF,XG,XH,XI,XJ,XK,XL,XM,XN,XO,XQ,XR,XS,XT,XU,XV,XW],[]⟩ w2)) :
  wpL Tryz.prog [(stmOf (inOf (stmOf (bodyOf Tryz.f22) 2)) 15),(stmOf (inOf (stmOf (bodyOf Tryz.f22) 2)) 16)] (Exit.inBlock 1 (Exit.then K0 Q0)) ⟨#[.pointer (some ⟨g,0,none⟩),.slice (some ⟨b,0,none⟩) n sc,c2,c3,.int .i64 (k:Int),.pointer (some ⟨b,k*9,none⟩),.string sr,.string sa,.string sb,.string se,.string so,.string sh,.string sq,VE,.string st,.string ⟨#[]⟩,Ua,Ul,Uw,UH,US,U3,Te,Tp,TA,TL,TT,TU,TV,TW,TX,TY,TZ,T0,T1,T2,T3,T4,T5,T6,T7,T8,T9,Sa,Sb,Sc,Sd,Se,Sf,Sg,Sh,Si,Sj,Sk,Sl,Sm,Sn,So,Sp,Sq,Sr,Ss,St,Su,Sv,Sw,Sx,Sy,Sz,SA,SB,SC,SD,SE,SF,SG,SH,SI,SJ,SK,SL,SM,SN,SO,SP,SQ,SR,SS,ST,SU,SV,SW,SX,SY,SZ,S0,S1,S2,S3,S4,Va,Vb,Vc,Vd,Ve,Vf,Vg,Vh,Vi,Vj,Vk,Vl,Vm,Vn,Vo,Vp,Vq,Vr,.string t.x.op,Vs,Vt,Vu,Vv,Vw,Vx,Vy,Vz,VA,VB,VD,VF,VG,VH,VI,VJ,VK,VL,VM,VN,VO,VP,VQ,VS,VT,VU,VV,VW,VX,VY,VZ,V0,V1,V2,V3,V4,V5,V6,V7,V8,V9,Ub,Uc,Ud,Ue,Uf,Ug,Uh,Ui,Uj,Uk,Um,Un,Uo,Up,Uq,Ur,Us,Ut,Uu,Uv,Ux,Uy,Uz,UA,UB,UC,UD,UE,UF,UG,UI,UJ,UK,UL,UM,UN,UO,UP,UQ,UR,UT,UU,UV,UW,UX,UY,UZ,U0,U1,U2,U4,U5,U6,U7,U8,U9,Ta,Tb,Tc,Td,Tf,Tg,Th,Ti,Tj,Tk,Tl,Tm,Tn,To,Tq,Tr,Ts,Tt,Tu,Tv,Tw,Tx,Ty,Tz,TB,TC,TD,TE,TF,TG,TH,TI,TJ,TK,TM,TN,TO,TP,TQ,TR,TS],[]⟩ w3:=by
 have zh:=hsh.size
 have zq:=hsq.size
 have zr:=hsr.size
 have za:=hsa.size
 have zb:=hsb.size
 have ze:=hse.size
 have zs:=hst.size
 have hus:=H.out.us
 have hlk0:=H.out.lk0
 have hlk1:=H.out.lk1
 have hsz:=R.sizeL_nn t.body
 have hbg:=H.out.hbg
 have hblt:=H.out.hblt
 have hws:=B3.size
 obtain⟨d0,d1,d2,d3,d4,d5,d6,d7,d8,W3,glt,gfr,g0,g1,g2,g3⟩:=H.out.facts B3
 have HW3:=hide W3
 clear W3 d0 d1 d2 d3 d4 d6 d7
 have f1:(t.x.op.toList==[108,111,97,100])=false:=by rw[ho];rfl
 have f2:(t.x.op.toList==[115,116,111,114,101])=false:=by rw[ho];rfl
 have f3:(t.x.op.toList==[97,100,100])=false:=by rw[ho];rfl
 have f4:(t.x.op.toList==[115,119,97,112])=false:=by rw[ho];rfl
 have f5:(t.x.op.toList==[102,101,110,99,101])=false:=by rw[ho];rfl
 have f6:(t.x.op.toList==[98,97,114,114,105,101,114])=false:=by rw[ho];rfl
 have f7:(t.x.op.toList==[115,101,116])=false:=by rw[ho];rfl
 have f8:(t.x.op.toList==[105,102])=true:=by rw[ho];rfl
 have f8:(t.x.op.toList==[105,102])=true:=by rw[ho];rfl
 dsimp only
 have gfr1:w3.frozen? ⟨g,1,none⟩=false:=HW3.out.facts.2.1 1
 have hcell:=fun (w5:World) (q8:w5.cell? ⟨b,k*9+8,none⟩=some uv) (u':Value)=>(cell_set_ne (w:=w5) (g:=g) (i:=0) (b:=b) (o:=k*9+8) (u:=u') hbg).trans q8
 refine wpL_step (fun K hK=>?_)
 clear hK
 conv=>arg 2;whnf
 go_wp2_with (first | (go_at_call 21;refine (decR_any (lk+1) _ (by omega) (by omega)).mono ?_;rintro e w5 ⟨sd,rfl,hsd,hb5⟩;have zd:=hsd.size;have HW5:=hide ((HW3.out.setN (lk+1)).below hb5);obtain⟨glt,gfr,g0,g1,g2,g3⟩:=HW5.out.facts;have G5:=hide (grown_trans (grown_setCell (grown_of_below B3 (some g)) 1 (.int .i64 (lk+1))) (grown_of_below hb5 (some g)));obtain⟨d0,d1,d2,d3,d4,d5,d6,d7,d8⟩:=H.out.hx w5 G5.out;have q8:=hcell w5 d8;clear d0 d1 d2 d3 d4 d5 d6 d7;dsimp only) | (go_at_call 22;refine (HC.out _ _ (lk+1) (grown_setCell G5.out _ _) (HW5.out.setT _) (by omega) (by omega) (by simp[lit_size];omega)).mono ?_;rintro e w6 ⟨rfl,hg6,t6,hw6,ht6,hz6⟩;have HW6:=hide hw6;have zt6:t6.size<6000000000:=(by have h6:=hz6;simp[lit_size] at h6;omega);obtain⟨glt,gfr,g0,g1,g2,g3⟩:=hw6.facts;dsimp only))
 refine hK0.out _ _ _ _ _ _ _ _ _ _ _ _ _ _ _ _ _ _ _ _ _ _ _ _ _ _ _ _ _ _ _ _ _ _ _ _ _ _ _ _ _ _ _ _ _ _ _ _ _ _ _ _ _ _ _ _ _ _ _ _ _ _ _ _ _ _ _ _ _ _ _ _ _ _ _ _ _ _ _ _ _ _ _ _ _ _ _ _ _ _ _ _ _ _ _ _ _ _ _ _ _ _ _ _ _ _ _ _ _ _ _ _ _ _ _ _ _ _ _ _ _ _ _ _ _ _ _ _ _ _ _ _ _ _ _ _ _ _ _ _ _ _ _ _ _ _ _ _ _ _ _ _ _ _ _ _ _ _ _ _ _ _ _ _ _ _ _ _ _ _ _ _ _ _ _ _ _ _ _ _ _ _ _ _ _ _ _ _ _ _ _ _ _ _ _ _ _ _ _ _ _ _ _ _ _ _ _ _ _ _ _ _ _ _ _ _ _ _ _ _ _ _ _ _ _ _ _ _ _ _ _ _ _ _ _ _ _ _ _ _ _ _ _ _ _ _ _ _ _ _ _ _ _ ?_
 refine H.out.next (u2:=?uu) ?h1 ?h2 ?h3 (grown_setCell (grown_trans (grown_setCell G5.out _ _) hg6) _ _)
 case h1=>rw[R.textP_if pr lk t f8];exact VrAt.setT (by exact HW6.out) _
 case h2=>rw[R.textP_if pr lk t f8];simp[app_toList,lit_toList,ht6,hsd.1,hsa.1,P.labT]
 case h3=>simp[lit_size] at hz6 ⊢;omega
end Go.Proofs.YtpkjmdcabdplfaaGreatDoor
