import Derived.Test.YtpkjmdcabdplfaaGreatDoorB38
import Derived.Test.YtpkjmdcabdplfaaGreatDoorB39
import Derived.Test.YtpkjmdcabdplfaaGreatDoorB40
set_option linter.unusedVariables false
set_option linter.unusedSimpArgs false
namespace Go.Proofs.YtpkjmdcabdplfaaGreatDoor
open Go Go.RowKit
set_option maxRecDepth 100000
set_option maxRecDepth 1000000 in
set_option maxHeartbeats 12800000 in
theorem VlEnd (n k g:Nat) (c1:Value) (w2:World) (hlt:k<n) (hn:n<10000) (c2 c3 u5 u6 u7 u8 u9 Za Zl Zw ZH ZS Z3 Ye Yp YA YL YW Y7 Xi Xt XE XP XX XY XZ X0 X1 X2 X3 X4 X5 X6 X7 X8 X9 Wa Wb Wc Wd We Wf Wg Wh Wi Wj Wk Wl Wm Wn Wo Wp Wq Wr Ws Wt Wu Wv Ww Wx Wy Wz WA WB WC WD WE WF WG WH WI WJ WK WL WM WN WO WP WQ WR WS WT WU WV WW WX WY WZ W0 W1 W2 W3 W4 W5 W6 W7 W8 Zb Zc Zd Ze Zf Zg Zh Zi Zj Zk Zm Zn Zo Zp Zq Zr Zs Zt Zu Zv Zx Zy Zz ZA ZB ZC ZD ZE ZF ZG ZI ZJ ZK ZL ZM ZN ZO ZP ZQ ZR ZT ZU ZV ZW ZX ZY ZZ Z0 Z1 Z2 Z4 Z5 Z6 Z7 Z8 Z9 Ya Yb Yc Yd Yf Yg Yh Yi Yj Yk Yl Ym Yn Yo Yq Yr Ys Yt Yu Yv Yw Yx Yy Yz YB YC YD YE YF YG YH YI YJ YK YM YN YO YP YQ YR YS YT YU YV YX YY YZ Y0 Y1 Y2 Y3 Y4 Y5 Y6 Y8 Y9 Xa Xb Xc Xd Xe Xf Xg Xh Xj Xk Xl Xm Xn Xo Xp Xq Xr Xs Xu Xv Xw Xx Xy Xz XA XB XC XD XF XG XH XI XJ XK XL XM XN XO XQ XR XS XT XU XV XW:Value) (PP:Act→World→Prop) (Q0:Exit→Act→World→Prop)
  (hP:Hid (∀ (u5 u6 u7 u8 u9 Za Zl Zw ZH ZS Z3 Ye Yp YA YL YW Y7 Xi Xt XE XP XX XY XZ X0 X1 X2 X3 X4 X5 X6 X7 X8 X9 Wa Wb Wc Wd We Wf Wg Wh Wi Wj Wk Wl Wm Wn Wo Wp Wq Wr Ws Wt Wu Wv Ww Wx Wy Wz WA WB WC WD WE WF WG WH WI WJ WK WL WM WN WO WP WQ WR WS WT WU WV WW WX WY WZ W0 W1 W2 W3 W4 W5 W6 W7 W8 Zb Zc Zd Ze Zf Zg Zh Zi Zj Zk Zm Zn Zo Zp Zq Zr Zs Zt Zu Zv Zx Zy Zz ZA ZB ZC ZD ZE ZF ZG ZI ZJ ZK ZL ZM ZN ZO ZP ZQ ZR ZT ZU ZV ZW ZX ZY ZZ Z0 Z1 Z2 Z4 Z5 Z6 Z7 Z8 Z9 Ya Yb Yc Yd Yf Yg Yh Yi Yj Yk Yl Ym Yn Yo Yq Yr Ys Yt Yu Yv Yw Yx Yy Yz YB YC YD YE YF YG YH YI YJ YK YM YN YO YP YQ YR YS YT YU YV YX YY YZ Y0 Y1 Y2 Y3 Y4 Y5 Y6 Y8 Y9 Xa Xb Xc Xd Xe Xf Xg Xh Xj Xk Xl Xm Xn Xo Xp Xq Xr Xs Xu Xv Xw Xx Xy Xz XA XB XC XD XF XG XH XI XJ XK XL XM XN XO XQ XR XS XT XU XV XW:Value),PP ⟨#[.pointer (some ⟨g,0,none⟩),c1,c2,c3,.int .i64 ((k:Int)+1),u5,u6,u7,u8,u9,Za,Zl,Zw,ZH,ZS,Z3,Ye,Yp,YA,YL,YW,Y7,Xi,Xt,XE,XP,XX,XY,XZ,X0,X1,X2,X3,X4,X5,X6,X7,X8,X9,Wa,Wb,Wc,Wd,We,Wf,Wg,Wh,Wi,Wj,Wk,Wl,Wm,Wn,Wo,Wp,Wq,Wr,Ws,Wt,Wu,Wv,Ww,Wx,Wy,Wz,WA,WB,WC,WD,WE,WF,WG,WH,WI,WJ,WK,WL,WM,WN,WO,WP,WQ,WR,WS,WT,WU,WV,WW,WX,WY,WZ,W0,W1,W2,W3,W4,W5,W6,W7,W8,Zb,Zc,Zd,Ze,Zf,Zg,Zh,Zi,Zj,Zk,Zm,Zn,Zo,Zp,Zq,Zr,Zs,Zt,Zu,Zv,Zx,Zy,Zz,ZA,ZB,ZC,ZD,ZE,ZF,ZG,ZI,ZJ,ZK,ZL,ZM,ZN,ZO,ZP,ZQ,ZR,ZT,ZU,ZV,ZW,ZX,ZY,ZZ,Z0,Z1,Z2,Z4,Z5,Z6,Z7,Z8,Z9,Ya,Yb,Yc,Yd,Yf,Yg,Yh,Yi,Yj,Yk,Yl,Ym,Yn,Yo,Yq,Yr,Ys,Yt,Yu,Yv,Yw,Yx,Yy,Yz,YB,YC,YD,YE,YF,YG,YH,YI,YJ,YK,YM,YN,YO,YP,YQ,YR,YS,YT,YU,YV,YX,YY,YZ,Y0,Y1,Y2,Y3,Y4,Y5,Y6,Y8,Y9,Xa,Xb,Xc,Xd,Xe,Xf,Xg,Xh,Xj,Xk,Xl,Xm,Xn,Xo,Xp,Xq,Xr,Xs,Xu,Xv,Xw,Xx,Xy,Xz,XA,XB,XC,XD,XF,XG,XH,XI,XJ,XK,XL,XM,XN,XO,XQ,XR,XS,XT,XU,XV,XW],[]⟩ w2)):wpL Tryz.prog [(stmOf (bodyOf Tryz.f22) 3)] (Exit.then PP Q0) ⟨#[.pointer (some ⟨g,0,none⟩),c1,c2,c3,.int .i64 (k:Int),u5,u6,u7,u8,u9,Za,Zl,Zw,ZH,ZS,Z3,Ye,Yp,YA,YL,YW,Y7,Xi,Xt,XE,XP,XX,XY,XZ,X0,X1,X2,X3,X4,X5,X6,X7,X8,X9,Wa,Wb,Wc,Wd,We,Wf,Wg,Wh,Wi,Wj,Wk,Wl,Wm,Wn,Wo,Wp,Wq,Wr,Ws,Wt,Wu,Wv,Ww,Wx,Wy,Wz,WA,WB,WC,WD,WE,WF,WG,WH,WI,WJ,WK,WL,WM,WN,WO,WP,WQ,WR,WS,WT,WU,WV,WW,WX,WY,WZ,W0,W1,W2,W3,W4,W5,W6,W7,W8,Zb,Zc,Zd,Ze,Zf,Zg,Zh,Zi,Zj,Zk,Zm,Zn,Zo,Zp,Zq,Zr,Zs,Zt,Zu,Zv,Zx,Zy,Zz,ZA,ZB,ZC,ZD,ZE,ZF,ZG,ZI,ZJ,ZK,ZL,ZM,ZN,ZO,ZP,ZQ,ZR,ZT,ZU,ZV,ZW,ZX,ZY,ZZ,Z0,Z1,Z2,Z4,Z5,Z6,Z7,Z8,Z9,Ya,Yb,Yc,Yd,Yf,Yg,Yh,Yi,Yj,Yk,Yl,Ym,Yn,Yo,Yq,Yr,Ys,Yt,Yu,Yv,Yw,Yx,Yy,Yz,YB,YC,YD,YE,YF,YG,YH,YI,YJ,YK,YM,YN,YO,YP,YQ,YR,YS,YT,YU,YV,YX,YY,YZ,Y0,Y1,Y2,Y3,Y4,Y5,Y6,Y8,Y9,Xa,Xb,Xc,Xd,Xe,Xf,Xg,Xh,Xj,Xk,Xl,Xm,Xn,Xo,Xp,Xq,Xr,Xs,Xu,Xv,Xw,Xx,Xy,Xz,XA,XB,XC,XD,XF,XG,XH,XI,XJ,XK,XL,XM,XN,XO,XQ,XR,XS,XT,XU,XV,XW],[]⟩ w2:=by
 dsimp only
 refine wpL_step (fun K hK=>?_)
 have HK:=hide hK
 clear hK
 conv=>arg 2;whnf
 go_wp2_with fail
 refine HK.out _ _ ?_
 clear HK
 simp only[wpL,Exit.then]
 refine hP.out _ _ _ _ _ _ _ _ _ _ _ _ _ _ _ _ _ _ _ _ _ _ _ _ _ _ _ _ _ _ _ _ _ _ _ _ _ _ _ _ _ _ _ _ _ _ _ _ _ _ _ _ _ _ _ _ _ _ _ _ _ _ _ _ _ _ _ _ _ _ _ _ _ _ _ _ _ _ _ _ _ _ _ _ _ _ _ _ _ _ _ _ _ _ _ _ _ _ _ _ _ _ _ _ _ _ _ _ _ _ _ _ _ _ _ _ _ _ _ _ _ _ _ _ _ _ _ _ _ _ _ _ _ _ _ _ _ _ _ _ _ _ _ _ _ _ _ _ _ _ _ _ _ _ _ _ _ _ _ _ _ _ _ _ _ _ _ _ _ _ _ _ _ _ _ _ _ _ _ _ _ _ _ _ _ _ _ _ _ _ _ _ _ _ _ _ _ _ _ _ _ _ _ _ _ _ _ _ _ _ _ _ _ _ _ _ _ _ _ _ _ _ _ _ _ _ _ _ _ _ _ _ _ _ _ _ _ _ _ _ _ _ _ _ _ _ _ _ _ _ _ _
set_option maxRecDepth 1000000 in
set_option maxHeartbeats 12800000 in
theorem VlRound (w wr:World) (g:Nat) (tx:ByteArray) (lb:Int) (pv:Value) (fb:Bool) (pr:Int→Bool) (l:List R.Tree) (n k:Nat) (u:ByteArray) (lk:Int) (b sc:Nat) (uv:Value) (t:R.Tree) (H:Hid (VC w wr g tx lb pv fb pr l n k u lk b uv t))
  (HC:Hid (∀ (w2:World) (u2:ByteArray) (lb2:Int),wr.grownBy w2 (some g)→VrAt w2 g u2 lb2 pv fb→0≤lb2→lb2+R.sizeL t.body<90→(u2.size:Int)+60000*R.sizeL t.body<1000000000→Calls Tryz.prog 22 #[.pointer (some ⟨g,0,none⟩),uv] w2 fun e w'=>e=.returned (.tuple #[])∧w2.grownBy w' (some g)∧∃ t',VrAt w' g t' (R.textP pr lb2 t.body).2 pv fb∧t'.toList=u2.toList++(R.textP pr lb2 t.body).1∧(t'.size:Int)≤u2.size+60000*R.sizeL t.body)) (c2 c3 u5 u6 u7 u8 u9 Za Zl Zw ZH ZS Z3 Ye Yp YA YL YW Y7 Xi Xt XE XP XX XY XZ X0 X1 X2 X3 X4 X5 X6 X7 X8 X9 Wa Wb Wc Wd We Wf Wg Wh Wi Wj Wk Wl Wm Wn Wo Wp Wq Wr Ws Wt Wu Wv Ww Wx Wy Wz WA WB WC WD WE WF WG WH WI WJ WK WL WM WN WO WP WQ WR WS WT WU WV WW WX WY WZ W0 W1 W2 W3 W4 W5 W6 W7 W8 Zb Zc Zd Ze Zf Zg Zh Zi Zj Zk Zm Zn Zo Zp Zq Zr Zs Zt Zu Zv Zx Zy Zz ZA ZB ZC ZD ZE ZF ZG ZI ZJ ZK ZL ZM ZN ZO ZP ZQ ZR ZT ZU ZV ZW ZX ZY ZZ Z0 Z1 Z2 Z4 Z5 Z6 Z7 Z8 Z9 Ya Yb Yc Yd Yf Yg Yh Yi Yj Yk Yl Ym Yn Yo Yq Yr Ys Yt Yu Yv Yw Yx Yy Yz YB YC YD YE YF YG YH YI YJ YK YM YN YO YP YQ YR YS YT YU YV YX YY YZ Y0 Y1 Y2 Y3 Y4 Y5 Y6 Y8 Y9 Xa Xb Xc Xd Xe Xf Xg Xh Xj Xk Xl Xm Xn Xo Xp Xq Xr Xs Xu Xv Xw Xx Xy Xz XA XB XC XD XF XG XH XI XJ XK XL XM XN XO XQ XR XS XT XU XV XW:Value) (PP:Act→World→Prop) (Q0:Exit→Act→World→Prop)
  (hP:Hid (∀ (u5 u6 u7 u8 u9 Za Zl Zw ZH ZS Z3 Ye Yp YA YL YW Y7 Xi Xt XE XP XX XY XZ X0 X1 X2 X3 X4 X5 X6 X7 X8 X9 Wa Wb Wc Wd We Wf Wg Wh Wi Wj Wk Wl Wm Wn Wo Wp Wq Wr Ws Wt Wu Wv Ww Wx Wy Wz WA WB WC WD WE WF WG WH WI WJ WK WL WM WN WO WP WQ WR WS WT WU WV WW WX WY WZ W0 W1 W2 W3 W4 W5 W6 W7 W8 Zb Zc Zd Ze Zf Zg Zh Zi Zj Zk Zm Zn Zo Zp Zq Zr Zs Zt Zu Zv Zx Zy Zz ZA ZB ZC ZD ZE ZF ZG ZI ZJ ZK ZL ZM ZN ZO ZP ZQ ZR ZT ZU ZV ZW ZX ZY ZZ Z0 Z1 Z2 Z4 Z5 Z6 Z7 Z8 Z9 Ya Yb Yc Yd Yf Yg Yh Yi Yj Yk Yl Ym Yn Yo Yq Yr Ys Yt Yu Yv Yw Yx Yy Yz YB YC YD YE YF YG YH YI YJ YK YM YN YO YP YQ YR YS YT YU YV YX YY YZ Y0 Y1 Y2 Y3 Y4 Y5 Y6 Y8 Y9 Xa Xb Xc Xd Xe Xf Xg Xh Xj Xk Xl Xm Xn Xo Xp Xq Xr Xs Xu Xv Xw Xx Xy Xz XA XB XC XD XF XG XH XI XJ XK XL XM XN XO XQ XR XS XT XU XV XW:Value) (w2:World),VR w g tx lb pv fb pr l n (.int .i64 ((k:Int)+1)) w2→PP ⟨#[.pointer (some ⟨g,0,none⟩),.slice (some ⟨b,0,none⟩) n sc,c2,c3,.int .i64 ((k:Int)+1),u5,u6,u7,u8,u9,Za,Zl,Zw,ZH,ZS,Z3,Ye,Yp,YA,YL,YW,Y7,Xi,Xt,XE,XP,XX,XY,XZ,X0,X1,X2,X3,X4,X5,X6,X7,X8,X9,Wa,Wb,Wc,Wd,We,Wf,Wg,Wh,Wi,Wj,Wk,Wl,Wm,Wn,Wo,Wp,Wq,Wr,Ws,Wt,Wu,Wv,Ww,Wx,Wy,Wz,WA,WB,WC,WD,WE,WF,WG,WH,WI,WJ,WK,WL,WM,WN,WO,WP,WQ,WR,WS,WT,WU,WV,WW,WX,WY,WZ,W0,W1,W2,W3,W4,W5,W6,W7,W8,Zb,Zc,Zd,Ze,Zf,Zg,Zh,Zi,Zj,Zk,Zm,Zn,Zo,Zp,Zq,Zr,Zs,Zt,Zu,Zv,Zx,Zy,Zz,ZA,ZB,ZC,ZD,ZE,ZF,ZG,ZI,ZJ,ZK,ZL,ZM,ZN,ZO,ZP,ZQ,ZR,ZT,ZU,ZV,ZW,ZX,ZY,ZZ,Z0,Z1,Z2,Z4,Z5,Z6,Z7,Z8,Z9,Ya,Yb,Yc,Yd,Yf,Yg,Yh,Yi,Yj,Yk,Yl,Ym,Yn,Yo,Yq,Yr,Ys,Yt,Yu,Yv,Yw,Yx,Yy,Yz,YB,YC,YD,YE,YF,YG,YH,YI,YJ,YK,YM,YN,YO,YP,YQ,YR,YS,YT,YU,YV,YX,YY,YZ,Y0,Y1,Y2,Y3,Y4,Y5,Y6,Y8,Y9,Xa,Xb,Xc,Xd,Xe,Xf,Xg,Xh,Xj,Xk,Xl,Xm,Xn,Xo,Xp,Xq,Xr,Xs,Xu,Xv,Xw,Xx,Xy,Xz,XA,XB,XC,XD,XF,XG,XH,XI,XJ,XK,XL,XM,XN,XO,XQ,XR,XS,XT,XU,XV,XW],[]⟩ w2)) :
  Code.wp Tryz.prog (bodyOf Tryz.f22) (Exit.then PP Q0) ⟨#[.pointer (some ⟨g,0,none⟩),.slice (some ⟨b,0,none⟩) n sc,c2,c3,.int .i64 (k:Int),u5,u6,u7,u8,u9,Za,Zl,Zw,ZH,ZS,Z3,Ye,Yp,YA,YL,YW,Y7,Xi,Xt,XE,XP,XX,XY,XZ,X0,X1,X2,X3,X4,X5,X6,X7,X8,X9,Wa,Wb,Wc,Wd,We,Wf,Wg,Wh,Wi,Wj,Wk,Wl,Wm,Wn,Wo,Wp,Wq,Wr,Ws,Wt,Wu,Wv,Ww,Wx,Wy,Wz,WA,WB,WC,WD,WE,WF,WG,WH,WI,WJ,WK,WL,WM,WN,WO,WP,WQ,WR,WS,WT,WU,WV,WW,WX,WY,WZ,W0,W1,W2,W3,W4,W5,W6,W7,W8,Zb,Zc,Zd,Ze,Zf,Zg,Zh,Zi,Zj,Zk,Zm,Zn,Zo,Zp,Zq,Zr,Zs,Zt,Zu,Zv,Zx,Zy,Zz,ZA,ZB,ZC,ZD,ZE,ZF,ZG,ZI,ZJ,ZK,ZL,ZM,ZN,ZO,ZP,ZQ,ZR,ZT,ZU,ZV,ZW,ZX,ZY,ZZ,Z0,Z1,Z2,Z4,Z5,Z6,Z7,Z8,Z9,Ya,Yb,Yc,Yd,Yf,Yg,Yh,Yi,Yj,Yk,Yl,Ym,Yn,Yo,Yq,Yr,Ys,Yt,Yu,Yv,Yw,Yx,Yy,Yz,YB,YC,YD,YE,YF,YG,YH,YI,YJ,YK,YM,YN,YO,YP,YQ,YR,YS,YT,YU,YV,YX,YY,YZ,Y0,Y1,Y2,Y3,Y4,Y5,Y6,Y8,Y9,Xa,Xb,Xc,Xd,Xe,Xf,Xg,Xh,Xj,Xk,Xl,Xm,Xn,Xo,Xp,Xq,Xr,Xs,Xu,Xv,Xw,Xx,Xy,Xz,XA,XB,XC,XD,XF,XG,XH,XI,XJ,XK,XL,XM,XN,XO,XQ,XR,XS,XT,XU,XV,XW],[]⟩ wr:=by
 have hlt:=H.out.hlt
 have hn:=H.out.hn
 have hin:(k:Int)<(n:Int):=by omega
 refine wp_flat _ _ _ _ ?_
 rw[linesBody_flat]
 dsimp only
 refine wpL_step (fun K hK=>?_)
 have HK:=hide hK
 clear hK
 conv=>arg 2;whnf
 go_wp2_with fail
 refine HK.out _ _ ?_
 clear HK
 refine wpL_step (fun K hK=>?_)
 have HK:=hide hK
 clear hK
 conv=>arg 2;whnf
 go_wp2_with fail
 refine HK.out _ _ ?_
 clear HK
 refine wpL_step (fun K0 hK0=>?_)
 have key:Hid (∀ (u5 u6 u7 u8 u9 Za Zl Zw ZH ZS Z3 Ye Yp YA YL YW Y7 Xi Xt XE XP XX XY XZ X0 X1 X2 X3 X4 X5 X6 X7 X8 X9 Wa Wb Wc Wd We Wf Wg Wh Wi Wj Wk Wl Wm Wn Wo Wp Wq Wr Ws Wt Wu Wv Ww Wx Wy Wz WA WB WC WD WE WF WG WH WI WJ WK WL WM WN WO WP WQ WR WS WT WU WV WW WX WY WZ W0 W1 W2 W3 W4 W5 W6 W7 W8 Zb Zc Zd Ze Zf Zg Zh Zi Zj Zk Zm Zn Zo Zp Zq Zr Zs Zt Zu Zv Zx Zy Zz ZA ZB ZC ZD ZE ZF ZG ZI ZJ ZK ZL ZM ZN ZO ZP ZQ ZR ZT ZU ZV ZW ZX ZY ZZ Z0 Z1 Z2 Z4 Z5 Z6 Z7 Z8 Z9 Ya Yb Yc Yd Yf Yg Yh Yi Yj Yk Yl Ym Yn Yo Yq Yr Ys Yt Yu Yv Yw Yx Yy Yz YB YC YD YE YF YG YH YI YJ YK YM YN YO YP YQ YR YS YT YU YV YX YY YZ Y0 Y1 Y2 Y3 Y4 Y5 Y6 Y8 Y9 Xa Xb Xc Xd Xe Xf Xg Xh Xj Xk Xl Xm Xn Xo Xp Xq Xr Xs Xu Xv Xw Xx Xy Xz XA XB XC XD XF XG XH XI XJ XK XL XM XN XO XQ XR XS XT XU XV XW:Value) (w2:World),VR w g tx lb pv fb pr l n (.int .i64 ((k:Int)+1)) w2→K0 ⟨#[.pointer (some ⟨g,0,none⟩),.slice (some ⟨b,0,none⟩) n sc,c2,c3,.int .i64 (k:Int),u5,u6,u7,u8,u9,Za,Zl,Zw,ZH,ZS,Z3,Ye,Yp,YA,YL,YW,Y7,Xi,Xt,XE,XP,XX,XY,XZ,X0,X1,X2,X3,X4,X5,X6,X7,X8,X9,Wa,Wb,Wc,Wd,We,Wf,Wg,Wh,Wi,Wj,Wk,Wl,Wm,Wn,Wo,Wp,Wq,Wr,Ws,Wt,Wu,Wv,Ww,Wx,Wy,Wz,WA,WB,WC,WD,WE,WF,WG,WH,WI,WJ,WK,WL,WM,WN,WO,WP,WQ,WR,WS,WT,WU,WV,WW,WX,WY,WZ,W0,W1,W2,W3,W4,W5,W6,W7,W8,Zb,Zc,Zd,Ze,Zf,Zg,Zh,Zi,Zj,Zk,Zm,Zn,Zo,Zp,Zq,Zr,Zs,Zt,Zu,Zv,Zx,Zy,Zz,ZA,ZB,ZC,ZD,ZE,ZF,ZG,ZI,ZJ,ZK,ZL,ZM,ZN,ZO,ZP,ZQ,ZR,ZT,ZU,ZV,ZW,ZX,ZY,ZZ,Z0,Z1,Z2,Z4,Z5,Z6,Z7,Z8,Z9,Ya,Yb,Yc,Yd,Yf,Yg,Yh,Yi,Yj,Yk,Yl,Ym,Yn,Yo,Yq,Yr,Ys,Yt,Yu,Yv,Yw,Yx,Yy,Yz,YB,YC,YD,YE,YF,YG,YH,YI,YJ,YK,YM,YN,YO,YP,YQ,YR,YS,YT,YU,YV,YX,YY,YZ,Y0,Y1,Y2,Y3,Y4,Y5,Y6,Y8,Y9,Xa,Xb,Xc,Xd,Xe,Xf,Xg,Xh,Xj,Xk,Xl,Xm,Xn,Xo,Xp,Xq,Xr,Xs,Xu,Xv,Xw,Xx,Xy,Xz,XA,XB,XC,XD,XF,XG,XH,XI,XJ,XK,XL,XM,XN,XO,XQ,XR,XS,XT,XU,XV,XW],[]⟩ w2):=fun u5 u6 u7 u8 u9 Za Zl Zw ZH ZS Z3 Ye Yp YA YL YW Y7 Xi Xt XE XP XX XY XZ X0 X1 X2 X3 X4 X5 X6 X7 X8 X9 Wa Wb Wc Wd We Wf Wg Wh Wi Wj Wk Wl Wm Wn Wo Wp Wq Wr Ws Wt Wu Wv Ww Wx Wy Wz WA WB WC WD WE WF WG WH WI WJ WK WL WM WN WO WP WQ WR WS WT WU WV WW WX WY WZ W0 W1 W2 W3 W4 W5 W6 W7 W8 Zb Zc Zd Ze Zf Zg Zh Zi Zj Zk Zm Zn Zo Zp Zq Zr Zs Zt Zu Zv Zx Zy Zz ZA ZB ZC ZD ZE ZF ZG ZI ZJ ZK ZL ZM ZN ZO ZP ZQ ZR ZT ZU ZV ZW ZX ZY ZZ Z0 Z1 Z2 Z4 Z5 Z6 Z7 Z8 Z9 Ya Yb Yc Yd Yf Yg Yh Yi Yj Yk Yl Ym Yn Yo Yq Yr Ys Yt Yu Yv Yw Yx Yy Yz YB YC YD YE YF YG YH YI YJ YK YM YN YO YP YQ YR YS YT YU YV YX YY YZ Y0 Y1 Y2 Y3 Y4 Y5 Y6 Y8 Y9 Xa Xb Xc Xd Xe Xf Xg Xh Xj Xk Xl Xm Xn Xo Xp Xq Xr Xs Xu Xv Xw Xx Xy Xz XA XB XC XD XF XG XH XI XJ XK XL XM XN XO XQ XR XS XT XU XV XW w2 h2 =>
  hK0 _ _ (VlEnd n k g _ w2 hlt hn c2 c3 u5 u6 u7 u8 u9 Za Zl Zw ZH ZS Z3 Ye Yp YA YL YW Y7 Xi Xt XE XP XX XY XZ X0 X1 X2 X3 X4 X5 X6 X7 X8 X9 Wa Wb Wc Wd We Wf Wg Wh Wi Wj Wk Wl Wm Wn Wo Wp Wq Wr Ws Wt Wu Wv Ww Wx Wy Wz WA WB WC WD WE WF WG WH WI WJ WK WL WM WN WO WP WQ WR WS WT WU WV WW WX WY WZ W0 W1 W2 W3 W4 W5 W6 W7 W8 Zb Zc Zd Ze Zf Zg Zh Zi Zj Zk Zm Zn Zo Zp Zq Zr Zs Zt Zu Zv Zx Zy Zz ZA ZB ZC ZD ZE ZF ZG ZI ZJ ZK ZL ZM ZN ZO ZP ZQ ZR ZT ZU ZV ZW ZX ZY ZZ Z0 Z1 Z2 Z4 Z5 Z6 Z7 Z8 Z9 Ya Yb Yc Yd Yf Yg Yh Yi Yj Yk Yl Ym Yn Yo Yq Yr Ys Yt Yu Yv Yw Yx Yy Yz YB YC YD YE YF YG YH YI YJ YK YM YN YO YP YQ YR YS YT YU YV YX YY YZ Y0 Y1 Y2 Y3 Y4 Y5 Y6 Y8 Y9 Xa Xb Xc Xd Xe Xf Xg Xh Xj Xk Xl Xm Xn Xo Xp Xq Xr Xs Xu Xv Xw Xx Xy Xz XA XB XC XD XF XG XH XI XJ XK XL XM XN XO XQ XR XS XT XU XV XW PP Q0 (fun u5 u6 u7 u8 u9 Za Zl Zw ZH ZS Z3 Ye Yp YA YL YW Y7 Xi Xt XE XP XX XY XZ X0 X1 X2 X3 X4 X5 X6 X7 X8 X9 Wa Wb Wc Wd We Wf Wg Wh Wi Wj Wk Wl Wm Wn Wo Wp Wq Wr Ws Wt Wu Wv Ww Wx Wy Wz WA WB WC WD WE WF WG WH WI WJ WK WL WM WN WO WP WQ WR WS WT WU WV WW WX WY WZ W0 W1 W2 W3 W4 W5 W6 W7 W8 Zb Zc Zd Ze Zf Zg Zh Zi Zj Zk Zm Zn Zo Zp Zq Zr Zs Zt Zu Zv Zx Zy Zz ZA ZB ZC ZD ZE ZF ZG ZI ZJ ZK ZL ZM ZN ZO ZP ZQ ZR ZT ZU ZV ZW ZX ZY ZZ Z0 Z1 Z2 Z4 Z5 Z6 Z7 Z8 Z9 Ya Yb Yc Yd Yf Yg Yh Yi Yj Yk Yl Ym Yn Yo Yq Yr Ys Yt Yu Yv Yw Yx Yy Yz YB YC YD YE YF YG YH YI YJ YK YM YN YO YP YQ YR YS YT YU YV YX YY YZ Y0 Y1 Y2 Y3 Y4 Y5 Y6 Y8 Y9 Xa Xb Xc Xd Xe Xf Xg Xh Xj Xk Xl Xm Xn Xo Xp Xq Xr Xs Xu Xv Xw Xx Xy Xz XA XB XC XD XF XG XH XI XJ XK XL XM XN XO XQ XR XS XT XU XV XW=>hP.out u5 u6 u7 u8 u9 Za Zl Zw ZH ZS Z3 Ye Yp YA YL YW Y7 Xi Xt XE XP XX XY XZ X0 X1 X2 X3 X4 X5 X6 X7 X8 X9 Wa Wb Wc Wd We Wf Wg Wh Wi Wj Wk Wl Wm Wn Wo Wp Wq Wr Ws Wt Wu Wv Ww Wx Wy Wz WA WB WC WD WE WF WG WH WI WJ WK WL WM WN WO WP WQ WR WS WT WU WV WW WX WY WZ W0 W1 W2 W3 W4 W5 W6 W7 W8 Zb Zc Zd Ze Zf Zg Zh Zi Zj Zk Zm Zn Zo Zp Zq Zr Zs Zt Zu Zv Zx Zy Zz ZA ZB ZC ZD ZE ZF ZG ZI ZJ ZK ZL ZM ZN ZO ZP ZQ ZR ZT ZU ZV ZW ZX ZY ZZ Z0 Z1 Z2 Z4 Z5 Z6 Z7 Z8 Z9 Ya Yb Yc Yd Yf Yg Yh Yi Yj Yk Yl Ym Yn Yo Yq Yr Ys Yt Yu Yv Yw Yx Yy Yz YB YC YD YE YF YG YH YI YJ YK YM YN YO YP YQ YR YS YT YU YV YX YY YZ Y0 Y1 Y2 Y3 Y4 Y5 Y6 Y8 Y9 Xa Xb Xc Xd Xe Xf Xg Xh Xj Xk Xl Xm Xn Xo Xp Xq Xr Xs Xu Xv Xw Xx Xy Xz XA XB XC XD XF XG XH XI XJ XK XL XM XN XO XQ XR XS XT XU XV XW w2 h2))
 clear hK0
 rw[linesStm_two]
 refine wp_block (wp_flat _ _ _ _ ?_)
 rw[linesIn_flat]
 have hK:Hid (∀ (so sh sq sr sa sb se st:ByteArray) (w3:World) (VD Ub Um Ux UI UT U4 Tf Tq TB TM TU TV TW TX TY TZ T0 T1 T2 T3 T4 T5 T6 T7 T8 T9 Sa Sb Sc Sd Se Sf Sg Sh Si Sj Sk Sl Sm Sn So Sp Sq Sr Ss St Su Sv Sw Sx Sy Sz SA SB SC SD SE SF SG SH SI SJ SK SL SM SN SO SP SQ SR SS ST SU SV SW SX SY SZ S0 S1 S2 S3 S4 S5 W9 Va Vb Vc Vd Ve Vf Vg Vh Vi Vj Vk Vl Vm Vn Vo Vp Vq Vr Vs Vt Vu Vv Vw Vx Vy Vz VA VB VE VF VG VH VJ VK VL VN VO VP VQ VS VT VU VV VW VX VY VZ V0 V1 V2 V3 V4 V5 V6 V7 V8 V9 Ua Uc Ud Ue Uf Ug Uh Ui Uj Uk Ul Un Uo Up Uq Ur Us Ut Uu Uv Uw Uy Uz UA UB UC UD UE UF UG UH UJ UK UL UM UN UO UP UQ UR US UU UV UW UX UY UZ U0 U1 U2 U3 U5 U6 U7 U8 U9 Ta Tb Tc Td Te Tg Th Ti Tj Tk Tl Tm Tn To Tp Tr Ts Tt Tu Tv Tw Tx Ty Tz TA TC TD TE TF TG TH TI TJ TK TL TN TO TP TQ TR TS TT:Value),Txt 20000 sh (R.aheadT pr t.x)→Txt 20000 sq (R.behindT pr t.x)→Txt 4 sr (R.regT t.x)→Txt 4 sa (R.shown t.x.a)→Txt 4 sb (R.shown t.x.b)→Txt 3 se (R.celT t.x.var)→Txt 10000 st (R.scopd (R.ordX pr t.x).toList t.x.scope.toList)→Below wr.heap.size wr w3→wpL Tryz.prog [(stmOf (inOf (stmOf (bodyOf Tryz.f22) 2)) 15),(stmOf (inOf (stmOf (bodyOf Tryz.f22) 2)) 16)] (Exit.inBlock 1 (Exit.then K0 (Exit.then PP Q0))) ⟨#[.pointer (some ⟨g,0,none⟩),.slice (some ⟨b,0,none⟩) n sc,c2,c3,.int .i64 (k:Int),.pointer (some ⟨b,k*9,none⟩),.string sr,.string sa,.string sb,.string se,.string so,.string sh,.string sq,VD,.string st,.string ⟨#[]⟩,Ub,Um,Ux,UI,UT,U4,Tf,Tq,TB,TM,TU,TV,TW,TX,TY,TZ,T0,T1,T2,T3,T4,T5,T6,T7,T8,T9,Sa,Sb,Sc,Sd,Se,Sf,Sg,Sh,Si,Sj,Sk,Sl,Sm,Sn,So,Sp,Sq,Sr,Ss,St,Su,Sv,Sw,Sx,Sy,Sz,SA,SB,SC,SD,SE,SF,SG,SH,SI,SJ,SK,SL,SM,SN,SO,SP,SQ,SR,SS,ST,SU,SV,SW,SX,SY,SZ,S0,S1,S2,S3,S4,S5,W9,Va,Vb,Vc,Vd,Ve,Vf,Vg,Vh,Vi,Vj,Vk,Vl,Vm,Vn,Vo,Vp,Vq,.string t.x.op,Vr,Vs,Vt,Vu,Vv,Vw,Vx,Vy,Vz,VA,VB,VE,VF,VG,VH,VJ,VK,VL,VN,VO,VP,VQ,VS,VT,VU,VV,VW,VX,VY,VZ,V0,V1,V2,V3,V4,V5,V6,V7,V8,V9,Ua,Uc,Ud,Ue,Uf,Ug,Uh,Ui,Uj,Uk,Ul,Un,Uo,Up,Uq,Ur,Us,Ut,Uu,Uv,Uw,Uy,Uz,UA,UB,UC,UD,UE,UF,UG,UH,UJ,UK,UL,UM,UN,UO,UP,UQ,UR,US,UU,UV,UW,UX,UY,UZ,U0,U1,U2,U3,U5,U6,U7,U8,U9,Ta,Tb,Tc,Td,Te,Tg,Th,Ti,Tj,Tk,Tl,Tm,Tn,To,Tp,Tr,Ts,Tt,Tu,Tv,Tw,Tx,Ty,Tz,TA,TC,TD,TE,TF,TG,TH,TI,TJ,TK,TL,TN,TO,TP,TQ,TR,TS,TT],[]⟩ w3):=by
  intro so sh sq sr sa sb se st w3 VD Ub Um Ux UI UT U4 Tf Tq TB TM TU TV TW TX TY TZ T0 T1 T2 T3 T4 T5 T6 T7 T8 T9 Sa Sb Sc Sd Se Sf Sg Sh Si Sj Sk Sl Sm Sn So Sp Sq Sr Ss St Su Sv Sw Sx Sy Sz SA SB SC SD SE SF SG SH SI SJ SK SL SM SN SO SP SQ SR SS ST SU SV SW SX SY SZ S0 S1 S2 S3 S4 S5 W9 Va Vb Vc Vd Ve Vf Vg Vh Vi Vj Vk Vl Vm Vn Vo Vp Vq Vr Vs Vt Vu Vv Vw Vx Vy Vz VA VB VE VF VG VH VJ VK VL VN VO VP VQ VS VT VU VV VW VX VY VZ V0 V1 V2 V3 V4 V5 V6 V7 V8 V9 Ua Uc Ud Ue Uf Ug Uh Ui Uj Uk Ul Un Uo Up Uq Ur Us Ut Uu Uv Uw Uy Uz UA UB UC UD UE UF UG UH UJ UK UL UM UN UO UP UQ UR US UU UV UW UX UY UZ U0 U1 U2 U3 U5 U6 U7 U8 U9 Ta Tb Tc Td Te Tg Th Ti Tj Tk Tl Tm Tn To Tp Tr Ts Tt Tu Tv Tw Tx Ty Tz TA TC TD TE TF TG TH TI TJ TK TL TN TO TP TQ TR TS TT hsh hsq hsr hsa hsb hse hst B3
  have hop:=H.out.fit.op
  simp only[R.opsL,List.mem_cons,List.not_mem_nil,or_false] at hop
  rcases hop with ho | ho | ho | ho | ho | ho | ho | ho
  ·exact VlOpLoad w wr g tx lb pv fb pr l n k u lk b sc uv t H ho so sh sq sr sa sb se st w3 c2 c3 VD Ub Um Ux UI UT U4 Tf Tq TB TM TU TV TW TX TY TZ T0 T1 T2 T3 T4 T5 T6 T7 T8 T9 Sa Sb Sc Sd Se Sf Sg Sh Si Sj Sk Sl Sm Sn So Sp Sq Sr Ss St Su Sv Sw Sx Sy Sz SA SB SC SD SE SF SG SH SI SJ SK SL SM SN SO SP SQ SR SS ST SU SV SW SX SY SZ S0 S1 S2 S3 S4 S5 W9 Va Vb Vc Vd Ve Vf Vg Vh Vi Vj Vk Vl Vm Vn Vo Vp Vq Vr Vs Vt Vu Vv Vw Vx Vy Vz VA VB VE VF VG VH VJ VK VL VN VO VP VQ VS VT VU VV VW VX VY VZ V0 V1 V2 V3 V4 V5 V6 V7 V8 V9 Ua Uc Ud Ue Uf Ug Uh Ui Uj Uk Ul Un Uo Up Uq Ur Us Ut Uu Uv Uw Uy Uz UA UB UC UD UE UF UG UH UJ UK UL UM UN UO UP UQ UR US UU UV UW UX UY UZ U0 U1 U2 U3 U5 U6 U7 U8 U9 Ta Tb Tc Td Te Tg Th Ti Tj Tk Tl Tm Tn To Tp Tr Ts Tt Tu Tv Tw Tx Ty Tz TA TC TD TE TF TG TH TI TJ TK TL TN TO TP TQ TR TS TT hsh hsq hsr hsa hsb hse hst B3 K0 (Exit.then PP Q0) key
  ·exact VlOpStore w wr g tx lb pv fb pr l n k u lk b sc uv t H ho so sh sq sr sa sb se st w3 c2 c3 VD Ub Um Ux UI UT U4 Tf Tq TB TM TU TV TW TX TY TZ T0 T1 T2 T3 T4 T5 T6 T7 T8 T9 Sa Sb Sc Sd Se Sf Sg Sh Si Sj Sk Sl Sm Sn So Sp Sq Sr Ss St Su Sv Sw Sx Sy Sz SA SB SC SD SE SF SG SH SI SJ SK SL SM SN SO SP SQ SR SS ST SU SV SW SX SY SZ S0 S1 S2 S3 S4 S5 W9 Va Vb Vc Vd Ve Vf Vg Vh Vi Vj Vk Vl Vm Vn Vo Vp Vq Vr Vs Vt Vu Vv Vw Vx Vy Vz VA VB VE VF VG VH VJ VK VL VN VO VP VQ VS VT VU VV VW VX VY VZ V0 V1 V2 V3 V4 V5 V6 V7 V8 V9 Ua Uc Ud Ue Uf Ug Uh Ui Uj Uk Ul Un Uo Up Uq Ur Us Ut Uu Uv Uw Uy Uz UA UB UC UD UE UF UG UH UJ UK UL UM UN UO UP UQ UR US UU UV UW UX UY UZ U0 U1 U2 U3 U5 U6 U7 U8 U9 Ta Tb Tc Td Te Tg Th Ti Tj Tk Tl Tm Tn To Tp Tr Ts Tt Tu Tv Tw Tx Ty Tz TA TC TD TE TF TG TH TI TJ TK TL TN TO TP TQ TR TS TT hsh hsq hsr hsa hsb hse hst B3 K0 (Exit.then PP Q0) key
  ·exact VlOpAdd w wr g tx lb pv fb pr l n k u lk b sc uv t H ho so sh sq sr sa sb se st w3 c2 c3 VD Ub Um Ux UI UT U4 Tf Tq TB TM TU TV TW TX TY TZ T0 T1 T2 T3 T4 T5 T6 T7 T8 T9 Sa Sb Sc Sd Se Sf Sg Sh Si Sj Sk Sl Sm Sn So Sp Sq Sr Ss St Su Sv Sw Sx Sy Sz SA SB SC SD SE SF SG SH SI SJ SK SL SM SN SO SP SQ SR SS ST SU SV SW SX SY SZ S0 S1 S2 S3 S4 S5 W9 Va Vb Vc Vd Ve Vf Vg Vh Vi Vj Vk Vl Vm Vn Vo Vp Vq Vr Vs Vt Vu Vv Vw Vx Vy Vz VA VB VE VF VG VH VJ VK VL VN VO VP VQ VS VT VU VV VW VX VY VZ V0 V1 V2 V3 V4 V5 V6 V7 V8 V9 Ua Uc Ud Ue Uf Ug Uh Ui Uj Uk Ul Un Uo Up Uq Ur Us Ut Uu Uv Uw Uy Uz UA UB UC UD UE UF UG UH UJ UK UL UM UN UO UP UQ UR US UU UV UW UX UY UZ U0 U1 U2 U3 U5 U6 U7 U8 U9 Ta Tb Tc Td Te Tg Th Ti Tj Tk Tl Tm Tn To Tp Tr Ts Tt Tu Tv Tw Tx Ty Tz TA TC TD TE TF TG TH TI TJ TK TL TN TO TP TQ TR TS TT hsh hsq hsr hsa hsb hse hst B3 K0 (Exit.then PP Q0) key
  ·exact VlOpSwap w wr g tx lb pv fb pr l n k u lk b sc uv t H ho so sh sq sr sa sb se st w3 c2 c3 VD Ub Um Ux UI UT U4 Tf Tq TB TM TU TV TW TX TY TZ T0 T1 T2 T3 T4 T5 T6 T7 T8 T9 Sa Sb Sc Sd Se Sf Sg Sh Si Sj Sk Sl Sm Sn So Sp Sq Sr Ss St Su Sv Sw Sx Sy Sz SA SB SC SD SE SF SG SH SI SJ SK SL SM SN SO SP SQ SR SS ST SU SV SW SX SY SZ S0 S1 S2 S3 S4 S5 W9 Va Vb Vc Vd Ve Vf Vg Vh Vi Vj Vk Vl Vm Vn Vo Vp Vq Vr Vs Vt Vu Vv Vw Vx Vy Vz VA VB VE VF VG VH VJ VK VL VN VO VP VQ VS VT VU VV VW VX VY VZ V0 V1 V2 V3 V4 V5 V6 V7 V8 V9 Ua Uc Ud Ue Uf Ug Uh Ui Uj Uk Ul Un Uo Up Uq Ur Us Ut Uu Uv Uw Uy Uz UA UB UC UD UE UF UG UH UJ UK UL UM UN UO UP UQ UR US UU UV UW UX UY UZ U0 U1 U2 U3 U5 U6 U7 U8 U9 Ta Tb Tc Td Te Tg Th Ti Tj Tk Tl Tm Tn To Tp Tr Ts Tt Tu Tv Tw Tx Ty Tz TA TC TD TE TF TG TH TI TJ TK TL TN TO TP TQ TR TS TT hsh hsq hsr hsa hsb hse hst B3 K0 (Exit.then PP Q0) key
  ·exact VlOpFence w wr g tx lb pv fb pr l n k u lk b sc uv t H ho so sh sq sr sa sb se st w3 c2 c3 VD Ub Um Ux UI UT U4 Tf Tq TB TM TU TV TW TX TY TZ T0 T1 T2 T3 T4 T5 T6 T7 T8 T9 Sa Sb Sc Sd Se Sf Sg Sh Si Sj Sk Sl Sm Sn So Sp Sq Sr Ss St Su Sv Sw Sx Sy Sz SA SB SC SD SE SF SG SH SI SJ SK SL SM SN SO SP SQ SR SS ST SU SV SW SX SY SZ S0 S1 S2 S3 S4 S5 W9 Va Vb Vc Vd Ve Vf Vg Vh Vi Vj Vk Vl Vm Vn Vo Vp Vq Vr Vs Vt Vu Vv Vw Vx Vy Vz VA VB VE VF VG VH VJ VK VL VN VO VP VQ VS VT VU VV VW VX VY VZ V0 V1 V2 V3 V4 V5 V6 V7 V8 V9 Ua Uc Ud Ue Uf Ug Uh Ui Uj Uk Ul Un Uo Up Uq Ur Us Ut Uu Uv Uw Uy Uz UA UB UC UD UE UF UG UH UJ UK UL UM UN UO UP UQ UR US UU UV UW UX UY UZ U0 U1 U2 U3 U5 U6 U7 U8 U9 Ta Tb Tc Td Te Tg Th Ti Tj Tk Tl Tm Tn To Tp Tr Ts Tt Tu Tv Tw Tx Ty Tz TA TC TD TE TF TG TH TI TJ TK TL TN TO TP TQ TR TS TT hsh hsq hsr hsa hsb hse hst B3 K0 (Exit.then PP Q0) key
  ·exact VlOpBarrier w wr g tx lb pv fb pr l n k u lk b sc uv t H ho so sh sq sr sa sb se st w3 c2 c3 VD Ub Um Ux UI UT U4 Tf Tq TB TM TU TV TW TX TY TZ T0 T1 T2 T3 T4 T5 T6 T7 T8 T9 Sa Sb Sc Sd Se Sf Sg Sh Si Sj Sk Sl Sm Sn So Sp Sq Sr Ss St Su Sv Sw Sx Sy Sz SA SB SC SD SE SF SG SH SI SJ SK SL SM SN SO SP SQ SR SS ST SU SV SW SX SY SZ S0 S1 S2 S3 S4 S5 W9 Va Vb Vc Vd Ve Vf Vg Vh Vi Vj Vk Vl Vm Vn Vo Vp Vq Vr Vs Vt Vu Vv Vw Vx Vy Vz VA VB VE VF VG VH VJ VK VL VN VO VP VQ VS VT VU VV VW VX VY VZ V0 V1 V2 V3 V4 V5 V6 V7 V8 V9 Ua Uc Ud Ue Uf Ug Uh Ui Uj Uk Ul Un Uo Up Uq Ur Us Ut Uu Uv Uw Uy Uz UA UB UC UD UE UF UG UH UJ UK UL UM UN UO UP UQ UR US UU UV UW UX UY UZ U0 U1 U2 U3 U5 U6 U7 U8 U9 Ta Tb Tc Td Te Tg Th Ti Tj Tk Tl Tm Tn To Tp Tr Ts Tt Tu Tv Tw Tx Ty Tz TA TC TD TE TF TG TH TI TJ TK TL TN TO TP TQ TR TS TT hsh hsq hsr hsa hsb hse hst B3 K0 (Exit.then PP Q0) key
  ·rcases R.signs_bd t.x.sign.toList with hq | hq | hq | hq
   ·exact VlOpSetNeg w wr g tx lb pv fb pr l n k u lk b sc uv t H ho _ rfl hq so sh sq sr sa sb se st w3 c2 c3 VD Ub Um Ux UI UT U4 Tf Tq TB TM TU TV TW TX TY TZ T0 T1 T2 T3 T4 T5 T6 T7 T8 T9 Sa Sb Sc Sd Se Sf Sg Sh Si Sj Sk Sl Sm Sn So Sp Sq Sr Ss St Su Sv Sw Sx Sy Sz SA SB SC SD SE SF SG SH SI SJ SK SL SM SN SO SP SQ SR SS ST SU SV SW SX SY SZ S0 S1 S2 S3 S4 S5 W9 Va Vb Vc Vd Ve Vf Vg Vh Vi Vj Vk Vl Vm Vn Vo Vp Vq Vr Vs Vt Vu Vv Vw Vx Vy Vz VA VB VE VF VG VH VJ VK VL VN VO VP VQ VS VT VU VV VW VX VY VZ V0 V1 V2 V3 V4 V5 V6 V7 V8 V9 Ua Uc Ud Ue Uf Ug Uh Ui Uj Uk Ul Un Uo Up Uq Ur Us Ut Uu Uv Uw Uy Uz UA UB UC UD UE UF UG UH UJ UK UL UM UN UO UP UQ UR US UU UV UW UX UY UZ U0 U1 U2 U3 U5 U6 U7 U8 U9 Ta Tb Tc Td Te Tg Th Ti Tj Tk Tl Tm Tn To Tp Tr Ts Tt Tu Tv Tw Tx Ty Tz TA TC TD TE TF TG TH TI TJ TK TL TN TO TP TQ TR TS TT hsh hsq hsr hsa hsb hse hst B3 K0 (Exit.then PP Q0) key
   ·exact VlOpSetA w wr g tx lb pv fb pr l n k u lk b sc uv t H ho 0 hq rfl so sh sq sr sa sb se st w3 c2 c3 VD Ub Um Ux UI UT U4 Tf Tq TB TM TU TV TW TX TY TZ T0 T1 T2 T3 T4 T5 T6 T7 T8 T9 Sa Sb Sc Sd Se Sf Sg Sh Si Sj Sk Sl Sm Sn So Sp Sq Sr Ss St Su Sv Sw Sx Sy Sz SA SB SC SD SE SF SG SH SI SJ SK SL SM SN SO SP SQ SR SS ST SU SV SW SX SY SZ S0 S1 S2 S3 S4 S5 W9 Va Vb Vc Vd Ve Vf Vg Vh Vi Vj Vk Vl Vm Vn Vo Vp Vq Vr Vs Vt Vu Vv Vw Vx Vy Vz VA VB VE VF VG VH VJ VK VL VN VO VP VQ VS VT VU VV VW VX VY VZ V0 V1 V2 V3 V4 V5 V6 V7 V8 V9 Ua Uc Ud Ue Uf Ug Uh Ui Uj Uk Ul Un Uo Up Uq Ur Us Ut Uu Uv Uw Uy Uz UA UB UC UD UE UF UG UH UJ UK UL UM UN UO UP UQ UR US UU UV UW UX UY UZ U0 U1 U2 U3 U5 U6 U7 U8 U9 Ta Tb Tc Td Te Tg Th Ti Tj Tk Tl Tm Tn To Tp Tr Ts Tt Tu Tv Tw Tx Ty Tz TA TC TD TE TF TG TH TI TJ TK TL TN TO TP TQ TR TS TT hsh hsq hsr hsa hsb hse hst B3 K0 (Exit.then PP Q0) key
   ·exact VlOpSetB w wr g tx lb pv fb pr l n k u lk b sc uv t H ho 1 hq rfl so sh sq sr sa sb se st w3 c2 c3 VD Ub Um Ux UI UT U4 Tf Tq TB TM TU TV TW TX TY TZ T0 T1 T2 T3 T4 T5 T6 T7 T8 T9 Sa Sb Sc Sd Se Sf Sg Sh Si Sj Sk Sl Sm Sn So Sp Sq Sr Ss St Su Sv Sw Sx Sy Sz SA SB SC SD SE SF SG SH SI SJ SK SL SM SN SO SP SQ SR SS ST SU SV SW SX SY SZ S0 S1 S2 S3 S4 S5 W9 Va Vb Vc Vd Ve Vf Vg Vh Vi Vj Vk Vl Vm Vn Vo Vp Vq Vr Vs Vt Vu Vv Vw Vx Vy Vz VA VB VE VF VG VH VJ VK VL VN VO VP VQ VS VT VU VV VW VX VY VZ V0 V1 V2 V3 V4 V5 V6 V7 V8 V9 Ua Uc Ud Ue Uf Ug Uh Ui Uj Uk Ul Un Uo Up Uq Ur Us Ut Uu Uv Uw Uy Uz UA UB UC UD UE UF UG UH UJ UK UL UM UN UO UP UQ UR US UU UV UW UX UY UZ U0 U1 U2 U3 U5 U6 U7 U8 U9 Ta Tb Tc Td Te Tg Th Ti Tj Tk Tl Tm Tn To Tp Tr Ts Tt Tu Tv Tw Tx Ty Tz TA TC TD TE TF TG TH TI TJ TK TL TN TO TP TQ TR TS TT hsh hsq hsr hsa hsb hse hst B3 K0 (Exit.then PP Q0) key
   ·exact VlOpSetC w wr g tx lb pv fb pr l n k u lk b sc uv t H ho 2 hq rfl so sh sq sr sa sb se st w3 c2 c3 VD Ub Um Ux UI UT U4 Tf Tq TB TM TU TV TW TX TY TZ T0 T1 T2 T3 T4 T5 T6 T7 T8 T9 Sa Sb Sc Sd Se Sf Sg Sh Si Sj Sk Sl Sm Sn So Sp Sq Sr Ss St Su Sv Sw Sx Sy Sz SA SB SC SD SE SF SG SH SI SJ SK SL SM SN SO SP SQ SR SS ST SU SV SW SX SY SZ S0 S1 S2 S3 S4 S5 W9 Va Vb Vc Vd Ve Vf Vg Vh Vi Vj Vk Vl Vm Vn Vo Vp Vq Vr Vs Vt Vu Vv Vw Vx Vy Vz VA VB VE VF VG VH VJ VK VL VN VO VP VQ VS VT VU VV VW VX VY VZ V0 V1 V2 V3 V4 V5 V6 V7 V8 V9 Ua Uc Ud Ue Uf Ug Uh Ui Uj Uk Ul Un Uo Up Uq Ur Us Ut Uu Uv Uw Uy Uz UA UB UC UD UE UF UG UH UJ UK UL UM UN UO UP UQ UR US UU UV UW UX UY UZ U0 U1 U2 U3 U5 U6 U7 U8 U9 Ta Tb Tc Td Te Tg Th Ti Tj Tk Tl Tm Tn To Tp Tr Ts Tt Tu Tv Tw Tx Ty Tz TA TC TD TE TF TG TH TI TJ TK TL TN TO TP TQ TR TS TT hsh hsq hsr hsa hsb hse hst B3 K0 (Exit.then PP Q0) key
  ·exact VlOpIf w wr g tx lb pv fb pr l n k u lk b sc uv t H HC ho so sh sq sr sa sb se st w3 c2 c3 VD Ub Um Ux UI UT U4 Tf Tq TB TM TU TV TW TX TY TZ T0 T1 T2 T3 T4 T5 T6 T7 T8 T9 Sa Sb Sc Sd Se Sf Sg Sh Si Sj Sk Sl Sm Sn So Sp Sq Sr Ss St Su Sv Sw Sx Sy Sz SA SB SC SD SE SF SG SH SI SJ SK SL SM SN SO SP SQ SR SS ST SU SV SW SX SY SZ S0 S1 S2 S3 S4 S5 W9 Va Vb Vc Vd Ve Vf Vg Vh Vi Vj Vk Vl Vm Vn Vo Vp Vq Vr Vs Vt Vu Vv Vw Vx Vy Vz VA VB VE VF VG VH VJ VK VL VN VO VP VQ VS VT VU VV VW VX VY VZ V0 V1 V2 V3 V4 V5 V6 V7 V8 V9 Ua Uc Ud Ue Uf Ug Uh Ui Uj Uk Ul Un Uo Up Uq Ur Us Ut Uu Uv Uw Uy Uz UA UB UC UD UE UF UG UH UJ UK UL UM UN UO UP UQ UR US UU UV UW UX UY UZ U0 U1 U2 U3 U5 U6 U7 U8 U9 Ta Tb Tc Td Te Tg Th Ti Tj Tk Tl Tm Tn To Tp Tr Ts Tt Tu Tv Tw Tx Ty Tz TA TC TD TE TF TG TH TI TJ TK TL TN TO TP TQ TR TS TT hsh hsq hsr hsa hsb hse hst B3 K0 (Exit.then PP Q0) key
 by_cases hv0:0≤t.x.var
 ·cases HF:R.fenB pr t.x
  ·exact VlPreP w wr g tx lb pv fb pr l n k u lk b sc uv t H hv0 HF _ c2 c3 _ _ _ _ _ _ _ _ _ _ _ _ _ _ _ _ _ _ _ _ _ _ _ _ _ _ _ _ _ _ _ _ _ _ _ _ _ _ _ _ _ _ _ _ _ _ _ _ _ _ _ _ _ _ _ _ _ _ _ _ _ _ _ _ _ _ _ _ _ _ _ _ _ _ _ _ _ _ _ _ _ _ _ _ _ _ _ _ _ _ _ _ _ _ _ _ _ _ _ _ _ _ _ _ _ _ _ _ _ _ _ _ _ _ _ _ _ _ _ _ _ _ _ _ _ _ _ _ _ _ _ _ _ _ _ _ _ _ _ _ _ _ _ _ _ _ _ _ _ _ _ _ _ _ _ _ _ _ _ _ _ _ _ _ _ _ _ _ _ _ _ _ _ _ _ _ _ _ _ _ _ _ _ _ _ _ _ _ _ _ _ _ _ _ _ _ _ _ _ _ _ _ _ _ _ _ _ _ _ _ _ _ _ _ _ _ _ _ _ _ _ _ _ _ _ _ _ _ _ _ _ _ _ _ _ _ _ _ _ _ _ _ _ _ _ _ _ _ _ _ _ _ hK
  ·exact VlPreF w wr g tx lb pv fb pr l n k u lk b sc uv t H hv0 HF _ c2 c3 _ _ _ _ _ _ _ _ _ _ _ _ _ _ _ _ _ _ _ _ _ _ _ _ _ _ _ _ _ _ _ _ _ _ _ _ _ _ _ _ _ _ _ _ _ _ _ _ _ _ _ _ _ _ _ _ _ _ _ _ _ _ _ _ _ _ _ _ _ _ _ _ _ _ _ _ _ _ _ _ _ _ _ _ _ _ _ _ _ _ _ _ _ _ _ _ _ _ _ _ _ _ _ _ _ _ _ _ _ _ _ _ _ _ _ _ _ _ _ _ _ _ _ _ _ _ _ _ _ _ _ _ _ _ _ _ _ _ _ _ _ _ _ _ _ _ _ _ _ _ _ _ _ _ _ _ _ _ _ _ _ _ _ _ _ _ _ _ _ _ _ _ _ _ _ _ _ _ _ _ _ _ _ _ _ _ _ _ _ _ _ _ _ _ _ _ _ _ _ _ _ _ _ _ _ _ _ _ _ _ _ _ _ _ _ _ _ _ _ _ _ _ _ _ _ _ _ _ _ _ _ _ _ _ _ _ _ _ _ _ _ _ _ _ _ _ _ _ _ _ _ _ hK
 ·exact VlPreN w wr g tx lb pv fb pr l n k u lk b sc uv t H hv0 _ c2 c3 _ _ _ _ _ _ _ _ _ _ _ _ _ _ _ _ _ _ _ _ _ _ _ _ _ _ _ _ _ _ _ _ _ _ _ _ _ _ _ _ _ _ _ _ _ _ _ _ _ _ _ _ _ _ _ _ _ _ _ _ _ _ _ _ _ _ _ _ _ _ _ _ _ _ _ _ _ _ _ _ _ _ _ _ _ _ _ _ _ _ _ _ _ _ _ _ _ _ _ _ _ _ _ _ _ _ _ _ _ _ _ _ _ _ _ _ _ _ _ _ _ _ _ _ _ _ _ _ _ _ _ _ _ _ _ _ _ _ _ _ _ _ _ _ _ _ _ _ _ _ _ _ _ _ _ _ _ _ _ _ _ _ _ _ _ _ _ _ _ _ _ _ _ _ _ _ _ _ _ _ _ _ _ _ _ _ _ _ _ _ _ _ _ _ _ _ _ _ _ _ _ _ _ _ _ _ _ _ _ _ _ _ _ _ _ _ _ _ _ _ _ _ _ _ _ _ _ _ _ _ _ _ _ _ _ _ _ _ _ _ _ _ _ _ _ _ _ _ _ _ _ _ hK
set_option maxRecDepth 1000000 in
set_option maxHeartbeats 12800000 in
theorem VlOut (n g sc:Nat) (sa:Option Addr) (wr:World) (hn:n<10000) (c2 c3 u5 u6 u7 u8 u9 Za Zl Zw ZH ZS Z3 Ye Yp YA YL YW Y7 Xi Xt XE XP XX XY XZ X0 X1 X2 X3 X4 X5 X6 X7 X8 X9 Wa Wb Wc Wd We Wf Wg Wh Wi Wj Wk Wl Wm Wn Wo Wp Wq Wr Ws Wt Wu Wv Ww Wx Wy Wz WA WB WC WD WE WF WG WH WI WJ WK WL WM WN WO WP WQ WR WS WT WU WV WW WX WY WZ W0 W1 W2 W3 W4 W5 W6 W7 W8 Zb Zc Zd Ze Zf Zg Zh Zi Zj Zk Zm Zn Zo Zp Zq Zr Zs Zt Zu Zv Zx Zy Zz ZA ZB ZC ZD ZE ZF ZG ZI ZJ ZK ZL ZM ZN ZO ZP ZQ ZR ZT ZU ZV ZW ZX ZY ZZ Z0 Z1 Z2 Z4 Z5 Z6 Z7 Z8 Z9 Ya Yb Yc Yd Yf Yg Yh Yi Yj Yk Yl Ym Yn Yo Yq Yr Ys Yt Yu Yv Yw Yx Yy Yz YB YC YD YE YF YG YH YI YJ YK YM YN YO YP YQ YR YS YT YU YV YX YY YZ Y0 Y1 Y2 Y3 Y4 Y5 Y6 Y8 Y9 Xa Xb Xc Xd Xe Xf Xg Xh Xj Xk Xl Xm Xn Xo Xp Xq Xr Xs Xu Xv Xw Xx Xy Xz XA XB XC XD XF XG XH XI XJ XK XL XM XN XO XQ XR XS XT XU XV XW:Value) (PP:Act→World→Prop) (Q0:Exit→Act→World→Prop)
  (hE:Hid (∀ (u5 u6 u7 u8 u9 Za Zl Zw ZH ZS Z3 Ye Yp YA YL YW Y7 Xi Xt XE XP XX XY XZ X0 X1 X2 X3 X4 X5 X6 X7 X8 X9 Wa Wb Wc Wd We Wf Wg Wh Wi Wj Wk Wl Wm Wn Wo Wp Wq Wr Ws Wt Wu Wv Ww Wx Wy Wz WA WB WC WD WE WF WG WH WI WJ WK WL WM WN WO WP WQ WR WS WT WU WV WW WX WY WZ W0 W1 W2 W3 W4 W5 W6 W7 W8 Zb Zc Zd Ze Zf Zg Zh Zi Zj Zk Zm Zn Zo Zp Zq Zr Zs Zt Zu Zv Zx Zy Zz ZA ZB ZC ZD ZE ZF ZG ZI ZJ ZK ZL ZM ZN ZO ZP ZQ ZR ZT ZU ZV ZW ZX ZY ZZ Z0 Z1 Z2 Z4 Z5 Z6 Z7 Z8 Z9 Ya Yb Yc Yd Yf Yg Yh Yi Yj Yk Yl Ym Yn Yo Yq Yr Ys Yt Yu Yv Yw Yx Yy Yz YB YC YD YE YF YG YH YI YJ YK YM YN YO YP YQ YR YS YT YU YV YX YY YZ Y0 Y1 Y2 Y3 Y4 Y5 Y6 Y8 Y9 Xa Xb Xc Xd Xe Xf Xg Xh Xj Xk Xl Xm Xn Xo Xp Xq Xr Xs Xu Xv Xw Xx Xy Xz XA XB XC XD XF XG XH XI XJ XK XL XM XN XO XQ XR XS XT XU XV XW:Value),Q0 (.exit 0) ⟨#[.pointer (some ⟨g,0,none⟩),.slice sa n sc,c2,c3,.int .i64 (n:Int),u5,u6,u7,u8,u9,Za,Zl,Zw,ZH,ZS,Z3,Ye,Yp,YA,YL,YW,Y7,Xi,Xt,XE,XP,XX,XY,XZ,X0,X1,X2,X3,X4,X5,X6,X7,X8,X9,Wa,Wb,Wc,Wd,We,Wf,Wg,Wh,Wi,Wj,Wk,Wl,Wm,Wn,Wo,Wp,Wq,Wr,Ws,Wt,Wu,Wv,Ww,Wx,Wy,Wz,WA,WB,WC,WD,WE,WF,WG,WH,WI,WJ,WK,WL,WM,WN,WO,WP,WQ,WR,WS,WT,WU,WV,WW,WX,WY,WZ,W0,W1,W2,W3,W4,W5,W6,W7,W8,Zb,Zc,Zd,Ze,Zf,Zg,Zh,Zi,Zj,Zk,Zm,Zn,Zo,Zp,Zq,Zr,Zs,Zt,Zu,Zv,Zx,Zy,Zz,ZA,ZB,ZC,ZD,ZE,ZF,ZG,ZI,ZJ,ZK,ZL,ZM,ZN,ZO,ZP,ZQ,ZR,ZT,ZU,ZV,ZW,ZX,ZY,ZZ,Z0,Z1,Z2,Z4,Z5,Z6,Z7,Z8,Z9,Ya,Yb,Yc,Yd,Yf,Yg,Yh,Yi,Yj,Yk,Yl,Ym,Yn,Yo,Yq,Yr,Ys,Yt,Yu,Yv,Yw,Yx,Yy,Yz,YB,YC,YD,YE,YF,YG,YH,YI,YJ,YK,YM,YN,YO,YP,YQ,YR,YS,YT,YU,YV,YX,YY,YZ,Y0,Y1,Y2,Y3,Y4,Y5,Y6,Y8,Y9,Xa,Xb,Xc,Xd,Xe,Xf,Xg,Xh,Xj,Xk,Xl,Xm,Xn,Xo,Xp,Xq,Xr,Xs,Xu,Xv,Xw,Xx,Xy,Xz,XA,XB,XC,XD,XF,XG,XH,XI,XJ,XK,XL,XM,XN,XO,XQ,XR,XS,XT,XU,XV,XW],[]⟩ wr)):Code.wp Tryz.prog (bodyOf Tryz.f22) (Exit.then PP Q0) ⟨#[.pointer (some ⟨g,0,none⟩),.slice sa n sc,c2,c3,.int .i64 (n:Int),u5,u6,u7,u8,u9,Za,Zl,Zw,ZH,ZS,Z3,Ye,Yp,YA,YL,YW,Y7,Xi,Xt,XE,XP,XX,XY,XZ,X0,X1,X2,X3,X4,X5,X6,X7,X8,X9,Wa,Wb,Wc,Wd,We,Wf,Wg,Wh,Wi,Wj,Wk,Wl,Wm,Wn,Wo,Wp,Wq,Wr,Ws,Wt,Wu,Wv,Ww,Wx,Wy,Wz,WA,WB,WC,WD,WE,WF,WG,WH,WI,WJ,WK,WL,WM,WN,WO,WP,WQ,WR,WS,WT,WU,WV,WW,WX,WY,WZ,W0,W1,W2,W3,W4,W5,W6,W7,W8,Zb,Zc,Zd,Ze,Zf,Zg,Zh,Zi,Zj,Zk,Zm,Zn,Zo,Zp,Zq,Zr,Zs,Zt,Zu,Zv,Zx,Zy,Zz,ZA,ZB,ZC,ZD,ZE,ZF,ZG,ZI,ZJ,ZK,ZL,ZM,ZN,ZO,ZP,ZQ,ZR,ZT,ZU,ZV,ZW,ZX,ZY,ZZ,Z0,Z1,Z2,Z4,Z5,Z6,Z7,Z8,Z9,Ya,Yb,Yc,Yd,Yf,Yg,Yh,Yi,Yj,Yk,Yl,Ym,Yn,Yo,Yq,Yr,Ys,Yt,Yu,Yv,Yw,Yx,Yy,Yz,YB,YC,YD,YE,YF,YG,YH,YI,YJ,YK,YM,YN,YO,YP,YQ,YR,YS,YT,YU,YV,YX,YY,YZ,Y0,Y1,Y2,Y3,Y4,Y5,Y6,Y8,Y9,Xa,Xb,Xc,Xd,Xe,Xf,Xg,Xh,Xj,Xk,Xl,Xm,Xn,Xo,Xp,Xq,Xr,Xs,Xu,Xv,Xw,Xx,Xy,Xz,XA,XB,XC,XD,XF,XG,XH,XI,XJ,XK,XL,XM,XN,XO,XQ,XR,XS,XT,XU,XV,XW],[]⟩ wr:=by
 refine wp_flat _ _ _ _ ?_
 rw[linesBody_flat]
 dsimp only
 refine wpL_step (fun K hK=>?_)
 have HK:=hide hK
 clear hK
 conv=>arg 2;whnf
 go_wp2_with fail
 refine HK.out _ _ ?_
 clear HK
 refine wpL_step (fun K hK=>?_)
 clear hK
 conv=>arg 2;whnf
 go_wp2_with fail
 refine hE.out _ _ _ _ _ _ _ _ _ _ _ _ _ _ _ _ _ _ _ _ _ _ _ _ _ _ _ _ _ _ _ _ _ _ _ _ _ _ _ _ _ _ _ _ _ _ _ _ _ _ _ _ _ _ _ _ _ _ _ _ _ _ _ _ _ _ _ _ _ _ _ _ _ _ _ _ _ _ _ _ _ _ _ _ _ _ _ _ _ _ _ _ _ _ _ _ _ _ _ _ _ _ _ _ _ _ _ _ _ _ _ _ _ _ _ _ _ _ _ _ _ _ _ _ _ _ _ _ _ _ _ _ _ _ _ _ _ _ _ _ _ _ _ _ _ _ _ _ _ _ _ _ _ _ _ _ _ _ _ _ _ _ _ _ _ _ _ _ _ _ _ _ _ _ _ _ _ _ _ _ _ _ _ _ _ _ _ _ _ _ _ _ _ _ _ _ _ _ _ _ _ _ _ _ _ _ _ _ _ _ _ _ _ _ _ _ _ _ _ _ _ _ _ _ _ _ _ _ _ _ _ _ _ _ _ _ _ _ _ _ _ _ _ _ _ _ _ _ _ _ _ _
set_option maxRecDepth 1000000 in
set_option maxHeartbeats 12800000 in
theorem VlLoop (w:World) (g:Nat) (tx:ByteArray) (lb:Int) (pv:Value) (fb:Bool) (pr:Int→Bool) (l:List R.Tree) (n sc:Nat) (sa:Option Addr) (hn:n<10000)
  (hcase:Hid (∀ (k:Nat) (u:ByteArray) (wr:World),k<n→VrAt wr g u (R.textP pr lb (l.take k)).2 pv fb→u.toList=tx.toList++(R.textP pr lb (l.take k)).1→(u.size:Int)≤tx.size+60000*R.sizeL (l.take k)→w.grownBy wr (some g)→∃ (b:Nat) (uv:Value) (t:R.Tree),sa=some ⟨b,0,none⟩∧VC w wr g tx lb pv fb pr l n k u (R.textP pr lb (l.take k)).2 b uv t∧(∀ (w2:World) (u2:ByteArray) (lb2:Int),wr.grownBy w2 (some g)→VrAt w2 g u2 lb2 pv fb→0≤lb2→lb2+R.sizeL t.body<90→(u2.size:Int)+60000*R.sizeL t.body<1000000000→Calls Tryz.prog 22 #[.pointer (some ⟨g,0,none⟩),uv] w2 fun e w'=>e=.returned (.tuple #[])∧w2.grownBy w' (some g)∧∃ t',VrAt w' g t' (R.textP pr lb2 t.body).2 pv fb∧t'.toList=u2.toList++(R.textP pr lb2 t.body).1∧(t'.size:Int)≤u2.size+60000*R.sizeL t.body)))
  (c2 c3 i u5 u6 u7 u8 u9 Za Zl Zw ZH ZS Z3 Ye Yp YA YL YW Y7 Xi Xt XE XP XX XY XZ X0 X1 X2 X3 X4 X5 X6 X7 X8 X9 Wa Wb Wc Wd We Wf Wg Wh Wi Wj Wk Wl Wm Wn Wo Wp Wq Wr Ws Wt Wu Wv Ww Wx Wy Wz WA WB WC WD WE WF WG WH WI WJ WK WL WM WN WO WP WQ WR WS WT WU WV WW WX WY WZ W0 W1 W2 W3 W4 W5 W6 W7 W8 Zb Zc Zd Ze Zf Zg Zh Zi Zj Zk Zm Zn Zo Zp Zq Zr Zs Zt Zu Zv Zx Zy Zz ZA ZB ZC ZD ZE ZF ZG ZI ZJ ZK ZL ZM ZN ZO ZP ZQ ZR ZT ZU ZV ZW ZX ZY ZZ Z0 Z1 Z2 Z4 Z5 Z6 Z7 Z8 Z9 Ya Yb Yc Yd Yf Yg Yh Yi Yj Yk Yl Ym Yn Yo Yq Yr Ys Yt Yu Yv Yw Yx Yy Yz YB YC YD YE YF YG YH YI YJ YK YM YN YO YP YQ YR YS YT YU YV YX YY YZ Y0 Y1 Y2 Y3 Y4 Y5 Y6 Y8 Y9 Xa Xb Xc Xd Xe Xf Xg Xh Xj Xk Xl Xm Xn Xo Xp Xq Xr Xs Xu Xv Xw Xx Xy Xz XA XB XC XD XF XG XH XI XJ XK XL XM XN XO XQ XR XS XT XU XV XW:Value) (w1:World) (hI:VR w g tx lb pv fb pr l n i w1) (Q0:Exit→Act→World→Prop)
  (hE:Hid (∀ (i u5 u6 u7 u8 u9 Za Zl Zw ZH ZS Z3 Ye Yp YA YL YW Y7 Xi Xt XE XP XX XY XZ X0 X1 X2 X3 X4 X5 X6 X7 X8 X9 Wa Wb Wc Wd We Wf Wg Wh Wi Wj Wk Wl Wm Wn Wo Wp Wq Wr Ws Wt Wu Wv Ww Wx Wy Wz WA WB WC WD WE WF WG WH WI WJ WK WL WM WN WO WP WQ WR WS WT WU WV WW WX WY WZ W0 W1 W2 W3 W4 W5 W6 W7 W8 Zb Zc Zd Ze Zf Zg Zh Zi Zj Zk Zm Zn Zo Zp Zq Zr Zs Zt Zu Zv Zx Zy Zz ZA ZB ZC ZD ZE ZF ZG ZI ZJ ZK ZL ZM ZN ZO ZP ZQ ZR ZT ZU ZV ZW ZX ZY ZZ Z0 Z1 Z2 Z4 Z5 Z6 Z7 Z8 Z9 Ya Yb Yc Yd Yf Yg Yh Yi Yj Yk Yl Ym Yn Yo Yq Yr Ys Yt Yu Yv Yw Yx Yy Yz YB YC YD YE YF YG YH YI YJ YK YM YN YO YP YQ YR YS YT YU YV YX YY YZ Y0 Y1 Y2 Y3 Y4 Y5 Y6 Y8 Y9 Xa Xb Xc Xd Xe Xf Xg Xh Xj Xk Xl Xm Xn Xo Xp Xq Xr Xs Xu Xv Xw Xx Xy Xz XA XB XC XD XF XG XH XI XJ XK XL XM XN XO XQ XR XS XT XU XV XW:Value) (w2:World) (u:ByteArray),VrAt w2 g u (R.textP pr lb (l.take n)).2 pv fb→u.toList=tx.toList++(R.textP pr lb (l.take n)).1→(u.size:Int)≤tx.size+60000*R.sizeL (l.take n)→w.grownBy w2 (some g)→Q0 (.exit 0) ⟨#[.pointer (some ⟨g,0,none⟩),.slice sa n sc,c2,c3,i,u5,u6,u7,u8,u9,Za,Zl,Zw,ZH,ZS,Z3,Ye,Yp,YA,YL,YW,Y7,Xi,Xt,XE,XP,XX,XY,XZ,X0,X1,X2,X3,X4,X5,X6,X7,X8,X9,Wa,Wb,Wc,Wd,We,Wf,Wg,Wh,Wi,Wj,Wk,Wl,Wm,Wn,Wo,Wp,Wq,Wr,Ws,Wt,Wu,Wv,Ww,Wx,Wy,Wz,WA,WB,WC,WD,WE,WF,WG,WH,WI,WJ,WK,WL,WM,WN,WO,WP,WQ,WR,WS,WT,WU,WV,WW,WX,WY,WZ,W0,W1,W2,W3,W4,W5,W6,W7,W8,Zb,Zc,Zd,Ze,Zf,Zg,Zh,Zi,Zj,Zk,Zm,Zn,Zo,Zp,Zq,Zr,Zs,Zt,Zu,Zv,Zx,Zy,Zz,ZA,ZB,ZC,ZD,ZE,ZF,ZG,ZI,ZJ,ZK,ZL,ZM,ZN,ZO,ZP,ZQ,ZR,ZT,ZU,ZV,ZW,ZX,ZY,ZZ,Z0,Z1,Z2,Z4,Z5,Z6,Z7,Z8,Z9,Ya,Yb,Yc,Yd,Yf,Yg,Yh,Yi,Yj,Yk,Yl,Ym,Yn,Yo,Yq,Yr,Ys,Yt,Yu,Yv,Yw,Yx,Yy,Yz,YB,YC,YD,YE,YF,YG,YH,YI,YJ,YK,YM,YN,YO,YP,YQ,YR,YS,YT,YU,YV,YX,YY,YZ,Y0,Y1,Y2,Y3,Y4,Y5,Y6,Y8,Y9,Xa,Xb,Xc,Xd,Xe,Xf,Xg,Xh,Xj,Xk,Xl,Xm,Xn,Xo,Xp,Xq,Xr,Xs,Xu,Xv,Xw,Xx,Xy,Xz,XA,XB,XC,XD,XF,XG,XH,XI,XJ,XK,XL,XM,XN,XO,XQ,XR,XS,XT,XU,XV,XW],[]⟩ w2)) :
  Code.wp Tryz.prog (Code.loop (bodyOf Tryz.f22)) Q0 ⟨#[.pointer (some ⟨g,0,none⟩),.slice sa n sc,c2,c3,i,u5,u6,u7,u8,u9,Za,Zl,Zw,ZH,ZS,Z3,Ye,Yp,YA,YL,YW,Y7,Xi,Xt,XE,XP,XX,XY,XZ,X0,X1,X2,X3,X4,X5,X6,X7,X8,X9,Wa,Wb,Wc,Wd,We,Wf,Wg,Wh,Wi,Wj,Wk,Wl,Wm,Wn,Wo,Wp,Wq,Wr,Ws,Wt,Wu,Wv,Ww,Wx,Wy,Wz,WA,WB,WC,WD,WE,WF,WG,WH,WI,WJ,WK,WL,WM,WN,WO,WP,WQ,WR,WS,WT,WU,WV,WW,WX,WY,WZ,W0,W1,W2,W3,W4,W5,W6,W7,W8,Zb,Zc,Zd,Ze,Zf,Zg,Zh,Zi,Zj,Zk,Zm,Zn,Zo,Zp,Zq,Zr,Zs,Zt,Zu,Zv,Zx,Zy,Zz,ZA,ZB,ZC,ZD,ZE,ZF,ZG,ZI,ZJ,ZK,ZL,ZM,ZN,ZO,ZP,ZQ,ZR,ZT,ZU,ZV,ZW,ZX,ZY,ZZ,Z0,Z1,Z2,Z4,Z5,Z6,Z7,Z8,Z9,Ya,Yb,Yc,Yd,Yf,Yg,Yh,Yi,Yj,Yk,Yl,Ym,Yn,Yo,Yq,Yr,Ys,Yt,Yu,Yv,Yw,Yx,Yy,Yz,YB,YC,YD,YE,YF,YG,YH,YI,YJ,YK,YM,YN,YO,YP,YQ,YR,YS,YT,YU,YV,YX,YY,YZ,Y0,Y1,Y2,Y3,Y4,Y5,Y6,Y8,Y9,Xa,Xb,Xc,Xd,Xe,Xf,Xg,Xh,Xj,Xk,Xl,Xm,Xn,Xo,Xp,Xq,Xr,Xs,Xu,Xv,Xw,Xx,Xy,Xz,XA,XB,XC,XD,XF,XG,XH,XI,XJ,XK,XL,XM,XN,XO,XQ,XR,XS,XT,XU,XV,XW],[]⟩ w1:=by
 refine wp_loop (VI (.pointer (some ⟨g,0,none⟩)) (.slice sa n sc) c2 c3 w g tx lb pv fb pr l n) (VM n) ?_ (fun a wr hL=>?_)
 ·unfold VI
  exact⟨i,u5,u6,u7,u8,u9,Za,Zl,Zw,ZH,ZS,Z3,Ye,Yp,YA,YL,YW,Y7,Xi,Xt,XE,XP,XX,XY,XZ,X0,X1,X2,X3,X4,X5,X6,X7,X8,X9,Wa,Wb,Wc,Wd,We,Wf,Wg,Wh,Wi,Wj,Wk,Wl,Wm,Wn,Wo,Wp,Wq,Wr,Ws,Wt,Wu,Wv,Ww,Wx,Wy,Wz,WA,WB,WC,WD,WE,WF,WG,WH,WI,WJ,WK,WL,WM,WN,WO,WP,WQ,WR,WS,WT,WU,WV,WW,WX,WY,WZ,W0,W1,W2,W3,W4,W5,W6,W7,W8,Zb,Zc,Zd,Ze,Zf,Zg,Zh,Zi,Zj,Zk,Zm,Zn,Zo,Zp,Zq,Zr,Zs,Zt,Zu,Zv,Zx,Zy,Zz,ZA,ZB,ZC,ZD,ZE,ZF,ZG,ZI,ZJ,ZK,ZL,ZM,ZN,ZO,ZP,ZQ,ZR,ZT,ZU,ZV,ZW,ZX,ZY,ZZ,Z0,Z1,Z2,Z4,Z5,Z6,Z7,Z8,Z9,Ya,Yb,Yc,Yd,Yf,Yg,Yh,Yi,Yj,Yk,Yl,Ym,Yn,Yo,Yq,Yr,Ys,Yt,Yu,Yv,Yw,Yx,Yy,Yz,YB,YC,YD,YE,YF,YG,YH,YI,YJ,YK,YM,YN,YO,YP,YQ,YR,YS,YT,YU,YV,YX,YY,YZ,Y0,Y1,Y2,Y3,Y4,Y5,Y6,Y8,Y9,Xa,Xb,Xc,Xd,Xe,Xf,Xg,Xh,Xj,Xk,Xl,Xm,Xn,Xo,Xp,Xq,Xr,Xs,Xu,Xv,Xw,Xx,Xy,Xz,XA,XB,XC,XD,XF,XG,XH,XI,XJ,XK,XL,XM,XN,XO,XQ,XR,XS,XT,XU,XV,XW,hI,rfl⟩
 ·unfold VI at hL
  obtain⟨i,hL⟩:=hL
  obtain⟨u5,hL⟩:=hL
  obtain⟨u6,hL⟩:=hL
  obtain⟨u7,hL⟩:=hL
  obtain⟨u8,hL⟩:=hL
  obtain⟨u9,hL⟩:=hL
  obtain⟨Za,hL⟩:=hL
  obtain⟨Zl,hL⟩:=hL
  obtain⟨Zw,hL⟩:=hL
  obtain⟨ZH,hL⟩:=hL
  obtain⟨ZS,hL⟩:=hL
  obtain⟨Z3,hL⟩:=hL
  obtain⟨Ye,hL⟩:=hL
  obtain⟨Yp,hL⟩:=hL
  obtain⟨YA,hL⟩:=hL
  obtain⟨YL,hL⟩:=hL
  obtain⟨YW,hL⟩:=hL
  obtain⟨Y7,hL⟩:=hL
  obtain⟨Xi,hL⟩:=hL
  obtain⟨Xt,hL⟩:=hL
  obtain⟨XE,hL⟩:=hL
  obtain⟨XP,hL⟩:=hL
  obtain⟨XX,hL⟩:=hL
  obtain⟨XY,hL⟩:=hL
  obtain⟨XZ,hL⟩:=hL
  obtain⟨X0,hL⟩:=hL
  obtain⟨X1,hL⟩:=hL
  obtain⟨X2,hL⟩:=hL
  obtain⟨X3,hL⟩:=hL
  obtain⟨X4,hL⟩:=hL
  obtain⟨X5,hL⟩:=hL
  obtain⟨X6,hL⟩:=hL
  obtain⟨X7,hL⟩:=hL
  obtain⟨X8,hL⟩:=hL
  obtain⟨X9,hL⟩:=hL
  obtain⟨Wa,hL⟩:=hL
  obtain⟨Wb,hL⟩:=hL
  obtain⟨Wc,hL⟩:=hL
  obtain⟨Wd,hL⟩:=hL
  obtain⟨We,hL⟩:=hL
  obtain⟨Wf,hL⟩:=hL
  obtain⟨Wg,hL⟩:=hL
  obtain⟨Wh,hL⟩:=hL
  obtain⟨Wi,hL⟩:=hL
  obtain⟨Wj,hL⟩:=hL
  obtain⟨Wk,hL⟩:=hL
  obtain⟨Wl,hL⟩:=hL
  obtain⟨Wm,hL⟩:=hL
  obtain⟨Wn,hL⟩:=hL
  obtain⟨Wo,hL⟩:=hL
  obtain⟨Wp,hL⟩:=hL
  obtain⟨Wq,hL⟩:=hL
  obtain⟨Wr,hL⟩:=hL
  obtain⟨Ws,hL⟩:=hL
  obtain⟨Wt,hL⟩:=hL
  obtain⟨Wu,hL⟩:=hL
  obtain⟨Wv,hL⟩:=hL
  obtain⟨Ww,hL⟩:=hL
  obtain⟨Wx,hL⟩:=hL
  obtain⟨Wy,hL⟩:=hL
  obtain⟨Wz,hL⟩:=hL
  obtain⟨WA,hL⟩:=hL
  obtain⟨WB,hL⟩:=hL
  obtain⟨WC,hL⟩:=hL
  obtain⟨WD,hL⟩:=hL
  obtain⟨WE,hL⟩:=hL
  obtain⟨WF,hL⟩:=hL
  obtain⟨WG,hL⟩:=hL
  obtain⟨WH,hL⟩:=hL
  obtain⟨WI,hL⟩:=hL
  obtain⟨WJ,hL⟩:=hL
  obtain⟨WK,hL⟩:=hL
  obtain⟨WL,hL⟩:=hL
  obtain⟨WM,hL⟩:=hL
  obtain⟨WN,hL⟩:=hL
  obtain⟨WO,hL⟩:=hL
  obtain⟨WP,hL⟩:=hL
  obtain⟨WQ,hL⟩:=hL
  obtain⟨WR,hL⟩:=hL
  obtain⟨WS,hL⟩:=hL
  obtain⟨WT,hL⟩:=hL
  obtain⟨WU,hL⟩:=hL
  obtain⟨WV,hL⟩:=hL
  obtain⟨WW,hL⟩:=hL
  obtain⟨WX,hL⟩:=hL
  obtain⟨WY,hL⟩:=hL
  obtain⟨WZ,hL⟩:=hL
  obtain⟨W0,hL⟩:=hL
  obtain⟨W1,hL⟩:=hL
  obtain⟨W2,hL⟩:=hL
  obtain⟨W3,hL⟩:=hL
  obtain⟨W4,hL⟩:=hL
  obtain⟨W5,hL⟩:=hL
  obtain⟨W6,hL⟩:=hL
  obtain⟨W7,hL⟩:=hL
  obtain⟨W8,hL⟩:=hL
  obtain⟨Zb,hL⟩:=hL
  obtain⟨Zc,hL⟩:=hL
  obtain⟨Zd,hL⟩:=hL
  obtain⟨Ze,hL⟩:=hL
  obtain⟨Zf,hL⟩:=hL
  obtain⟨Zg,hL⟩:=hL
  obtain⟨Zh,hL⟩:=hL
  obtain⟨Zi,hL⟩:=hL
  obtain⟨Zj,hL⟩:=hL
  obtain⟨Zk,hL⟩:=hL
  obtain⟨Zm,hL⟩:=hL
  obtain⟨Zn,hL⟩:=hL
  obtain⟨Zo,hL⟩:=hL
  obtain⟨Zp,hL⟩:=hL
  obtain⟨Zq,hL⟩:=hL
  obtain⟨Zr,hL⟩:=hL
  obtain⟨Zs,hL⟩:=hL
  obtain⟨Zt,hL⟩:=hL
  obtain⟨Zu,hL⟩:=hL
  obtain⟨Zv,hL⟩:=hL
  obtain⟨Zx,hL⟩:=hL
  obtain⟨Zy,hL⟩:=hL
  obtain⟨Zz,hL⟩:=hL
  obtain⟨ZA,hL⟩:=hL
  obtain⟨ZB,hL⟩:=hL
  obtain⟨ZC,hL⟩:=hL
  obtain⟨ZD,hL⟩:=hL
  obtain⟨ZE,hL⟩:=hL
  obtain⟨ZF,hL⟩:=hL
  obtain⟨ZG,hL⟩:=hL
  obtain⟨ZI,hL⟩:=hL
  obtain⟨ZJ,hL⟩:=hL
  obtain⟨ZK,hL⟩:=hL
  obtain⟨ZL,hL⟩:=hL
  obtain⟨ZM,hL⟩:=hL
  obtain⟨ZN,hL⟩:=hL
  obtain⟨ZO,hL⟩:=hL
  obtain⟨ZP,hL⟩:=hL
  obtain⟨ZQ,hL⟩:=hL
  obtain⟨ZR,hL⟩:=hL
  obtain⟨ZT,hL⟩:=hL
  obtain⟨ZU,hL⟩:=hL
  obtain⟨ZV,hL⟩:=hL
  obtain⟨ZW,hL⟩:=hL
  obtain⟨ZX,hL⟩:=hL
  obtain⟨ZY,hL⟩:=hL
  obtain⟨ZZ,hL⟩:=hL
  obtain⟨Z0,hL⟩:=hL
  obtain⟨Z1,hL⟩:=hL
  obtain⟨Z2,hL⟩:=hL
  obtain⟨Z4,hL⟩:=hL
  obtain⟨Z5,hL⟩:=hL
  obtain⟨Z6,hL⟩:=hL
  obtain⟨Z7,hL⟩:=hL
  obtain⟨Z8,hL⟩:=hL
  obtain⟨Z9,hL⟩:=hL
  obtain⟨Ya,hL⟩:=hL
  obtain⟨Yb,hL⟩:=hL
  obtain⟨Yc,hL⟩:=hL
  obtain⟨Yd,hL⟩:=hL
  obtain⟨Yf,hL⟩:=hL
  obtain⟨Yg,hL⟩:=hL
  obtain⟨Yh,hL⟩:=hL
  obtain⟨Yi,hL⟩:=hL
  obtain⟨Yj,hL⟩:=hL
  obtain⟨Yk,hL⟩:=hL
  obtain⟨Yl,hL⟩:=hL
  obtain⟨Ym,hL⟩:=hL
  obtain⟨Yn,hL⟩:=hL
  obtain⟨Yo,hL⟩:=hL
  obtain⟨Yq,hL⟩:=hL
  obtain⟨Yr,hL⟩:=hL
  obtain⟨Ys,hL⟩:=hL
  obtain⟨Yt,hL⟩:=hL
  obtain⟨Yu,hL⟩:=hL
  obtain⟨Yv,hL⟩:=hL
  obtain⟨Yw,hL⟩:=hL
  obtain⟨Yx,hL⟩:=hL
  obtain⟨Yy,hL⟩:=hL
  obtain⟨Yz,hL⟩:=hL
  obtain⟨YB,hL⟩:=hL
  obtain⟨YC,hL⟩:=hL
  obtain⟨YD,hL⟩:=hL
  obtain⟨YE,hL⟩:=hL
  obtain⟨YF,hL⟩:=hL
  obtain⟨YG,hL⟩:=hL
  obtain⟨YH,hL⟩:=hL
  obtain⟨YI,hL⟩:=hL
  obtain⟨YJ,hL⟩:=hL
  obtain⟨YK,hL⟩:=hL
  obtain⟨YM,hL⟩:=hL
  obtain⟨YN,hL⟩:=hL
  obtain⟨YO,hL⟩:=hL
  obtain⟨YP,hL⟩:=hL
  obtain⟨YQ,hL⟩:=hL
  obtain⟨YR,hL⟩:=hL
  obtain⟨YS,hL⟩:=hL
  obtain⟨YT,hL⟩:=hL
  obtain⟨YU,hL⟩:=hL
  obtain⟨YV,hL⟩:=hL
  obtain⟨YX,hL⟩:=hL
  obtain⟨YY,hL⟩:=hL
  obtain⟨YZ,hL⟩:=hL
  obtain⟨Y0,hL⟩:=hL
  obtain⟨Y1,hL⟩:=hL
  obtain⟨Y2,hL⟩:=hL
  obtain⟨Y3,hL⟩:=hL
  obtain⟨Y4,hL⟩:=hL
  obtain⟨Y5,hL⟩:=hL
  obtain⟨Y6,hL⟩:=hL
  obtain⟨Y8,hL⟩:=hL
  obtain⟨Y9,hL⟩:=hL
  obtain⟨Xa,hL⟩:=hL
  obtain⟨Xb,hL⟩:=hL
  obtain⟨Xc,hL⟩:=hL
  obtain⟨Xd,hL⟩:=hL
  obtain⟨Xe,hL⟩:=hL
  obtain⟨Xf,hL⟩:=hL
  obtain⟨Xg,hL⟩:=hL
  obtain⟨Xh,hL⟩:=hL
  obtain⟨Xj,hL⟩:=hL
  obtain⟨Xk,hL⟩:=hL
  obtain⟨Xl,hL⟩:=hL
  obtain⟨Xm,hL⟩:=hL
  obtain⟨Xn,hL⟩:=hL
  obtain⟨Xo,hL⟩:=hL
  obtain⟨Xp,hL⟩:=hL
  obtain⟨Xq,hL⟩:=hL
  obtain⟨Xr,hL⟩:=hL
  obtain⟨Xs,hL⟩:=hL
  obtain⟨Xu,hL⟩:=hL
  obtain⟨Xv,hL⟩:=hL
  obtain⟨Xw,hL⟩:=hL
  obtain⟨Xx,hL⟩:=hL
  obtain⟨Xy,hL⟩:=hL
  obtain⟨Xz,hL⟩:=hL
  obtain⟨XA,hL⟩:=hL
  obtain⟨XB,hL⟩:=hL
  obtain⟨XC,hL⟩:=hL
  obtain⟨XD,hL⟩:=hL
  obtain⟨XF,hL⟩:=hL
  obtain⟨XG,hL⟩:=hL
  obtain⟨XH,hL⟩:=hL
  obtain⟨XI,hL⟩:=hL
  obtain⟨XJ,hL⟩:=hL
  obtain⟨XK,hL⟩:=hL
  obtain⟨XL,hL⟩:=hL
  obtain⟨XM,hL⟩:=hL
  obtain⟨XN,hL⟩:=hL
  obtain⟨XO,hL⟩:=hL
  obtain⟨XQ,hL⟩:=hL
  obtain⟨XR,hL⟩:=hL
  obtain⟨XS,hL⟩:=hL
  obtain⟨XT,hL⟩:=hL
  obtain⟨XU,hL⟩:=hL
  obtain⟨XV,hL⟩:=hL
  obtain⟨XW,hL⟩:=hL
  obtain⟨⟨k,u,hk,rfl,hw,hu,hz,hg⟩,rfl⟩:=hL
  by_cases hlt:k<n
  ·obtain⟨b,uv,t,rfl,H,HC⟩:=hcase.out k u wr hlt hw hu hz hg
   refine VlRound w wr g tx lb pv fb pr l n k u _ b sc uv t H HC c2 c3 u5 u6 u7 u8 u9 Za Zl Zw ZH ZS Z3 Ye Yp YA YL YW Y7 Xi Xt XE XP XX XY XZ X0 X1 X2 X3 X4 X5 X6 X7 X8 X9 Wa Wb Wc Wd We Wf Wg Wh Wi Wj Wk Wl Wm Wn Wo Wp Wq Wr Ws Wt Wu Wv Ww Wx Wy Wz WA WB WC WD WE WF WG WH WI WJ WK WL WM WN WO WP WQ WR WS WT WU WV WW WX WY WZ W0 W1 W2 W3 W4 W5 W6 W7 W8 Zb Zc Zd Ze Zf Zg Zh Zi Zj Zk Zm Zn Zo Zp Zq Zr Zs Zt Zu Zv Zx Zy Zz ZA ZB ZC ZD ZE ZF ZG ZI ZJ ZK ZL ZM ZN ZO ZP ZQ ZR ZT ZU ZV ZW ZX ZY ZZ Z0 Z1 Z2 Z4 Z5 Z6 Z7 Z8 Z9 Ya Yb Yc Yd Yf Yg Yh Yi Yj Yk Yl Ym Yn Yo Yq Yr Ys Yt Yu Yv Yw Yx Yy Yz YB YC YD YE YF YG YH YI YJ YK YM YN YO YP YQ YR YS YT YU YV YX YY YZ Y0 Y1 Y2 Y3 Y4 Y5 Y6 Y8 Y9 Xa Xb Xc Xd Xe Xf Xg Xh Xj Xk Xl Xm Xn Xo Xp Xq Xr Xs Xu Xv Xw Xx Xy Xz XA XB XC XD XF XG XH XI XJ XK XL XM XN XO XQ XR XS XT XU XV XW _ Q0 (fun u5 u6 u7 u8 u9 Za Zl Zw ZH ZS Z3 Ye Yp YA YL YW Y7 Xi Xt XE XP XX XY XZ X0 X1 X2 X3 X4 X5 X6 X7 X8 X9 Wa Wb Wc Wd We Wf Wg Wh Wi Wj Wk Wl Wm Wn Wo Wp Wq Wr Ws Wt Wu Wv Ww Wx Wy Wz WA WB WC WD WE WF WG WH WI WJ WK WL WM WN WO WP WQ WR WS WT WU WV WW WX WY WZ W0 W1 W2 W3 W4 W5 W6 W7 W8 Zb Zc Zd Ze Zf Zg Zh Zi Zj Zk Zm Zn Zo Zp Zq Zr Zs Zt Zu Zv Zx Zy Zz ZA ZB ZC ZD ZE ZF ZG ZI ZJ ZK ZL ZM ZN ZO ZP ZQ ZR ZT ZU ZV ZW ZX ZY ZZ Z0 Z1 Z2 Z4 Z5 Z6 Z7 Z8 Z9 Ya Yb Yc Yd Yf Yg Yh Yi Yj Yk Yl Ym Yn Yo Yq Yr Ys Yt Yu Yv Yw Yx Yy Yz YB YC YD YE YF YG YH YI YJ YK YM YN YO YP YQ YR YS YT YU YV YX YY YZ Y0 Y1 Y2 Y3 Y4 Y5 Y6 Y8 Y9 Xa Xb Xc Xd Xe Xf Xg Xh Xj Xk Xl Xm Xn Xo Xp Xq Xr Xs Xu Xv Xw Xx Xy Xz XA XB XC XD XF XG XH XI XJ XK XL XM XN XO XQ XR XS XT XU XV XW w2 h2=>⟨?_,?_⟩)
   ·unfold VI
    exact⟨_,u5,u6,u7,u8,u9,Za,Zl,Zw,ZH,ZS,Z3,Ye,Yp,YA,YL,YW,Y7,Xi,Xt,XE,XP,XX,XY,XZ,X0,X1,X2,X3,X4,X5,X6,X7,X8,X9,Wa,Wb,Wc,Wd,We,Wf,Wg,Wh,Wi,Wj,Wk,Wl,Wm,Wn,Wo,Wp,Wq,Wr,Ws,Wt,Wu,Wv,Ww,Wx,Wy,Wz,WA,WB,WC,WD,WE,WF,WG,WH,WI,WJ,WK,WL,WM,WN,WO,WP,WQ,WR,WS,WT,WU,WV,WW,WX,WY,WZ,W0,W1,W2,W3,W4,W5,W6,W7,W8,Zb,Zc,Zd,Ze,Zf,Zg,Zh,Zi,Zj,Zk,Zm,Zn,Zo,Zp,Zq,Zr,Zs,Zt,Zu,Zv,Zx,Zy,Zz,ZA,ZB,ZC,ZD,ZE,ZF,ZG,ZI,ZJ,ZK,ZL,ZM,ZN,ZO,ZP,ZQ,ZR,ZT,ZU,ZV,ZW,ZX,ZY,ZZ,Z0,Z1,Z2,Z4,Z5,Z6,Z7,Z8,Z9,Ya,Yb,Yc,Yd,Yf,Yg,Yh,Yi,Yj,Yk,Yl,Ym,Yn,Yo,Yq,Yr,Ys,Yt,Yu,Yv,Yw,Yx,Yy,Yz,YB,YC,YD,YE,YF,YG,YH,YI,YJ,YK,YM,YN,YO,YP,YQ,YR,YS,YT,YU,YV,YX,YY,YZ,Y0,Y1,Y2,Y3,Y4,Y5,Y6,Y8,Y9,Xa,Xb,Xc,Xd,Xe,Xf,Xg,Xh,Xj,Xk,Xl,Xm,Xn,Xo,Xp,Xq,Xr,Xs,Xu,Xv,Xw,Xx,Xy,Xz,XA,XB,XC,XD,XF,XG,XH,XI,XJ,XK,XL,XM,XN,XO,XQ,XR,XS,XT,XU,XV,XW,h2,rfl⟩
   ·simp[VM,intOf];omega
  ·have hkn:k=n:=by omega
   subst hkn
   exact VlOut k g sc sa wr hn c2 c3 u5 u6 u7 u8 u9 Za Zl Zw ZH ZS Z3 Ye Yp YA YL YW Y7 Xi Xt XE XP XX XY XZ X0 X1 X2 X3 X4 X5 X6 X7 X8 X9 Wa Wb Wc Wd We Wf Wg Wh Wi Wj Wk Wl Wm Wn Wo Wp Wq Wr Ws Wt Wu Wv Ww Wx Wy Wz WA WB WC WD WE WF WG WH WI WJ WK WL WM WN WO WP WQ WR WS WT WU WV WW WX WY WZ W0 W1 W2 W3 W4 W5 W6 W7 W8 Zb Zc Zd Ze Zf Zg Zh Zi Zj Zk Zm Zn Zo Zp Zq Zr Zs Zt Zu Zv Zx Zy Zz ZA ZB ZC ZD ZE ZF ZG ZI ZJ ZK ZL ZM ZN ZO ZP ZQ ZR ZT ZU ZV ZW ZX ZY ZZ Z0 Z1 Z2 Z4 Z5 Z6 Z7 Z8 Z9 Ya Yb Yc Yd Yf Yg Yh Yi Yj Yk Yl Ym Yn Yo Yq Yr Ys Yt Yu Yv Yw Yx Yy Yz YB YC YD YE YF YG YH YI YJ YK YM YN YO YP YQ YR YS YT YU YV YX YY YZ Y0 Y1 Y2 Y3 Y4 Y5 Y6 Y8 Y9 Xa Xb Xc Xd Xe Xf Xg Xh Xj Xk Xl Xm Xn Xo Xp Xq Xr Xs Xu Xv Xw Xx Xy Xz XA XB XC XD XF XG XH XI XJ XK XL XM XN XO XQ XR XS XT XU XV XW _ Q0 (fun u5 u6 u7 u8 u9 Za Zl Zw ZH ZS Z3 Ye Yp YA YL YW Y7 Xi Xt XE XP XX XY XZ X0 X1 X2 X3 X4 X5 X6 X7 X8 X9 Wa Wb Wc Wd We Wf Wg Wh Wi Wj Wk Wl Wm Wn Wo Wp Wq Wr Ws Wt Wu Wv Ww Wx Wy Wz WA WB WC WD WE WF WG WH WI WJ WK WL WM WN WO WP WQ WR WS WT WU WV WW WX WY WZ W0 W1 W2 W3 W4 W5 W6 W7 W8 Zb Zc Zd Ze Zf Zg Zh Zi Zj Zk Zm Zn Zo Zp Zq Zr Zs Zt Zu Zv Zx Zy Zz ZA ZB ZC ZD ZE ZF ZG ZI ZJ ZK ZL ZM ZN ZO ZP ZQ ZR ZT ZU ZV ZW ZX ZY ZZ Z0 Z1 Z2 Z4 Z5 Z6 Z7 Z8 Z9 Ya Yb Yc Yd Yf Yg Yh Yi Yj Yk Yl Ym Yn Yo Yq Yr Ys Yt Yu Yv Yw Yx Yy Yz YB YC YD YE YF YG YH YI YJ YK YM YN YO YP YQ YR YS YT YU YV YX YY YZ Y0 Y1 Y2 Y3 Y4 Y5 Y6 Y8 Y9 Xa Xb Xc Xd Xe Xf Xg Xh Xj Xk Xl Xm Xn Xo Xp Xq Xr Xs Xu Xv Xw Xx Xy Xz XA XB XC XD XF XG XH XI XJ XK XL XM XN XO XQ XR XS XT XU XV XW=>hE.out _ u5 u6 u7 u8 u9 Za Zl Zw ZH ZS Z3 Ye Yp YA YL YW Y7 Xi Xt XE XP XX XY XZ X0 X1 X2 X3 X4 X5 X6 X7 X8 X9 Wa Wb Wc Wd We Wf Wg Wh Wi Wj Wk Wl Wm Wn Wo Wp Wq Wr Ws Wt Wu Wv Ww Wx Wy Wz WA WB WC WD WE WF WG WH WI WJ WK WL WM WN WO WP WQ WR WS WT WU WV WW WX WY WZ W0 W1 W2 W3 W4 W5 W6 W7 W8 Zb Zc Zd Ze Zf Zg Zh Zi Zj Zk Zm Zn Zo Zp Zq Zr Zs Zt Zu Zv Zx Zy Zz ZA ZB ZC ZD ZE ZF ZG ZI ZJ ZK ZL ZM ZN ZO ZP ZQ ZR ZT ZU ZV ZW ZX ZY ZZ Z0 Z1 Z2 Z4 Z5 Z6 Z7 Z8 Z9 Ya Yb Yc Yd Yf Yg Yh Yi Yj Yk Yl Ym Yn Yo Yq Yr Ys Yt Yu Yv Yw Yx Yy Yz YB YC YD YE YF YG YH YI YJ YK YM YN YO YP YQ YR YS YT YU YV YX YY YZ Y0 Y1 Y2 Y3 Y4 Y5 Y6 Y8 Y9 Xa Xb Xc Xd Xe Xf Xg Xh Xj Xk Xl Xm Xn Xo Xp Xq Xr Xs Xu Xv Xw Xx Xy Xz XA XB XC XD XF XG XH XI XJ XK XL XM XN XO XQ XR XS XT XU XV XW wr u hw hu hz hg)
end Go.Proofs.YtpkjmdcabdplfaaGreatDoor
