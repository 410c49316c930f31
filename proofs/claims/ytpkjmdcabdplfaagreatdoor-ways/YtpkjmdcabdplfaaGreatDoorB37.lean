import Derived.BigQuiet
import Derived.Deep.QuietTactic
import Derived.Test.YtpkjmdcabdplfaaGreatDoorB29
set_option linter.unusedVariables false
set_option linter.unusedSimpArgs false
namespace Go.Proofs.YtpkjmdcabdplfaaGreatDoor
open Go Go.RowKit
set_option maxRecDepth 100000
namespace R
def textPT (pr:Int→Bool) (n:Int) (t:Tree):List UInt8 × Int :=
 if t.x.op.toList==[105,102] then ([98,122,32]++shown t.x.a++[44,32]++P.labT (n+1)++[10]++(textP pr (n+1) t.body).1++P.labT (n+1)++[58,10],(textP pr (n+1) t.body).2) else (lineP pr t.x,n)
theorem textP_nil (pr:Int→Bool) (n:Int):textP pr n []=([],n):=by simp only[textP]
theorem textP_cons (pr:Int→Bool) (n:Int) (t:Tree) (r:List Tree):textP pr n (t::r)=((textPT pr n t).1++(textP pr (textPT pr n t).2 r).1,(textP pr (textPT pr n t).2 r).2):=by cases t;simp only[textP,textPT]
theorem textP_append (pr:Int→Bool) (a b:List Tree):∀ n:Int,textP pr n (a++b)=((textP pr n a).1++(textP pr (textP pr n a).2 b).1,(textP pr (textP pr n a).2 b).2):=by
 induction a with
 | nil=>intro n;simp[textP_nil]
 | cons t r ih=>intro n;simp only[List.cons_append,textP_cons,ih,List.append_assoc]
theorem textP_snoc (pr:Int→Bool) (n:Int) (l:List Tree) (k:Nat) (h:k<l.length):textP pr n (l.take (k+1))=((textP pr n (l.take k)).1++(textPT pr (textP pr n (l.take k)).2 l[k]).1,(textPT pr (textP pr n (l.take k)).2 l[k]).2):=by
 rw[List.take_succ_eq_append_getElem h,textP_append]
 simp[textP_nil,textP_cons]
theorem textP_lab (pr:Int→Bool):∀ (l:List Tree) (n:Int),n≤(textP pr n l).2∧(textP pr n l).2≤n+sizeL l:=by
 intro l
 induction l using numL.induct with
 | case1=>intro n;simp[textP_nil,sizeL,numL_nil]
 | case2 x b r h1 h2 =>
  intro n
  simp only[textP_cons,sizeL,numL_cons,textPT,numT,if_true] at *
  have hb:=(numL_bd (fun _=>true) b).1
  split
  ·have a:=h1 (n+1)
   have c:=h2 (textP pr (n+1) b).2
   simp only[];omega
  ·have c:=h2 n
   simp only[];omega
theorem textP_leaf (pr:Int→Bool) (n:Int) (t:Tree) (h:(t.x.op.toList==[105,102])=false):textPT pr n t=(aheadT pr t.x++lineT { t.x with ord:=ordX pr t.x }++[10]++behindT pr t.x,n):=by
 simp only[textPT,h,Bool.false_eq_true,if_false,lineP]
theorem textP_if (pr:Int→Bool) (n:Int) (t:Tree) (h:(t.x.op.toList==[105,102])=true):textPT pr n t=([98,122,32]++shown t.x.a++[44,32]++P.labT (n+1)++[10]++(textP pr (n+1) t.body).1++P.labT (n+1)++[58,10],(textP pr (n+1) t.body).2):=by
 simp only[textPT,h,if_true]
theorem regT_ord (x:Lh) (o:ByteArray):regT { x with ord:=o }=regT x:=rfl
theorem no_fence (pr:Int→Bool) (x:Lh) (h:fenB pr x=false):aheadT pr x=[]∧behindT pr x=[]∧ordX pr x=x.ord:=by
 unfold aheadT behindT ordX;rw[h];exact⟨rfl,rfl,rfl⟩
end R
def VrAt (w:World) (g:Nat) (t:ByteArray) (n:Int) (pv:Value) (fb:Bool):Prop:=w.heap[g]?=some (.cells #[.string t,.int .i64 n,pv,.bool fb] 62 (0,0))
theorem VrAt.facts {w:World} {g:Nat} {t:ByteArray} {n:Int} {pv:Value} {fb:Bool} (h:VrAt w g t n pv fb):g<w.heap.size∧(∀ i,w.frozen? ⟨g,i,none⟩=false)∧w.cell? ⟨g,0,none⟩=some (.string t)∧w.cell? ⟨g,1,none⟩=some (.int .i64 n)∧w.cell? ⟨g,2,none⟩=some pv∧w.cell? ⟨g,3,none⟩=some (.bool fb):=by
 unfold VrAt at h
 refine⟨(Array.getElem?_eq_some_iff.1 h).1,fun i=>?_,?_,?_,?_,?_⟩<;>simp[World.cell?,World.frozen?,h]
theorem VrAt.lt {w:World} {g:Nat} {t:ByteArray} {n:Int} {pv:Value} {fb:Bool} (h:VrAt w g t n pv fb):g<w.heap.size:=h.facts.1
theorem VrAt.of_block {w w':World} {g:Nat} {t:ByteArray} {n:Int} {pv:Value} {fb:Bool} (h:VrAt w g t n pv fb) (e:w'.heap[g]?=w.heap[g]?):VrAt w' g t n pv fb:=by
 unfold VrAt at *;rw[e];exact h
theorem VrAt.below {w w':World} {g:Nat} {t:ByteArray} {n:Int} {pv:Value} {fb:Bool} (h:VrAt w g t n pv fb) (hb:Below w.heap.size w w'):VrAt w' g t n pv fb:=h.of_block (hb.block g h.lt)
theorem VrAt.alloc {w:World} {g:Nat} {t:ByteArray} {n:Int} {pv:Value} {fb:Bool} (h:VrAt w g t n pv fb) (o:Obj):VrAt (w.alloc o) g t n pv fb:=h.of_block (Below.heap_alloc _ _ _ h.lt)
theorem VrAt.setT {w:World} {g:Nat} {t:ByteArray} {n:Int} {pv:Value} {fb:Bool} (h:VrAt w g t n pv fb) (t':ByteArray):VrAt (w.setCell ⟨g,0,none⟩ (.string t')) g t' n pv fb:=by
 unfold VrAt at *;rw[setCell_block h];rfl
theorem VrAt.setN {w:World} {g:Nat} {t:ByteArray} {n:Int} {pv:Value} {fb:Bool} (h:VrAt w g t n pv fb) (n':Int):VrAt (w.setCell ⟨g,1,none⟩ (.int .i64 n')) g t n' pv fb:=by
 unfold VrAt at *;rw[setCell_block h];rfl
theorem VrAt.setP {w:World} {g:Nat} {t:ByteArray} {n:Int} {pv:Value} {fb:Bool} (h:VrAt w g t n pv fb) (p':Value):VrAt (w.setCell ⟨g,2,none⟩ p') g t n p' fb:=by
 unfold VrAt at *;rw[setCell_block h];rfl
def PureAt (w:World) (pv:Value) (fb:Bool) (pr:Int→Bool):Prop :=
 (fb=false∧∀ v,pr v=false)∨(fb=true∧∃ gp cp,pv=.slice (some ⟨gp,0,none⟩) 3 cp∧gp<w.heap.size∧∀ v:Nat,v<3→w.cell? ⟨gp,v,none⟩=some (.bool (pr v)))
def VR (w:World) (g:Nat) (tx:ByteArray) (lb:Int) (pv:Value) (fb:Bool) (pr:Int→Bool) (l:List R.Tree) (n:Nat) (i:Value) (wr:World):Prop :=
 ∃ (k:Nat) (u:ByteArray),k≤n∧i=.int .i64 k∧VrAt wr g u (R.textP pr lb (l.take k)).2 pv fb∧u.toList=tx.toList++(R.textP pr lb (l.take k)).1∧(u.size:Int)≤tx.size+60000*R.sizeL (l.take k)∧w.grownBy wr (some g)
set_option maxRecDepth 1000000 in
def VI (c0 c1 c2 c3:Value) (w:World) (g:Nat) (tx:ByteArray) (lb:Int) (pv:Value) (fb:Bool) (pr:Int→Bool) (l:List R.Tree) (n:Nat) (a:Act) (w':World):Prop :=
 ∃ i u5 u6 u7 u8 u9 Za Zl Zw ZH ZS Z3 Ye Yp YA YL YW Y7 Xi Xt XE XP XX XY XZ X0 X1 X2 X3 X4 X5 X6 X7 X8 X9 Wa Wb Wc Wd We Wf Wg Wh Wi Wj Wk Wl Wm Wn Wo Wp Wq Wr Ws Wt Wu Wv Ww Wx Wy Wz WA WB WC WD WE WF WG WH WI WJ WK WL WM WN WO WP WQ WR WS WT WU WV WW WX WY WZ W0 W1 W2 W3 W4 W5 W6 W7 W8 Zb Zc Zd Ze Zf Zg Zh Zi Zj Zk Zm Zn Zo Zp Zq Zr Zs Zt Zu Zv Zx Zy Zz ZA ZB ZC ZD ZE ZF ZG ZI ZJ ZK ZL ZM ZN ZO ZP ZQ ZR ZT ZU ZV ZW ZX ZY ZZ Z0 Z1 Z2 Z4 Z5 Z6 Z7 Z8 Z9 Ya Yb Yc Yd Yf Yg Yh Yi Yj Yk Yl Ym Yn Yo Yq Yr Ys Yt Yu Yv Yw Yx Yy Yz YB YC YD YE YF YG YH YI YJ YK YM YN YO YP YQ YR YS YT YU YV YX YY YZ Y0 Y1 Y2 Y3 Y4 Y5 Y6 Y8 Y9 Xa Xb Xc Xd Xe Xf Xg Xh Xj Xk Xl Xm Xn Xo Xp Xq Xr Xs Xu Xv Xw Xx Xy Xz XA XB XC XD XF XG XH XI XJ XK XL XM XN XO XQ XR XS XT XU XV XW:Value,VR w g tx lb pv fb pr l n i w'∧a=⟨#[c0,c1,c2,c3,i,u5,u6,u7,u8,u9,Za,Zl,Zw,ZH,ZS,Z3,Ye,Yp,YA,YL,YW,Y7,Xi,Xt,XE,XP,XX,XY,XZ,X0,X1,X2,X3,X4,X5,X6,X7,X8,X9,Wa,Wb,Wc,Wd,We,Wf,Wg,Wh,Wi,Wj,Wk,Wl,Wm,Wn,Wo,Wp,Wq,Wr,Ws,Wt,Wu,Wv,Ww,Wx,Wy,Wz,WA,WB,WC,WD,WE,WF,WG,WH,WI,WJ,WK,WL,WM,WN,WO,WP,WQ,WR,WS,WT,WU,WV,WW,WX,WY,WZ,W0,W1,W2,W3,W4,W5,W6,W7,W8,Zb,Zc,Zd,Ze,Zf,Zg,Zh,Zi,Zj,Zk,Zm,Zn,Zo,Zp,Zq,Zr,Zs,Zt,Zu,Zv,Zx,Zy,Zz,ZA,ZB,ZC,ZD,ZE,ZF,ZG,ZI,ZJ,ZK,ZL,ZM,ZN,ZO,ZP,ZQ,ZR,ZT,ZU,ZV,ZW,ZX,ZY,ZZ,Z0,Z1,Z2,Z4,Z5,Z6,Z7,Z8,Z9,Ya,Yb,Yc,Yd,Yf,Yg,Yh,Yi,Yj,Yk,Yl,Ym,Yn,Yo,Yq,Yr,Ys,Yt,Yu,Yv,Yw,Yx,Yy,Yz,YB,YC,YD,YE,YF,YG,YH,YI,YJ,YK,YM,YN,YO,YP,YQ,YR,YS,YT,YU,YV,YX,YY,YZ,Y0,Y1,Y2,Y3,Y4,Y5,Y6,Y8,Y9,Xa,Xb,Xc,Xd,Xe,Xf,Xg,Xh,Xj,Xk,Xl,Xm,Xn,Xo,Xp,Xq,Xr,Xs,Xu,Xv,Xw,Xx,Xy,Xz,XA,XB,XC,XD,XF,XG,XH,XI,XJ,XK,XL,XM,XN,XO,XQ,XR,XS,XT,XU,XV,XW],[]⟩
def VM (n:Nat) (a:Act) (_:World):Nat:=n-(intOf (a.tmps.getD 4 undef)).toNat
structure VC (w wr:World) (g:Nat) (tx:ByteArray) (lb:Int) (pv:Value) (fb:Bool) (pr:Int→Bool) (l:List R.Tree) (n k:Nat) (u:ByteArray) (lk:Int) (b:Nat) (uv:Value) (t:R.Tree):Prop where
 hlt:k<n
 hn:n<10000
 ts:R.textP pr lb (l.take (k+1))=((R.textP pr lb (l.take k)).1++(R.textPT pr lk t).1,(R.textPT pr lk t).2)
 zs:R.sizeL (l.take (k+1))=R.sizeL (l.take k)+(1+R.sizeL t.body)
 hx:∀ w2:World,wr.grownBy w2 (some g)→w2.cell? ⟨b,k*9,none⟩=some (.string t.x.op)∧w2.cell? ⟨b,k*9+1,none⟩=some (.int .i64 t.x.reg)∧w2.cell? ⟨b,k*9+2,none⟩=some (.int .i64 t.x.var)∧w2.cell? ⟨b,k*9+3,none⟩=some (.int .i64 t.x.a)∧w2.cell? ⟨b,k*9+4,none⟩=some (.int .i64 t.x.b) ∧
   w2.cell? ⟨b,k*9+5,none⟩=some (.string t.x.sign)∧w2.cell? ⟨b,k*9+6,none⟩=some (.string t.x.ord)∧w2.cell? ⟨b,k*9+7,none⟩=some (.string t.x.scope)∧w2.cell? ⟨b,k*9+8,none⟩=some uv
 hw:VrAt wr g u lk pv fb
 hu:u.toList=tx.toList++(R.textP pr lb (l.take k)).1
 hz:(u.size:Int)≤tx.size+60000*R.sizeL (l.take k)
 hgr:w.grownBy wr (some g)
 lk0:0≤lk
 lk1:lk+(1+R.sizeL t.body)<90
 us:(u.size:Int)+60000*(1+R.sizeL t.body)<1000000000
 fit:R.Fit t.x
 hbg:b≠g
 hblt:b<wr.heap.size
 hp:∀ w2:World,wr.grownBy w2 (some g)→PureAt w2 pv fb pr
theorem VC.next {w wr:World} {g:Nat} {tx:ByteArray} {lb:Int} {pv:Value} {fb:Bool} {pr:Int→Bool} {l:List R.Tree} {n k:Nat} {u:ByteArray} {lk:Int} {b:Nat} {uv:Value} {t:R.Tree} (h:VC w wr g tx lb pv fb pr l n k u lk b uv t) {w2:World} {u2:ByteArray} (hw:VrAt w2 g u2 (R.textPT pr lk t).2 pv fb) (ht:u2.toList=u.toList++(R.textPT pr lk t).1) (hz:(u2.size:Int)≤u.size+60000*(1+R.sizeL t.body)) (hg:wr.grownBy w2 (some g)) :
  VR w g tx lb pv fb pr l n (.int .i64 ((k:Int)+1)) w2:=by
 refine⟨k+1,u2,h.hlt,by go_num,by rw[h.ts];exact hw,by rw[h.ts,ht,h.hu,List.append_assoc],?_,grown_trans h.hgr hg⟩
 have:=h.hz
 rw[h.zs];omega
theorem VC.facts {w wr:World} {g:Nat} {tx:ByteArray} {lb:Int} {pv:Value} {fb:Bool} {pr:Int→Bool} {l:List R.Tree} {n k:Nat} {u:ByteArray} {lk:Int} {b:Nat} {uv:Value} {t:R.Tree} (h:VC w wr g tx lb pv fb pr l n k u lk b uv t) {w2:World} (hb:Below wr.heap.size wr w2) :
  w2.cell? ⟨b,k*9,none⟩=some (.string t.x.op)∧w2.cell? ⟨b,k*9+1,none⟩=some (.int .i64 t.x.reg)∧w2.cell? ⟨b,k*9+2,none⟩=some (.int .i64 t.x.var)∧w2.cell? ⟨b,k*9+3,none⟩=some (.int .i64 t.x.a)∧w2.cell? ⟨b,k*9+4,none⟩=some (.int .i64 t.x.b) ∧
   w2.cell? ⟨b,k*9+5,none⟩=some (.string t.x.sign)∧w2.cell? ⟨b,k*9+6,none⟩=some (.string t.x.ord)∧w2.cell? ⟨b,k*9+7,none⟩=some (.string t.x.scope)∧w2.cell? ⟨b,k*9+8,none⟩=some uv∧VrAt w2 g u lk pv fb∧g<w2.heap.size∧w2.frozen? ⟨g,0,none⟩=false∧w2.cell? ⟨g,0,none⟩=some (.string u)∧w2.cell? ⟨g,1,none⟩=some (.int .i64 lk)∧w2.cell? ⟨g,2,none⟩=some pv∧w2.cell? ⟨g,3,none⟩=some (.bool fb):=by
 obtain⟨d0,d1,d2,d3,d4,d5,d6,d7,d8⟩:=h.hx w2 (grown_of_below hb _)
 have hw:=h.hw.below hb
 obtain⟨e1,e2,e3,e4,e5,e6⟩:=hw.facts
 exact⟨d0,d1,d2,d3,d4,d5,d6,d7,d8,hw,e1,e2 0,e3,e4,e5,e6⟩
theorem VC.pure {w wr:World} {g:Nat} {tx:ByteArray} {lb:Int} {pv:Value} {fb:Bool} {pr:Int→Bool} {l:List R.Tree} {n k:Nat} {u:ByteArray} {lk:Int} {b:Nat} {uv:Value} {t:R.Tree} (h:VC w wr g tx lb pv fb pr l n k u lk b uv t) {w2:World} (hb:Below wr.heap.size wr w2):PureAt w2 pv fb pr:=h.hp w2 (grown_of_below hb _)
set_option maxRecDepth 1000000 in
set_option maxHeartbeats 12800000 in
theorem VlPreP (w wr:World) (g:Nat) (tx:ByteArray) (lb:Int) (pv:Value) (fb:Bool) (pr:Int→Bool) (l:List R.Tree) (n k:Nat) (u:ByteArray) (lk:Int) (b sc:Nat) (uv:Value) (t:R.Tree) (H:Hid (VC w wr g tx lb pv fb pr l n k u lk b uv t)) (hv0:0≤t.x.var) (HF:R.fenB pr t.x=false) (Q:Exit→Act→World→Prop) (c2 c3 u5 u6 u7 u8 u9 Za Zl Zw ZH ZS Z3 Ye Yp YA YL YW Y7 Xi Xt XE XP XX XY XZ X0 X1 X2 X3 X4 X5 X6 X7 X8 X9 Wa Wb Wc Wd We Wf Wg Wh Wi Wj Wk Wl Wm Wn Wo Wp Wq Wr Ws Wt Wu Wv Ww Wx Wy Wz WA WB WC WD WE WF WG WH WI WJ WK WL WM WN WO WP WQ WR WS WT WU WV WW WX WY WZ W0 W4 W5 W6 W7 W8 W9 Va Vb Zb Zc Zd Ze Zf Zg Zh Zi Zj Zk Zm Zn Zo Zp Zq Zr Zs Zt Zu Zv Zx Zy Zz ZA ZB ZC ZD ZE ZF ZG ZI ZJ ZK ZL ZM ZN ZO ZP ZQ ZR ZT ZU ZV ZW ZX ZY ZZ Z0 Z1 Z2 Z4 Z5 Z6 Z7 Z8 Z9 Ya Yb Yc Yd Yf Yg Yh Yi Yj Yk Yl Ym Yn Yo Yq Yr Ys Yt Yu Yv Yw Yx Yy Yz YB YC YD YE YF YG YH YI YJ YK YM YN YO YP YQ YR YS YT YU YV YX YY YZ Y0 Y1 Y2 Y3 Y4 Y5 Y6 Y8 Y9 Xa Xb Xc Xd Xe Xf Xg Xh Xj Xk Xl Xm Xn Xo Xp Xq Xr Xs Xu Xv Xw Xx Xy Xz XA XB XC XD XF XG XH XI XJ XK XL XM XN XO XQ XR XS XT XU XV XW:Value)
  (hK:Hid (∀ (so sh sq sr sa sb se st:ByteArray) (w3:World) (VG Ub Um Ux UI UT U4 Tf Tq TB TM TU TV TW TX TY TZ T0 T1 T2 T3 T4 T5 T6 T7 T8 T9 Sa Sb Sc Sd Se Sf Sg Sh Si Sj Sk Sl Sm Sn So Sp Sq Sr Ss St Su Sv Sw Sx Sy Sz SA SB SC SD SE SF SG SH SI SJ SK SL SM SN SO SP SQ SR SS ST SU SV SW SX SY SZ S0 S1 S2 S3 S4 S5 Vc Vd Ve Vf Vg Vh Vi Vj Vk Vl Vm Vn Vo Vp Vq Vr Vs Vt Vu Vv Vw Vx Vy Vz VA VB VD VE VF VH VI VJ VK VL VM VN VO VP VQ VR VS VT VU VV VW VX VY VZ V0 V1 V2 V3 V4 V5 V6 V7 V8 V9 Ua Uc Ud Ue Uf Ug Uh Ui Uj Uk Ul Un Uo Up Uq Ur Us Ut Uu Uv Uw Uy Uz UA UB UC UD UE UF UG UH UJ UK UL UM UN UO UP UQ UR US UU UV UW UX UY UZ U0 U1 U2 U3 U5 U6 U7 U8 U9 Ta Tb Tc Td Te Tg Th Ti Tj Tk Tl Tm Tn To Tp Tr Ts Tt Tu Tv Tw Tx Ty Tz TA TC TD TE TF TG TH TI TJ TK TL TN TO TP TQ TR TS TT:Value),Txt 20000 sh (R.aheadT pr t.x)→Txt 20000 sq (R.behindT pr t.x)→Txt 4 sr (R.regT t.x)→Txt 4 sa (R.shown t.x.a)→Txt 4 sb (R.shown t.x.b)→Txt 3 se (R.celT t.x.var)→Txt 10000 st (R.scopd (R.ordX pr t.x).toList t.x.scope.toList)→Below wr.heap.size wr w3→wpL Tryz.prog [(stmOf (inOf (stmOf (bodyOf Tryz.f22) 2)) 15),(stmOf (inOf (stmOf (bodyOf Tryz.f22) 2)) 16)] Q ⟨#[.pointer (some ⟨g,0,none⟩),.slice (some ⟨b,0,none⟩) n sc,c2,c3,.int .i64 (k:Int),.pointer (some ⟨b,k*9,none⟩),.string sr,.string sa,.string sb,.string se,.string so,.string sh,.string sq,VG,.string st,.string ⟨#[]⟩,Ub,Um,Ux,UI,UT,U4,Tf,Tq,TB,TM,TU,TV,TW,TX,TY,TZ,T0,T1,T2,T3,T4,T5,T6,T7,T8,T9,Sa,Sb,Sc,Sd,Se,Sf,Sg,Sh,Si,Sj,Sk,Sl,Sm,Sn,So,Sp,Sq,Sr,Ss,St,Su,Sv,Sw,Sx,Sy,Sz,SA,SB,SC,SD,SE,SF,SG,SH,SI,SJ,SK,SL,SM,SN,SO,SP,SQ,SR,SS,ST,SU,SV,SW,SX,SY,SZ,S0,S1,S2,S3,S4,S5,Vc,Vd,Ve,Vf,Vg,Vh,Vi,Vj,Vk,Vl,Vm,Vn,Vo,Vp,Vq,Vr,Vs,Vt,.string t.x.op,Vu,Vv,Vw,Vx,Vy,Vz,VA,VB,VD,VE,VF,VH,VI,VJ,VK,VL,VM,VN,VO,VP,VQ,VR,VS,VT,VU,VV,VW,VX,VY,VZ,V0,V1,V2,V3,V4,V5,V6,V7,V8,V9,Ua,Uc,Ud,Ue,Uf,Ug,Uh,Ui,Uj,Uk,Ul,Un,Uo,Up,Uq,Ur,Us,Ut,Uu,Uv,Uw,Uy,Uz,UA,UB,UC,UD,UE,UF,UG,UH,UJ,UK,UL,UM,UN,UO,UP,UQ,UR,US,UU,UV,UW,UX,UY,UZ,U0,U1,U2,U3,U5,U6,U7,U8,U9,Ta,Tb,Tc,Td,Te,Tg,Th,Ti,Tj,Tk,Tl,Tm,Tn,To,Tp,Tr,Ts,Tt,Tu,Tv,Tw,Tx,Ty,Tz,TA,TC,TD,TE,TF,TG,TH,TI,TJ,TK,TL,TN,TO,TP,TQ,TR,TS,TT],[]⟩ w3)) :
  wpL Tryz.prog [(stmOf (inOf (stmOf (bodyOf Tryz.f22) 2)) 0),(stmOf (inOf (stmOf (bodyOf Tryz.f22) 2)) 1),(stmOf (inOf (stmOf (bodyOf Tryz.f22) 2)) 2),(stmOf (inOf (stmOf (bodyOf Tryz.f22) 2)) 3),(stmOf (inOf (stmOf (bodyOf Tryz.f22) 2)) 4),(stmOf (inOf (stmOf (bodyOf Tryz.f22) 2)) 5),(stmOf (inOf (stmOf (bodyOf Tryz.f22) 2)) 6),(stmOf (inOf (stmOf (bodyOf Tryz.f22) 2)) 7),(stmOf (inOf (stmOf (bodyOf Tryz.f22) 2)) 8),(stmOf (inOf (stmOf (bodyOf Tryz.f22) 2)) 9),(stmOf (inOf (stmOf (bodyOf Tryz.f22) 2)) 10),(stmOf (inOf (stmOf (bodyOf Tryz.f22) 2)) 11),(stmOf (inOf (stmOf (bodyOf Tryz.f22) 2)) 12),(stmOf (inOf (stmOf (bodyOf Tryz.f22) 2)) 13),(stmOf (inOf (stmOf (bodyOf Tryz.f22) 2)) 14),(stmOf (inOf (stmOf (bodyOf Tryz.f22) 2)) 15),(stmOf (inOf (stmOf (bodyOf Tryz.f22) 2)) 16)] Q ⟨#[.pointer (some ⟨g,0,none⟩),.slice (some ⟨b,0,none⟩) n sc,c2,c3,.int .i64 (k:Int),u5,u6,u7,u8,u9,Za,Zl,Zw,ZH,ZS,Z3,Ye,Yp,YA,YL,YW,Y7,Xi,Xt,XE,XP,XX,XY,XZ,X0,X1,X2,X3,X4,X5,X6,X7,X8,X9,Wa,Wb,Wc,Wd,We,Wf,Wg,Wh,Wi,Wj,Wk,Wl,Wm,Wn,Wo,Wp,Wq,Wr,Ws,Wt,Wu,Wv,Ww,Wx,Wy,Wz,WA,WB,WC,WD,WE,WF,WG,WH,WI,WJ,WK,WL,WM,WN,WO,WP,WQ,WR,WS,WT,WU,WV,WW,WX,WY,WZ,W0,W4,W5,W6,W7,W8,W9,Va,Vb,Zb,Zc,Zd,Ze,Zf,Zg,Zh,Zi,Zj,Zk,Zm,Zn,Zo,Zp,Zq,Zr,Zs,Zt,Zu,Zv,Zx,Zy,Zz,ZA,ZB,ZC,ZD,ZE,ZF,ZG,ZI,ZJ,ZK,ZL,ZM,ZN,ZO,ZP,ZQ,ZR,ZT,ZU,ZV,ZW,ZX,ZY,ZZ,Z0,Z1,Z2,Z4,Z5,Z6,Z7,Z8,Z9,Ya,Yb,Yc,Yd,Yf,Yg,Yh,Yi,Yj,Yk,Yl,Ym,Yn,Yo,Yq,Yr,Ys,Yt,Yu,Yv,Yw,Yx,Yy,Yz,YB,YC,YD,YE,YF,YG,YH,YI,YJ,YK,YM,YN,YO,YP,YQ,YR,YS,YT,YU,YV,YX,YY,YZ,Y0,Y1,Y2,Y3,Y4,Y5,Y6,Y8,Y9,Xa,Xb,Xc,Xd,Xe,Xf,Xg,Xh,Xj,Xk,Xl,Xm,Xn,Xo,Xp,Xq,Xr,Xs,Xu,Xv,Xw,Xx,Xy,Xz,XA,XB,XC,XD,XF,XG,XH,XI,XJ,XK,XL,XM,XN,XO,XQ,XR,XS,XT,XU,XV,XW],[]⟩ wr:=by
 have hlt:=H.out.hlt
 have hn:=H.out.hn
 have hin:(k:Int)<(n:Int):=by omega
 obtain⟨r0,r1,v0,v1,a0,a1,b0,b1,os,ss⟩:=H.out.fit.ok
 have hbg:=H.out.hbg
 have hblt:=H.out.hblt
 have hw0:=H.out.hw
 obtain⟨glt,gfr,g0,g1,g2,g3⟩:=hw0.facts
 obtain⟨d0,d1,d2,d3,d4,d5,d6,d7,d8⟩:=H.out.hx wr (grown_refl _ _)
 clear hw0 d0 d2 d3 d4 d5 d6 d7 d8 g0 g1 g2 g3 gfr
 have hsl:∀ w,(Instr.slice 9 (.string ⟨#[120,121,122]⟩) (some (.int .i64 t.x.var)) (some (.int .i64 (t.x.var+1))) none).run Tryz.prog w=.ok (.string ((⟨#[120,121,122]⟩:ByteArray).extract t.x.var.toNat (t.x.var+1).toNat)) w:=fun w =>
  run_slice_string w 9 ⟨#[120,121,122]⟩ .i64 .i64 _ _ Tryz.underlying9 (by omega) (by omega) (by simp[lit_size];omega)
 have hce:=hide (cel_xyz t.x.var hv0 v1)
 have hex:((⟨#[120,121,122]⟩:ByteArray).extract t.x.var.toNat (t.x.var+1).toNat).size≤3:=by simp[ByteArray.size_extract,lit_size];omega
 have hvd:decide (0≤t.x.var)=true:=by simpa using hv0
 have HNF:=hide (R.no_fence pr t.x HF)
 have HFB:=hide HF
 clear HF
 dsimp only
 refine wpL_step (fun K hK=>?_)
 have HK:=hide hK
 clear hK
 conv=>arg 2;whnf
 go_wp2_with fail
 refine HK.out _ _ ?_
 clear HK
 refine wpL_step (fun K hK=>?_)
 have HK:=hide hK
 clear hK
 conv=>arg 2;whnf
 go_wp2_with (first | (go_at_call 41;refine (shown_any (-1-t.x.reg) _ (by omega) (by omega)).mono ?_;rintro e w1 ⟨sr,rfl,hsr,B1⟩;have zr:=hsr.size;obtain⟨d0,d1,d2,d3,d4,d5,d6,d7,d8,W1,glt,gfr,g0,g1,g2,g3⟩:=H.out.facts B1;clear d0 d1 d2 d4 d5 d6 d7 d8 g0 g1 g2 g3 W1;dsimp only))
 refine HK.out _ _ ?_
 clear HK
 refine wpL_step (fun K hK=>?_)
 have HK:=hide hK
 clear hK
 conv=>arg 2;whnf
 go_wp2_with (first | (go_at_call 41;refine (shown_any t.x.a _ (by omega) (by omega)).mono ?_;rintro e w2 ⟨sa,rfl,hsa,hb2⟩;have za:=hsa.size;have B2:=B1.trans (hb2.mono B1.size);obtain⟨d0,d1,d2,d3,d4,d5,d6,d7,d8,W2,glt,gfr,g0,g1,g2,g3⟩:=H.out.facts B2;clear d0 d1 d2 d3 d5 d6 d7 d8 g0 g1 g2 g3 W2;dsimp only))
 refine HK.out _ _ ?_
 clear HK
 refine wpL_step (fun K hK=>?_)
 have HK:=hide hK
 clear hK
 conv=>arg 2;whnf
 go_wp2_with (first | (go_at_call 41;refine (shown_any t.x.b _ (by omega) (by omega)).mono ?_;rintro e w3 ⟨sb,rfl,hsb,hb3⟩;have zb:=hsb.size;have B3:=B2.trans (hb3.mono B2.size);obtain⟨d0,d1,d2,d3,d4,d5,d6,d7,d8,W3,glt,gfr,g0,g1,g2,g3⟩:=H.out.facts B3;clear W3;dsimp only))
 refine HK.out _ _ ?_
 clear HK
 refine wpL_step (fun K hK=>?_)
 have HK:=hide hK
 clear hK
 conv=>arg 2;whnf
 go_wp2_with fail
 refine HK.out _ _ ?_
 clear HK
 refine wpL_step (fun K hK=>?_)
 have HK:=hide hK
 clear hK
 conv=>arg 2;whnf
 go_wp2_with fail
 refine HK.out _ _ ?_
 clear HK
 refine wpL_step (fun K hK=>?_)
 have HK:=hide hK
 clear hK
 conv=>arg 2;whnf
 go_wp2_with fail
 go_quiet (fail)
 go_wp2_with fail
 refine HK.out _ _ ?_
 clear HK
 refine wpL_step (fun K hK=>?_)
 have HK:=hide hK
 clear hK
 conv=>arg 2;whnf
 go_wp2_with fail
 refine HK.out _ _ ?_
 clear HK
 refine wpL_step (fun K hK=>?_)
 have HK:=hide hK
 clear hK
 conv=>arg 2;whnf
 go_wp2_with fail
 refine HK.out _ _ ?_
 clear HK
 refine wpL_step (fun K hK=>?_)
 have HK:=hide hK
 clear hK
 conv=>arg 2;whnf
 go_wp2_with fail
 refine HK.out _ _ ?_
 clear HK
 have HP:=H.out.pure B3
 have HCS:fb=false∨∃ gp cp,pv=.slice (some ⟨gp,0,none⟩) 3 cp∧fb=true∧gp<w3.heap.size∧((w3.cell? ⟨gp,t.x.var.toNat,none⟩=some (.bool false))∨(w3.cell? ⟨gp,t.x.var.toNat,none⟩=some (.bool true)∧((t.x.ord.toList==[119,101,97,107])=true∨((t.x.ord.toList==[119,101,97,107])=false∧(t.x.ord.toList==[114,101,108,97,120,101,100])=true)))):=by
  rcases HP with ⟨h1,_⟩ | ⟨h1,gp,cp,h2,h3,h4⟩
  ·exact Or.inl h1
  ·refine Or.inr ⟨gp,cp,h2,h1,h3,?_⟩
   have h5:=h4 t.x.var.toNat (by omega)
   rw[show ((t.x.var.toNat:Nat):Int)=t.x.var by omega] at h5
   have h6:=HFB.out
   unfold R.fenB at h6
   rw[hvd] at h6
   cases hq:pr t.x.var
   ·rw[hq] at h5;exact Or.inl h5
   ·rw[hq] at h5 h6
    refine Or.inr ⟨h5,?_⟩
    cases hw:(t.x.ord.toList==oW)
    ·simp only[bne,hw,Bool.not_false,Bool.and_true,Bool.true_and,Bool.not_eq_false'] at h6
     exact Or.inr ⟨hw,h6⟩
    ·exact Or.inl hw
 clear HP
 rcases HCS with rfl | ⟨gp,cp,rfl,rfl,hgp,hpc | ⟨hpc,how | ⟨how,hor⟩⟩⟩
 all_goals
  refine wpL_step (fun K hK=>?_)
  have HK:=hide hK
  clear hK
  conv=>arg 2;whnf
  go_quiet (fail)
  go_wp2_with fail
  refine HK.out _ _ ?_
  clear HK
  refine wpL_step (fun K hK=>?_)
  have HK:=hide hK
  clear hK
  conv=>arg 2;whnf
  go_wp2_with fail
  refine HK.out _ _ ?_
  clear HK
  refine wpL_step (fun K hK=>?_)
  have HK:=hide hK
  clear hK
  conv=>arg 2;whnf
  go_wp2_with (first | (go_at_call 42;refine (scoped_any t.x.ord t.x.scope _ os ss).mono ?_;rintro e w4 ⟨st,rfl,hst,rfl⟩;have zs:=hst.size;dsimp only))
  refine HK.out _ _ ?_
  clear HK
  refine wpL_step (fun K hK=>?_)
  have HK:=hide hK
  clear hK
  conv=>arg 2;whnf
  go_wp2_with fail
  refine HK.out _ _ ?_
  clear HK
  refine wpL_step (fun K hK=>?_)
  have HK:=hide hK
  clear hK
  conv=>arg 2;whnf
  go_wp2_with fail
  refine HK.out _ _ ?_
  clear HK
  refine hK.out t.x.ord ⟨#[]⟩ ⟨#[]⟩ sr sa sb _ st _ _ _ _ _ _ _ _ _ _ _ _ _ _ _ _ _ _ _ _ _ _ _ _ _ _ _ _ _ _ _ _ _ _ _ _ _ _ _ _ _ _ _ _ _ _ _ _ _ _ _ _ _ _ _ _ _ _ _ _ _ _ _ _ _ _ _ _ _ _ _ _ _ _ _ _ _ _ _ _ _ _ _ _ _ _ _ _ _ _ _ _ _ _ _ _ _ _ _ _ _ _ _ _ _ _ _ _ _ _ _ _ _ _ _ _ _ _ _ _ _ _ _ _ _ _ _ _ _ _ _ _ _ _ _ _ _ _ _ _ _ _ _ _ _ _ _ _ _ _ _ _ _ _ _ _ _ _ _ _ _ _ _ _ _ _ _ _ _ _ _ _ _ _ _ _ _ _ _ _ _ _ _ _ _ _ _ _ _ _ _ _ _ _ _ _ _ _ _ _ _ _ _ _ _ _ _ _ _ _ _ _ _ _ _ _ _ _ _ _ _ _ _ _ _ _ _ _ _ _ _ _ _ _ _ _ _ _ _ _ _ _ ⟨by rw[HNF.out.1,lit_toList],by simp[lit_size]⟩ ⟨by rw[HNF.out.2.1,lit_toList],by simp[lit_size]⟩ hsr hsa hsb hce.out (by rw[HNF.out.2.2];exact hst) (below_same B3 rfl rfl rfl rfl)
set_option maxRecDepth 1000000 in
set_option maxHeartbeats 12800000 in
theorem VlPreN (w wr:World) (g:Nat) (tx:ByteArray) (lb:Int) (pv:Value) (fb:Bool) (pr:Int→Bool) (l:List R.Tree) (n k:Nat) (u:ByteArray) (lk:Int) (b sc:Nat) (uv:Value) (t:R.Tree) (H:Hid (VC w wr g tx lb pv fb pr l n k u lk b uv t)) (hv0:¬ 0≤t.x.var) (Q:Exit→Act→World→Prop) (c2 c3 u5 u6 u7 u8 u9 Za Zl Zw ZH ZS Z3 Ye Yp YA YL YW Y7 Xi Xt XE XP XX XY XZ X0 X1 X2 X3 X4 X5 X6 X7 X8 X9 Wa Wb Wc Wd We Wf Wg Wh Wi Wj Wk Wl Wm Wn Wo Wp Wq Wr Ws Wt Wu Wv Ww Wx Wy Wz WA WB WC WD WE WF WG WH WI WJ WK WL WM WN WO WP WQ WR WS WT WU WV WW WX WY WZ W0 W4 W5 W6 W7 W8 W9 Va Vb Zb Zc Zd Ze Zf Zg Zh Zi Zj Zk Zm Zn Zo Zp Zq Zr Zs Zt Zu Zv Zx Zy Zz ZA ZB ZC ZD ZE ZF ZG ZI ZJ ZK ZL ZM ZN ZO ZP ZQ ZR ZT ZU ZV ZW ZX ZY ZZ Z0 Z1 Z2 Z4 Z5 Z6 Z7 Z8 Z9 Ya Yb Yc Yd Yf Yg Yh Yi Yj Yk Yl Ym Yn Yo Yq Yr Ys Yt Yu Yv Yw Yx Yy Yz YB YC YD YE YF YG YH YI YJ YK YM YN YO YP YQ YR YS YT YU YV YX YY YZ Y0 Y1 Y2 Y3 Y4 Y5 Y6 Y8 Y9 Xa Xb Xc Xd Xe Xf Xg Xh Xj Xk Xl Xm Xn Xo Xp Xq Xr Xs Xu Xv Xw Xx Xy Xz XA XB XC XD XF XG XH XI XJ XK XL XM XN XO XQ XR XS XT XU XV XW:Value)
  (hK:Hid (∀ (so sh sq sr sa sb se st:ByteArray) (w3:World) (VG Ub Um Ux UI UT U4 Tf Tq TB TM TU TV TW TX TY TZ T0 T1 T2 T3 T4 T5 T6 T7 T8 T9 Sa Sb Sc Sd Se Sf Sg Sh Si Sj Sk Sl Sm Sn So Sp Sq Sr Ss St Su Sv Sw Sx Sy Sz SA SB SC SD SE SF SG SH SI SJ SK SL SM SN SO SP SQ SR SS ST SU SV SW SX SY SZ S0 S1 S2 S3 S4 S5 Vc Vd Ve Vf Vg Vh Vi Vj Vk Vl Vm Vn Vo Vp Vq Vr Vs Vt Vu Vv Vw Vx Vy Vz VA VB VD VE VF VH VI VJ VK VL VM VN VO VP VQ VR VS VT VU VV VW VX VY VZ V0 V1 V2 V3 V4 V5 V6 V7 V8 V9 Ua Uc Ud Ue Uf Ug Uh Ui Uj Uk Ul Un Uo Up Uq Ur Us Ut Uu Uv Uw Uy Uz UA UB UC UD UE UF UG UH UJ UK UL UM UN UO UP UQ UR US UU UV UW UX UY UZ U0 U1 U2 U3 U5 U6 U7 U8 U9 Ta Tb Tc Td Te Tg Th Ti Tj Tk Tl Tm Tn To Tp Tr Ts Tt Tu Tv Tw Tx Ty Tz TA TC TD TE TF TG TH TI TJ TK TL TN TO TP TQ TR TS TT:Value),Txt 20000 sh (R.aheadT pr t.x)→Txt 20000 sq (R.behindT pr t.x)→Txt 4 sr (R.regT t.x)→Txt 4 sa (R.shown t.x.a)→Txt 4 sb (R.shown t.x.b)→Txt 3 se (R.celT t.x.var)→Txt 10000 st (R.scopd (R.ordX pr t.x).toList t.x.scope.toList)→Below wr.heap.size wr w3→wpL Tryz.prog [(stmOf (inOf (stmOf (bodyOf Tryz.f22) 2)) 15),(stmOf (inOf (stmOf (bodyOf Tryz.f22) 2)) 16)] Q ⟨#[.pointer (some ⟨g,0,none⟩),.slice (some ⟨b,0,none⟩) n sc,c2,c3,.int .i64 (k:Int),.pointer (some ⟨b,k*9,none⟩),.string sr,.string sa,.string sb,.string se,.string so,.string sh,.string sq,VG,.string st,.string ⟨#[]⟩,Ub,Um,Ux,UI,UT,U4,Tf,Tq,TB,TM,TU,TV,TW,TX,TY,TZ,T0,T1,T2,T3,T4,T5,T6,T7,T8,T9,Sa,Sb,Sc,Sd,Se,Sf,Sg,Sh,Si,Sj,Sk,Sl,Sm,Sn,So,Sp,Sq,Sr,Ss,St,Su,Sv,Sw,Sx,Sy,Sz,SA,SB,SC,SD,SE,SF,SG,SH,SI,SJ,SK,SL,SM,SN,SO,SP,SQ,SR,SS,ST,SU,SV,SW,SX,SY,SZ,S0,S1,S2,S3,S4,S5,Vc,Vd,Ve,Vf,Vg,Vh,Vi,Vj,Vk,Vl,Vm,Vn,Vo,Vp,Vq,Vr,Vs,Vt,.string t.x.op,Vu,Vv,Vw,Vx,Vy,Vz,VA,VB,VD,VE,VF,VH,VI,VJ,VK,VL,VM,VN,VO,VP,VQ,VR,VS,VT,VU,VV,VW,VX,VY,VZ,V0,V1,V2,V3,V4,V5,V6,V7,V8,V9,Ua,Uc,Ud,Ue,Uf,Ug,Uh,Ui,Uj,Uk,Ul,Un,Uo,Up,Uq,Ur,Us,Ut,Uu,Uv,Uw,Uy,Uz,UA,UB,UC,UD,UE,UF,UG,UH,UJ,UK,UL,UM,UN,UO,UP,UQ,UR,US,UU,UV,UW,UX,UY,UZ,U0,U1,U2,U3,U5,U6,U7,U8,U9,Ta,Tb,Tc,Td,Te,Tg,Th,Ti,Tj,Tk,Tl,Tm,Tn,To,Tp,Tr,Ts,Tt,Tu,Tv,Tw,Tx,Ty,Tz,TA,TC,TD,TE,TF,TG,TH,TI,TJ,TK,TL,TN,TO,TP,TQ,TR,TS,TT],[]⟩ w3)) :
  wpL Tryz.prog [(stmOf (inOf (stmOf (bodyOf Tryz.f22) 2)) 0),(stmOf (inOf (stmOf (bodyOf Tryz.f22) 2)) 1),(stmOf (inOf (stmOf (bodyOf Tryz.f22) 2)) 2),(stmOf (inOf (stmOf (bodyOf Tryz.f22) 2)) 3),(stmOf (inOf (stmOf (bodyOf Tryz.f22) 2)) 4),(stmOf (inOf (stmOf (bodyOf Tryz.f22) 2)) 5),(stmOf (inOf (stmOf (bodyOf Tryz.f22) 2)) 6),(stmOf (inOf (stmOf (bodyOf Tryz.f22) 2)) 7),(stmOf (inOf (stmOf (bodyOf Tryz.f22) 2)) 8),(stmOf (inOf (stmOf (bodyOf Tryz.f22) 2)) 9),(stmOf (inOf (stmOf (bodyOf Tryz.f22) 2)) 10),(stmOf (inOf (stmOf (bodyOf Tryz.f22) 2)) 11),(stmOf (inOf (stmOf (bodyOf Tryz.f22) 2)) 12),(stmOf (inOf (stmOf (bodyOf Tryz.f22) 2)) 13),(stmOf (inOf (stmOf (bodyOf Tryz.f22) 2)) 14),(stmOf (inOf (stmOf (bodyOf Tryz.f22) 2)) 15),(stmOf (inOf (stmOf (bodyOf Tryz.f22) 2)) 16)] Q ⟨#[.pointer (some ⟨g,0,none⟩),.slice (some ⟨b,0,none⟩) n sc,c2,c3,.int .i64 (k:Int),u5,u6,u7,u8,u9,Za,Zl,Zw,ZH,ZS,Z3,Ye,Yp,YA,YL,YW,Y7,Xi,Xt,XE,XP,XX,XY,XZ,X0,X1,X2,X3,X4,X5,X6,X7,X8,X9,Wa,Wb,Wc,Wd,We,Wf,Wg,Wh,Wi,Wj,Wk,Wl,Wm,Wn,Wo,Wp,Wq,Wr,Ws,Wt,Wu,Wv,Ww,Wx,Wy,Wz,WA,WB,WC,WD,WE,WF,WG,WH,WI,WJ,WK,WL,WM,WN,WO,WP,WQ,WR,WS,WT,WU,WV,WW,WX,WY,WZ,W0,W4,W5,W6,W7,W8,W9,Va,Vb,Zb,Zc,Zd,Ze,Zf,Zg,Zh,Zi,Zj,Zk,Zm,Zn,Zo,Zp,Zq,Zr,Zs,Zt,Zu,Zv,Zx,Zy,Zz,ZA,ZB,ZC,ZD,ZE,ZF,ZG,ZI,ZJ,ZK,ZL,ZM,ZN,ZO,ZP,ZQ,ZR,ZT,ZU,ZV,ZW,ZX,ZY,ZZ,Z0,Z1,Z2,Z4,Z5,Z6,Z7,Z8,Z9,Ya,Yb,Yc,Yd,Yf,Yg,Yh,Yi,Yj,Yk,Yl,Ym,Yn,Yo,Yq,Yr,Ys,Yt,Yu,Yv,Yw,Yx,Yy,Yz,YB,YC,YD,YE,YF,YG,YH,YI,YJ,YK,YM,YN,YO,YP,YQ,YR,YS,YT,YU,YV,YX,YY,YZ,Y0,Y1,Y2,Y3,Y4,Y5,Y6,Y8,Y9,Xa,Xb,Xc,Xd,Xe,Xf,Xg,Xh,Xj,Xk,Xl,Xm,Xn,Xo,Xp,Xq,Xr,Xs,Xu,Xv,Xw,Xx,Xy,Xz,XA,XB,XC,XD,XF,XG,XH,XI,XJ,XK,XL,XM,XN,XO,XQ,XR,XS,XT,XU,XV,XW],[]⟩ wr:=by
 have hlt:=H.out.hlt
 have hn:=H.out.hn
 have hin:(k:Int)<(n:Int):=by omega
 obtain⟨r0,r1,v0,v1,a0,a1,b0,b1,os,ss⟩:=H.out.fit.ok
 have hbg:=H.out.hbg
 have hblt:=H.out.hblt
 have hw0:=H.out.hw
 obtain⟨glt,gfr,g0,g1,g2,g3⟩:=hw0.facts
 obtain⟨d0,d1,d2,d3,d4,d5,d6,d7,d8⟩:=H.out.hx wr (grown_refl _ _)
 clear hw0 d0 d2 d3 d4 d5 d6 d7 d8 g0 g1 g2 g3 gfr
 have hvd:decide (0≤t.x.var)=false:=by simpa using hv0
 have hce:Hid (Txt 3 (⟨#[]⟩:ByteArray) (R.celT t.x.var)):=⟨by unfold R.celT;rw[if_neg hv0,lit_toList],by simp[lit_size]⟩
 have HF:R.fenB pr t.x=false:=by unfold R.fenB;rw[hvd];rfl
 have HNF:=hide (R.no_fence pr t.x HF)
 have HFB:=hide HF
 clear HF
 dsimp only
 refine wpL_step (fun K hK=>?_)
 have HK:=hide hK
 clear hK
 conv=>arg 2;whnf
 go_wp2_with fail
 refine HK.out _ _ ?_
 clear HK
 refine wpL_step (fun K hK=>?_)
 have HK:=hide hK
 clear hK
 conv=>arg 2;whnf
 go_wp2_with (first | (go_at_call 41;refine (shown_any (-1-t.x.reg) _ (by omega) (by omega)).mono ?_;rintro e w1 ⟨sr,rfl,hsr,B1⟩;have zr:=hsr.size;obtain⟨d0,d1,d2,d3,d4,d5,d6,d7,d8,W1,glt,gfr,g0,g1,g2,g3⟩:=H.out.facts B1;clear d0 d1 d2 d4 d5 d6 d7 d8 g0 g1 g2 g3 W1;dsimp only))
 refine HK.out _ _ ?_
 clear HK
 refine wpL_step (fun K hK=>?_)
 have HK:=hide hK
 clear hK
 conv=>arg 2;whnf
 go_wp2_with (first | (go_at_call 41;refine (shown_any t.x.a _ (by omega) (by omega)).mono ?_;rintro e w2 ⟨sa,rfl,hsa,hb2⟩;have za:=hsa.size;have B2:=B1.trans (hb2.mono B1.size);obtain⟨d0,d1,d2,d3,d4,d5,d6,d7,d8,W2,glt,gfr,g0,g1,g2,g3⟩:=H.out.facts B2;clear d0 d1 d2 d3 d5 d6 d7 d8 g0 g1 g2 g3 W2;dsimp only))
 refine HK.out _ _ ?_
 clear HK
 refine wpL_step (fun K hK=>?_)
 have HK:=hide hK
 clear hK
 conv=>arg 2;whnf
 go_wp2_with (first | (go_at_call 41;refine (shown_any t.x.b _ (by omega) (by omega)).mono ?_;rintro e w3 ⟨sb,rfl,hsb,hb3⟩;have zb:=hsb.size;have B3:=B2.trans (hb3.mono B2.size);obtain⟨d0,d1,d2,d3,d4,d5,d6,d7,d8,W3,glt,gfr,g0,g1,g2,g3⟩:=H.out.facts B3;clear W3;dsimp only))
 refine HK.out _ _ ?_
 clear HK
 refine wpL_step (fun K hK=>?_)
 have HK:=hide hK
 clear hK
 conv=>arg 2;whnf
 go_wp2_with fail
 refine HK.out _ _ ?_
 clear HK
 refine wpL_step (fun K hK=>?_)
 have HK:=hide hK
 clear hK
 conv=>arg 2;whnf
 go_wp2_with fail
 refine HK.out _ _ ?_
 clear HK
 refine wpL_step (fun K hK=>?_)
 have HK:=hide hK
 clear hK
 conv=>arg 2;whnf
 go_wp2_with fail
 refine HK.out _ _ ?_
 clear HK
 refine wpL_step (fun K hK=>?_)
 have HK:=hide hK
 clear hK
 conv=>arg 2;whnf
 go_wp2_with fail
 refine HK.out _ _ ?_
 clear HK
 refine wpL_step (fun K hK=>?_)
 have HK:=hide hK
 clear hK
 conv=>arg 2;whnf
 go_wp2_with fail
 refine HK.out _ _ ?_
 clear HK
 refine wpL_step (fun K hK=>?_)
 have HK:=hide hK
 clear hK
 conv=>arg 2;whnf
 go_wp2_with fail
 refine HK.out _ _ ?_
 clear HK
 refine wpL_step (fun K hK=>?_)
 have HK:=hide hK
 clear hK
 conv=>arg 2;whnf
 go_quiet (fail)
 go_wp2_with fail
 refine HK.out _ _ ?_
 clear HK
 refine wpL_step (fun K hK=>?_)
 have HK:=hide hK
 clear hK
 conv=>arg 2;whnf
 go_wp2_with fail
 refine HK.out _ _ ?_
 clear HK
 refine wpL_step (fun K hK=>?_)
 have HK:=hide hK
 clear hK
 conv=>arg 2;whnf
 go_wp2_with (first | (go_at_call 42;refine (scoped_any t.x.ord t.x.scope _ os ss).mono ?_;rintro e w4 ⟨st,rfl,hst,rfl⟩;have zs:=hst.size;dsimp only))
 refine HK.out _ _ ?_
 clear HK
 refine wpL_step (fun K hK=>?_)
 have HK:=hide hK
 clear hK
 conv=>arg 2;whnf
 go_wp2_with fail
 refine HK.out _ _ ?_
 clear HK
 refine wpL_step (fun K hK=>?_)
 have HK:=hide hK
 clear hK
 conv=>arg 2;whnf
 go_wp2_with fail
 refine HK.out _ _ ?_
 clear HK
 refine hK.out t.x.ord ⟨#[]⟩ ⟨#[]⟩ sr sa sb _ st _ _ _ _ _ _ _ _ _ _ _ _ _ _ _ _ _ _ _ _ _ _ _ _ _ _ _ _ _ _ _ _ _ _ _ _ _ _ _ _ _ _ _ _ _ _ _ _ _ _ _ _ _ _ _ _ _ _ _ _ _ _ _ _ _ _ _ _ _ _ _ _ _ _ _ _ _ _ _ _ _ _ _ _ _ _ _ _ _ _ _ _ _ _ _ _ _ _ _ _ _ _ _ _ _ _ _ _ _ _ _ _ _ _ _ _ _ _ _ _ _ _ _ _ _ _ _ _ _ _ _ _ _ _ _ _ _ _ _ _ _ _ _ _ _ _ _ _ _ _ _ _ _ _ _ _ _ _ _ _ _ _ _ _ _ _ _ _ _ _ _ _ _ _ _ _ _ _ _ _ _ _ _ _ _ _ _ _ _ _ _ _ _ _ _ _ _ _ _ _ _ _ _ _ _ _ _ _ _ _ _ _ _ _ _ _ _ _ _ _ _ _ _ _ _ _ _ _ _ _ _ _ _ _ _ _ _ _ _ _ _ _ ⟨by rw[HNF.out.1,lit_toList],by simp[lit_size]⟩ ⟨by rw[HNF.out.2.1,lit_toList],by simp[lit_size]⟩ hsr hsa hsb hce.out (by rw[HNF.out.2.2];exact hst) (below_same B3 rfl rfl rfl rfl)
end Go.Proofs.YtpkjmdcabdplfaaGreatDoor
