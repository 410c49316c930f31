import Derived.Test.YtpkjmdcabdplfaaGreatDoorB41
set_option linter.unusedVariables false
set_option linter.unusedSimpArgs false
namespace Go.Proofs.YtpkjmdcabdplfaaGreatDoor
open Go Go.RowKit
set_option maxRecDepth 100000
theorem lines_at {w:World} {B b g n cap:Nat} {l:List R.Tree} {vs:List Value} (ho:w.ownsRow B 49 9 (.slice (some ⟨b,0,none⟩) n cap) n (rowLn l vs)) (hn:n=l.length) (hv:vs.length=l.length) (hbg:b≠g) (k:Nat) (hk:k<l.length) (u:Value) (hu:vs[k]?=some u) (wr:World) (hg:w.grownBy wr (some g)) :
  ∀ w2:World,wr.grownBy w2 (some g)→w2.cell? ⟨b,k*9,none⟩=some (.string l[k].x.op)∧w2.cell? ⟨b,k*9+1,none⟩=some (.int .i64 l[k].x.reg)∧w2.cell? ⟨b,k*9+2,none⟩=some (.int .i64 l[k].x.var)∧w2.cell? ⟨b,k*9+3,none⟩=some (.int .i64 l[k].x.a)∧w2.cell? ⟨b,k*9+4,none⟩=some (.int .i64 l[k].x.b) ∧
   w2.cell? ⟨b,k*9+5,none⟩=some (.string l[k].x.sign)∧w2.cell? ⟨b,k*9+6,none⟩=some (.string l[k].x.ord)∧w2.cell? ⟨b,k*9+7,none⟩=some (.string l[k].x.scope)∧w2.cell? ⟨b,k*9+8,none⟩=some u:=by
 intro w2 h2
 have hlt:=(ho.lt b rfl).2
 have hg2:=grown_trans hg h2
 have hb:w2.heap[b]?=w.heap[b]?:=hg2.block b hlt (by simpa using hbg)
 have CE:=LinesAt.line ho hn hv k hk u hu
 have c:∀ j,j<9→w2.cell? ⟨b,k*9+j,none⟩=(lnCells l[k].x u)[j]?:=fun j hj=>(World.cell?_of_block (w:=w) (a:=⟨b,k*9+j,none⟩) hb).trans (CE j hj)
 refine⟨c 0 (by omega),c 1 (by omega),c 2 (by omega),c 3 (by omega),c 4 (by omega),c 5 (by omega),c 6 (by omega),c 7 (by omega),c 8 (by omega)⟩
set_option maxRecDepth 1000000 in
set_option maxHeartbeats 12800000 in
theorem linesV_any {w0:World} {B:Nat} {v:Value} {l:List R.Tree} {F:List Nat} (h:LinesAt w0 B v l F):R.sizeL l<10000→R.okL l→∀ (w:World) (g:Nat) (tx:ByteArray) (lb:Int) (pv:Value) (fb:Bool) (pr:Int→Bool),(∀ k∈F,w.heap[k]?=w0.heap[k]?)→g ∉ F→VrAt w g tx lb pv fb→(∀ w2:World,w.grownBy w2 (some g)→PureAt w2 pv fb pr)→0≤lb→lb+R.sizeL l<90→(tx.size:Int)+60000*R.sizeL l<1000000000 →
  Calls Tryz.prog 22 #[.pointer (some ⟨g,0,none⟩),v] w fun e w'=>e=.returned (.tuple #[])∧w.grownBy w' (some g)∧∃ t',VrAt w' g t' (R.textP pr lb l).2 pv fb∧t'.toList=tx.toList++(R.textP pr lb l).1∧(t'.size:Int)≤tx.size+60000*R.sizeL l:=by
 induction h using LinesAt.ind with
 | @row v l vs Fs ho hv hF hc hnd ih =>
 intro hsz hok w g tx lb pv fb pr hk hgF hwr hpu hlb0 hlb1 htx
 have hbd0:=(LinesAt.row ho hv hF hc hnd).bound
 have hlt:∀ k∈v.ownBlock.toList++Fs.flatten,k<w.heap.size:=fun k hkF=>by
  have h1:=(hbd0 k hkF).2
  have h2:=hk k hkF
  rw[Array.getElem?_eq_getElem h1] at h2
  exact (Array.getElem?_eq_some_iff.1 h2).1
 have how:w.ownsRow B 49 9 v l.length (rowLn l vs):=ownsRow_keep ho (fun k e=>hk k (by simp[e]))
 have hsv:∃ a c,v=.slice a l.length c∧(0<l.length→∃ b,a=some ⟨b,0,none⟩∧b≠g):=by
  rcases how.2 with ⟨e,h0⟩ | ⟨k,c,cur,e,_⟩
  ·exact⟨none,0,by rw[e,h0],fun h=>by omega⟩
  ·refine⟨_,c,e,fun _=>⟨k,rfl,fun ek=>hgF ?_⟩⟩
   rw[e,← ek];simp[Value.ownBlock]
 obtain⟨sa,sc,rfl,hsa⟩:=hsv
 have hlen:=R.size_len l
 have hn:l.length<10000:=by omega
 have HCASE:Hid (∀ (k:Nat) (u:ByteArray) (wr:World),k<l.length→VrAt wr g u (R.textP pr lb (l.take k)).2 pv fb→u.toList=tx.toList++(R.textP pr lb (l.take k)).1→(u.size:Int)≤tx.size+60000*R.sizeL (l.take k)→w.grownBy wr (some g)→∃ (b:Nat) (uv:Value) (t:R.Tree),sa=some ⟨b,0,none⟩∧VC w wr g tx lb pv fb pr l l.length k u (R.textP pr lb (l.take k)).2 b uv t∧(∀ (w2:World) (u2:ByteArray) (lb2:Int),wr.grownBy w2 (some g)→VrAt w2 g u2 lb2 pv fb→0≤lb2→lb2+R.sizeL t.body<90→(u2.size:Int)+60000*R.sizeL t.body<1000000000→Calls Tryz.prog 22 #[.pointer (some ⟨g,0,none⟩),uv] w2 fun e w'=>e=.returned (.tuple #[])∧w2.grownBy w' (some g)∧∃ t',VrAt w' g t' (R.textP pr lb2 t.body).2 pv fb∧t'.toList=u2.toList++(R.textP pr lb2 t.body).1∧(t'.size:Int)≤u2.size+60000*R.sizeL t.body)):=by
  intro k u wr hkl hw hu hz hgr
  obtain⟨b,rfl,hbg⟩:=hsa (by omega)
  have hkv:k<vs.length:=by omega
  have hkf:k<Fs.length:=by omega
  have hfit:=R.okL_get l hok k hkl
  have hsg:=R.sizeL_get l k hkl
  have hsk:=R.sizeL_nn (l.take k)
  have hsb:=R.sizeL_nn l[k].body
  have hla:=R.textP_lab pr (l.take k) lb
  have hblt:b<wr.heap.size:=by
   have:=hlt b (by simp[Value.ownBlock])
   have:=hgr.size
   omega
  have ZS:R.sizeL (l.take (k+1))=R.sizeL (l.take k)+(1+R.sizeL l[k].body):=by
   unfold R.sizeL
   have:=R.numL_snoc (fun _=>true) l k hkl
   simpa using this
  refine⟨b,vs[k],l[k],rfl,⟨hkl,hn,R.textP_snoc pr lb l k hkl,ZS,lines_at how rfl hv hbg k hkl vs[k] (by simp[hkv]) wr hgr,hw,hu,hz,hgr,by omega,by omega,by omega,hfit.1,hbg,hblt,fun w2 h2=>hpu w2 (grown_trans hgr h2)⟩,?_⟩
  intro w2 u2 lb2 hg2 hw2 h0 h1 h2
  have hg3:=grown_trans hgr hg2
  have hmem:∀ j∈Fs[k],j∈(Value.slice (some ⟨b,0,none⟩) l.length sc).ownBlock.toList++Fs.flatten:=fun j hj=>by
   simp only[List.mem_append,List.mem_flatten]
   exact Or.inr ⟨Fs[k],List.getElem_mem hkf,hj⟩
  refine ih k l[k] vs[k] Fs[k] (by simp[hkl]) (by simp[hkv]) (by simp[hkf]) (by omega) hfit.2 w2 g u2 lb2 pv fb pr (fun j hj=>?_) (fun hj=>hgF (hmem _ hj)) hw2 (fun w4 h4=>hpu w4 (grown_trans hg3 h4)) h0 h1 h2
  rw[hg3.block j (hlt j (hmem j hj)) (fun e=>by simp at e;subst e;exact hgF (hmem _ hj)),hk j (hmem j hj)]
 have HWR:=hide hwr
 have HT:Hid (l.take l.length=l):=List.take_length
 clear how ih hpu hk hlt hv hF hsz ho hc hnd hbd0 hok hgF hlb1 htx hlen hwr hsa
 generalize hN:l.length=n at *
 go_enter Tryz.func22,Tryz.ntmps22
 go_wp2_with fail
 refine VlLoop w g tx lb pv fb pr l n sc sa hn HCASE _ _ _ _ _ _ _ _ _ _ _ _ _ _ _ _ _ _ _ _ _ _ _ _ _ _ _ _ _ _ _ _ _ _ _ _ _ _ _ _ _ _ _ _ _ _ _ _ _ _ _ _ _ _ _ _ _ _ _ _ _ _ _ _ _ _ _ _ _ _ _ _ _ _ _ _ _ _ _ _ _ _ _ _ _ _ _ _ _ _ _ _ _ _ _ _ _ _ _ _ _ _ _ _ _ _ _ _ _ _ _ _ _ _ _ _ _ _ _ _ _ _ _ _ _ _ _ _ _ _ _ _ _ _ _ _ _ _ _ _ _ _ _ _ _ _ _ _ _ _ _ _ _ _ _ _ _ _ _ _ _ _ _ _ _ _ _ _ _ _ _ _ _ _ _ _ _ _ _ _ _ _ _ _ _ _ _ _ _ _ _ _ _ _ _ _ _ _ _ _ _ _ _ _ _ _ _ _ _ _ _ _ _ _ _ _ _ _ _ _ _ _ _ _ _ _ _ _ _ _ _ _ _ _ _ _ _ _ _ _ _ _ _ _ _ _ _ _ _ _ _ _ _ _ _ _ ?hI _ ?hE
 case hI=>exact⟨0,tx,Nat.zero_le _,rfl,by simpa [R.textP_nil,R.textP_cons] using HWR.out,by simp[R.textP_nil,R.textP_cons],by simp[R.sizeL,R.numL_nil,R.numL_cons],grown_refl _ _⟩
 case hE =>
  intro i u5 u6 u7 u8 u9 Za Zl Zw ZH ZT Z4 Yf Yq YB YM YX Y8 Xj Xu XF XQ XY XZ X0 X1 X2 X3 X4 X5 X6 X7 X8 X9 Wa Wb Wc Wd We Wf Wg Wh Wi Wj Wk Wl Wm Wn Wo Wp Wq Wr Ws Wt Wu Wv Ww Wx Wy Wz WA WB WC WD WE WF WG WH WI WJ WK WL WM WN WO WP WQ WR WS WT WU WV WW WX WY WZ W0 W1 W2 W3 W4 W5 W6 W7 W8 W9 Zb Zc Zd Ze Zf Zg Zh Zi Zj Zk Zm Zn Zo Zp Zq Zr Zs Zt Zu Zv Zx Zy Zz ZA ZB ZC ZD ZE ZF ZG ZI ZJ ZK ZL ZM ZN ZO ZP ZQ ZR ZU ZV ZW ZX ZY ZZ Z0 Z1 Z2 Z3 Z5 Z6 Z7 Z8 Z9 Ya Yb Yc Yd Ye Yg Yh Yi Yj Yk Yl Ym Yn Yo Yp Yr Ys Yt Yu Yv Yw Yx Yy Yz YA YC YD YE YF YG YH YI YJ YK YL YN YO YP YQ YR YS YT YU YV YW YY YZ Y0 Y1 Y2 Y3 Y4 Y5 Y6 Y7 Y9 Xa Xb Xc Xd Xe Xf Xg Xh Xi Xk Xl Xm Xn Xo Xp Xq Xr Xs Xt Xv Xw Xx Xy Xz XA XB XC XD XE XG XH XI XJ XK XL XM XN XO XP XR XS XT XU XV XW XX w2 u hw hu hz hgr
  rw[HT.out] at hw hu hz
  have A1:=hide hw
  have A2:=hide hu
  have A3:=hide hz
  have A4:=hide hgr
  clear hw hu hz hgr HCASE HWR
  go_wp2
  go_end0
  exact⟨rfl,A4.out,u,A1.out,A2.out,A3.out⟩
theorem pairB_facts {w:World} {g:Nat} {a b:Value} (h:w.heap[g]?=some (.cells #[a,b] 4 (0,0))):w.cell? ⟨g,0,none⟩=some a∧w.cell? ⟨g,1,none⟩=some b∧w.frozen? ⟨g,0,none⟩=false∧w.frozen? ⟨g,1,none⟩=false:=by
 refine⟨by simp[World.cell?,h],by simp[World.cell?,h],by simp[World.frozen?,h],by simp[World.frozen?,h]⟩
end Go.Proofs.YtpkjmdcabdplfaaGreatDoor
namespace Go.Proofs.YtpkjmdcabdplfaaGreatDoor
open Go Go.RowKit
theorem Tryz.infoBool:(Tryz.prog.info? 4).map (fun i=>(i.zero,i.size,i.bytes))=some (some (.bool false),1,1):=by kernel_rfl
end Go.Proofs.YtpkjmdcabdplfaaGreatDoor
namespace Go.Proofs.YtpkjmdcabdplfaaGreatDoor
open Go Go.RowKit
set_option maxRecDepth 100000
set_option linter.unusedSimpArgs false in
set_option maxRecDepth 1000000 in
set_option maxHeartbeats 12800000 in
theorem VurRegA (b0 b1 q:Bool) (w1:World) (B g gp k:Nat) (pv:Value) (fb:Bool) (xs:List Value) (hwr:Hid (VrAt w1 g ⟨#[]⟩ 0 pv fb)) (hp:w1.heap[gp]?=some (.cells #[.bool b0,.bool b1] 4 (0,0))) (hown:Hid (w1.ownsRow B 4 1 pv k xs)) (hk:k<3) (hB:B≤w1.heap.size) (hgg:gp≠g) (hgo:some gp≠pv.ownBlock)
  (Q:Exit→Act→World→Prop) (hQ:∀ c (a:Act) (d:Option Tmp) (v:Value) w,Q (.panic c) (a.put d v) w→Q (.panic c) a w) (u0 u1 u2 u3 u4 u6 Za Zb Zc Zd Ze Zf Zg Zh Zi Zj Zk Zl Zm Zn Zo Zp Zq Zr Zs Zt Zu Zv Zw Zx Zy Zz ZA ZB ZC ZD ZE ZF ZG ZH ZI ZJ ZK ZL ZM ZN ZO ZP ZQ ZR ZS ZT ZU ZV ZW ZX ZY ZZ Z0 Z1 Z2 Z3 Z4 Z5 Z6 Z7 Z8 Z9 Ya Yb Yc Yd Ye Yf Yg Yh Yi Yj Yk Yl Ym Yn Yo Yp Yq Yr Ys:Value)
  (hK:Hid (∀ (Yt Yu Yv Yw Yx Yy Yz YA YB YC YD YE YF YG YH YI YJ YK YL YM YN YO YP YQ YR:Value) (g1 cap1:Nat) (w3:World),w3.ownsRow B 4 1 (.slice (some ⟨g1,0,none⟩) (k+1) cap1) (k+1) (xs++[.bool false])→(w1.drew.alloc (.cells #[.bool false] 4)).grownBy w3 pv.ownBlock→Q .normal ⟨#[u0,u1,u2,u3,u4,.pointer (some ⟨g,0,none⟩),u6,.slice (some ⟨gp,0,none⟩) 2 2,.bool true,.bool q,Za,Zb,Zc,Zd,Ze,Zf,Zg,Zh,Zi,Zj,Zk,Zl,Zm,Zn,Zo,Zp,Zq,Zr,Zs,Zt,Zu,Zv,Yt,Yu,Yv,Yw,Yx,Yy,Yz,YA,YB,YC,YD,YE,YF,YG,YH,YI,YJ,YK,YL,YM,YN,YO,YP,YQ,YR,ZV,ZW,ZX,ZY,ZZ,Z0,Z1,Z2,Z3,Z4,Z5,Z6,Z7,Z8,Z9,Ya,Yb,Yc,Yd,Ye,Yf,Yg,Yh,Yi,Yj,Yk,Yl,Ym,Yn,Yo,Yp,Yq,Yr,Ys],[]⟩ (w3.setCell ⟨g,2,none⟩ (.slice (some ⟨g1,0,none⟩) (k+1) cap1)))) :
  Code.wp Tryz.prog ((stmOf (inOf (stmOf (bodyOf Tryz.f8) 2)) 1)) Q ⟨#[u0,u1,u2,u3,u4,.pointer (some ⟨g,0,none⟩),u6,.slice (some ⟨gp,0,none⟩) 2 2,.bool true,.bool q,Za,Zb,Zc,Zd,Ze,Zf,Zg,Zh,Zi,Zj,Zk,Zl,Zm,Zn,Zo,Zp,Zq,Zr,Zs,Zt,Zu,Zv,Zw,Zx,Zy,Zz,ZA,ZB,ZC,ZD,ZE,ZF,ZG,ZH,ZI,ZJ,ZK,ZL,ZM,ZN,ZO,ZP,ZQ,ZR,ZS,ZT,ZU,ZV,ZW,ZX,ZY,ZZ,Z0,Z1,Z2,Z3,Z4,Z5,Z6,Z7,Z8,Z9,Ya,Yb,Yc,Yd,Ye,Yf,Yg,Yh,Yi,Yj,Yk,Yl,Ym,Yn,Yo,Yp,Yq,Yr,Ys],[]⟩ w1:=by
 obtain⟨i0,hi,hz0,hz1,hz2⟩:=info_parts Tryz.infoBool
 obtain⟨glt,gfr,g0,g1,g2,g3⟩:=hwr.out.facts
 obtain⟨p1,p2,p3,p4⟩:=pairB_facts hp
 have hne:some g≠pv.ownBlock:=Ne.symm (own_ne_blk hown.out hwr.out (by decide))
 have hplt:gp<w1.heap.size:=(Array.getElem?_eq_some_iff.1 hp).1
 have HO:Hid ((w1.drew.alloc (.cells #[.bool false] 4)).ownsRow B 4 1 pv k xs):=(hown.out.drew).alloc _
 have HN:Hid (∀ j u,[Value.bool false][j]?=some u→(w1.drew.alloc (.cells #[.bool false] 4)).cell? ((⟨w1.heap.size,0,none⟩:Addr).add j)=some u):=World.news_of_block (cs:=#[.bool false]) (t:=4) (fr:=(0,0)) (by have:=heap_alloc_new w1.drew (.cells #[.bool false] 4);simpa using this)
 have HF2:Hid ((w1.drew.alloc (.cells #[.bool false] 4)).frozen? ⟨g,2,none⟩=false):=(World.frozen?_of_block (w:=w1) (a:=⟨g,2,none⟩) (Below.heap_alloc _ _ _ glt)).trans (gfr 2)
 have HC2:Hid ((w1.drew.alloc (.cells #[.bool false] 4)).cell? ⟨g,2,none⟩=some pv):=(World.cell?_of_block (w:=w1) (a:=⟨g,2,none⟩) (Below.heap_alloc _ _ _ glt)).trans g2
 have HP0:Hid ((w1.drew.alloc (.cells #[.bool false] 4)).cell? ⟨gp,0,none⟩=some (.bool b0)):=(World.cell?_of_block (w:=w1) (a:=⟨gp,0,none⟩) (Below.heap_alloc _ _ _ hplt)).trans p1
 have HP1:Hid ((w1.drew.alloc (.cells #[.bool false] 4)).cell? ⟨gp,1,none⟩=some (.bool b1)):=(World.cell?_of_block (w:=w1) (a:=⟨gp,1,none⟩) (Below.heap_alloc _ _ _ hplt)).trans p2
 have c2':=HC2.out
 clear hp g0 g1 g3 p3 p4
 conv=>arg 2;whnf
 dsimp only
 refine wp_region_held_drew (S:=fun w'=>w'.cell? ⟨gp,0,none⟩=some (.bool b0)∧w'.cell? ⟨gp,1,none⟩=some (.bool b1)) (by kernel_rfl) ⟨p1,p2⟩ (fun hS=>?_)
 refine wpAnyH_take (i:=0) (v:=(.pointer (some ⟨g,0,none⟩))) rfl (by kernel_rfl) (by kernel_rfl) (by kernel_rfl) (fun _ _ _ h=>hQ _ _ _ _ _ h) (Or.inl ⟨by rfl,fun w hSw=>?_⟩) hS ?_
 ·obtain⟨s0,s1⟩:=hSw
  first | rfl | go_simp
 simp only[List.getElem_toArray,List.getElem_cons_zero,List.getElem_cons_succ,Act.put,List.setIfInBounds_toArray,List.set_cons_zero,List.set_cons_succ]
 refine wpAnyH_take (i:=1) (v:=(.pointer (some ⟨g,0,none⟩))) rfl (by kernel_rfl) (by kernel_rfl) (by kernel_rfl) (fun _ _ _ h=>hQ _ _ _ _ _ h) (Or.inl ⟨by rfl,fun w hSw=>?_⟩) hS ?_
 ·obtain⟨s0,s1⟩:=hSw
  first | rfl | go_simp
 simp only[List.getElem_toArray,List.getElem_cons_zero,List.getElem_cons_succ,Act.put,List.setIfInBounds_toArray,List.set_cons_zero,List.set_cons_succ]
 refine wpAnyH_take (i:=2) (v:=(.pointer (some ⟨g,0,none⟩))) rfl (by kernel_rfl) (by kernel_rfl) (by kernel_rfl) (fun _ _ _ h=>hQ _ _ _ _ _ h) (Or.inl ⟨by rfl,fun w hSw=>?_⟩) hS ?_
 ·obtain⟨s0,s1⟩:=hSw
  first | rfl | go_simp
 simp only[List.getElem_toArray,List.getElem_cons_zero,List.getElem_cons_succ,Act.put,List.setIfInBounds_toArray,List.set_cons_zero,List.set_cons_succ]
 refine wpAnyH_take (i:=3) (v:=(.pointer (some ⟨g,2,none⟩))) rfl (by kernel_rfl) (by kernel_rfl) (by kernel_rfl) (fun _ _ _ h=>hQ _ _ _ _ _ h) (Or.inl ⟨by rfl,fun w hSw=>?_⟩) hS ?_
 ·obtain⟨s0,s1⟩:=hSw
  first | rfl | go_simp
 simp only[List.getElem_toArray,List.getElem_cons_zero,List.getElem_cons_succ,Act.put,List.setIfInBounds_toArray,List.set_cons_zero,List.set_cons_succ]
 refine wpAnyH_take (i:=5) (v:=(.bool true)) rfl (by kernel_rfl) (by kernel_rfl) (by kernel_rfl) (fun _ _ _ h=>hQ _ _ _ _ _ h) (Or.inl ⟨by rfl,fun w hSw=>?_⟩) hS ?_
 ·obtain⟨s0,s1⟩:=hSw
  first | rfl | go_simp
 simp only[List.getElem_toArray,List.getElem_cons_zero,List.getElem_cons_succ,Act.put,List.setIfInBounds_toArray,List.set_cons_zero,List.set_cons_succ]
 refine wpAnyH_take (i:=6) (v:=(.bool false)) rfl (by kernel_rfl) (by kernel_rfl) (by kernel_rfl) (fun _ _ _ h=>hQ _ _ _ _ _ h) (Or.inl ⟨by rfl,fun w hSw=>?_⟩) hS ?_
 ·obtain⟨s0,s1⟩:=hSw
  first | rfl | go_simp
 simp only[List.getElem_toArray,List.getElem_cons_zero,List.getElem_cons_succ,Act.put,List.setIfInBounds_toArray,List.set_cons_zero,List.set_cons_succ]
 refine wpAnyH_take (i:=7) (v:=(.bool false)) rfl (by kernel_rfl) (by kernel_rfl) (by kernel_rfl) (fun _ _ _ h=>hQ _ _ _ _ _ h) (Or.inl ⟨by rfl,fun w hSw=>?_⟩) hS ?_
 ·obtain⟨s0,s1⟩:=hSw
  first | rfl | go_simp
 simp only[List.getElem_toArray,List.getElem_cons_zero,List.getElem_cons_succ,Act.put,List.setIfInBounds_toArray,List.set_cons_zero,List.set_cons_succ]
 refine wpAnyH_take (i:=8) (v:=undef) rfl (by kernel_rfl) (by kernel_rfl) (by kernel_rfl) (fun _ _ _ h=>hQ _ _ _ _ _ h) (Or.inr ⟨by rfl,rfl⟩) hS ?_
 simp only[List.getElem_toArray,List.getElem_cons_zero,List.getElem_cons_succ,Act.put,List.setIfInBounds_toArray,List.set_cons_zero,List.set_cons_succ]
 refine wpAnyH_take (i:=9) (v:=undef) rfl (by kernel_rfl) (by kernel_rfl) (by kernel_rfl) (fun _ _ _ h=>hQ _ _ _ _ _ h) (Or.inr ⟨by rfl,rfl⟩) hS ?_
 simp only[List.getElem_toArray,List.getElem_cons_zero,List.getElem_cons_succ,Act.put,List.setIfInBounds_toArray,List.set_cons_zero,List.set_cons_succ]
 refine wpAnyH_take (i:=10) (v:=undef) rfl (by kernel_rfl) (by kernel_rfl) (by kernel_rfl) (fun _ _ _ h=>hQ _ _ _ _ _ h) (Or.inr ⟨by rfl,rfl⟩) hS ?_
 simp only[List.getElem_toArray,List.getElem_cons_zero,List.getElem_cons_succ,Act.put,List.setIfInBounds_toArray,List.set_cons_zero,List.set_cons_succ]
 refine wpAnyH_take (i:=11) (v:=undef) rfl (by kernel_rfl) (by kernel_rfl) (by kernel_rfl) (fun _ _ _ h=>hQ _ _ _ _ _ h) (Or.inr ⟨by rfl,rfl⟩) hS ?_
 simp only[List.getElem_toArray,List.getElem_cons_zero,List.getElem_cons_succ,Act.put,List.setIfInBounds_toArray,List.set_cons_zero,List.set_cons_succ]
 refine wpAnyH_take (i:=12) (v:=undef) rfl (by kernel_rfl) (by kernel_rfl) (by kernel_rfl) (fun _ _ _ h=>hQ _ _ _ _ _ h) (Or.inr ⟨by rfl,rfl⟩) hS ?_
 simp only[List.getElem_toArray,List.getElem_cons_zero,List.getElem_cons_succ,Act.put,List.setIfInBounds_toArray,List.set_cons_zero,List.set_cons_succ]
 refine wpAnyH_take (i:=13) (v:=undef) rfl (by kernel_rfl) (by kernel_rfl) (by kernel_rfl) (fun _ _ _ h=>hQ _ _ _ _ _ h) (Or.inr ⟨by rfl,rfl⟩) hS ?_
 simp only[List.getElem_toArray,List.getElem_cons_zero,List.getElem_cons_succ,Act.put,List.setIfInBounds_toArray,List.set_cons_zero,List.set_cons_succ]
 refine wpAnyH_take (i:=14) (v:=undef) rfl (by kernel_rfl) (by kernel_rfl) (by kernel_rfl) (fun _ _ _ h=>hQ _ _ _ _ _ h) (Or.inr ⟨by rfl,rfl⟩) hS ?_
 simp only[List.getElem_toArray,List.getElem_cons_zero,List.getElem_cons_succ,Act.put,List.setIfInBounds_toArray,List.set_cons_zero,List.set_cons_succ]
 refine wpAnyH_take (i:=15) (v:=undef) rfl (by kernel_rfl) (by kernel_rfl) (by kernel_rfl) (fun _ _ _ h=>hQ _ _ _ _ _ h) (Or.inr ⟨by rfl,rfl⟩) hS ?_
 simp only[List.getElem_toArray,List.getElem_cons_zero,List.getElem_cons_succ,Act.put,List.setIfInBounds_toArray,List.set_cons_zero,List.set_cons_succ]
 refine wpAnyH_take (i:=16) (v:=undef) rfl (by kernel_rfl) (by kernel_rfl) (by kernel_rfl) (fun _ _ _ h=>hQ _ _ _ _ _ h) (Or.inr ⟨by rfl,rfl⟩) hS ?_
 simp only[List.getElem_toArray,List.getElem_cons_zero,List.getElem_cons_succ,Act.put,List.setIfInBounds_toArray,List.set_cons_zero,List.set_cons_succ]
 refine wpAnyH_take (i:=17) (v:=undef) rfl (by kernel_rfl) (by kernel_rfl) (by kernel_rfl) (fun _ _ _ h=>hQ _ _ _ _ _ h) (Or.inr ⟨by rfl,rfl⟩) hS ?_
 simp only[List.getElem_toArray,List.getElem_cons_zero,List.getElem_cons_succ,Act.put,List.setIfInBounds_toArray,List.set_cons_zero,List.set_cons_succ]
 refine wpAnyH_take (i:=18) (v:=undef) rfl (by kernel_rfl) (by kernel_rfl) (by kernel_rfl) (fun _ _ _ h=>hQ _ _ _ _ _ h) (Or.inr ⟨by rfl,rfl⟩) hS ?_
 simp only[List.getElem_toArray,List.getElem_cons_zero,List.getElem_cons_succ,Act.put,List.setIfInBounds_toArray,List.set_cons_zero,List.set_cons_succ]
 refine wpAnyH_take (i:=19) (v:=undef) rfl (by kernel_rfl) (by kernel_rfl) (by kernel_rfl) (fun _ _ _ h=>hQ _ _ _ _ _ h) (Or.inr ⟨by rfl,rfl⟩) hS ?_
 simp only[List.getElem_toArray,List.getElem_cons_zero,List.getElem_cons_succ,Act.put,List.setIfInBounds_toArray,List.set_cons_zero,List.set_cons_succ]
 refine wpAnyH_take (i:=20) (v:=(.bool false)) rfl (by kernel_rfl) (by kernel_rfl) (by kernel_rfl) (fun _ _ _ h=>hQ _ _ _ _ _ h) (Or.inl ⟨by rfl,fun w hSw=>?_⟩) hS ?_
 ·obtain⟨s0,s1⟩:=hSw
  first | rfl | go_simp
 simp only[List.getElem_toArray,List.getElem_cons_zero,List.getElem_cons_succ,Act.put,List.setIfInBounds_toArray,List.set_cons_zero,List.set_cons_succ]
 refine wpAnyH_ready (rs:=[4,21]) (by kernel_rfl) (by simp) ?_
 refine AllReadyH.cons rfl (fun K' hK'=>?_) (AllReadyH.cons rfl (fun K' hK'=>?_) AllReadyH.nil)
 ·go_simp
  refine hK'.out _ _ hS (fun hS=>?_)
  clear hK' K'
  try simp only[List.getElem_toArray,List.getElem_cons_zero,List.getElem_cons_succ,Act.put,List.setIfInBounds_toArray,List.set_cons_zero,List.set_cons_succ]
  refine wpAnyH_ready (rs:=[21]) (by kernel_rfl) (by simp) ?_
  refine AllReadyH.cons rfl (fun K' hK'=>?_) AllReadyH.nil
  go_simp
  refine hK'.out _ _ ⟨HP0.out,HP1.out⟩ (fun hS=>?_)
  clear hK' K'
  try simp only[List.getElem_toArray,List.getElem_cons_zero,List.getElem_cons_succ,Act.put,List.setIfInBounds_toArray,List.set_cons_zero,List.set_cons_succ]
  refine wpAnyH_ready (rs:=[22]) (by kernel_rfl) (by simp) ?_
  refine AllReadyH.cons rfl (fun K' hK'=>?_) AllReadyH.nil
  refine step_append_lies _ rfl (.tmp 36) (.tmp 53) 60 rfl B 4 i0 (.bool false) 1 1 Tryz.underlying60 hi hz0 hz1 hz2 rfl (by decide) pv k xs (by simp[Act.eval]) (by exact HO.out) ⟨w1.heap.size,0,none⟩ 1 1 [.bool false] (by simp[Act.eval]) rfl (by exact HN.out) (by simp[Value.oneCell']) (by decide) (by unfold maxLen;omega) (by omega) (by simp;omega) (w1.heap.size+1) (by simp) ?_
  intro g1 cap1 w3 hown3 hgrow hat hlt3
  have c2:=(hgrow.cell_far ⟨g,2,none⟩ (by simp;omega) hne).trans HC2.out
  have f2:=(hgrow.frozen_far ⟨g,2,none⟩ (by simp;omega) hne).trans HF2.out
  have k0:=(hgrow.cell_far ⟨gp,0,none⟩ (by simp;omega) hgo).trans HP0.out
  have k1:=(hgrow.cell_far ⟨gp,1,none⟩ (by simp;omega) hgo).trans HP1.out
  refine hK'.out _ _ ⟨k0,k1⟩ (fun hS=>?_)
  clear hK' K'
  try simp only[List.getElem_toArray,List.getElem_cons_zero,List.getElem_cons_succ,Act.put,List.setIfInBounds_toArray,List.set_cons_zero,List.set_cons_succ]
  refine wpAnyH_take (i:=23) (v:=(.pointer (some ⟨g,0,none⟩))) rfl (by kernel_rfl) (by kernel_rfl) (by kernel_rfl) (fun _ _ _ h=>hQ _ _ _ _ _ h) (Or.inl ⟨by rfl,fun w hSw=>?_⟩) hS ?_
  ·obtain⟨s0,s1⟩:=hSw
   first | rfl | go_simp
  simp only[List.getElem_toArray,List.getElem_cons_zero,List.getElem_cons_succ,Act.put,List.setIfInBounds_toArray,List.set_cons_zero,List.set_cons_succ]
  refine wpAnyH_take (i:=24) (v:=(.pointer (some ⟨g,2,none⟩))) rfl (by kernel_rfl) (by kernel_rfl) (by kernel_rfl) (fun _ _ _ h=>hQ _ _ _ _ _ h) (Or.inl ⟨by rfl,fun w hSw=>?_⟩) hS ?_
  ·obtain⟨s0,s1⟩:=hSw
   first | rfl | go_simp
  simp only[List.getElem_toArray,List.getElem_cons_zero,List.getElem_cons_succ,Act.put,List.setIfInBounds_toArray,List.set_cons_zero,List.set_cons_succ]
  refine wpAnyH_ready (rs:=[25]) (by kernel_rfl) (by simp) ?_
  refine AllReadyH.cons rfl (fun K' hK'=>?_) AllReadyH.nil
  go_simp
  refine hK'.out _ _ ⟨(cell_set_ne hgg).trans k0,(cell_set_ne hgg).trans k1⟩ (fun hS=>?_)
  clear hK' K'
  try simp only[List.getElem_toArray,List.getElem_cons_zero,List.getElem_cons_succ,Act.put,List.setIfInBounds_toArray,List.set_cons_zero,List.set_cons_succ]
  refine wpAnyH_done (by kernel_rfl) ?_ _
  exact hK.out _ _ _ _ _ _ _ _ _ _ _ _ _ _ _ _ _ _ _ _ _ _ _ _ _ _ _ _ hown3 hgrow
 ·go_simp
  refine hK'.out _ _ ⟨HP0.out,HP1.out⟩ (fun hS=>?_)
  clear hK' K'
  try simp only[List.getElem_toArray,List.getElem_cons_zero,List.getElem_cons_succ,Act.put,List.setIfInBounds_toArray,List.set_cons_zero,List.set_cons_succ]
  refine wpAnyH_ready (rs:=[4]) (by kernel_rfl) (by simp) ?_
  refine AllReadyH.cons rfl (fun K' hK'=>?_) AllReadyH.nil
  go_simp
  refine hK'.out _ _ ⟨HP0.out,HP1.out⟩ (fun hS=>?_)
  clear hK' K'
  try simp only[List.getElem_toArray,List.getElem_cons_zero,List.getElem_cons_succ,Act.put,List.setIfInBounds_toArray,List.set_cons_zero,List.set_cons_succ]
  refine wpAnyH_ready (rs:=[22]) (by kernel_rfl) (by simp) ?_
  refine AllReadyH.cons rfl (fun K' hK'=>?_) AllReadyH.nil
  refine step_append_lies _ rfl (.tmp 36) (.tmp 53) 60 rfl B 4 i0 (.bool false) 1 1 Tryz.underlying60 hi hz0 hz1 hz2 rfl (by decide) pv k xs (by simp[Act.eval]) (by exact HO.out) ⟨w1.heap.size,0,none⟩ 1 1 [.bool false] (by simp[Act.eval]) rfl (by exact HN.out) (by simp[Value.oneCell']) (by decide) (by unfold maxLen;omega) (by omega) (by simp;omega) (w1.heap.size+1) (by simp) ?_
  intro g1 cap1 w3 hown3 hgrow hat hlt3
  have c2:=(hgrow.cell_far ⟨g,2,none⟩ (by simp;omega) hne).trans HC2.out
  have f2:=(hgrow.frozen_far ⟨g,2,none⟩ (by simp;omega) hne).trans HF2.out
  have k0:=(hgrow.cell_far ⟨gp,0,none⟩ (by simp;omega) hgo).trans HP0.out
  have k1:=(hgrow.cell_far ⟨gp,1,none⟩ (by simp;omega) hgo).trans HP1.out
  refine hK'.out _ _ ⟨k0,k1⟩ (fun hS=>?_)
  clear hK' K'
  try simp only[List.getElem_toArray,List.getElem_cons_zero,List.getElem_cons_succ,Act.put,List.setIfInBounds_toArray,List.set_cons_zero,List.set_cons_succ]
  refine wpAnyH_take (i:=23) (v:=(.pointer (some ⟨g,0,none⟩))) rfl (by kernel_rfl) (by kernel_rfl) (by kernel_rfl) (fun _ _ _ h=>hQ _ _ _ _ _ h) (Or.inl ⟨by rfl,fun w hSw=>?_⟩) hS ?_
  ·obtain⟨s0,s1⟩:=hSw
   first | rfl | go_simp
  simp only[List.getElem_toArray,List.getElem_cons_zero,List.getElem_cons_succ,Act.put,List.setIfInBounds_toArray,List.set_cons_zero,List.set_cons_succ]
  refine wpAnyH_take (i:=24) (v:=(.pointer (some ⟨g,2,none⟩))) rfl (by kernel_rfl) (by kernel_rfl) (by kernel_rfl) (fun _ _ _ h=>hQ _ _ _ _ _ h) (Or.inl ⟨by rfl,fun w hSw=>?_⟩) hS ?_
  ·obtain⟨s0,s1⟩:=hSw
   first | rfl | go_simp
  simp only[List.getElem_toArray,List.getElem_cons_zero,List.getElem_cons_succ,Act.put,List.setIfInBounds_toArray,List.set_cons_zero,List.set_cons_succ]
  refine wpAnyH_ready (rs:=[25]) (by kernel_rfl) (by simp) ?_
  refine AllReadyH.cons rfl (fun K' hK'=>?_) AllReadyH.nil
  go_simp
  refine hK'.out _ _ ⟨(cell_set_ne hgg).trans k0,(cell_set_ne hgg).trans k1⟩ (fun hS=>?_)
  clear hK' K'
  try simp only[List.getElem_toArray,List.getElem_cons_zero,List.getElem_cons_succ,Act.put,List.setIfInBounds_toArray,List.set_cons_zero,List.set_cons_succ]
  refine wpAnyH_done (by kernel_rfl) ?_ _
  exact hK.out _ _ _ _ _ _ _ _ _ _ _ _ _ _ _ _ _ _ _ _ _ _ _ _ _ _ _ _ hown3 hgrow
end Go.Proofs.YtpkjmdcabdplfaaGreatDoor
