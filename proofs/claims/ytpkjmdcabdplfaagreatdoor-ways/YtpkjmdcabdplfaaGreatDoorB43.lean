import Derived.Test.YtpkjmdcabdplfaaGreatDoorB42
set_option linter.unusedVariables false
set_option linter.unusedSimpArgs false
namespace Go.Proofs.YtpkjmdcabdplfaaGreatDoor
open Go Go.RowKit
set_option maxRecDepth 100000
set_option linter.unusedSimpArgs false in
set_option maxRecDepth 1000000 in
set_option maxHeartbeats 12800000 in
theorem VurRegB (b1 q:Bool) (w1:World) (B g gp k:Nat) (pv:Value) (fb:Bool) (xs:List Value) (hwr:Hid (VrAt w1 g ⟨#[]⟩ 0 pv fb)) (hp:w1.heap[gp]?=some (.cells #[.bool false,.bool b1] 4 (0,0))) (hown:Hid (w1.ownsRow B 4 1 pv k xs)) (hk:k<3) (hB:B≤w1.heap.size) (hgg:gp≠g) (hgo:some gp≠pv.ownBlock)
  (Q:Exit→Act→World→Prop) (hQ:∀ c (a:Act) (d:Option Tmp) (v:Value) w,Q (.panic c) (a.put d v) w→Q (.panic c) a w) (u0 u1 u2 u3 u4 u6 Za Zb Zc Zd Ze Zf Zg Zh Zi Zj Zk Zl Zm Zn Zo Zp Zq Zr Zs Zt Zu Zv Zw Zx Zy Zz ZA ZB ZC ZD ZE ZF ZG ZH ZI ZJ ZK ZL ZM ZN ZO ZP ZQ ZR ZS ZT ZU ZV ZW ZX ZY ZZ Z0 Z1 Z2 Z3 Z4 Z5 Z6 Z7 Z8 Z9 Ya Yb Yc Yd Ye Yf Yg Yh Yi Yj Yk Yl Ym Yn Yo Yp Yq Yr Ys:Value)
  (hK:Hid (∀ (Yt Yu Yv Yw Yx Yy Yz YA YB YC YD YE YF YG YH YI YJ YK YL YM YN YO YP YQ YR:Value) (g1 cap1:Nat) (w3:World),w3.ownsRow B 4 1 (.slice (some ⟨g1,0,none⟩) (k+1) cap1) (k+1) (xs++[.bool true])→(w1.drew.alloc (.cells #[.bool true] 4)).grownBy w3 pv.ownBlock→Q .normal ⟨#[u0,u1,u2,u3,u4,.pointer (some ⟨g,0,none⟩),u6,.slice (some ⟨gp,0,none⟩) 2 2,.bool false,.bool q,Za,Zb,Zc,Zd,Ze,Zf,Zg,Zh,Zi,Zj,Zk,Zl,Zm,Zn,Zo,Zp,Zq,Zr,Zs,Zt,Zu,Zv,Yt,Yu,Yv,Yw,Yx,Yy,Yz,YA,YB,YC,YD,YE,YF,YG,YH,YI,YJ,YK,YL,YM,YN,YO,YP,YQ,YR,ZV,ZW,ZX,ZY,ZZ,Z0,Z1,Z2,Z3,Z4,Z5,Z6,Z7,Z8,Z9,Ya,Yb,Yc,Yd,Ye,Yf,Yg,Yh,Yi,Yj,Yk,Yl,Ym,Yn,Yo,Yp,Yq,Yr,Ys],[]⟩ (w3.setCell ⟨g,2,none⟩ (.slice (some ⟨g1,0,none⟩) (k+1) cap1)))) :
  Code.wp Tryz.prog ((stmOf (inOf (stmOf (bodyOf Tryz.f8) 2)) 1)) Q ⟨#[u0,u1,u2,u3,u4,.pointer (some ⟨g,0,none⟩),u6,.slice (some ⟨gp,0,none⟩) 2 2,.bool false,.bool q,Za,Zb,Zc,Zd,Ze,Zf,Zg,Zh,Zi,Zj,Zk,Zl,Zm,Zn,Zo,Zp,Zq,Zr,Zs,Zt,Zu,Zv,Zw,Zx,Zy,Zz,ZA,ZB,ZC,ZD,ZE,ZF,ZG,ZH,ZI,ZJ,ZK,ZL,ZM,ZN,ZO,ZP,ZQ,ZR,ZS,ZT,ZU,ZV,ZW,ZX,ZY,ZZ,Z0,Z1,Z2,Z3,Z4,Z5,Z6,Z7,Z8,Z9,Ya,Yb,Yc,Yd,Ye,Yf,Yg,Yh,Yi,Yj,Yk,Yl,Ym,Yn,Yo,Yp,Yq,Yr,Ys],[]⟩ w1:=by
 obtain⟨i0,hi,hz0,hz1,hz2⟩:=info_parts Tryz.infoBool
 obtain⟨glt,gfr,g0,g1,g2,g3⟩:=hwr.out.facts
 obtain⟨p1,p2,p3,p4⟩:=pairB_facts hp
 have hne:some g≠pv.ownBlock:=Ne.symm (own_ne_blk hown.out hwr.out (by decide))
 have hplt:gp<w1.heap.size:=(Array.getElem?_eq_some_iff.1 hp).1
 have HO:Hid ((w1.drew.alloc (.cells #[.bool true] 4)).ownsRow B 4 1 pv k xs):=(hown.out.drew).alloc _
 have HN:Hid (∀ j u,[Value.bool true][j]?=some u→(w1.drew.alloc (.cells #[.bool true] 4)).cell? ((⟨w1.heap.size,0,none⟩:Addr).add j)=some u):=World.news_of_block (cs:=#[.bool true]) (t:=4) (fr:=(0,0)) (by have:=heap_alloc_new w1.drew (.cells #[.bool true] 4);simpa using this)
 have HF2:Hid ((w1.drew.alloc (.cells #[.bool true] 4)).frozen? ⟨g,2,none⟩=false):=(World.frozen?_of_block (w:=w1) (a:=⟨g,2,none⟩) (Below.heap_alloc _ _ _ glt)).trans (gfr 2)
 have HC2:Hid ((w1.drew.alloc (.cells #[.bool true] 4)).cell? ⟨g,2,none⟩=some pv):=(World.cell?_of_block (w:=w1) (a:=⟨g,2,none⟩) (Below.heap_alloc _ _ _ glt)).trans g2
 have HP0:Hid ((w1.drew.alloc (.cells #[.bool true] 4)).cell? ⟨gp,0,none⟩=some (.bool false)):=(World.cell?_of_block (w:=w1) (a:=⟨gp,0,none⟩) (Below.heap_alloc _ _ _ hplt)).trans p1
 have HP1:Hid ((w1.drew.alloc (.cells #[.bool true] 4)).cell? ⟨gp,1,none⟩=some (.bool b1)):=(World.cell?_of_block (w:=w1) (a:=⟨gp,1,none⟩) (Below.heap_alloc _ _ _ hplt)).trans p2
 have c2':=HC2.out
 clear hp g0 g1 g3 p3 p4
 conv=>arg 2;whnf
 dsimp only
 refine wp_region_held_drew (S:=fun w'=>w'.cell? ⟨gp,0,none⟩=some (.bool false)∧w'.cell? ⟨gp,1,none⟩=some (.bool b1)) (by kernel_rfl) ⟨p1,p2⟩ (fun hS=>?_)
 refine wpAnyH_take (i:=0) (v:=(.pointer (some ⟨g,0,none⟩))) rfl (by kernel_rfl) (by kernel_rfl) (by kernel_rfl) (fun _ _ _ h=>hQ _ _ _ _ _ h) (Or.inl ⟨by rfl,fun w hSw=>?_⟩) hS ?_
 ·obtain⟨s0,s1⟩:=hSw
  first | rfl | go_simp
 simp only[List.getElem_toArray,List.getElem_cons_zero,List.getElem_cons_succ,Act.put,List.setIfInBounds_toArray,List.set_cons_zero,List.set_cons_succ]
 refine wpAnyH_take (i:=1) (v:=(.pointer (some ⟨g,0,none⟩))) rfl (by kernel_rfl) (by kernel_rfl) (by kernel_rfl) (fun _ _ _ h=>hQ _ _ _ _ _ h) (Or.inl ⟨by rfl,fun w hSw=>?_⟩) hS ?_
 ·obtain⟨s0,s1⟩:=hSw
  first | rfl | go_simp
 simp only[List.getElem_toArray,List.getElem_cons_zero,List.getElem_cons_succ,Act.put,List.setIfInBounds_toArray,List.set_cons_zero,List.set_cons_succ]
 refine wpAnyH_take (i:=2) (v:=(.pointer (some ⟨g,0,none⟩))) rfl (by kernel_rfl) (by kernel_rfl) (by kernel_rfl) (fun _ _ _ h=>hQ _ _ _ _ _ h) (Or.inl ⟨by rfl,fun w hSw=>?_⟩) hS ?_
 ·obtain⟨s0,s1⟩:=hSw
  first | rfl | go_simp
 simp only[List.getElem_toArray,List.getElem_cons_zero,List.getElem_cons_succ,Act.put,List.setIfInBounds_toArray,List.set_cons_zero,List.set_cons_succ]
 refine wpAnyH_take (i:=3) (v:=(.pointer (some ⟨g,2,none⟩))) rfl (by kernel_rfl) (by kernel_rfl) (by kernel_rfl) (fun _ _ _ h=>hQ _ _ _ _ _ h) (Or.inl ⟨by rfl,fun w hSw=>?_⟩) hS ?_
 ·obtain⟨s0,s1⟩:=hSw
  first | rfl | go_simp
 simp only[List.getElem_toArray,List.getElem_cons_zero,List.getElem_cons_succ,Act.put,List.setIfInBounds_toArray,List.set_cons_zero,List.set_cons_succ]
 refine wpAnyH_take (i:=5) (v:=(.bool false)) rfl (by kernel_rfl) (by kernel_rfl) (by kernel_rfl) (fun _ _ _ h=>hQ _ _ _ _ _ h) (Or.inl ⟨by rfl,fun w hSw=>?_⟩) hS ?_
 ·obtain⟨s0,s1⟩:=hSw
  first | rfl | go_simp
 simp only[List.getElem_toArray,List.getElem_cons_zero,List.getElem_cons_succ,Act.put,List.setIfInBounds_toArray,List.set_cons_zero,List.set_cons_succ]
 refine wpAnyH_take (i:=6) (v:=(.bool true)) rfl (by kernel_rfl) (by kernel_rfl) (by kernel_rfl) (fun _ _ _ h=>hQ _ _ _ _ _ h) (Or.inl ⟨by rfl,fun w hSw=>?_⟩) hS ?_
 ·obtain⟨s0,s1⟩:=hSw
  first | rfl | go_simp
 simp only[List.getElem_toArray,List.getElem_cons_zero,List.getElem_cons_succ,Act.put,List.setIfInBounds_toArray,List.set_cons_zero,List.set_cons_succ]
 refine wpAnyH_take (i:=7) (v:=(.bool true)) rfl (by kernel_rfl) (by kernel_rfl) (by kernel_rfl) (fun _ _ _ h=>hQ _ _ _ _ _ h) (Or.inl ⟨by rfl,fun w hSw=>?_⟩) hS ?_
 ·obtain⟨s0,s1⟩:=hSw
  first | rfl | go_simp
 simp only[List.getElem_toArray,List.getElem_cons_zero,List.getElem_cons_succ,Act.put,List.setIfInBounds_toArray,List.set_cons_zero,List.set_cons_succ]
 refine wpAnyH_take (i:=8) (v:=(.slice (some ⟨gp,0,none⟩) 2 2)) rfl (by kernel_rfl) (by kernel_rfl) (by kernel_rfl) (fun _ _ _ h=>hQ _ _ _ _ _ h) (Or.inl ⟨by rfl,fun w hSw=>?_⟩) hS ?_
 ·obtain⟨s0,s1⟩:=hSw
  first | rfl | go_simp
 simp only[List.getElem_toArray,List.getElem_cons_zero,List.getElem_cons_succ,Act.put,List.setIfInBounds_toArray,List.set_cons_zero,List.set_cons_succ]
 refine wpAnyH_take (i:=9) (v:=(.pointer (some ⟨gp,0,none⟩))) rfl (by kernel_rfl) (by kernel_rfl) (by kernel_rfl) (fun _ _ _ h=>hQ _ _ _ _ _ h) (Or.inl ⟨by rfl,fun w hSw=>?_⟩) hS ?_
 ·obtain⟨s0,s1⟩:=hSw
  first | rfl | go_simp
 simp only[List.getElem_toArray,List.getElem_cons_zero,List.getElem_cons_succ,Act.put,List.setIfInBounds_toArray,List.set_cons_zero,List.set_cons_succ]
 refine wpAnyH_take (i:=10) (v:=(.bool false)) rfl (by kernel_rfl) (by kernel_rfl) (by kernel_rfl) (fun _ _ _ h=>hQ _ _ _ _ _ h) (Or.inl ⟨by rfl,fun w hSw=>?_⟩) hS ?_
 ·obtain⟨s0,s1⟩:=hSw
  first | rfl | go_simp
 simp only[List.getElem_toArray,List.getElem_cons_zero,List.getElem_cons_succ,Act.put,List.setIfInBounds_toArray,List.set_cons_zero,List.set_cons_succ]
 refine wpAnyH_take (i:=11) (v:=(.bool false)) rfl (by kernel_rfl) (by kernel_rfl) (by kernel_rfl) (fun _ _ _ h=>hQ _ _ _ _ _ h) (Or.inl ⟨by rfl,fun w hSw=>?_⟩) hS ?_
 ·obtain⟨s0,s1⟩:=hSw
  first | rfl | go_simp
 simp only[List.getElem_toArray,List.getElem_cons_zero,List.getElem_cons_succ,Act.put,List.setIfInBounds_toArray,List.set_cons_zero,List.set_cons_succ]
 refine wpAnyH_take (i:=12) (v:=undef) rfl (by kernel_rfl) (by kernel_rfl) (by kernel_rfl) (fun _ _ _ h=>hQ _ _ _ _ _ h) (Or.inr ⟨by rfl,rfl⟩) hS ?_
 simp only[List.getElem_toArray,List.getElem_cons_zero,List.getElem_cons_succ,Act.put,List.setIfInBounds_toArray,List.set_cons_zero,List.set_cons_succ]
 refine wpAnyH_take (i:=13) (v:=undef) rfl (by kernel_rfl) (by kernel_rfl) (by kernel_rfl) (fun _ _ _ h=>hQ _ _ _ _ _ h) (Or.inr ⟨by rfl,rfl⟩) hS ?_
 simp only[List.getElem_toArray,List.getElem_cons_zero,List.getElem_cons_succ,Act.put,List.setIfInBounds_toArray,List.set_cons_zero,List.set_cons_succ]
 refine wpAnyH_take (i:=14) (v:=undef) rfl (by kernel_rfl) (by kernel_rfl) (by kernel_rfl) (fun _ _ _ h=>hQ _ _ _ _ _ h) (Or.inr ⟨by rfl,rfl⟩) hS ?_
 simp only[List.getElem_toArray,List.getElem_cons_zero,List.getElem_cons_succ,Act.put,List.setIfInBounds_toArray,List.set_cons_zero,List.set_cons_succ]
 refine wpAnyH_take (i:=15) (v:=(.bool false)) rfl (by kernel_rfl) (by kernel_rfl) (by kernel_rfl) (fun _ _ _ h=>hQ _ _ _ _ _ h) (Or.inl ⟨by rfl,fun w hSw=>?_⟩) hS ?_
 ·obtain⟨s0,s1⟩:=hSw
  first | rfl | go_simp
 simp only[List.getElem_toArray,List.getElem_cons_zero,List.getElem_cons_succ,Act.put,List.setIfInBounds_toArray,List.set_cons_zero,List.set_cons_succ]
 refine wpAnyH_take (i:=16) (v:=(.bool false)) rfl (by kernel_rfl) (by kernel_rfl) (by kernel_rfl) (fun _ _ _ h=>hQ _ _ _ _ _ h) (Or.inl ⟨by rfl,fun w hSw=>?_⟩) hS ?_
 ·obtain⟨s0,s1⟩:=hSw
  first | rfl | go_simp
 simp only[List.getElem_toArray,List.getElem_cons_zero,List.getElem_cons_succ,Act.put,List.setIfInBounds_toArray,List.set_cons_zero,List.set_cons_succ]
 refine wpAnyH_take (i:=17) (v:=undef) rfl (by kernel_rfl) (by kernel_rfl) (by kernel_rfl) (fun _ _ _ h=>hQ _ _ _ _ _ h) (Or.inr ⟨by rfl,rfl⟩) hS ?_
 simp only[List.getElem_toArray,List.getElem_cons_zero,List.getElem_cons_succ,Act.put,List.setIfInBounds_toArray,List.set_cons_zero,List.set_cons_succ]
 refine wpAnyH_take (i:=18) (v:=(.bool false)) rfl (by kernel_rfl) (by kernel_rfl) (by kernel_rfl) (fun _ _ _ h=>hQ _ _ _ _ _ h) (Or.inl ⟨by rfl,fun w hSw=>?_⟩) hS ?_
 ·obtain⟨s0,s1⟩:=hSw
  first | rfl | go_simp
 simp only[List.getElem_toArray,List.getElem_cons_zero,List.getElem_cons_succ,Act.put,List.setIfInBounds_toArray,List.set_cons_zero,List.set_cons_succ]
 refine wpAnyH_take (i:=19) (v:=(.bool true)) rfl (by kernel_rfl) (by kernel_rfl) (by kernel_rfl) (fun _ _ _ h=>hQ _ _ _ _ _ h) (Or.inl ⟨by rfl,fun w hSw=>?_⟩) hS ?_
 ·obtain⟨s0,s1⟩:=hSw
  first | rfl | go_simp
 simp only[List.getElem_toArray,List.getElem_cons_zero,List.getElem_cons_succ,Act.put,List.setIfInBounds_toArray,List.set_cons_zero,List.set_cons_succ]
 refine wpAnyH_take (i:=20) (v:=(.bool true)) rfl (by kernel_rfl) (by kernel_rfl) (by kernel_rfl) (fun _ _ _ h=>hQ _ _ _ _ _ h) (Or.inl ⟨by rfl,fun w hSw=>?_⟩) hS ?_
 ·obtain⟨s0,s1⟩:=hSw
  first | rfl | go_simp
 simp only[List.getElem_toArray,List.getElem_cons_zero,List.getElem_cons_succ,Act.put,List.setIfInBounds_toArray,List.set_cons_zero,List.set_cons_succ]
 refine wpAnyH_ready (rs:=[4,21]) (by kernel_rfl) (by simp) ?_
 refine AllReadyH.cons rfl (fun K' hK'=>?_) (AllReadyH.cons rfl (fun K' hK'=>?_) AllReadyH.nil)
 ·go_simp
  refine hK'.out _ _ hS (fun hS=>?_)
  clear hK' K'
  try simp only[List.getElem_toArray,List.getElem_cons_zero,List.getElem_cons_succ,Act.put,List.setIfInBounds_toArray,List.set_cons_zero,List.set_cons_succ]
  refine wpAnyH_ready (rs:=[21]) (by kernel_rfl) (by simp) ?_
  refine AllReadyH.cons rfl (fun K' hK'=>?_) AllReadyH.nil
  go_simp
  refine hK'.out _ _ ⟨HP0.out,HP1.out⟩ (fun hS=>?_)
  clear hK' K'
  try simp only[List.getElem_toArray,List.getElem_cons_zero,List.getElem_cons_succ,Act.put,List.setIfInBounds_toArray,List.set_cons_zero,List.set_cons_succ]
  refine wpAnyH_ready (rs:=[22]) (by kernel_rfl) (by simp) ?_
  refine AllReadyH.cons rfl (fun K' hK'=>?_) AllReadyH.nil
  refine step_append_lies _ rfl (.tmp 36) (.tmp 53) 60 rfl B 4 i0 (.bool false) 1 1 Tryz.underlying60 hi hz0 hz1 hz2 rfl (by decide) pv k xs (by simp[Act.eval]) (by exact HO.out) ⟨w1.heap.size,0,none⟩ 1 1 [.bool true] (by simp[Act.eval]) rfl (by exact HN.out) (by simp[Value.oneCell']) (by decide) (by unfold maxLen;omega) (by omega) (by simp;omega) (w1.heap.size+1) (by simp) ?_
  intro g1 cap1 w3 hown3 hgrow hat hlt3
  have c2:=(hgrow.cell_far ⟨g,2,none⟩ (by simp;omega) hne).trans HC2.out
  have f2:=(hgrow.frozen_far ⟨g,2,none⟩ (by simp;omega) hne).trans HF2.out
  have k0:=(hgrow.cell_far ⟨gp,0,none⟩ (by simp;omega) hgo).trans HP0.out
  have k1:=(hgrow.cell_far ⟨gp,1,none⟩ (by simp;omega) hgo).trans HP1.out
  refine hK'.out _ _ ⟨k0,k1⟩ (fun hS=>?_)
  clear hK' K'
  try simp only[List.getElem_toArray,List.getElem_cons_zero,List.getElem_cons_succ,Act.put,List.setIfInBounds_toArray,List.set_cons_zero,List.set_cons_succ]
  refine wpAnyH_take (i:=23) (v:=(.pointer (some ⟨g,0,none⟩))) rfl (by kernel_rfl) (by kernel_rfl) (by kernel_rfl) (fun _ _ _ h=>hQ _ _ _ _ _ h) (Or.inl ⟨by rfl,fun w hSw=>?_⟩) hS ?_
  ·obtain⟨s0,s1⟩:=hSw
   first | rfl | go_simp
  simp only[List.getElem_toArray,List.getElem_cons_zero,List.getElem_cons_succ,Act.put,List.setIfInBounds_toArray,List.set_cons_zero,List.set_cons_succ]
  refine wpAnyH_take (i:=24) (v:=(.pointer (some ⟨g,2,none⟩))) rfl (by kernel_rfl) (by kernel_rfl) (by kernel_rfl) (fun _ _ _ h=>hQ _ _ _ _ _ h) (Or.inl ⟨by rfl,fun w hSw=>?_⟩) hS ?_
  ·obtain⟨s0,s1⟩:=hSw
   first | rfl | go_simp
  simp only[List.getElem_toArray,List.getElem_cons_zero,List.getElem_cons_succ,Act.put,List.setIfInBounds_toArray,List.set_cons_zero,List.set_cons_succ]
  refine wpAnyH_ready (rs:=[25]) (by kernel_rfl) (by simp) ?_
  refine AllReadyH.cons rfl (fun K' hK'=>?_) AllReadyH.nil
  go_simp
  refine hK'.out _ _ ⟨(cell_set_ne hgg).trans k0,(cell_set_ne hgg).trans k1⟩ (fun hS=>?_)
  clear hK' K'
  try simp only[List.getElem_toArray,List.getElem_cons_zero,List.getElem_cons_succ,Act.put,List.setIfInBounds_toArray,List.set_cons_zero,List.set_cons_succ]
  refine wpAnyH_done (by kernel_rfl) ?_ _
  exact hK.out _ _ _ _ _ _ _ _ _ _ _ _ _ _ _ _ _ _ _ _ _ _ _ _ _ _ _ _ hown3 hgrow
 ·go_simp
  refine hK'.out _ _ ⟨HP0.out,HP1.out⟩ (fun hS=>?_)
  clear hK' K'
  try simp only[List.getElem_toArray,List.getElem_cons_zero,List.getElem_cons_succ,Act.put,List.setIfInBounds_toArray,List.set_cons_zero,List.set_cons_succ]
  refine wpAnyH_ready (rs:=[4]) (by kernel_rfl) (by simp) ?_
  refine AllReadyH.cons rfl (fun K' hK'=>?_) AllReadyH.nil
  go_simp
  refine hK'.out _ _ ⟨HP0.out,HP1.out⟩ (fun hS=>?_)
  clear hK' K'
  try simp only[List.getElem_toArray,List.getElem_cons_zero,List.getElem_cons_succ,Act.put,List.setIfInBounds_toArray,List.set_cons_zero,List.set_cons_succ]
  refine wpAnyH_ready (rs:=[22]) (by kernel_rfl) (by simp) ?_
  refine AllReadyH.cons rfl (fun K' hK'=>?_) AllReadyH.nil
  refine step_append_lies _ rfl (.tmp 36) (.tmp 53) 60 rfl B 4 i0 (.bool false) 1 1 Tryz.underlying60 hi hz0 hz1 hz2 rfl (by decide) pv k xs (by simp[Act.eval]) (by exact HO.out) ⟨w1.heap.size,0,none⟩ 1 1 [.bool true] (by simp[Act.eval]) rfl (by exact HN.out) (by simp[Value.oneCell']) (by decide) (by unfold maxLen;omega) (by omega) (by simp;omega) (w1.heap.size+1) (by simp) ?_
  intro g1 cap1 w3 hown3 hgrow hat hlt3
  have c2:=(hgrow.cell_far ⟨g,2,none⟩ (by simp;omega) hne).trans HC2.out
  have f2:=(hgrow.frozen_far ⟨g,2,none⟩ (by simp;omega) hne).trans HF2.out
  have k0:=(hgrow.cell_far ⟨gp,0,none⟩ (by simp;omega) hgo).trans HP0.out
  have k1:=(hgrow.cell_far ⟨gp,1,none⟩ (by simp;omega) hgo).trans HP1.out
  refine hK'.out _ _ ⟨k0,k1⟩ (fun hS=>?_)
  clear hK' K'
  try simp only[List.getElem_toArray,List.getElem_cons_zero,List.getElem_cons_succ,Act.put,List.setIfInBounds_toArray,List.set_cons_zero,List.set_cons_succ]
  refine wpAnyH_take (i:=23) (v:=(.pointer (some ⟨g,0,none⟩))) rfl (by kernel_rfl) (by kernel_rfl) (by kernel_rfl) (fun _ _ _ h=>hQ _ _ _ _ _ h) (Or.inl ⟨by rfl,fun w hSw=>?_⟩) hS ?_
  ·obtain⟨s0,s1⟩:=hSw
   first | rfl | go_simp
  simp only[List.getElem_toArray,List.getElem_cons_zero,List.getElem_cons_succ,Act.put,List.setIfInBounds_toArray,List.set_cons_zero,List.set_cons_succ]
  refine wpAnyH_take (i:=24) (v:=(.pointer (some ⟨g,2,none⟩))) rfl (by kernel_rfl) (by kernel_rfl) (by kernel_rfl) (fun _ _ _ h=>hQ _ _ _ _ _ h) (Or.inl ⟨by rfl,fun w hSw=>?_⟩) hS ?_
  ·obtain⟨s0,s1⟩:=hSw
   first | rfl | go_simp
  simp only[List.getElem_toArray,List.getElem_cons_zero,List.getElem_cons_succ,Act.put,List.setIfInBounds_toArray,List.set_cons_zero,List.set_cons_succ]
  refine wpAnyH_ready (rs:=[25]) (by kernel_rfl) (by simp) ?_
  refine AllReadyH.cons rfl (fun K' hK'=>?_) AllReadyH.nil
  go_simp
  refine hK'.out _ _ ⟨(cell_set_ne hgg).trans k0,(cell_set_ne hgg).trans k1⟩ (fun hS=>?_)
  clear hK' K'
  try simp only[List.getElem_toArray,List.getElem_cons_zero,List.getElem_cons_succ,Act.put,List.setIfInBounds_toArray,List.set_cons_zero,List.set_cons_succ]
  refine wpAnyH_done (by kernel_rfl) ?_ _
  exact hK.out _ _ _ _ _ _ _ _ _ _ _ _ _ _ _ _ _ _ _ _ _ _ _ _ _ _ _ _ hown3 hgrow
set_option linter.unusedSimpArgs false in
set_option maxRecDepth 1000000 in
set_option maxHeartbeats 12800000 in
theorem VurRegC (q:Bool) (w1:World) (B g gp k:Nat) (pv:Value) (fb:Bool) (xs:List Value) (hwr:Hid (VrAt w1 g ⟨#[]⟩ 0 pv fb)) (hp:w1.heap[gp]?=some (.cells #[.bool true,.bool false] 4 (0,0))) (hown:Hid (w1.ownsRow B 4 1 pv k xs)) (hk:k<3) (hB:B≤w1.heap.size) (hgg:gp≠g) (hgo:some gp≠pv.ownBlock)
  (Q:Exit→Act→World→Prop) (hQ:∀ c (a:Act) (d:Option Tmp) (v:Value) w,Q (.panic c) (a.put d v) w→Q (.panic c) a w) (u0 u1 u2 u3 u4 u6 Za Zb Zc Zd Ze Zf Zg Zh Zi Zj Zk Zl Zm Zn Zo Zp Zq Zr Zs Zt Zu Zv Zw Zx Zy Zz ZA ZB ZC ZD ZE ZF ZG ZH ZI ZJ ZK ZL ZM ZN ZO ZP ZQ ZR ZS ZT ZU ZV ZW ZX ZY ZZ Z0 Z1 Z2 Z3 Z4 Z5 Z6 Z7 Z8 Z9 Ya Yb Yc Yd Ye Yf Yg Yh Yi Yj Yk Yl Ym Yn Yo Yp Yq Yr Ys:Value)
  (hK:Hid (∀ (Yt Yu Yv Yw Yx Yy Yz YA YB YC YD YE YF YG YH YI YJ YK YL YM YN YO YP YQ YR:Value) (g1 cap1:Nat) (w3:World),w3.ownsRow B 4 1 (.slice (some ⟨g1,0,none⟩) (k+1) cap1) (k+1) (xs++[.bool true])→(w1.drew.alloc (.cells #[.bool true] 4)).grownBy w3 pv.ownBlock→Q .normal ⟨#[u0,u1,u2,u3,u4,.pointer (some ⟨g,0,none⟩),u6,.slice (some ⟨gp,0,none⟩) 2 2,.bool false,.bool q,Za,Zb,Zc,Zd,Ze,Zf,Zg,Zh,Zi,Zj,Zk,Zl,Zm,Zn,Zo,Zp,Zq,Zr,Zs,Zt,Zu,Zv,Yt,Yu,Yv,Yw,Yx,Yy,Yz,YA,YB,YC,YD,YE,YF,YG,YH,YI,YJ,YK,YL,YM,YN,YO,YP,YQ,YR,ZV,ZW,ZX,ZY,ZZ,Z0,Z1,Z2,Z3,Z4,Z5,Z6,Z7,Z8,Z9,Ya,Yb,Yc,Yd,Ye,Yf,Yg,Yh,Yi,Yj,Yk,Yl,Ym,Yn,Yo,Yp,Yq,Yr,Ys],[]⟩ (w3.setCell ⟨g,2,none⟩ (.slice (some ⟨g1,0,none⟩) (k+1) cap1)))) :
  Code.wp Tryz.prog ((stmOf (inOf (stmOf (bodyOf Tryz.f8) 2)) 1)) Q ⟨#[u0,u1,u2,u3,u4,.pointer (some ⟨g,0,none⟩),u6,.slice (some ⟨gp,0,none⟩) 2 2,.bool false,.bool q,Za,Zb,Zc,Zd,Ze,Zf,Zg,Zh,Zi,Zj,Zk,Zl,Zm,Zn,Zo,Zp,Zq,Zr,Zs,Zt,Zu,Zv,Zw,Zx,Zy,Zz,ZA,ZB,ZC,ZD,ZE,ZF,ZG,ZH,ZI,ZJ,ZK,ZL,ZM,ZN,ZO,ZP,ZQ,ZR,ZS,ZT,ZU,ZV,ZW,ZX,ZY,ZZ,Z0,Z1,Z2,Z3,Z4,Z5,Z6,Z7,Z8,Z9,Ya,Yb,Yc,Yd,Ye,Yf,Yg,Yh,Yi,Yj,Yk,Yl,Ym,Yn,Yo,Yp,Yq,Yr,Ys],[]⟩ w1:=by
 obtain⟨i0,hi,hz0,hz1,hz2⟩:=info_parts Tryz.infoBool
 obtain⟨glt,gfr,g0,g1,g2,g3⟩:=hwr.out.facts
 obtain⟨p1,p2,p3,p4⟩:=pairB_facts hp
 have hne:some g≠pv.ownBlock:=Ne.symm (own_ne_blk hown.out hwr.out (by decide))
 have hplt:gp<w1.heap.size:=(Array.getElem?_eq_some_iff.1 hp).1
 have HO:Hid ((w1.drew.alloc (.cells #[.bool true] 4)).ownsRow B 4 1 pv k xs):=(hown.out.drew).alloc _
 have HN:Hid (∀ j u,[Value.bool true][j]?=some u→(w1.drew.alloc (.cells #[.bool true] 4)).cell? ((⟨w1.heap.size,0,none⟩:Addr).add j)=some u):=World.news_of_block (cs:=#[.bool true]) (t:=4) (fr:=(0,0)) (by have:=heap_alloc_new w1.drew (.cells #[.bool true] 4);simpa using this)
 have HF2:Hid ((w1.drew.alloc (.cells #[.bool true] 4)).frozen? ⟨g,2,none⟩=false):=(World.frozen?_of_block (w:=w1) (a:=⟨g,2,none⟩) (Below.heap_alloc _ _ _ glt)).trans (gfr 2)
 have HC2:Hid ((w1.drew.alloc (.cells #[.bool true] 4)).cell? ⟨g,2,none⟩=some pv):=(World.cell?_of_block (w:=w1) (a:=⟨g,2,none⟩) (Below.heap_alloc _ _ _ glt)).trans g2
 have HP0:Hid ((w1.drew.alloc (.cells #[.bool true] 4)).cell? ⟨gp,0,none⟩=some (.bool true)):=(World.cell?_of_block (w:=w1) (a:=⟨gp,0,none⟩) (Below.heap_alloc _ _ _ hplt)).trans p1
 have HP1:Hid ((w1.drew.alloc (.cells #[.bool true] 4)).cell? ⟨gp,1,none⟩=some (.bool false)):=(World.cell?_of_block (w:=w1) (a:=⟨gp,1,none⟩) (Below.heap_alloc _ _ _ hplt)).trans p2
 have c2':=HC2.out
 clear hp g0 g1 g3 p3 p4
 conv=>arg 2;whnf
 dsimp only
 refine wp_region_held_drew (S:=fun w'=>w'.cell? ⟨gp,0,none⟩=some (.bool true)∧w'.cell? ⟨gp,1,none⟩=some (.bool false)) (by kernel_rfl) ⟨p1,p2⟩ (fun hS=>?_)
 refine wpAnyH_take (i:=0) (v:=(.pointer (some ⟨g,0,none⟩))) rfl (by kernel_rfl) (by kernel_rfl) (by kernel_rfl) (fun _ _ _ h=>hQ _ _ _ _ _ h) (Or.inl ⟨by rfl,fun w hSw=>?_⟩) hS ?_
 ·obtain⟨s0,s1⟩:=hSw
  first | rfl | go_simp
 simp only[List.getElem_toArray,List.getElem_cons_zero,List.getElem_cons_succ,Act.put,List.setIfInBounds_toArray,List.set_cons_zero,List.set_cons_succ]
 refine wpAnyH_take (i:=1) (v:=(.pointer (some ⟨g,0,none⟩))) rfl (by kernel_rfl) (by kernel_rfl) (by kernel_rfl) (fun _ _ _ h=>hQ _ _ _ _ _ h) (Or.inl ⟨by rfl,fun w hSw=>?_⟩) hS ?_
 ·obtain⟨s0,s1⟩:=hSw
  first | rfl | go_simp
 simp only[List.getElem_toArray,List.getElem_cons_zero,List.getElem_cons_succ,Act.put,List.setIfInBounds_toArray,List.set_cons_zero,List.set_cons_succ]
 refine wpAnyH_take (i:=2) (v:=(.pointer (some ⟨g,0,none⟩))) rfl (by kernel_rfl) (by kernel_rfl) (by kernel_rfl) (fun _ _ _ h=>hQ _ _ _ _ _ h) (Or.inl ⟨by rfl,fun w hSw=>?_⟩) hS ?_
 ·obtain⟨s0,s1⟩:=hSw
  first | rfl | go_simp
 simp only[List.getElem_toArray,List.getElem_cons_zero,List.getElem_cons_succ,Act.put,List.setIfInBounds_toArray,List.set_cons_zero,List.set_cons_succ]
 refine wpAnyH_take (i:=3) (v:=(.pointer (some ⟨g,2,none⟩))) rfl (by kernel_rfl) (by kernel_rfl) (by kernel_rfl) (fun _ _ _ h=>hQ _ _ _ _ _ h) (Or.inl ⟨by rfl,fun w hSw=>?_⟩) hS ?_
 ·obtain⟨s0,s1⟩:=hSw
  first | rfl | go_simp
 simp only[List.getElem_toArray,List.getElem_cons_zero,List.getElem_cons_succ,Act.put,List.setIfInBounds_toArray,List.set_cons_zero,List.set_cons_succ]
 refine wpAnyH_take (i:=5) (v:=(.bool false)) rfl (by kernel_rfl) (by kernel_rfl) (by kernel_rfl) (fun _ _ _ h=>hQ _ _ _ _ _ h) (Or.inl ⟨by rfl,fun w hSw=>?_⟩) hS ?_
 ·obtain⟨s0,s1⟩:=hSw
  first | rfl | go_simp
 simp only[List.getElem_toArray,List.getElem_cons_zero,List.getElem_cons_succ,Act.put,List.setIfInBounds_toArray,List.set_cons_zero,List.set_cons_succ]
 refine wpAnyH_take (i:=6) (v:=(.bool true)) rfl (by kernel_rfl) (by kernel_rfl) (by kernel_rfl) (fun _ _ _ h=>hQ _ _ _ _ _ h) (Or.inl ⟨by rfl,fun w hSw=>?_⟩) hS ?_
 ·obtain⟨s0,s1⟩:=hSw
  first | rfl | go_simp
 simp only[List.getElem_toArray,List.getElem_cons_zero,List.getElem_cons_succ,Act.put,List.setIfInBounds_toArray,List.set_cons_zero,List.set_cons_succ]
 refine wpAnyH_take (i:=7) (v:=(.bool true)) rfl (by kernel_rfl) (by kernel_rfl) (by kernel_rfl) (fun _ _ _ h=>hQ _ _ _ _ _ h) (Or.inl ⟨by rfl,fun w hSw=>?_⟩) hS ?_
 ·obtain⟨s0,s1⟩:=hSw
  first | rfl | go_simp
 simp only[List.getElem_toArray,List.getElem_cons_zero,List.getElem_cons_succ,Act.put,List.setIfInBounds_toArray,List.set_cons_zero,List.set_cons_succ]
 refine wpAnyH_take (i:=8) (v:=(.slice (some ⟨gp,0,none⟩) 2 2)) rfl (by kernel_rfl) (by kernel_rfl) (by kernel_rfl) (fun _ _ _ h=>hQ _ _ _ _ _ h) (Or.inl ⟨by rfl,fun w hSw=>?_⟩) hS ?_
 ·obtain⟨s0,s1⟩:=hSw
  first | rfl | go_simp
 simp only[List.getElem_toArray,List.getElem_cons_zero,List.getElem_cons_succ,Act.put,List.setIfInBounds_toArray,List.set_cons_zero,List.set_cons_succ]
 refine wpAnyH_take (i:=9) (v:=(.pointer (some ⟨gp,0,none⟩))) rfl (by kernel_rfl) (by kernel_rfl) (by kernel_rfl) (fun _ _ _ h=>hQ _ _ _ _ _ h) (Or.inl ⟨by rfl,fun w hSw=>?_⟩) hS ?_
 ·obtain⟨s0,s1⟩:=hSw
  first | rfl | go_simp
 simp only[List.getElem_toArray,List.getElem_cons_zero,List.getElem_cons_succ,Act.put,List.setIfInBounds_toArray,List.set_cons_zero,List.set_cons_succ]
 refine wpAnyH_take (i:=10) (v:=(.bool true)) rfl (by kernel_rfl) (by kernel_rfl) (by kernel_rfl) (fun _ _ _ h=>hQ _ _ _ _ _ h) (Or.inl ⟨by rfl,fun w hSw=>?_⟩) hS ?_
 ·obtain⟨s0,s1⟩:=hSw
  first | rfl | go_simp
 simp only[List.getElem_toArray,List.getElem_cons_zero,List.getElem_cons_succ,Act.put,List.setIfInBounds_toArray,List.set_cons_zero,List.set_cons_succ]
 refine wpAnyH_take (i:=11) (v:=(.bool true)) rfl (by kernel_rfl) (by kernel_rfl) (by kernel_rfl) (fun _ _ _ h=>hQ _ _ _ _ _ h) (Or.inl ⟨by rfl,fun w hSw=>?_⟩) hS ?_
 ·obtain⟨s0,s1⟩:=hSw
  first | rfl | go_simp
 simp only[List.getElem_toArray,List.getElem_cons_zero,List.getElem_cons_succ,Act.put,List.setIfInBounds_toArray,List.set_cons_zero,List.set_cons_succ]
 refine wpAnyH_take (i:=12) (v:=(.slice (some ⟨gp,0,none⟩) 2 2)) rfl (by kernel_rfl) (by kernel_rfl) (by kernel_rfl) (fun _ _ _ h=>hQ _ _ _ _ _ h) (Or.inl ⟨by rfl,fun w hSw=>?_⟩) hS ?_
 ·obtain⟨s0,s1⟩:=hSw
  first | rfl | go_simp
 simp only[List.getElem_toArray,List.getElem_cons_zero,List.getElem_cons_succ,Act.put,List.setIfInBounds_toArray,List.set_cons_zero,List.set_cons_succ]
 refine wpAnyH_take (i:=13) (v:=(.pointer (some ⟨gp,1,none⟩))) rfl (by kernel_rfl) (by kernel_rfl) (by kernel_rfl) (fun _ _ _ h=>hQ _ _ _ _ _ h) (Or.inl ⟨by rfl,fun w hSw=>?_⟩) hS ?_
 ·obtain⟨s0,s1⟩:=hSw
  first | rfl | go_simp
 simp only[List.getElem_toArray,List.getElem_cons_zero,List.getElem_cons_succ,Act.put,List.setIfInBounds_toArray,List.set_cons_zero,List.set_cons_succ]
 refine wpAnyH_take (i:=14) (v:=(.bool false)) rfl (by kernel_rfl) (by kernel_rfl) (by kernel_rfl) (fun _ _ _ h=>hQ _ _ _ _ _ h) (Or.inl ⟨by rfl,fun w hSw=>?_⟩) hS ?_
 ·obtain⟨s0,s1⟩:=hSw
  first | rfl | go_simp
 simp only[List.getElem_toArray,List.getElem_cons_zero,List.getElem_cons_succ,Act.put,List.setIfInBounds_toArray,List.set_cons_zero,List.set_cons_succ]
 refine wpAnyH_take (i:=15) (v:=(.bool false)) rfl (by kernel_rfl) (by kernel_rfl) (by kernel_rfl) (fun _ _ _ h=>hQ _ _ _ _ _ h) (Or.inl ⟨by rfl,fun w hSw=>?_⟩) hS ?_
 ·obtain⟨s0,s1⟩:=hSw
  first | rfl | go_simp
 simp only[List.getElem_toArray,List.getElem_cons_zero,List.getElem_cons_succ,Act.put,List.setIfInBounds_toArray,List.set_cons_zero,List.set_cons_succ]
 refine wpAnyH_take (i:=16) (v:=(.bool false)) rfl (by kernel_rfl) (by kernel_rfl) (by kernel_rfl) (fun _ _ _ h=>hQ _ _ _ _ _ h) (Or.inl ⟨by rfl,fun w hSw=>?_⟩) hS ?_
 ·obtain⟨s0,s1⟩:=hSw
  first | rfl | go_simp
 simp only[List.getElem_toArray,List.getElem_cons_zero,List.getElem_cons_succ,Act.put,List.setIfInBounds_toArray,List.set_cons_zero,List.set_cons_succ]
 refine wpAnyH_take (i:=17) (v:=undef) rfl (by kernel_rfl) (by kernel_rfl) (by kernel_rfl) (fun _ _ _ h=>hQ _ _ _ _ _ h) (Or.inr ⟨by rfl,rfl⟩) hS ?_
 simp only[List.getElem_toArray,List.getElem_cons_zero,List.getElem_cons_succ,Act.put,List.setIfInBounds_toArray,List.set_cons_zero,List.set_cons_succ]
 refine wpAnyH_take (i:=18) (v:=(.bool false)) rfl (by kernel_rfl) (by kernel_rfl) (by kernel_rfl) (fun _ _ _ h=>hQ _ _ _ _ _ h) (Or.inl ⟨by rfl,fun w hSw=>?_⟩) hS ?_
 ·obtain⟨s0,s1⟩:=hSw
  first | rfl | go_simp
 simp only[List.getElem_toArray,List.getElem_cons_zero,List.getElem_cons_succ,Act.put,List.setIfInBounds_toArray,List.set_cons_zero,List.set_cons_succ]
 refine wpAnyH_take (i:=19) (v:=(.bool true)) rfl (by kernel_rfl) (by kernel_rfl) (by kernel_rfl) (fun _ _ _ h=>hQ _ _ _ _ _ h) (Or.inl ⟨by rfl,fun w hSw=>?_⟩) hS ?_
 ·obtain⟨s0,s1⟩:=hSw
  first | rfl | go_simp
 simp only[List.getElem_toArray,List.getElem_cons_zero,List.getElem_cons_succ,Act.put,List.setIfInBounds_toArray,List.set_cons_zero,List.set_cons_succ]
 refine wpAnyH_take (i:=20) (v:=(.bool true)) rfl (by kernel_rfl) (by kernel_rfl) (by kernel_rfl) (fun _ _ _ h=>hQ _ _ _ _ _ h) (Or.inl ⟨by rfl,fun w hSw=>?_⟩) hS ?_
 ·obtain⟨s0,s1⟩:=hSw
  first | rfl | go_simp
 simp only[List.getElem_toArray,List.getElem_cons_zero,List.getElem_cons_succ,Act.put,List.setIfInBounds_toArray,List.set_cons_zero,List.set_cons_succ]
 refine wpAnyH_ready (rs:=[4,21]) (by kernel_rfl) (by simp) ?_
 refine AllReadyH.cons rfl (fun K' hK'=>?_) (AllReadyH.cons rfl (fun K' hK'=>?_) AllReadyH.nil)
 ·go_simp
  refine hK'.out _ _ hS (fun hS=>?_)
  clear hK' K'
  try simp only[List.getElem_toArray,List.getElem_cons_zero,List.getElem_cons_succ,Act.put,List.setIfInBounds_toArray,List.set_cons_zero,List.set_cons_succ]
  refine wpAnyH_ready (rs:=[21]) (by kernel_rfl) (by simp) ?_
  refine AllReadyH.cons rfl (fun K' hK'=>?_) AllReadyH.nil
  go_simp
  refine hK'.out _ _ ⟨HP0.out,HP1.out⟩ (fun hS=>?_)
  clear hK' K'
  try simp only[List.getElem_toArray,List.getElem_cons_zero,List.getElem_cons_succ,Act.put,List.setIfInBounds_toArray,List.set_cons_zero,List.set_cons_succ]
  refine wpAnyH_ready (rs:=[22]) (by kernel_rfl) (by simp) ?_
  refine AllReadyH.cons rfl (fun K' hK'=>?_) AllReadyH.nil
  refine step_append_lies _ rfl (.tmp 36) (.tmp 53) 60 rfl B 4 i0 (.bool false) 1 1 Tryz.underlying60 hi hz0 hz1 hz2 rfl (by decide) pv k xs (by simp[Act.eval]) (by exact HO.out) ⟨w1.heap.size,0,none⟩ 1 1 [.bool true] (by simp[Act.eval]) rfl (by exact HN.out) (by simp[Value.oneCell']) (by decide) (by unfold maxLen;omega) (by omega) (by simp;omega) (w1.heap.size+1) (by simp) ?_
  intro g1 cap1 w3 hown3 hgrow hat hlt3
  have c2:=(hgrow.cell_far ⟨g,2,none⟩ (by simp;omega) hne).trans HC2.out
  have f2:=(hgrow.frozen_far ⟨g,2,none⟩ (by simp;omega) hne).trans HF2.out
  have k0:=(hgrow.cell_far ⟨gp,0,none⟩ (by simp;omega) hgo).trans HP0.out
  have k1:=(hgrow.cell_far ⟨gp,1,none⟩ (by simp;omega) hgo).trans HP1.out
  refine hK'.out _ _ ⟨k0,k1⟩ (fun hS=>?_)
  clear hK' K'
  try simp only[List.getElem_toArray,List.getElem_cons_zero,List.getElem_cons_succ,Act.put,List.setIfInBounds_toArray,List.set_cons_zero,List.set_cons_succ]
  refine wpAnyH_take (i:=23) (v:=(.pointer (some ⟨g,0,none⟩))) rfl (by kernel_rfl) (by kernel_rfl) (by kernel_rfl) (fun _ _ _ h=>hQ _ _ _ _ _ h) (Or.inl ⟨by rfl,fun w hSw=>?_⟩) hS ?_
  ·obtain⟨s0,s1⟩:=hSw
   first | rfl | go_simp
  simp only[List.getElem_toArray,List.getElem_cons_zero,List.getElem_cons_succ,Act.put,List.setIfInBounds_toArray,List.set_cons_zero,List.set_cons_succ]
  refine wpAnyH_take (i:=24) (v:=(.pointer (some ⟨g,2,none⟩))) rfl (by kernel_rfl) (by kernel_rfl) (by kernel_rfl) (fun _ _ _ h=>hQ _ _ _ _ _ h) (Or.inl ⟨by rfl,fun w hSw=>?_⟩) hS ?_
  ·obtain⟨s0,s1⟩:=hSw
   first | rfl | go_simp
  simp only[List.getElem_toArray,List.getElem_cons_zero,List.getElem_cons_succ,Act.put,List.setIfInBounds_toArray,List.set_cons_zero,List.set_cons_succ]
  refine wpAnyH_ready (rs:=[25]) (by kernel_rfl) (by simp) ?_
  refine AllReadyH.cons rfl (fun K' hK'=>?_) AllReadyH.nil
  go_simp
  refine hK'.out _ _ ⟨(cell_set_ne hgg).trans k0,(cell_set_ne hgg).trans k1⟩ (fun hS=>?_)
  clear hK' K'
  try simp only[List.getElem_toArray,List.getElem_cons_zero,List.getElem_cons_succ,Act.put,List.setIfInBounds_toArray,List.set_cons_zero,List.set_cons_succ]
  refine wpAnyH_done (by kernel_rfl) ?_ _
  exact hK.out _ _ _ _ _ _ _ _ _ _ _ _ _ _ _ _ _ _ _ _ _ _ _ _ _ _ _ _ hown3 hgrow
 ·go_simp
  refine hK'.out _ _ ⟨HP0.out,HP1.out⟩ (fun hS=>?_)
  clear hK' K'
  try simp only[List.getElem_toArray,List.getElem_cons_zero,List.getElem_cons_succ,Act.put,List.setIfInBounds_toArray,List.set_cons_zero,List.set_cons_succ]
  refine wpAnyH_ready (rs:=[4]) (by kernel_rfl) (by simp) ?_
  refine AllReadyH.cons rfl (fun K' hK'=>?_) AllReadyH.nil
  go_simp
  refine hK'.out _ _ ⟨HP0.out,HP1.out⟩ (fun hS=>?_)
  clear hK' K'
  try simp only[List.getElem_toArray,List.getElem_cons_zero,List.getElem_cons_succ,Act.put,List.setIfInBounds_toArray,List.set_cons_zero,List.set_cons_succ]
  refine wpAnyH_ready (rs:=[22]) (by kernel_rfl) (by simp) ?_
  refine AllReadyH.cons rfl (fun K' hK'=>?_) AllReadyH.nil
  refine step_append_lies _ rfl (.tmp 36) (.tmp 53) 60 rfl B 4 i0 (.bool false) 1 1 Tryz.underlying60 hi hz0 hz1 hz2 rfl (by decide) pv k xs (by simp[Act.eval]) (by exact HO.out) ⟨w1.heap.size,0,none⟩ 1 1 [.bool true] (by simp[Act.eval]) rfl (by exact HN.out) (by simp[Value.oneCell']) (by decide) (by unfold maxLen;omega) (by omega) (by simp;omega) (w1.heap.size+1) (by simp) ?_
  intro g1 cap1 w3 hown3 hgrow hat hlt3
  have c2:=(hgrow.cell_far ⟨g,2,none⟩ (by simp;omega) hne).trans HC2.out
  have f2:=(hgrow.frozen_far ⟨g,2,none⟩ (by simp;omega) hne).trans HF2.out
  have k0:=(hgrow.cell_far ⟨gp,0,none⟩ (by simp;omega) hgo).trans HP0.out
  have k1:=(hgrow.cell_far ⟨gp,1,none⟩ (by simp;omega) hgo).trans HP1.out
  refine hK'.out _ _ ⟨k0,k1⟩ (fun hS=>?_)
  clear hK' K'
  try simp only[List.getElem_toArray,List.getElem_cons_zero,List.getElem_cons_succ,Act.put,List.setIfInBounds_toArray,List.set_cons_zero,List.set_cons_succ]
  refine wpAnyH_take (i:=23) (v:=(.pointer (some ⟨g,0,none⟩))) rfl (by kernel_rfl) (by kernel_rfl) (by kernel_rfl) (fun _ _ _ h=>hQ _ _ _ _ _ h) (Or.inl ⟨by rfl,fun w hSw=>?_⟩) hS ?_
  ·obtain⟨s0,s1⟩:=hSw
   first | rfl | go_simp
  simp only[List.getElem_toArray,List.getElem_cons_zero,List.getElem_cons_succ,Act.put,List.setIfInBounds_toArray,List.set_cons_zero,List.set_cons_succ]
  refine wpAnyH_take (i:=24) (v:=(.pointer (some ⟨g,2,none⟩))) rfl (by kernel_rfl) (by kernel_rfl) (by kernel_rfl) (fun _ _ _ h=>hQ _ _ _ _ _ h) (Or.inl ⟨by rfl,fun w hSw=>?_⟩) hS ?_
  ·obtain⟨s0,s1⟩:=hSw
   first | rfl | go_simp
  simp only[List.getElem_toArray,List.getElem_cons_zero,List.getElem_cons_succ,Act.put,List.setIfInBounds_toArray,List.set_cons_zero,List.set_cons_succ]
  refine wpAnyH_ready (rs:=[25]) (by kernel_rfl) (by simp) ?_
  refine AllReadyH.cons rfl (fun K' hK'=>?_) AllReadyH.nil
  go_simp
  refine hK'.out _ _ ⟨(cell_set_ne hgg).trans k0,(cell_set_ne hgg).trans k1⟩ (fun hS=>?_)
  clear hK' K'
  try simp only[List.getElem_toArray,List.getElem_cons_zero,List.getElem_cons_succ,Act.put,List.setIfInBounds_toArray,List.set_cons_zero,List.set_cons_succ]
  refine wpAnyH_done (by kernel_rfl) ?_ _
  exact hK.out _ _ _ _ _ _ _ _ _ _ _ _ _ _ _ _ _ _ _ _ _ _ _ _ _ _ _ _ hown3 hgrow
end Go.Proofs.YtpkjmdcabdplfaaGreatDoor
