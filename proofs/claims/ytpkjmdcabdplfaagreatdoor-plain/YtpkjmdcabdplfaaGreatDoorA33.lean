import Derived.BigQuiet
import Derived.Deep.QuietTactic
import Derived.Test.YtpkjmdcabdplfaaGreatDoorA31
set_option linter.unusedVariables false
set_option linter.unusedSimpArgs false
namespace Go.Proofs.YtpkjmdcabdplfaaGreatDoor
open Go Go.RowKit
set_option maxRecDepth 100000

set_option maxRecDepth 1000000 in
set_option maxHeartbeats 12800000 in
theorem WlPreN (w wr : World) (g : Nat) (tx : ByteArray) (lb : Int) (pv : Value) (l : List R.Tree) (n k : Nat) (u : ByteArray) (lk : Int) (b sc : Nat) (uv : Value) (t : R.Tree) (H : Hid (LC w wr g tx lb pv l n k u lk b uv t)) (hv0 : ¬ 0 ≤ t.x.var) (Q : Exit → Act → World → Prop) (c2 c3 u5 u6 u7 u8 u9 u10 u11 u12 u13 u14 u15 u16 u17 u18 u19 u20 u21 u22 u23 u24 u25 u26 u27 u28 u29 u30 u31 u32 u33 u34 u35 u36 u37 u38 u39 u40 u41 u42 u43 u44 u45 u46 u47 u48 u49 u50 u51 u52 u53 u54 u55 u56 u57 u58 u59 u60 u61 u62 u63 u64 u65 u66 u67 u68 u69 u70 u71 u72 u73 u74 u75 u76 u77 u78 u79 u80 u81 u82 u83 u84 u85 u86 u87 u88 u89 u90 u91 u92 u93 u94 u95 u96 u97 u98 u99 u100 u101 u102 u103 u104 u105 u106 u107 u108 u109 u110 u111 u112 u113 u114 u115 u116 u117 u118 u119 u120 u121 u122 u123 u124 u125 u126 u127 u128 u129 u130 u131 u132 u133 u134 u135 u136 u137 u138 u139 u140 u141 u142 u143 u144 u145 u146 u147 u148 u149 u150 u151 u152 u153 u154 u155 u156 u157 u158 u159 u160 u161 u162 u163 u164 u165 u166 u167 u168 u169 u170 u171 u172 u173 u174 u175 u176 u177 u178 u179 u180 u181 u182 u183 u184 u185 u186 u187 u188 u189 u190 u191 u192 u193 u194 u195 u196 u197 u198 u199 u200 u201 u202 u203 u204 u205 u206 u207 u208 u209 u210 u211 u212 u213 u214 u215 u216 u217 u218 u219 u220 u221 u222 u223 u224 u225 u226 u227 u228 u229 u230 u231 u232 u233 u234 u235 u236 u237 u238 u239 u240 u241 u242 u243 u244 u245 u246 u247 u248 u249 u250 u251 u252 u253 u254 u255 u256 : Value)
    (hK : Hid (∀ (sr sa sb se st : ByteArray) (w3 : World) (x13 x16 x17 x18 x19 x20 x21 x22 x23 x24 x25 x26 x27 x28 x29 x30 x31 x32 x33 x34 x35 x36 x37 x38 x39 x40 x41 x42 x43 x44 x45 x46 x47 x48 x49 x50 x51 x52 x53 x54 x55 x56 x57 x58 x59 x60 x61 x62 x63 x64 x65 x66 x67 x68 x69 x70 x71 x72 x73 x74 x75 x76 x77 x78 x79 x80 x81 x82 x83 x84 x85 x86 x87 x88 x89 x90 x91 x92 x93 x94 x95 x96 x97 x98 x99 x100 x101 x102 x103 x104 x105 x106 x107 x108 x109 x110 x111 x112 x113 x114 x115 x116 x117 x119 x120 x121 x122 x123 x124 x125 x126 x127 x128 x129 x130 x131 x132 x133 x134 x135 x136 x137 x138 x139 x140 x141 x142 x143 x144 x145 x146 x147 x148 x149 x150 x151 x152 x153 x154 x155 x156 x157 x158 x159 x160 x161 x162 x163 x164 x165 x166 x167 x168 x169 x170 x171 x172 x173 x174 x175 x176 x177 x178 x179 x180 x181 x182 x183 x184 x185 x186 x187 x188 x189 x190 x191 x192 x193 x194 x195 x196 x197 x198 x199 x200 x201 x202 x203 x204 x205 x206 x207 x208 x209 x210 x211 x212 x213 x214 x215 x216 x217 x218 x219 x220 x221 x222 x223 x224 x225 x226 x227 x228 x229 x230 x231 x232 x233 x234 x235 x236 x237 x238 x239 x240 x241 x242 x243 x244 x245 x246 x247 x248 x249 x250 x251 x252 x253 x254 x255 x256 : Value), Txt 4 sr (R.regT t.x) → Txt 4 sa (R.shown t.x.a) → Txt 4 sb (R.shown t.x.b) → Txt 3 se (R.celT t.x.var) → Txt 10000 st (R.scopd t.x.ord.toList t.x.scope.toList) → Below wr.heap.size wr w3 → wpL Tryz.prog [(stmOf (inOf (stmOf (bodyOf Tryz.f22) 2)) 15), (stmOf (inOf (stmOf (bodyOf Tryz.f22) 2)) 16)] Q ⟨#[.pointer (some ⟨g, 0, none⟩), .slice (some ⟨b, 0, none⟩) n sc, c2, c3, .int .i64 (k : Int), .pointer (some ⟨b, k * 9, none⟩), .string sr, .string sa, .string sb, .string se, .string t.x.ord, .string ⟨#[]⟩, .string ⟨#[]⟩, x13, .string st, .string ⟨#[]⟩, x16, x17, x18, x19, x20, x21, x22, x23, x24, x25, x26, x27, x28, x29, x30, x31, x32, x33, x34, x35, x36, x37, x38, x39, x40, x41, x42, x43, x44, x45, x46, x47, x48, x49, x50, x51, x52, x53, x54, x55, x56, x57, x58, x59, x60, x61, x62, x63, x64, x65, x66, x67, x68, x69, x70, x71, x72, x73, x74, x75, x76, x77, x78, x79, x80, x81, x82, x83, x84, x85, x86, x87, x88, x89, x90, x91, x92, x93, x94, x95, x96, x97, x98, x99, x100, x101, x102, x103, x104, x105, x106, x107, x108, x109, x110, x111, x112, x113, x114, x115, x116, x117, .string t.x.op, x119, x120, x121, x122, x123, x124, x125, x126, x127, x128, x129, x130, x131, x132, x133, x134, x135, x136, x137, x138, x139, x140, x141, x142, x143, x144, x145, x146, x147, x148, x149, x150, x151, x152, x153, x154, x155, x156, x157, x158, x159, x160, x161, x162, x163, x164, x165, x166, x167, x168, x169, x170, x171, x172, x173, x174, x175, x176, x177, x178, x179, x180, x181, x182, x183, x184, x185, x186, x187, x188, x189, x190, x191, x192, x193, x194, x195, x196, x197, x198, x199, x200, x201, x202, x203, x204, x205, x206, x207, x208, x209, x210, x211, x212, x213, x214, x215, x216, x217, x218, x219, x220, x221, x222, x223, x224, x225, x226, x227, x228, x229, x230, x231, x232, x233, x234, x235, x236, x237, x238, x239, x240, x241, x242, x243, x244, x245, x246, x247, x248, x249, x250, x251, x252, x253, x254, x255, x256], []⟩ w3)) :
    wpL Tryz.prog [(stmOf (inOf (stmOf (bodyOf Tryz.f22) 2)) 0), (stmOf (inOf (stmOf (bodyOf Tryz.f22) 2)) 1), (stmOf (inOf (stmOf (bodyOf Tryz.f22) 2)) 2), (stmOf (inOf (stmOf (bodyOf Tryz.f22) 2)) 3), (stmOf (inOf (stmOf (bodyOf Tryz.f22) 2)) 4), (stmOf (inOf (stmOf (bodyOf Tryz.f22) 2)) 5), (stmOf (inOf (stmOf (bodyOf Tryz.f22) 2)) 6), (stmOf (inOf (stmOf (bodyOf Tryz.f22) 2)) 7), (stmOf (inOf (stmOf (bodyOf Tryz.f22) 2)) 8), (stmOf (inOf (stmOf (bodyOf Tryz.f22) 2)) 9), (stmOf (inOf (stmOf (bodyOf Tryz.f22) 2)) 10), (stmOf (inOf (stmOf (bodyOf Tryz.f22) 2)) 11), (stmOf (inOf (stmOf (bodyOf Tryz.f22) 2)) 12), (stmOf (inOf (stmOf (bodyOf Tryz.f22) 2)) 13), (stmOf (inOf (stmOf (bodyOf Tryz.f22) 2)) 14), (stmOf (inOf (stmOf (bodyOf Tryz.f22) 2)) 15), (stmOf (inOf (stmOf (bodyOf Tryz.f22) 2)) 16)] Q ⟨#[.pointer (some ⟨g, 0, none⟩), .slice (some ⟨b, 0, none⟩) n sc, c2, c3, .int .i64 (k : Int), u5, u6, u7, u8, u9, u10, u11, u12, u13, u14, u15, u16, u17, u18, u19, u20, u21, u22, u23, u24, u25, u26, u27, u28, u29, u30, u31, u32, u33, u34, u35, u36, u37, u38, u39, u40, u41, u42, u43, u44, u45, u46, u47, u48, u49, u50, u51, u52, u53, u54, u55, u56, u57, u58, u59, u60, u61, u62, u63, u64, u65, u66, u67, u68, u69, u70, u71, u72, u73, u74, u75, u76, u77, u78, u79, u80, u81, u82, u83, u84, u85, u86, u87, u88, u89, u90, u91, u92, u93, u94, u95, u96, u97, u98, u99, u100, u101, u102, u103, u104, u105, u106, u107, u108, u109, u110, u111, u112, u113, u114, u115, u116, u117, u118, u119, u120, u121, u122, u123, u124, u125, u126, u127, u128, u129, u130, u131, u132, u133, u134, u135, u136, u137, u138, u139, u140, u141, u142, u143, u144, u145, u146, u147, u148, u149, u150, u151, u152, u153, u154, u155, u156, u157, u158, u159, u160, u161, u162, u163, u164, u165, u166, u167, u168, u169, u170, u171, u172, u173, u174, u175, u176, u177, u178, u179, u180, u181, u182, u183, u184, u185, u186, u187, u188, u189, u190, u191, u192, u193, u194, u195, u196, u197, u198, u199, u200, u201, u202, u203, u204, u205, u206, u207, u208, u209, u210, u211, u212, u213, u214, u215, u216, u217, u218, u219, u220, u221, u222, u223, u224, u225, u226, u227, u228, u229, u230, u231, u232, u233, u234, u235, u236, u237, u238, u239, u240, u241, u242, u243, u244, u245, u246, u247, u248, u249, u250, u251, u252, u253, u254, u255, u256], []⟩ wr := by
  have hlt := H.out.hlt
  have hn := H.out.hn
  have hin : (k : Int) < (n : Int) := by omega
  obtain ⟨r0, r1, v0, v1, a0, a1, b0, b1, os, ss⟩ := H.out.fit.ok
  have hbg := H.out.hbg
  have hblt := H.out.hblt
  have hw0 := H.out.hw
  obtain ⟨glt, gfr, g0, g1, g2, g3⟩ := hw0.facts
  obtain ⟨d0, d1, d2, d3, d4, d5, d6, d7, d8⟩ := H.out.hx wr (grown_refl _ _)
  clear hw0 d0 d2 d3 d4 d5 d6 d7 d8 g0 g1 g2 g3 gfr
  have hvd : decide (0 ≤ t.x.var) = false := by simpa using hv0
  have hce : Hid (Txt 3 (⟨#[]⟩ : ByteArray) (R.celT t.x.var)) := ⟨by unfold R.celT; rw [if_neg hv0, lit_toList], by simp [lit_size]⟩
  dsimp only
  refine wpL_step (fun K hK => ?_)
  have HK := hide hK
  clear hK
  conv => arg 2; whnf
  go_wp2_with fail
  refine HK.out _ _ ?_
  clear HK
  refine wpL_step (fun K hK => ?_)
  have HK := hide hK
  clear hK
  conv => arg 2; whnf
  go_wp2_with (first | (go_at_call 41; refine (shown_any (-1 - t.x.reg) _ (by omega) (by omega)).mono ?_; rintro e w1 ⟨sr, rfl, hsr, B1⟩; have zr := hsr.size; obtain ⟨d0, d1, d2, d3, d4, d5, d6, d7, d8, W1, glt, gfr, g0, g1, g2, g3⟩ := H.out.facts B1; clear d0 d1 d2 d4 d5 d6 d7 d8 g0 g1 g2 g3 W1; dsimp only))
  refine HK.out _ _ ?_
  clear HK
  refine wpL_step (fun K hK => ?_)
  have HK := hide hK
  clear hK
  conv => arg 2; whnf
  go_wp2_with (first | (go_at_call 41; refine (shown_any t.x.a _ (by omega) (by omega)).mono ?_; rintro e w2 ⟨sa, rfl, hsa, hb2⟩; have za := hsa.size; have B2 := B1.trans (hb2.mono B1.size); obtain ⟨d0, d1, d2, d3, d4, d5, d6, d7, d8, W2, glt, gfr, g0, g1, g2, g3⟩ := H.out.facts B2; clear d0 d1 d2 d3 d5 d6 d7 d8 g0 g1 g2 g3 W2; dsimp only))
  refine HK.out _ _ ?_
  clear HK
  refine wpL_step (fun K hK => ?_)
  have HK := hide hK
  clear hK
  conv => arg 2; whnf
  go_wp2_with (first | (go_at_call 41; refine (shown_any t.x.b _ (by omega) (by omega)).mono ?_; rintro e w3 ⟨sb, rfl, hsb, hb3⟩; have zb := hsb.size; have B3 := B2.trans (hb3.mono B2.size); obtain ⟨d0, d1, d2, d3, d4, d5, d6, d7, d8, W3, glt, gfr, g0, g1, g2, g3⟩ := H.out.facts B3; clear W3; dsimp only))
  refine HK.out _ _ ?_
  clear HK
  refine wpL_step (fun K hK => ?_)
  have HK := hide hK
  clear hK
  conv => arg 2; whnf
  go_wp2_with fail
  refine HK.out _ _ ?_
  clear HK
  refine wpL_step (fun K hK => ?_)
  have HK := hide hK
  clear hK
  conv => arg 2; whnf
  go_wp2_with fail
  refine HK.out _ _ ?_
  clear HK
  refine wpL_step (fun K hK => ?_)
  have HK := hide hK
  clear hK
  conv => arg 2; whnf
  go_wp2_with fail
  refine HK.out _ _ ?_
  clear HK
  refine wpL_step (fun K hK => ?_)
  have HK := hide hK
  clear hK
  conv => arg 2; whnf
  go_wp2_with fail
  refine HK.out _ _ ?_
  clear HK
  refine wpL_step (fun K hK => ?_)
  have HK := hide hK
  clear hK
  conv => arg 2; whnf
  go_wp2_with fail
  refine HK.out _ _ ?_
  clear HK
  refine wpL_step (fun K hK => ?_)
  have HK := hide hK
  clear hK
  conv => arg 2; whnf
  go_wp2_with fail
  refine HK.out _ _ ?_
  clear HK
  refine wpL_step (fun K hK => ?_)
  have HK := hide hK
  clear hK
  conv => arg 2; whnf
  go_quiet (fail)
  go_wp2_with fail
  refine HK.out _ _ ?_
  clear HK
  refine wpL_step (fun K hK => ?_)
  have HK := hide hK
  clear hK
  conv => arg 2; whnf
  go_wp2_with fail
  refine HK.out _ _ ?_
  clear HK
  refine wpL_step (fun K hK => ?_)
  have HK := hide hK
  clear hK
  conv => arg 2; whnf
  go_wp2_with (first | (go_at_call 42; refine (scoped_any t.x.ord t.x.scope _ os ss).mono ?_; rintro e w4 ⟨st, rfl, hst, rfl⟩; have zs := hst.size; dsimp only))
  refine HK.out _ _ ?_
  clear HK
  refine wpL_step (fun K hK => ?_)
  have HK := hide hK
  clear hK
  conv => arg 2; whnf
  go_wp2_with fail
  refine HK.out _ _ ?_
  clear HK
  refine wpL_step (fun K hK => ?_)
  have HK := hide hK
  clear hK
  conv => arg 2; whnf
  go_wp2_with fail
  refine HK.out _ _ ?_
  clear HK
  refine hK.out sr sa sb _ st _ _ _ _ _ _ _ _ _ _ _ _ _ _ _ _ _ _ _ _ _ _ _ _ _ _ _ _ _ _ _ _ _ _ _ _ _ _ _ _ _ _ _ _ _ _ _ _ _ _ _ _ _ _ _ _ _ _ _ _ _ _ _ _ _ _ _ _ _ _ _ _ _ _ _ _ _ _ _ _ _ _ _ _ _ _ _ _ _ _ _ _ _ _ _ _ _ _ _ _ _ _ _ _ _ _ _ _ _ _ _ _ _ _ _ _ _ _ _ _ _ _ _ _ _ _ _ _ _ _ _ _ _ _ _ _ _ _ _ _ _ _ _ _ _ _ _ _ _ _ _ _ _ _ _ _ _ _ _ _ _ _ _ _ _ _ _ _ _ _ _ _ _ _ _ _ _ _ _ _ _ _ _ _ _ _ _ _ _ _ _ _ _ _ _ _ _ _ _ _ _ _ _ _ _ _ _ _ _ _ _ _ _ _ _ _ _ _ _ _ _ _ _ _ _ _ _ _ _ _ _ _ _ _ _ _ _ _ _ _ _ _ hsr hsa hsb hce.out hst (below_same B3 rfl rfl rfl rfl)
end Go.Proofs.YtpkjmdcabdplfaaGreatDoor
