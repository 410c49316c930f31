import Derived.BigQuiet
import Derived.Deep.QuietTactic
import Derived.Test.YtpkjmdcabdplfaaGreatDoorA31
set_option linter.unusedVariables false
set_option linter.unusedSimpArgs false
namespace Go.Proofs.YtpkjmdcabdplfaaGreatDoor
open Go Go.RowKit
set_option maxRecDepth 100000

set_option maxRecDepth 1000000 in
set_option maxHeartbeats 12800000 in
theorem WlOpSetNeg (w wr : World) (g : Nat) (tx : ByteArray) (lb : Int) (pv : Value) (l : List R.Tree) (n k : Nat) (u : ByteArray) (lk : Int) (b sc : Nat) (uv : Value) (t : R.Tree) (H : Hid (LC w wr g tx lb pv l n k u lk b uv t)) (ho : t.x.op.toList = [115, 101, 116]) (q : Int) (hqe : R.inn t.x.sign.toList R.signs = q) (hq0 : q < 0) (sr sa sb se st : ByteArray) (w3 : World) (c2 c3 x13 x16 x17 x18 x19 x20 x21 x22 x23 x24 x25 x26 x27 x28 x29 x30 x31 x32 x33 x34 x35 x36 x37 x38 x39 x40 x41 x42 x43 x44 x45 x46 x47 x48 x49 x50 x51 x52 x53 x54 x55 x56 x57 x58 x59 x60 x61 x62 x63 x64 x65 x66 x67 x68 x69 x70 x71 x72 x73 x74 x75 x76 x77 x78 x79 x80 x81 x82 x83 x84 x85 x86 x87 x88 x89 x90 x91 x92 x93 x94 x95 x96 x97 x98 x99 x100 x101 x102 x103 x104 x105 x106 x107 x108 x109 x110 x111 x112 x113 x114 x115 x116 x117 x119 x120 x121 x122 x123 x124 x125 x126 x127 x128 x129 x130 x131 x132 x133 x134 x135 x136 x137 x138 x139 x140 x141 x142 x143 x144 x145 x146 x147 x148 x149 x150 x151 x152 x153 x154 x155 x156 x157 x158 x159 x160 x161 x162 x163 x164 x165 x166 x167 x168 x169 x170 x171 x172 x173 x174 x175 x176 x177 x178 x179 x180 x181 x182 x183 x184 x185 x186 x187 x188 x189 x190 x191 x192 x193 x194 x195 x196 x197 x198 x199 x200 x201 x202 x203 x204 x205 x206 x207 x208 x209 x210 x211 x212 x213 x214 x215 x216 x217 x218 x219 x220 x221 x222 x223 x224 x225 x226 x227 x228 x229 x230 x231 x232 x233 x234 x235 x236 x237 x238 x239 x240 x241 x242 x243 x244 x245 x246 x247 x248 x249 x250 x251 x252 x253 x254 x255 x256 : Value) (hsr : Txt 4 sr (R.regT t.x)) (hsa : Txt 4 sa (R.shown t.x.a)) (hsb : Txt 4 sb (R.shown t.x.b)) (hse : Txt 3 se (R.celT t.x.var)) (hst : Txt 10000 st (R.scopd t.x.ord.toList t.x.scope.toList)) (B3 : Below wr.heap.size wr w3) (K0 : Act → World → Prop) (Q0 : Exit → Act → World → Prop)
    (hK0 : Hid (∀ (u5 u6 u7 u8 u9 u10 u11 u12 u13 u14 u15 u16 u17 u18 u19 u20 u21 u22 u23 u24 u25 u26 u27 u28 u29 u30 u31 u32 u33 u34 u35 u36 u37 u38 u39 u40 u41 u42 u43 u44 u45 u46 u47 u48 u49 u50 u51 u52 u53 u54 u55 u56 u57 u58 u59 u60 u61 u62 u63 u64 u65 u66 u67 u68 u69 u70 u71 u72 u73 u74 u75 u76 u77 u78 u79 u80 u81 u82 u83 u84 u85 u86 u87 u88 u89 u90 u91 u92 u93 u94 u95 u96 u97 u98 u99 u100 u101 u102 u103 u104 u105 u106 u107 u108 u109 u110 u111 u112 u113 u114 u115 u116 u117 u118 u119 u120 u121 u122 u123 u124 u125 u126 u127 u128 u129 u130 u131 u132 u133 u134 u135 u136 u137 u138 u139 u140 u141 u142 u143 u144 u145 u146 u147 u148 u149 u150 u151 u152 u153 u154 u155 u156 u157 u158 u159 u160 u161 u162 u163 u164 u165 u166 u167 u168 u169 u170 u171 u172 u173 u174 u175 u176 u177 u178 u179 u180 u181 u182 u183 u184 u185 u186 u187 u188 u189 u190 u191 u192 u193 u194 u195 u196 u197 u198 u199 u200 u201 u202 u203 u204 u205 u206 u207 u208 u209 u210 u211 u212 u213 u214 u215 u216 u217 u218 u219 u220 u221 u222 u223 u224 u225 u226 u227 u228 u229 u230 u231 u232 u233 u234 u235 u236 u237 u238 u239 u240 u241 u242 u243 u244 u245 u246 u247 u248 u249 u250 u251 u252 u253 u254 u255 u256 : Value) (w2 : World), LR w g tx lb pv l n (.int .i64 ((k : Int) + 1)) w2 → K0 ⟨#[.pointer (some ⟨g, 0, none⟩), .slice (some ⟨b, 0, none⟩) n sc, c2, c3, .int .i64 (k : Int), u5, u6, u7, u8, u9, u10, u11, u12, u13, u14, u15, u16, u17, u18, u19, u20, u21, u22, u23, u24, u25, u26, u27, u28, u29, u30, u31, u32, u33, u34, u35, u36, u37, u38, u39, u40, u41, u42, u43, u44, u45, u46, u47, u48, u49, u50, u51, u52, u53, u54, u55, u56, u57, u58, u59, u60, u61, u62, u63, u64, u65, u66, u67, u68, u69, u70, u71, u72, u73, u74, u75, u76, u77, u78, u79, u80, u81, u82, u83, u84, u85, u86, u87, u88, u89, u90, u91, u92, u93, u94, u95, u96, u97, u98, u99, u100, u101, u102, u103, u104, u105, u106, u107, u108, u109, u110, u111, u112, u113, u114, u115, u116, u117, u118, u119, u120, u121, u122, u123, u124, u125, u126, u127, u128, u129, u130, u131, u132, u133, u134, u135, u136, u137, u138, u139, u140, u141, u142, u143, u144, u145, u146, u147, u148, u149, u150, u151, u152, u153, u154, u155, u156, u157, u158, u159, u160, u161, u162, u163, u164, u165, u166, u167, u168, u169, u170, u171, u172, u173, u174, u175, u176, u177, u178, u179, u180, u181, u182, u183, u184, u185, u186, u187, u188, u189, u190, u191, u192, u193, u194, u195, u196, u197, u198, u199, u200, u201, u202, u203, u204, u205, u206, u207, u208, u209, u210, u211, u212, u213, u214, u215, u216, u217, u218, u219, u220, u221, u222, u223, u224, u225, u226, u227, u228, u229, u230, u231, u232, u233, u234, u235, u236, u237, u238, u239, u240, u241, u242, u243, u244, u245, u246, u247, u248, u249, u250, u251, u252, u253, u254, u255, u256], []⟩ w2)) :
    wpL Tryz.prog [(stmOf (inOf (stmOf (bodyOf Tryz.f22) 2)) 15), (stmOf (inOf (stmOf (bodyOf Tryz.f22) 2)) 16)] (Exit.inBlock 1 (Exit.then K0 Q0)) ⟨#[.pointer (some ⟨g, 0, none⟩), .slice (some ⟨b, 0, none⟩) n sc, c2, c3, .int .i64 (k : Int), .pointer (some ⟨b, k * 9, none⟩), .string sr, .string sa, .string sb, .string se, .string t.x.ord, .string ⟨#[]⟩, .string ⟨#[]⟩, x13, .string st, .string ⟨#[]⟩, x16, x17, x18, x19, x20, x21, x22, x23, x24, x25, x26, x27, x28, x29, x30, x31, x32, x33, x34, x35, x36, x37, x38, x39, x40, x41, x42, x43, x44, x45, x46, x47, x48, x49, x50, x51, x52, x53, x54, x55, x56, x57, x58, x59, x60, x61, x62, x63, x64, x65, x66, x67, x68, x69, x70, x71, x72, x73, x74, x75, x76, x77, x78, x79, x80, x81, x82, x83, x84, x85, x86, x87, x88, x89, x90, x91, x92, x93, x94, x95, x96, x97, x98, x99, x100, x101, x102, x103, x104, x105, x106, x107, x108, x109, x110, x111, x112, x113, x114, x115, x116, x117, .string t.x.op, x119, x120, x121, x122, x123, x124, x125, x126, x127, x128, x129, x130, x131, x132, x133, x134, x135, x136, x137, x138, x139, x140, x141, x142, x143, x144, x145, x146, x147, x148, x149, x150, x151, x152, x153, x154, x155, x156, x157, x158, x159, x160, x161, x162, x163, x164, x165, x166, x167, x168, x169, x170, x171, x172, x173, x174, x175, x176, x177, x178, x179, x180, x181, x182, x183, x184, x185, x186, x187, x188, x189, x190, x191, x192, x193, x194, x195, x196, x197, x198, x199, x200, x201, x202, x203, x204, x205, x206, x207, x208, x209, x210, x211, x212, x213, x214, x215, x216, x217, x218, x219, x220, x221, x222, x223, x224, x225, x226, x227, x228, x229, x230, x231, x232, x233, x234, x235, x236, x237, x238, x239, x240, x241, x242, x243, x244, x245, x246, x247, x248, x249, x250, x251, x252, x253, x254, x255, x256], []⟩ w3 := by
  have zr := hsr.size
  have za := hsa.size
  have zb := hsb.size
  have ze := hse.size
  have zs := hst.size
  have hus := H.out.us
  have hlk0 := H.out.lk0
  have hlk1 := H.out.lk1
  have hsz := R.sizeL_nn t.body
  have hbg := H.out.hbg
  have hblt := H.out.hblt
  have hws := B3.size
  obtain ⟨d0, d1, d2, d3, d4, d5, d6, d7, d8, W3, glt, gfr, g0, g1, g2, g3⟩ := H.out.facts B3
  have HW3 := hide W3
  clear W3 d0 d1 d2 d3 d4 d6 d7
  have f1 : (t.x.op.toList == [108, 111, 97, 100]) = false := by rw [ho]; rfl
  have f2 : (t.x.op.toList == [115, 116, 111, 114, 101]) = false := by rw [ho]; rfl
  have f3 : (t.x.op.toList == [97, 100, 100]) = false := by rw [ho]; rfl
  have f4 : (t.x.op.toList == [115, 119, 97, 112]) = false := by rw [ho]; rfl
  have f5 : (t.x.op.toList == [102, 101, 110, 99, 101]) = false := by rw [ho]; rfl
  have f6 : (t.x.op.toList == [98, 97, 114, 114, 105, 101, 114]) = false := by rw [ho]; rfl
  have f7 : (t.x.op.toList == [115, 101, 116]) = true := by rw [ho]; rfl
  have f8 : (t.x.op.toList == [105, 102]) = false := by rw [ho]; rfl
  dsimp only
  have INQ : Hid (∀ w : World, Calls Tryz.prog 14 #[.string t.x.sign, .string ⟨#[43, 32, 45, 32, 61, 61]⟩] w fun e w' => e = .returned (.int .i64 q) ∧ Below w.heap.size w w') := fun w => by
    rw [← hqe]; exact in_lst t.x.sign R.signs _ _ rfl (by simp)
  refine wpL_step (fun K hK => ?_)
  have HK := hide hK
  clear hK
  conv => arg 2; whnf
  go_wp2_with fail
  refine (INQ.out _).mono ?_
  rintro e w4 ⟨rfl, hb4⟩
  have HW4 := hide (HW3.out.below hb4)
  obtain ⟨glt, gfr, g0, g1, g2, g3⟩ := HW4.out.facts
  have G4 := hide (grown_trans (grown_of_below B3 (some g)) (grown_of_below hb4 (some g)))
  dsimp only
  go_wp2_with fail
  refine HK.out _ _ ?_
  clear HK
  refine wpL_step (fun K hK => ?_)
  have HK := hide hK
  clear hK
  conv => arg 2; whnf
  go_wp2_with fail
  refine HK.out _ _ ?_
  clear HK
  simp only [wpL, Exit.inBlock, Exit.then]
  refine hK0.out _ _ _ _ _ _ _ _ _ _ _ _ _ _ _ _ _ _ _ _ _ _ _ _ _ _ _ _ _ _ _ _ _ _ _ _ _ _ _ _ _ _ _ _ _ _ _ _ _ _ _ _ _ _ _ _ _ _ _ _ _ _ _ _ _ _ _ _ _ _ _ _ _ _ _ _ _ _ _ _ _ _ _ _ _ _ _ _ _ _ _ _ _ _ _ _ _ _ _ _ _ _ _ _ _ _ _ _ _ _ _ _ _ _ _ _ _ _ _ _ _ _ _ _ _ _ _ _ _ _ _ _ _ _ _ _ _ _ _ _ _ _ _ _ _ _ _ _ _ _ _ _ _ _ _ _ _ _ _ _ _ _ _ _ _ _ _ _ _ _ _ _ _ _ _ _ _ _ _ _ _ _ _ _ _ _ _ _ _ _ _ _ _ _ _ _ _ _ _ _ _ _ _ _ _ _ _ _ _ _ _ _ _ _ _ _ _ _ _ _ _ _ _ _ _ _ _ _ _ _ _ _ _ _ _ _ _ _ _ _ _ _ _ _ _ _ _ _ _ _ _ _ _ ?_
  refine H.out.next (u2 := ?uu) ?h1 ?h2 ?h3 (grown_setCell (G4.out) _ _)
  case h1 => rw [R.text_leaf lk t f8]; exact WrAt.setT (by exact HW4.out) _
  case h2 => rw [R.text_leaf lk t f8, R.line_mov t.x ho (by rw [hqe]; exact hq0)]; simp [app_toList, lit_toList, hst.1, hsr.1, hse.1, hsa.1, hsb.1]
  case h3 => simp [lit_size]; omega
end Go.Proofs.YtpkjmdcabdplfaaGreatDoor

namespace Go.Proofs.YtpkjmdcabdplfaaGreatDoor
open Go Go.RowKit
set_option maxRecDepth 100000

set_option maxRecDepth 1000000 in
set_option maxHeartbeats 12800000 in
theorem WlOpSetA (w wr : World) (g : Nat) (tx : ByteArray) (lb : Int) (pv : Value) (l : List R.Tree) (n k : Nat) (u : ByteArray) (lk : Int) (b sc : Nat) (uv : Value) (t : R.Tree) (H : Hid (LC w wr g tx lb pv l n k u lk b uv t)) (ho : t.x.op.toList = [115, 101, 116]) (q : Int) (hqe : R.inn t.x.sign.toList R.signs = q) (hq0 : q = 0) (sr sa sb se st : ByteArray) (w3 : World) (c2 c3 x13 x16 x17 x18 x19 x20 x21 x22 x23 x24 x25 x26 x27 x28 x29 x30 x31 x32 x33 x34 x35 x36 x37 x38 x39 x40 x41 x42 x43 x44 x45 x46 x47 x48 x49 x50 x51 x52 x53 x54 x55 x56 x57 x58 x59 x60 x61 x62 x63 x64 x65 x66 x67 x68 x69 x70 x71 x72 x73 x74 x75 x76 x77 x78 x79 x80 x81 x82 x83 x84 x85 x86 x87 x88 x89 x90 x91 x92 x93 x94 x95 x96 x97 x98 x99 x100 x101 x102 x103 x104 x105 x106 x107 x108 x109 x110 x111 x112 x113 x114 x115 x116 x117 x119 x120 x121 x122 x123 x124 x125 x126 x127 x128 x129 x130 x131 x132 x133 x134 x135 x136 x137 x138 x139 x140 x141 x142 x143 x144 x145 x146 x147 x148 x149 x150 x151 x152 x153 x154 x155 x156 x157 x158 x159 x160 x161 x162 x163 x164 x165 x166 x167 x168 x169 x170 x171 x172 x173 x174 x175 x176 x177 x178 x179 x180 x181 x182 x183 x184 x185 x186 x187 x188 x189 x190 x191 x192 x193 x194 x195 x196 x197 x198 x199 x200 x201 x202 x203 x204 x205 x206 x207 x208 x209 x210 x211 x212 x213 x214 x215 x216 x217 x218 x219 x220 x221 x222 x223 x224 x225 x226 x227 x228 x229 x230 x231 x232 x233 x234 x235 x236 x237 x238 x239 x240 x241 x242 x243 x244 x245 x246 x247 x248 x249 x250 x251 x252 x253 x254 x255 x256 : Value) (hsr : Txt 4 sr (R.regT t.x)) (hsa : Txt 4 sa (R.shown t.x.a)) (hsb : Txt 4 sb (R.shown t.x.b)) (hse : Txt 3 se (R.celT t.x.var)) (hst : Txt 10000 st (R.scopd t.x.ord.toList t.x.scope.toList)) (B3 : Below wr.heap.size wr w3) (K0 : Act → World → Prop) (Q0 : Exit → Act → World → Prop)
    (hK0 : Hid (∀ (u5 u6 u7 u8 u9 u10 u11 u12 u13 u14 u15 u16 u17 u18 u19 u20 u21 u22 u23 u24 u25 u26 u27 u28 u29 u30 u31 u32 u33 u34 u35 u36 u37 u38 u39 u40 u41 u42 u43 u44 u45 u46 u47 u48 u49 u50 u51 u52 u53 u54 u55 u56 u57 u58 u59 u60 u61 u62 u63 u64 u65 u66 u67 u68 u69 u70 u71 u72 u73 u74 u75 u76 u77 u78 u79 u80 u81 u82 u83 u84 u85 u86 u87 u88 u89 u90 u91 u92 u93 u94 u95 u96 u97 u98 u99 u100 u101 u102 u103 u104 u105 u106 u107 u108 u109 u110 u111 u112 u113 u114 u115 u116 u117 u118 u119 u120 u121 u122 u123 u124 u125 u126 u127 u128 u129 u130 u131 u132 u133 u134 u135 u136 u137 u138 u139 u140 u141 u142 u143 u144 u145 u146 u147 u148 u149 u150 u151 u152 u153 u154 u155 u156 u157 u158 u159 u160 u161 u162 u163 u164 u165 u166 u167 u168 u169 u170 u171 u172 u173 u174 u175 u176 u177 u178 u179 u180 u181 u182 u183 u184 u185 u186 u187 u188 u189 u190 u191 u192 u193 u194 u195 u196 u197 u198 u199 u200 u201 u202 u203 u204 u205 u206 u207 u208 u209 u210 u211 u212 u213 u214 u215 u216 u217 u218 u219 u220 u221 u222 u223 u224 u225 u226 u227 u228 u229 u230 u231 u232 u233 u234 u235 u236 u237 u238 u239 u240 u241 u242 u243 u244 u245 u246 u247 u248 u249 u250 u251 u252 u253 u254 u255 u256 : Value) (w2 : World), LR w g tx lb pv l n (.int .i64 ((k : Int) + 1)) w2 → K0 ⟨#[.pointer (some ⟨g, 0, none⟩), .slice (some ⟨b, 0, none⟩) n sc, c2, c3, .int .i64 (k : Int), u5, u6, u7, u8, u9, u10, u11, u12, u13, u14, u15, u16, u17, u18, u19, u20, u21, u22, u23, u24, u25, u26, u27, u28, u29, u30, u31, u32, u33, u34, u35, u36, u37, u38, u39, u40, u41, u42, u43, u44, u45, u46, u47, u48, u49, u50, u51, u52, u53, u54, u55, u56, u57, u58, u59, u60, u61, u62, u63, u64, u65, u66, u67, u68, u69, u70, u71, u72, u73, u74, u75, u76, u77, u78, u79, u80, u81, u82, u83, u84, u85, u86, u87, u88, u89, u90, u91, u92, u93, u94, u95, u96, u97, u98, u99, u100, u101, u102, u103, u104, u105, u106, u107, u108, u109, u110, u111, u112, u113, u114, u115, u116, u117, u118, u119, u120, u121, u122, u123, u124, u125, u126, u127, u128, u129, u130, u131, u132, u133, u134, u135, u136, u137, u138, u139, u140, u141, u142, u143, u144, u145, u146, u147, u148, u149, u150, u151, u152, u153, u154, u155, u156, u157, u158, u159, u160, u161, u162, u163, u164, u165, u166, u167, u168, u169, u170, u171, u172, u173, u174, u175, u176, u177, u178, u179, u180, u181, u182, u183, u184, u185, u186, u187, u188, u189, u190, u191, u192, u193, u194, u195, u196, u197, u198, u199, u200, u201, u202, u203, u204, u205, u206, u207, u208, u209, u210, u211, u212, u213, u214, u215, u216, u217, u218, u219, u220, u221, u222, u223, u224, u225, u226, u227, u228, u229, u230, u231, u232, u233, u234, u235, u236, u237, u238, u239, u240, u241, u242, u243, u244, u245, u246, u247, u248, u249, u250, u251, u252, u253, u254, u255, u256], []⟩ w2)) :
    wpL Tryz.prog [(stmOf (inOf (stmOf (bodyOf Tryz.f22) 2)) 15), (stmOf (inOf (stmOf (bodyOf Tryz.f22) 2)) 16)] (Exit.inBlock 1 (Exit.then K0 Q0)) ⟨#[.pointer (some ⟨g, 0, none⟩), .slice (some ⟨b, 0, none⟩) n sc, c2, c3, .int .i64 (k : Int), .pointer (some ⟨b, k * 9, none⟩), .string sr, .string sa, .string sb, .string se, .string t.x.ord, .string ⟨#[]⟩, .string ⟨#[]⟩, x13, .string st, .string ⟨#[]⟩, x16, x17, x18, x19, x20, x21, x22, x23, x24, x25, x26, x27, x28, x29, x30, x31, x32, x33, x34, x35, x36, x37, x38, x39, x40, x41, x42, x43, x44, x45, x46, x47, x48, x49, x50, x51, x52, x53, x54, x55, x56, x57, x58, x59, x60, x61, x62, x63, x64, x65, x66, x67, x68, x69, x70, x71, x72, x73, x74, x75, x76, x77, x78, x79, x80, x81, x82, x83, x84, x85, x86, x87, x88, x89, x90, x91, x92, x93, x94, x95, x96, x97, x98, x99, x100, x101, x102, x103, x104, x105, x106, x107, x108, x109, x110, x111, x112, x113, x114, x115, x116, x117, .string t.x.op, x119, x120, x121, x122, x123, x124, x125, x126, x127, x128, x129, x130, x131, x132, x133, x134, x135, x136, x137, x138, x139, x140, x141, x142, x143, x144, x145, x146, x147, x148, x149, x150, x151, x152, x153, x154, x155, x156, x157, x158, x159, x160, x161, x162, x163, x164, x165, x166, x167, x168, x169, x170, x171, x172, x173, x174, x175, x176, x177, x178, x179, x180, x181, x182, x183, x184, x185, x186, x187, x188, x189, x190, x191, x192, x193, x194, x195, x196, x197, x198, x199, x200, x201, x202, x203, x204, x205, x206, x207, x208, x209, x210, x211, x212, x213, x214, x215, x216, x217, x218, x219, x220, x221, x222, x223, x224, x225, x226, x227, x228, x229, x230, x231, x232, x233, x234, x235, x236, x237, x238, x239, x240, x241, x242, x243, x244, x245, x246, x247, x248, x249, x250, x251, x252, x253, x254, x255, x256], []⟩ w3 := by
  have zr := hsr.size
  have za := hsa.size
  have zb := hsb.size
  have ze := hse.size
  have zs := hst.size
  have hus := H.out.us
  have hlk0 := H.out.lk0
  have hlk1 := H.out.lk1
  have hsz := R.sizeL_nn t.body
  have hbg := H.out.hbg
  have hblt := H.out.hblt
  have hws := B3.size
  obtain ⟨d0, d1, d2, d3, d4, d5, d6, d7, d8, W3, glt, gfr, g0, g1, g2, g3⟩ := H.out.facts B3
  have HW3 := hide W3
  clear W3 d0 d1 d2 d3 d4 d6 d7
  have f1 : (t.x.op.toList == [108, 111, 97, 100]) = false := by rw [ho]; rfl
  have f2 : (t.x.op.toList == [115, 116, 111, 114, 101]) = false := by rw [ho]; rfl
  have f3 : (t.x.op.toList == [97, 100, 100]) = false := by rw [ho]; rfl
  have f4 : (t.x.op.toList == [115, 119, 97, 112]) = false := by rw [ho]; rfl
  have f5 : (t.x.op.toList == [102, 101, 110, 99, 101]) = false := by rw [ho]; rfl
  have f6 : (t.x.op.toList == [98, 97, 114, 114, 105, 101, 114]) = false := by rw [ho]; rfl
  have f7 : (t.x.op.toList == [115, 101, 116]) = true := by rw [ho]; rfl
  have f8 : (t.x.op.toList == [105, 102]) = false := by rw [ho]; rfl
  dsimp only
  subst hq0
  have INQ : Hid (∀ w : World, Calls Tryz.prog 14 #[.string t.x.sign, .string ⟨#[43, 32, 45, 32, 61, 61]⟩] w fun e w' => e = .returned (.int .i64 0) ∧ Below w.heap.size w w') := fun w => by
    rw [← hqe]; exact in_lst t.x.sign R.signs _ _ rfl (by simp)
  refine wpL_step (fun K hK => ?_)
  have HK := hide hK
  clear hK
  conv => arg 2; whnf
  go_wp2_with fail
  refine (INQ.out _).mono ?_
  rintro e w4 ⟨rfl, hb4⟩
  have HW4 := hide (HW3.out.below hb4)
  obtain ⟨glt, gfr, g0, g1, g2, g3⟩ := HW4.out.facts
  have G4 := hide (grown_trans (grown_of_below B3 (some g)) (grown_of_below hb4 (some g)))
  dsimp only
  go_wp2_with fail
  refine HK.out _ _ ?_
  clear HK
  refine wpL_step (fun K hK => ?_)
  have HK := hide hK
  clear hK
  conv => arg 2; whnf
  go_wp2_with fail
  refine HK.out _ _ ?_
  clear HK
  simp only [wpL, Exit.inBlock, Exit.then]
  refine hK0.out _ _ _ _ _ _ _ _ _ _ _ _ _ _ _ _ _ _ _ _ _ _ _ _ _ _ _ _ _ _ _ _ _ _ _ _ _ _ _ _ _ _ _ _ _ _ _ _ _ _ _ _ _ _ _ _ _ _ _ _ _ _ _ _ _ _ _ _ _ _ _ _ _ _ _ _ _ _ _ _ _ _ _ _ _ _ _ _ _ _ _ _ _ _ _ _ _ _ _ _ _ _ _ _ _ _ _ _ _ _ _ _ _ _ _ _ _ _ _ _ _ _ _ _ _ _ _ _ _ _ _ _ _ _ _ _ _ _ _ _ _ _ _ _ _ _ _ _ _ _ _ _ _ _ _ _ _ _ _ _ _ _ _ _ _ _ _ _ _ _ _ _ _ _ _ _ _ _ _ _ _ _ _ _ _ _ _ _ _ _ _ _ _ _ _ _ _ _ _ _ _ _ _ _ _ _ _ _ _ _ _ _ _ _ _ _ _ _ _ _ _ _ _ _ _ _ _ _ _ _ _ _ _ _ _ _ _ _ _ _ _ _ _ _ _ _ _ _ _ _ _ _ _ ?_
  refine H.out.next (u2 := ?uu) ?h1 ?h2 ?h3 (grown_alloc (grown_setCell (G4.out) _ _) _)
  case h1 => rw [R.text_leaf lk t f8]; exact WrAt.alloc (WrAt.setT (by exact HW4.out) _) _
  case h2 => rw [R.text_leaf lk t f8, R.line_set t.x _ ho hqe (by omega)]; simp [app_toList, lit_toList, hst.1, hsr.1, hse.1, hsa.1, hsb.1]
  case h3 => simp [lit_size]; omega
end Go.Proofs.YtpkjmdcabdplfaaGreatDoor

namespace Go.Proofs.YtpkjmdcabdplfaaGreatDoor
open Go Go.RowKit
set_option maxRecDepth 100000

set_option maxRecDepth 1000000 in
set_option maxHeartbeats 12800000 in
theorem WlOpSetB (w wr : World) (g : Nat) (tx : ByteArray) (lb : Int) (pv : Value) (l : List R.Tree) (n k : Nat) (u : ByteArray) (lk : Int) (b sc : Nat) (uv : Value) (t : R.Tree) (H : Hid (LC w wr g tx lb pv l n k u lk b uv t)) (ho : t.x.op.toList = [115, 101, 116]) (q : Int) (hqe : R.inn t.x.sign.toList R.signs = q) (hq0 : q = 1) (sr sa sb se st : ByteArray) (w3 : World) (c2 c3 x13 x16 x17 x18 x19 x20 x21 x22 x23 x24 x25 x26 x27 x28 x29 x30 x31 x32 x33 x34 x35 x36 x37 x38 x39 x40 x41 x42 x43 x44 x45 x46 x47 x48 x49 x50 x51 x52 x53 x54 x55 x56 x57 x58 x59 x60 x61 x62 x63 x64 x65 x66 x67 x68 x69 x70 x71 x72 x73 x74 x75 x76 x77 x78 x79 x80 x81 x82 x83 x84 x85 x86 x87 x88 x89 x90 x91 x92 x93 x94 x95 x96 x97 x98 x99 x100 x101 x102 x103 x104 x105 x106 x107 x108 x109 x110 x111 x112 x113 x114 x115 x116 x117 x119 x120 x121 x122 x123 x124 x125 x126 x127 x128 x129 x130 x131 x132 x133 x134 x135 x136 x137 x138 x139 x140 x141 x142 x143 x144 x145 x146 x147 x148 x149 x150 x151 x152 x153 x154 x155 x156 x157 x158 x159 x160 x161 x162 x163 x164 x165 x166 x167 x168 x169 x170 x171 x172 x173 x174 x175 x176 x177 x178 x179 x180 x181 x182 x183 x184 x185 x186 x187 x188 x189 x190 x191 x192 x193 x194 x195 x196 x197 x198 x199 x200 x201 x202 x203 x204 x205 x206 x207 x208 x209 x210 x211 x212 x213 x214 x215 x216 x217 x218 x219 x220 x221 x222 x223 x224 x225 x226 x227 x228 x229 x230 x231 x232 x233 x234 x235 x236 x237 x238 x239 x240 x241 x242 x243 x244 x245 x246 x247 x248 x249 x250 x251 x252 x253 x254 x255 x256 : Value) (hsr : Txt 4 sr (R.regT t.x)) (hsa : Txt 4 sa (R.shown t.x.a)) (hsb : Txt 4 sb (R.shown t.x.b)) (hse : Txt 3 se (R.celT t.x.var)) (hst : Txt 10000 st (R.scopd t.x.ord.toList t.x.scope.toList)) (B3 : Below wr.heap.size wr w3) (K0 : Act → World → Prop) (Q0 : Exit → Act → World → Prop)
    (hK0 : Hid (∀ (u5 u6 u7 u8 u9 u10 u11 u12 u13 u14 u15 u16 u17 u18 u19 u20 u21 u22 u23 u24 u25 u26 u27 u28 u29 u30 u31 u32 u33 u34 u35 u36 u37 u38 u39 u40 u41 u42 u43 u44 u45 u46 u47 u48 u49 u50 u51 u52 u53 u54 u55 u56 u57 u58 u59 u60 u61 u62 u63 u64 u65 u66 u67 u68 u69 u70 u71 u72 u73 u74 u75 u76 u77 u78 u79 u80 u81 u82 u83 u84 u85 u86 u87 u88 u89 u90 u91 u92 u93 u94 u95 u96 u97 u98 u99 u100 u101 u102 u103 u104 u105 u106 u107 u108 u109 u110 u111 u112 u113 u114 u115 u116 u117 u118 u119 u120 u121 u122 u123 u124 u125 u126 u127 u128 u129 u130 u131 u132 u133 u134 u135 u136 u137 u138 u139 u140 u141 u142 u143 u144 u145 u146 u147 u148 u149 u150 u151 u152 u153 u154 u155 u156 u157 u158 u159 u160 u161 u162 u163 u164 u165 u166 u167 u168 u169 u170 u171 u172 u173 u174 u175 u176 u177 u178 u179 u180 u181 u182 u183 u184 u185 u186 u187 u188 u189 u190 u191 u192 u193 u194 u195 u196 u197 u198 u199 u200 u201 u202 u203 u204 u205 u206 u207 u208 u209 u210 u211 u212 u213 u214 u215 u216 u217 u218 u219 u220 u221 u222 u223 u224 u225 u226 u227 u228 u229 u230 u231 u232 u233 u234 u235 u236 u237 u238 u239 u240 u241 u242 u243 u244 u245 u246 u247 u248 u249 u250 u251 u252 u253 u254 u255 u256 : Value) (w2 : World), LR w g tx lb pv l n (.int .i64 ((k : Int) + 1)) w2 → K0 ⟨#[.pointer (some ⟨g, 0, none⟩), .slice (some ⟨b, 0, none⟩) n sc, c2, c3, .int .i64 (k : Int), u5, u6, u7, u8, u9, u10, u11, u12, u13, u14, u15, u16, u17, u18, u19, u20, u21, u22, u23, u24, u25, u26, u27, u28, u29, u30, u31, u32, u33, u34, u35, u36, u37, u38, u39, u40, u41, u42, u43, u44, u45, u46, u47, u48, u49, u50, u51, u52, u53, u54, u55, u56, u57, u58, u59, u60, u61, u62, u63, u64, u65, u66, u67, u68, u69, u70, u71, u72, u73, u74, u75, u76, u77, u78, u79, u80, u81, u82, u83, u84, u85, u86, u87, u88, u89, u90, u91, u92, u93, u94, u95, u96, u97, u98, u99, u100, u101, u102, u103, u104, u105, u106, u107, u108, u109, u110, u111, u112, u113, u114, u115, u116, u117, u118, u119, u120, u121, u122, u123, u124, u125, u126, u127, u128, u129, u130, u131, u132, u133, u134, u135, u136, u137, u138, u139, u140, u141, u142, u143, u144, u145, u146, u147, u148, u149, u150, u151, u152, u153, u154, u155, u156, u157, u158, u159, u160, u161, u162, u163, u164, u165, u166, u167, u168, u169, u170, u171, u172, u173, u174, u175, u176, u177, u178, u179, u180, u181, u182, u183, u184, u185, u186, u187, u188, u189, u190, u191, u192, u193, u194, u195, u196, u197, u198, u199, u200, u201, u202, u203, u204, u205, u206, u207, u208, u209, u210, u211, u212, u213, u214, u215, u216, u217, u218, u219, u220, u221, u222, u223, u224, u225, u226, u227, u228, u229, u230, u231, u232, u233, u234, u235, u236, u237, u238, u239, u240, u241, u242, u243, u244, u245, u246, u247, u248, u249, u250, u251, u252, u253, u254, u255, u256], []⟩ w2)) :
    wpL Tryz.prog [(stmOf (inOf (stmOf (bodyOf Tryz.f22) 2)) 15), (stmOf (inOf (stmOf (bodyOf Tryz.f22) 2)) 16)] (Exit.inBlock 1 (Exit.then K0 Q0)) ⟨#[.pointer (some ⟨g, 0, none⟩), .slice (some ⟨b, 0, none⟩) n sc, c2, c3, .int .i64 (k : Int), .pointer (some ⟨b, k * 9, none⟩), .string sr, .string sa, .string sb, .string se, .string t.x.ord, .string ⟨#[]⟩, .string ⟨#[]⟩, x13, .string st, .string ⟨#[]⟩, x16, x17, x18, x19, x20, x21, x22, x23, x24, x25, x26, x27, x28, x29, x30, x31, x32, x33, x34, x35, x36, x37, x38, x39, x40, x41, x42, x43, x44, x45, x46, x47, x48, x49, x50, x51, x52, x53, x54, x55, x56, x57, x58, x59, x60, x61, x62, x63, x64, x65, x66, x67, x68, x69, x70, x71, x72, x73, x74, x75, x76, x77, x78, x79, x80, x81, x82, x83, x84, x85, x86, x87, x88, x89, x90, x91, x92, x93, x94, x95, x96, x97, x98, x99, x100, x101, x102, x103, x104, x105, x106, x107, x108, x109, x110, x111, x112, x113, x114, x115, x116, x117, .string t.x.op, x119, x120, x121, x122, x123, x124, x125, x126, x127, x128, x129, x130, x131, x132, x133, x134, x135, x136, x137, x138, x139, x140, x141, x142, x143, x144, x145, x146, x147, x148, x149, x150, x151, x152, x153, x154, x155, x156, x157, x158, x159, x160, x161, x162, x163, x164, x165, x166, x167, x168, x169, x170, x171, x172, x173, x174, x175, x176, x177, x178, x179, x180, x181, x182, x183, x184, x185, x186, x187, x188, x189, x190, x191, x192, x193, x194, x195, x196, x197, x198, x199, x200, x201, x202, x203, x204, x205, x206, x207, x208, x209, x210, x211, x212, x213, x214, x215, x216, x217, x218, x219, x220, x221, x222, x223, x224, x225, x226, x227, x228, x229, x230, x231, x232, x233, x234, x235, x236, x237, x238, x239, x240, x241, x242, x243, x244, x245, x246, x247, x248, x249, x250, x251, x252, x253, x254, x255, x256], []⟩ w3 := by
  have zr := hsr.size
  have za := hsa.size
  have zb := hsb.size
  have ze := hse.size
  have zs := hst.size
  have hus := H.out.us
  have hlk0 := H.out.lk0
  have hlk1 := H.out.lk1
  have hsz := R.sizeL_nn t.body
  have hbg := H.out.hbg
  have hblt := H.out.hblt
  have hws := B3.size
  obtain ⟨d0, d1, d2, d3, d4, d5, d6, d7, d8, W3, glt, gfr, g0, g1, g2, g3⟩ := H.out.facts B3
  have HW3 := hide W3
  clear W3 d0 d1 d2 d3 d4 d6 d7
  have f1 : (t.x.op.toList == [108, 111, 97, 100]) = false := by rw [ho]; rfl
  have f2 : (t.x.op.toList == [115, 116, 111, 114, 101]) = false := by rw [ho]; rfl
  have f3 : (t.x.op.toList == [97, 100, 100]) = false := by rw [ho]; rfl
  have f4 : (t.x.op.toList == [115, 119, 97, 112]) = false := by rw [ho]; rfl
  have f5 : (t.x.op.toList == [102, 101, 110, 99, 101]) = false := by rw [ho]; rfl
  have f6 : (t.x.op.toList == [98, 97, 114, 114, 105, 101, 114]) = false := by rw [ho]; rfl
  have f7 : (t.x.op.toList == [115, 101, 116]) = true := by rw [ho]; rfl
  have f8 : (t.x.op.toList == [105, 102]) = false := by rw [ho]; rfl
  dsimp only
  subst hq0
  have INQ : Hid (∀ w : World, Calls Tryz.prog 14 #[.string t.x.sign, .string ⟨#[43, 32, 45, 32, 61, 61]⟩] w fun e w' => e = .returned (.int .i64 1) ∧ Below w.heap.size w w') := fun w => by
    rw [← hqe]; exact in_lst t.x.sign R.signs _ _ rfl (by simp)
  refine wpL_step (fun K hK => ?_)
  have HK := hide hK
  clear hK
  conv => arg 2; whnf
  go_wp2_with fail
  refine (INQ.out _).mono ?_
  rintro e w4 ⟨rfl, hb4⟩
  have HW4 := hide (HW3.out.below hb4)
  obtain ⟨glt, gfr, g0, g1, g2, g3⟩ := HW4.out.facts
  have G4 := hide (grown_trans (grown_of_below B3 (some g)) (grown_of_below hb4 (some g)))
  dsimp only
  go_wp2_with fail
  refine HK.out _ _ ?_
  clear HK
  refine wpL_step (fun K hK => ?_)
  have HK := hide hK
  clear hK
  conv => arg 2; whnf
  go_wp2_with fail
  refine HK.out _ _ ?_
  clear HK
  simp only [wpL, Exit.inBlock, Exit.then]
  refine hK0.out _ _ _ _ _ _ _ _ _ _ _ _ _ _ _ _ _ _ _ _ _ _ _ _ _ _ _ _ _ _ _ _ _ _ _ _ _ _ _ _ _ _ _ _ _ _ _ _ _ _ _ _ _ _ _ _ _ _ _ _ _ _ _ _ _ _ _ _ _ _ _ _ _ _ _ _ _ _ _ _ _ _ _ _ _ _ _ _ _ _ _ _ _ _ _ _ _ _ _ _ _ _ _ _ _ _ _ _ _ _ _ _ _ _ _ _ _ _ _ _ _ _ _ _ _ _ _ _ _ _ _ _ _ _ _ _ _ _ _ _ _ _ _ _ _ _ _ _ _ _ _ _ _ _ _ _ _ _ _ _ _ _ _ _ _ _ _ _ _ _ _ _ _ _ _ _ _ _ _ _ _ _ _ _ _ _ _ _ _ _ _ _ _ _ _ _ _ _ _ _ _ _ _ _ _ _ _ _ _ _ _ _ _ _ _ _ _ _ _ _ _ _ _ _ _ _ _ _ _ _ _ _ _ _ _ _ _ _ _ _ _ _ _ _ _ _ _ _ _ _ _ _ _ ?_
  refine H.out.next (u2 := ?uu) ?h1 ?h2 ?h3 (grown_alloc (grown_setCell (G4.out) _ _) _)
  case h1 => rw [R.text_leaf lk t f8]; exact WrAt.alloc (WrAt.setT (by exact HW4.out) _) _
  case h2 => rw [R.text_leaf lk t f8, R.line_set t.x _ ho hqe (by omega)]; simp [app_toList, lit_toList, hst.1, hsr.1, hse.1, hsa.1, hsb.1]
  case h3 => simp [lit_size]; omega
end Go.Proofs.YtpkjmdcabdplfaaGreatDoor
