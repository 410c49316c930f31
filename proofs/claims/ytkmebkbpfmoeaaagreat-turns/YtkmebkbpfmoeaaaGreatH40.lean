import Derived.Test.YtkmebkbpfmoeaaaGreatH39
set_option linter.unusedVariables false
set_option linter.unusedSimpArgs false
set_option maxHeartbeats 12800000
namespace Go.Proofs.YtkmebkbpfmoeaaaGreat
open Go Go.RowKit
set_option maxRecDepth 100000
def zDD (w:World) (l:List Obj):World:=l.foldl World.alloc w
theorem zDE:∀ (l:List Obj) (w:World),(zDD w l).heap.size=w.heap.size+l.length∧Below w.heap.size w (zDD w l)∧∀ j (h:j<l.length),(zDD w l).heap[w.heap.size+j]?=some l[j]
 | [],w=>⟨rfl,Below.refl _ _,fun j h=>by simp at h⟩
 | o::l,w=>by
  obtain⟨h1,h2,h3⟩:=zDE l (w.alloc o)
  have hs:(w.alloc o).heap.size=w.heap.size+1:=by simp
  have hb:Below w.heap.size w (w.alloc o):=(Below.refl _ _).alloc (Nat.le_refl _) _
  refine⟨by show (zDD (w.alloc o) l).heap.size=_;rw[h1,hs];simp;omega,zAn hb (Nat.le_refl _) h2,fun j hj=>?_⟩
  cases j with
  | zero=>exact (h2.block _ (by omega)).trans (heap_alloc_new w o)
  | succ j =>
   have:=h3 j (by simpa using hj)
   rw[hs] at this
   rw[show w.heap.size+(j+1)=w.heap.size+1+j by omega]
   simp only[List.getElem_cons_succ]
   exact this
namespace P
def kns:List (List UInt8 × List Int × Bool × Bool):=[kn0,kn1,kn2,kn3,kn4,kn5,kn6,kn7,kn8,kn9,kn10,kn11,kn12,kn13,kn14,kn15,kn16,kn17,kn18,kn19,kn20,kn21,kn22,kn23,kn24,kn25,kn26,kn27,kn28]
end P
def zIf (W:World) (g i:Nat) (x:List UInt8 × List Int × Bool × Bool):Prop:=∃ (s:ByteArray) (gw:Nat),s.toList=x.1∧W.cell? ⟨g,i*4,none⟩=some (.string s)∧W.cell? ⟨g,i*4+1,none⟩=some (.slice (some ⟨gw,0,none⟩) x.2.1.length x.2.1.length)∧W.cell? ⟨g,i*4+2,none⟩=some (.bool x.2.2.1)∧W.cell? ⟨g,i*4+3,none⟩=some (.bool x.2.2.2)∧zBA W (.slice (some ⟨gw,0,none⟩) x.2.1.length x.2.1.length) x.2.1
def zCT (b:Nat) (s0 s1 s2 s3 s4 s5 s6 s7 s8 s9 s10 s11 s12 s13 s14 s15 s16 s17 s18 s19 s20 s21 s22 s23 s24 s25 s26 s27 s28:ByteArray):Array Value:=#[.string s0,.slice (some ⟨b+0,0,none⟩) 6 6,.bool true,.bool false,.string s1,.slice (some ⟨b+0,0,none⟩) 6 6,.bool false,.bool false,.string s2,.slice (some ⟨b+0,0,none⟩) 6 6,.bool true,.bool false,.string s3,.slice (some ⟨b+0,0,none⟩) 6 6,.bool true,.bool false,.string s4,.slice (some ⟨b+0,0,none⟩) 6 6,.bool false,.bool false,.string s5,.slice (some ⟨b+0,0,none⟩) 6 6,.bool true,.bool false,.string s6,.slice (some ⟨b+0,0,none⟩) 6 6,.bool false,.bool true,.string s7,.slice (some ⟨b+0,0,none⟩) 6 6,.bool false,.bool false,.string s8,.slice (some ⟨b+0,0,none⟩) 6 6,.bool true,.bool true,.string s9,.slice (some ⟨b+0,0,none⟩) 6 6,.bool false,.bool false,.string s10,.slice (some ⟨b+1,0,none⟩) 6 6,.bool true,.bool false,.string s11,.slice (some ⟨b+1,0,none⟩) 6 6,.bool true,.bool false,.string s12,.slice (some ⟨b+1,0,none⟩) 6 6,.bool false,.bool false,.string s13,.slice (some ⟨b+1,0,none⟩) 6 6,.bool true,.bool false,.string s14,.slice (some ⟨b+2,0,none⟩) 6 6,.bool true,.bool false,.string s15,.slice (some ⟨b+3,0,none⟩) 6 6,.bool false,.bool false,.string s16,.slice (some ⟨b+4,0,none⟩) 6 6,.bool false,.bool false,.string s17,.slice (some ⟨b+5,0,none⟩) 12 12,.bool false,.bool false,.string s18,.slice (some ⟨b+6,0,none⟩) 12 12,.bool true,.bool false,.string s19,.slice (some ⟨b+7,0,none⟩) 12 12,.bool false,.bool false,.string s20,.slice (some ⟨b+1,0,none⟩) 6 6,.bool false,.bool false,.string s21,.slice (some ⟨b+8,0,none⟩) 6 6,.bool false,.bool false,.string s22,.slice (some ⟨b+9,0,none⟩) 3 3,.bool false,.bool false,.string s23,.slice (some ⟨b+10,0,none⟩) 3 3,.bool true,.bool true,.string s24,.slice (some ⟨b+11,0,none⟩) 6 6,.bool false,.bool false,.string s25,.slice (some ⟨b+12,0,none⟩) 3 3,.bool false,.bool false,.string s26,.slice (some ⟨b+0,0,none⟩) 6 6,.bool false,.bool false,.string s27,.slice (some ⟨b+0,0,none⟩) 6 6,.bool false,.bool false,.string s28,.slice (some ⟨b+13,0,none⟩) 9 9,.bool false,.bool false]
theorem zIg {W:World} {b:Nat} {s0 s1 s2 s3 s4 s5 s6 s7 s8 s9 s10 s11 s12 s13 s14 s15 s16 s17 s18 s19 s20 s21 s22 s23 s24 s25 s26 s27 s28:ByteArray} (hg:W.heap[b+14]?=some (.cells (zCT b s0 s1 s2 s3 s4 s5 s6 s7 s8 s9 s10 s11 s12 s13 s14 s15 s16 s17 s18 s19 s20 s21 s22 s23 s24 s25 s26 s27 s28) 33 (0,0)))
  (h0:s0.toList=P.kn0.1) (h1:s1.toList=P.kn1.1) (h2:s2.toList=P.kn2.1) (h3:s3.toList=P.kn3.1) (h4:s4.toList=P.kn4.1) (h5:s5.toList=P.kn5.1) (h6:s6.toList=P.kn6.1) (h7:s7.toList=P.kn7.1) (h8:s8.toList=P.kn8.1) (h9:s9.toList=P.kn9.1) (h10:s10.toList=P.kn10.1) (h11:s11.toList=P.kn11.1) (h12:s12.toList=P.kn12.1) (h13:s13.toList=P.kn13.1) (h14:s14.toList=P.kn14.1) (h15:s15.toList=P.kn15.1) (h16:s16.toList=P.kn16.1) (h17:s17.toList=P.kn17.1) (h18:s18.toList=P.kn18.1) (h19:s19.toList=P.kn19.1) (h20:s20.toList=P.kn20.1) (h21:s21.toList=P.kn21.1) (h22:s22.toList=P.kn22.1) (h23:s23.toList=P.kn23.1) (h24:s24.toList=P.kn24.1) (h25:s25.toList=P.kn25.1) (h26:s26.toList=P.kn26.1) (h27:s27.toList=P.kn27.1) (h28:s28.toList=P.kn28.1)
  (r0:zAp W (b+0) [1,0,1,1,1,0]) (r1:zAp W (b+1) [0,0,0,1,0,0]) (r2:zAp W (b+2) [0,0,1,1,0,1]) (r3:zAp W (b+3) [0,0,1,1,0,1]) (r4:zAp W (b+4) [0,0,1,1,0,1]) (r5:zAp W (b+5) [2,0,1,2,1,2,3,0,2,3,1,1]) (r6:zAp W (b+6) [2,0,1,2,1,0,3,0,1,3,1,0]) (r7:zAp W (b+7) [2,0,1,2,1,0,3,0,1,3,1,0]) (r8:zAp W (b+8) [0,0,2,1,0,1]) (r9:zAp W (b+9) [1,0,0]) (r10:zAp W (b+10) [1,0,0]) (r11:zAp W (b+11) [2,0,2,2,2,0]) (r12:zAp W (b+12) [0,0,0]) (r13:zAp W (b+13) [0,3,2,1,0,1,2,0,1]):∀ i x,P.kns[i]?=some x→zIf W (b+14) i x:=by
 have hc:∀ j (v:Value),(zCT b s0 s1 s2 s3 s4 s5 s6 s7 s8 s9 s10 s11 s12 s13 s14 s15 s16 s17 s18 s19 s20 s21 s22 s23 s24 s25 s26 s27 s28)[j]?=some v→W.cell? ⟨b+14,j,none⟩=some v:=fun j v hv=>by simp only[World.cell?,hg];simpa using hv
 intro i x hx
 match i,hx with
 | 0,hx =>
  obtain rfl:P.kn0=x:=Option.some.inj hx
  exact⟨s0,b+0,h0,hc 0 _ rfl,hc 1 _ rfl,hc 2 _ rfl,hc 3 _ rfl,r0.rowI 6⟩
 | 1,hx =>
  obtain rfl:P.kn1=x:=Option.some.inj hx
  exact⟨s1,b+0,h1,hc 4 _ rfl,hc 5 _ rfl,hc 6 _ rfl,hc 7 _ rfl,r0.rowI 6⟩
 | 2,hx =>
  obtain rfl:P.kn2=x:=Option.some.inj hx
  exact⟨s2,b+0,h2,hc 8 _ rfl,hc 9 _ rfl,hc 10 _ rfl,hc 11 _ rfl,r0.rowI 6⟩
 | 3,hx =>
  obtain rfl:P.kn3=x:=Option.some.inj hx
  exact⟨s3,b+0,h3,hc 12 _ rfl,hc 13 _ rfl,hc 14 _ rfl,hc 15 _ rfl,r0.rowI 6⟩
 | 4,hx =>
  obtain rfl:P.kn4=x:=Option.some.inj hx
  exact⟨s4,b+0,h4,hc 16 _ rfl,hc 17 _ rfl,hc 18 _ rfl,hc 19 _ rfl,r0.rowI 6⟩
 | 5,hx =>
  obtain rfl:P.kn5=x:=Option.some.inj hx
  exact⟨s5,b+0,h5,hc 20 _ rfl,hc 21 _ rfl,hc 22 _ rfl,hc 23 _ rfl,r0.rowI 6⟩
 | 6,hx =>
  obtain rfl:P.kn6=x:=Option.some.inj hx
  exact⟨s6,b+0,h6,hc 24 _ rfl,hc 25 _ rfl,hc 26 _ rfl,hc 27 _ rfl,r0.rowI 6⟩
 | 7,hx =>
  obtain rfl:P.kn7=x:=Option.some.inj hx
  exact⟨s7,b+0,h7,hc 28 _ rfl,hc 29 _ rfl,hc 30 _ rfl,hc 31 _ rfl,r0.rowI 6⟩
 | 8,hx =>
  obtain rfl:P.kn8=x:=Option.some.inj hx
  exact⟨s8,b+0,h8,hc 32 _ rfl,hc 33 _ rfl,hc 34 _ rfl,hc 35 _ rfl,r0.rowI 6⟩
 | 9,hx =>
  obtain rfl:P.kn9=x:=Option.some.inj hx
  exact⟨s9,b+0,h9,hc 36 _ rfl,hc 37 _ rfl,hc 38 _ rfl,hc 39 _ rfl,r0.rowI 6⟩
 | 10,hx =>
  obtain rfl:P.kn10=x:=Option.some.inj hx
  exact⟨s10,b+1,h10,hc 40 _ rfl,hc 41 _ rfl,hc 42 _ rfl,hc 43 _ rfl,r1.rowI 6⟩
 | 11,hx =>
  obtain rfl:P.kn11=x:=Option.some.inj hx
  exact⟨s11,b+1,h11,hc 44 _ rfl,hc 45 _ rfl,hc 46 _ rfl,hc 47 _ rfl,r1.rowI 6⟩
 | 12,hx =>
  obtain rfl:P.kn12=x:=Option.some.inj hx
  exact⟨s12,b+1,h12,hc 48 _ rfl,hc 49 _ rfl,hc 50 _ rfl,hc 51 _ rfl,r1.rowI 6⟩
 | 13,hx =>
  obtain rfl:P.kn13=x:=Option.some.inj hx
  exact⟨s13,b+1,h13,hc 52 _ rfl,hc 53 _ rfl,hc 54 _ rfl,hc 55 _ rfl,r1.rowI 6⟩
 | 14,hx =>
  obtain rfl:P.kn14=x:=Option.some.inj hx
  exact⟨s14,b+2,h14,hc 56 _ rfl,hc 57 _ rfl,hc 58 _ rfl,hc 59 _ rfl,r2.rowI 6⟩
 | 15,hx =>
  obtain rfl:P.kn15=x:=Option.some.inj hx
  exact⟨s15,b+3,h15,hc 60 _ rfl,hc 61 _ rfl,hc 62 _ rfl,hc 63 _ rfl,r3.rowI 6⟩
 | 16,hx =>
  obtain rfl:P.kn16=x:=Option.some.inj hx
  exact⟨s16,b+4,h16,hc 64 _ rfl,hc 65 _ rfl,hc 66 _ rfl,hc 67 _ rfl,r4.rowI 6⟩
 | 17,hx =>
  obtain rfl:P.kn17=x:=Option.some.inj hx
  exact⟨s17,b+5,h17,hc 68 _ rfl,hc 69 _ rfl,hc 70 _ rfl,hc 71 _ rfl,r5.rowI 12⟩
 | 18,hx =>
  obtain rfl:P.kn18=x:=Option.some.inj hx
  exact⟨s18,b+6,h18,hc 72 _ rfl,hc 73 _ rfl,hc 74 _ rfl,hc 75 _ rfl,r6.rowI 12⟩
 | 19,hx =>
  obtain rfl:P.kn19=x:=Option.some.inj hx
  exact⟨s19,b+7,h19,hc 76 _ rfl,hc 77 _ rfl,hc 78 _ rfl,hc 79 _ rfl,r7.rowI 12⟩
 | 20,hx =>
  obtain rfl:P.kn20=x:=Option.some.inj hx
  exact⟨s20,b+1,h20,hc 80 _ rfl,hc 81 _ rfl,hc 82 _ rfl,hc 83 _ rfl,r1.rowI 6⟩
 | 21,hx =>
  obtain rfl:P.kn21=x:=Option.some.inj hx
  exact⟨s21,b+8,h21,hc 84 _ rfl,hc 85 _ rfl,hc 86 _ rfl,hc 87 _ rfl,r8.rowI 6⟩
 | 22,hx =>
  obtain rfl:P.kn22=x:=Option.some.inj hx
  exact⟨s22,b+9,h22,hc 88 _ rfl,hc 89 _ rfl,hc 90 _ rfl,hc 91 _ rfl,r9.rowI 3⟩
 | 23,hx =>
  obtain rfl:P.kn23=x:=Option.some.inj hx
  exact⟨s23,b+10,h23,hc 92 _ rfl,hc 93 _ rfl,hc 94 _ rfl,hc 95 _ rfl,r10.rowI 3⟩
 | 24,hx =>
  obtain rfl:P.kn24=x:=Option.some.inj hx
  exact⟨s24,b+11,h24,hc 96 _ rfl,hc 97 _ rfl,hc 98 _ rfl,hc 99 _ rfl,r11.rowI 6⟩
 | 25,hx =>
  obtain rfl:P.kn25=x:=Option.some.inj hx
  exact⟨s25,b+12,h25,hc 100 _ rfl,hc 101 _ rfl,hc 102 _ rfl,hc 103 _ rfl,r12.rowI 3⟩
 | 26,hx =>
  obtain rfl:P.kn26=x:=Option.some.inj hx
  exact⟨s26,b+0,h26,hc 104 _ rfl,hc 105 _ rfl,hc 106 _ rfl,hc 107 _ rfl,r0.rowI 6⟩
 | 27,hx =>
  obtain rfl:P.kn27=x:=Option.some.inj hx
  exact⟨s27,b+0,h27,hc 108 _ rfl,hc 109 _ rfl,hc 110 _ rfl,hc 111 _ rfl,r0.rowI 6⟩
 | 28,hx =>
  obtain rfl:P.kn28=x:=Option.some.inj hx
  exact⟨s28,b+13,h28,hc 112 _ rfl,hc 113 _ rfl,hc 114 _ rfl,hc 115 _ rfl,r13.rowI 9⟩
 | n+29,hx=>exact absurd hx (by simp[P.kns])
theorem zGh (w:World) (s0 s1 s2 s3 s4 s5 s6 s7 s8 s9 s10 s11 s12 s13 s14 s15 s16 s17 s18 s19 s20 s21 s22 s23 s24 s25 s26 s27 s28:ByteArray) (h0:s0.toList=P.kn0.1) (h1:s1.toList=P.kn1.1) (h2:s2.toList=P.kn2.1) (h3:s3.toList=P.kn3.1) (h4:s4.toList=P.kn4.1) (h5:s5.toList=P.kn5.1) (h6:s6.toList=P.kn6.1) (h7:s7.toList=P.kn7.1) (h8:s8.toList=P.kn8.1) (h9:s9.toList=P.kn9.1) (h10:s10.toList=P.kn10.1) (h11:s11.toList=P.kn11.1) (h12:s12.toList=P.kn12.1) (h13:s13.toList=P.kn13.1) (h14:s14.toList=P.kn14.1) (h15:s15.toList=P.kn15.1) (h16:s16.toList=P.kn16.1) (h17:s17.toList=P.kn17.1) (h18:s18.toList=P.kn18.1) (h19:s19.toList=P.kn19.1) (h20:s20.toList=P.kn20.1) (h21:s21.toList=P.kn21.1) (h22:s22.toList=P.kn22.1) (h23:s23.toList=P.kn23.1) (h24:s24.toList=P.kn24.1) (h25:s25.toList=P.kn25.1) (h26:s26.toList=P.kn26.1) (h27:s27.toList=P.kn27.1) (h28:s28.toList=P.kn28.1):(∀ i x,P.kns[i]?=some x→zIf (zDD w [.cells (zAK [1,0,1,1,1,0]) 3,.cells (zAK [0,0,0,1,0,0]) 3,.cells (zAK [0,0,1,1,0,1]) 3,.cells (zAK [0,0,1,1,0,1]) 3,.cells (zAK [0,0,1,1,0,1]) 3,.cells (zAK [2,0,1,2,1,2,3,0,2,3,1,1]) 3,.cells (zAK [2,0,1,2,1,0,3,0,1,3,1,0]) 3,.cells (zAK [2,0,1,2,1,0,3,0,1,3,1,0]) 3,.cells (zAK [0,0,2,1,0,1]) 3,.cells (zAK [1,0,0]) 3,.cells (zAK [1,0,0]) 3,.cells (zAK [2,0,2,2,2,0]) 3,.cells (zAK [0,0,0]) 3,.cells (zAK [0,3,2,1,0,1,2,0,1]) 3,.cells (zCT w.heap.size s0 s1 s2 s3 s4 s5 s6 s7 s8 s9 s10 s11 s12 s13 s14 s15 s16 s17 s18 s19 s20 s21 s22 s23 s24 s25 s26 s27 s28) 33]) (w.heap.size+14) i x)∧w.heap.size+14<(zDD w [.cells (zAK [1,0,1,1,1,0]) 3,.cells (zAK [0,0,0,1,0,0]) 3,.cells (zAK [0,0,1,1,0,1]) 3,.cells (zAK [0,0,1,1,0,1]) 3,.cells (zAK [0,0,1,1,0,1]) 3,.cells (zAK [2,0,1,2,1,2,3,0,2,3,1,1]) 3,.cells (zAK [2,0,1,2,1,0,3,0,1,3,1,0]) 3,.cells (zAK [2,0,1,2,1,0,3,0,1,3,1,0]) 3,.cells (zAK [0,0,2,1,0,1]) 3,.cells (zAK [1,0,0]) 3,.cells (zAK [1,0,0]) 3,.cells (zAK [2,0,2,2,2,0]) 3,.cells (zAK [0,0,0]) 3,.cells (zAK [0,3,2,1,0,1,2,0,1]) 3,.cells (zCT w.heap.size s0 s1 s2 s3 s4 s5 s6 s7 s8 s9 s10 s11 s12 s13 s14 s15 s16 s17 s18 s19 s20 s21 s22 s23 s24 s25 s26 s27 s28) 33]).heap.size∧Below w.heap.size w (zDD w [.cells (zAK [1,0,1,1,1,0]) 3,.cells (zAK [0,0,0,1,0,0]) 3,.cells (zAK [0,0,1,1,0,1]) 3,.cells (zAK [0,0,1,1,0,1]) 3,.cells (zAK [0,0,1,1,0,1]) 3,.cells (zAK [2,0,1,2,1,2,3,0,2,3,1,1]) 3,.cells (zAK [2,0,1,2,1,0,3,0,1,3,1,0]) 3,.cells (zAK [2,0,1,2,1,0,3,0,1,3,1,0]) 3,.cells (zAK [0,0,2,1,0,1]) 3,.cells (zAK [1,0,0]) 3,.cells (zAK [1,0,0]) 3,.cells (zAK [2,0,2,2,2,0]) 3,.cells (zAK [0,0,0]) 3,.cells (zAK [0,3,2,1,0,1,2,0,1]) 3,.cells (zCT w.heap.size s0 s1 s2 s3 s4 s5 s6 s7 s8 s9 s10 s11 s12 s13 s14 s15 s16 s17 s18 s19 s20 s21 s22 s23 s24 s25 s26 s27 s28) 33]):=by
 have hsp:=zDE [.cells (zAK [1,0,1,1,1,0]) 3,.cells (zAK [0,0,0,1,0,0]) 3,.cells (zAK [0,0,1,1,0,1]) 3,.cells (zAK [0,0,1,1,0,1]) 3,.cells (zAK [0,0,1,1,0,1]) 3,.cells (zAK [2,0,1,2,1,2,3,0,2,3,1,1]) 3,.cells (zAK [2,0,1,2,1,0,3,0,1,3,1,0]) 3,.cells (zAK [2,0,1,2,1,0,3,0,1,3,1,0]) 3,.cells (zAK [0,0,2,1,0,1]) 3,.cells (zAK [1,0,0]) 3,.cells (zAK [1,0,0]) 3,.cells (zAK [2,0,2,2,2,0]) 3,.cells (zAK [0,0,0]) 3,.cells (zAK [0,3,2,1,0,1,2,0,1]) 3,.cells (zCT w.heap.size s0 s1 s2 s3 s4 s5 s6 s7 s8 s9 s10 s11 s12 s13 s14 s15 s16 s17 s18 s19 s20 s21 s22 s23 s24 s25 s26 s27 s28) 33] w
 refine⟨zIg (b:=w.heap.size) (hsp.2.2 14 (by simp)) h0 h1 h2 h3 h4 h5 h6 h7 h8 h9 h10 h11 h12 h13 h14 h15 h16 h17 h18 h19 h20 h21 h22 h23 h24 h25 h26 h27 h28 (hsp.2.2 0 (by simp)) (hsp.2.2 1 (by simp)) (hsp.2.2 2 (by simp)) (hsp.2.2 3 (by simp)) (hsp.2.2 4 (by simp)) (hsp.2.2 5 (by simp)) (hsp.2.2 6 (by simp)) (hsp.2.2 7 (by simp)) (hsp.2.2 8 (by simp)) (hsp.2.2 9 (by simp)) (hsp.2.2 10 (by simp)) (hsp.2.2 11 (by simp)) (hsp.2.2 12 (by simp)) (hsp.2.2 13 (by simp)),?_,hsp.2.1⟩
 have h9:=hsp.1
 simp only[List.length_cons,List.length_nil] at h9
 rw[h9];omega
theorem zGi (w:World) :
  Calls Tryz.prog 12 #[] w fun e w'=>e=.returned (.slice (some ⟨w.heap.size+14,0,none⟩) 29 29)∧(∀ i x,P.kns[i]?=some x→zIf w' (w.heap.size+14) i x)∧w.heap.size+14<w'.heap.size∧Below w.heap.size w w':=by
 go_enter Tryz.func12,Tryz.ntmps12
 go_wp2_with (first
  | (go_at_call 22;refine (zEY _ _ _ _ _ (by simp[zCo]) (by simp[zCo]) (by simp[zCo]) (by simp[zCo])).mono ?_;rintro e wp ⟨s0,rfl,hs0,rfl⟩;have hba:=zHU s0 _ ((zAN s0).symm.trans hs0);clear hs0;subst hba)
  | (go_at_call 23;refine (zEv _ _ _ (by simp[zCo]) (by simp[zCo])).mono ?_;rintro e wp ⟨s1,rfl,hs1,rfl⟩;have hba:=zHU s1 _ ((zAN s1).symm.trans hs1);clear hs1;subst hba))
 go_ret
 refine⟨rfl,?_⟩
 exact zGh wp _ _ _ _ _ _ _ _ _ _ _ _ _ _ _ _ _ _ _ _ _ _ _ _ _ _ _ _ _ (by first | (simp only[zAq,zAe,zAi];rfl) | (rw[zAi];simp only[zAe];rfl) | (rw[zAe];rfl)) (by first | (simp only[zAq,zAe,zAi];rfl) | (rw[zAi];simp only[zAe];rfl) | (rw[zAe];rfl)) (by first | (simp only[zAq,zAe,zAi];rfl) | (rw[zAi];simp only[zAe];rfl) | (rw[zAe];rfl)) (by first | (simp only[zAq,zAe,zAi];rfl) | (rw[zAi];simp only[zAe];rfl) | (rw[zAe];rfl)) (by first | (simp only[zAq,zAe,zAi];rfl) | (rw[zAi];simp only[zAe];rfl) | (rw[zAe];rfl)) (by first | (simp only[zAq,zAe,zAi];rfl) | (rw[zAi];simp only[zAe];rfl) | (rw[zAe];rfl)) (by first | (simp only[zAq,zAe,zAi];rfl) | (rw[zAi];simp only[zAe];rfl) | (rw[zAe];rfl)) (by first | (simp only[zAq,zAe,zAi];rfl) | (rw[zAi];simp only[zAe];rfl) | (rw[zAe];rfl)) (by first | (simp only[zAq,zAe,zAi];rfl) | (rw[zAi];simp only[zAe];rfl) | (rw[zAe];rfl)) (by first | (simp only[zAq,zAe,zAi];rfl) | (rw[zAi];simp only[zAe];rfl) | (rw[zAe];rfl)) (by first | (simp only[zAq,zAe,zAi];rfl) | (rw[zAi];simp only[zAe];rfl) | (rw[zAe];rfl)) (by first | (simp only[zAq,zAe,zAi];rfl) | (rw[zAi];simp only[zAe];rfl) | (rw[zAe];rfl)) (by first | (simp only[zAq,zAe,zAi];rfl) | (rw[zAi];simp only[zAe];rfl) | (rw[zAe];rfl)) (by first | (simp only[zAq,zAe,zAi];rfl) | (rw[zAi];simp only[zAe];rfl) | (rw[zAe];rfl)) (by first | (simp only[zAq,zAe,zAi];rfl) | (rw[zAi];simp only[zAe];rfl) | (rw[zAe];rfl)) (by first | (simp only[zAq,zAe,zAi];rfl) | (rw[zAi];simp only[zAe];rfl) | (rw[zAe];rfl)) (by first | (simp only[zAq,zAe,zAi];rfl) | (rw[zAi];simp only[zAe];rfl) | (rw[zAe];rfl)) (by first | (simp only[zAq,zAe,zAi];rfl) | (rw[zAi];simp only[zAe];rfl) | (rw[zAe];rfl)) (by first | (simp only[zAq,zAe,zAi];rfl) | (rw[zAi];simp only[zAe];rfl) | (rw[zAe];rfl)) (by first | (simp only[zAq,zAe,zAi];rfl) | (rw[zAi];simp only[zAe];rfl) | (rw[zAe];rfl)) (by first | (simp only[zAq,zAe,zAi];rfl) | (rw[zAi];simp only[zAe];rfl) | (rw[zAe];rfl)) (by first | (simp only[zAq,zAe,zAi];rfl) | (rw[zAi];simp only[zAe];rfl) | (rw[zAe];rfl)) (by first | (simp only[zAq,zAe,zAi];rfl) | (rw[zAi];simp only[zAe];rfl) | (rw[zAe];rfl)) (by first | (simp only[zAq,zAe,zAi];rfl) | (rw[zAi];simp only[zAe];rfl) | (rw[zAe];rfl)) (by first | (simp only[zAq,zAe,zAi];rfl) | (rw[zAi];simp only[zAe];rfl) | (rw[zAe];rfl)) (by first | (simp only[zAq,zAe,zAi];rfl) | (rw[zAi];simp only[zAe];rfl) | (rw[zAe];rfl)) (by first | (simp only[zAq,zAe,zAi];rfl) | (rw[zAi];simp only[zAe];rfl) | (rw[zAe];rfl)) (by first | (simp only[zAq,zAe,zAi];rfl) | (rw[zAi];simp only[zAe];rfl) | (rw[zAe];rfl)) (by first | (simp only[zAq,zAe,zAi];rfl) | (rw[zAi];simp only[zAe];rfl) | (rw[zAe];rfl))
namespace P
def ansB (s:List UInt8) (d:List Int):Bool :=
 ((kernel s).2.1==0)&&decide (s.length≤2000)&&(Q.zIE (zAT (Q.runs (kernel s).1))).contains d&&(Q.candsIn (Q.zIl (Q.runs (kernel s).1) d) (Q.zIx (Q.zIl (Q.runs (kernel s).1) d).events)).any fun c=>(Q.ordsOf c.wd).any fun ds=>Q.srcMay c ds
structure AnsZ (s:List UInt8):Prop where
 size:s.length≤2000
 e:(kernel s).2.1=0
 ne:(Q.zIC (kernel s).1).rows≠[]
theorem ansB_ok {s:List UInt8} (d:List Int) (h:ansB s d=true):AnsZ s:=by
 unfold ansB at h
 simp only[Bool.and_eq_true,beq_iff_eq,decide_eq_true_eq,List.contains_iff_mem,List.any_eq_true] at h
 obtain⟨⟨⟨h1,h2⟩,h3⟩,c,hc,ds,hds,hm⟩:=h
 refine⟨h2,h1,fun e=>?_⟩
 have hcm:c∈Q.cands (kernel s).1:=by
  unfold Q.cands
  rw[List.mem_flatMap]
  exact⟨d,h3,hc⟩
 have:=(Q.source_rows (kernel s).1 _).2 ⟨c,hcm,ds,hds,hm,rfl⟩
 rw[e] at this
 simp at this
theorem kz_0:ansB kn0.1 [0,0]=true:=by decide +kernel
theorem kz_1:ansB kn1.1 [0,0]=true:=by decide +kernel
theorem kz_2:ansB kn2.1 [0,0]=true:=by decide +kernel
theorem kz_3:ansB kn3.1 [0,0]=true:=by decide +kernel
theorem kz_4:ansB kn4.1 [0,0]=true:=by decide +kernel
theorem kz_5:ansB kn5.1 [0,0]=true:=by decide +kernel
theorem kz_6:ansB kn6.1 [0,0]=true:=by decide +kernel
theorem kz_7:ansB kn7.1 [0,0]=true:=by decide +kernel
theorem kz_8:ansB kn8.1 [0,0]=true:=by decide +kernel
theorem kz_9:ansB kn9.1 [0,0]=true:=by decide +kernel
theorem kz_10:ansB kn10.1 [0,0]=true:=by decide +kernel
theorem kz_11:ansB kn11.1 [0,0]=true:=by decide +kernel
theorem kz_12:ansB kn12.1 [1,0]=true:=by decide +kernel
theorem kz_13:ansB kn13.1 [0,0]=true:=by decide +kernel
theorem kz_14:ansB kn14.1 [0,0]=true:=by decide +kernel
theorem kz_15:ansB kn15.1 [0,0]=true:=by decide +kernel
theorem kz_16:ansB kn16.1 [0,0]=true:=by decide +kernel
theorem kz_17:ansB kn17.1 [0,0,0,0]=true:=by decide +kernel
theorem kz_18:ansB kn18.1 [0,0,0,0]=true:=by decide +kernel
theorem kz_19:ansB kn19.1 [0,0,0,0]=true:=by decide +kernel
theorem kz_20:ansB kn20.1 [1,0]=true:=by decide +kernel
theorem kz_21:ansB kn21.1 [2,0]=true:=by decide +kernel
theorem kz_22:ansB kn22.1 [0,1]=true:=by decide +kernel
theorem kz_23:ansB kn23.1 [0,0]=true:=by decide +kernel
theorem kz_24:ansB kn24.1 [0,0,0]=true:=by decide +kernel
theorem kz_25:ansB kn25.1 [1]=true:=by decide +kernel
theorem kz_26:ansB kn26.1 [0,0]=true:=by decide +kernel
theorem kz_27:ansB kn27.1 [0,0]=true:=by decide +kernel
theorem kz_28:ansB kn28.1 [0,0,0]=true:=by decide +kernel
theorem kns_ansZ:∀ x∈kns,AnsZ x.1:=by
 intro x hx
 simp only[kns,List.mem_cons,List.not_mem_nil,or_false] at hx
 rcases hx with rfl | rfl | rfl | rfl | rfl | rfl | rfl | rfl | rfl | rfl | rfl | rfl | rfl | rfl | rfl | rfl | rfl | rfl | rfl | rfl | rfl | rfl | rfl | rfl | rfl | rfl | rfl | rfl | rfl
 ·exact ansB_ok _ kz_0
 ·exact ansB_ok _ kz_1
 ·exact ansB_ok _ kz_2
 ·exact ansB_ok _ kz_3
 ·exact ansB_ok _ kz_4
 ·exact ansB_ok _ kz_5
 ·exact ansB_ok _ kz_6
 ·exact ansB_ok _ kz_7
 ·exact ansB_ok _ kz_8
 ·exact ansB_ok _ kz_9
 ·exact ansB_ok _ kz_10
 ·exact ansB_ok _ kz_11
 ·exact ansB_ok _ kz_12
 ·exact ansB_ok _ kz_13
 ·exact ansB_ok _ kz_14
 ·exact ansB_ok _ kz_15
 ·exact ansB_ok _ kz_16
 ·exact ansB_ok _ kz_17
 ·exact ansB_ok _ kz_18
 ·exact ansB_ok _ kz_19
 ·exact ansB_ok _ kz_20
 ·exact ansB_ok _ kz_21
 ·exact ansB_ok _ kz_22
 ·exact ansB_ok _ kz_23
 ·exact ansB_ok _ kz_24
 ·exact ansB_ok _ kz_25
 ·exact ansB_ok _ kz_26
 ·exact ansB_ok _ kz_27
 ·exact ansB_ok _ kz_28
end P
theorem zFm (s:ByteArray) (l:List UInt8) (w:World) (hs:s.toList=l) (hz:s.size≤8192) (h:P.AnsZ l) :
  Calls Tryz.prog 13 #[.string s] w fun e w'=>∃ ov cl n a c,e=.returned (.tuple #[ov,.bool cl,.int .i64 0,.int .i64 0])∧ov=.slice a n c∧0<n∧n<100000000∧Below w.heap.size w w':=by
 subst hs
 refine (zCS s w hz h.e).mono ?_
 rintro e w' ⟨ov,vs,rfl,hri,hb⟩
 obtain⟨a,c,ho,_⟩:=hri.form
 exact⟨ov,_,_,a,c,rfl,ho,List.length_pos_iff.2 h.ne,Q.zJg (P.zIN h.e),hb⟩
theorem zEG (HK:Hid (∀ x∈P.kns,P.AnsZ x.1)) (c:Int) (w:World) (h0:-9223372036854775808≤c) (h1:c<9223372036854775808) :
  Calls Tryz.prog 7 #[.int .i64 c] w fun e w'=>e=.returned (.bool true)∧Below w.heap.size w w':=by
 go_enter Tryz.func7,Tryz.ntmps7
 go_wp2_with (first
  | (go_at_call 12;refine (zGi _).mono ?_;rintro e w1 ⟨rfl,hkn,hlk,hb1⟩;have KN:=zAa hkn;have B1:=zAa hb1;clear hkn hb1;generalize hgk:w.heap.size+14=gk at *)
  | (go_at_call 14;refine (zFZ c _ h0 h1).mono ?_;rintro e wp ⟨i,hi,rfl,hwp⟩;subst hwp;obtain⟨x,hx⟩:∃ x,P.kns[i]?=some x:=⟨P.kns[i]'hi,List.getElem?_eq_getElem hi⟩;have XO:=zAa (HK.out x (List.mem_of_getElem? hx));obtain⟨s,gw,hs,cs,cw,cm,cc,hrw⟩:=KN.out i x hx;have HS:=zAa hs;have hi29:(i:Int)<29:=(by omega);have hsz:s.size≤8192:=(by have h9:=XO.out.size;rw[← hs,zAB] at h9;omega);clear hs hrw hx)
  | (go_at_call 13;refine (zFm s x.1 _ HS.out hsz XO.out).mono ?_;rintro e w2 ⟨ov2,cl2,n2,a2,c2,rfl,hov2,hn2,hm2,hb2⟩;subst hov2;have B2:=zAa (zAn B1.out (Nat.le_refl _) hb2);have hn2':(0:Int)<(n2:Int):=(by omega);clear hb2))
 go_ret
 exact⟨rfl,B2.out⟩
def SW (s a b:ByteArray):ByteArray:=⟨(P.sw a.toList b.toList 0 true s.toList).toArray⟩
theorem zDF {w:World} {B n sz:Nat} {t:TypeId} {v:Value} {xs:List Value} (h:w.ownsRow B t sz v n xs):∃ a c,v=.slice a n c:=by
 rcases h.2 with ⟨e,h0⟩ | ⟨g',c,cur,e,_⟩
 ·exact⟨none,0,by rw[e,h0]⟩
 ·exact⟨_,c,e⟩
end Go.Proofs.YtkmebkbpfmoeaaaGreat
namespace Go.Proofs.YtkmebkbpfmoeaaaGreat
namespace Q
def cB (m:Nat) (p:Nat→Bool):Nat:=((List.range m).filter p).length
theorem cB_succ (m:Nat) (p:Nat→Bool):cB (m+1) p=cB m p+if p m=true then 1 else 0:=by
 unfold cB
 rw[List.range_succ,List.filter_append,List.length_append]
 cases h:p m<;>simp[h]
theorem cB_mono {p q:Nat→Bool}:∀ m,(∀ k,k<m→p k=true→q k=true)→cB m p≤cB m q
 | 0,_=>Nat.le_refl _
 | m+1,h=>by
  rw[cB_succ,cB_succ]
  have ih:=cB_mono m (fun k hk=>h k (by omega))
  have h1:=h m (by omega)
  cases hp:p m
  ·simp;omega
  ·rw[h1 hp];simp;omega
theorem cB_lt {p q:Nat→Bool}:∀ m,(∀ k,k<m→p k=true→q k=true)→(∃ k,k<m∧q k=true∧p k=false)→cB m p<cB m q
 | 0,_,⟨k,hk,_⟩=>absurd hk (by omega)
 | m+1,h,⟨k,hk,h1,h2⟩=>by
  rw[cB_succ,cB_succ]
  by_cases e:k=m
  ·subst e
   have ih:=cB_mono k (fun j hj=>h j (by omega))
   rw[h1,h2];simp;omega
  ·have ih:=cB_lt m (fun j hj=>h j (by omega)) ⟨k,by omega,h1,h2⟩
   have h3:=h m (by omega)
   cases hp:p m
   ·simp;omega
   ·rw[h3 hp];simp;omega
theorem cB_split {s p q:Nat→Bool}:∀ m,(∀ k,k<m→((s k=true ↔ p k=true∨q k=true)∧¬ (p k=true∧q k=true)))→cB m s=cB m p+cB m q
 | 0,_=>rfl
 | m+1,h=>by
  rw[cB_succ,cB_succ,cB_succ,cB_split m (fun k hk=>h k (by omega))]
  obtain⟨h1,h2⟩:=h m (by omega)
  cases hp:p m<;>cases hq:q m<;>cases hs:s m<;>simp[hp,hq,hs] at h1 h2 ⊢<;>omega
theorem cB_zero {p:Nat→Bool} (m:Nat) (h:∀ k,k<m→p k=false):cB m p=0:=by
 have:=cB_mono (p:=p) (q:=fun _=>false) m (fun k hk e=>by rw[h k hk] at e;cases e)
 have h2:cB m (fun _=>false)=0:=by unfold cB;simp
 omega
theorem getD_set (l:List Int) (i j:Nat) (x:Int) (h:i<l.length):(l.set i x).getD j 0=if j=i then x else l.getD j 0:=by
 by_cases e:j=i
 ·subst e
  rw[if_pos rfl,List.getD_eq_getElem?_getD,List.getElem?_set_self h];rfl
 ·rw[if_neg e,List.getD_eq_getElem?_getD,List.getElem?_set_ne (Ne.symm e),List.getD_eq_getElem?_getD]
theorem placeK_fold (rs p:List Int) (i:Nat) (hi:i<p.length):∀ m,m≤i→((List.range m).foldl (zJI rs i) p).length=p.length∧∀ j,((List.range m).foldl (zJI rs i) p).getD j 0=if j<m∧rs.getD j (-1)=rs.getD i (-1)∧p.getD i 0≤p.getD j 0 then p.getD j 0+1 else p.getD j 0
 | 0,_=>⟨rfl,fun j=>by simp⟩
 | m+1,hm=>by
  rw[zIm]
  obtain⟨h1,h2⟩:=placeK_fold rs p i hi m (by omega)
  generalize (List.range m).foldl (zJI rs i) p=q at h1 h2
  have e1:q.getD i 0=p.getD i 0:=by rw[h2,if_neg (by omega)]
  have e2:q.getD m 0=p.getD m 0:=by rw[h2,if_neg (by omega)]
  unfold zJI
  rw[e1,e2]
  by_cases c:rs.getD m (-1)=rs.getD i (-1)∧p.getD i 0≤p.getD m 0
  ·rw[if_pos (by simp only[Bool.and_eq_true,beq_iff_eq,decide_eq_true_eq];exact c)]
   refine⟨by simp[h1],fun j=>?_⟩
   rw[getD_set _ _ _ _ (by omega)]
   by_cases e:j=m
   ·subst e;rw[if_pos rfl,if_pos ⟨by omega,c⟩]
   ·rw[if_neg e,h2]
    by_cases c2:j<m∧rs.getD j (-1)=rs.getD i (-1)∧p.getD i 0≤p.getD j 0
    ·rw[if_pos c2,if_pos ⟨by omega,c2.2⟩]
    ·rw[if_neg c2,if_neg (fun c3=>c2 ⟨by omega,c3.2⟩)]
  ·rw[if_neg (by simp only[Bool.and_eq_true,beq_iff_eq,decide_eq_true_eq];exact c)]
   refine⟨h1,fun j=>?_⟩
   rw[h2]
   by_cases e:j=m
   ·subst e;rw[if_neg (by omega),if_neg (fun c3=>c c3.2)]
   ·by_cases c2:j<m∧rs.getD j (-1)=rs.getD i (-1)∧p.getD i 0≤p.getD j 0
    ·rw[if_pos c2,if_pos ⟨by omega,c2.2⟩]
    ·rw[if_neg c2,if_neg (fun c3=>c2 ⟨by omega,c3.2⟩)]
theorem placeI_get (rs ds p:List Int) (i:Nat) (hi:i<p.length):(zJx rs ds p i).length=p.length∧(rs.getD i (-1)=-1→∀ j,(zJx rs ds p i).getD j 0=if j=i then -1 else p.getD j 0)∧(rs.getD i (-1)≠-1→∀ j,(zJx rs ds p i).getD j 0=if j=i then zJT rs i-ds.getD i 0 else if j<i∧rs.getD j (-1)=rs.getD i (-1)∧zJT rs i-ds.getD i 0≤p.getD j 0 then p.getD j 0+1 else p.getD j 0):=by
 unfold zJx
 by_cases c:rs.getD i (-1)=-1
 ·rw[if_pos (by simpa using c)]
  exact⟨by simp,fun _ j=>getD_set _ _ _ _ hi,fun h=>absurd c h⟩
 ·rw[if_neg (by simpa using c)]
  obtain⟨h1,h2⟩:=placeK_fold rs (p.set i (zJT rs i-ds.getD i 0)) i (by simpa using hi) i (Nat.le_refl _)
  refine⟨by rw[h1];simp,fun h=>absurd h c,fun _ j=>?_⟩
  rw[h2,getD_set _ _ _ _ hi,getD_set _ _ _ _ hi,if_pos rfl]
  by_cases e:j=i
  ·rw[if_pos e,if_pos e,if_neg (by omega)]
  ·rw[if_neg e,if_neg e]
structure Ord (es:List Ev) (rs:List Int) (B:Nat→Nat→Bool):Prop where
 same:∀ i k,B i k=true→i<es.length∧k<es.length∧rs.getD i (-1)=rs.getD k (-1)∧rs.getD i (-1)≠-1
 irr:∀ i,B i i=false
 trans:∀ i j k,B i j=true→B j k=true→B i k=true
 total:∀ i k,i<es.length→k<es.length→i≠k→rs.getD i (-1)=rs.getD k (-1)→rs.getD i (-1)≠-1→B i k=true∨B k i=true
 first:∀ i k,B i k=true→(ev es k).thread≠-1
theorem Ord.not {es:List Ev} {rs:List Int} {B:Nat→Nat→Bool} (h:Ord es rs B) {i k:Nat} (e:B i k=true):B k i=false:=by
 cases c:B k i
 ·rfl
 ·have:=h.trans i k i e c
  rw[h.irr] at this;cases this
theorem dig_range (f g:Nat→Int):∀ (L:List Nat),(∀ i∈L,0≤g i∧g i<f i)→DigOk (L.map f) (L.map g)
 | [],_=>trivial
 | a::L,h=>⟨(h a (by simp)).1,(h a (by simp)).2,dig_range f g L fun i hi=>h i (List.mem_cons_of_mem _ hi)⟩
theorem dig_mem:∀ {bs ds:List Int},DigOk bs ds→ds∈zIE bs
 | [],[],_=>by simp[zIE]
 | b::bs,d::ds,h=>by
  simp only[zIE,List.mem_flatMap,List.mem_map,List.mem_range]
  exact⟨ds,dig_mem h.2.2,d.toNat,by have:=h.1;have:=h.2.1;omega,by have:=h.1;rw[Int.toNat_of_nonneg this]⟩
 | [],d::ds,h=>by simp[DigOk] at h
 | b::bs,[],h=>by simp[DigOk] at h
theorem range_getD (f:Nat→Int) (n i:Nat) (h:i<n):((List.range n).map f).getD i 0=f i:=by
 rw[List.getD_eq_getElem?_getD];simp[h]
theorem ord_places {es:List Ev} {rs:List Int} {B:Nat→Nat→Bool} (hl:rs.length=es.length) (h:Ord es rs B) (ds:List Int) (hds:∀ i,i<es.length→ds.getD i 0=(cB i (B i):Nat)):∀ m,m≤es.length→((List.range m).foldl (zJx rs ds) (List.replicate rs.length 0)).length=es.length∧∀ i,i<m→rs.getD i (-1)≠-1→((List.range m).foldl (zJx rs ds) (List.replicate rs.length 0)).getD i 0=(cB m (fun k=>B k i):Nat)
 | 0,_=>⟨by simp[hl],fun i hi=>absurd hi (by omega)⟩
 | m+1,hm=>by
  rw[zIm]
  obtain⟨h1,h2⟩:=ord_places hl h ds hds m (by omega)
  generalize (List.range m).foldl (zJx rs ds) (List.replicate rs.length 0)=p at h1 h2
  obtain⟨g1,g2,g3⟩:=placeI_get rs ds p m (by omega)
  refine⟨by rw[g1];exact h1,fun i hi hr=>?_⟩
  rw[cB_succ]
  by_cases c:rs.getD m (-1)=-1
  ·rw[g2 c i]
   have hne:i≠m:=fun e=>hr (e ▸ c)
   rw[if_neg hne,h2 i (by omega) hr]
   have:B m i=false:=by
    cases e:B m i
    ·rfl
    ·exact absurd c (h.same _ _ e).2.2.2
   simp[this]
  ·rw[g3 c i]
   have hcnt:zJT rs m-ds.getD m 0=(cB m (fun k=>B k m):Nat):=by
    have e1:zJT rs m=(cB m (fun k=>rs.getD k (-1)==rs.getD m (-1)):Nat):=rfl
    have e2:=cB_split (s:=fun k=>rs.getD k (-1)==rs.getD m (-1)) (p:=fun k=>B k m) (q:=fun k=>B m k) m (fun k hk=>by
     refine⟨⟨fun e=>?_,fun e=>?_⟩,fun e=>?_⟩
     ·have e3:rs.getD k (-1)=rs.getD m (-1):=by simpa using e
      exact h.total k m (by omega) (by omega) (by omega) e3 (by rw[e3];exact c)
     ·rcases e with e | e
      ·simpa using (h.same _ _ e).2.2.1
      ·simpa using (h.same _ _ e).2.2.1.symm
     ·have:=h.not e.1
      rw[e.2] at this;cases this)
    have e3:cB m (fun k=>B m k)=cB m (B m):=rfl
    rw[e1,e2,hds m (by omega),e3]
    omega
   rw[hcnt]
   by_cases e:i=m
   ·rw[if_pos e,e,h.irr];simp
   ·rw[if_neg e,h2 i (by omega) hr]
    by_cases e2:rs.getD i (-1)=rs.getD m (-1)
    ·rcases h.total i m (by omega) (by omega) e e2 hr with e3 | e3
     ·have h3:cB m (fun k=>B k i)<cB m (fun k=>B k m):=cB_lt m (fun k _ hk=>h.trans _ _ _ hk e3) ⟨i,by omega,e3,h.irr i⟩
      rw[if_neg (by omega),h.not e3];simp
     ·have h3:cB m (fun k=>B k m)≤cB m (fun k=>B k i):=cB_mono m (fun k _ hk=>h.trans _ _ _ hk e3)
      rw[if_pos ⟨by omega,e2,by omega⟩,e3];simp
    ·have:B m i=false:=by
      cases e3:B m i
      ·rfl
      ·exact absurd (h.same _ _ e3).2.2.1.symm e2
     rw[if_neg (fun c3=>e2 c3.2.1),this];simp
theorem writeRows_get (es:List Ev) (i:Nat) (h:i<es.length):(zIj es).getD i (-1)=if (ev es i).kind=1 then (ev es i).var else -1:=by
 unfold zIj
 rw[List.getD_eq_getElem?_getD,List.getElem?_map,List.getElem?_eq_getElem h,ev_in es i h]
 simp
theorem writeRows_lenM (es:List Ev):(zIj es).length=es.length:=by simp[zIj]
def VarOk (es:List Ev):Prop:=∀ i,i<es.length→(ev es i).kind=1→(ev es i).var≠-1
theorem ord_there {es:List Ev} {B:Nat→Nat→Bool} (hv:VarOk es) (h:Ord es (zIj es) B):∃ ds∈zIE (zIp es (zIj es)),∀ i k,i<es.length→k<es.length→zKB es (zIv (zIj es) ds) i k=B i k:=by
 have hl:=writeRows_lenM es
 refine⟨(List.range (zIj es).length).map (fun i=>((cB i (B i):Nat):Int)),dig_mem ?_,fun i k hi hk=>?_⟩
 ·unfold zIp
  refine dig_range _ _ _ (fun i hi=>?_)
  have hi2:i<es.length:=by rw[← hl];exact List.mem_range.1 hi
  refine⟨by omega,?_⟩
  unfold zIS
  have:cB i (B i)≤cB i (ordB es (zIj es) i):=cB_mono i (fun k hk e=>by
   obtain⟨_,_,h3,h4⟩:=h.same _ _ e
   have h5:=h.first _ _ e
   unfold ordB
   simp only[Bool.and_eq_true,bne_iff_ne,ne_eq,beq_iff_eq]
   exact⟨⟨h4,h3.symm⟩,h5⟩)
  unfold cB at this ⊢
  omega
 ·obtain⟨_,h2⟩:=ord_places hl h ((List.range (zIj es).length).map (fun i=>((cB i (B i):Nat):Int))) (fun i hi=>range_getD (fun i=>((cB i (B i):Nat):Int)) (zIj es).length i (by rw[hl];exact hi)) es.length (Nat.le_refl _)
  have e0:zIv (zIj es) ((List.range (zIj es).length).map (fun i=>((cB i (B i):Nat):Int)))=(List.range es.length).foldl (zJx (zIj es) ((List.range (zIj es).length).map (fun i=>((cB i (B i):Nat):Int)))) (List.replicate (zIj es).length 0):=by
   unfold zIv;rw[hl]
  rw[e0]
  generalize (List.range es.length).foldl (zJx (zIj es) ((List.range (zIj es).length).map (fun i=>((cB i (B i):Nat):Int)))) (List.replicate (zIj es).length 0)=p at h2
  have lt_of:∀ i k,i<es.length→k<es.length→B i k=true→p.getD i 0<p.getD k 0:=fun i k hi hk e=>by
   obtain⟨_,_,h3,h4⟩:=h.same _ _ e
   rw[h2 i hi h4,h2 k hk (by rw[← h3];exact h4)]
   have:=cB_lt es.length (p:=fun j=>B j i) (q:=fun j=>B j k) (fun j _ hj=>h.trans _ _ _ hj e) ⟨i,hi,e,h.irr i⟩
   omega
  rw[Bool.eq_iff_iff]
  unfold zKB
  simp only[Bool.and_eq_true,beq_iff_eq,decide_eq_true_eq]
  constructor
  ·rintro ⟨⟨⟨k1,k2⟩,k3⟩,k4⟩
   have r1:=writeRows_get es i hi
   have r2:=writeRows_get es k hk
   rw[if_pos k1] at r1
   rw[if_pos k2] at r2
   have hne:i≠k:=fun e=>by rw[e] at k4;omega
   rcases h.total i k hi hk hne (by rw[r1,r2,k3]) (by rw[r1];exact hv i hi k1) with e | e
   ·exact e
   ·have:=lt_of k i hk hi e;omega
  ·intro e
   obtain⟨_,_,h3,h4⟩:=h.same _ _ e
   have r1:=writeRows_get es i hi
   have r2:=writeRows_get es k hk
   have k1:(ev es i).kind=1:=by
    by_cases c:(ev es i).kind=1
    ·exact c
    ·rw[if_neg c] at r1;exact absurd r1 h4
   have k2:(ev es k).kind=1:=by
    by_cases c:(ev es k).kind=1
    ·exact c
    ·rw[if_neg c] at r2;rw[h3] at h4;exact absurd r2 h4
   rw[if_pos k1] at r1
   rw[if_pos k2] at r2
   exact⟨⟨⟨k1,k2⟩,by rw[← r1,← r2,h3]⟩,lt_of i k hi hk e⟩
end Q
end Go.Proofs.YtkmebkbpfmoeaaaGreat
