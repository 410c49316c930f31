import Derived.Test.YtgceflcbckjjiaaGreatDoorD46
set_option linter.unusedVariables false
set_option linter.unusedSimpArgs false
set_option maxHeartbeats 12800000
namespace Go.Proofs.YtgceflcbckjjiaaGreatDoor
open Go Go.RowKit
set_option maxRecDepth 100000
def zEa (w:World) (l:List Obj):World:=l.foldl World.alloc w
theorem zEb:∀ (l:List Obj) (w:World),(zEa w l).heap.size=w.heap.size+l.length∧Below w.heap.size w (zEa w l)∧∀ j (h:j<l.length),(zEa w l).heap[w.heap.size+j]?=some l[j]
 | [],w=>⟨rfl,Below.refl _ _,fun j h=>by simp at h⟩
 | o::l,w=>by
  obtain⟨h1,h2,h3⟩:=zEb l (w.alloc o)
  have hs:(w.alloc o).heap.size=w.heap.size+1:=by simp
  have hb:Below w.heap.size w (w.alloc o):=(Below.refl _ _).alloc (Nat.le_refl _) _
  refine⟨by show (zEa (w.alloc o) l).heap.size=_;rw[h1,hs];simp;omega,zAr hb (Nat.le_refl _) h2,fun j hj=>?_⟩
  cases j with
  | zero=>exact (h2.block _ (by omega)).trans (heap_alloc_new w o)
  | succ j =>
   have:=h3 j (by simpa using hj)
   rw[hs] at this
   rw[show w.heap.size+(j+1)=w.heap.size+1+j by omega]
   simp only[List.getElem_cons_succ]
   exact this
namespace P
def kns:List (List UInt8 × List Int × Bool × Bool):=[kn0,kn1,kn2,kn3,kn4,kn5,kn6,kn7,kn8,kn9,kn10,kn11,kn12,kn13,kn14,kn15,kn16,kn17,kn18,kn19,kn20,kn21,kn22,kn23,kn24,kn25,kn26,kn27,kn28]
end P
def zJh (W:World) (g i:Nat) (x:List UInt8 × List Int × Bool × Bool):Prop:=∃ (s:ByteArray) (gw:Nat),s.toList=x.1∧W.cell? ⟨g,i*4,none⟩=some (.string s)∧W.cell? ⟨g,i*4+1,none⟩=some (.slice (some ⟨gw,0,none⟩) x.2.1.length x.2.1.length)∧W.cell? ⟨g,i*4+2,none⟩=some (.bool x.2.2.1)∧W.cell? ⟨g,i*4+3,none⟩=some (.bool x.2.2.2)∧zBS W (.slice (some ⟨gw,0,none⟩) x.2.1.length x.2.1.length) x.2.1
def zDm (b:Nat) (s0 s1 s2 s3 s4 s5 s6 s7 s8 s9 s10 s11 s12 s13 s14 s15 s16 s17 s18 s19 s20 s21 s22 s23 s24 s25 s26 s27 s28:ByteArray):Array Value:=#[.string s0,.slice (some ⟨b+0,0,none⟩) 6 6,.bool true,.bool false,.string s1,.slice (some ⟨b+0,0,none⟩) 6 6,.bool false,.bool false,.string s2,.slice (some ⟨b+0,0,none⟩) 6 6,.bool true,.bool false,.string s3,.slice (some ⟨b+0,0,none⟩) 6 6,.bool true,.bool false,.string s4,.slice (some ⟨b+0,0,none⟩) 6 6,.bool false,.bool false,.string s5,.slice (some ⟨b+0,0,none⟩) 6 6,.bool true,.bool false,.string s6,.slice (some ⟨b+0,0,none⟩) 6 6,.bool false,.bool true,.string s7,.slice (some ⟨b+0,0,none⟩) 6 6,.bool false,.bool false,.string s8,.slice (some ⟨b+0,0,none⟩) 6 6,.bool true,.bool true,.string s9,.slice (some ⟨b+0,0,none⟩) 6 6,.bool false,.bool false,.string s10,.slice (some ⟨b+1,0,none⟩) 6 6,.bool true,.bool false,.string s11,.slice (some ⟨b+1,0,none⟩) 6 6,.bool true,.bool false,.string s12,.slice (some ⟨b+1,0,none⟩) 6 6,.bool false,.bool false,.string s13,.slice (some ⟨b+1,0,none⟩) 6 6,.bool true,.bool false,.string s14,.slice (some ⟨b+2,0,none⟩) 6 6,.bool true,.bool false,.string s15,.slice (some ⟨b+3,0,none⟩) 6 6,.bool false,.bool false,.string s16,.slice (some ⟨b+4,0,none⟩) 6 6,.bool false,.bool false,.string s17,.slice (some ⟨b+5,0,none⟩) 12 12,.bool false,.bool false,.string s18,.slice (some ⟨b+6,0,none⟩) 12 12,.bool true,.bool false,.string s19,.slice (some ⟨b+7,0,none⟩) 12 12,.bool false,.bool false,.string s20,.slice (some ⟨b+1,0,none⟩) 6 6,.bool false,.bool false,.string s21,.slice (some ⟨b+8,0,none⟩) 6 6,.bool false,.bool false,.string s22,.slice (some ⟨b+9,0,none⟩) 3 3,.bool false,.bool false,.string s23,.slice (some ⟨b+10,0,none⟩) 3 3,.bool true,.bool true,.string s24,.slice (some ⟨b+11,0,none⟩) 6 6,.bool false,.bool false,.string s25,.slice (some ⟨b+12,0,none⟩) 3 3,.bool false,.bool false,.string s26,.slice (some ⟨b+0,0,none⟩) 6 6,.bool false,.bool false,.string s27,.slice (some ⟨b+0,0,none⟩) 6 6,.bool false,.bool false,.string s28,.slice (some ⟨b+13,0,none⟩) 9 9,.bool false,.bool false]
theorem zJi {W:World} {b:Nat} {s0 s1 s2 s3 s4 s5 s6 s7 s8 s9 s10 s11 s12 s13 s14 s15 s16 s17 s18 s19 s20 s21 s22 s23 s24 s25 s26 s27 s28:ByteArray} (hg:W.heap[b+14]?=some (.cells (zDm b s0 s1 s2 s3 s4 s5 s6 s7 s8 s9 s10 s11 s12 s13 s14 s15 s16 s17 s18 s19 s20 s21 s22 s23 s24 s25 s26 s27 s28) 34 (0,0)))
  (h0:s0.toList=P.kn0.1) (h1:s1.toList=P.kn1.1) (h2:s2.toList=P.kn2.1) (h3:s3.toList=P.kn3.1) (h4:s4.toList=P.kn4.1) (h5:s5.toList=P.kn5.1) (h6:s6.toList=P.kn6.1) (h7:s7.toList=P.kn7.1) (h8:s8.toList=P.kn8.1) (h9:s9.toList=P.kn9.1) (h10:s10.toList=P.kn10.1) (h11:s11.toList=P.kn11.1) (h12:s12.toList=P.kn12.1) (h13:s13.toList=P.kn13.1) (h14:s14.toList=P.kn14.1) (h15:s15.toList=P.kn15.1) (h16:s16.toList=P.kn16.1) (h17:s17.toList=P.kn17.1) (h18:s18.toList=P.kn18.1) (h19:s19.toList=P.kn19.1) (h20:s20.toList=P.kn20.1) (h21:s21.toList=P.kn21.1) (h22:s22.toList=P.kn22.1) (h23:s23.toList=P.kn23.1) (h24:s24.toList=P.kn24.1) (h25:s25.toList=P.kn25.1) (h26:s26.toList=P.kn26.1) (h27:s27.toList=P.kn27.1) (h28:s28.toList=P.kn28.1)
  (r0:zAt W (b+0) [1,0,1,1,1,0]) (r1:zAt W (b+1) [0,0,0,1,0,0]) (r2:zAt W (b+2) [0,0,1,1,0,1]) (r3:zAt W (b+3) [0,0,1,1,0,1]) (r4:zAt W (b+4) [0,0,1,1,0,1]) (r5:zAt W (b+5) [2,0,1,2,1,2,3,0,2,3,1,1]) (r6:zAt W (b+6) [2,0,1,2,1,0,3,0,1,3,1,0]) (r7:zAt W (b+7) [2,0,1,2,1,0,3,0,1,3,1,0]) (r8:zAt W (b+8) [0,0,2,1,0,1]) (r9:zAt W (b+9) [1,0,0]) (r10:zAt W (b+10) [1,0,0]) (r11:zAt W (b+11) [2,0,2,2,2,0]) (r12:zAt W (b+12) [0,0,0]) (r13:zAt W (b+13) [0,3,2,1,0,1,2,0,1]):∀ i x,P.kns[i]?=some x→zJh W (b+14) i x:=by
 have hc:∀ j (v:Value),(zDm b s0 s1 s2 s3 s4 s5 s6 s7 s8 s9 s10 s11 s12 s13 s14 s15 s16 s17 s18 s19 s20 s21 s22 s23 s24 s25 s26 s27 s28)[j]?=some v→W.cell? ⟨b+14,j,none⟩=some v:=fun j v hv=>by simp only[World.cell?,hg];simpa using hv
 intro i x hx
 match i,hx with
 | 0,hx =>
  obtain rfl:P.kn0=x:=Option.some.inj hx
  exact⟨s0,b+0,h0,hc 0 _ rfl,hc 1 _ rfl,hc 2 _ rfl,hc 3 _ rfl,r0.rowI 6⟩
 | 1,hx =>
  obtain rfl:P.kn1=x:=Option.some.inj hx
  exact⟨s1,b+0,h1,hc 4 _ rfl,hc 5 _ rfl,hc 6 _ rfl,hc 7 _ rfl,r0.rowI 6⟩
 | 2,hx =>
  obtain rfl:P.kn2=x:=Option.some.inj hx
  exact⟨s2,b+0,h2,hc 8 _ rfl,hc 9 _ rfl,hc 10 _ rfl,hc 11 _ rfl,r0.rowI 6⟩
 | 3,hx =>
  obtain rfl:P.kn3=x:=Option.some.inj hx
  exact⟨s3,b+0,h3,hc 12 _ rfl,hc 13 _ rfl,hc 14 _ rfl,hc 15 _ rfl,r0.rowI 6⟩
 | 4,hx =>
  obtain rfl:P.kn4=x:=Option.some.inj hx
  exact⟨s4,b+0,h4,hc 16 _ rfl,hc 17 _ rfl,hc 18 _ rfl,hc 19 _ rfl,r0.rowI 6⟩
 | 5,hx =>
  obtain rfl:P.kn5=x:=Option.some.inj hx
  exact⟨s5,b+0,h5,hc 20 _ rfl,hc 21 _ rfl,hc 22 _ rfl,hc 23 _ rfl,r0.rowI 6⟩
 | 6,hx =>
  obtain rfl:P.kn6=x:=Option.some.inj hx
  exact⟨s6,b+0,h6,hc 24 _ rfl,hc 25 _ rfl,hc 26 _ rfl,hc 27 _ rfl,r0.rowI 6⟩
 | 7,hx =>
  obtain rfl:P.kn7=x:=Option.some.inj hx
  exact⟨s7,b+0,h7,hc 28 _ rfl,hc 29 _ rfl,hc 30 _ rfl,hc 31 _ rfl,r0.rowI 6⟩
 | 8,hx =>
  obtain rfl:P.kn8=x:=Option.some.inj hx
  exact⟨s8,b+0,h8,hc 32 _ rfl,hc 33 _ rfl,hc 34 _ rfl,hc 35 _ rfl,r0.rowI 6⟩
 | 9,hx =>
  obtain rfl:P.kn9=x:=Option.some.inj hx
  exact⟨s9,b+0,h9,hc 36 _ rfl,hc 37 _ rfl,hc 38 _ rfl,hc 39 _ rfl,r0.rowI 6⟩
 | 10,hx =>
  obtain rfl:P.kn10=x:=Option.some.inj hx
  exact⟨s10,b+1,h10,hc 40 _ rfl,hc 41 _ rfl,hc 42 _ rfl,hc 43 _ rfl,r1.rowI 6⟩
 | 11,hx =>
  obtain rfl:P.kn11=x:=Option.some.inj hx
  exact⟨s11,b+1,h11,hc 44 _ rfl,hc 45 _ rfl,hc 46 _ rfl,hc 47 _ rfl,r1.rowI 6⟩
 | 12,hx =>
  obtain rfl:P.kn12=x:=Option.some.inj hx
  exact⟨s12,b+1,h12,hc 48 _ rfl,hc 49 _ rfl,hc 50 _ rfl,hc 51 _ rfl,r1.rowI 6⟩
 | 13,hx =>
  obtain rfl:P.kn13=x:=Option.some.inj hx
  exact⟨s13,b+1,h13,hc 52 _ rfl,hc 53 _ rfl,hc 54 _ rfl,hc 55 _ rfl,r1.rowI 6⟩
 | 14,hx =>
  obtain rfl:P.kn14=x:=Option.some.inj hx
  exact⟨s14,b+2,h14,hc 56 _ rfl,hc 57 _ rfl,hc 58 _ rfl,hc 59 _ rfl,r2.rowI 6⟩
 | 15,hx =>
  obtain rfl:P.kn15=x:=Option.some.inj hx
  exact⟨s15,b+3,h15,hc 60 _ rfl,hc 61 _ rfl,hc 62 _ rfl,hc 63 _ rfl,r3.rowI 6⟩
 | 16,hx =>
  obtain rfl:P.kn16=x:=Option.some.inj hx
  exact⟨s16,b+4,h16,hc 64 _ rfl,hc 65 _ rfl,hc 66 _ rfl,hc 67 _ rfl,r4.rowI 6⟩
 | 17,hx =>
  obtain rfl:P.kn17=x:=Option.some.inj hx
  exact⟨s17,b+5,h17,hc 68 _ rfl,hc 69 _ rfl,hc 70 _ rfl,hc 71 _ rfl,r5.rowI 12⟩
 | 18,hx =>
  obtain rfl:P.kn18=x:=Option.some.inj hx
  exact⟨s18,b+6,h18,hc 72 _ rfl,hc 73 _ rfl,hc 74 _ rfl,hc 75 _ rfl,r6.rowI 12⟩
 | 19,hx =>
  obtain rfl:P.kn19=x:=Option.some.inj hx
  exact⟨s19,b+7,h19,hc 76 _ rfl,hc 77 _ rfl,hc 78 _ rfl,hc 79 _ rfl,r7.rowI 12⟩
 | 20,hx =>
  obtain rfl:P.kn20=x:=Option.some.inj hx
  exact⟨s20,b+1,h20,hc 80 _ rfl,hc 81 _ rfl,hc 82 _ rfl,hc 83 _ rfl,r1.rowI 6⟩
 | 21,hx =>
  obtain rfl:P.kn21=x:=Option.some.inj hx
  exact⟨s21,b+8,h21,hc 84 _ rfl,hc 85 _ rfl,hc 86 _ rfl,hc 87 _ rfl,r8.rowI 6⟩
 | 22,hx =>
  obtain rfl:P.kn22=x:=Option.some.inj hx
  exact⟨s22,b+9,h22,hc 88 _ rfl,hc 89 _ rfl,hc 90 _ rfl,hc 91 _ rfl,r9.rowI 3⟩
 | 23,hx =>
  obtain rfl:P.kn23=x:=Option.some.inj hx
  exact⟨s23,b+10,h23,hc 92 _ rfl,hc 93 _ rfl,hc 94 _ rfl,hc 95 _ rfl,r10.rowI 3⟩
 | 24,hx =>
  obtain rfl:P.kn24=x:=Option.some.inj hx
  exact⟨s24,b+11,h24,hc 96 _ rfl,hc 97 _ rfl,hc 98 _ rfl,hc 99 _ rfl,r11.rowI 6⟩
 | 25,hx =>
  obtain rfl:P.kn25=x:=Option.some.inj hx
  exact⟨s25,b+12,h25,hc 100 _ rfl,hc 101 _ rfl,hc 102 _ rfl,hc 103 _ rfl,r12.rowI 3⟩
 | 26,hx =>
  obtain rfl:P.kn26=x:=Option.some.inj hx
  exact⟨s26,b+0,h26,hc 104 _ rfl,hc 105 _ rfl,hc 106 _ rfl,hc 107 _ rfl,r0.rowI 6⟩
 | 27,hx =>
  obtain rfl:P.kn27=x:=Option.some.inj hx
  exact⟨s27,b+0,h27,hc 108 _ rfl,hc 109 _ rfl,hc 110 _ rfl,hc 111 _ rfl,r0.rowI 6⟩
 | 28,hx =>
  obtain rfl:P.kn28=x:=Option.some.inj hx
  exact⟨s28,b+13,h28,hc 112 _ rfl,hc 113 _ rfl,hc 114 _ rfl,hc 115 _ rfl,r13.rowI 9⟩
 | n+29,hx=>exact absurd hx (by simp[P.kns])
theorem zGT (w:World) (s0 s1 s2 s3 s4 s5 s6 s7 s8 s9 s10 s11 s12 s13 s14 s15 s16 s17 s18 s19 s20 s21 s22 s23 s24 s25 s26 s27 s28:ByteArray) (h0:s0.toList=P.kn0.1) (h1:s1.toList=P.kn1.1) (h2:s2.toList=P.kn2.1) (h3:s3.toList=P.kn3.1) (h4:s4.toList=P.kn4.1) (h5:s5.toList=P.kn5.1) (h6:s6.toList=P.kn6.1) (h7:s7.toList=P.kn7.1) (h8:s8.toList=P.kn8.1) (h9:s9.toList=P.kn9.1) (h10:s10.toList=P.kn10.1) (h11:s11.toList=P.kn11.1) (h12:s12.toList=P.kn12.1) (h13:s13.toList=P.kn13.1) (h14:s14.toList=P.kn14.1) (h15:s15.toList=P.kn15.1) (h16:s16.toList=P.kn16.1) (h17:s17.toList=P.kn17.1) (h18:s18.toList=P.kn18.1) (h19:s19.toList=P.kn19.1) (h20:s20.toList=P.kn20.1) (h21:s21.toList=P.kn21.1) (h22:s22.toList=P.kn22.1) (h23:s23.toList=P.kn23.1) (h24:s24.toList=P.kn24.1) (h25:s25.toList=P.kn25.1) (h26:s26.toList=P.kn26.1) (h27:s27.toList=P.kn27.1) (h28:s28.toList=P.kn28.1):(∀ i x,P.kns[i]?=some x→zJh (zEa w [.cells (zAN [1,0,1,1,1,0]) 3,.cells (zAN [0,0,0,1,0,0]) 3,.cells (zAN [0,0,1,1,0,1]) 3,.cells (zAN [0,0,1,1,0,1]) 3,.cells (zAN [0,0,1,1,0,1]) 3,.cells (zAN [2,0,1,2,1,2,3,0,2,3,1,1]) 3,.cells (zAN [2,0,1,2,1,0,3,0,1,3,1,0]) 3,.cells (zAN [2,0,1,2,1,0,3,0,1,3,1,0]) 3,.cells (zAN [0,0,2,1,0,1]) 3,.cells (zAN [1,0,0]) 3,.cells (zAN [1,0,0]) 3,.cells (zAN [2,0,2,2,2,0]) 3,.cells (zAN [0,0,0]) 3,.cells (zAN [0,3,2,1,0,1,2,0,1]) 3,.cells (zDm w.heap.size s0 s1 s2 s3 s4 s5 s6 s7 s8 s9 s10 s11 s12 s13 s14 s15 s16 s17 s18 s19 s20 s21 s22 s23 s24 s25 s26 s27 s28) 34]) (w.heap.size+14) i x)∧w.heap.size+14<(zEa w [.cells (zAN [1,0,1,1,1,0]) 3,.cells (zAN [0,0,0,1,0,0]) 3,.cells (zAN [0,0,1,1,0,1]) 3,.cells (zAN [0,0,1,1,0,1]) 3,.cells (zAN [0,0,1,1,0,1]) 3,.cells (zAN [2,0,1,2,1,2,3,0,2,3,1,1]) 3,.cells (zAN [2,0,1,2,1,0,3,0,1,3,1,0]) 3,.cells (zAN [2,0,1,2,1,0,3,0,1,3,1,0]) 3,.cells (zAN [0,0,2,1,0,1]) 3,.cells (zAN [1,0,0]) 3,.cells (zAN [1,0,0]) 3,.cells (zAN [2,0,2,2,2,0]) 3,.cells (zAN [0,0,0]) 3,.cells (zAN [0,3,2,1,0,1,2,0,1]) 3,.cells (zDm w.heap.size s0 s1 s2 s3 s4 s5 s6 s7 s8 s9 s10 s11 s12 s13 s14 s15 s16 s17 s18 s19 s20 s21 s22 s23 s24 s25 s26 s27 s28) 34]).heap.size∧Below w.heap.size w (zEa w [.cells (zAN [1,0,1,1,1,0]) 3,.cells (zAN [0,0,0,1,0,0]) 3,.cells (zAN [0,0,1,1,0,1]) 3,.cells (zAN [0,0,1,1,0,1]) 3,.cells (zAN [0,0,1,1,0,1]) 3,.cells (zAN [2,0,1,2,1,2,3,0,2,3,1,1]) 3,.cells (zAN [2,0,1,2,1,0,3,0,1,3,1,0]) 3,.cells (zAN [2,0,1,2,1,0,3,0,1,3,1,0]) 3,.cells (zAN [0,0,2,1,0,1]) 3,.cells (zAN [1,0,0]) 3,.cells (zAN [1,0,0]) 3,.cells (zAN [2,0,2,2,2,0]) 3,.cells (zAN [0,0,0]) 3,.cells (zAN [0,3,2,1,0,1,2,0,1]) 3,.cells (zDm w.heap.size s0 s1 s2 s3 s4 s5 s6 s7 s8 s9 s10 s11 s12 s13 s14 s15 s16 s17 s18 s19 s20 s21 s22 s23 s24 s25 s26 s27 s28) 34]):=by
 have hsp:=zEb [.cells (zAN [1,0,1,1,1,0]) 3,.cells (zAN [0,0,0,1,0,0]) 3,.cells (zAN [0,0,1,1,0,1]) 3,.cells (zAN [0,0,1,1,0,1]) 3,.cells (zAN [0,0,1,1,0,1]) 3,.cells (zAN [2,0,1,2,1,2,3,0,2,3,1,1]) 3,.cells (zAN [2,0,1,2,1,0,3,0,1,3,1,0]) 3,.cells (zAN [2,0,1,2,1,0,3,0,1,3,1,0]) 3,.cells (zAN [0,0,2,1,0,1]) 3,.cells (zAN [1,0,0]) 3,.cells (zAN [1,0,0]) 3,.cells (zAN [2,0,2,2,2,0]) 3,.cells (zAN [0,0,0]) 3,.cells (zAN [0,3,2,1,0,1,2,0,1]) 3,.cells (zDm w.heap.size s0 s1 s2 s3 s4 s5 s6 s7 s8 s9 s10 s11 s12 s13 s14 s15 s16 s17 s18 s19 s20 s21 s22 s23 s24 s25 s26 s27 s28) 34] w
 refine⟨zJi (b:=w.heap.size) (hsp.2.2 14 (by simp)) h0 h1 h2 h3 h4 h5 h6 h7 h8 h9 h10 h11 h12 h13 h14 h15 h16 h17 h18 h19 h20 h21 h22 h23 h24 h25 h26 h27 h28 (hsp.2.2 0 (by simp)) (hsp.2.2 1 (by simp)) (hsp.2.2 2 (by simp)) (hsp.2.2 3 (by simp)) (hsp.2.2 4 (by simp)) (hsp.2.2 5 (by simp)) (hsp.2.2 6 (by simp)) (hsp.2.2 7 (by simp)) (hsp.2.2 8 (by simp)) (hsp.2.2 9 (by simp)) (hsp.2.2 10 (by simp)) (hsp.2.2 11 (by simp)) (hsp.2.2 12 (by simp)) (hsp.2.2 13 (by simp)),?_,hsp.2.1⟩
 have h9:=hsp.1
 simp only[List.length_cons,List.length_nil] at h9
 rw[h9];omega
theorem zGU (w:World) :
  Calls Tryz.prog 13 #[] w fun e w'=>e=.returned (.slice (some ⟨w.heap.size+14,0,none⟩) 29 29)∧(∀ i x,P.kns[i]?=some x→zJh w' (w.heap.size+14) i x)∧w.heap.size+14<w'.heap.size∧Below w.heap.size w w':=by
 go_enter Tryz.func13,Tryz.ntmps13
 go_wp2_with (first
  | (go_at_call 21;refine (zFr _ _ _ _ _ (by simp[zAF]) (by simp[zAF]) (by simp[zAF]) (by simp[zAF])).mono ?_;rintro e wp ⟨s0,rfl,hs0,rfl⟩;have hba:=zHK s0 _ ((zAR s0).symm.trans hs0);clear hs0;subst hba)
  | (go_at_call 22;refine (zEJ _ _ _ (by simp[zAF]) (by simp[zAF])).mono ?_;rintro e wp ⟨s1,rfl,hs1,rfl⟩;have hba:=zHK s1 _ ((zAR s1).symm.trans hs1);clear hs1;subst hba))
 go_ret
 refine⟨rfl,?_⟩
 exact zGT wp _ _ _ _ _ _ _ _ _ _ _ _ _ _ _ _ _ _ _ _ _ _ _ _ _ _ _ _ _ (by first | (simp only[zAq,zAc,zAj];rfl) | (rw[zAj];simp only[zAc];rfl) | (rw[zAc];rfl)) (by first | (simp only[zAq,zAc,zAj];rfl) | (rw[zAj];simp only[zAc];rfl) | (rw[zAc];rfl)) (by first | (simp only[zAq,zAc,zAj];rfl) | (rw[zAj];simp only[zAc];rfl) | (rw[zAc];rfl)) (by first | (simp only[zAq,zAc,zAj];rfl) | (rw[zAj];simp only[zAc];rfl) | (rw[zAc];rfl)) (by first | (simp only[zAq,zAc,zAj];rfl) | (rw[zAj];simp only[zAc];rfl) | (rw[zAc];rfl)) (by first | (simp only[zAq,zAc,zAj];rfl) | (rw[zAj];simp only[zAc];rfl) | (rw[zAc];rfl)) (by first | (simp only[zAq,zAc,zAj];rfl) | (rw[zAj];simp only[zAc];rfl) | (rw[zAc];rfl)) (by first | (simp only[zAq,zAc,zAj];rfl) | (rw[zAj];simp only[zAc];rfl) | (rw[zAc];rfl)) (by first | (simp only[zAq,zAc,zAj];rfl) | (rw[zAj];simp only[zAc];rfl) | (rw[zAc];rfl)) (by first | (simp only[zAq,zAc,zAj];rfl) | (rw[zAj];simp only[zAc];rfl) | (rw[zAc];rfl)) (by first | (simp only[zAq,zAc,zAj];rfl) | (rw[zAj];simp only[zAc];rfl) | (rw[zAc];rfl)) (by first | (simp only[zAq,zAc,zAj];rfl) | (rw[zAj];simp only[zAc];rfl) | (rw[zAc];rfl)) (by first | (simp only[zAq,zAc,zAj];rfl) | (rw[zAj];simp only[zAc];rfl) | (rw[zAc];rfl)) (by first | (simp only[zAq,zAc,zAj];rfl) | (rw[zAj];simp only[zAc];rfl) | (rw[zAc];rfl)) (by first | (simp only[zAq,zAc,zAj];rfl) | (rw[zAj];simp only[zAc];rfl) | (rw[zAc];rfl)) (by first | (simp only[zAq,zAc,zAj];rfl) | (rw[zAj];simp only[zAc];rfl) | (rw[zAc];rfl)) (by first | (simp only[zAq,zAc,zAj];rfl) | (rw[zAj];simp only[zAc];rfl) | (rw[zAc];rfl)) (by first | (simp only[zAq,zAc,zAj];rfl) | (rw[zAj];simp only[zAc];rfl) | (rw[zAc];rfl)) (by first | (simp only[zAq,zAc,zAj];rfl) | (rw[zAj];simp only[zAc];rfl) | (rw[zAc];rfl)) (by first | (simp only[zAq,zAc,zAj];rfl) | (rw[zAj];simp only[zAc];rfl) | (rw[zAc];rfl)) (by first | (simp only[zAq,zAc,zAj];rfl) | (rw[zAj];simp only[zAc];rfl) | (rw[zAc];rfl)) (by first | (simp only[zAq,zAc,zAj];rfl) | (rw[zAj];simp only[zAc];rfl) | (rw[zAc];rfl)) (by first | (simp only[zAq,zAc,zAj];rfl) | (rw[zAj];simp only[zAc];rfl) | (rw[zAc];rfl)) (by first | (simp only[zAq,zAc,zAj];rfl) | (rw[zAj];simp only[zAc];rfl) | (rw[zAc];rfl)) (by first | (simp only[zAq,zAc,zAj];rfl) | (rw[zAj];simp only[zAc];rfl) | (rw[zAc];rfl)) (by first | (simp only[zAq,zAc,zAj];rfl) | (rw[zAj];simp only[zAc];rfl) | (rw[zAc];rfl)) (by first | (simp only[zAq,zAc,zAj];rfl) | (rw[zAj];simp only[zAc];rfl) | (rw[zAc];rfl)) (by first | (simp only[zAq,zAc,zAj];rfl) | (rw[zAj];simp only[zAc];rfl) | (rw[zAc];rfl)) (by first | (simp only[zAq,zAc,zAj];rfl) | (rw[zAj];simp only[zAc];rfl) | (rw[zAc];rfl))
namespace P
structure SrcFacts (x:List UInt8 × List Int × Bool × Bool):Prop where
 e:(kernel x.1).2.1=0
 l:(kernel x.1).2.2=0
 ok:Q.KerOk (kernel x.1).1
 few:(Q.zKK (kernel x.1).1).rows.length<100000000
 want:wantOk (Q.zKK (kernel x.1).1).rows x.2.1
 may:comesB (Q.zKK (kernel x.1).1).rows x.2.1=x.2.2.1
 clash:(Q.zKK (kernel x.1).1).clash=x.2.2.2
theorem srcK_ok {x:List UInt8 × List Int × Bool × Bool} (h:srcK x=true):SrcFacts x:=by
 unfold srcK cameB at h
 simp only[Bool.and_eq_true,beq_iff_eq] at h
 obtain⟨⟨⟨h1,h2⟩,h3⟩,⟨h4,h5⟩,h6,_⟩:=h
 obtain⟨h7,h8⟩:=wantB_ok h4
 exact⟨h1,h2,Q.zMF h3,h8,h7,h5,h6⟩
end P
end Go.Proofs.YtgceflcbckjjiaaGreatDoor
namespace Go.Proofs.YtgceflcbckjjiaaGreatDoor
set_option maxRecDepth 100000
namespace Q
def AllP (p:List Int→Bool) (a:Ans):Prop:=(∀ r∈a.rows,p r=true)∧a.clash=false
theorem AllP.ins {p:List Int→Bool} {a:Ans} (h:AllP p a) {r:List Int} (hr:p r=true):AllP p ⟨Q.ins a.rows r,false⟩ :=
 ⟨fun x hx=>by
  rcases ins_mem hx with rfl | hx
  ·exact hr
  ·exact h.1 x hx,rfl⟩
theorem fold_allP {α:Type} {p:List Int→Bool} (F:Ans→α→Ans) (l:List α) (hF:∀ x∈l,∀ a,AllP p a→AllP p (F a x)):∀ a,AllP p a→AllP p (l.foldl F a):=by
 induction l with
 | nil=>intro a h;exact h
 | cons x l ih =>
  intro a h
  rw[List.foldl_cons]
  exact ih (fun y hy=>hF y (List.mem_cons_of_mem _ hy)) _ (hF x (by simp) a h)
theorem ins_le (l:List (List Int)) (r:List Int):(Q.ins l r).length≤l.length+1:=by
 induction l with
 | nil=>simp[Q.ins]
 | cons x q ih =>
  rw[Q.ins]
  split
  ·simp;omega
  ·split<;>simp
theorem fold_le {α:Type} (F:Ans→α→Ans) (n:Nat) (hF:∀ a x,(F a x).rows.length≤a.rows.length+n) (l:List α):∀ a,(l.foldl F a).rows.length≤a.rows.length+l.length*n:=by
 induction l with
 | nil=>intro a;simp
 | cons x l ih =>
  intro a
  rw[List.foldl_cons]
  have h1:=ih (F a x)
  have h2:=hF a x
  rw[List.length_cons,Nat.succ_mul]
  omega
theorem fold_le2 {α:Type} (F:Ans→α→Ans) (f:α→Nat) (hF:∀ a x,(F a x).rows.length≤a.rows.length+f x) (l:List α):∀ a,(l.foldl F a).rows.length≤a.rows.length+(l.map f).foldl (·+·) 0:=by
 have key:∀ (l:List Nat) (k:Nat),l.foldl (·+·) k=k+l.foldl (·+·) 0:=by
  intro l
  induction l with
  | nil=>intro k;simp
  | cons x l ih=>intro k;rw[List.foldl_cons,List.foldl_cons,ih (k+x),ih (0+x)];omega
 induction l with
 | nil=>intro a;simp
 | cons x l ih =>
  intro a
  rw[List.foldl_cons,List.map_cons,List.foldl_cons,key]
  have h1:=ih (F a x)
  have h2:=hF a x
  omega
def ordN (c:Cand):Nat:=(zKt (zKe c.wd.events (zJX c.wd.events))).length
def srcGood (p:List Int→Bool) (c:Cand):Bool:=(fun bf:List Nat=>(zKt (zKe c.wd.events (zJX c.wd.events))).all fun ds=>(fun ps:List Int=>!(c.facts.mayBe c.reads bf ps)||(p (zLK c.wd ps)&&!c.facts.clashes bf)) (zKp (zJX c.wd.events) ds)) (c.facts.before c.reads)
theorem srcCand_good {p:List Int→Bool} {c:Cand} (h:srcGood p c=true) (a:Ans) (ha:AllP p a):AllP p (zLc a c):=by
 unfold zLc zLq
 unfold srcGood at h
 simp only[List.all_eq_true] at h
 refine fold_allP _ _ (fun ds hds a ha=>?_) a ha
 have h1:=h ds hds
 unfold zKC
 split
 ·rename_i hm
  rw[hm] at h1
  simp only[Bool.not_true,Bool.false_or,Bool.and_eq_true,Bool.not_eq_true'] at h1
  rw[ha.2,if_neg (by simp),h1.2]
  exact ha.ins h1.1
 ·exact ha
theorem srcCand_le (a:Ans) (c:Cand):(zLc a c).rows.length≤a.rows.length+ordN c:=by
 have h:=fold_le (zKC c.wd c.facts c.reads (c.facts.before c.reads)) 1 (fun a ds=>by
  unfold zKC
  split
  ·exact ins_le _ _
  ·simp) (zKt (zKe c.wd.events (zJX c.wd.events))) a
 rw[Nat.mul_one] at h
 exact h
def srcIn (p:List Int→Bool) (ts:List P.Thr) (l:List (List Int)):Bool:=l.all fun ds=>(candsIn (zKa (runs ts) ds) (zKw (zKa (runs ts) ds).events)).all (srcGood p)
def candN (ts:List P.Thr) (m:Nat):Nat:=(zKt ((runs ts).map fun r=>(r.length:Int))).foldl (fun n ds=>n+(zKt (lens (zJY (zKa (runs ts) ds).events))).length*((zKt (zKe (zKa (runs ts) ds).events (zJX (zKa (runs ts) ds).events))).length*m)) 0
theorem candsIn_sum (w:Wd) (f:Facts) (g:Cand→Nat) (n:Nat) (hg:∀ c∈candsIn w f,g c≤n):((candsIn w f).map g).foldl (·+·) 0≤(zKt (lens (zJY w.events))).length*n:=by
 have key:∀ (l:List Cand),(∀ c∈l,g c≤n)→∀ k,(l.map g).foldl (·+·) k≤k+l.length*n:=by
  intro l
  induction l with
  | nil=>intro _ k;simp
  | cons c l ih =>
   intro h k
   rw[List.map_cons,List.foldl_cons,List.length_cons,Nat.succ_mul]
   have h1:=ih (fun c hc=>h c (List.mem_cons_of_mem _ hc)) (k+g c)
   have h2:=h c (by simp)
   omega
 have h1:=key _ hg 0
 have h2:(candsIn w f).length≤(zKt (lens (zJY w.events))).length:=by
  unfold candsIn
  refine Nat.le_trans (List.length_filter_le _ _) ?_
  simp
 have h3:=Nat.mul_le_mul_right n h2
 omega
theorem candsIn_wd {w:Wd} {f:Facts} {c:Cand} (h:c∈candsIn w f):c.wd=w∧c.facts=f:=by
 unfold candsIn at h
 have h1:=(List.mem_filter.1 h).1
 simp only[List.mem_map] at h1
 obtain⟨ds,_,rfl⟩:=h1
 exact⟨rfl,rfl⟩
theorem cands_fold_le (F:Ans→Cand→Ans) (g:Cand→Nat) (m:Nat) (hF:∀ a c,(F a c).rows.length≤a.rows.length+g c) (ts:List P.Thr) (hg2:∀ ds c,c∈candsIn (zKa (runs ts) ds) (zKw (zKa (runs ts) ds).events)→g c≤(zKt (zKe (zKa (runs ts) ds).events (zJX (zKa (runs ts) ds).events))).length*m) (hn:candN ts m<100000000):((cands ts).foldl F ⟨[],false⟩).rows.length<100000000:=by
 have h1:=fold_le2 F g hF (cands ts) ⟨[],false⟩
 have h2:((cands ts).map g).foldl (·+·) 0≤candN ts m:=by
  unfold cands candN
  generalize zKt ((runs ts).map fun r=>(r.length:Int))=L
  have key:∀ (l:List Nat) (k:Nat),l.foldl (·+·) k=k+l.foldl (·+·) 0:=by
   intro l
   induction l with
   | nil=>intro k;simp
   | cons x l ih=>intro k;rw[List.foldl_cons,List.foldl_cons,ih (k+x),ih (0+x)];omega
  have mono:∀ (f:List Int→Nat) (L:List (List Int)) (k k':Nat),k≤k'→L.foldl (fun n ds=>n+f ds) k≤L.foldl (fun n ds=>n+f ds) k':=by
   intro f L
   induction L with
   | nil=>intro k k' h;exact h
   | cons x l ih=>intro k k' h;rw[List.foldl_cons,List.foldl_cons];exact ih _ _ (by omega)
  have main:∀ (L:List (List Int)) (k:Nat),((L.flatMap fun ds=>candsIn (zKa (runs ts) ds) (zKw (zKa (runs ts) ds).events)).map g).foldl (·+·) k≤L.foldl (fun n ds=>n+(zKt (lens (zJY (zKa (runs ts) ds).events))).length*((zKt (zKe (zKa (runs ts) ds).events (zJX (zKa (runs ts) ds).events))).length*m)) k:=by
   intro L
   induction L with
   | nil=>intro k;exact Nat.le_refl _
   | cons ds L ih =>
    intro k
    rw[List.flatMap_cons,List.map_append,List.foldl_append,List.foldl_cons]
    refine Nat.le_trans (ih _) (mono _ _ _ _ ?_)
    have h3:=candsIn_sum (zKa (runs ts) ds) (zKw (zKa (runs ts) ds).events) g _ (hg2 ds)
    rw[key]
    omega
  exact main L 0
 simp only[List.length_nil] at h1
 omega
theorem source_good {p:List Int→Bool} {ts:List P.Thr} (h:srcIn p ts (zKt ((runs ts).map fun r=>(r.length:Int)))=true):AllP p (zKK ts):=by
 unfold zKK
 refine fold_allP _ _ (fun c hc a ha=>?_) _ ⟨fun r hr=>by simp at hr,rfl⟩
 unfold cands at hc
 simp only[List.mem_flatMap] at hc
 obtain⟨ds,hds,hc⟩:=hc
 unfold srcIn at h
 simp only[List.all_eq_true] at h
 exact srcCand_good (h ds hds c hc) a ha
theorem source_few {ts:List P.Thr} (hn:candN ts 1<100000000):(zKK ts).rows.length<100000000:=by
 refine cands_fold_le zLc ordN 1 srcCand_le ts (fun ds c hc=>?_) hn
 rw[Nat.mul_one]
 unfold ordN
 rw[(candsIn_wd hc).1]
 exact Nat.le_refl _
end Q
end Go.Proofs.YtgceflcbckjjiaaGreatDoor
