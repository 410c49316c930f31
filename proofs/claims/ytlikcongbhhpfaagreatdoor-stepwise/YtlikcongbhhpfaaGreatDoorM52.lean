import Derived.Test.YtlikcongbhhpfaaGreatDoorRows
import Derived.Test.YtlikcongbhhpfaaGreatDoorCards
import Derived.Test.YtlikcongbhhpfaaGreatDoorTie
import Derived.ProofKit
import Derived.ChangeBears2
import Derived.LaidMore
import Derived.OpenShut
import Derived.Stop.Joined
import Derived.SevenTiedAt
import Derived.Stop.LaidErr
import Derived.MakeChecks
import Derived.Test.YtlikcongbhhpfaaGreatDoorM51
set_option linter.unusedVariables false
set_option linter.unusedSimpArgs false
set_option maxHeartbeats 12800000
namespace Go.Proofs.YtlikcongbhhpfaaGreatDoor
open Go Go.RowKit
set_option maxRecDepth 100000
structure SO (a:Act) (F:Fr) (v:Value) (k:Nat):Prop where
 sz:a.tmps.size=237
 df:a.defers=[]
 s0:gA a 0=.string F.s
 s1:gA a 1=.int .i64 F.wy
 s7:gA a 7=F.ov
 s11:gA a 11=.pointer (some ⟨F.gm,0,none⟩)
 s12:gA a 12=.slice (some ⟨F.pg,0,none⟩) F.n F.pc
 s25:gA a 25=v
 s26:gA a 26=.int .i64 (k:Int)
theorem G0 {w:World} {g:Nat} {l:List Int} (h:CA w g (OJ l)):∀ j u,(OJ l)[j]?=some u→w.cell? ((⟨g,0,none⟩:Addr).add j)=some u:=fun j u hu=>by
 have e:(⟨g,0,none⟩:Addr).add j=⟨g,j,none⟩:=by by_cases h:j=0<;>simp[Addr.add,h]
 rw[e];exact h.cell j u hu
theorem Wg {regs:List (List Int)} {k:Nat} (hk:k<regs.length):(regs.take (k+1)).flatten=(regs.take k).flatten++regs.getD k []:=by
 rw[List.take_succ_eq_append_getElem hk,List.flatten_append,Q.PP _ _ _ hk];simp
theorem stK {w:World} {M:Sk} {rows:List (List ByteArray)} {ps:List Nat} {regs:List (List Int)} {vars:List Int} {JT:List Bool} {a:Act} {F:Fr} {x:Int} {R0:Ending→World→Prop} (hn:M.n≤4) (hF:F.n=M.n∧F.gm=M.gm) (hW:MK w M rows ps regs vars JT) (hf:SG a F x false)
  (h:JP (∀ (a:Act) (w':World) (v:Value),SO a F v M.n→Below w.heap.size w w'→ME w' v (regs.flatten++vars)→NN Tryz.prog ((sF Tryz.f5).drop 16) (bodyPost Tryz.prog Tryz.f5 R0) a w')) :
  NN Tryz.prog ((sF Tryz.f5).drop 12) (bodyPost Tryz.prog Tryz.f5 R0) a w:=by
 obtain⟨n0,ni,nz0,nz1,nz2⟩:=info_parts Tryz.infoIn
 have HNI:=JO (And.intro ni (And.intro nz0 (And.intro nz1 nz2)))
 clear ni nz0 nz1 nz2
 obtain⟨sz,df,s0,s1,s7,s11,s12,s13,s18,s19⟩:=hf
 rw[hF.1] at s12
 rw[hF.2] at s11
 have HF:=JO hF
 have HM:=JO hW
 have hnr:=hW.nr
 obtain⟨_,_,f2,f3,_,lgm⟩:=hW.MF
 clear hW hF
 rw[OR sz df]
 simp only[fL,s0,s1,s7,s11,s12,s13,s18,s19]
 generalize gA a=f
 clear s0 s1 s7 s11 s12 s13 s18 s19 sz df
 refine LG 12 (by rw[OK];decide) fun K hK=>?_
 have HK:=JO hK
 clear hK
 conv=>arg 2;whnf
 go_wp2_with fail
 refine HK.o _ _ ?_
 clear HK
 refine LG 13 (by rw[OK];decide) fun K hK=>?_
 have HK:=JO hK
 clear hK
 conv=>arg 2;whnf
 go_wp2_with fail
 refine HK.o _ _ ?_
 clear HK
 refine LG 14 (by rw[OK];decide) fun K0 hK=>?_
 have HK9:=JO hK
 clear hK
 rw[Hh]
 refine wp_block (wp_loop (fun a wr=>∃ (k:Nat) (v:Value),k≤M.n∧SO a F v k∧wr.ownsRow w.heap.size 3 1 v (4*k) (OJ (regs.take k).flatten)∧Below w.heap.size w wr) (fun a _=>M.n-(intOf (gA a 26)).toNat) ⟨0,_,Nat.zero_le _,⟨rfl,rfl,rfl,rfl,rfl,by rw[HF.o.2];rfl,by rw[HF.o.1];rfl,rfl,rfl⟩,World.ownsRow_nil _ _ _ _,Below.refl _ _⟩ fun a wr hL=>?_)
 obtain⟨k,v,hk,hf,HO,HB⟩:=hL
 refine PR _ _ _ _ ?_
 show NN Tryz.prog ((sK Tryz.f5).drop 0) _ a wr
 have hmu:M.n-(intOf (gA a 26)).toNat=M.n-k:=by rw[hf.s26];simp[intOf]
 obtain⟨sz,df,s0,s1,s7,s11,s12,s25,s26⟩:=hf
 rw[HF.o.1] at s12
 rw[HF.o.2] at s11
 have HO:=JO HO
 have HB:=JO HB
 have g2:=JS HB.o lgm f2
 have g3:=JS HB.o lgm f3
 have hsz:=HB.o.size
 clear f2 f3
 refine LG 0 (by rw[QS];decide) fun K1 hK=>?_
 have HK:=JO hK
 clear hK
 rw[OR sz df]
 simp only[fL,s0,s1,s7,s11,s12,s25,s26]
 generalize gA a=f
 clear s0 s1 s7 s11 s12 s25 s26 sz df
 conv=>arg 2;whnf
 by_cases hlt:k<M.n
 ·have hlt':(k:Int)<(M.n:Int):=by omega
  have hkr:k<regs.length:=by omega
  have r1:=(HB.o.cell (p:=⟨M.gr,k,none⟩) HM.o.r.lt).trans (HM.o.KI hlt).1
  have hrs:=HM.o.rs k hkr
  have HNEW:=JO (G0 (hrs.2.X HB.o))
  have HL4:JP ((OJ regs[k]).length=4*1):=by unfold JP OJ;rw[List.length_map,hrs.1]
  have HFT:=JO (Wg hkr)
  rw[Q.PP _ _ _ hkr] at HFT
  clear hrs
  go_wp2_with fail
  refine HK.o _ _ ?_
  clear HK
  refine LG 1 (by rw[QS];decide) fun K hK=>?_
  have HK:=JO hK
  clear hK
  conv=>arg 2;whnf
  go_wp2_with fail
  refine HK.o _ _ ?_
  clear HK
  refine LG 2 (by rw[QS];decide) fun K2 hK=>?_
  have HKG:=JO hK
  clear hK
  conv=>arg 2;whnf
  go_wp2_with (first | (at_builtin;refine wpList_append_lies _ rfl (.tmp 194) (.tmp 201) 31 rfl w.heap.size 3 n0 (.int .i64 0) 1 8 Tryz.underlying31 HNI.o.1 HNI.o.2.1 HNI.o.2.2.1 HNI.o.2.2.2 rfl (by decide) _ (4*k) _ rfl (by exact HO.o) ⟨M.gR k,0,none⟩ 4 4 (OJ regs[k]) rfl HL4.o (by exact HNEW.o) fun y hy=>by obtain⟨z,_,rfl⟩:=List.mem_map.1 hy;rfl (by decide) (by unfold maxLen;omega) (by omega) hsz _ rfl ?_;intro g5 c5 w5 hown5 hgrow5 hat5 hlt5))
  refine HKG.o _ _ ?_
  clear HKG
  refine LG 3 (by rw[QS];decide) fun K hK=>?_
  have HK:=JO hK
  clear hK
  conv=>arg 2;whnf
  go_wp2_with fail
  refine HK.o _ _ ?_
  clear HK
  refine⟨⟨k+1,_,hlt,⟨rfl,rfl,rfl,rfl,rfl,by rw[HF.o.2];rfl,by rw[HF.o.1];rfl,rfl,by push_cast;rfl⟩,?_,HB.o.grown hgrow5 hsz fun y hy=>(HO.o.lt y hy).1⟩,by rw[hmu];show M.n-((k:Int)+1).toNat<M.n-k;omega⟩
  rw[HFT.o]
  unfold OJ at hown5 ⊢
  rw[List.map_append]
  exact hown5
 ·obtain rfl:k=M.n:=by omega
  have hlt':¬ (M.n:Int)<(M.n:Int):=by omega
  go_wp2_with fail
  refine HK.o _ _ ?_
  clear HK
  refine LG 1 (by rw[QS];decide) fun K hK=>?_
  clear hK
  conv=>arg 2;whnf
  go_wp2_with fail
  refine HK9.o _ _ ?_
  clear HK9
  have HNEW:=JO (G0 (HM.o.v.X HB.o))
  have HL3:JP ((OJ vars).length=3*1):=by unfold JP OJ;rw[List.length_map,HM.o.nv]
  have HTK:JP ((regs.take M.n).flatten=regs.flatten):=by unfold JP;rw[List.take_of_length_le (by omega)]
  have HLF:JP (4*M.n=regs.flatten.length):=by
   have:=HO.o.1
   rw[HTK.o] at this
   unfold OJ at this
   rw[List.length_map] at this
   unfold JP
   omega
  rw[HTK.o] at HO
  refine LG 15 (by rw[OK];decide) fun K hK=>?_
  have HK:=JO hK
  clear hK
  conv=>arg 2;whnf
  go_wp2_with (first | (at_builtin;refine wpList_append_lies _ rfl (.tmp 203) (.tmp 207) 31 rfl w.heap.size 3 n0 (.int .i64 0) 1 8 Tryz.underlying31 HNI.o.1 HNI.o.2.1 HNI.o.2.2.1 HNI.o.2.2.2 rfl (by decide) _ (4*M.n) _ rfl (by exact HO.o) ⟨M.gv,0,none⟩ 3 3 (OJ vars) rfl HL3.o (by exact HNEW.o) fun y hy=>by obtain⟨z,_,rfl⟩:=List.mem_map.1 hy;rfl (by decide) (by unfold maxLen;omega) (by omega) hsz _ rfl ?_;intro g5 c5 w5 hown5 hgrow5 hat5 hlt5))
  refine HK.o _ _ ?_
  clear HK
  refine h.o _ _ _ ⟨rfl,rfl,rfl,rfl,rfl,by rw[HF.o.2];rfl,by rw[HF.o.1];rfl,rfl,rfl⟩ (HB.o.grown hgrow5 hsz fun y hy=>(HO.o.lt y hy).1) (QP (B:=w.heap.size) (n:=4*M.n+3) ?_ (by rw[List.length_append,HM.o.nv,← HLF.o]))
  unfold OJ at hown5
  rw[List.map_append]
  exact hown5
theorem G4 (c:Int) (n:Nat) (w:World) (h0:-9223372036854775808≤c) (h1:c<9223372036854775808) (hn:0<n) (hn2:n<4294967296) :
  Calls Tryz.prog 6 #[.int .i64 c,.int .i64 (n:Int)] w fun e w'=>∃ i:Nat,i<n∧e=.returned (.int .i64 (i:Int))∧w'=w:=by
 have hz1:¬ (n:Int)=0:=by omega
 have hz2:¬ n=0:=by omega
 by_cases hc:c<0
 ·have hw1:IntKind.i64.wrap (c+1)=c+1:=by simp[IntKind.wrap,IntKind.signed,IntKind.bits];omega
  have hw2:IntKind.i64.wrap (-(c+1))=-(c+1):=by simp[IntKind.wrap,IntKind.signed,IntKind.bits];omega
  have e1:(-(c+1)).tmod (n:Int)=-(c+1) % (n:Int):=Int.tmod_eq_emod_of_nonneg (by omega)
  have e0:=Int.emod_nonneg (-(c+1)) (b:=(n:Int)) (by omega)
  have e2:=Int.emod_lt_of_pos (-(c+1)) (b:=(n:Int)) (by omega)
  have HR:JP ((-(c+1)).tmod (n:Int)=((-(c+1) % (n:Int)).toNat:Int)):=by unfold JP;rw[e1];omega
  have HR2:JP (-(c+1).tmod (n:Int)=((-(c+1) % (n:Int)).toNat:Int)):=by unfold JP;rw[← Int.neg_tmod,e1];omega
  have hfin:(-(c+1) % (n:Int)).toNat<n:=by omega
  clear e1 e0 e2
  generalize (-(c+1) % (n:Int)).toNat=i at *
  go_enter Tryz.func6,Tryz.ntmps6
  go_wp2
  go_ret
  refine⟨i,hfin,?_,rfl⟩
  first
   | (rw[← HR2.o];rfl)
   | (rw[← HR.o];rfl)
 ·have e0:=Int.emod_nonneg c (b:=(n:Int)) (by omega)
  have e2:=Int.emod_lt_of_pos c (b:=(n:Int)) (by omega)
  have HR:JP (c % (n:Int)=((c % (n:Int)).toNat:Int)):=by unfold JP;omega
  have HR2:JP (c.tmod (n:Int)=((c % (n:Int)).toNat:Int)):=by unfold JP;rw[Int.tmod_eq_emod_of_nonneg (by omega)];omega
  have hfin:(c % (n:Int)).toNat<n:=by omega
  generalize (c % (n:Int)).toNat=i at *
  go_enter Tryz.func6,Tryz.ntmps6
  go_wp2
  go_ret
  refine⟨i,hfin,?_,rfl⟩
  first
   | (rw[← HR2.o];rfl)
   | (rw[← HR.o];rfl)
theorem Wh (s:ByteArray) (w:World) (h:s.size≤8192) (hf:((P.KM s.toList).2.1 != 0)=true) :
  Calls Tryz.prog 8 #[.string s] w fun e w'=>e=.returned (.tuple #[.slice none 0 0,.bool false,.int .i64 (P.KM s.toList).2.1,.int .i64 (P.KM s.toList).2.2])∧Below w.heap.size w w':=by
 go_enter Tryz.func8,Tryz.ntmps8
 go_wp2_with (first | (go_at_call 18;refine (QI s _ h).mono ?_;rintro e w1 ⟨tv,rfl,⟨ta,tm,tc,rfl⟩,_,hb1⟩))
 refine bodyPost_ret (RJ rfl _ _ _) rfl ⟨rfl,?_⟩
 exact hb1.alloc hb1.size _
theorem Q.rows_lens {ts:List P.JV} (h:Q.KerOk ts):(∀ r∈(Q.OB ts).y,r.length<1000)∧∀ r∈(Q.MI ts).y,r.length<1000:=by
 have KP:∀ c∈Q.PW ts,∀ ps,(Q.OH c.wd ps).length<1000:=fun c hc ps=>by
  obtain⟨d,hd,rs,hrs,rfl,_⟩:=Q.QZ.1 hc
  have:=(h.wd d (Q.PY hd)).g
  unfold Q.OH
  simp only[List.length_append,List.length_cons,List.length_nil]
  omega
 refine⟨fun r hr=>?_,fun r hr=>?_⟩
 ·obtain⟨c,hc,ds,_,_,rfl⟩:=(Q.RL ts r).1 hr
  exact KP c hc _
 ·obtain⟨c,hc,ds,_,fs,_,_,rfl⟩:=(Q.RO ts r).1 hr
  exact KP c hc _
def RV (w:World) (e:Ending) (w':World):Prop:=e=.returned (.bool true)∧Below w.heap.size w w'
theorem G5 {w w':World} {a:Act} (sz:a.tmps.size=237) (df:a.defers=[]) (g6:gA a 6=.bool true) (hb:Below w.heap.size w w'):bodyPost Tryz.prog Tryz.f5 (RV w) .ret a w':=by
 rw[OR sz df]
 simp only[fL,g6]
 exact bodyPost_ret (results_tmp (t:=6) rfl _ _ _) rfl ⟨rfl,hb⟩
theorem Wi {w0 w1 w2:World} {Wr:Nat→Prop} (h:Below w0.heap.size w0 w1) (hx:XF Wr w1 w2) (hw:∀ g,Wr g→w0.heap.size≤g):Below w0.heap.size w0 w2:=by
 have:=h.size
 exact h.trans ⟨hx.os,hx.tape,hx.output,hx.size,fun k hk=>hx.block k (by omega) fun e=>by have:=hw k e;omega⟩
theorem stT {w w6:World} {F:Fr} {v:Value} {k:Nat} {a:Act} {ts us:List P.JV} {vs:List Value} {out:List Int} (hT:Tab w6) (hs:F.s.size≤8192) (h0:(P.KM F.s.toList).2.1=0) (hts:ts=(P.KM F.s.toList).1) (hus:us=(P.NT (P.OV F.s.toList F.wy).1).1) (h2:(P.NT (P.OV F.s.toList F.wy).1).2.1=0) (hf:SO a F v k) (hb:Below w.heap.size w w6) (hR:ME w6 v out) (hO:LA w6 0 F.ov (Q.OB ts).y vs) (m1:out∈(Q.OB ts).y) (m2:out∈(Q.MI us).y) :
  NN Tryz.prog ((sF Tryz.f5).drop 16) (bodyPost Tryz.prog Tryz.f5 (RV w)) a w6:=by
 obtain⟨hA,hl2,_⟩:=P.Fh h2
 rw[← hus] at hA
 have k1:Q.KerOk ts:=by rw[hts];exact Q.RK (P.QK h0)
 have k2:=Q.Ul hA
 have LS:=JO (Q.rows_lens k1).1
 have LT:=JO (Q.rows_lens k2).2
 have FZ:JP ((Q.OB ts).y.length<100000000):=by unfold JP;rw[hts];exact Q.RN (P.QK h0)
 have FT:=JO (Q.Um hA)
 have C1:JP ((Q.OB ts).y.contains out=true):=List.contains_iff_mem.2 m1
 have C2:JP ((Q.MI us).y.contains out=true):=List.contains_iff_mem.2 m2
 have HCW:=JO fun w=>Me F.s F.wy w hs
 have HTG:JP (∀ (t:ByteArray) (w:World),t.toList=(P.OV F.s.toList F.wy).1→Tab w→Calls Tryz.prog 14 #[.string t] w fun e w'=>∃ ov vs,e=.returned (.tuple #[ov,.bool (Q.MI us).clash,.int .i64 0,.int .i64 0])∧LA w' 0 ov (Q.MI us).y vs∧Below w.heap.size w w'):=fun t w et hT=>by
  have:=Rp t w hT (by rw[et];exact h2) (by rw[et];exact hl2) (by rw[et,← hus];exact k2) (by rw[et,← hus];exact FT.o)
  rw[et,← hus] at this
  exact this
 have HR:=JO hR
 have HO:=JO hO
 have HT:=JO hT
 have HB:=JO hb
 clear k1 k2 hA m1 m2 hl2 h0 h2 hts hus hR hO hT hb
 generalize (Q.OB ts).y=SR at *
 generalize (Q.MI us).clash=tc at *
 generalize (Q.MI us).y=TR at *
 obtain⟨sz,df,s0,s1,s7,s11,s12,s25,s26⟩:=hf
 rw[OR sz df]
 simp only[fL,s0,s1,s7,s11,s12,s25,s26]
 generalize gA a=f
 clear s0 s1 s7 s11 s12 s25 s26 sz df
 refine LG 16 (by rw[OK];decide) fun K hK=>?_
 have HK:=JO hK
 clear hK
 conv=>arg 2;whnf
 go_wp2_with (first | (go_at_call 13;refine (HCW.o _).mono ?_;rintro e w7 ⟨t,rfl,ht,hb7⟩;have HTX:=JO ht;have B7:=JO hb7;clear ht hb7;dsimp only))
 refine HK.o _ _ ?_
 clear HK
 refine LG 17 (by rw[OK];decide) fun K hK=>?_
 have HK:=JO hK
 clear hK
 conv=>arg 2;whnf
 go_wp2_with (first | (go_at_call 14;refine (HTG.o t _ HTX.o.1 (HT.o.X B7.o)).mono ?_;rintro e w8 ⟨qv,qs,rfl,hq,hb8⟩;have HQ:=JO hq;have B8:=JO hb8;clear hq hb8;dsimp only))
 refine HK.o _ _ ?_
 clear HK
 refine LG 18 (by rw[OK];decide) fun K hK=>?_
 have HK:=JO hK
 clear hK
 conv=>arg 2;whnf
 go_wp2_with (first | (go_at_call 15;refine (Dx 0 _ _ SR vs out _ ((HO.o.X B7.o).X B8.o) ((HR.o.X B7.o).X B8.o) LS.o FZ.o).mono ?_;rw[C1.o];rintro e w9 ⟨rfl,hb9⟩;have B9:=JO hb9;clear hb9;dsimp only))
 refine HK.o _ _ ?_
 clear HK
 refine LG 19 (by rw[OK];decide) fun K hK=>?_
 have HK:=JO hK
 clear hK
 conv=>arg 2;whnf
 go_wp2_with (first | (go_at_call 15;refine (Dx 0 _ _ TR qs out _ (HQ.o.X B9.o) (((HR.o.X B7.o).X B8.o).X B9.o) LT.o FT.o).mono ?_;rw[C2.o];rintro e w10 ⟨rfl,hb10⟩;have B10:=JO hb10;clear hb10;dsimp only))
 refine HK.o _ _ ?_
 clear HK
 refine LG 20 (by rw[OK];decide) fun K hK=>?_
 have HK:=JO hK
 clear hK
 conv=>arg 2;whnf
 go_wp2_with fail
 refine HK.o _ _ ?_
 clear HK
 refine LG 21 (by rw[OK];decide) fun K hK=>?_
 clear hK
 conv=>arg 2;whnf
 go_wp2_with fail
 exact G5 rfl rfl rfl (JW (JW (JW (JW HB.o (Nat.le_refl _) B7.o) (Nat.le_refl _) B8.o) (Nat.le_refl _) B9.o) (Nat.le_refl _) B10.o)
theorem Wj (s:ByteArray) (wy od:Int) (w:World) (hT:Tab w) (hs:s.size≤8192) (y0:0≤wy) (y1:wy<4) (o0:-9223372036854775808≤od) (o1:od<9223372036854775808):Calls Tryz.prog 5 #[.string s,.int .i64 wy,.int .i64 od] w (RV w):=by
 go_enter Tryz.func5,Tryz.ntmps5
 refine PR _ _ _ _ ?_
 show NN Tryz.prog ((sF Tryz.f5).drop 0) _ _ w
 refine LG 0 (by rw[OK];decide) fun K hK=>?_
 have HK:=JO hK
 clear hK
 conv=>arg 2;whnf
 go_wp2_with fail
 refine HK.o _ _ ?_
 clear HK
 cases ze:(P.KM s.toList).2.1 != 0
 ·have h0:(P.KM s.toList).2.1=0:=by simpa using ze
  have hmk:∀ wx,(Instr.makeSlice 31 (.int .i64 3) (.int .i64 3)).run Tryz.prog wx=.ok (.slice (some ⟨wx.heap.size,0,none⟩) 3 3) (wx.alloc (.cells #[.int .i64 0,.int .i64 0,.int .i64 0] 3)):=fun wx=>by
   have:=run_make_row' 31 3 (.int .i64 0) 8 Tryz.underlying31 Tryz.infoIn rfl .i64 .i64 3 (by omega) (by omega) wx
   rw[show madeCells #[Value.int .i64 0] 3=#[.int .i64 0,.int .i64 0,.int .i64 0] by kernel_rfl] at this
   exact this
  have HSP:=JO (P.Vp h0)
  have HKI:=JO (P.QK h0)
  have hcw:P.OV s.toList wy=(P.write (P.QH (P.KM s.toList).1 (P.QV wy) (P.QW wy)),0,0):=by unfold P.OV;rw[if_neg (by omega),ze];rfl
  obtain⟨hra,di,hbo⟩:=P.Gm h0 (P.QV wy) (P.QW wy)
  obtain⟨gj,hG,_,hlin,hun⟩:=P.RE h0
  have HUN:=JO (P.QO (P.KM s.toList).1 (P.KM s.toList).1 (fun u hu=>(hlin u hu).1) hun)
  have HBL:JP (∀ t∈(P.KM s.toList).1,t.block=0∨t.block=1):=fun t ht=>by
   obtain⟨g,_,hg⟩:=P.QU hG t ht
   exact P.Gb hg
  have HSK:=JO fun w=>Bo s w hs h0
  have HRA:JP ((P.NT (P.OV s.toList wy).1).2.1=0):=by unfold JP;rw[hcw];exact hra
  have HBO:JP (P.Both (P.KM s.toList).1 (P.NT (P.OV s.toList wy).1).1 di):=by unfold JP;rw[hcw];exact hbo
  have H0:=JO h0
  obtain⟨ts,hts⟩:∃ ts,ts=(P.KM s.toList).1:=⟨_,rfl⟩
  rw[← hts] at HSP HKI HUN HBL HSK HBO
  have HTS:=JO hts
  have HT:=JO hT
  clear h0 hcw hra hbo hG hlin hun hts ze hT
  have hle:ts.length≤4:=HKI.o.few
  have hpos:0<ts.length:=List.length_pos_iff.2 HKI.o.ne
  refine LG 1 (by rw[OK];decide) fun K hK=>?_
  have HK:=JO hK
  clear hK
  conv=>arg 2;whnf
  go_wp2_with (first | (go_at_call 8;refine (HSK.o _).mono ?_;rintro e w1 ⟨ov,vs,rfl,hri,hb1⟩;have RI:=JO hri;have B1:=JO hb1;clear hri hb1;dsimp only))
  refine HK.o _ _ ?_
  clear HK
  clear HSK
  refine LG 2 (by rw[OK];decide) fun K hK=>?_
  have HK:=JO hK
  clear hK
  conv=>arg 2;whnf
  go_wp2_with fail
  refine HK.o _ _ ?_
  clear HK
  refine LG 3 (by rw[OK];decide) fun K hK=>?_
  have HK:=JO hK
  clear hK
  conv=>arg 2;whnf
  go_wp2_with fail
  refine HK.o _ _ ?_
  clear HK
  refine LG 4 (by rw[OK];decide) fun K hK=>?_
  have HK:=JO hK
  clear hK
  conv=>arg 2;whnf
  go_wp2_with fail
  refine HK.o _ _ ?_
  clear HK
  have hgm:((w1.alloc (.cells #[.int .i64 0,.int .i64 0,.int .i64 0] 3)).alloc (.cells #[.slice none 0 0,.slice none 0 0,.slice none 0 0,.slice (some ⟨w1.heap.size,0,none⟩) 3 3,.slice none 0 0] 38)).heap[w1.heap.size+1]?=some (.cells #[.slice none 0 0,.slice none 0 0,.slice none 0 0,.slice (some ⟨w1.heap.size,0,none⟩) 3 3,.slice none 0 0] 38 (0,0)):=by
   have:=heap_alloc_new (w1.alloc (.cells #[.int .i64 0,.int .i64 0,.int .i64 0] 3)) (.cells #[.slice none 0 0,.slice none 0 0,.slice none 0 0,.slice (some ⟨w1.heap.size,0,none⟩) 3 3,.slice none 0 0] 38)
   simpa using this
  have hgv:((w1.alloc (.cells #[.int .i64 0,.int .i64 0,.int .i64 0] 3)).alloc (.cells #[.slice none 0 0,.slice none 0 0,.slice none 0 0,.slice (some ⟨w1.heap.size,0,none⟩) 3 3,.slice none 0 0] 38)).heap[w1.heap.size]?=some (.cells #[.int .i64 0,.int .i64 0,.int .i64 0] 3 (0,0)):=by
   rw[Below.heap_alloc _ _ _ (by simp)]
   exact heap_alloc_new w1 _
  have hbW:Below w1.heap.size w1 ((w1.alloc (.cells #[.int .i64 0,.int .i64 0,.int .i64 0] 3)).alloc (.cells #[.slice none 0 0,.slice none 0 0,.slice none 0 0,.slice (some ⟨w1.heap.size,0,none⟩) 3 3,.slice none 0 0] 38)):=((Below.refl _ _).alloc (Nat.le_refl _) _).alloc (by simp) _
  generalize ((w1.alloc (.cells #[.int .i64 0,.int .i64 0,.int .i64 0] 3)).alloc (.cells #[.slice none 0 0,.slice none 0 0,.slice none 0 0,.slice (some ⟨w1.heap.size,0,none⟩) 3 3,.slice none 0 0] 38))=W2 at *
  have HGM:=JO hgm
  have HGV:=JO hgv
  have HBW:=JO hbW
  clear hgm hgv hbW hmk
  refine LG 5 (by rw[OK];decide) fun K hK=>?_
  have HK:=JO hK
  clear hK
  conv=>arg 2;whnf
  go_wp2_with (first | (go_at_call 9;refine (Ts s _ hs).mono ?_;rintro e w3 ⟨pv,ws,rfl,hws,hwz,hown,hb3⟩;have HWS:=JO hws;have HOW:=JO hown;have B3:=JO hb3;clear hws hwz hown hb3;dsimp only))
  refine HK.o _ _ ?_
  clear HK
  have hwl:ws.length=ts.length:=by rw[← HSP.o.1,← HWS.o,List.length_map]
  obtain⟨pg,pc,hpv,_⟩:=QR HOW.o (by omega)
  subst hpv
  refine LG 6 (by rw[OK];decide) fun K hK=>?_
  have HK:=JO hK
  clear hK
  conv=>arg 2;whnf
  go_wp2_with fail
  refine HK.o _ _ ?_
  clear HK
  refine LG 7 (by rw[OK];decide) fun K hK=>?_
  have HK:=JO hK
  clear hK
  conv=>arg 2;whnf
  go_wp2_with fail
  refine HK.o _ _ ?_
  clear HK
  refine stA (w0:=w1) (s:=s) (wy:=wy) (od:=od) (ov:=ov) (ts:=ts) (pg:=pg) (pc:=pc) (m:=⟨w1.heap.size+1,w1.heap.size,0,0,.slice none 0 0,.slice none 0 0,.slice none 0 0,.slice none 0 0,.slice none 0 0,.slice none 0 0,.slice none 0 0,.slice none 0 0,.slice none 0 0,[],[],[],[],.slice (some ⟨pg,0,none⟩) ws.length pc,ws⟩) ⟨?_,⟨rfl,rfl,rfl,rfl⟩,⟨rfl,rfl,rfl,rfl⟩,rfl,fun k hk=>by omega⟩ ⟨rfl,rfl,rfl,rfl,rfl,rfl,rfl,rfl,rfl,rfl⟩ hle rfl hwl ?_ ?_
  ·have lt:∀ {k:Nat} {c:Array Value} {t:TypeId},W2.heap[k]?=some (.cells c t (0,0))→w3.heap[k]?=some (.cells c t (0,0)):=fun h=>(B3.o.block _ (Array.getElem?_eq_some_iff.1 h).1).trans h
   exact⟨lt HGM.o,lt HGV.o,World.ownsRow_nil _ _ _ _,fun k hk=>absurd hk (Nat.not_lt_zero _),World.ownsRow_nil _ _ _ _,World.ownsRow_nil _ _ _ _,fun g hg=>(by cases hg),List.nodup_nil,List.not_mem_nil,World.ownsRow_nil _ _ _ _,World.ownsRow_nil _ _ _ _,fun e=>(by cases e),fun g hg=>(by cases hg),⟨Nat.le_succ _,Nat.le_refl _,fun g hg=>by cases hg⟩,PG HOW.o HBW.o.size,JW HBW.o (Nat.le_refl _) B3.o⟩
  ·refine JO fun k hk=>?_
   obtain⟨q1,y,body,q2,q3,q4,q5⟩:=HSP.o.2 k hk
   have e:((P.KD 10 s.toList).dropLast.foldl P.ptS []).getD k []=(ws.getD k ⟨#[]⟩).toList:=by rw[← HWS.o,Q.Cr ByteArray.toList ws k ⟨#[]⟩ [] (by omega)]
   rw[e] at q1 q2
   exact⟨by rw[← MS];exact q1,y,body,q2,q3,q4,q5⟩
  ·clear HGM HGV HBW B3 HOW HSP
   refine JO fun a w4 m' hMJ hpv' hf=>?_
   obtain⟨M,hMn,hMg,hMK,hMW,_,gb,cb,hvb,hBA⟩:=hMJ.sk hpos
   obtain⟨sz,df,s0,s1,s2,s7,s11,s12,s13,s14⟩:=hf
   rw[hvb] at s13
   rw[hpv'] at s12
   rw[← hMg] at s11
   have HMJ:=JO hMJ
   have HMN:=JO hMn
   have HMK:=JO hMK
   have HMW:=JO hMW
   have HBA:=JO hBA
   have HPK:JP (∀ w:World,Calls Tryz.prog 6 #[.int .i64 od,.int .i64 2147483648] w fun e w'=>∃ i:Nat,i<2147483648∧e=.returned (.int .i64 (i:Int))∧w'=w):=fun w=>G4 od 2147483648 w o0 o1 (by omega) (by omega)
   rw[hwl] at s12
   clear hMJ hMn hMK hMW hBA hvb hpv' hMg hwl
   rw[OR sz df]
   simp only[fL,s0,s1,s2,s7,s11,s12,s13,s14]
   generalize gA a=f
   clear s0 s1 s2 s7 s11 s12 s13 s14 sz df
   refine LG 9 (by rw[OK];decide) fun K hK=>?_
   have HK:=JO hK
   clear hK
   conv=>arg 2;whnf
   go_wp2_with (first | (go_at_call 6;refine (HPK.o _).mono ?_;rintro e wp ⟨i,hi,rfl,hwp⟩;subst hwp;dsimp only))
   refine HK.o _ _ ?_
   clear HK
   refine LG 10 (by rw[OK];decide) fun K hK=>?_
   have HK:=JO hK
   clear hK
   conv=>arg 2;whnf
   go_wp2_with fail
   refine HK.o _ _ ?_
   clear HK
   have mem:∀ k,k<ts.length→ts.getD k Q.JZ∈ts:=fun k hk=>Q.QA _ _ _ hk
   have z4:Q.V4 0:=⟨by omega,by omega⟩
   have HCX:JP (CX M m'.y ts (P.NT (P.OV s.toList wy).1).1 di):=⟨HMN.o,hpos,hle,HBO.o,fun k hk=>HBL.o _ (mem k hk),fun k k' hk hk' e=>by rw[(HUN.o _ (mem k hk)).1,(HUN.o _ (mem k' hk')).1,e],HMJ.o.rw,fun k hk=>HKI.o.len _ (mem k hk)⟩
   refine stG (w1:=wp) (F:=⟨s,wy,ov,M.gm,pg,pc,ts.length,gb,cb⟩) HCX.o ⟨rfl,rfl,rfl⟩ ⟨HMK.o,Q.Vf HBO.o,⟨fun k y hy=>?_,fun y hy=>?_⟩,HBA.o,XF.refl _ _⟩ ⟨rfl,rfl,rfl,rfl,rfl,rfl,rfl,rfl,rfl,rfl⟩ ⟨by omega,by omega⟩ (JO fun a w5 x5 ps regs vars JT hW hf hdn=>?_)
   ·rw[List.getD_eq_getElem?_getD,List.getElem?_replicate] at hy
    split at hy
    ·simp at hy;rw[hy];exact z4
    ·simp at hy
   ·simp at hy;rw[hy];exact z4
   ·have b5:=Wi HMJ.o.b.be hW.xf HMW.o
    obtain⟨m1,m2⟩:=hW.lk.o HBO.o hdn
    refine stK (by rw[HMN.o];exact hle) ⟨HMN.o.symm,rfl⟩ hW.mm hf (JO fun a w6 v hSO hb6 hRow=>?_)
    have b6:=JW b5 (Nat.le_refl _) hb6
    have b7:=JW B1.o (Nat.le_refl _) b6
    exact stT (F:=⟨s,wy,ov,M.gm,pg,pc,ts.length,gb,cb⟩) (HT.o.X b7) hs H0.o HTS.o rfl HRA.o hSO b7 hRow (RI.o.X b6) m1 m2
 ·have HSF:=JO fun w=>Wh s w hs ze
  clear hT
  refine LG 1 (by rw[OK];decide) fun K hK=>?_
  have HK:=JO hK
  clear hK
  conv=>arg 2;whnf
  go_wp2_with (first | (go_at_call 8;refine (HSF.o _).mono ?_;rintro e w1 ⟨rfl,hb1⟩;have B1:=JO hb1;clear hb1;dsimp only))
  refine HK.o _ _ ?_
  clear HK
  refine LG 2 (by rw[OK];decide) fun K hK=>?_
  have HK:=JO hK
  clear hK
  conv=>arg 2;whnf
  go_wp2_with fail
  refine HK.o _ _ ?_
  clear HK
  refine LG 3 (by rw[OK];decide) fun K hK=>?_
  clear hK
  conv=>arg 2;whnf
  go_wp2_with fail
  exact G5 rfl rfl rfl B1.o
theorem Wk (s:ByteArray) (wy od:Int) (w:World) (hT:Tab w) (y0:-9223372036854775808≤wy) (y1:wy<9223372036854775808) (o0:-9223372036854775808≤od) (o1:od<9223372036854775808) :
  Calls Tryz.prog 3 #[.string s,.int .i64 wy,.int .i64 od] w fun e w'=>e=.returned (.bool true)∧Below w.heap.size w w':=by
 by_cases hs:s.size≤8192
 ·have hs':¬ (8192:Int)<(s.size:Int):=by omega
  have hz0:-9223372036854775808≤(s.size:Int):=by omega
  have hz1:(s.size:Int)<9223372036854775808:=by omega
  have HT:=JO hT
  have HPK:JP (∀ w:World,Calls Tryz.prog 6 #[.int .i64 wy,.int .i64 4] w fun e w'=>∃ i:Nat,i<4∧e=.returned (.int .i64 (i:Int))∧w'=w):=fun w=>G4 wy 4 w y0 y1 (by omega) (by omega)
  go_enter Tryz.func3,Tryz.ntmps3
  go_wp2_with (first
   | (go_at_call 4;refine (Ux (s.size:Int) _ hz0 hz1).mono ?_;rintro e w1 ⟨rfl,hb1⟩;have B1:=JO hb1)
   | (go_at_call 6;refine (HPK.o _).mono ?_;rintro e wp ⟨i,hi,rfl,hwp⟩;subst hwp)
   | (go_at_call 5;refine (Wj s (i:Int) od _ (HT.o.X B1.o) hs (by omega) (by omega) o0 o1).mono ?_;rintro e w2 ⟨rfl,hb2⟩;have B2:=JO (JW B1.o (Nat.le_refl _) hb2)))
  go_ret
  exact⟨rfl,B2.o⟩
 ·have hs':(8192:Int)<(s.size:Int):=by omega
  go_enter Tryz.func3,Tryz.ntmps3
  go_wp2
  go_ret
  exact⟨rfl,Below.refl _ _⟩
end Go.Proofs.YtlikcongbhhpfaaGreatDoor
namespace Go.Proofs.YtlikcongbhhpfaaGreatDoor
open Go Go.ChangeShapes Go.WideShapes Go.ChangeAt Go.RowKit Go.WideElems
open Go.ChangeMaps (open_string shut_string)
theorem RH {n:Int} (h:(Lit.int .i64 n).wf=true):-9223372036854775808≤n∧n<9223372036854775808:=by
 simp only[Lit.wf,Bool.and_eq_true,decide_eq_true_eq] at h
 have h1:IntKind.i64.min=-9223372036854775808:=rfl
 have h2:IntKind.i64.max=9223372036854775807:=rfl
 omega
theorem Wl {W:World} (h:laidMetH Tryz.prog Rows.stepwiseRow.laid W):Tab W:=by
 rw[MakeChecks.laidMetH_plain _ _ _ (by kernel_rfl)] at h
 have h1:laidMet Tryz.prog [("internal/strconv.uint64pow10",Lib.tabData .u64 Lib.pow10Tab)] W:=laidMet.tail (laidMet.tail h)
 exact Lib.tabIs_of_head (g:=0) (t:=228) (e:=163) (n:=20) (by kernel_rfl) (by kernel_rfl) Tryz.underlying228 Tryz.underlying163 (by kernel_rfl) (by kernel_rfl) h1
theorem Wm:ownKnob Tryz.prog.godebug=none:=by kernel_rfl
theorem Wn (os:Os) (args:Array Value):laidMetH Tryz.prog Rows.stepwiseRow.laid ((World.doorLaid Tryz.prog 400 os).forCall (fun _ _=>0) ⟨#[],args,[]⟩).memory :=
 laidMetH_of_parts3 (fuel:=8) (laidMet_of_run' 8 (by kernel_rfl) (by kernel_rfl)) (by kernel_rfl) (by kernel_rfl)
set_option maxRecDepth 100000 in
theorem Wo (os:Os) (started:os.Started) (H:Type) (enc:TypeId × Value→H) :
  ReturnsInHanded {} Tryz.checked os 3 .any (fun w args=>(Rows.stepwiseSpec.pre enc Tryz.prog Tryz.f3 [] false w args∧laidMetH Tryz.prog Rows.stepwiseRow.laid w)∧sizedMet enc Tryz.prog Tryz.f3 (OpenSpec.ofChange Rows.stepwiseSpec) false w args)
   (Rows.stepwiseSpec.post enc Tryz.prog Tryz.f3 false true false false):=by
 refine returnsInHanded_of_change_and (C:=Tryz.checked) (X:=fun w _=>laidMetH Tryz.prog Rows.stepwiseRow.laid w) (fun _ _ _ hh h=>h.of_heap hh) Wm started (by kernel_rfl) Tryz.func3
  (ChangeSpec.witness_shaped (enc:=enc) (C:=Tryz.checked) (os:=os) (X:=fun w _=>laidMetH Tryz.prog Rows.stepwiseRow.laid w) false (World.doorLaid Tryz.prog 400 os) #[.string ⟨#[]⟩,.int .i64 0,.int .i64 0] 8 rfl (World.shaped_of_RefB (by kernel_rfl) (by kernel_rfl)) (by kernel_rfl) (by kernel_rfl) (by kernel_rfl) (Wn os _)) ?_
 intro W base args ds gs KU hval0 hW _ _ hL _
 have hval:∀ (j:Nat) t v,Tryz.f3.params[j]?=some t→args[j]?=some v→Value.okWide Tryz.prog W .any base t v:=hval0
 have hW':=hW
 obtain⟨p,q,hA0,hV,rfl,hfz,hnd⟩:=hW
 have hA:DataW.TrodAll enc Tryz.prog W 0 (fun _=>true) true Tryz.f3.params.toList args.toList ds p:=hA0
 rw[Tryz.params3] at hA hval
 obtain⟨v0,v1,v2,d0,d1,d2,p0,p1,p2,rfl,rfl,rfl,h0,h1,h2⟩:=trodAll_three hA
 obtain⟨rfl,rfl⟩:=trodVars_none hV
 obtain⟨s,rfl,rfl,rfl,ws⟩:=open_string Tryz.underlying9 (hval 0 9 v0 rfl rfl) h0
 obtain⟨q1,rfl,rfl,rfl,wf1⟩:=open_int Tryz.underlying3 (hval 1 3 v1 rfl rfl) h1
 obtain⟨q2,rfl,rfl,rfl,wf2⟩:=open_int Tryz.underlying3 (hval 2 3 v2 rfl rfl) h2
 clear hA0 hval0
 simp only[List.append_nil] at hW'
 have e1:Rows.stepwiseSpec.fn H ([.lit (.string s.data.toList),.lit (.int .i64 q1),.lit (.int .i64 q2)]++[])={ results:=[.lit (.bool true)],args:=[.lit (.string s.data.toList),.lit (.int .i64 q1),.lit (.int .i64 q2)] }:=by simp[Rows.stepwiseSpec]
 refine (Wk s q1 q2 W (Wl hL) (RH wf1).1 (RH wf1).2 (RH wf2).1 (RH wf2).2).mono fun e W' ⟨he,hB⟩=>?_
 subst he
 refine⟨_,rfl,_,_,_,[],[],[],hW',?_,?_,?_,hB.frame _,fun h=>by cases h⟩
 ·rw[e1];exact trodAll_mk1 (shut_bool Tryz.underlying4 true)
 ·rw[e1];exact trodAll_mk3 (shut_string Tryz.underlying9 ws) (shut_int Tryz.underlying3 wf1) (shut_int Tryz.underlying3 wf2)
 ·rw[e1];rfl
theorem stepwise_holds:Rows.StepwiseSaid :=
 OpenClaim.holds_of_wide 3 Tryz.f3 rfl rfl rfl rfl rfl rfl rfl ⟨rfl,rfl,rfl,rfl,rfl⟩ rfl rfl rfl rfl rfl (by kernel_rfl) Tryz.func3 (by kernel_rfl)
  (of_decide_eq_true (by kernel_rfl)) (by unfold Func.isWrapper;first | (rw[if_pos (by decide +kernel)];kernel_rfl) | (rw[if_neg (by decide +kernel)];exact⟨rfl,rfl⟩))
  fun os started H enc _=>Wo os started H enc
theorem stepwise_card_holds:Rows.StepwiseCardSaid :=
 Claim7.holds_tied_plain_at .later [] [.data,.data,.data] true Rows.stepwiseCard.stood.harness false
  stepwise_holds (fun _ h=>by cases h) (by kernel_rfl) (fun _ h=>by cases h) stepwise_row_tie rfl ⟨rfl,rfl⟩ (by kernel_rfl) rfl
  fun f fn hf hfn=>by
   obtain rfl:f=3:=Option.some.inj ((show Tryz.prog.funcNamed Rows.stepwiseRow.func=some 3 by kernel_rfl).symm.trans hf) |>.symm
   obtain rfl:fn=Tryz.f3:=(Option.some.inj (Tryz.func3.symm.trans hfn)).symm
   exact⟨by kernel_rfl,fun j t ht=>by
    rw[Tryz.params3] at ht
    have hm:t∈[9,3,3]:=by simpa using Array.mem_of_getElem? ht
    have hall:([9,3,3].all fun u=>!Tryz.prog.wantsStandIn u)=true:=by kernel_rfl
    exact show Tryz.prog.wantsStandIn t=false by simpa using List.all_eq_true.1 hall t hm⟩
  (by kernel_rfl)
#print axioms stepwise_card_holds
end Go.Proofs.YtlikcongbhhpfaaGreatDoor
