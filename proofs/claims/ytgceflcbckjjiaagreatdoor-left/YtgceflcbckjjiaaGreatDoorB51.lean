import Derived.Test.YtgceflcbckjjiaaGreatDoorRows
import Derived.Test.YtgceflcbckjjiaaGreatDoorCards
import Derived.Test.YtgceflcbckjjiaaGreatDoorTie
import Derived.ProofKit
import Derived.ChangeBears2
import Derived.LaidMore
import Derived.OpenShut
import Derived.Stop.Joined
import Derived.SevenTiedAt
import Derived.Test.YtgceflcbckjjiaaGreatDoorB50
set_option linter.unusedVariables false
set_option linter.unusedSimpArgs false
namespace Go.Proofs.YtgceflcbckjjiaaGreatDoor
open Go Go.RowKit
set_option maxRecDepth 100000
theorem sz_ok {o j:Nat} (h:o≤j*10000001) (hj:j≤99):o≤1000000000:=by omega
theorem sz_up {o x j:Nat} (h:o≤j*10000001) (hx:x≤10000000):o+x+1≤(j+1)*10000001:=by omega
theorem targetB_any (s:ByteArray) (want:List Int) (may:Bool) (w:World) (h:P.tgtB s.toList want may=true) :
  Calls Tryz.prog 20 #[.string s] w fun e w'=>∃ ov vs rows cl,e=.returned (.tuple #[ov,.bool cl,.int .i64 0,.int .i64 0])∧RowsI w' 0 ov rows vs∧P.wantOk rows want∧rows.length<100000000∧P.comesB rows want=may∧Below w.heap.size w w':=by
 unfold P.tgtB P.tgtOk P.cameB at h
 simp only[Bool.and_eq_true,decide_eq_true_eq,beq_iff_eq] at h
 obtain⟨⟨⟨h1,h2,h3⟩,h4⟩,h5,h6⟩:=h
 obtain⟨h7,h8⟩:=P.wantB_ok h5
 refine (target_ok s w h1 h2 h3 (Q.kerB_ok h4) h8).mono ?_
 rintro e w' ⟨ov,vs,rfl,hri,hb⟩
 exact⟨ov,vs,_,_,rfl,hri,h7,h8,h6,hb⟩
def LeftAt (W:World) (gk gw:Nat) (i:Nat):Prop:=∃ (s:ByteArray) (want:List Int) (g:Nat),W.cell? ⟨gk,i,none⟩=some (.string s)∧W.cell? ⟨gw,i,none⟩=some (.slice (some ⟨g,0,none⟩) 6 6)∧RowI W (.slice (some ⟨g,0,none⟩) 6 6) want∧s.size≤8192∧P.fullB s.toList want=true∧P.dropB s.toList want 0=true∧P.dropB s.toList want 1=true
theorem left_at {W:World} {a b gk gw:Nat} {s0 s1 s2:ByteArray} (ha:W.heap[a]?=some (.cells #[.int .i64 1,.int .i64 0,.int .i64 1,.int .i64 1,.int .i64 1,.int .i64 0] 3 (0,0))) (hb:W.heap[b]?=some (.cells #[.int .i64 0,.int .i64 0,.int .i64 0,.int .i64 1,.int .i64 0,.int .i64 0] 3 (0,0))) (hk:W.heap[gk]?=some (.cells #[.string s0,.string s1,.string s2] 9 (0,0))) (hw:W.heap[gw]?=some (.cells #[.slice (some ⟨a,0,none⟩) 6 6,.slice (some ⟨b,0,none⟩) 6 6,.slice (some ⟨a,0,none⟩) 6 6] 32 (0,0)))
  (h0:s0.toList=P.lk0) (h1:s1.toList=P.lk1) (h2:s2.toList=P.lk2) (i:Nat) (hi:i<3):LeftAt W gk gw i:=by
 have l0:s0.size≤8192:=by rw[← size_toList,h0];decide
 have l1:s1.size≤8192:=by rw[← size_toList,h1];decide
 have l2:s2.size≤8192:=by rw[← size_toList,h2];decide
 have la:=(Array.getElem?_eq_some_iff.1 ha).1
 have lb:=(Array.getElem?_eq_some_iff.1 hb).1
 have ra:RowI W (.slice (some ⟨a,0,none⟩) 6 6) P.staleW:=Or.inr ⟨a,6,rfl,fun i hi=>by
  simp only[World.cell?,ha]
  match i,hi with
  | 0,_=>rfl
  | 1,_=>rfl
  | 2,_=>rfl
  | 3,_=>rfl
  | 4,_=>rfl
  | 5,_=>rfl
  | n+6,h=>exact absurd h (by simp[P.staleW]),la⟩
 have rb:RowI W (.slice (some ⟨b,0,none⟩) 6 6) P.bothW:=Or.inr ⟨b,6,rfl,fun i hi=>by
  simp only[World.cell?,hb]
  match i,hi with
  | 0,_=>rfl
  | 1,_=>rfl
  | 2,_=>rfl
  | 3,_=>rfl
  | 4,_=>rfl
  | 5,_=>rfl
  | n+6,h=>exact absurd h (by simp[P.bothW]),lb⟩
 match i,hi with
 | 0,_=>exact⟨s0,P.staleW,a,by simp[World.cell?,hk],by simp[World.cell?,hw],ra,l0,by rw[h0];exact left_Lv0f,by rw[h0];exact left_Lv00,by rw[h0];exact left_Lv01⟩
 | 1,_=>exact⟨s1,P.bothW,b,by simp[World.cell?,hk],by simp[World.cell?,hw],rb,l1,by rw[h1];exact left_Lv1f,by rw[h1];exact left_Lv10,by rw[h1];exact left_Lv11⟩
 | 2,_=>exact⟨s2,P.staleW,a,by simp[World.cell?,hk],by simp[World.cell?,hw],ra,l2,by rw[h2];exact left_Lv2f,by rw[h2];exact left_Lv20,by rw[h2];exact left_Lv21⟩
 | n+3,h=>exact absurd h (by omega)
set_option maxHeartbeats 12800000 in
theorem left_any (c b:Int) (w:World) (h0:-9223372036854775808≤c) (h1:c<9223372036854775808) (h2:-9223372036854775808≤b) (h3:b<9223372036854775808) :
  Calls Tryz.prog 12 #[.int .i64 c,.int .i64 b] w fun e w'=>e=.returned (.bool true)∧Below w.heap.size w w':=by
 go_enter Tryz.func12,Tryz.ntmps12
 go_upto_region 9 with (first
  | (go_at_call 21;refine (passing_any _ _ _ _ _ (by simp[lit_size]) (by simp[lit_size]) (by simp[lit_size]) (by simp[lit_size])).mono ?_;rintro e wp ⟨s0,rfl,hs0,rfl⟩;have HS0:=hide hs0;clear hs0)
  | (go_at_call 22;refine (crossing_any _ _ _ (by simp[lit_size]) (by simp[lit_size])).mono ?_;rintro e wp ⟨s1,rfl,hs1,rfl⟩;have HS1:=hide hs1;clear hs1)
  | (go_at_call 9;refine (pick3_any c _ h0 h1).mono ?_;rintro e wp ⟨i,hi,rfl,rfl⟩))
 generalize hs2:(⟨#[116,104,114,101,97,100,32,48,10,115,116,111,114,101,32,120,32,49,32]⟩:ByteArray)++⟨#[114,101,108,97,120,101,100,32,100,101,118,105,99,101,10]⟩++⟨#[115,116,111,114,101,32,121,32,49,32,114,101,108,101,97,115,101,32,100,101,118,105,99,101,10,116,104,114,101,97,100,32,49,10,114,48,32,61,32,108,111,97,100,32,121,32,97,99,113,117,105,114,101,32,100,101,118,105,99,101,10,114,49,32,61,32,108,111,97,100,32,120,32]⟩++⟨#[114,101,108,97,120,101,100,32,100,101,118,105,99,101,10]⟩=s2 at *
 have HS2:=hide hs2
 clear hs2
 obtain⟨k0,k1,k2,k3,hsz,hbw⟩:=boxes4 w #[.int .i64 1,.int .i64 0,.int .i64 1,.int .i64 1,.int .i64 1,.int .i64 0] #[.int .i64 0,.int .i64 0,.int .i64 0,.int .i64 1,.int .i64 0,.int .i64 0] #[.string s0,.string s1,.string s2] #[.slice (some ⟨w.heap.size,0,none⟩) 6 6,.slice (some ⟨w.heap.size+1,0,none⟩) 6 6,.slice (some ⟨w.heap.size,0,none⟩) 6 6] 3 3 9 32
 generalize hE:(((w.alloc (.cells #[.int .i64 1,.int .i64 0,.int .i64 1,.int .i64 1,.int .i64 1,.int .i64 0] 3)).alloc (.cells #[.int .i64 0,.int .i64 0,.int .i64 0,.int .i64 1,.int .i64 0,.int .i64 0] 3)).alloc (.cells #[.string s0,.string s1,.string s2] 9)).alloc (.cells #[.slice (some ⟨w.heap.size,0,none⟩) 6 6,.slice (some ⟨w.heap.size+1,0,none⟩) 6 6,.slice (some ⟨w.heap.size,0,none⟩) 6 6] 32)=W at *
 have hLA:LeftAt W (w.heap.size+2) (w.heap.size+3) i:=left_at (a:=w.heap.size) (b:=w.heap.size+1) k0 k1 k2 k3 (by rw[HS0.out];simp only[lit_toList];rfl) (by rw[HS1.out];simp only[lit_toList];rfl) (by rw[← HS2.out];simp only[app_toList,lit_toList];rfl) i hi
 have BW:=hide hbw
 clear hE k0 k1 k2 k3 hbw HS0 HS1 HS2 h0 h1
 obtain⟨s,want,gw,ck,cw,hrw,hsz8,hfull,hd0,hd1⟩:=hLA
 have hl2:w.heap.size+2<W.heap.size:=by omega
 have hl3:w.heap.size+3<W.heap.size:=by omega
 have HRW:=hide hrw
 have HD0:=hide hd0
 have HD1:=hide hd1
 unfold P.fullB at hfull
 simp only[Bool.and_eq_true,decide_eq_true_eq,beq_iff_eq] at hfull
 obtain⟨⟨hf1,hf2⟩,hf3⟩:=hfull
 have HF1:=hide hf1
 have HF3:=hide hf3
 have hi3:(i:Int)<3:=by omega
 unfold P.dropB at HD0 HD1
 generalize hL:(P.compileW s.toList 1).1=L at *
 have HL:=hide hL
 clear hrw hd0 hd1 hf1 hf3 hL hsz
 generalize hgk:w.heap.size+2=gk at *
 rw[show w.heap.size+3=gk+1 by omega] at cw hl3
 generalize hgv:gk+1=gv at *
 go_wp2_with (first
  | (go_at_call 15;refine (compileW_any s 1 _ hsz8).mono ?_;rintro e w1 ⟨t,rfl,ht,hb1⟩;rw[HF1.out];rw[HL.out] at ht;have HTX:=hide ht.1;have htz:=ht.2;have B1:=hide hb1;clear ht hb1)
  | (go_at_call 16;refine (linesK_any t _ htz).mono ?_;rintro e w2 ⟨v,ws,rfl,hws,hxs,hown,hb2⟩;have HWS:=hide hws;have HXS:=hide hxs;clear hxs;have HOW:=hide hown;have B2:=hide (bstep B1.out (Nat.le_refl _) hb2);obtain⟨va,vc,hv⟩:=own_form hown;subst hv;clear hws hown hb2)
  | (go_at_call 9;refine (pick2_any b _ h2 h3).mono ?_;rintro e wp ⟨d,hd,rfl,rfl⟩))
 have hDD:(P.dropped L d).1=2∧P.tgtB (P.dropped L d).2 want true=true:=by
  have h01:d=0∨d=1:=by omega
  rcases h01 with rfl | rfl
  ·have h5:=HD0.out
   simp only[Bool.and_eq_true,decide_eq_true_eq] at h5
   exact⟨h5.1.1,h5.2⟩
  ·have h5:=HD1.out
   simp only[Bool.and_eq_true,decide_eq_true_eq] at h5
   exact⟨h5.1.1,h5.2⟩
 have HDR:Hid (P.dropped L d=(ws.map ByteArray.toList).foldl (P.dropS d) (0,[])):=by unfold Hid P.dropped;rw[HWS.out,HTX.out]
 have hwl:ws.length≤99:=by
  have h5:=HF3.out
  unfold P.tgtB P.tgtOk at h5
  simp only[Bool.and_eq_true,decide_eq_true_eq] at h5
  have h6:=congrArg List.length HWS.out
  rw[List.length_map,List.length_dropLast,HTX.out] at h6
  omega
 obtain⟨hD1,hD2⟩:=hDD
 have HD2:=hide hD1
 have HDT:=hide hD2
 generalize P.dropped L d=DR at *
 clear HD0 HD1 hD1 hD2 HWS
 go_loopw [17,18,20] (fun nv ov iv wr=>∃ (j n:Nat) (o:ByteArray),j≤ws.length∧iv=.int .i64 (j:Int)∧nv=.int .i64 (n:Int)∧ov=.string o∧n≤j∧o.size≤j*10000001∧Hid (((ws.take j).map ByteArray.toList).foldl (P.dropS d) (0,[])=(n,o.toList))∧wr=wp) (fun _ _ iv _=>ws.length-(intOf iv).toNat)
 case atStart=>exact⟨0,0,⟨#[]⟩,Nat.zero_le _,rfl,rfl,rfl,Nat.le_refl _,by simp[lit_size],by simp[Hid,lit_toList],rfl⟩
 case round =>
  obtain⟨j,n,o,hj,rfl,rfl,rfl,hnj,hosz,HFO,rfl⟩:=hrel
  by_cases hlt:j<ws.length
  ·have hlt':(j:Int)<(ws.length:Int):=by omega
   obtain⟨gl,hva⟩:∃ gl,va=some ⟨gl,0,none⟩:=by
    rcases HOW.out.2 with ⟨e1,h9⟩ | ⟨gl,c2,cur,e1,_⟩
    ·omega
    ·simp only[Value.slice.injEq] at e1
     exact⟨gl,e1.1⟩
   subst hva
   have cj:=HOW.out.cellAt j (by omega)
   simp only[List.getElem?_map,List.getElem?_eq_getElem hlt,Option.map_some] at cj
   have lgl:=(HOW.out.lt gl rfl).2
   have HST:Hid (((ws.take (j+1)).map ByteArray.toList).foldl (P.dropS d) (0,[])=P.dropS d (n,o.toList) ws[j].toList):=by
    unfold Hid
    rw[List.take_succ_eq_append_getElem hlt,List.map_append,List.foldl_append,HFO.out];rfl
   have hxz:ws[j].size≤10000000:=Nat.le_trans (HXS.out _ (List.getElem_mem hlt)) htz
   generalize ws[j]=x at *
   have hoz:o.size≤1000000000:=sz_ok hosz (Nat.le_trans (Nat.le_of_lt hlt) hwl)
   have ho1:(o++x++⟨#[10]⟩:ByteArray).size≤(j+1)*10000001:=by
    rw[← size_toList,app_toList,app_toList,List.length_append,List.length_append,size_toList,size_toList,lit_toList]
    exact sz_up hosz hxz
   have HO1:=hide ho1
   have ho2:o.size≤(j+1)*10000001:=Nat.le_trans hosz (Nat.mul_le_mul_right _ (Nat.le_succ j))
   have HO2:=hide ho2
   have hox:(o++x).size≤2000000000:=by
    rw[← size_toList,app_toList,List.length_append,size_toList,size_toList];omega
   clear ho1 ho2
   have hn1:IntKind.i64.wrap ((n:Int)+1)=(n:Int)+1:=IntWalk.i64_in _ ⟨by omega,by omega⟩
   have hn2:IntKind.i64.wrap ((n:Int)+1-1)=(n:Int):=by rw[show (n:Int)+1-1=(n:Int) by omega];exact IntWalk.i64_in _ ⟨by omega,by omega⟩
   have hn3:IntKind.i64.wrap (n:Int)=(n:Int):=IntWalk.i64_in _ ⟨by omega,by omega⟩
   have hx10:(o++x++⟨#[10]⟩:ByteArray).toList=o.toList++x.toList++[10]:=by simp only[app_toList,lit_toList]
   have HX:=hide hx10
   clear hx10
   cases zf:P.beginsB x.toList P.fenceL
   ·have HS5:Hid (((ws.take (j+1)).map ByteArray.toList).foldl (P.dropS d) (0,[])=(n,(o++x++⟨#[10]⟩:ByteArray).toList)):=by
     unfold Hid
     rw[HST.out,HX.out];unfold P.dropS;rw[zf];rfl
    go_wp2_with (first
     | (go_at_call 18;refine (beginsK_any x _ _).mono ?_;rintro e wb ⟨rfl,hwb⟩;subst hwb;rw[show (⟨#[102,101,110,99,101]⟩:ByteArray).toList=P.fenceL from lit_toList _,zf]))
    go_roundw
    case rel=>exact⟨j+1,n,o++x++⟨#[10]⟩,by omega,by go_num,rfl,rfl,by omega,HO1.out,HS5,by first | rfl | trivial⟩
    case measure=>simp[intOf];omega
   ·by_cases hnd:n=d
    ·have hnd':((n:Int)==(d:Int))=true:=by simp[hnd]
     have HS5:Hid (((ws.take (j+1)).map ByteArray.toList).foldl (P.dropS d) (0,[])=(n+1,o.toList)):=by
      unfold Hid
      rw[HST.out];unfold P.dropS;rw[zf];simp[hnd]
     clear hnd
     go_wp2_with (first
      | (go_at_call 18;refine (beginsK_any x _ _).mono ?_;rintro e wb ⟨rfl,hwb⟩;subst hwb;rw[show (⟨#[102,101,110,99,101]⟩:ByteArray).toList=P.fenceL from lit_toList _,zf]))
     go_roundw
     case rel=>exact⟨j+1,n+1,o,by omega,by go_num,by go_num,rfl,by omega,HO2.out,HS5,by first | rfl | trivial⟩
     case measure=>simp[intOf];omega
    ·have hnd':((n:Int)==(d:Int))=false:=by simp;omega
     have HS5:Hid (((ws.take (j+1)).map ByteArray.toList).foldl (P.dropS d) (0,[])=(n+1,(o++x++⟨#[10]⟩:ByteArray).toList)):=by
      unfold Hid
      rw[HST.out,HX.out];unfold P.dropS;rw[zf];simp[hnd]
     clear hnd
     go_wp2_with (first
      | (go_at_call 18;refine (beginsK_any x _ _).mono ?_;rintro e wb ⟨rfl,hwb⟩;subst hwb;rw[show (⟨#[102,101,110,99,101]⟩:ByteArray).toList=P.fenceL from lit_toList _,zf]))
     go_roundw
     case rel=>exact⟨j+1,n+1,o++x++⟨#[10]⟩,by omega,by go_num,by go_num,rfl,by omega,HO1.out,HS5,by first | rfl | trivial⟩
     case measure=>simp[intOf];omega
  ·have hnlt:decide ((j:Int)<(ws.length:Int))=false:=decide_eq_false (by omega)
   have hje:j=ws.length:=by omega
   have hpr:DR=(n,o.toList):=by
    rw[HDR.out,← HFO.out,hje,List.take_length]
   have hn2':(n:Int)=2:=by
    have h5:=HD2.out
    rw[hpr] at h5
    simp only at h5
    omega
   have HOT:Hid (P.tgtB o.toList want true=true):=by
    have h5:=HDT.out
    rw[hpr] at h5
    exact h5
   have HLT:Hid (P.tgtB t.toList want false=true):=by unfold Hid;rw[HTX.out];exact HF3.out
   clear hpr hje HDR HFO HD2 HDT HF3 HTX HOW
   go_wp2_with (first
    | (go_at_call_of 20 (Value.string o);refine (targetB_any o want true _ HOT.out).mono ?_;rintro e w4 ⟨ov4,vs4,rows4,cl4,rfl,hri4,hwo4,hrl4,hcm4,hb4⟩;have RI4:=hide hri4;have WO4:=hide hwo4;have CM4:=hide hcm4;have B4:=hide (bstep B3.out (Nat.le_refl _) hb4);have RI34:=hide (RI3.out.below hb4);obtain⟨oa4,oc4,hov4,_⟩:=hri4.form;subst hov4;have cw4:=(B4.out.cell (p:=⟨gv,i,none⟩) hl3).trans cw;have lv4:=Nat.lt_of_lt_of_le hl3 B4.out.size;have RW4:=hide (HRW.out.below B4.out);clear hri4 hwo4 hcm4 hb4)
    | (go_at_call_of 20 (Value.string t);(refine (targetB_any t want false _ HLT.out).mono ?_;rintro e w3 ⟨ov3,vs3,rows3,cl3,rfl,hri3,hwo3,hrl3,hcm3,hb3⟩;have RI3:=hide hri3;have WO3:=hide hwo3;have CM3:=hide hcm3;have B3:=hide (bstep B2.out (Nat.le_refl _) hb3);obtain⟨oa3,oc3,hov3,_⟩:=hri3.form;subst hov3;clear hri3 hwo3 hcm3 hb3))
    | (go_at_call_of 19 (Value.slice oa4 rows4.length oc4);refine (comes_any _ _ rows4 vs4 want 0 _ (RI4.out.below (by first | exact HB5.out | exact Below.refl _ _)) (RW4.out.below (by first | exact HB5.out | exact Below.refl _ _)) WO4.out hrl4).mono ?_;rintro e w6 ⟨rfl,hb6⟩;rw[CM4.out];have B6:=hide (bstep B5.out (Nat.le_refl _) hb6);clear hb6)
    | (go_at_call_of 19 (Value.slice oa3 rows3.length oc3);refine (comes_any _ _ rows3 vs3 want 0 _ RI34.out RW4.out WO3.out hrl3).mono ?_;rintro e w5 ⟨rfl,hb5⟩;rw[CM3.out];have HB5:=hide hb5;have B5:=hide (bstep B4.out (Nat.le_refl _) hb5);have cw5:=(hb5.cell (p:=⟨gv,i,none⟩) lv4).trans cw4;have lv5:=Nat.lt_of_lt_of_le lv4 hb5.size;clear hb5))
   go_ret
   exact⟨rfl,bstep BW.out (Nat.le_refl _) B6.out⟩
theorem leftT_any (c b:Int) (w:World) (h0:-9223372036854775808≤c) (h1:c<9223372036854775808) (h2:-9223372036854775808≤b) (h3:b<9223372036854775808) :
  Calls Tryz.prog 6 #[.int .i64 c,.int .i64 b] w fun e w'=>e=.returned (.bool true)∧Below w.heap.size w w':=by
 go_enter Tryz.func6,Tryz.ntmps6
 go_wp2_with (first | (go_at_call 12;refine (left_any c b _ h0 h1 h2 h3).mono ?_;rintro e w1 ⟨rfl,hb⟩))
 go_ret
 exact⟨rfl,hb⟩
end Go.Proofs.YtgceflcbckjjiaaGreatDoor
namespace Go.Proofs.YtgceflcbckjjiaaGreatDoor
open Go Go.ChangeShapes Go.WideShapes Go.ChangeAt Go.RowKit Go.WideElems
open Go.ChangeMaps (open_string shut_string)
theorem wf_both {n:Int} (h:(Lit.int .i64 n).wf=true):-9223372036854775808≤n∧n<9223372036854775808:=by
 simp only[Lit.wf,Bool.and_eq_true,decide_eq_true_eq] at h
 have h1:IntKind.i64.min=-9223372036854775808:=rfl
 have h2:IntKind.i64.max=9223372036854775807:=rfl
 omega
theorem left_own:ownKnob Tryz.prog.godebug=none:=by kernel_rfl
theorem left_door (os:Os) (args:Array Value):laidMetH Tryz.prog Rows.leftRow.laid ((World.doorLaid Tryz.prog 400 os).forCall (fun _ _=>0) ⟨#[],args,[]⟩).memory :=
 laidMetH_of_parts3 (fuel:=8) (laidMet_of_run' 8 (by kernel_rfl) (by kernel_rfl)) (by kernel_rfl) (by kernel_rfl)
set_option maxHeartbeats 1600000 in
set_option maxRecDepth 100000 in
theorem left_lifted (os:Os) (started:os.Started) (H:Type) (enc:TypeId × Value→H) :
  ReturnsInHanded {} Tryz.checked os 6 .any (fun w args=>(Rows.leftSpec.pre enc Tryz.prog Tryz.f6 [] false w args∧laidMetH Tryz.prog Rows.leftRow.laid w)∧sizedMet enc Tryz.prog Tryz.f6 (OpenSpec.ofChange Rows.leftSpec) false w args)
   (Rows.leftSpec.post enc Tryz.prog Tryz.f6 false true false false):=by
 refine returnsInHanded_of_change_and (C:=Tryz.checked) (X:=fun w _=>laidMetH Tryz.prog Rows.leftRow.laid w) (fun _ _ _ hh h=>h.of_heap hh) left_own started (by kernel_rfl) Tryz.func6
  (ChangeSpec.witness_shaped (enc:=enc) (C:=Tryz.checked) (os:=os) (X:=fun w _=>laidMetH Tryz.prog Rows.leftRow.laid w) false (World.doorLaid Tryz.prog 400 os) #[.int .i64 0,.int .i64 0] 8 rfl (World.shaped_of_RefB (by kernel_rfl) (by kernel_rfl)) (by kernel_rfl) (by kernel_rfl) (by kernel_rfl) (left_door os _)) ?_
 intro W base args ds gs before hval0 hW _ _ hL _
 have hval:∀ (j:Nat) t v,Tryz.f6.params[j]?=some t→args[j]?=some v→Value.okWide Tryz.prog W .any base t v:=hval0
 have hW':=hW
 obtain⟨p,q,hA0,hV,rfl,hfz,hnd⟩:=hW
 have hA:DataW.TrodAll enc Tryz.prog W 0 (fun _=>true) true Tryz.f6.params.toList args.toList ds p:=hA0
 rw[Tryz.params6] at hA hval
 obtain⟨v0,v1,d0,d1,p0,p1,rfl,rfl,rfl,h0,h1⟩:=trodAll_two hA
 obtain⟨rfl,rfl⟩:=trodVars_none hV
 obtain⟨q0,rfl,rfl,rfl,wf0⟩:=open_int Tryz.underlying3 (hval 0 3 v0 rfl rfl) h0
 obtain⟨q1,rfl,rfl,rfl,wf1⟩:=open_int Tryz.underlying3 (hval 1 3 v1 rfl rfl) h1
 clear hA0 hval0
 simp only[List.append_nil] at hW'
 have e1:Rows.leftSpec.fn H ([.lit (.int .i64 q0),.lit (.int .i64 q1)]++[])={ results:=[.lit (.bool true)],args:=[.lit (.int .i64 q0),.lit (.int .i64 q1)] }:=by simp[Rows.leftSpec]
 refine (leftT_any q0 q1 W (wf_both wf0).1 (wf_both wf0).2 (wf_both wf1).1 (wf_both wf1).2).mono fun e W' ⟨he,hB⟩=>?_
 subst he
 refine⟨_,rfl,_,_,_,[],[],[],hW',?_,?_,?_,hB.frame _,fun h=>by cases h⟩
 ·rw[e1];exact trodAll_mk1 (shut_bool Tryz.underlying4 true)
 ·rw[e1];exact trodAll_mk2 (shut_int Tryz.underlying3 wf0) (shut_int Tryz.underlying3 wf1)
 ·rw[e1];rfl
theorem left_holds:Rows.LeftSaid :=
 OpenClaim.holds_of_wide 6 Tryz.f6 rfl rfl rfl rfl rfl rfl rfl ⟨rfl,rfl,rfl,rfl,rfl⟩ rfl rfl rfl rfl rfl (by kernel_rfl) Tryz.func6 (by kernel_rfl)
  (of_decide_eq_true (by kernel_rfl)) (by unfold Func.isWrapper;first | (rw[if_pos (by decide +kernel)];kernel_rfl) | (rw[if_neg (by decide +kernel)];exact⟨rfl,rfl⟩))
  (fun os started H enc _=>left_lifted os started H enc)
theorem left_card_holds:Rows.LeftCardSaid :=
 Claim7.holds_tied_plain_at .later [] [.data,.data,.data] true Rows.leftCard.stood.harness false
  left_holds (fun _ h=>by cases h) (by kernel_rfl) (fun _ h=>by cases h) left_row_tie rfl ⟨rfl,rfl⟩ (by kernel_rfl) rfl
  (fun f fn hf hfn=>by
   obtain rfl:f=6:=Option.some.inj ((show Tryz.prog.funcNamed Rows.leftRow.func=some 6 by kernel_rfl).symm.trans hf) |>.symm
   obtain rfl:fn=Tryz.f6:=(Option.some.inj (Tryz.func6.symm.trans hfn)).symm
   exact⟨by kernel_rfl,fun j t ht=>by
    rw[Tryz.params6] at ht
    have hm:t∈[3,3]:=by simpa using Array.mem_of_getElem? ht
    have hall:([3,3].all fun u=>!Tryz.prog.wantsStandIn u)=true:=by kernel_rfl
    exact (show Tryz.prog.wantsStandIn t=false by simpa using List.all_eq_true.1 hall t hm)⟩)
  (by kernel_rfl)
#print axioms left_card_holds
end Go.Proofs.YtgceflcbckjjiaaGreatDoor
