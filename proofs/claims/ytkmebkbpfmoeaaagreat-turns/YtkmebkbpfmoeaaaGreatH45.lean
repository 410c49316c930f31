import Derived.Test.YtkmebkbpfmoeaaaGreatH44
set_option linter.unusedVariables false
set_option linter.unusedSimpArgs false
set_option maxHeartbeats 12800000
namespace Go.Proofs.YtkmebkbpfmoeaaaGreat
open Go Go.RowKit
set_option maxRecDepth 100000
theorem zFF {α:Type} (l:List α) (a b:α):(l++[a]).set l.length b=l++[b]:=by
 induction l with
 | nil=>rfl
 | cons c l ih=>rw[List.cons_append,List.length_cons,List.set_cons_succ,ih];rfl
theorem zFG {α:Type} (l:List α) (a:α):(l++[a])[l.length]?=some a:=by simp
theorem zGO (s:ByteArray) (w:World) (hs:s.size≤8192) :
  Calls Tryz.prog 15 #[.string s] w fun e w'=>∃ v,∃ ws:List ByteArray,e=.returned v∧ws.map ByteArray.toList=(P.zIr 10 s.toList).dropLast.foldl P.ptS []∧(∀ b∈ws,b.size≤100000000)∧w'.ownsRow w.heap.size 9 1 v ws.length (ws.map Value.string)∧Below w.heap.size w w':=by
 obtain⟨i0,hi,hz0,hz1,hz2⟩:=info_parts Tryz.infoStr
 have HI:=zAa hi
 have HZ0:=zAa hz0
 have HZ1:=zAa hz1
 have HZ2:=zAa hz2
 clear hi hz0 hz1 hz2
 go_enter Tryz.func15,Tryz.ntmps15
 go_upto_region 2 with (first
  | (go_at_call_of 17 (Value.string s);refine (zFY s _ (by omega)).mono ?_;rintro e w1 ⟨v,ws,rfl,hws,hxs,hown,hb1⟩;have HWS:=zAa hws;have HXS:=zAa hxs;have HOW:=zAa hown;have B1:=zAa hb1;obtain⟨va,vc,hv⟩:=zDF hown;subst hv;clear hws hxs hown hb1))
 have hwl:ws.length≤8192:=by
  have h6:=congrArg List.length HWS.out
  rw[List.length_map,List.length_dropLast] at h6
  have h7:=P.zIO 10 s.toList
  rw[zAB] at h7
  omega
 go_upto_region 4 with fail
 go_loopw [4,5] (fun ov iv wr=>∃ (j:Nat) (bs:List ByteArray) (v':Value),ov=v'∧j≤ws.length∧iv=.int .i64 (j:Int)∧bs.length≤j∧Hid (bs.map ByteArray.toList=((ws.take j).map ByteArray.toList).foldl P.ptS [])∧Hid (∀ b∈bs,b.size≤j*9000)∧Hid (wr.ownsRow w1.heap.size 9 1 v' bs.length (bs.map Value.string))∧Hid (Below w1.heap.size w1 wr)) (fun _ iv _=>ws.length-(intOf iv).toNat)
 case atStart=>exact⟨0,[],_,rfl,Nat.zero_le _,rfl,Nat.le_refl _,rfl,fun b hb=>by simp at hb,World.ownsRow_nil _ _ _ _,Below.refl _ _⟩
 case round =>
  obtain⟨j,bs,v',hv',hj,rfl,hbl,HS,HZ,HO,HB⟩:=hrel
  have hv':=hv'.symm
  subst hv'
  by_cases hlt:j<ws.length
  ·have hlt':(j:Int)<(ws.length:Int):=by omega
   obtain⟨gl,hva⟩:∃ gl,va=some ⟨gl,0,none⟩:=by
    rcases HOW.out.2 with ⟨e1,h9⟩ | ⟨gl,c2,cur,e1,_⟩
    ·omega
    ·simp only[Value.slice.injEq] at e1
     exact⟨gl,e1.1⟩
   subst hva
   have cj0:=HOW.out.cellAt j (by omega)
   simp only[List.getElem?_map,List.getElem?_eq_getElem hlt,Option.map_some] at cj0
   have lgl:=(HOW.out.lt gl rfl).2
   have cj:=cfL HB.out lgl cj0
   have lgr:=Nat.lt_of_lt_of_le lgl HB.out.size
   have HST:Hid (((ws.take (j+1)).map ByteArray.toList).foldl P.ptS []=P.putG (if P.zJc ws[j].toList P.thrW then bs.map ByteArray.toList++[[]] else bs.map ByteArray.toList) (ws[j].toList++[10])):=by
    unfold Hid
    rw[List.take_succ_eq_append_getElem hlt,List.map_append,List.foldl_append,← HS.out];rfl
   have hxz:ws[j].size≤8192:=Nat.le_trans (HXS.out _ (List.getElem_mem hlt)) hs
   generalize ws[j]=x at *
   have hxx:(x.size:Int)≤8192:=by omega
   obtain⟨q,zq⟩:∃ q,P.zJc x.toList P.thrW=q:=⟨_,rfl⟩
   have HQ:Hid (P.zJc x.toList (⟨#[116,104,114,101,97,100]⟩:ByteArray).toList=q):=by unfold Hid;rw[show (⟨#[116,104,114,101,97,100]⟩:ByteArray).toList=P.thrW from zAe _];exact zq
   rw[zq] at HST
   clear zq cj0
   go_upto_region 7 with (first
    | (go_at_call 19;refine (zEX x _ _).mono ?_;rintro e wb ⟨rfl,hwb⟩;subst hwb;rw[HQ.out]))
   clear HQ
   cases q
   ·by_cases hbs:bs=[]
    ·subst hbs
     have HEQ:Hid (([]:List ByteArray).map ByteArray.toList=((ws.take (j+1)).map ByteArray.toList).foldl P.ptS []):=by unfold Hid;rw[HST.out];rfl
     obtain⟨oa,oc,hof⟩:=zDF HO.out
     subst hof
     clear HST HS HZ
     go_wp2
     go_roundw
     case rel=>exact⟨j+1,[],_,rfl,by omega,by go_num,by simp,HEQ,fun y hy=>by simp at hy,HO,HB⟩
     case measure=>simp[intOf];omega
    ·obtain⟨cs,b,hcb⟩:∃ cs b,bs=cs++[b]:=⟨bs.dropLast,bs.getLast hbs,(List.dropLast_concat_getLast hbs).symm⟩
     subst hcb
     clear hbs
     have hlen:(cs++[b]).length=cs.length+1:=by simp
     rw[hlen] at HO hbl
     obtain⟨g,cap,hvf⟩:∃ g cap,v'=.slice (some ⟨g,0,none⟩) (cs.length+1) cap:=by
      rcases HO.out.2 with ⟨_,e1⟩ | ⟨g,c2,cur,e1,_⟩
      ·omega
      ·exact⟨g,c2,e1⟩
     subst hvf
     have HO1:=HO
     have cl:=cj
     have HBW:=HB
     have hbz:b.size≤j*9000:=HZ.out b (by simp)
     have HZ1x:Hid (∀ y∈cs,y.size≤j*9000):=fun y hy=>HZ.out y (List.mem_append_left _ hy)
     have HEQ:Hid ((cs++[b++x++⟨#[10]⟩]).map ByteArray.toList=((ws.take (j+1)).map ByteArray.toList).foldl P.ptS []):=by
      unfold Hid
      rw[HST.out]
      simp only[Bool.false_eq_true,if_false]
      rw[List.map_append,List.map_append,List.map_cons,List.map_nil,List.map_cons,List.map_nil,P.zKl,zAq,zAq,show (⟨#[10]⟩:ByteArray).toList=[10] from zAe _,List.append_assoc]
     clear HST HS HZ hlen HO cj
     have co:wb.cell? ⟨g,cs.length,none⟩=some (.string b):=by
      have h9:=HO1.out.cellAt cs.length (by omega)
      rw[h9,List.map_append,List.map_cons,List.map_nil]
      have:=zFG (cs.map Value.string) (.string b)
      rw[List.length_map] at this
      exact this
     have fo:wb.frozen? ⟨g,cs.length,none⟩=false:=HO1.out.frozenAt cs.length
     have lg:=(HO1.out.lt g rfl).2
     have HGE:Hid (w1.heap.size≤g):=(HO1.out.lt g rfl).1
     have lgW:=Nat.lt_of_lt_of_le lgl HBW.out.size
     have hne:gl≠g:=by have:=HGE.out;omega
     have hm':(cs.length:Int)<(cs.length:Int)+1:=by omega
     have hm0:(0:Int)≤(cs.length:Int):=by omega
     have hmg:¬ ((cs.length:Int)<0):=by omega
     have hbx:(b.size:Int)≤100000000:=by omega
     have hbx2:((b++x:ByteArray).size:Int)≤100008192:=by rw[ByteArray.size_append];omega
     have HST1:Hid ((wb.setCell ⟨g,cs.length,none⟩ (.string (b++x++⟨#[10]⟩))).ownsRow w1.heap.size 9 1 (.slice (some ⟨g,0,none⟩) (cs.length+1) cap) (cs.length+1) ((cs++[b++x++⟨#[10]⟩]).map Value.string)):=by
      have h9:=(HO1.out.stored cs.length (.string (b++x++⟨#[10]⟩))).1
      rw[List.map_append,List.map_cons,List.map_nil] at h9 ⊢
      have h8:=zFF (cs.map Value.string) (.string b) (.string (b++x++⟨#[10]⟩))
      rw[List.length_map] at h8
      rw[h8] at h9
      exact h9
     have HBS:Hid (Below w1.heap.size w1 (wb.setCell ⟨g,cs.length,none⟩ (.string (b++x++⟨#[10]⟩)))):=HBW.out.setCell HGE.out _
     have HZN:Hid (∀ y∈cs++[b++x++⟨#[10]⟩],y.size≤(j+1)*9000):=fun y hy=>by
      rcases List.mem_append.1 hy with hy | hy
      ·have:=HZ1x.out y hy;omega
      ·rw[List.mem_singleton] at hy
       rw[hy,ByteArray.size_append,ByteArray.size_append,show (⟨#[10]⟩:ByteArray).size=1 from rfl]
       omega
     have HLN:Hid ((cs++[b++x++⟨#[10]⟩]).length=cs.length+1):=by unfold Hid;simp
     go_upto_region 11 with fail
     go_region
     go_wp2
     go_roundw
     case rel=>exact⟨j+1,cs++[b++x++⟨#[10]⟩],_,rfl,by omega,by go_num,by rw[HLN.out];omega,HEQ,HZN,by unfold Hid;rw[HLN.out];exact HST1.out,by first | exact HBS | exact HBS.out.drew | exact (HBW.out.drew).setCell HGE.out _⟩
     case measure=>simp[intOf];omega
   ·have HO2:Hid ((wb.alloc (.cells #[.string ⟨#[]⟩] 9)).ownsRow w1.heap.size 9 1 v' bs.length (bs.map Value.string)):=HO.out.alloc _
    have HN2:Hid (∀ y u,[Value.string ⟨#[]⟩][y]?=some u→(wb.alloc (.cells #[.string ⟨#[]⟩] 9)).cell? ((⟨wb.heap.size,0,none⟩:Addr).add y)=some u):=World.news_of_block (cs:=#[.string ⟨#[]⟩]) (t:=9) (fr:=(0,0)) (heap_alloc_new wb _)
    have hsl:=HB.out.size
    go_upto_region 9 with (first
     | (at_builtin;refine wpList_append_lies _ rfl (.tmp 22) (.tmp 23) 35 rfl w1.heap.size 9 i0 (.string ByteArray.empty) 1 16 Tryz.underlying35 HI.out HZ0.out HZ1.out HZ2.out rfl (by decide) _ bs.length (bs.map Value.string) rfl (by exact HO2.out) ⟨wb.heap.size,0,none⟩ 1 1 [.string ⟨#[]⟩] rfl rfl (by exact HN2.out) (by simp[Value.oneCell']) (by decide) (by unfold maxLen;omega) (by omega) (by simp;omega) _ rfl ?_;intro g cap w3 hown3 hgrow3 hat3 hglt3))
    have HBW:Hid (Below w1.heap.size w1 w3):=(HB.out.alloc HB.out.size _).grown hgrow3 (by have:=HB.out.size;simp;omega) (fun y hy=>(HO.out.lt y hy).1)
    obtain⟨cs,hcs⟩:∃ cs,cs=bs:=⟨_,rfl⟩
    obtain⟨b,hbe⟩:∃ b:ByteArray,b=⟨#[]⟩:=⟨_,rfl⟩
    have HO1:Hid (w3.ownsRow w1.heap.size 9 1 (.slice (some ⟨g,0,none⟩) (cs.length+1) cap) (cs.length+1) ((cs++[b]).map Value.string)):=by
     unfold Hid;rw[hcs,hbe,List.map_append];exact hown3
    have cl0:=(HOW.out.cellAt j (by omega))
    have cl:w3.cell? ⟨gl,j,none⟩=some (.string x):=by
     have h1:=hgrow3.cell_far ⟨gl,j,none⟩ (by simp;omega) (fun e=>by have:=(HO.out.lt gl e.symm).1;omega)
     rw[h1]
     exact (Below.cell ((Below.refl wb.heap.size wb).alloc (Nat.le_refl _) _) (p:=⟨gl,j,none⟩) lgr).trans cj
    have hbz:b.size≤j*9000:=by rw[hbe];exact Nat.zero_le _
    have HZ1x:Hid (∀ y∈cs,y.size≤j*9000):=by rw[hcs];exact HZ
    have HEQ:Hid ((cs++[b++x++⟨#[10]⟩]).map ByteArray.toList=((ws.take (j+1)).map ByteArray.toList).foldl P.ptS []):=by
     unfold Hid
     rw[HST.out]
     simp only[if_true]
     rw[hcs,P.zKl,List.map_append,List.map_cons,List.map_nil,zAq,zAq,show (⟨#[10]⟩:ByteArray).toList=[10] from zAe _,hbe,show (⟨#[]⟩:ByteArray).toList=[] from zAe _]
     rfl
    rw[← hcs] at hbl
    clear HST HS HZ HO HO2 HN2 hown3 hgrow3 hat3 cl0 cj
    rw[← hcs]
    clear hcs hbe hglt3 hsl
    have co:w3.cell? ⟨g,cs.length,none⟩=some (.string b):=by
     have h9:=HO1.out.cellAt cs.length (by omega)
     rw[h9,List.map_append,List.map_cons,List.map_nil]
     have:=zFG (cs.map Value.string) (.string b)
     rw[List.length_map] at this
     exact this
    have fo:w3.frozen? ⟨g,cs.length,none⟩=false:=HO1.out.frozenAt cs.length
    have lg:=(HO1.out.lt g rfl).2
    have HGE:Hid (w1.heap.size≤g):=(HO1.out.lt g rfl).1
    have lgW:=Nat.lt_of_lt_of_le lgl HBW.out.size
    have hne:gl≠g:=by have:=HGE.out;omega
    have hm':(cs.length:Int)<(cs.length:Int)+1:=by omega
    have hm0:(0:Int)≤(cs.length:Int):=by omega
    have hmg:¬ ((cs.length:Int)<0):=by omega
    have hbx:(b.size:Int)≤100000000:=by omega
    have hbx2:((b++x:ByteArray).size:Int)≤100008192:=by rw[ByteArray.size_append];omega
    have HST1:Hid ((w3.setCell ⟨g,cs.length,none⟩ (.string (b++x++⟨#[10]⟩))).ownsRow w1.heap.size 9 1 (.slice (some ⟨g,0,none⟩) (cs.length+1) cap) (cs.length+1) ((cs++[b++x++⟨#[10]⟩]).map Value.string)):=by
     have h9:=(HO1.out.stored cs.length (.string (b++x++⟨#[10]⟩))).1
     rw[List.map_append,List.map_cons,List.map_nil] at h9 ⊢
     have h8:=zFF (cs.map Value.string) (.string b) (.string (b++x++⟨#[10]⟩))
     rw[List.length_map] at h8
     rw[h8] at h9
     exact h9
    have HBS:Hid (Below w1.heap.size w1 (w3.setCell ⟨g,cs.length,none⟩ (.string (b++x++⟨#[10]⟩)))):=HBW.out.setCell HGE.out _
    have HZN:Hid (∀ y∈cs++[b++x++⟨#[10]⟩],y.size≤(j+1)*9000):=fun y hy=>by
     rcases List.mem_append.1 hy with hy | hy
     ·have:=HZ1x.out y hy;omega
     ·rw[List.mem_singleton] at hy
      rw[hy,ByteArray.size_append,ByteArray.size_append,show (⟨#[10]⟩:ByteArray).size=1 from rfl]
      omega
    have HLN:Hid ((cs++[b++x++⟨#[10]⟩]).length=cs.length+1):=by unfold Hid;simp
    go_upto_region 11 with fail
    go_region
    go_wp2
    go_roundw
    case rel=>exact⟨j+1,cs++[b++x++⟨#[10]⟩],_,rfl,by omega,by go_num,by rw[HLN.out];omega,HEQ,HZN,by unfold Hid;rw[HLN.out];exact HST1.out,by first | exact HBS | exact HBS.out.drew | exact (HBW.out.drew).setCell HGE.out _⟩
    case measure=>simp[intOf];omega
  ·have hnlt:decide ((j:Int)<(ws.length:Int))=false:=decide_eq_false (by omega)
   have hje:j=ws.length:=by omega
   have HF:Hid (bs.map ByteArray.toList=(P.zIr 10 s.toList).dropLast.foldl P.ptS []):=by
    unfold Hid;rw[HS.out,hje,List.take_length,HWS.out]
   have hb:w.heap.size≤w1.heap.size:=B1.out.size
   have HZF:Hid (∀ b∈bs,b.size≤100000000):=fun b hb=>by have:=HZ.out b hb;omega
   clear hje HS HZ
   go_wp2
   go_ret
   exact⟨_,rfl,bs,HF.out,HZF.out,zCy HO.out hb,zAn B1.out (Nat.le_refl _) HB.out⟩
namespace Q
end Q
namespace P
theorem parts_pos {s:List UInt8} (h:(kernel s).2.1=0):0<((zIr 10 s).dropLast.foldl ptS []).length:=by
 obtain⟨r1,hz,hr,hlast,_,ht,_⟩:=kernel_rows h
 obtain⟨g1,g2,g3,g4⟩:=groups_of hr ht
 rw[g4,List.length_map]
 exact List.length_pos_iff.2 g3
def zJE (ps:List (List UInt8)) (a j:Nat):List UInt8:=((List.range j).map fun k=>ps.getD (sgT a ps.length k) []).flatten
theorem turnText_succ (ps:List (List UInt8)) (a j:Nat):zJE ps a (j+1)=zJE ps a j++ps.getD (sgT a ps.length j) []:=by
 unfold zJE;rw[List.range_succ,List.map_append,List.flatten_append];simp
def zJr (n a:Nat) (r:List Int) (k:Nat):List Int:=(List.range k).flatMap fun u=>(r.drop (4*sgT a n u)).take 4
theorem turnRegs_succ (n a:Nat) (r:List Int) (k:Nat):zJr n a r (k+1)=zJr n a r k++(r.drop (4*sgT a n k)).take 4:=by
 unfold zJr;rw[List.range_succ,List.flatMap_append];simp
theorem turnRegs_all {n a:Nat} {r:List Int} (ha:a<n) (hn:n≤4) (hr:r.length=4*n+3):zJr n a r n++r.drop (4*n)=rowT n (sgT a n) r:=by
 unfold zJr rowT Q.regsT
 congr 1
 rw[List.flatMap_def,List.flatMap_def]
 congr 1
 refine List.map_congr_left fun k hk=>?_
 have:=(sgT_inv ha hn).lt k (List.mem_range.1 hk)
 rw[List.drop_take,List.take_take]
 congr 1
 omega
theorem turnRegs_len {n a:Nat} {r:List Int} (ha:a<n) (hn:n≤4) (hr:r.length=4*n+3):∀ k,k≤n→(zJr n a r k).length=4*k
 | 0,_=>rfl
 | k+1,hk=>by
  rw[turnRegs_succ,List.length_append,turnRegs_len ha hn hr k (by omega),List.length_take,List.length_drop]
  have:=(sgT_inv ha hn).lt k (by omega)
  omega
end P
theorem zEH {w:World} {g:Nat} {r:List Int} (hc:∀ i (hi:i<r.length),w.cell? ⟨g,i,none⟩=some (.int .i64 r[i])) (o m:Nat) (h:o+m≤r.length):∀ j u,(((r.drop o).take m).map (Value.int .i64))[j]?=some u→w.cell? ((⟨g,o,none⟩:Addr).add j)=some u:=fun j u hu=>by
 have hj:j<(((r.drop o).take m).map (Value.int .i64)).length:=(List.getElem?_eq_some_iff.1 hu).1
 simp only[List.length_map,List.length_take,List.length_drop] at hj
 rw[List.getElem?_map,List.getElem?_take,if_pos (by omega),List.getElem?_drop,List.getElem?_eq_getElem (by omega),Option.map_some] at hu
 rw[← Option.some.inj hu]
 have e:(⟨g,o,none⟩:Addr).add j=⟨g,o+j,none⟩:=by by_cases h:j=0<;>simp[Addr.add,h]
 rw[e]
 exact hc (o+j) (by omega)
theorem zFH (g o:Nat):(⟨g,0,none⟩:Addr).add o=⟨g,o,none⟩:=by by_cases h:o=0<;>simp[Addr.add,h]
theorem zHp (gz len zc q:Nat) (h:4*q+4≤zc) (wx:World):(Instr.slice 31 (.slice (some ⟨gz,0,none⟩) len zc) (some (.int .i64 (4*(q:Int)))) (some (.int .i64 (4*(q:Int)+4))) none).run Tryz.prog wx=.ok (.slice (some ⟨gz,4*q,none⟩) 4 (zc-4*q)) wx:=by
 have h1:=run_slice_lh (w:=wx) (P:=Tryz.prog) 31 (some ⟨gz,0,none⟩) len zc (by kernel_rfl) .i64 .i64 (4*(q:Int)) (4*(q:Int)+4) (by omega) (by omega) (by omega)
 rw[h1,show (sizeOf (Tryz.prog.elem 31)).run Tryz.prog wx=.ok 1 wx by kernel_rfl,Result.andThen_ok]
 have e1:(4*(q:Int)).toNat=4*q:=by omega
 have e2:(4*(q:Int)+4).toNat=4*q+4:=by omega
 rw[e1,e2]
 unfold sliced
 simp only[Nat.mul_one,show 4*q+4-4*q=4 by omega]
 first | rfl | (simp[zFH];omega)
theorem zHq (gz len zc o:Nat) (h:o≤len) (h2:o<zc) (wx:World):(Instr.slice 31 (.slice (some ⟨gz,0,none⟩) len zc) (some (.int .i64 (o:Int))) none none).run Tryz.prog wx=.ok (.slice (some ⟨gz,o,none⟩) (len-o) (zc-o)) wx:=by
 have h1:=run_slice_l (w:=wx) (P:=Tryz.prog) 31 (some ⟨gz,0,none⟩) len zc (by kernel_rfl) .i64 (o:Int) (by omega) (by omega)
 rw[h1,show (sizeOf (Tryz.prog.elem 31)).run Tryz.prog wx=.ok 1 wx by kernel_rfl,Result.andThen_ok]
 have e1:(o:Int).toNat=o:=by omega
 rw[e1]
 unfold sliced
 simp only[Nat.mul_one]
 first | rfl | (simp[zFH];omega)
theorem zFn (s:ByteArray) (a:Int) (w:World) (hs:s.size≤8192) (a0:-9223372036854775808≤a) (a1:a<9223372036854775808) :
  Calls Tryz.prog 8 #[.string s,.int .i64 a] w fun e w'=>e=.returned (.bool true)∧Below w.heap.size w w':=by
 obtain⟨i0,hi,hz0,hz1,hz2⟩:=info_parts Tryz.infoIntM
 have HI:=zAa hi
 have HZ0:=zAa hz0
 have HZ1:=zAa hz1
 have HZ2:=zAa hz2
 clear hi hz0 hz1 hz2
 cases ze:((P.kernel s.toList).2.1 != 0)
 ·have he0:(P.kernel s.toList).2.1=0:=by simpa using ze
  have HPOS:=zAa (P.parts_pos he0)
  have HLAW:=zAa (fun (a:Nat) (ha:a<((P.zIr 10 s.toList).dropLast.foldl P.ptS []).length)=>P.turned_law he0 ha)
  have HSK:=zAa (fun w=>zCS s w hs he0)
  have HLN:=zAa (Q.zJP (P.zIN he0))
  have HFW:=zAa (Q.zJg (P.zIN he0))
  clear ze he0
  generalize hso:Q.zIC (P.kernel s.toList).1=SO at *
  clear hso
  go_enter Tryz.func8,Tryz.ntmps8
  go_upto_region 4 with (first
   | (go_at_call_of 13 (Value.string s);refine (HSK.out _).mono ?_;rintro e w1 ⟨ov,vs,rfl,hri,hb1⟩;have RI:=zAa hri;have B1:=zAa hb1;clear hri hb1))
  clear HSK
  go_upto_region 5 with (first
   | (go_at_call_of 15 (Value.string s);refine (zGO s _ hs).mono ?_;rintro e w2 ⟨pv,ws,rfl,hws,hsz,hown,hb2⟩;have HWS:=zAa hws;have HSZ:=zAa hsz;have HOW:=zAa hown;have RI2:=zAa (RI.out.below hb2);have B2:=zAa (zAn B1.out (Nat.le_refl _) hb2);obtain⟨va,vc,hv⟩:=zDF hown;subst hv;clear hws hsz hown hb2))
  have hpos:0<ws.length:=by have:=HPOS.out;rw[← HWS.out,List.length_map] at this;exact this
  have hle:ws.length≤4:=by have:=(HLAW.out 0 HPOS.out).1;rw[← HWS.out,List.length_map] at this;exact this
  clear HPOS
  go_upto_region 7 with (first
   | (go_at_call 14;refine (zGN a ws.length _ a0 a1 hpos (by omega)).mono ?_;rintro e wp ⟨i,hi,rfl,hwp2⟩;subst hwp2))
  have hlaw:=HLAW.out i (by rw[← HWS.out,List.length_map];exact hi)
  rw[← HWS.out,List.length_map] at hlaw
  obtain⟨_,hT2000,T,eT,hT0,hTc,hTl,hTr⟩:=hlaw
  clear HLAW HWS
  have HTL:Hid (T=P.zJE (ws.map ByteArray.toList) i ws.length):=by unfold Hid P.zJE;rw[List.length_map];exact eT
  have hT2:T.length≤2000:=by rw[eT];exact hT2000
  clear eT hT2000
  have HI2:=zAa (P.sgT_inv hi hle)
  go_upto_region 9 with fail
  go_loopw [11,12] (fun tv iv wr=>∃ (j:Nat) (t:ByteArray),j≤ws.length∧iv=.int .i64 (j:Int)∧tv=.string t∧t.size≤j*100000000∧Hid (t.toList=P.zJE (ws.map ByteArray.toList) i j)∧wr=wp) (fun _ iv _=>ws.length-(intOf iv).toNat)
  case atStart=>exact⟨0,ByteArray.empty,Nat.zero_le _,rfl,rfl,by simp,by unfold Hid;rw[zAN];rfl,rfl⟩
  case round =>
   obtain⟨j,t,hj,rfl,rfl,htz,HT,rfl⟩:=hrel
   by_cases hlt:j<ws.length
   ·have hlt':(j:Int)<(ws.length:Int):=by omega
    obtain⟨gl,hva⟩:∃ gl,va=some ⟨gl,0,none⟩:=by
     rcases HOW.out.2 with ⟨e1,h9⟩ | ⟨gl,c2,cur,e1,_⟩
     ·omega
     ·simp only[Value.slice.injEq] at e1
      exact⟨gl,e1.1⟩
    subst hva
    obtain⟨q,hq⟩:∃ q,P.sgT i ws.length j=q:=⟨_,rfl⟩
    have hqn:q<ws.length:=by rw[← hq];exact HI2.out.lt j hlt
    have hqn':(q:Int)<(ws.length:Int):=by omega
    have hq1:((i:Int)+(ws.length:Int)-(j:Int)) % (ws.length:Int)=(q:Int):=by
     unfold P.sgT at hq
     rw[show (i:Int)+(ws.length:Int)-(j:Int)=((i+ws.length-j:Nat):Int) by omega,← hq]
     exact (Int.natCast_emod _ _).symm
    have hq2:((i:Int)+(ws.length:Int)-(j:Int)).tmod (ws.length:Int)=(q:Int):=by rw[Int.tmod_eq_emod_of_nonneg (by omega)];exact hq1
    have hzz:((ws.length:Int)==0)=false:=by rw[beq_eq_false_iff_ne];omega
    have hzz2:¬ ((ws.length:Int)=0):=by omega
    have hzz3:¬ (ws.length=0):=by omega
    have cj:=HOW.out.cellAt q (by omega)
    simp only[List.getElem?_map,List.getElem?_eq_getElem hqn,Option.map_some] at cj
    have lgl:=(HOW.out.lt gl rfl).2
    have HST:Hid ((t++ws[q]).toList=P.zJE (ws.map ByteArray.toList) i (j+1)):=by
     unfold Hid
     rw[P.turnText_succ,List.length_map,hq,zAq,HT.out,Q.gD_lt _ q [] (by simpa using hqn),List.getElem_map]
    have hxz:ws[q].size≤100000000:=HSZ.out _ (List.getElem_mem hqn)
    generalize ws[q]=x at *
    have hxx:(x.size:Int)≤100000000:=by omega
    have htt:(t.size:Int)≤400000000:=by omega
    have hin:(i:Int)<(ws.length:Int):=by omega
    clear hq HT
    go_wp2
    go_roundw
    case rel=>exact⟨j+1,t++x,by omega,by go_num,rfl,by rw[ByteArray.size_append];omega,HST,by first | rfl | trivial⟩
    case measure=>simp[intOf];omega
   ·have hnlt:decide ((j:Int)<(ws.length:Int))=false:=decide_eq_false (by omega)
    have hje:j=ws.length:=by omega
    have htx:t.toList=T:=by rw[HT.out,HTL.out,hje]
    have hts:t.size≤8192:=by rw[← zAB,htx];omega
    rw[← htx] at hT0 hTc hTl hTr
    have HSK:=zAa (fun w=>zCS t w hts hT0)
    have HLN2:=zAa (Q.zJP (P.zIN hT0))
    have HFW2:=zAa (Q.zJg (P.zIN hT0))
    clear hje HT HTL htx hT0
    generalize hsq:Q.zIC (P.kernel t.toList).1=SQ at *
    clear hsq
    rw[hTc] at HSK
    clear hTc
    generalize hclq:SO.clash=cl at *
    clear hclq
    obtain⟨xa,ca,hxf,hxa⟩:=RI2.out.form
    subst hxf
    have hneq:((SQ.rows.length:Int) != (SO.rows.length:Int))=false:=by rw[hTl];simp
    have HROT:=zAa hTr
    clear hTl hTr HOW HSZ
    have hT2:=True.intro
    go_upto_region 13 with (first
     | (go_at_call_of 13 (Value.string t);refine (HSK.out _).mono ?_;rintro e w3 ⟨oq,us,rfl,hri3,hb3⟩;have RQ:=zAa hri3;have RI3:=zAa (RI2.out.below hb3);have B3:=zAa (zAn B2.out (Nat.le_refl _) hb3);clear hri3 hb3))
    clear HSK
    obtain⟨qa,qc,hqf,_⟩:=RQ.out.form
    subst hqf
    clear hxa
    obtain⟨xa',ca',hx2,hxa⟩:=RI3.out.form
    simp only[Value.slice.injEq,true_and] at hx2
    obtain⟨hx3,hx4⟩:=hx2
    subst hx3 hx4
    go_upto_region 16 with fail
    go_loopw [17] (fun iv wr=>∃ j:Nat,j≤SO.rows.length∧iv=.int .i64 (j:Int)∧Hid (Below w3.heap.size w3 wr)) (fun iv _=>SO.rows.length-(intOf iv).toNat)
    case atStart=>exact⟨0,Nat.zero_le _,rfl,Below.refl _ _⟩
    case round =>
     obtain⟨m,hm,rfl,HB⟩:=hrel
     obtain⟨wo,hwo⟩:∃ x:World,x=wr:=⟨_,rfl⟩
     subst hwo
     have hmb:(m:Int)≤100000000:=by have:=HFW.out;omega
     by_cases hlt2:m<SO.rows.length
     ·have hlt2':(m:Int)<(SO.rows.length:Int):=by omega
      obtain⟨b,hbx,hBb,hb,hcs⟩:=hxa (by omega)
      subst hbx
      have hiv:m<vs.length:=by rw[RI3.out.len];exact hlt2
      have cu:=(HB.out.cell (p:=⟨b,m,none⟩) hb).trans (hcs m hiv)
      have lb:=Nat.lt_of_lt_of_le hb HB.out.size
      have HU:=((RI3.out.rows m hlt2 vs[m] (List.getElem?_eq_getElem hiv)).below HB.out)
      have HRM:=zAa (HROT.out SO.rows[m] (List.getElem_mem hlt2)).2
      have hrl:=(HROT.out SO.rows[m] (List.getElem_mem hlt2)).1
      generalize vs[m]=u at *
      generalize SO.rows[m]=r at *
      obtain⟨gz,zc,rfl,hzc,hgz,hcap⟩:∃ g c,u=.slice (some ⟨g,0,none⟩) r.length c∧(∀ i (h:i<r.length),wo.cell? ⟨g,i,none⟩=some (.int .i64 r[i]))∧g<wo.heap.size∧r.length≤c:=by
       rcases HU with ⟨_,e⟩ | h
       ·rw[e] at hrl;simp at hrl
       ·exact h
      have HZC:=zAa hzc
      have HRL:=zAa hrl
      have hcap2:4*ws.length+3≤zc:=by omega
      have RQ2:=zAa (RQ.out.below HB.out)
      clear HU hzc hcs hrl hcap hxa
      go_upto_region 20 with fail
      go_loopw [18,19] (fun xv kv wq0=>∃ (k:Nat) (v':Value),xv=v'∧k≤ws.length∧kv=.int .i64 (k:Int)∧Hid (wq0.ownsRow wo.heap.size 3 1 v' (4*k) ((P.zJr ws.length i r k).map (Value.int .i64)))∧Hid (Below wo.heap.size wo wq0)) (fun _ kv _=>ws.length-(intOf kv).toNat)
      case atStart=>exact⟨0,_,rfl,Nat.zero_le _,rfl,World.ownsRow_nil _ _ _ _,Below.refl _ _⟩
      case round =>
       obtain⟨k,v',hv',hk,rfl,HO,HBk⟩:=hrel
       have hv':=hv'.symm
       subst hv'
       by_cases hlt3:k<ws.length
       ·have hlt3':(k:Int)<(ws.length:Int):=by omega
        obtain⟨q,hq⟩:∃ q,P.sgT i ws.length k=q:=⟨_,rfl⟩
        have hqn:q<ws.length:=by rw[← hq];exact HI2.out.lt k hlt3
        have hq1:((i:Int)+(ws.length:Int)-(k:Int)) % (ws.length:Int)=(q:Int):=by
         unfold P.sgT at hq
         rw[show (i:Int)+(ws.length:Int)-(k:Int)=((i+ws.length-k:Nat):Int) by omega,← hq]
         exact (Int.natCast_emod _ _).symm
        have hq2:((i:Int)+(ws.length:Int)-(k:Int)).tmod (ws.length:Int)=(q:Int):=by rw[Int.tmod_eq_emod_of_nonneg (by omega)];exact hq1
        have hzz:((ws.length:Int)==0)=false:=by rw[beq_eq_false_iff_ne];omega
        have hzz2:¬ ((ws.length:Int)=0):=by omega
        have hzz3:¬ (ws.length=0):=by omega
        have cuk:=cfL HBk.out lb cu
        have lbk:=Nat.lt_of_lt_of_le lb HBk.out.size
        have hin:(i:Int)<(ws.length:Int):=by omega
        have hq4:4*q+4≤zc:=by omega
        have hq5:4*(q:Int)+4≤(zc:Int):=by omega
        have hq6:4*(q:Int)≤4*(q:Int)+4:=by omega
        have hq7:(0:Int)≤4*(q:Int):=by omega
        have hqz:(q:Int)<4:=by omega
        have hex:∀ wx,(Instr.slice 31 (.slice (some ⟨gz,0,none⟩) r.length zc) (some (.int .i64 (4*(q:Int)))) (some (.int .i64 (4*(q:Int)+4))) none).run Tryz.prog wx=.ok (.slice (some ⟨gz,4*q,none⟩) 4 (zc-4*q)) wx:=fun wx=>zHp gz r.length zc q hq4 wx
        have HNEW:=zAa (zEH (w:=wr) (g:=gz) (r:=r) (fun y hy=>(HBk.out.cell (p:=⟨gz,y,none⟩) hgz).trans (HZC.out y hy)) (4*q) 4 (by rw[HRL.out];omega))
        have HSC:=zAa (P.turnRegs_succ ws.length i r k)
        rw[hq] at HSC
        have HNL:Hid ((((r.drop (4*q)).take 4).map (Value.int .i64)).length=4*1):=by
         unfold Hid
         have:=HRL.out
         rw[List.length_map,List.length_take,List.length_drop];omega
        have hszq:=HBk.out.size
        clear hq
        go_upto_region 23 with fail
        go_upto_region 21 with (first
         | (at_builtin;refine wpList_append_lies _ rfl (.tmp 96) (.tmp 106) 31 rfl wo.heap.size 3 i0 (.int .i64 0) 1 8 Tryz.underlying31 HI.out HZ0.out HZ1.out HZ2.out rfl (by decide) _ (4*k) ((P.zJr ws.length i r k).map (Value.int .i64)) rfl (by exact HO.out) ⟨gz,4*q,none⟩ 4 (zc-4*q) (((r.drop (4*q)).take 4).map (Value.int .i64)) rfl HNL.out (by exact HNEW.out) (fun y hy=>by obtain⟨z,_,rfl⟩:=List.mem_map.1 hy;rfl) (by decide) (by unfold maxLen;omega) (by omega) hszq _ rfl ?_;intro g2 c2 w5 hown5 hgrow5 hat5 hglt5))
        have HO5:Hid (w5.ownsRow wo.heap.size 3 1 (.slice (some ⟨g2,0,none⟩) (4*k+4) c2) (4*(k+1)) ((P.zJr ws.length i r (k+1)).map (Value.int .i64))):=by
         unfold Hid
         rw[HSC.out,List.map_append]
         exact hown5
        have HB5:Hid (Below wo.heap.size wo w5):=HBk.out.grown hgrow5 HBk.out.size (fun y hy=>(HO.out.lt y hy).1)
        clear hown5 hgrow5 hat5 HNEW HSC HNL HO hex hq4 hq5 hq6 hq7 hq1 hq2 cuk
        go_wp2
        go_roundw
        case rel=>exact⟨k+1,_,rfl,by omega,by go_num,HO5,HB5⟩
        case measure=>simp[intOf];omega
       ·have hnlt3:decide ((k:Int)<(ws.length:Int))=false:=decide_eq_false (by omega)
        have hkn:k=ws.length:=by omega
        have HOF:Hid (wr.ownsRow wo.heap.size 3 1 v' (4*ws.length) ((P.zJr ws.length i r ws.length).map (Value.int .i64))):=by have h9:=HO.out;rw[hkn] at h9;exact h9
        have cuk:=cfL HBk.out lb cu
        have lbk:=Nat.lt_of_lt_of_le lb HBk.out.size
        have hex:∀ wx,(Instr.slice 31 (.slice (some ⟨gz,0,none⟩) r.length zc) (some (.int .i64 (4*(ws.length:Int)))) none none).run Tryz.prog wx=.ok (.slice (some ⟨gz,4*ws.length,none⟩) 3 (zc-4*ws.length)) wx:=fun wx=>by
         have h9:=zHq gz r.length zc (4*ws.length) (by rw[HRL.out];omega) (by omega) wx
         rw[show ((4*ws.length:Nat):Int)=4*(ws.length:Int) by omega,show r.length-4*ws.length=3 by rw[HRL.out];omega] at h9
         exact h9
        have HNEW:=zAa (zEH (w:=wr) (g:=gz) (r:=r) (fun y hy=>(HBk.out.cell (p:=⟨gz,y,none⟩) hgz).trans (HZC.out y hy)) (4*ws.length) 3 (by rw[HRL.out];omega))
        have HDR:Hid ((r.drop (4*ws.length)).take 3=r.drop (4*ws.length)):=List.take_of_length_le (by rw[List.length_drop,HRL.out];omega)
        rw[HDR.out] at HNEW
        have HNL:Hid (((r.drop (4*ws.length)).map (Value.int .i64)).length=3*1):=by
         unfold Hid
         rw[List.length_map,List.length_drop,HRL.out];omega
        have hszq:=HBk.out.size
        have HALL:=zAa (P.turnRegs_all hi hle HRL.out)
        have hws4:(4:Int)*(ws.length:Int)≤16:=by omega
        clear hkn
        go_upto_region 25 with (first
         | (at_builtin;refine wpList_append_lies _ rfl (.tmp 108) (.tmp 115) 31 rfl wo.heap.size 3 i0 (.int .i64 0) 1 8 Tryz.underlying31 HI.out HZ0.out HZ1.out HZ2.out rfl (by decide) _ (4*ws.length) ((P.zJr ws.length i r ws.length).map (Value.int .i64)) rfl (by exact HOF.out) ⟨gz,4*ws.length,none⟩ 3 (zc-4*ws.length) ((r.drop (4*ws.length)).map (Value.int .i64)) rfl HNL.out (by exact HNEW.out) (fun y hy=>by obtain⟨z,_,rfl⟩:=List.mem_map.1 hy;rfl) (by decide) (by unfold maxLen;omega) (by omega) hszq _ rfl ?_;intro g2 c2 w5 hown5 hgrow5 hat5 hglt5))
        have HB5:Hid (Below wo.heap.size wo w5):=HBk.out.grown hgrow5 HBk.out.size (fun y hy=>(HOF.out.lt y hy).1)
        have RX:Hid (zBA w5 (.slice (some ⟨g2,0,none⟩) (4*ws.length+3) c2) (P.rowT ws.length (P.sgT i ws.length) r)):=by
         unfold Hid
         rw[← HALL.out]
         refine zCr (B:=wo.heap.size) (n:=4*ws.length+3) ?_ ?_
         ·rw[List.map_append];exact hown5
         ·rw[List.length_append,P.turnRegs_len hi hle HRL.out _ (Nat.le_refl _),List.length_drop,HRL.out];omega
        have RQ5:=zAa (RQ2.out.below HB5.out)
        have HCT:Hid (SQ.rows.contains (P.rowT ws.length (P.sgT i ws.length) r)=true):=by unfold Hid;rw[List.contains_iff_mem];exact HRM.out
        have HS5:Hid (w3.heap.size≤wo.heap.size):=HB.out.size
        clear hown5 hgrow5 hat5 HNEW HNL HO HOF hex cuk HALL HDR
        generalize P.rowT ws.length (P.sgT i ws.length) r=rr at *
        go_upto_region 26 with (first
         | (go_at_call 16;refine (zHb 0 _ _ SQ.rows us rr _ RQ5.out RX.out HLN2.out HFW2.out).mono ?_;rw[HCT.out];rintro e w6 ⟨rfl,hb6⟩;have B6:=zAa (zAn HB5.out (Nat.le_refl _) hb6);clear hb6))
        clear RQ5 RX HCT HB5
        go_wp2
        go_roundw
        case rel=>exact⟨m+1,by omega,by go_num,HB.out.trans (B6.out.mono HS5.out)⟩
        case measure=>simp[intOf];omega
     ·have hnlt2:decide ((m:Int)<(SO.rows.length:Int))=false:=decide_eq_false (by omega)
      go_wp2
      go_ret
      exact⟨rfl,zAn B3.out (Nat.le_refl _) HB.out⟩
 ·have HSF:=zAa (fun w=>zEF s w hs ze)
  have hnil:∀ wx,(binOp .eql 27 (.slice none 0 0) (.slice none 0 0)).run Tryz.prog wx=.ok (.bool true) wx:=fun wx=>by first | rfl | kernel_rfl
  go_enter Tryz.func8,Tryz.ntmps8
  go_wp2_with (first
   | (go_at_call_of 13 (Value.string s);refine (HSF.out _).mono ?_;rintro e w1 ⟨rfl,hb1⟩;have B1:=zAa hb1;clear hb1))
  go_ret
  exact⟨rfl,B1.out⟩
theorem zGj (HK:Hid (∀ x∈P.kns,P.AnsZ x.1)) (s:ByteArray) (a:Int) (w:World) (a0:-9223372036854775808≤a) (a1:a<9223372036854775808) :
  Calls Tryz.prog 3 #[.string s,.int .i64 a] w fun e w'=>e=.returned (.bool true)∧Below w.heap.size w w':=by
 by_cases hs:s.size≤8192
 ·have hs':¬ ((8192:Int)<(s.size:Int)):=by omega
  have hz0:-9223372036854775808≤(s.size:Int):=by omega
  have hz1:(s.size:Int)<9223372036854775808:=by omega
  go_enter Tryz.func3,Tryz.ntmps3
  go_wp2_with (first
   | (go_at_call 7;refine (zEG HK (s.size:Int) _ hz0 hz1).mono ?_;rintro e w1 ⟨rfl,hb1⟩;have B1:=zAa hb1;clear hb1)
   | (go_at_call 8;refine (zFn s a _ hs a0 a1).mono ?_;rintro e w2 ⟨rfl,hb2⟩;have B2:=zAa (zAn B1.out (Nat.le_refl _) hb2);clear hb2))
  go_ret
  exact⟨rfl,B2.out⟩
 ·have hs':(8192:Int)<(s.size:Int):=by omega
  go_enter Tryz.func3,Tryz.ntmps3
  go_wp2
  go_ret
  exact⟨rfl,Below.refl _ _⟩
end Go.Proofs.YtkmebkbpfmoeaaaGreat
