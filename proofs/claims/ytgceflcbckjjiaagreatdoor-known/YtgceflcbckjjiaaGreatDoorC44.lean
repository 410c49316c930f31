import Derived.Deep.Draws
import Derived.Test.YtgceflcbckjjiaaGreatDoorC43
set_option linter.unusedVariables false
set_option linter.unusedSimpArgs false
set_option maxHeartbeats 12800000
namespace Go.Proofs.YtgceflcbckjjiaaGreatDoor
namespace P
def Opn (r:Rd):Prop:=∀ x∈r.opn,0≤x∧x≤r.ifs
theorem zQA {r:Rd} (h:Opn r) (h0:0≤r.ifs):0≤openL r∧openL r≤r.ifs:=by
 unfold openL
 cases hl:r.opn.getLast? with
 | none=>exact⟨Int.le_refl _,h0⟩
 | some x=>exact h x (List.mem_of_getLast? hl)
structure GoodA (k:Nat) (r:Rd):Prop where
 good:Good k r
 opn:Opn r
 cn:r.count≤k
theorem goodA_begin {k:Nat} {r:Rd} (b l:Int) (h:GoodA (k+1) r):GoodA (k+1) (zPd r b l).1:=by
 unfold zPd
 split
 ·exact h
 ·rename_i hf
  have h0:=h.good
  refine⟨⟨by simp;omega,?_,h0.opn,h0.ifs0,h0.ifs1,by simp,h0.lin0,h0.lin1⟩,h.opn,by simp;omega⟩
  intro t ht
  simp at ht
  rcases ht with ht | rfl
  ·exact h0.stm t ht
  ·simp
theorem goodA_line {k:Nat} {r:Rd} (m:Int) (h:GoodA k r) (hm0:0≤m) (hm1:m≤k+1):GoodA (k+1) { r with line:=m }:=by
 have h0:=h.good
 exact⟨⟨h0.few,fun t ht=>by have:=h0.stm t ht;omega,h0.opn,h0.ifs0,by have:=h0.ifs1;simp;omega,h0.cnt,hm0,by simpa using hm1⟩,h.opn,by have:=h.cn;simp;omega⟩
theorem goodA_put {k:Nat} {r:Rd} (m:Int) (st:Stm) (h:GoodA k r) (hm0:0≤m) (hm1:m≤k+1):GoodA (k+1) (putD { r with line:=m } st).1:=by
 have h0:=h.good
 have hm:=goodA_line m h hm0 hm1
 have hp:∀ (o:List Int) (i c:Int) (s:Stm),o.length≤2→0≤i→i≤k+1→0≤c→Good (k+1) (put { r with line:=m,opn:=o,ifs:=i,count:=c } s):=fun o i c s h1 h2 h3 h4 =>
  ⟨by simp only[put,putLast_length];exact h0.few,putLast_mem _ _ _ h0.stm,h1,h2,by simpa [put] using h3,h4,hm0,by simpa [put] using hm1⟩
 have i1:=h0.ifs1
 have i0:=h0.ifs0
 have c0:=h0.cnt
 have c1:=h.cn
 have o1:=h0.opn
 unfold putD
 split
 ·exact hm
 split
 ·unfold ends
  split
  ·exact hm
  ·refine⟨hp _ r.ifs r.count _ (by simp;omega) i0 (by omega) c0,?_,by simp[put];omega⟩
   intro x hx
   exact h.opn x (List.dropLast_subset _ hx)
 split
 ·exact hm
 split
 ·split
  ·exact⟨⟨hm.good.few,hm.good.stm,hm.good.opn,hm.good.ifs0,hm.good.ifs1,by simp;omega,hm.good.lin0,hm.good.lin1⟩,hm.opn,by simp;omega⟩
  ·rename_i ho
   unfold zQf
   rw[if_neg ho]
   refine⟨hp (r.opn++[r.ifs+1]) (r.ifs+1) (r.count+1) _ (by simp at ho ⊢;omega) (by omega) (by omega) (by omega),?_,by simp[put];omega⟩
   intro x hx
   simp[put] at hx ⊢
   rcases hx with hx | rfl
   ·have:=h.opn x hx;omega
   ·omega
 ·refine⟨hp r.opn r.ifs (r.count+1) _ o1 i0 (by omega) (by omega),h.opn,by simp[put];omega⟩
theorem goodA_take {k:Nat} {r:Rd} (l:List UInt8) (h:GoodA k r) (hl:r.line=k):GoodA (k+1) (takeA { r with line:=r.line+1 } l).1:=by
 have hm:=goodA_line (r.line+1) h (by omega) (by omega)
 unfold takeA
 split
 ·exact goodA_begin _ _ hm
 split
 ·exact goodA_begin _ _ hm
 split
 ·exact goodA_put _ _ h (by omega) (by omega)
 split
 ·exact hm
 ·exact goodA_put _ _ h (by omega) (by omega)
theorem goodA_zero:GoodA 0 Rd.zeroA:=⟨⟨by simp[Rd.zeroA],by simp[Rd.zeroA],by simp[Rd.zeroA],by simp[Rd.zeroA],by simp[Rd.zeroA],by simp[Rd.zeroA],by simp[Rd.zeroA],by simp[Rd.zeroA]⟩,by simp[Opn,Rd.zeroA],by simp[Rd.zeroA]⟩
end P
structure LoopA (rows:List ByteArray) (k:Nat) (r:P.Rd):Prop where
 run:P.runA P.Rd.zeroA ((rows.take k).map ByteArray.toList)=(r,true)
 good:P.GoodA k r
 lin:r.line=k
theorem zHm (rows:List ByteArray):LoopA rows 0 P.Rd.zeroA:=⟨by simp[P.runA],P.goodA_zero,rfl⟩
theorem zIz {rows:List ByteArray} {k:Nat} {r:P.Rd} (h:LoopA rows k r) (hk:k<rows.length) (ht:(P.takeA { r with line:=r.line+1 } rows[k].toList).2=true) :
  LoopA rows (k+1) (P.takeA { r with line:=r.line+1 } rows[k].toList).1:=by
 have hkp:=P.zQm { r with line:=r.line+1 } rows[k].toList
 refine⟨?_,P.goodA_take _ h.good h.lin,?_⟩
 ·rw[zCa rows k hk,P.zQz _ _ _ _ h.run,← ht]
 ·rw[hkp.1];have:=h.lin;simp;omega
theorem zIA {s:ByteArray} {rows:List ByteArray} {last:ByteArray} {k:Nat} {r:P.Rd} (hc:rows.map ByteArray.toList++[last.toList]=P.zOd 10 s.toList) (h:LoopA rows k r) (hk:k<rows.length) (ht:(P.takeA { r with line:=r.line+1 } rows[k].toList).2=false) :
  P.zNZ s.toList=([],(k:Int)+1):=by
 have hkp:=P.zQm { r with line:=r.line+1 } rows[k].toList
 have hrun:P.runA P.Rd.zeroA ((rows.take (k+1)).map ByteArray.toList)=P.takeA { r with line:=r.line+1 } rows[k].toList:=by
  rw[zCa rows k hk,P.zQz _ _ _ _ h.run]
 have hd:(P.zOd 10 s.toList).dropLast=(rows.take (k+1)).map ByteArray.toList++(rows.drop (k+1)).map ByteArray.toList:=by
  rw[← hc,List.dropLast_concat,← List.map_append,List.take_append_drop]
 have:=P.runA_more _ P.Rd.zeroA ((rows.drop (k+1)).map ByteArray.toList) (by rw[hrun];exact ht)
 unfold P.zNZ
 simp only[hd,this,hrun,ht]
 simp only[Bool.false_eq_true,if_false]
 rw[hkp.1,h.lin]
theorem zJy {s:ByteArray} {rows:List ByteArray} {last:ByteArray} {r:P.Rd} (hc:rows.map ByteArray.toList++[last.toList]=P.zOd 10 s.toList) (h:LoopA rows rows.length r) :
  P.zNZ s.toList=if last.toList.isEmpty=false∨r.threads.length=0∨0<r.opn.length then ([],(rows.length:Int)+1) else (r.threads,0):=by
 have hrun:=h.run
 rw[List.take_length] at hrun
 have e1:last.toList=[] ↔ last.toList.isEmpty=true:=by rw[List.isEmpty_iff]
 unfold P.zNZ
 simp only[← hc,List.dropLast_concat,hrun,List.getLast?_concat,if_true,h.lin]
 congr 1
 simp only[ne_eq,Option.some.injEq,e1,eq_iff_iff]
 simp[List.length_pos_iff,or_comm]
end Go.Proofs.YtgceflcbckjjiaaGreatDoor
namespace Go.Proofs.YtgceflcbckjjiaaGreatDoor
open Go Go.RowKit
set_option maxRecDepth 100000
theorem zKY (B:Nat) (w:World):zCk (w.alloc (.cells #[.slice none 0 0,.int .i64 40,.int .i64 0,.int .i64 0,.slice none 0 0] 106)) B w.heap.size P.Rd.zeroA:=by
 refine⟨.slice none 0 0,.slice none 0 0,[],?_,World.ownsRow_nil _ _ _ _,World.ownsRow_nil _ _ _ _,trivial⟩
 have:=heap_alloc_new w (.cells #[.slice none 0 0,.int .i64 40,.int .i64 0,.int .i64 0,.slice none 0 0] 106)
 simpa [P.Rd.zeroA] using this
theorem zCJ (s:ByteArray) (w:World) (hs:s.size≤8192) (hfew:(P.zOd 10 s.toList).length≤99) :
  Calls Tryz.prog 46 #[.string s] w fun e w'=>∃ tv,e=.returned (.tuple #[.agg #[tv],.int .i64 (P.zNZ s.toList).2])∧zAn w' w.heap.size tv (P.zNZ s.toList).1∧Below w.heap.size w w':=by
 go_enter Tryz.func46,Tryz.ntmps46
 go_wp2_with fail
 refine (zGe 40 _).mono ?_
 rintro e w0 ⟨rfl,hb0⟩
 have hB0:w.heap.size+1≤w0.heap.size:=by have:=hb0.size;simpa using this
 have hblk:w0.heap[w.heap.size]?=some (.cells #[.slice none 0 0] 48 (0,0)):=by
  rw[hb0.block _ (by simp)]
  exact heap_alloc_new w _
 obtain⟨z0,z1,z2⟩:=zAz hblk
 have HB0:=zAa hblk
 have HBel0:Hid (Below w.heap.size w w0):=((Below.refl _ _).alloc (Nat.le_refl _) _).trans (hb0.mono (by simp))
 clear hblk hb0
 go_wp2_with fail
 refine (zDn s _ hs).mono ?_
 rintro e w1 ⟨gl,cl,rows,last,rfl,HW,hrw,hrl,hrc,hgl,hgl0,hrz,hb1⟩
 have hd1:=zAa ((zKY w1.heap.size w0).below hb1)
 have hblk1:w1.heap[w.heap.size]?=some (.cells #[.slice none 0 0] 48 (0,0)):=by
  rw[hb1.block _ (by simp;omega),Below.heap_alloc _ _ _ (by omega)]
  exact HB0.out
 have HB1:=zAa hblk1
 have HBel1:Hid (Below w.heap.size w w1):=(HBel0.out.alloc (by omega) _).trans (hb1.mono (by simp;omega))
 have hB1:w0.heap.size+1≤w1.heap.size:=by have:=hb1.size;simpa using this
 have HRW:=zAa hrw
 have HRZ:=zAa hrz
 have hr99:rows.length<99:=by
  have:=hfew
  rw[← HW.out] at this
  simp at this;omega
 clear hblk1 hb1 z0 z1 z2 hrw hrz hfew
 go_wp2
 go_loopw [18] (fun i wr=>∃ k:Nat,∃ r:P.Rd,k≤rows.length∧i=.int .i64 k∧Hid (LoopA rows k r)∧Hid (zCk wr w1.heap.size w0.heap.size r)∧Hid (zAB wr gl 0 rows) ∧
   Hid (wr.heap[w.heap.size]?=some (.cells #[.slice none 0 0] 48 (0,0)))∧w1.heap.size≤wr.heap.size∧Below w.heap.size w wr) (fun i _=>rows.length-(intOf i).toNat)
 case atStart=>exact⟨0,P.Rd.zeroA,Nat.zero_le _,rfl,zHm _,hd1,HRW,HB1,Nat.le_refl _,HBel1.out⟩
 case round =>
  obtain⟨k,r,hk,rfl,HL,HR,HWW,HB,hwl,hbel⟩:=hrel
  have hgd:=HL.out.good.good
  have hop:=HL.out.good.opn
  have hlin:=HL.out.lin
  have hcn:=HL.out.good.cn
  have hop0:=(P.zQA hop hgd.ifs0).1
  have hop1:=(P.zQA hop hgd.ifs0).2
  have hif:=hgd.ifs1
  have HOP:=zAa hop
  clear hop
  by_cases hlt:k<rows.length
  ·have hrk:rows[k]?=some rows[k]:=List.getElem?_eq_getElem hlt
   have hck:=HWW.out k rows[k] hrk
   simp only[Nat.zero_add] at hck
   have hzk:=HRZ.out rows[k] (List.getElem_mem hlt)
   have hgr:gl<wr.heap.size:=by omega
   have hkl:(k:Int)<(rows.length:Int):=by omega
   have HSt:=zAa (fun h=>zIz HL.out hlt h)
   have HFl:=zAa (fun h=>zIA HW.out HL.out hlt h)
   generalize rows[k]=row at *
   have HLin:=zAa hlin
   clear hrk hlin
   cases ht:(P.takeA { r with line:=r.line+1 } row.toList).2
   all_goals
    have hr2:=zAa (HR.out.lined ((k:Int)+1))
    go_wp2_with fail
    refine (zJx w1.heap.size w0.heap.size k { r with line:=(k:Int)+1 } row _ hr2.out hzk ⟨hgd.few,hgd.stm⟩ (by omega) hwl (by have:=hgd.opn;simp;omega) hgd.ifs0 (by simp;omega) hgd.cnt (by simp;omega) hop0 (by have h9:P.openL { r with line:=(k:Int)+1 }=P.openL r:=rfl;omega)).mono ?_
    rintro e w3 ⟨he,hr3,hb3⟩
    have eL:({ r with line:=(k:Int)+1 }:P.Rd)={ r with line:=r.line+1 }:=by rw[HLin.out]
    rw[eL] at he hr3
    rw[ht] at he
    subst he
    have hblk3:w3.heap[w.heap.size]?=some (.cells #[.slice none 0 0] 48 (0,0)):=(hb3.block _ (by omega) (by omega)).trans HB.out
    obtain⟨z0,z1,z2⟩:=zAz hblk3
    have HB3:=zAa hblk3
    have HBel3:Hid (Below w.heap.size w w3):=hbel.trans (hb3.below (by omega) (by omega))
    have HW3:Hid (zAB w3 gl 0 rows):=HWW.out.kept (fun _=>hb3.block gl hgl (by simp at hgl0;omega))
    have hs3:=hb3.size
    have HR3:=zAa hr3
    clear hblk3 hb3 hr3 eL
    go_wp2
   ·rw[HFl.out ht]
    refine zCn (p:=2) (u:=3) w.heap.size (.slice none 0 0) _ (by kernel_rfl) rfl rfl (by exact zAe HB3.out 0 _) rfl ⟨_,rfl,zAn.nil _ _,?_⟩
    exact (HBel3.out).setCell (Nat.le_refl _) _
   ·go_roundw
    case rel=>exact⟨k+1,_,by omega,by go_num,HSt.out ht,HR3,HW3,HB3,by omega,HBel3.out⟩
    case measure=>simp[intOf];omega
  ·have hkn:k=rows.length:=by omega
   subst hkn
   have HE:=zAa (zJy HW.out HL.out)
   have ht5:r.threads.length<6:=by have:=hgd.few;omega
   have ho9:r.opn.length<10:=by have:=hgd.opn;omega
   obtain⟨z0,z1,z2⟩:=zAz HB.out
   have hll:¬ ((rows.length:Int)<(rows.length:Int)):=by omega
   clear hlin hgd
   cases he:last.toList.isEmpty
   ·go_wp2
    rw[zAD HE,if_pos (Or.inl he)]
    refine zCn (p:=2) (u:=3) w.heap.size (.slice none 0 0) _ (by kernel_rfl) rfl rfl (by exact zAe HB.out 0 _) rfl ⟨_,rfl,zAn.nil _ _,?_⟩
    exact hbel.setCell (Nat.le_refl _) _
   cases hw:(decide (0<r.threads.length)&&decide (r.opn.length=0))
   ·have hor:last.toList.isEmpty=false∨r.threads.length=0∨0<r.opn.length:=by
     have hw':=hw
     rw[Bool.and_eq_false_iff,decide_eq_false_iff_not,decide_eq_false_iff_not] at hw'
     omega
    have HOR:=zAa hor
    clear hor
    go_wp2_with (first | (go_at_call 54;refine (zDo _ _ r _ HR.out ht5 ho9).mono ?_;rintro e w' ⟨rfl,rfl⟩;rw[hw]))
    rw[zAD HE,if_pos HOR.out]
    refine zCn (p:=2) (u:=3) w.heap.size (.slice none 0 0) _ (by kernel_rfl) rfl rfl (by exact zAe HB.out 0 _) rfl ⟨_,rfl,zAn.nil _ _,?_⟩
    exact hbel.setCell (Nat.le_refl _) _
   ·have hno:¬ (last.toList.isEmpty=false∨r.threads.length=0∨0<r.opn.length):=by
     have hw':=hw
     rw[Bool.and_eq_true,decide_eq_true_eq,decide_eq_true_eq] at hw'
     rintro (h | h | h)
     ·rw[he] at h;cases h
     ·omega
     ·omega
    have HNO:=zAa hno
    clear hno
    obtain⟨tv,ov,vs,hri⟩:=HR.out
    obtain⟨ta,tc,oa,oc,rfl,rfl⟩:=hri.forms
    have HRI:=zAa hri
    clear hri
    go_wp2_with (first | (go_at_call 54;refine (zDo _ _ r _ HR.out ht5 ho9).mono ?_;rintro e w' ⟨rfl,rfl⟩;rw[hw]) | (go_at_call 55;refine (zEo _ _ r _ _ vs _ HRI.out).mono ?_;rintro e w4 ⟨rfl,hb4⟩;have hblk4:=(hb4.block _ (by omega)).trans HB.out;obtain⟨y0,y1,y2⟩:=zAz hblk4;have HB4:=zAa hblk4;clear hblk4))
    rw[zAD HE,if_neg HNO.out]
    refine zCn (p:=2) (u:=3) w.heap.size _ _ (by kernel_rfl) rfl rfl (by exact zAe HB4.out 0 _) rfl ⟨_,rfl,zES HRI.out hb4 (by omega) _,(hbel.trans (hb4.mono (by omega))).setCell (Nat.le_refl _) _⟩
theorem zBX {w:World} {B:Nat} {sa:Option Addr} {sc n:Nat} {xs:List Value} {e:TypeId} {sz:Nat} (h:w.ownsRow B e sz (.slice sa n sc) n xs):0<n→∃ b,sa=some ⟨b,0,none⟩∧b<w.heap.size:=fun h0=>by
 rcases h.2 with ⟨e,h0'⟩ | ⟨b',c',cur,e,hb',hg',_⟩
 ·omega
 ·simp only[Value.slice.injEq] at e
  exact⟨b',e.1,(Array.getElem?_eq_some_iff.1 hg').1⟩
theorem zEc (B bt n cap:Nat) (bl v:Int) (ts:List P.Thr) (w:World) (h:zAn w B (.slice (some ⟨bt,0,none⟩) n cap) ts) (hn:n=ts.length) (hnb:n<10) (hst:∀ t∈ts,t.stmts.length<10000) :
  Calls Tryz.prog 163 #[.agg #[.slice (some ⟨bt,0,none⟩) n cap],.int .i64 bl,.int .i64 v] w fun e w'=>e=.returned (.bool (P.zOc ts bl v))∧Below w.heap.size w w':=by
 have HA:=zAa h
 have HN:=zAa hn
 have HS:=zAa hst
 clear h hn hst
 go_enter Tryz.func163,Tryz.ntmps163
 go_wp2
 go_loopw [14] (fun i wr=>∃ k:Nat,k≤n∧i=.int .i64 k∧Hid (P.zOc (ts.drop k) bl v=P.zOc ts bl v)∧Below w.heap.size w wr) (fun i _=>n-(intOf i).toNat)
 case atStart=>exact⟨0,Nat.zero_le _,rfl,by unfold Hid;simp,(Below.refl _ _).alloc (Nat.le_refl _) _⟩
 case round =>
  obtain⟨k,hk,rfl,HR,hbel⟩:=hrel
  by_cases hlt:k<n
  ·have hkl:k<ts.length:=by rw[← HN.out];exact hlt
   obtain⟨hbt,sa,sc,c0,c1,c2,ho⟩:=zCp HA.out HN.out k hkl
   have d0:=cfL hbel hbt c0
   have d1:=cfL hbel hbt c1
   have d2:=cfL hbel hbt c2
   have hls:=HS.out ts[k] (List.getElem_mem hkl)
   have HD:=zAa (P.zOq ts k hkl)
   have HO:=zAa ho
   have hws:w.heap.size≤wr.heap.size:=hbel.size
   generalize ts[k]=t at *
   clear c0 c1 c2 ho
   by_cases hb:t.block=bl
   ·have nb:(t.block != bl)=false:=by simp[hb]
    go_wp2
    go_loopw [25] (fun j w2=>∃ q:Nat,q≤t.stmts.length∧j=.int .i64 q∧Hid ((t.stmts.drop q).any (P.zPW v)=t.stmts.any (P.zPW v))∧Below w.heap.size w w2) (fun j _=>t.stmts.length-(intOf j).toNat)
    case atStart=>exact⟨0,Nat.zero_le _,rfl,by unfold Hid;simp,hbel.alloc hws _⟩
    case round =>
     obtain⟨q,hq,rfl,HQ,hbel2⟩:=hrel
     by_cases hql:q<t.stmts.length
     ·obtain⟨b,rfl,hblt⟩:=zBX HO.out (by omega)
      have hr:=zAa (zAy (zBd HO.out rfl q hql) (hbel2.block b hblt))
      have HDQ:=zAa (P.zOq t.stmts q hql)
      generalize t.stmts[q]=st at *
      have hws2:=hbel2.size
      cases hrs:P.zPW v st
      ·go_wp2_with (first | (refine zAj (.tmp 27) rfl rfl b (q*11) st rfl hr.out ?_) | (go_at_call 131;refine (zCe st v _).mono ?_;rintro e w3 ⟨rfl,hb3⟩;rw[hrs]))
       go_roundw
       case rel =>
        refine⟨q+1,by omega,by go_num,?_,(hbel2.alloc hws2 _).trans (hb3.mono (by simp;omega))⟩
        have:=HQ.out
        unfold Hid;rw[← this,HDQ.out];simp[hrs]
       case measure=>simp[intOf];omega
      ·have HE:Hid (P.zOc ts bl v=true):=by
        unfold Hid
        rw[← HR.out,HD.out]
        have:=HQ.out
        rw[HDQ.out] at this
        simp[P.zOc,hb,← this,hrs]
       go_wp2_with (first | (refine zAj (.tmp 27) rfl rfl b (q*11) st rfl hr.out ?_) | (go_at_call 131;refine (zCe st v _).mono ?_;rintro e w3 ⟨rfl,hb3⟩;rw[hrs]))
       go_ret
       exact⟨by rw[HE.out];rfl,(hbel2.alloc hws2 _).trans (hb3.mono (by simp;omega))⟩
     ·have hqq:q=t.stmts.length:=by omega
      have HE:Hid (P.zOc (ts.drop (k+1)) bl v=P.zOc ts bl v):=by
       have h1:t.stmts.any (P.zPW v)=false:=by rw[← HQ.out,hqq,List.drop_length];rfl
       unfold Hid
       rw[← HR.out,HD.out]
       simp only[P.zOc,List.any_cons,h1,Bool.and_false,Bool.false_or]
      go_wp2
      go_roundw
      case rel=>exact⟨k+1,by omega,by go_num,HE,hbel2⟩
      case measure=>simp[intOf];omega
   ·have nb:(t.block != bl)=true:=by simp[hb]
    have HE:Hid (P.zOc (ts.drop (k+1)) bl v=P.zOc ts bl v):=by
     unfold Hid
     rw[← HR.out,HD.out]
     simp[P.zOc,hb]
    go_wp2
    go_roundw
    case rel=>exact⟨k+1,by omega,by go_num,HE,hbel.alloc hws _⟩
    case measure=>simp[intOf];omega
  ·have HE:Hid (P.zOc ts bl v=false):=by
    unfold Hid
    rw[← HR.out,List.drop_eq_nil_of_le (by have:=HN.out;omega)];rfl
   go_wp2
   go_ret
   exact⟨by rw[HE.out];rfl,hbel⟩
end Go.Proofs.YtgceflcbckjjiaaGreatDoor
namespace Go.Proofs.YtgceflcbckjjiaaGreatDoor
open Go Go.RowKit
theorem zDk {B:Nat} {a w:World} (h:Below B a w) (n:Nat):Below B a (w.drewN n):=⟨h.os,h.tape,h.output,h.size,h.block⟩
end Go.Proofs.YtgceflcbckjjiaaGreatDoor
namespace Go.Proofs.YtgceflcbckjjiaaGreatDoor
open Go Go.RowKit
set_option maxRecDepth 100000
theorem zDD (B bt n cap:Nat) (v:Int) (ts:List P.Thr) (w:World) (h:zAn w B (.slice (some ⟨bt,0,none⟩) n cap) ts) (hn:n=ts.length) (hnb:n<10) (hst:∀ t∈ts,t.stmts.length<10000) :
  Calls Tryz.prog 129 #[.agg #[.slice (some ⟨bt,0,none⟩) n cap],.int .i64 v] w fun e w'=>e=.returned (.bool (P.bothReach ts v))∧Below w.heap.size w w':=by
 have HC:Hid (∀ (w2:World) (bl:Int),Below w.heap.size w w2→Calls Tryz.prog 163 #[.agg #[.slice (some ⟨bt,0,none⟩) n cap],.int .i64 bl,.int .i64 v] w2 fun e w'=>e=.returned (.bool (P.zOc ts bl v))∧Below w2.heap.size w2 w'):=fun w2 bl hb=>zEc B bt n cap bl v ts w2 (h.keep (fun k hk=>hb.block k hk)) hn hnb hst
 clear h hn hst
 go_enter Tryz.func129,Tryz.ntmps129
 go_wp2
 go_loopw [5] (fun i wr=>∃ k:Nat,k≤2∧i=.int .i64 k∧Hid ((0<k→P.zOc ts 0 v=true)∧(1<k→P.zOc ts 1 v=true))∧Below w.heap.size w wr∧wr.heap[w.heap.size]?=some (.cells #[.slice (some ⟨bt,0,none⟩) n cap] 48 (0,0))) (fun i _=>2-(intOf i).toNat)
 case atStart=>exact⟨0,by omega,rfl,⟨fun h=>by omega,fun h=>by omega⟩,(Below.refl _ _).alloc (Nat.le_refl _) _,heap_alloc_new w _⟩
 case round =>
  obtain⟨k,hk,rfl,HR,hbel,hbox⟩:=hrel
  have e0:=ceL hbox 0 _ rfl
  have hwlt:w.heap.size<wr.heap.size:=(Array.getElem?_eq_some_iff.1 hbox).1
  have hk3:k=0∨k=1∨k=2:=by omega
  have hws:=hbel.size
  rcases hk3 with rfl | rfl | rfl
  ·cases h0:P.zOc ts 0 v
   ·have HE:Hid (P.bothReach ts v=false):=by unfold Hid;simp[P.bothReach,h0]
    go_wp2_with (first | (go_at_call 163;refine (HC.out _ 0 hbel).mono ?_;rintro e w3 ⟨rfl,hb3⟩;rw[h0]))
    go_ret
    exact⟨by rw[HE.out];rfl,hbel.trans (hb3.mono hws)⟩
   ·go_wp2_with (first | (go_at_call 163;refine (HC.out _ 0 hbel).mono ?_;rintro e w3 ⟨rfl,hb3⟩;rw[h0]))
    go_roundw
    case rel=>exact⟨1,by omega,by go_num,⟨fun _=>by first | trivial | exact h0,fun h=>by omega⟩,hbel.trans (hb3.mono hws),by rw[hb3.block _ hwlt];exact hbox⟩
    case measure=>simp[intOf]
  ·cases h1:P.zOc ts 1 v
   ·have HE:Hid (P.bothReach ts v=false):=by unfold Hid;simp[P.bothReach,h1]
    go_wp2_with (first | (go_at_call 163;refine (HC.out _ 1 hbel).mono ?_;rintro e w3 ⟨rfl,hb3⟩;rw[h1]))
    go_ret
    exact⟨by rw[HE.out];rfl,hbel.trans (hb3.mono hws)⟩
   ·have HE:Hid (P.zOc ts 0 v=true):=HR.out.1 (by omega)
    go_wp2_with (first | (go_at_call 163;refine (HC.out _ 1 hbel).mono ?_;rintro e w3 ⟨rfl,hb3⟩;rw[h1]))
    go_roundw
    case rel=>exact⟨2,by omega,by go_num,⟨fun _=>by first | trivial | exact HE.out,fun _=>by first | trivial | exact h1⟩,hbel.trans (hb3.mono hws),by rw[hb3.block _ hwlt];exact hbox⟩
    case measure=>simp[intOf]
  ·have HE:Hid (P.bothReach ts v=true):=by unfold Hid;simp[P.bothReach,HR.out.1 (by omega),HR.out.2 (by omega)]
   go_wp2
   go_ret
   exact⟨by rw[HE.out];rfl,hbel⟩
theorem zJz (B bt n cap:Nat) (ts:List P.Thr) (w:World) (h:zAn w B (.slice (some ⟨bt,0,none⟩) n cap) ts) (hn:n=ts.length) (hnb:n<10) (h0:0<n) :
  Calls Tryz.prog 128 #[.agg #[.slice (some ⟨bt,0,none⟩) n cap]] w fun e w'=>e=.returned (.bool (P.ofOne ts))∧Below w.heap.size w w':=by
 obtain⟨u,us,rfl⟩:∃ u us,ts=u::us:=by
  cases ts with
  | nil=>simp at hn;omega
  | cons u us=>exact⟨u,us,rfl⟩
 obtain⟨hbt0,sa0,sc0,z0,z1,z2,ho0⟩:=zCp h hn 0 (by simp)
 have Z0:Hid (w.cell? ⟨bt,0,none⟩=some (.int .i64 u.block)):=by unfold Hid;simpa using z0
 clear z0 z1 z2 ho0
 have HA:=zAa h
 have HN:=zAa hn
 have HU:Hid (P.ofOne (u::us)=(u::us).all (fun t=>t.block==u.block)):=rfl
 clear h hn
 generalize hts:u::us=ts at *
 go_enter Tryz.func128,Tryz.ntmps128
 go_wp2
 go_loopw [8] (fun i wr=>∃ k:Nat,k≤n∧i=.int .i64 k∧Hid ((ts.drop k).all (fun t=>t.block==u.block)=ts.all (fun t=>t.block==u.block))∧Below w.heap.size w wr∧wr.heap[w.heap.size]?=some (.cells #[.slice (some ⟨bt,0,none⟩) n cap] 48 (0,0))) (fun i _=>n-(intOf i).toNat)
 case atStart=>exact⟨0,Nat.zero_le _,rfl,by unfold Hid;simp,(Below.refl _ _).alloc (Nat.le_refl _) _,heap_alloc_new w _⟩
 case round =>
  obtain⟨k,hk,rfl,HR,hbel,hbox⟩:=hrel
  have e0:=ceL hbox 0 _ rfl
  have hwlt:w.heap.size<wr.heap.size:=(Array.getElem?_eq_some_iff.1 hbox).1
  by_cases hlt:k<n
  ·have hkl:k<ts.length:=by rw[← HN.out];exact hlt
   obtain⟨hbt,sa,sc,c0,c1,c2,ho⟩:=zCp HA.out HN.out k hkl
   have d0:=cfL hbel hbt c0
   have d1:=cfL hbel hbt c1
   have d2:=cfL hbel hbt c2
   have f0:=(hbel.cell (p:=⟨bt,0,none⟩) hbt).trans Z0.out
   have hbtr:bt<wr.heap.size:=by have:=hbel.size;omega
   have HD:=zAa (P.zOq ts k hkl)
   generalize hgt:ts[k]=t at *
   clear c0 c1 c2 ho hgt
   by_cases hb:t.block=u.block
   ·have nb:(t.block != u.block)=false:=by simp[hb]
    go_wp2_with fail
    go_quiet (fail)
    go_wp2_with fail
    go_roundw
    case rel =>
     refine⟨k+1,by omega,by go_num,?_,zDk (hbel.alloc (by omega) _) _,?_⟩
     ·unfold Hid;rw[← HR.out,HD.out];simp[hb]
     ·exact (Below.heap_alloc _ _ _ hwlt).trans hbox
    case measure=>simp[intOf];omega
   ·have nb:(t.block != u.block)=true:=by simp[hb]
    have HE:Hid (P.ofOne ts=false):=by
     unfold Hid
     rw[HU.out,← HR.out,HD.out];simp[hb]
    go_wp2_with fail
    go_quiet (fail)
    go_wp2_with fail
    go_ret
    exact⟨by rw[HE.out];rfl,zDk (hbel.alloc (by omega) _) _⟩
  ·have HE:Hid (P.ofOne ts=true):=by
    unfold Hid
    rw[HU.out,← HR.out,List.drop_eq_nil_of_le (by have:=HN.out;omega)];rfl
   go_wp2
   go_ret
   exact⟨by rw[HE.out];rfl,hbel⟩
theorem zKq (w:World) (v:Value) (T:TypeId):(w.alloc (.cells #[v] T (0,0))).cell? ⟨w.heap.size,0,none⟩=some v:=by
 have h:=heap_alloc_new w (.cells #[v] T (0,0))
 simp only[World.cell?]
 rw[h];rfl
theorem zJA (B bt n cap:Nat) (ts:List P.Thr) (st:P.Stm) (w:World) (h:zAn w B (.slice (some ⟨bt,0,none⟩) n cap) ts) (hn:n=ts.length) (hnb:n<10) (h0:0<n) (hst:∀ t∈ts,t.stmts.length<10000) :
  Calls Tryz.prog 76 #[.agg #[.slice (some ⟨bt,0,none⟩) n cap],.agg (zAb st)] w fun e w'=>e=.returned (.bool (P.stays ts st))∧Below w.heap.size w w':=by
 have HB:Hid (∀ (w2:World) (v:Int),Below w.heap.size w w2→Calls Tryz.prog 129 #[.agg #[.slice (some ⟨bt,0,none⟩) n cap],.int .i64 v] w2 fun e w'=>e=.returned (.bool (P.bothReach ts v))∧Below w2.heap.size w2 w'):=fun w2 v hb=>zDD B bt n cap v ts w2 (h.keep (fun k hk=>hb.block k hk)) hn hnb hst
 have HO:Hid (∀ (w2:World),Below w.heap.size w w2→Calls Tryz.prog 128 #[.agg #[.slice (some ⟨bt,0,none⟩) n cap]] w2 fun e w'=>e=.returned (.bool (P.ofOne ts))∧Below w2.heap.size w2 w'):=fun w2 hb=>zJz B bt n cap ts w2 (h.keep (fun k hk=>hb.block k hk)) hn hnb h0
 clear h hn hst
 have b2:∀ o1 o2:Obj,Below w.heap.size w ((w.alloc o1).alloc o2):=fun o1 o2=>((Below.refl _ _).alloc (Nat.le_refl _) _).alloc (by simp) _
 simp only[zAb]
 cases h4:(st.kind==4)
 ·cases ha:P.isAcc st.kind
  ·have HE:Hid (P.stays ts st=false):=by unfold Hid;simp[P.stays,h4,ha]
   go_enter Tryz.func76,Tryz.ntmps76
   go_wp2_with (first | (go_at_call 79;refine (zBQ _ _).mono ?_;rintro e w' ⟨rfl,rfl⟩;rw[ha]))
   go_ret
   exact⟨by rw[HE.out];rfl,b2 _ _⟩
  ·cases hr:P.bothReach ts st.var
   all_goals
    have HE:Hid (P.stays ts st=!P.bothReach ts st.var):=by unfold Hid;simp[P.stays,h4,ha]
    go_enter Tryz.func76,Tryz.ntmps76
    go_wp2_with (first | (go_at_call 79;refine (zBQ _ _).mono ?_;rintro e w' ⟨rfl,rfl⟩;rw[ha]) | (go_at_call 129;refine (HB.out _ _ (b2 _ _)).mono ?_;rintro e w3 ⟨rfl,hb3⟩;rw[hr]))
    go_ret
    exact⟨by rw[HE.out,hr];rfl,(b2 _ _).trans (hb3.mono (by simp;omega))⟩
 ·have HE:Hid (P.stays ts st=P.ofOne ts):=by unfold Hid;simp[P.stays,h4]
  go_enter Tryz.func76,Tryz.ntmps76
  go_wp2_with (first | (go_at_call 128;refine (HO.out _ (b2 _ _)).mono ?_;rintro e w3 ⟨rfl,hb3⟩))
  go_ret
  exact⟨by rw[HE.out];rfl,(b2 _ _).trans (hb3.mono (by simp;omega))⟩
namespace P
def bad (v:Int) (s:Bool) (st:Stm):Bool:=zPW v st&&needs st s
def pureG (v:Int) (s:Bool) (ts:List Thr):Bool:=ts.all fun t=>t.stmts.all fun st=>!bad v s st
theorem isPure_eq (ts:List Thr) (v:Int):zPy ts v=pureG v (bothReach ts v) ts:=rfl
end P
theorem zIB (B bt n cap:Nat) (v:Int) (ts:List P.Thr) (w:World) (h:zAn w B (.slice (some ⟨bt,0,none⟩) n cap) ts) (hn:n=ts.length) (hnb:n<10) (hst:∀ t∈ts,t.stmts.length<10000) :
  Calls Tryz.prog 80 #[.agg #[.slice (some ⟨bt,0,none⟩) n cap],.int .i64 v] w fun e w'=>e=.returned (.bool (P.zPy ts v))∧Below w.heap.size w w':=by
 have HB:Hid (∀ (w2:World),Below w.heap.size w w2→Calls Tryz.prog 129 #[.agg #[.slice (some ⟨bt,0,none⟩) n cap],.int .i64 v] w2 fun e w'=>e=.returned (.bool (P.bothReach ts v))∧Below w2.heap.size w2 w'):=fun w2 hb=>zDD B bt n cap v ts w2 (h.keep (fun k hk=>hb.block k hk)) hn hnb hst
 have HA:=zAa h
 have HN:=zAa hn
 have HS:=zAa hst
 clear h hn hst
 rw[P.isPure_eq]
 generalize P.bothReach ts v=s at *
 go_enter Tryz.func80,Tryz.ntmps80
 go_wp2_with (first | (go_at_call 129;refine (HB.out _ ((Below.refl _ _).alloc (Nat.le_refl _) _)).mono ?_;rintro e w0 ⟨rfl,hb0⟩;have hbz:Below w.heap.size w w0:=((Below.refl w.heap.size w).alloc (Nat.le_refl _) _).trans (hb0.mono (by simp));have e0:w0.cell? ⟨w.heap.size,0,none⟩=some (.slice (some ⟨bt,0,none⟩) n cap):=(hb0.cell (p:=⟨w.heap.size,0,none⟩) (by simp)).trans (zKq w _ _)))
 have HB0:=zAa hbz
 go_loopw [16] (fun i wr=>∃ k:Nat,k≤n∧i=.int .i64 k∧Hid (P.pureG v s (ts.drop k)=P.pureG v s ts)∧Below w.heap.size w wr) (fun i _=>n-(intOf i).toNat)
 case atStart=>exact⟨0,Nat.zero_le _,rfl,by unfold Hid;simp,HB0.out⟩
 case round =>
  obtain⟨k,hk,rfl,HR,hbel⟩:=hrel
  by_cases hlt:k<n
  ·have hkl:k<ts.length:=by rw[← HN.out];exact hlt
   obtain⟨hbt,sa,sc,c0,c1,c2,ho⟩:=zCp HA.out HN.out k hkl
   have d0:=cfL hbel hbt c0
   have d1:=cfL hbel hbt c1
   have d2:=cfL hbel hbt c2
   have hls:=HS.out ts[k] (List.getElem_mem hkl)
   have HD:=zAa (P.zOq ts k hkl)
   have HO:=zAa ho
   have hws:w.heap.size≤wr.heap.size:=hbel.size
   generalize ts[k]=t at *
   clear c0 c1 c2 ho
   go_wp2
   go_loopw [23] (fun j w2=>∃ q:Nat,q≤t.stmts.length∧j=.int .i64 q∧Hid ((t.stmts.drop q).all (fun st=>!P.bad v s st)=t.stmts.all (fun st=>!P.bad v s st))∧Below w.heap.size w w2) (fun j _=>t.stmts.length-(intOf j).toNat)
   case atStart=>exact⟨0,Nat.zero_le _,rfl,by unfold Hid;simp,hbel.alloc hws _⟩
   case round =>
    obtain⟨q,hq,rfl,HQ,hbel2⟩:=hrel
    by_cases hql:q<t.stmts.length
    ·obtain⟨b,rfl,hblt⟩:=zBX HO.out (by omega)
     have hr:=zAa (zAy (zBd HO.out rfl q hql) (hbel2.block b hblt))
     have HDQ:=zAa (P.zOq t.stmts q hql)
     generalize t.stmts[q]=st at *
     have hws2:=hbel2.size
     cases hrs:P.zPW v st
     ·go_wp2_with (first | (refine zAj (.tmp 25) rfl rfl b (q*11) st rfl hr.out ?_) | (go_at_call 131;refine (zCe st v _).mono ?_;rintro e w3 ⟨rfl,hb3⟩;rw[hrs]))
      go_roundw
      case rel =>
       refine⟨q+1,by omega,by go_num,?_,(hbel2.alloc hws2 _).trans (hb3.mono (by simp;omega))⟩
       unfold Hid;rw[← HQ.out,HDQ.out];simp[P.bad,hrs]
      case measure=>simp[intOf];omega
     ·cases hnd:P.needs st s
      ·go_wp2_with (first | (refine zAj (.tmp 25) rfl rfl b (q*11) st rfl hr.out ?_) | (go_at_call 131;refine (zCe st v _).mono ?_;rintro e w3 ⟨rfl,hb3⟩;rw[hrs];have GS:=(zAv.new wr st).below hb3;obtain⟨f1,f2,s0,s1,s2,s3,s4,s5,s6,s7,s8,s9,s10⟩:=GS.facts) | (go_at_call 132;refine (zGk st s _).mono ?_;rintro e w4 ⟨rfl,hb4⟩;rw[hnd]))
       go_roundw
       case rel =>
        refine⟨q+1,by omega,by go_num,?_,((hbel2.alloc hws2 _).trans (hb3.mono (by simp;omega))).trans (hb4.mono (by have:=hb3.size;simp at this;omega))⟩
        unfold Hid;rw[← HQ.out,HDQ.out];simp[P.bad,hrs,hnd]
       case measure=>simp[intOf];omega
      ·have HE:Hid (P.pureG v s ts=false):=by
        unfold Hid
        rw[← HR.out,HD.out]
        have:=HQ.out
        rw[HDQ.out] at this
        simp only[P.pureG,List.all_cons,← this]
        simp[P.bad,hrs,hnd]
       go_wp2_with (first | (refine zAj (.tmp 25) rfl rfl b (q*11) st rfl hr.out ?_) | (go_at_call 131;refine (zCe st v _).mono ?_;rintro e w3 ⟨rfl,hb3⟩;rw[hrs];have GS:=(zAv.new wr st).below hb3;obtain⟨f1,f2,s0,s1,s2,s3,s4,s5,s6,s7,s8,s9,s10⟩:=GS.facts) | (go_at_call 132;refine (zGk st s _).mono ?_;rintro e w4 ⟨rfl,hb4⟩;rw[hnd]))
       go_ret
       exact⟨by rw[HE.out];rfl,((hbel2.alloc hws2 _).trans (hb3.mono (by simp;omega))).trans (hb4.mono (by have:=hb3.size;simp at this;omega))⟩
    ·have hqq:q=t.stmts.length:=by omega
     have HE:Hid (P.pureG v s (ts.drop (k+1))=P.pureG v s ts):=by
      have h1:t.stmts.all (fun st=>!P.bad v s st)=true:=by rw[← HQ.out,hqq,List.drop_length];rfl
      unfold Hid
      rw[← HR.out,HD.out]
      simp only[P.pureG,List.all_cons,h1,Bool.true_and]
     go_wp2
     go_roundw
     case rel=>exact⟨k+1,by omega,by go_num,HE,hbel2⟩
     case measure=>simp[intOf];omega
  ·have HE:Hid (P.pureG v s ts=true):=by
    unfold Hid
    rw[← HR.out,List.drop_eq_nil_of_le (by have:=HN.out;omega)];rfl
   go_wp2
   go_ret
   exact⟨by rw[HE.out];rfl,hbel⟩
end Go.Proofs.YtgceflcbckjjiaaGreatDoor
