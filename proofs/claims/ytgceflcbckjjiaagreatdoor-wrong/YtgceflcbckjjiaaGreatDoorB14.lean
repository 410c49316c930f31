import Derived.Test.YtgceflcbckjjiaaGreatDoorB13
set_option linter.unusedVariables false
set_option linter.unusedSimpArgs false
namespace Go.Proofs.YtgceflcbckjjiaaGreatDoor
open Go Go.RowKit
set_option maxRecDepth 100000
set_option maxHeartbeats 3200000 in
theorem takes_any (B g N b off n cap:Nat) (r:P.Rd) (c:ByteArray) (rs:List ByteArray) (w:World) (h:RdAt w B g r) (hw:WordsAt w b off (c::rs)) (hn:rs.length=n-1) (hn1:1≤n) (hnb:n<10000) (hc:n≤cap) (hblt:b<w.heap.size) (hm8:r.most=8)
  (hF:Few N r) (hN:N<10000) (hB:B≤w.heap.size) (ho9:r.opn.length<10) (hi0:0≤r.ifs) (hi1:r.ifs<10000) (hc0:0≤r.count) (hc1:r.count<10000) :
  Calls Tryz.prog 53 #[.pointer (some ⟨g,0,none⟩),.slice (some ⟨b,off,none⟩) n cap,.int .i64 r.line] w fun e w'=>e=.returned (.bool (P.takes r (c.toList::rs.map ByteArray.toList)).2)∧RdAt w' B g (P.takes r (c.toList::rs.map ByteArray.toList)).1∧BelowX B g w w':=by
 have hA:=hide h
 obtain⟨hd,_,_⟩:=hw.head
 have hnp:(0:Int)<(n:Int):=by omega
 have hnp':0<n:=by omega
 cases ht:c.toList==[116,104,114,101,97,100]
 rotate_left
 ·have HE:=hide (takes_thread r c.toList (rs.map ByteArray.toList) ht)
  go_enter Tryz.func53,Tryz.ntmps53
  go_wp2_with (first | (go_at_call 99;refine (begins_any B g _ _ _ _ r (c::rs) _ hA.out hw (by simp;omega) hnb hB (by have:=hF.1;omega) ho9).mono ?_;rintro e w1 ⟨rfl,hr1,hb1⟩))
  go_ret
  rw[unhide HE]
  exact⟨rfl,hr1,hb1⟩
 have HD:=hide (P.takes_D r c.toList (rs.map ByteArray.toList) ht hm8)
 clear h
 cases hs:(P.statement (c.toList::rs.map ByteArray.toList)).2
 ·have HE:Hid (P.takes r (c.toList::rs.map ByteArray.toList)=(r,false)):=by unfold Hid;rw[HD.out,hs];rfl
  clear HD
  go_enter Tryz.func53,Tryz.ntmps53
  go_wp2_with (first | (go_at_call 100;refine (statement_any _ _ _ _ c rs _ hw hn hn1 hc hblt).mono ?_;rintro e w1 ⟨he,hb⟩;simp only[stmVal,stmCells,List.map_cons] at he;subst he))
  go_ret
  rw[unhide HE]
  exact⟨rfl,(hA.out.below hb).alloc _,BelowX.of ((hb.mono hB).alloc (by have:=hb.size;omega) _)⟩
 ·have HE:Hid (P.takes r (c.toList::rs.map ByteArray.toList)=P.putD r { (P.statement (c.toList::rs.map ByteArray.toList)).1 with line:=r.line }):=by unfold Hid;rw[HD.out,hs];rfl
  clear HD
  go_enter Tryz.func53,Tryz.ntmps53
  go_wp2_with (first | (go_at_call 100;refine (statement_any _ _ _ _ c rs _ hw hn hn1 hc hblt).mono ?_;rintro e w1 ⟨he,hb⟩;simp only[stmVal,stmCells,List.map_cons] at he;subst he) | (go_at_call 101;refine (putD_any B g N r { (P.statement (c.toList::rs.map ByteArray.toList)).1 with line:=r.line } _ (by exact (hA.out.below hb).alloc (.cells (stmCells { (P.statement (c.toList::rs.map ByteArray.toList)).1 with line:=r.line }) 96)) hF hN (by have:=hb.size;simp;omega) ho9 hi0 hi1 hc0 hc1).mono ?_;rintro e w2 ⟨rfl,hr1,hb1⟩))
  go_ret
  rw[unhide HE]
  exact⟨rfl,hr1,(BelowX.of ((hb.mono hB).alloc (by have:=hb.size;omega) _)).trans hb1⟩
end Go.Proofs.YtgceflcbckjjiaaGreatDoor
namespace Go.Proofs.YtgceflcbckjjiaaGreatDoor
namespace P
def runLines (r:Rd):List (List UInt8)→Rd × Bool
 | []=>(r,true)
 | x::xs =>
  if (takes { r with line:=r.line+1 } (splitAt 32 x)).2 then runLines (takes { r with line:=r.line+1 } (splitAt 32 x)).1 xs
  else ((takes { r with line:=r.line+1 } (splitAt 32 x)).1,false)
theorem runLines_snoc (xs:List (List UInt8)):∀ (r r':Rd) (x:List UInt8),runLines r xs=(r',true)→runLines r (xs++[x])=takes { r' with line:=r'.line+1 } (splitAt 32 x):=by
 induction xs with
 | nil =>
  intro r r' x h
  simp[runLines] at h
  subst h
  simp only[List.nil_append,runLines]
  cases ht:(takes { r with line:=r.line+1 } (splitAt 32 x)).2
  ·simp[← ht]
  ·simp[← ht]
 | cons y ys ih =>
  intro r r' x h
  simp only[runLines] at h
  simp only[List.cons_append,runLines]
  cases ht:(takes { r with line:=r.line+1 } (splitAt 32 y)).2
  ·simp[ht] at h
  ·simp only[ht,if_true] at h ⊢
   exact ih _ _ _ h
theorem runLines_more (xs:List (List UInt8)):∀ (r:Rd) (ys:List (List UInt8)),(runLines r xs).2=false→runLines r (xs++ys)=runLines r xs:=by
 induction xs with
 | nil=>intro r ys h;simp[runLines] at h
 | cons y zs ih =>
  intro r ys h
  simp only[List.cons_append,runLines] at h ⊢
  cases ht:(takes { r with line:=r.line+1 } (splitAt 32 y)).2
  ·simp
  ·simp only[ht,if_true] at h ⊢
   exact ih _ _ h
def lines (l:List UInt8):List Thr × Int :=
 let q:=runLines Rd.zero (splitAt 10 l).dropLast
 if q.2 then
  if (splitAt 10 l).getLast?≠some []∨q.1.opn≠[]∨q.1.threads=[] then ([],q.1.line+1) else (q.1.threads,0)
 else ([],q.1.line)
theorem drop_cons {α:Type} (l:List α) (k:Nat) (h:k<l.length):l.drop k=l[k]::l.drop (k+1):=(List.drop_eq_getElem_cons h)
theorem splitAt_length (c:UInt8) (l:List UInt8):(splitAt c l).length≤l.length+1:=by
 induction l with
 | nil=>simp[splitAt]
 | cons x r ih =>
  unfold splitAt
  split
  ·simp;omega
  ·split
   ·rename_i h t e;rw[e] at ih;simp at ih ⊢;omega
   ·simp
structure Good (k:Nat) (r:Rd):Prop where
 few:r.threads.length≤4
 stm:∀ t∈r.threads,t.stmts.length≤k
 opn:r.opn.length≤2
 ifs0:0≤r.ifs
 ifs1:r.ifs≤k
 cnt:0≤r.count
 lin0:0≤r.line
 lin1:r.line≤k
theorem good_zero:Good 0 Rd.zero:=⟨by simp[Rd.zero],by simp[Rd.zero],by simp[Rd.zero],by simp[Rd.zero],by simp[Rd.zero],by simp[Rd.zero],by simp[Rd.zero],by simp[Rd.zero]⟩
theorem putLast_mem (ts:List Thr) (s:Stm) (k:Nat) (h:∀ t∈ts,t.stmts.length≤k):∀ t∈putLast ts s,t.stmts.length≤k+1:=by
 match ts,h with
 | [],h=>intro t ht;simp[putLast] at ht
 | [a],h =>
  intro t ht
  simp[putLast] at ht
  subst ht
  have:=h a (by simp)
  simp;omega
 | a::b::r,h =>
  intro t ht
  simp only[putLast,List.mem_cons] at ht
  rcases ht with rfl | ht
  ·have:=h t (by simp);omega
  ·exact putLast_mem (b::r) s k (fun t ht=>h t (by simp at ht ⊢;right;exact ht)) t ht
theorem good_takes {k:Nat} {r:Rd} (ws:List (List UInt8)) (h:Good k r) (hl:r.line+1≤k+1):Good (k+1) (takes { r with line:=r.line+1 } ws).1:=by
 have h0:Good (k+1) { r with line:=r.line+1 }:=⟨h.few,fun t ht=>by have:=h.stm t ht;omega,h.opn,h.ifs0,by have:=h.ifs1;simp;omega,h.cnt,by have:=h.lin0;simp;omega,by simpa using hl⟩
 have hp:∀ (o:List Int) (i c:Int) (s:Stm),o.length≤2→0≤i→i≤k+1→0≤c→Good (k+1) (put { r with line:=r.line+1,opn:=o,ifs:=i,count:=c } s):=fun o i c s h1 h2 h3 h4 =>
  ⟨by simp only[put,putLast_length];exact h.few,putLast_mem _ _ _ h.stm,h1,h2,by simpa [put] using h3,h4,h0.lin0,h0.lin1⟩
 unfold takes
 split
 ·unfold begins
  by_cases hf':4≤r.threads.length∨0<r.opn.length
  ·rw[if_pos (by exact hf')];exact h0
  ·rw[if_neg (by exact hf')]
   split
   ·split
    ·
     refine⟨by simp;omega,?_,h0.opn,h0.ifs0,h0.ifs1,by simp,h0.lin0,h0.lin1⟩
     intro t ht
     simp at ht
     rcases ht with ht | rfl
     ·exact h0.stm t ht
     ·simp
    ·exact h0
   ·exact h0
 ·split
  ·exact h0
  ·simp only[]
   split
   ·split
    ·unfold ends
     split
     ·exact h0
     ·rename_i l hl
      refine hp _ r.ifs r.count _ ?_ h.ifs0 (by have:=h.ifs1;omega) h.cnt
      have:=h.opn
      simp;omega
    ·split
     ·exact h0
     ·split
      ·split
       ·exact⟨h0.few,h0.stm,h0.opn,h0.ifs0,h0.ifs1,by have:=h.cnt;simp;omega,h0.lin0,h0.lin1⟩
       ·rename_i ho
        unfold branch
        rw[if_neg ho]
        refine hp _ _ _ _ ?_ (by have:=h.ifs0;simp;omega) (by have:=h.ifs1;simp;omega) (by have:=h.cnt;simp;omega)
        simp at ho ⊢;omega
      ·exact hp r.opn r.ifs _ _ h.opn h.ifs0 (by have:=h.ifs1;omega) (by have:=h.cnt;omega)
   ·exact h0
end P
end Go.Proofs.YtgceflcbckjjiaaGreatDoor
