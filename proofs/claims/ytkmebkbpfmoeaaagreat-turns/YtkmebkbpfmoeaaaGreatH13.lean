import Derived.WalkSpells
import Derived.Test.YtkmebkbpfmoeaaaGreatH08
set_option linter.unusedVariables false
set_option linter.unusedSimpArgs false
set_option maxHeartbeats 12800000
namespace Go.Proofs.YtkmebkbpfmoeaaaGreat
open Go Go.RowKit
set_option maxRecDepth 100000
theorem zFY (s:ByteArray) (w:World) (hs:s.size≤10000000) :
  Calls Tryz.prog 17 #[.string s] w fun e w'=>∃ v,∃ ws:List ByteArray,e=.returned v∧ws.map ByteArray.toList=(P.zIr 10 s.toList).dropLast∧(∀ x∈ws,x.size≤s.size)∧w'.ownsRow w.heap.size 9 1 v ws.length (ws.map Value.string)∧Below w.heap.size w w':=by
 obtain⟨i0,hi,hz0,hz1,hz2⟩:=info_parts Tryz.infoStr
 go_enter Tryz.func17,Tryz.ntmps17
 go_wp2
 go_loopw [3,4,5] (fun v f i wr=>∃ k m:Nat,∃ bs:List ByteArray,∃ v',v=v'∧k≤s.size∧m≤k∧i=.int .i64 k∧f=.int .i64 m∧bs.length≤k∧Hid (P.zIr 10 (s.toList.take k)=bs.map ByteArray.toList++[(s.toList.take k).drop m]) ∧
   Hid (∀ x∈bs,x.size≤s.size)∧Hid (wr.ownsRow w.heap.size 9 1 v' bs.length (bs.map Value.string))∧Hid (Below w.heap.size w wr)) (fun _ _ i _=>s.size-(intOf i).toNat)
 case atStart=>exact⟨0,0,[],_,rfl,Nat.zero_le _,Nat.le_refl _,rfl,rfl,Nat.le_refl _,by unfold Hid;simp[P.zIr],fun x hx=>by simp at hx,World.ownsRow_nil _ _ _ _,Below.refl _ _⟩
 case round =>
  obtain⟨k,m,bs,v',hv,hk,hm,rfl,rfl,hbl,HS,HXS,HO,HB⟩:=hrel
  have hv:=hv.symm
  subst hv
  have hmk:(m:Int)≤(k:Int):=by omega
  by_cases hlt:k<s.size
  ·have hlt':(k:Int)<(s.size:Int):=by omega
   have hk0:(0:Int)≤(k:Int):=by omega
   have hle':(k:Int)≤(s.size:Int):=by omega
   have hm0:(0:Int)≤(m:Int):=by omega
   by_cases hc:s[k]=10
   ·have hq:((s[k].toNat:Int)==10)=true:=by rw[hc];rfl
    have HC:=zAa hc
    clear hc
    have hsl:=HB.out.size
    have hex:∀ wx,(Instr.slice 9 (.string s) (some (.int .i64 (m:Int))) (some (.int .i64 (k:Int))) none).run Tryz.prog wx=.ok (.string (s.extract m k)) wx:=fun wx=>by
     rw[run_slice_string wx 9 s .i64 .i64 _ _ Tryz.underlying9 (by omega) (by omega) (by omega),show ((k:Int)).toNat=k by omega,show ((m:Int)).toNat=m by omega]
    have HO2:Hid ((wr.alloc (.cells #[.string (s.extract m k)] 9)).ownsRow w.heap.size 9 1 v' bs.length (bs.map Value.string)):=HO.out.alloc _
    have HN2:Hid (∀ j u,[Value.string (s.extract m k)][j]?=some u→(wr.alloc (.cells #[.string (s.extract m k)] 9)).cell? ((⟨wr.heap.size,0,none⟩:Addr).add j)=some u):=World.news_of_block (cs:=#[.string (s.extract m k)]) (t:=9) (fr:=(0,0)) (heap_alloc_new wr _)
    go_wp2_with (first
     | (at_builtin;refine wpList_append_lies _ rfl (.tmp 16) (.tmp 21) 35 rfl w.heap.size 9 i0 (.string ByteArray.empty) 1 16 Tryz.underlying35 hi hz0 hz1 hz2 rfl (by decide) _ bs.length (bs.map Value.string) rfl (by exact HO2.out) ⟨wr.heap.size,0,none⟩ 1 1 [.string (s.extract m k)] rfl rfl (by exact HN2.out) (by simp[Value.oneCell']) (by decide) (by unfold maxLen;omega) (by omega) (by simp;omega) _ rfl ?_;intro g cap w1 hown' hgrow hat hglt))
    have HR:=zAa (zDJ 10 s k m bs hlt HS.out HC.out)
    have hb1:Hid (Below w.heap.size w w1):=(HB.out.alloc HB.out.size _).grown hgrow (by have:=HB.out.size;simp;omega) (fun j hj=>(HO.out.lt j hj).1)
    have HO3:Hid (w1.ownsRow w.heap.size 9 1 (.slice (some ⟨g,0,none⟩) (bs.length+1) cap) (bs++[s.extract m k]).length ((bs++[s.extract m k]).map Value.string)):=by unfold Hid;simpa using hown'
    have HXS2:Hid (∀ x∈bs++[s.extract m k],x.size≤s.size):=fun x hx=>by
     rcases List.mem_append.1 hx with hx | hx
     ·exact HXS.out x hx
     ·simp at hx
      subst hx
      rw[ByteArray.size_extract];omega
    clear hown' hgrow hat HS
    (try go_wp2)
    go_roundw
    case rel=>exact⟨k+1,k+1,bs++[s.extract m k],_,rfl,by omega,Nat.le_refl _,by go_num,by go_num,by simp;omega,HR,HXS2,HO3,hb1⟩
    case measure=>simp[intOf];omega
   ·have hq:((s[k].toNat:Int)==10)=false:=by
     rw[beq_eq_false_iff_ne]
     intro e
     apply hc
     apply UInt8.toNat_inj.1
     have:s[k].toNat=10:=by omega
     rw[this];rfl
    have HR:=zAa (zDK 10 s k m bs hlt hm HS.out hc)
    clear HS hc
    go_wp2
    go_roundw
    case rel=>exact⟨k+1,m,bs,_,rfl,by omega,by omega,by go_num,rfl,by omega,HR,HXS,HO,HB⟩
    case measure=>simp[intOf];omega
  ·have hnlt:decide ((k:Int)<(s.size:Int))=false:=decide_eq_false (by omega)
   have HS2:Hid (bs.map ByteArray.toList=(P.zIr 10 s.toList).dropLast):=by
    have hks:k=s.size:=by omega
    subst hks
    unfold Hid
    have:=HS.out
    rw[List.take_of_length_le (by rw[zAB];exact Nat.le_refl _)] at this
    rw[this];simp
   clear HS
   go_wp2
   go_ret
   exact⟨_,rfl,bs,HS2.out,HXS.out,HO.out,HB.out⟩
namespace P
def zJc (a t:List UInt8):Bool:=decide (t.length≤a.length)&&(a.take t.length==t)
end P
theorem zEX (s t:ByteArray) (w:World) :
  Calls Tryz.prog 19 #[.string s,.string t] w fun e w'=>e=.returned (.bool (P.zJc s.toList t.toList))∧w'=w:=by
 have HB:Hid (P.zJc s.toList t.toList=(decide (t.size≤s.size)&&((s.extract 0 t.size).toList==t.toList))):=by
  unfold Hid P.zJc
  rw[zAB,zAB,zBz,List.drop_zero]
 by_cases h:t.size≤s.size
 ·have h':(t.size:Int)≤(s.size:Int):=by omega
  have hb2:P.zJc s.toList t.toList=((s.extract 0 t.size).toList==t.toList):=by rw[HB.out,decide_eq_true h,Bool.true_and]
  have HB2:=zAa hb2
  clear hb2
  go_enter Tryz.func19,Tryz.ntmps19
  go_wp2
  go_ret
  rw[HB2.out];exact⟨rfl,rfl⟩
 ·have h':decide ((t.size:Int)≤(s.size:Int))=false:=decide_eq_false (by omega)
  have hb2:P.zJc s.toList t.toList=false:=by rw[HB.out,decide_eq_false h,Bool.false_and]
  have HB2:=zAa hb2
  clear hb2
  go_enter Tryz.func19,Tryz.ntmps19
  go_wp2
  go_ret
  rw[HB2.out];exact⟨rfl,rfl⟩
namespace P
end P
end Go.Proofs.YtkmebkbpfmoeaaaGreat
namespace Go.Proofs.YtkmebkbpfmoeaaaGreat
namespace P
theorem splitAt_app (c:UInt8) (r:List UInt8):∀ p:List UInt8,zIr c (p++c::r)=zIr c p++zIr c r
 | []=>by rw[List.nil_append,splitAt_cons_eq];rfl
 | x::p=>by
  have ih:=splitAt_app c r p
  by_cases hx:x=c
  ·subst hx
   rw[List.cons_append,splitAt_cons_eq,splitAt_cons_eq,ih];rfl
  ·cases hs:zIr c p with
   | nil=>exact absurd hs (zJs _ _)
   | cons a b =>
    rw[List.cons_append,splitAt_cons_ne c x p hx a b hs,splitAt_cons_ne c x (p++c::r) hx a (b++zIr c r) (by rw[ih,hs];rfl)];rfl
theorem splitAt_none (c:UInt8):∀ l:List UInt8,c ∉ l→zIr c l=[l]
 | [],_=>rfl
 | x::l,h=>by
  have h1:x≠c:=fun e=>h (by rw[e];simp)
  have h2:=splitAt_none c l (fun e=>h (List.mem_cons_of_mem _ e))
  exact splitAt_cons_ne c x l h1 l [] h2
def joinC (c:UInt8):List (List UInt8)→List UInt8
 | []=>[]
 | [a]=>a
 | a::b::r=>a++c::joinC c (b::r)
theorem joinC_cons (c:UInt8) (a:List UInt8) (l:List (List UInt8)) (h:l≠[]):joinC c (a::l)=a++c::joinC c l:=by
 cases l with
 | nil=>exact absurd rfl h
 | cons b r=>rfl
theorem join_split (c:UInt8):∀ l:List UInt8,joinC c (zIr c l)=l
 | []=>rfl
 | x::l=>by
  have ih:=join_split c l
  by_cases hx:x=c
  ·subst hx
   rw[splitAt_cons_eq,joinC_cons _ _ _ (zJs _ _),ih];rfl
  ·cases hs:zIr c l with
   | nil=>exact absurd hs (zJs _ _)
   | cons a b =>
    rw[splitAt_cons_ne c x l hx a b hs]
    rw[hs] at ih
    cases b with
    | nil=>simp only[joinC] at ih ⊢;rw[ih]
    | cons b1 b2=>simp only[joinC] at ih ⊢;rw[← ih];rfl
end P
namespace P
theorem varOf_word {p:List UInt8} (h:(varOf p).2=true):p=[120]∨p=[121]∨p=[122]:=by
 unfold varOf at h
 split at h
 ·rename_i e;exact Or.inl (by simpa using e)
 ·split at h
  ·rename_i e;exact Or.inr (Or.inl (by simpa using e))
  ·split at h
   ·rename_i e;exact Or.inr (Or.inr (by simpa using e))
   ·simp at h
theorem register_word {p:List UInt8} (h:(zIn p).2=true):∃ d,p=[114,d]:=by
 match p,h with
 | [],h=>simp[zIn] at h
 | [_],h=>simp[zIn] at h
 | [c,d],h =>
  simp only[zIn] at h
  split at h
  ·rename_i e;exact⟨d,by rw[e]⟩
  ·simp at h
 | _::_::_::_,h=>simp[zIn] at h
theorem operand_word {p:List UInt8} (h:(zIz p).2=true):p.length≤2:=by
 match p,h with
 | [],_=>simp
 | [_],_=>simp
 | [_,_],_=>simp
 | a::b::c::r,h =>
  simp only[zIz] at h
  obtain⟨d,hd⟩:=register_word h
  simp at hd
theorem sign_word {p:List UInt8} (h:(sign p).2=true):p.length≤2:=by
 unfold sign at h
 split at h
 ·rename_i e;rw[show p=[43] by simpa using e];simp
 ·split at h
  ·rename_i e;rw[show p=[45] by simpa using e];simp
  ·split at h
   ·rename_i e;rw[show p=[61,61] by simpa using e];simp
   ·simp at h
def ordW (o:Int):List UInt8:=if o==0 then [119,101,97,107] else if o==1 then [114,101,108,97,120,101,100] else if o==2 then [97,99,113,117,105,114,101] else if o==3 then [114,101,108,101,97,115,101] else if o==4 then [97,99,113,114,101,108] else [115,99]
theorem order_word {o:List UInt8} (h:(order o).2=true):o=ordW (order o).1∧((order o).1=0∨(order o).1=1∨(order o).1=2∨(order o).1=3∨(order o).1=4∨(order o).1=5):=by
 unfold order at h ⊢
 repeat' split at h
 all_goals first
  | (simp at h;done)
  | (rename_i e;have e2:=eq_of_beq e;subst e2;decide)
theorem ordering_word {st st':Stm} {r:List (List UInt8)} (h:zJd st r=(st',true)):(∃ o,r=[o]∧o=ordW 0∧st'={ st with order:=0 })∨∃ o s,r=[o,s]∧(order o).2=true∧(scope s).2=true∧(order o).1≠0∧st'={ st with order:=(order o).1,scope:=(scope s).1 }∧zKu st.kind (order o).1=true:=by
 cases r with
 | nil=>simp[zJd] at h
 | cons o r =>
  simp only[zJd] at h
  split at h
  ·rename_i hc
   simp only[Bool.and_eq_true] at hc
   split at h
   ·rename_i h0
    simp only[Prod.mk.injEq] at h
    have hr:r=[]:=by simpa using h.2
    subst hr
    have h1:=(order_word hc.1).1
    rw[show (order o).1=0 by simpa using h0] at h1
    exact Or.inl ⟨o,rfl,h1,h.1.symm⟩
   ·rename_i h0
    match r,h with
    | [],h=>simp at h
    | [s],h =>
     simp only[Prod.mk.injEq] at h
     exact Or.inr ⟨o,s,rfl,hc.1,h.2,by simpa using h0,h.1.symm,hc.2⟩
    | _::_::_,h=>simp at h
  ·simp at h
def wordOf (o:Int) (ws:List (List UInt8)):Bool:=(ws.tail.dropLast).contains (ordW o)
structure Says (ws:List (List UInt8)) (st:Stm):Prop where
 w2:wordOf 2 ws=(st.order==2)
 w3:wordOf 3 ws=(st.order==3)
 w4:wordOf 4 ws=(st.order==4)
 fen:st.kind=4→ws.head?=some [102,101,110,99,101]
 nof:st.kind≠4→∃ c r q,ws=(c::r)::q∧c≠102
 none:isAcc st.kind=false→st.kind≠4→st.order=0
 weak:isAcc st.kind=true→st.order=0→∃ a l,ws=a::(l++[ordW 0])
 blk:isAcc st.kind=true→st.order≠0→st.scope=0→∃ a l,ws=a::(l++[[98,108,111,99,107]])
 frel:st.kind=4→st.order=4∨st.order=5
end P
namespace P
end P
namespace P
def textOf:List (List UInt8)→List UInt8
 | []=>[]
 | x::r=>x++10::textOf r
theorem split_text:∀ {xs:List (List UInt8)},(∀ x∈xs,(10:UInt8) ∉ x)→zIr 10 (textOf xs)=xs++[[]]
 | [],_=>rfl
 | x::xs,h=>by
  rw[textOf,splitAt_app,splitAt_none 10 x (h x (by simp)),split_text (fun y hy=>h y (List.mem_cons_of_mem _ hy))];rfl
theorem join_text:∀ (xs:List (List UInt8)),joinC 10 (xs++[[]])=textOf xs
 | []=>rfl
 | x::xs=>by rw[List.cons_append,joinC_cons 10 x _ (by simp),join_text xs];rfl
theorem text_split {s:List UInt8} (h:(zIr 10 s).getLast?=some []):s=textOf (zIr 10 s).dropLast:=by
 have h1:=join_split 10 s
 have h2:=(List.dropLast_concat_getLast (zJs 10 s)).symm
 rw[List.getLast?_eq_some_getLast (zJs 10 s)] at h
 rw[Option.some.inj h] at h2
 conv=>lhs;rw[← h1,h2]
 exact join_text _
theorem split_free (c:UInt8):∀ (l w:List UInt8),w∈zIr c l→c ∉ w
 | [],w,h=>by simp[zIr] at h;rw[h];simp
 | x::l,w,h=>by
  by_cases hx:x=c
  ·subst hx
   rw[splitAt_cons_eq] at h
   rcases List.mem_cons.1 h with rfl | h
   ·simp
   ·exact split_free x l w h
  ·cases hs:zIr c l with
   | nil=>exact absurd hs (zJs _ _)
   | cons a b =>
    rw[splitAt_cons_ne c x l hx a b hs] at h
    rcases List.mem_cons.1 h with rfl | h
    ·have:=split_free c l a (by rw[hs];simp)
     intro hm
     rcases List.mem_cons.1 hm with e | hm
     ·exact hx e.symm
     ·exact this hm
    ·exact split_free c l w (by rw[hs];exact List.mem_cons_of_mem _ h)
def All2 {α β:Type} (R:α→β→Prop):List α→List β→Prop
 | [],[]=>True
 | a::x,b::y=>R a b∧All2 R x y
 | _,_=>False
theorem all2_len {α β:Type} {R:α→β→Prop}:∀ {x:List α} {y:List β},All2 R x y→y.length=x.length
 | [],[],_=>rfl
 | a::x,b::y,h=>by rw[List.length_cons,List.length_cons,all2_len h.2]
 | [],b::y,h=>by simp[All2] at h
 | a::x,[],h=>by simp[All2] at h
theorem all2_app {α β:Type} {R:α→β→Prop}:∀ {x:List α} {y:List β} {u:List α} {v:List β},All2 R x y→All2 R u v→All2 R (x++u) (y++v)
 | [],[],_,_,_,h=>h
 | a::x,b::y,_,_,h,k=>⟨h.1,all2_app h.2 k⟩
 | [],b::y,_,_,h,_=>by simp[All2] at h
 | a::x,[],_,_,h,_=>by simp[All2] at h
structure StR (R:Stm→Stm→Prop):Prop where
 kind:∀ s t,R s t→t.kind=s.kind
 line:∀ s t,R s t→t.line=s.line
 fen:∀ s t,R s t→s.kind=4→t.order=s.order
 sl:∀ s t l,R s t→R { s with line:=l } { t with line:=l }
 sb:∀ s t l,R s t→R { s with label:=l } { t with label:=l }
structure ThR (R:Stm→Stm→Prop) (t t':Thr):Prop where
 block:t'.block=t.block
 line:t'.line=t.line
 sts:All2 R t.stmts t'.stmts
structure RdR (R:Stm→Stm→Prop) (r r':Rd):Prop where
 th:All2 (ThR R) r.threads r'.threads
 line:r'.line=r.line
 count:r'.count=r.count
 ifs:r'.ifs=r.ifs
 opn:r'.opn=r.opn
 most:r'.most=r.most
theorem putLast_R {R:Stm→Stm→Prop} {s s':Stm} (hs:R s s'):∀ {x y:List Thr},All2 (ThR R) x y→All2 (ThR R) (putLast x s) (putLast y s')
 | [],[],_=>trivial
 | [a],[b],h=>⟨⟨h.1.block,h.1.line,all2_app h.1.sts ⟨hs,trivial⟩⟩,trivial⟩
 | a::a2::x,b::b2::y,h=>⟨h.1,putLast_R hs (x:=a2::x) (y:=b2::y) h.2⟩
 | [],b::y,h=>by simp[All2] at h
 | a::x,[],h=>by simp[All2] at h
 | [a],b::b2::y,h=>by have:=h.2;simp[All2] at this
 | a::a2::x,[b],h=>by have:=h.2;simp[All2] at this
section
variable {R:Stm→Stm→Prop}
theorem RdR.put {r r':Rd} (h:RdR R r r') {s s':Stm} (hs:R s s'):RdR R (put r s) (put r' s') :=
 ⟨putLast_R hs h.th,h.line,h.count,h.ifs,h.opn,h.most⟩
theorem RdR.ends (hR:StR R) {r r' r1:Rd} (h:RdR R r r') {s s':Stm} (hs:R s s') (e:ends r s=(r1,true)):∃ r1',ends r' s'=(r1',true)∧RdR R r1 r1':=by
 unfold P.ends at e ⊢
 rw[h.opn]
 split at e
 ·simp at e
 ·rename_i l hl
  simp only[Prod.mk.injEq,and_true] at e
  refine⟨_,rfl,?_⟩
  rw[← e]
  refine RdR.put ?_ (hR.sb _ _ l hs)
  exact⟨h.th,h.line,h.count,h.ifs,rfl,h.most⟩
theorem RdR.branch (hR:StR R) {r r' r1:Rd} (h:RdR R r r') {s s':Stm} (hs:R s s') (e:branch r s=(r1,true)):∃ r1',branch r' s'=(r1',true)∧RdR R r1 r1':=by
 unfold P.branch at e ⊢
 rw[h.opn,h.ifs]
 split at e
 ·simp at e
 ·rename_i hn
  rw[if_neg hn]
  simp only[Prod.mk.injEq,and_true] at e
  refine⟨_,rfl,?_⟩
  rw[← e]
  refine RdR.put ?_ (hR.sb _ _ _ hs)
  exact⟨h.th,h.line,h.count,rfl,rfl,h.most⟩
theorem RdR.putD (hR:StR R) {r r' r1:Rd} (h:RdR R r r') {s s':Stm} (hs:R s s') (e:putD r s=(r1,true)):∃ r1',putD r' s'=(r1',true)∧RdR R r1 r1':=by
 unfold P.putD at e ⊢
 have hemp:r'.threads.isEmpty=r.threads.isEmpty:=by
  have:=all2_len h.th
  cases h1:r.threads<;>cases h2:r'.threads<;>simp_all
 rw[hemp,hR.kind _ _ hs,h.most,h.count,h.opn]
 split at e
 ·simp at e
 ·rename_i h0
  rw[if_neg h0]
  split at e
  ·rename_i h1
   rw[if_pos h1]
   exact h.ends hR hs e
  ·rename_i h1
   rw[if_neg h1]
   split at e
   ·simp at e
   ·rename_i h2
    rw[if_neg h2]
    split at e
    ·rename_i h3
     rw[if_pos h3]
     split at e
     ·simp at e
     ·rename_i h4
      rw[if_neg h4]
      exact RdR.branch hR (r:={ r with count:=r.count+1 }) (r':={ r' with count:=r.count+1,opn:=r.opn,most:=r.most }) ⟨h.th,h.line,rfl,h.ifs,rfl,rfl⟩ hs e
    ·rename_i h3
     rw[if_neg h3]
     simp only[Prod.mk.injEq,and_true] at e
     refine⟨_,rfl,?_⟩
     rw[← e]
     exact RdR.put (r:={ r with count:=r.count+1 }) (r':={ r' with count:=r.count+1,opn:=r.opn,most:=r.most }) ⟨h.th,h.line,rfl,h.ifs,rfl,rfl⟩ hs
theorem RdR.beginD {r r' r1:Rd} (h:RdR R r r') {b l:Int} (e:beginD r b l=(r1,true)):∃ r1',beginD r' b l=(r1',true)∧RdR R r1 r1':=by
 unfold P.beginD at e ⊢
 rw[all2_len h.th,h.opn]
 split at e
 ·simp at e
 ·rename_i h0
  rw[if_neg h0]
  simp only[Prod.mk.injEq,and_true] at e
  refine⟨_,rfl,?_⟩
  rw[← e]
  exact⟨all2_app h.th ⟨⟨rfl,rfl,trivial⟩,trivial⟩,h.line,rfl,h.ifs,rfl,h.most⟩
abbrev thrW:List UInt8:=[116,104,114,101,97,100]
theorem takes_true {r r1:Rd} {ws:List (List UInt8)} (hm:r.most=8) (h:takes r ws=(r1,true)):(∃ c:UInt8,ws=[thrW,[c]]∧(digit c 2).2=true∧beginD r (digit c 2).1 r.line=(r1,true))∨∃ st,zIu ws=(st,true)∧putD r { st with line:=r.line }=(r1,true)∧∃ c q,ws=c::q∧(c==thrW)=false:=by
 cases ws with
 | nil =>
  unfold takes at h
  simp[zIu] at h
 | cons c q =>
  cases hc:(c==thrW)
  ·rw[takes_D r c q hc hm] at h
   split at h
   ·rename_i hs
    exact Or.inr ⟨(zIu (c::q)).1,by rw[← hs],h,c,q,rfl,hc⟩
   ·simp at h
  ·have hc2:=eq_of_beq hc
   subst hc2
   have e:takes r (thrW::q)=zIX r (thrW::q):=by unfold takes;simp
   rw[e] at h
   match q,h with
   | [],h=>unfold zIX at h;split at h<;>simp at h
   | [[]],h=>unfold zIX at h;split at h<;>simp at h
   | [[d]],h =>
    rw[begins_D] at h
    split at h
    ·rename_i hd
     exact Or.inl ⟨d,rfl,hd,h⟩
    ·simp at h
   | [d::d2::d3],h=>unfold zIX at h;split at h<;>simp at h
   | _::_::_,h=>unfold zIX at h;split at h<;>simp at h
end
theorem kernel_rows {s:List UInt8} (h:(kernel s).2.1=0):∃ r1,s.length≤2000∧zJZ Rd.zero (zIr 10 s).dropLast=(r1,true)∧(zIr 10 s).getLast?=some []∧r1.opn=[]∧r1.threads≠[]∧(kernel s)=(r1.threads,0,0)∧zIM r1.threads=0∧zIw r1.threads r1.threads=0∧over r1.threads=false:=by
 unfold kernel at h ⊢
 split at h
 ·simp at h
 ·rename_i h0
  split at h
  ·simp at h
  ·rename_i h1
   split at h
   ·simp at h
   ·rename_i h2
    split at h
    ·simp at h
    ·rename_i h3
     split at h
     ·simp at h
     ·rename_i h4
      rw[if_neg h0,if_neg h1,if_neg h2,if_neg h3,if_neg h4]
      have hl:(lines s).2=0:=by simpa using h1
      obtain⟨g1,g2,g3⟩:=good_run (zIr 10 s).dropLast 0 Rd.zero good_zero
      have z:Rd.zero.line=0:=rfl
      unfold lines at hl h2 h3 h4 ⊢
      simp only[] at hl h2 h3 h4 ⊢
      cases hq:(zJZ Rd.zero (zIr 10 s).dropLast).2
      ·have:=g3 hq
       simp[hq] at hl
       omega
      ·simp only[hq,if_true] at hl h2 h3 h4 ⊢
       split at hl
       ·simp at hl;omega
       ·rename_i hno
        rw[if_neg hno] at h2 h3 h4 ⊢
        have hn1:(zIr 10 s).getLast?=some []:=Decidable.byContradiction fun c=>hno (Or.inl c)
        have hn2:(zJZ Rd.zero (zIr 10 s).dropLast).1.opn=[]:=Decidable.byContradiction fun c=>hno (Or.inr (Or.inl c))
        exact⟨(zJZ Rd.zero (zIr 10 s).dropLast).1,by omega,by rw[← hq],hn1,hn2,fun c=>hno (Or.inr (Or.inr c)),rfl,by simpa using h2,by simpa using h3,by simpa using h4⟩
theorem kernel_of {xs:List (List UInt8)} {r1:Rd} (h10:∀ x∈xs,(10:UInt8) ∉ x) (hz:(textOf xs).length≤2000) (hr:zJZ Rd.zero xs=(r1,true)) (ho:r1.opn=[]) (ht:r1.threads≠[]) (h1:zIM r1.threads=0) (h2:zIw r1.threads r1.threads=0) (h3:over r1.threads=false):kernel (textOf xs)=(r1.threads,0,0):=by
 have hs:=split_text h10
 have hl:lines (textOf xs)=(r1.threads,0):=by
  unfold lines
  simp only[]
  rw[hs,List.dropLast_concat,hr]
  simp[ho,ht]
 unfold kernel
 rw[if_neg (by omega),hl]
 simp[h1,h2,h3]
end P
namespace P
def isSep (c:UInt8):Bool:=c==32||c==10
def sepAt:List UInt8→Bool
 | []=>false
 | c::_=>isSep c
def matchB (a l:List UInt8):Bool:=(l.take a.length==a)&&sepAt (l.drop a.length)
def sw (a b:List UInt8):Nat→Bool→List UInt8→List UInt8
 | _,_,[]=>[]
 | n+1,_,_::r=>sw a b n false r
 | 0,front,x::r=>if front&&matchB a (x::r) then b++sw a b (a.length-1) false r else x::sw a b 0 (isSep x) r
def swapW (a b w:List UInt8):List UInt8:=if w==a then b else w
def free (w:List UInt8):Prop:=∀ c∈w,isSep c=false
end P
end Go.Proofs.YtkmebkbpfmoeaaaGreat
namespace Go.Proofs.YtkmebkbpfmoeaaaGreat
open Go Go.RowKit
set_option maxRecDepth 100000
namespace P
end P
end Go.Proofs.YtkmebkbpfmoeaaaGreat
namespace Go.Proofs.YtkmebkbpfmoeaaaGreat
namespace Q
def Bit (r:List Nat) (a b:Nat):Prop:=(r.getD a 0).testBit b=true
structure Rel (n:Nat) (r:List Nat):Prop where
 len:r.length=n
 lt:∀ a b,Bit r a b→b<n
theorem Bit.left {r:List Nat} {a b:Nat} (h:Bit r a b):a<r.length:=by
 by_cases hl:a<r.length
 ·exact hl
 ·unfold Bit at h
  rw[getD_out _ _ (by omega)] at h
  simp at h
theorem one_bit (b c:Nat) (h:b<64):(one (b:Int)).testBit c=decide (b=c):=by
 unfold one
 rw[if_neg (by omega),Int.toNat_natCast,Nat.testBit_two_pow]
theorem hasS_bit (s b:Nat) (h:b<64):hasS s (b:Int)=s.testBit b:=by
 unfold hasS one
 rw[if_neg (by omega),Int.toNat_natCast]
 cases hb:s.testBit b
 ·have:s &&& 2 ^ b=0:=by
   refine Nat.eq_of_testBit_eq (fun i=>?_)
   rw[Nat.testBit_and,Nat.testBit_two_pow,Nat.zero_testBit]
   by_cases h:b=i
   ·rw[← h,hb];rfl
   ·simp[h]
  rw[this];rfl
 ·have:s &&& 2 ^ b≠0:=by
   intro e
   have h2:=congrArg (fun x=>x.testBit b) e
   simp[Nat.testBit_and,Nat.testBit_two_pow,hb] at h2
  simp[this]
theorem hasR_bit (r:List Nat) (a b:Nat) (h:b<64):hasR r (a:Int) (b:Int)=true ↔ Bit r a b:=by
 unfold hasR Bit
 rw[ofR_nat,hasS_bit _ _ h]
theorem map_get (f:Nat→Nat) (n a:Nat):((List.range n).map f).getD a 0=if a<n then f a else 0:=by
 by_cases h:a<n
 ·rw[getD_in _ _ (by simpa using h),if_pos h];simp
 ·rw[getD_out _ _ (by simpa using h),if_neg h]
theorem new_bit (n a b:Nat):¬ Bit (newR n) a b:=by
 intro h
 unfold Bit newR at h
 have:(List.replicate n 0).getD a 0=0:=by
  by_cases ha:a<n
  ·rw[getD_in _ _ (by simpa using ha)];simp
  ·rw[getD_out _ _ (by simpa using ha)]
 rw[this] at h;simp at h
section
variable {n:Nat} {r o:List Nat}
theorem or_bit (hr:r.length=n) (ho:o.length=n) (a b:Nat):Bit (orR r o) a b ↔ Bit r a b∨Bit o a b:=by
 unfold Bit orR
 rw[map_get]
 by_cases h:a<r.length
 ·rw[if_pos h,Nat.testBit_or,ofR_nat,ofR_nat,Bool.or_eq_true]
 ·rw[if_neg h,getD_out r _ (by omega),getD_out o _ (by omega)];simp
theorem and_bit (hr:r.length=n) (a b:Nat):Bit (andR r o) a b ↔ Bit r a b∧Bit o a b:=by
 unfold Bit andR
 rw[map_get]
 by_cases h:a<r.length
 ·rw[if_pos h,Nat.testBit_and,ofR_nat,ofR_nat,Bool.and_eq_true]
 ·rw[if_neg h,getD_out r _ (by omega)];simp
theorem zCu (hr:Rel n r) (ho:Rel n o):Rel n (orR r o) :=
 ⟨by rw[or_len];exact hr.len,fun a b h=>by rcases (or_bit hr.len ho.len a b).1 h with h | h;exact hr.lt _ _ h;exact ho.lt _ _ h⟩
theorem zDr (hr:Rel n r):Rel n (andR r o) :=
 ⟨by rw[and_len];exact hr.len,fun a b h=>hr.lt _ _ ((and_bit hr.len a b).1 h).1⟩
theorem thenB_bit (hn:n≤64) (a x:Nat):∀ (l:List Nat) (acc:Nat),(∀ c∈l,c<n)→((l.foldl (thenB r o a) acc).testBit x=true ↔ acc.testBit x=true∨∃ c∈l,Bit r a c∧Bit o c x)
 | [],acc,_=>by simp
 | c::l,acc,h=>by
  rw[List.foldl_cons,thenB_bit hn a x l _ (fun y hy=>h y (List.mem_cons_of_mem _ hy))]
  have hc:c<n:=h c (by simp)
  unfold thenB
  by_cases hb:Bit r a c
  ·rw[if_pos ((hasR_bit r a c (by omega)).2 hb),Nat.testBit_or,ofR_nat,Bool.or_eq_true]
   constructor
   ·rintro ((h1 | h1) | ⟨y,hy,h1⟩)
    ·exact Or.inl h1
    ·exact Or.inr ⟨c,by simp,hb,h1⟩
    ·exact Or.inr ⟨y,List.mem_cons_of_mem _ hy,h1⟩
   ·rintro (h1 | ⟨y,hy,h1⟩)
    ·exact Or.inl (Or.inl h1)
    ·rcases List.mem_cons.1 hy with rfl | hy
     ·exact Or.inl (Or.inr h1.2)
     ·exact Or.inr ⟨y,hy,h1⟩
  ·rw[if_neg (fun h2=>hb ((hasR_bit r a c (by omega)).1 h2))]
   constructor
   ·rintro (h1 | ⟨y,hy,h1⟩)
    ·exact Or.inl h1
    ·exact Or.inr ⟨y,List.mem_cons_of_mem _ hy,h1⟩
   ·rintro (h1 | ⟨y,hy,h1⟩)
    ·exact Or.inl h1
    ·rcases List.mem_cons.1 hy with rfl | hy
     ·exact absurd h1.1 hb
     ·exact Or.inr ⟨y,hy,h1⟩
theorem then_bit (hn:n≤64) (hr:Rel n r) (a b:Nat):Bit (thenR r o) a b ↔ ∃ c,Bit r a c∧Bit o c b:=by
 have e:Bit (thenR r o) a b ↔ (a<r.length∧(thenA r o a).testBit b=true):=by
  unfold thenR
  rw[Bit,map_get]
  by_cases h:a<r.length
  ·simp[h]
  ·simp[h]
 rw[e]
 unfold thenA
 rw[thenB_bit (n:=n) hn a b _ _ (fun c hc=>by rw[hr.len] at hc;exact List.mem_range.1 hc)]
 simp only[Nat.zero_testBit,Bool.false_eq_true,false_or,List.mem_range]
 constructor
 ·rintro ⟨_,c,_,h⟩;exact⟨c,h⟩
 ·rintro ⟨c,h⟩;exact⟨h.1.left,c,by rw[hr.len];exact hr.lt _ _ h.1,h⟩
theorem zBm (hn:n≤64) (hr:Rel n r) (ho:Rel n o):Rel n (thenR r o) :=
 ⟨by rw[then_len];exact hr.len,fun a b h=>by obtain⟨c,_,h⟩:=(then_bit hn hr a b).1 h;exact ho.lt _ _ h⟩
theorem setB_get (l:List Nat) (i x a:Nat) (h:i<l.length):(l.set i x).getD a 0=if a=i then x else l.getD a 0:=by
 by_cases ha:a=i
 ·rw[ha,if_pos rfl,getD_in _ _ (by simpa using h)];simp
 ·rw[if_neg ha];simp[List.getD,List.getElem?_set,Ne.symm ha]
theorem add_bit (hn:n≤64) (hr:r.length=n) (i k:Nat) (hi:i<n) (hk:k<n) (a b:Nat):Bit (addR r i k) a b ↔ Bit r a b∨(a=i∧b=k):=by
 unfold addR
 rw[if_neg (by omega),Int.toNat_natCast,Bit,setB_get _ _ _ _ (by omega)]
 by_cases h:a=i
 ·rw[if_pos h,Nat.testBit_or,ofR_nat,one_bit _ _ (by omega),Bool.or_eq_true,decide_eq_true_eq,h]
  constructor
  ·rintro (h1 | h1)
   ·exact Or.inl h1
   ·exact Or.inr ⟨rfl,h1.symm⟩
  ·rintro (h1 | h1)
   ·exact Or.inl h1
   ·exact Or.inr h1.2.symm
 ·rw[if_neg h];simp[h,Bit]
theorem fold_bit {β:Type} (F:List Nat→β→List Nat) (G:β→Nat→Nat→Prop) (l:List β) (hF:∀ r x,x∈l→r.length=n→(F r x).length=n∧∀ a b,Bit (F r x) a b ↔ Bit r a b∨G x a b) :
  ∀ r,r.length=n→(l.foldl F r).length=n∧∀ a b,Bit (l.foldl F r) a b ↔ Bit r a b∨∃ x∈l,G x a b:=by
 induction l with
 | nil=>intro r h;exact⟨h,by simp⟩
 | cons x l ih =>
  intro r h
  have h1:=hF r x (by simp) h
  have h2:=ih (fun r y hy hr=>hF r y (List.mem_cons_of_mem _ hy) hr) (F r x) h1.1
  refine⟨h2.1,fun a b=>?_⟩
  rw[List.foldl_cons,h2.2,h1.2]
  constructor
  ·rintro ((h3 | h3) | ⟨y,hy,h3⟩)
   ·exact Or.inl h3
   ·exact Or.inr ⟨x,by simp,h3⟩
   ·exact Or.inr ⟨y,List.mem_cons_of_mem _ hy,h3⟩
  ·rintro (h3 | ⟨y,hy,h3⟩)
   ·exact Or.inl (Or.inl h3)
   ·rcases List.mem_cons.1 hy with rfl | hy
    ·exact Or.inl (Or.inr h3)
    ·exact Or.inr ⟨y,hy,h3⟩
theorem ite_add (hn:n≤64) (c:Bool) (i k:Nat) (hi:i<n) (hk:k<n) (hr:r.length=n):(if c=true then addR r i k else r).length=n∧∀ a b,Bit (if c=true then addR r i k else r) a b ↔ Bit r a b∨(c=true∧a=i∧b=k):=by
 cases c
 ·exact⟨by simpa using hr,fun a b=>by simp⟩
 ·exact⟨by simpa [zIL] using hr,fun a b=>by simpa using add_bit hn hr i k hi hk a b⟩
theorem build_bit (hn:n≤64) (c:Nat→Nat→Bool) (F:List Nat→Nat→List Nat) (hF:∀ r i,F r i=(List.range n).foldl (fun r k=>if c i k=true then addR r (i:Int) (k:Int) else r) r) :
  Rel n ((List.range n).foldl F (newR n))∧∀ a b,Bit ((List.range n).foldl F (newR n)) a b ↔ a<n∧b<n∧c a b=true:=by
 have h:=fold_bit (n:=n) F (fun i a b=>a=i∧b<n∧c a b=true) (List.range n) (fun r i hi hr=>by
  rw[hF]
  have h:=fold_bit (n:=n) (fun r k=>if c i k=true then addR r (i:Int) (k:Int) else r) (fun k a b=>c i k=true∧a=i∧b=k) (List.range n) (fun r k hk hr=>ite_add hn _ i k (List.mem_range.1 hi) (List.mem_range.1 hk) hr) r hr
  refine⟨h.1,fun a b=>?_⟩
  rw[h.2]
  constructor
  ·rintro (h1 | ⟨k,hk,h1,rfl,rfl⟩)
   ·exact Or.inl h1
   ·exact Or.inr ⟨rfl,List.mem_range.1 hk,h1⟩
  ·rintro (h1 | ⟨rfl,h1,h2⟩)
   ·exact Or.inl h1
   ·exact Or.inr ⟨b,List.mem_range.2 h1,h2,rfl,rfl⟩) (newR n) (by simp[newR])
 have h2:∀ a b,Bit ((List.range n).foldl F (newR n)) a b ↔ a<n∧b<n∧c a b=true:=fun a b=>by
  rw[h.2]
  constructor
  ·rintro (h1 | ⟨k,hk,rfl,h1⟩)
   ·exact absurd h1 (new_bit _ _ _)
   ·exact⟨List.mem_range.1 hk,h1⟩
  ·rintro ⟨h1,h2⟩
   exact Or.inr ⟨a,List.mem_range.2 h1,rfl,h2⟩
 exact⟨⟨h.1,fun a b hb=>((h2 a b).1 hb).2.1⟩,h2⟩
theorem buildT_bit (hn:n≤64) (c:Nat→Nat→Bool) (F:List Nat→Nat→List Nat) (hF:∀ r i,F r i=(List.range n).foldl (fun r k=>if c i k=true then addR r (k:Int) (i:Int) else r) r) :
  Rel n ((List.range n).foldl F (newR n))∧∀ a b,Bit ((List.range n).foldl F (newR n)) a b ↔ a<n∧b<n∧c b a=true:=by
 have h:=fold_bit (n:=n) F (fun i a b=>b=i∧a<n∧c b a=true) (List.range n) (fun r i hi hr=>by
  rw[hF]
  have h:=fold_bit (n:=n) (fun r k=>if c i k=true then addR r (k:Int) (i:Int) else r) (fun k a b=>c i k=true∧a=k∧b=i) (List.range n) (fun r k hk hr=>ite_add hn _ k i (List.mem_range.1 hk) (List.mem_range.1 hi) hr) r hr
  refine⟨h.1,fun a b=>?_⟩
  rw[h.2]
  constructor
  ·rintro (h1 | ⟨k,hk,h1,rfl,rfl⟩)
   ·exact Or.inl h1
   ·exact Or.inr ⟨rfl,List.mem_range.1 hk,h1⟩
  ·rintro (h1 | ⟨rfl,h1,h2⟩)
   ·exact Or.inl h1
   ·exact Or.inr ⟨a,List.mem_range.2 h1,h2,rfl,rfl⟩) (newR n) (by simp[newR])
 have h2:∀ a b,Bit ((List.range n).foldl F (newR n)) a b ↔ a<n∧b<n∧c b a=true:=fun a b=>by
  rw[h.2]
  constructor
  ·rintro (h1 | ⟨k,hk,rfl,h1⟩)
   ·exact absurd h1 (new_bit _ _ _)
   ·exact⟨h1.1,List.mem_range.1 hk,h1.2⟩
  ·rintro ⟨h1,h3,h2⟩
   exact Or.inr ⟨b,List.mem_range.2 h3,rfl,h1,h2⟩
 exact⟨⟨h.1,fun a b hb=>((h2 a b).1 hb).2.1⟩,h2⟩
theorem turned_rb (hn:n≤64) (hr:Rel n r):Rel n (zJG r)∧∀ a b,Bit (zJG r) a b ↔ Bit r b a:=by
 have h:=buildT_bit hn (fun a b=>hasR r (a:Int) (b:Int)) (turnA r) (fun t a=>by
  unfold turnA turnB;rw[hr.len])
 unfold zJG
 rw[hr.len]
 refine⟨h.1,fun a b=>?_⟩
 rw[h.2]
 constructor
 ·rintro ⟨h1,h2,h3⟩;exact (hasR_bit r b a (by omega)).1 h3
 ·intro h1
  have h2:=h1.left
  have h3:=hr.lt _ _ h1
  exact⟨h3,by rw[← hr.len];exact h2,(hasR_bit r b a (by omega)).2 h1⟩
def TC (R:Nat→Nat→Prop) (a b:Nat):Prop:=∀ S:Nat→Nat→Prop,(∀ x y,R x y→S x y)→(∀ x y z,S x y→S y z→S x z)→S a b
theorem TC.base {R:Nat→Nat→Prop} {a b:Nat} (h:R a b):TC R a b:=fun _ hS _=>hS _ _ h
theorem TC.trans {R:Nat→Nat→Prop} {a b c:Nat} (h:TC R a b) (k:TC R b c):TC R a c:=fun S hS hT=>hT _ _ _ (h S hS hT) (k S hS hT)
theorem TC.map {R S:Nat→Nat→Prop} (f:Nat→Nat) (h:∀ x y,R x y→S (f x) (f y)) {a b:Nat} (k:TC R a b):TC S (f a) (f b) :=
 k (fun x y=>TC S (f x) (f y)) (fun x y hx=>TC.base (h x y hx)) (fun _ _ _=>TC.trans)
theorem TC.mono {R S:Nat→Nat→Prop} (h:∀ x y,R x y→S x y) {a b:Nat} (k:TC R a b):TC S a b:=TC.map (fun x=>x) h k
theorem closeB_fold (hn:n≤64) (b:Nat) (hb:b<n) (hr:Rel n r):∀ m,m≤n→Rel n ((List.range m).foldl (zJH b) r)∧∀ x y,Bit ((List.range m).foldl (zJH b) r) x y ↔ Bit r x y∨(x<m∧Bit r x b∧Bit r b y)
 | 0,_=>⟨hr,fun x y=>by simp⟩
 | m+1,hm=>by
  rw[zIm]
  obtain⟨i1,i2⟩:=closeB_fold hn b hb hr m (by omega)
  generalize (List.range m).foldl (zJH b) r=c at i1 i2
  have key:∀ x y,Bit (zJH b c m) x y ↔ Bit r x y∨(x<m+1∧Bit r x b∧Bit r b y):=by
   intro x y
   have e1:∀ z,Bit c z b ↔ Bit r z b:=fun z=>by
    rw[i2]
    constructor
    ·rintro (h | h)
     ·exact h
     ·exact h.2.1
    ·exact Or.inl
   have e2:∀ z,Bit c b z ↔ Bit r b z:=fun z=>by
    rw[i2]
    constructor
    ·rintro (h | h)
     ·exact h
     ·exact h.2.2
    ·exact Or.inl
   unfold zJH
   by_cases h:Bit c m b
   ·rw[if_pos ((hasR_bit c m b (by omega)).2 h),Bit,setB_get _ _ _ _ (by rw[i1.len];omega)]
    by_cases hx:x=m
    ·rw[if_pos hx,Nat.testBit_or,ofR_nat,ofR_nat,Bool.or_eq_true]
     have f1:(c.getD m 0).testBit y=true ↔ Bit c m y:=Iff.rfl
     have f2:(c.getD b 0).testBit y=true ↔ Bit c b y:=Iff.rfl
     rw[f1,f2,i2,e2,hx]
     constructor
     ·rintro ((h1 | h1) | h1)
      ·exact Or.inl h1
      ·exact Or.inr ⟨by omega,h1.2⟩
      ·exact Or.inr ⟨by omega,(e1 m).1 h,h1⟩
     ·rintro (h1 | h1)
      ·exact Or.inl (Or.inl h1)
      ·exact Or.inr h1.2.2
    ·rw[if_neg hx]
     have f1:(c.getD x 0).testBit y=true ↔ Bit c x y:=Iff.rfl
     rw[f1,i2]
     constructor
     ·rintro (h1 | h1)
      ·exact Or.inl h1
      ·exact Or.inr ⟨by omega,h1.2⟩
     ·rintro (h1 | h1)
      ·exact Or.inl h1
      ·exact Or.inr ⟨by omega,h1.2⟩
   ·rw[if_neg (fun h1=>h ((hasR_bit c m b (by omega)).1 h1)),i2]
    constructor
    ·rintro (h1 | h1)
     ·exact Or.inl h1
     ·exact Or.inr ⟨by omega,h1.2⟩
    ·rintro (h1 | h1)
     ·exact Or.inl h1
     ·by_cases hx:x=m
      ·exact absurd ((e1 m).2 (hx ▸ h1.2.1)) h
      ·exact Or.inr ⟨by omega,h1.2⟩
  refine⟨⟨by rw[closeB_len];exact i1.len,fun x y h=>?_⟩,key⟩
  rcases (key x y).1 h with h | h
  ·exact hr.lt _ _ h
  ·exact hr.lt _ _ h.2.2
theorem closed_fold (hn:n≤64) (hr:Rel n r):∀ m,m≤n→Rel n ((List.range m).foldl (zKv n) r)∧(∀ x y,Bit r x y→Bit ((List.range m).foldl (zKv n) r) x y)∧(∀ x y,Bit ((List.range m).foldl (zKv n) r) x y→TC (Bit r) x y)∧∀ k x y,k<m→Bit ((List.range m).foldl (zKv n) r) x k→Bit ((List.range m).foldl (zKv n) r) k y→Bit ((List.range m).foldl (zKv n) r) x y
 | 0,_=>⟨hr,fun _ _ h=>h,fun _ _ h=>TC.base h,fun k x y h=>absurd h (by omega)⟩
 | m+1,hm=>by
  rw[zIm]
  obtain⟨i1,i2,i3,i4⟩:=closed_fold hn hr m (by omega)
  generalize (List.range m).foldl (zKv n) r=c at i1 i2 i3 i4
  obtain⟨j1,j2⟩:=closeB_fold hn m (by omega) i1 n (Nat.le_refl _)
  have j3:∀ x y,Bit (zKv n c m) x y ↔ Bit c x y∨(Bit c x m∧Bit c m y):=fun x y=>by
   unfold zKv
   rw[j2]
   constructor
   ·rintro (h | h)
    ·exact Or.inl h
    ·exact Or.inr h.2
   ·rintro (h | h)
    ·exact Or.inl h
    ·exact Or.inr ⟨by rw[← i1.len];exact h.1.left,h⟩
  refine⟨j1,fun x y h=>(j3 x y).2 (Or.inl (i2 _ _ h)),fun x y h=>?_,fun k x y hk=>?_⟩
  ·rcases (j3 x y).1 h with h | h
   ·exact i3 _ _ h
   ·exact (i3 _ _ h.1).trans (i3 _ _ h.2)
  ·rw[j3,j3,j3]
   by_cases e:k=m
   ·rw[e]
    rintro (h | h) (h' | h')
    ·exact Or.inr ⟨h,h'⟩
    ·exact Or.inr ⟨h,h'.2⟩
    ·exact Or.inr ⟨h.1,h'⟩
    ·exact Or.inr ⟨h.1,h'.2⟩
   ·have T:=fun x y=>i4 k x y (by omega)
    rintro (h | h) (h' | h')
    ·exact Or.inl (T _ _ h h')
    ·exact Or.inr ⟨T _ _ h h'.1,h'.2⟩
    ·exact Or.inr ⟨h.1,T _ _ h.2 h'⟩
    ·exact Or.inr ⟨h.1,h'.2⟩
theorem closed_rb (hn:n≤64) (hr:Rel n r):Rel n (zJj r)∧∀ a b,Bit (zJj r) a b ↔ TC (Bit r) a b:=by
 have ho:=zCu hr hr
 obtain⟨h1,h2,h3,h4⟩:=closed_fold hn ho n (Nat.le_refl _)
 have e:∀ x y,Bit (orR r r) x y ↔ Bit r x y:=fun x y=>by rw[or_bit hr.len hr.len];simp
 unfold zJj
 rw[hr.len]
 refine⟨h1,fun a b=>⟨fun h=>(h3 _ _ h).mono (fun x y hx=>(e x y).1 hx),fun h=>?_⟩⟩
 refine h _ (fun x y hx=>h2 _ _ ((e x y).2 hx)) (fun x y z hx hy=>h4 y x z (h1.lt _ _ hx) hx hy)
theorem loops_bit (hn:n≤64) (hr:Rel n r):zIK r=true ↔ ∃ i,Bit r i i:=by
 unfold zIK
 rw[List.any_eq_true]
 constructor
 ·rintro ⟨i,hi,h⟩
  exact⟨i,(hasR_bit r i i (by have:=List.mem_range.1 hi;rw[hr.len] at this;omega)).1 h⟩
 ·rintro ⟨i,h⟩
  exact⟨i,List.mem_range.2 h.left,(hasR_bit r i i (by have:=hr.lt _ _ h;omega)).2 h⟩
end
end Q
end Go.Proofs.YtkmebkbpfmoeaaaGreat
