import Derived.Test.YtgceflcbckjjiaaGreatDoorD47
set_option linter.unusedVariables false
set_option linter.unusedSimpArgs false
set_option maxHeartbeats 12800000
namespace Go.Proofs.YtgceflcbckjjiaaGreatDoor
set_option maxRecDepth 100000
namespace P
def rowB (r want:List Int):Bool:=decide (r.length<1000)&&(List.range (want.length / 3)).all fun k=>decide (0≤want.getD (3*k) 0)&&decide (want.getD (3*k) 0<100)&&decide (0≤want.getD (3*k+1) 0)&&decide (want.getD (3*k+1) 0<100)&&decide (4*want.getD (3*k) 0+want.getD (3*k+1) 0<r.length)
def k17p (o:List Int):Bool:=rowB o kn17.2.1&&!wantTo o kn17.2.1 4
def k17s:List Thr:=(kernel kn17.1).1
def chunk (ts:List Thr) (j:Nat):List (List Int):=((Q.zKt ((Q.runs ts).map fun r=>(r.length:Int))).drop (32*j)).take 32
end P
end Go.Proofs.YtgceflcbckjjiaaGreatDoor
namespace Go.Proofs.YtgceflcbckjjiaaGreatDoor
set_option maxRecDepth 1000000
theorem zJN:P.srcK P.kn0=true:=by decide +kernel
theorem zJO:P.srcK P.kn1=true:=by decide +kernel
theorem zJP:P.srcK P.kn2=true:=by decide +kernel
theorem zJQ:P.srcK P.kn3=true:=by decide +kernel
theorem zJR:P.srcK P.kn4=true:=by decide +kernel
theorem zJS:P.srcK P.kn5=true:=by decide +kernel
theorem zJT:P.srcK P.kn6=true:=by decide +kernel
theorem zJU:P.srcK P.kn7=true:=by decide +kernel
theorem zJV:P.srcK P.kn8=true:=by decide +kernel
theorem zJW:P.srcK P.kn9=true:=by decide +kernel
theorem zJj:P.srcK P.kn10=true:=by decide +kernel
theorem zJk:P.srcK P.kn11=true:=by decide +kernel
theorem zJl:P.srcK P.kn12=true:=by decide +kernel
theorem zJm:P.srcK P.kn13=true:=by decide +kernel
theorem zJn:P.srcK P.kn14=true:=by decide +kernel
theorem zJo:P.srcK P.kn15=true:=by decide +kernel
theorem zJp:P.srcK P.kn16=true:=by decide +kernel
theorem zJq:P.srcK P.kn20=true:=by decide +kernel
theorem zJr:P.srcK P.kn21=true:=by decide +kernel
theorem zJs:P.srcK P.kn22=true:=by decide +kernel
theorem zJt:P.srcK P.kn23=true:=by decide +kernel
theorem zJu:P.srcK P.kn24=true:=by decide +kernel
theorem zJv:P.srcK P.kn25=true:=by decide +kernel
theorem zJw:P.srcK P.kn26=true:=by decide +kernel
theorem zJx:P.srcK P.kn27=true:=by decide +kernel
theorem zJy:P.srcK P.kn28=true:=by decide +kernel
theorem zJz:P.srcK P.kn18=true:=by decide +kernel
theorem zJA:P.srcK P.kn19=true:=by decide +kernel
theorem zJB:Q.srcIn P.k17p P.k17s (P.chunk P.k17s 0)=true:=by decide +kernel
theorem zJC:Q.srcIn P.k17p P.k17s (P.chunk P.k17s 1)=true:=by decide +kernel
theorem zJD:Q.srcIn P.k17p P.k17s (P.chunk P.k17s 2)=true:=by decide +kernel
theorem zJE:Q.srcIn P.k17p P.k17s (P.chunk P.k17s 3)=true:=by decide +kernel
theorem zJF:Q.srcIn P.k17p P.k17s (P.chunk P.k17s 4)=true:=by decide +kernel
theorem zJG:Q.srcIn P.k17p P.k17s (P.chunk P.k17s 5)=true:=by decide +kernel
theorem zJH:Q.srcIn P.k17p P.k17s (P.chunk P.k17s 6)=true:=by decide +kernel
theorem zJI:Q.srcIn P.k17p P.k17s (P.chunk P.k17s 7)=true:=by decide +kernel
theorem zJJ:((P.kernel P.kn17.1).2.1==0&&(P.kernel P.kn17.1).2.2==0&&Q.kerB P.k17s&&decide (Q.candN P.k17s 1<100000000)&&decide ((Q.zKt ((Q.runs P.k17s).map fun r=>(r.length:Int))).length≤256))=true:=by decide +kernel
namespace Q
def someIn (ts:List P.Thr) (l:List (List Int)):Bool:=l.any fun ds=>(candsIn (zKa (runs ts) ds) (zKw (zKa (runs ts) ds).events)).any fun c=>(zKt (zKe c.wd.events (zJX c.wd.events))).any fun d=>c.facts.mayBe c.reads (c.facts.before c.reads) (zKp (zJX c.wd.events) d)
end Q
theorem zJK:Q.someIn P.k17s (P.chunk P.k17s 0)=true:=by decide +kernel
end Go.Proofs.YtgceflcbckjjiaaGreatDoor
namespace Go.Proofs.YtgceflcbckjjiaaGreatDoor
open Go Go.RowKit
set_option maxRecDepth 100000
namespace P
def hasAt (a t:List UInt8) (i:Nat):Bool:=decide (i+t.length≤a.length)&&((a.drop i).take t.length==t)
def hasB (a t:List UInt8):Bool:=(List.range (a.length+1)).any (hasAt a t)
theorem hasB_false {a t:List UInt8} (h:∀ i,i+t.length≤a.length→hasAt a t i=false):hasB a t=false:=by
 unfold hasB
 rw[List.any_eq_false]
 intro i _
 by_cases hi:i+t.length≤a.length
 ·rw[h i hi];simp
 ·unfold hasAt;simp[hi]
theorem hasB_true {a t:List UInt8} (i:Nat) (h:hasAt a t i=true):hasB a t=true:=by
 unfold hasB
 rw[List.any_eq_true]
 have h1:=h
 unfold hasAt at h1
 simp only[Bool.and_eq_true,decide_eq_true_eq] at h1
 exact⟨i,by simp;omega,h⟩
end P
theorem zBG (s t:ByteArray) (w:World) (hs:s.size≤1000000000) (ht:t.size≤1000) :
  Calls Tryz.prog 17 #[.string s,.string t] w fun e w'=>e=.returned (.bool (P.hasB s.toList t.toList))∧w'=w:=by
 go_enter Tryz.func17,Tryz.ntmps17
 go_wp2
 go_loopw [5] (fun iv wr=>∃ i:Nat,i≤s.size+1∧iv=.int .i64 (i:Int)∧Hid (∀ j,j<i→j+t.size≤s.size→P.hasAt s.toList t.toList j=false)∧wr=w) (fun iv _=>s.size+1-(intOf iv).toNat)
 case atStart=>exact⟨0,Nat.zero_le _,rfl,fun j hj=>by omega,rfl⟩
 case round =>
  obtain⟨i,hi,rfl,HN,rfl⟩:=hrel
  by_cases hlt:i+t.size≤s.size
  ·have hlt':(i:Int)+(t.size:Int)≤(s.size:Int):=by omega
   have hi0:(0:Int)≤(i:Int):=by omega
   have hii:(i:Int)≤(i:Int)+(t.size:Int):=by omega
   have hex:∀ wx,(Instr.slice 9 (.string s) (some (.int .i64 (i:Int))) (some (.int .i64 ((i:Int)+(t.size:Int)))) none).run Tryz.prog wx=.ok (.string (s.extract i (i+t.size))) wx:=fun wx=>by
    rw[run_slice_string wx 9 s .i64 .i64 _ _ Tryz.underlying9 (by omega) (by omega) (by omega),show ((i:Int)).toNat=i by omega,show ((i:Int)+(t.size:Int)).toNat=i+t.size by omega]
   have HX:Hid (P.hasAt s.toList t.toList i=((s.extract i (i+t.size)).toList==t.toList)):=by
    unfold Hid P.hasAt
    rw[zAu,zAu,zBu,decide_eq_true hlt,Bool.true_and,List.drop_take,show i+t.size-i=t.size by omega]
   cases hq:((s.extract i (i+t.size)).toList==t.toList)
   ·have HN2:Hid (∀ j,j<i+1→j+t.size≤s.size→P.hasAt s.toList t.toList j=false):=fun j hj hjs=>by
     by_cases hji:j=i
     ·subst hji;rw[HX.out,hq]
     ·exact HN.out j (by omega) hjs
    go_wp2
    go_roundw
    case rel=>exact⟨i+1,by omega,by go_num,HN2,by first | rfl | trivial⟩
    case measure=>simp[intOf];omega
   ·have HT:Hid (P.hasB s.toList t.toList=true):=P.hasB_true i (by rw[HX.out,hq])
    go_wp2
    go_ret
    rw[HT.out];exact⟨rfl,rfl⟩
  ·have hnlt:decide ((i:Int)+(t.size:Int)≤(s.size:Int))=false:=decide_eq_false (by omega)
   have HT:Hid (P.hasB s.toList t.toList=false):=P.hasB_false (fun j hj=>by
    rw[zAu,zAu] at hj
    exact HN.out j (by omega) hj)
   go_wp2
   go_ret
   rw[HT.out];exact⟨rfl,rfl⟩
end Go.Proofs.YtgceflcbckjjiaaGreatDoor
namespace Go.Proofs.YtgceflcbckjjiaaGreatDoor
namespace P
theorem splitAt_app (c:UInt8) (r:List UInt8):∀ p:List UInt8,zJZ c (p++c::r)=zJZ c p++zJZ c r
 | []=>by rw[List.nil_append,splitAt_cons_eq];rfl
 | x::p=>by
  have ih:=splitAt_app c r p
  by_cases hx:x=c
  ·subst hx
   rw[List.cons_append,splitAt_cons_eq,splitAt_cons_eq,ih];rfl
  ·cases hs:zJZ c p with
   | nil=>exact absurd hs (zLr _ _)
   | cons a b =>
    rw[List.cons_append,splitAt_cons_ne c x p hx a b hs,splitAt_cons_ne c x (p++c::r) hx a (b++zJZ c r) (by rw[ih,hs];rfl)];rfl
theorem splitAt_none (c:UInt8):∀ l:List UInt8,c ∉ l→zJZ c l=[l]
 | [],_=>rfl
 | x::l,h=>by
  have h1:x≠c:=fun e=>h (by rw[e];simp)
  have h2:=splitAt_none c l (fun e=>h (List.mem_cons_of_mem _ e))
  exact splitAt_cons_ne c x l h1 l [] h2
theorem splitAt_count (c:UInt8):∀ l:List UInt8,(zJZ c l).length=l.count c+1
 | []=>rfl
 | x::l=>by
  have ih:=splitAt_count c l
  by_cases hx:x=c
  ·subst hx
   rw[splitAt_cons_eq,List.length_cons,ih,List.count_cons_self]
  ·cases hs:zJZ c l with
   | nil=>exact absurd hs (zLr _ _)
   | cons a b =>
    rw[splitAt_cons_ne c x l hx a b hs,List.length_cons,List.count_cons_of_ne (by simpa using hx)]
    rw[hs,List.length_cons] at ih
    exact ih
def joinC (c:UInt8):List (List UInt8)→List UInt8
 | []=>[]
 | [a]=>a
 | a::b::r=>a++c::joinC c (b::r)
theorem joinC_cons (c:UInt8) (a:List UInt8) (l:List (List UInt8)) (h:l≠[]):joinC c (a::l)=a++c::joinC c l:=by
 cases l with
 | nil=>exact absurd rfl h
 | cons b r=>rfl
theorem join_split (c:UInt8):∀ l:List UInt8,joinC c (zJZ c l)=l
 | []=>rfl
 | x::l=>by
  have ih:=join_split c l
  by_cases hx:x=c
  ·subst hx
   rw[splitAt_cons_eq,joinC_cons _ _ _ (zLr _ _),ih];rfl
  ·cases hs:zJZ c l with
   | nil=>exact absurd hs (zLr _ _)
   | cons a b =>
    rw[splitAt_cons_ne c x l hx a b hs]
    rw[hs] at ih
    cases b with
    | nil=>simp only[joinC] at ih ⊢;rw[ih]
    | cons b1 b2=>simp only[joinC] at ih ⊢;rw[← ih];rfl
theorem joinC_app (c:UInt8) (q:List (List UInt8)) (hq:q≠[]):∀ p:List (List UInt8),p≠[]→joinC c (p++q)=joinC c p++c::joinC c q
 | [],h=>absurd rfl h
 | [a],_=>joinC_cons c a q hq
 | a::b::p,_=>by
  rw[List.cons_append,joinC_cons c a (b::p++q) (by simp),joinC_app c q hq (b::p) (by simp),joinC_cons c a (b::p) (by simp),List.append_assoc];rfl
theorem hasB_iff (a t:List UInt8):hasB a t=true ↔ ∃ p q,a=p++(t++q):=by
 constructor
 ·intro h
  unfold hasB at h
  rw[List.any_eq_true] at h
  obtain⟨i,_,hi⟩:=h
  unfold hasAt at hi
  simp only[Bool.and_eq_true,decide_eq_true_eq,beq_iff_eq] at hi
  refine⟨a.take i,(a.drop i).drop t.length,?_⟩
  conv=>lhs;rw[← List.take_append_drop i a,← List.take_append_drop t.length (a.drop i),hi.2]
 ·rintro ⟨p,q,rfl⟩
  apply hasB_true p.length
  unfold hasAt
  simp
theorem has_word (x W:List UInt8) (h32:(32:UInt8) ∉ W):hasB (x++[10]) (32::(W++[32]))=((zJZ 32 x).tail.dropLast).contains W:=by
 obtain⟨a,b,hab⟩:∃ a b,zJZ 32 x=a++[b]:=⟨(zJZ 32 x).dropLast,(zJZ 32 x).getLast (zLr _ _),(List.dropLast_concat_getLast (zLr _ _)).symm⟩
 have h10:zJZ 32 (x++[10])=a++[b++[10]]:=by
  have:=zLt 32 10 x a b hab
  rw[if_neg (by decide)] at this;exact this
 rw[Bool.eq_iff_iff,hasB_iff,List.contains_iff_mem]
 constructor
 ·rintro ⟨u,v,he⟩
  have e1:x++[10]=u++32::(W++32::v):=by rw[he];simp
  rw[e1,splitAt_app,splitAt_app,splitAt_none 32 W h32] at h10
  obtain⟨a1,b1,hv⟩:∃ a b,zJZ 32 v=a++[b]:=⟨(zJZ 32 v).dropLast,(zJZ 32 v).getLast (zLr _ _),(List.dropLast_concat_getLast (zLr _ _)).symm⟩
  rw[hv,show zJZ 32 u++([W]++(a1++[b1]))=(zJZ 32 u++W::a1)++[b1] by simp] at h10
  have ha:=(List.append_inj' h10 rfl).1
  rw[hab,← ha]
  cases hu:zJZ 32 u with
  | nil=>exact absurd hu (zLr _ _)
  | cons p q =>
   rw[show p::q++W::a1++[b]=p::((q++W::a1)++[b]) by simp,List.tail_cons,List.dropLast_concat]
   simp
 ·intro hm
  rw[hab] at hm
  cases a with
  | nil=>simp at hm
  | cons p q =>
   simp at hm
   obtain⟨q1,q2,hq⟩:=List.append_of_mem hm
   have hx:=join_split 32 x
   rw[hab,hq,show p::(q1++W::q2)++[b]=(p::q1)++([W]++(q2++[b])) by simp,joinC_app 32 _ (by simp) _ (by simp),joinC_app 32 _ (by simp) _ (by simp)] at hx
   refine⟨joinC 32 (p::q1),joinC 32 (q2++[b])++[10],?_⟩
   rw[← hx]
   simp[joinC]
theorem row_in {s x:List UInt8} (h:x∈(zJZ 10 s).dropLast):∃ u v,s=u++(x++10::v):=by
 obtain⟨q1,q2,hq⟩:=List.append_of_mem h
 have hs:=join_split 10 s
 have hab:=(List.dropLast_concat_getLast (zLr 10 s)).symm
 rw[hab,hq] at hs
 rw[show q1++x::q2++[(zJZ 10 s).getLast (zLr 10 s)]=q1++([x]++(q2++[(zJZ 10 s).getLast (zLr 10 s)])) by simp] at hs
 cases q1 with
 | nil =>
  rw[List.nil_append,joinC_app 10 _ (by simp) _ (by simp)] at hs
  exact⟨[],_,by rw[← hs];rfl⟩
 | cons p q =>
  rw[joinC_app 10 _ (by simp) _ (by simp),joinC_app 10 _ (by simp) _ (by simp)] at hs
  exact⟨joinC 10 (p::q)++[10],joinC 10 (q2++[(zJZ 10 s).getLast (zLr 10 s)]),by
   conv=>lhs;rw[← hs]
   simp[joinC]⟩
theorem row_has {s x W y:List UInt8} (h:x∈(zJZ 10 s).dropLast) (hx:x=y++W):hasB s (W++[10])=true:=by
 obtain⟨u,v,hs⟩:=row_in h
 rw[hasB_iff]
 exact⟨u++y,v,by rw[hs,hx];simp⟩
theorem last_word {x a W:List UInt8} {l:List (List UInt8)} (h:zJZ 32 x=a::(l++[W])):∃ y,x=y++32::W:=by
 have hx:=join_split 32 x
 rw[h,show a::(l++[W])=(a::l)++[W] by rfl,joinC_app 32 _ (by simp) _ (by simp)] at hx
 exact⟨joinC 32 (a::l),hx.symm⟩
end P
namespace P
theorem varOf_word {p:List UInt8} (h:(varOf p).2=true):p=[120]∨p=[121]∨p=[122]:=by
 unfold varOf at h
 split at h
 ·rename_i e;exact Or.inl (by simpa using e)
 ·split at h
  ·rename_i e;exact Or.inr (Or.inl (by simpa using e))
  ·split at h
   ·rename_i e;exact Or.inr (Or.inr (by simpa using e))
   ·simp at h
theorem register_word {p:List UInt8} (h:(zKc p).2=true):∃ d,p=[114,d]:=by
 match p,h with
 | [],h=>simp[zKc] at h
 | [_],h=>simp[zKc] at h
 | [c,d],h =>
  simp only[zKc] at h
  split at h
  ·rename_i e;exact⟨d,by rw[e]⟩
  ·simp at h
 | _::_::_::_,h=>simp[zKc] at h
theorem operand_word {p:List UInt8} (h:(zKv p).2=true):p.length≤2:=by
 match p,h with
 | [],_=>simp
 | [_],_=>simp
 | [_,_],_=>simp
 | a::b::c::r,h =>
  simp only[zKv] at h
  obtain⟨d,hd⟩:=register_word h
  simp at hd
theorem sign_word {p:List UInt8} (h:(sign p).2=true):p.length≤2:=by
 unfold sign at h
 split at h
 ·rename_i e;rw[show p=[43] by simpa using e];simp
 ·split at h
  ·rename_i e;rw[show p=[45] by simpa using e];simp
  ·split at h
   ·rename_i e;rw[show p=[61,61] by simpa using e];simp
   ·simp at h
def ordW (o:Int):List UInt8:=if o==0 then [119,101,97,107] else if o==1 then [114,101,108,97,120,101,100] else if o==2 then [97,99,113,117,105,114,101] else if o==3 then [114,101,108,101,97,115,101] else if o==4 then [97,99,113,114,101,108] else [115,99]
theorem order_word {o:List UInt8} (h:(order o).2=true):o=ordW (order o).1∧((order o).1=0∨(order o).1=1∨(order o).1=2∨(order o).1=3∨(order o).1=4∨(order o).1=5):=by
 unfold order at h ⊢
 repeat' split at h
 all_goals first
  | (simp at h;done)
  | (rename_i e;have e2:=eq_of_beq e;subst e2;decide)
theorem scope_word {o:List UInt8} (h:(scope o).2=true):(o=[98,108,111,99,107]∧(scope o).1=0)∨(o=[100,101,118,105,99,101]∧(scope o).1=1):=by
 unfold scope at h ⊢
 repeat' split at h
 all_goals first
  | (simp at h;done)
  | (rename_i e;have e2:=eq_of_beq e;subst e2;decide)
theorem ordering_word {st st':Stm} {r:List (List UInt8)} (h:zLd st r=(st',true)):(∃ o,r=[o]∧o=ordW 0∧st'={ st with order:=0 })∨∃ o s,r=[o,s]∧(order o).2=true∧(scope s).2=true∧(order o).1≠0∧st'={ st with order:=(order o).1,scope:=(scope s).1 }∧zMw st.kind (order o).1=true:=by
 cases r with
 | nil=>simp[zLd] at h
 | cons o r =>
  simp only[zLd] at h
  split at h
  ·rename_i hc
   simp only[Bool.and_eq_true] at hc
   split at h
   ·rename_i h0
    simp only[Prod.mk.injEq] at h
    have hr:r=[]:=by simpa using h.2
    subst hr
    have h1:=(order_word hc.1).1
    rw[show (order o).1=0 by simpa using h0] at h1
    exact Or.inl ⟨o,rfl,h1,h.1.symm⟩
   ·rename_i h0
    match r,h with
    | [],h=>simp at h
    | [s],h =>
     simp only[Prod.mk.injEq] at h
     exact Or.inr ⟨o,s,rfl,hc.1,h.2,by simpa using h0,h.1.symm,hc.2⟩
    | _::_::_,h=>simp at h
  ·simp at h
def wordOf (o:Int) (ws:List (List UInt8)):Bool:=(ws.tail.dropLast).contains (ordW o)
structure Says (ws:List (List UInt8)) (st:Stm):Prop where
 w2:wordOf 2 ws=(st.order==2)
 w3:wordOf 3 ws=(st.order==3)
 w4:wordOf 4 ws=(st.order==4)
 fen:st.kind=4→ws.head?=some [102,101,110,99,101]
 nof:st.kind≠4→∃ c r q,ws=(c::r)::q∧c≠102
 none:isAcc st.kind=false→st.kind≠4→st.order=0
 weak:isAcc st.kind=true→st.order=0→∃ a l,ws=a::(l++[ordW 0])
 blk:isAcc st.kind=true→st.order≠0→st.scope=0→∃ a l,ws=a::(l++[[98,108,111,99,107]])
 frel:st.kind=4→st.order=4∨st.order=5
end P
namespace P
theorem var_len {p:List UInt8} (h:(varOf p).2=true):p.length≤2:=by
 rcases varOf_word h with rfl | rfl | rfl<;>simp
theorem ordW_inj {a o:Int} (ha:a=0∨a=1∨a=2∨a=3∨a=4∨a=5) (ho:o=2∨o=3∨o=4):(ordW a==ordW o)=(a==o):=by
 rcases ho with rfl | rfl | rfl<;>rcases ha with rfl | rfl | rfl | rfl | rfl | rfl<;>decide
theorem word_none {a z:List UInt8} {l:List (List UInt8)} (h:∀ o,o=2∨o=3∨o=4→∀ p∈l,ordW o≠p) (o:Int) (ho:o=2∨o=3∨o=4):wordOf o (a::(l++[z]))=false:=by
 unfold wordOf
 rw[List.tail_cons,List.dropLast_concat]
 rw[← Bool.not_eq_true,List.contains_iff_mem]
 intro hm
 exact h o ho _ hm rfl
theorem word_one {a z w:List UInt8} {l:List (List UInt8)} {k:Int} (h:∀ o,o=2∨o=3∨o=4→∀ p∈l,ordW o≠p) (hw:w=ordW k) (hk:k=0∨k=1∨k=2∨k=3∨k=4∨k=5) (o:Int) (ho:o=2∨o=3∨o=4):wordOf o (a::((l++[w])++[z]))=(k==o):=by
 unfold wordOf
 rw[List.tail_cons,List.dropLast_concat,← ordW_inj hk ho,Bool.eq_iff_iff,List.contains_iff_mem]
 constructor
 ·intro hm
  rcases List.mem_append.1 hm with h1 | h1
  ·exact absurd rfl (h o ho _ h1)
  ·simp at h1
   rw[h1,hw];simp
 ·intro he
  have he2:ordW k=ordW o:=by simpa using he
  rw[hw,he2];simp
theorem no_word {l:List (List UInt8)} (h:∀ p∈l,p.length≤5):∀ o,o=2∨o=3∨o=4→∀ p∈l,ordW o≠p:=fun o ho p hp e=>by
 have:=h p hp
 rcases ho with rfl | rfl | rfl<;>(rw[← e] at this;simp[ordW] at this)
theorem says_acc {st st':Stm} {c:List UInt8} {l r:List (List UInt8)} (hl:∀ p∈l,p.length≤5) (hk:isAcc st.kind=true) (hc:∃ x y,c=x::y∧x≠102) (ho:zLd st r=(st',true)):Says (c::(l++r)) st':=by
 have hk4:st.kind≠4:=fun e=>by rw[e] at hk;simp[isAcc] at hk
 obtain⟨x,y,hc,hx⟩:=hc
 rcases ordering_word ho with ⟨o,rfl,h0,rfl⟩ | ⟨o,s,rfl,h1,h2,h3,rfl,h5⟩
 ·refine⟨?_,?_,?_,fun e=>absurd e hk4,fun _=>⟨x,y,_,by rw[hc],hx⟩,fun e=>?_,fun _ _=>⟨c,l,by rw[h0]⟩,fun _ e=>absurd rfl e,fun e=>absurd e hk4⟩
  ·exact word_none (no_word hl) 2 (by simp)
  ·exact word_none (no_word hl) 3 (by simp)
  ·exact word_none (no_word hl) 4 (by simp)
  ·rw[hk] at e;cases e
 ·obtain⟨hw,hr⟩:=order_word h1
  have e:l++[o,s]=(l++[o])++[s]:=by simp
  rw[e]
  refine⟨?_,?_,?_,fun e=>absurd e hk4,fun _=>⟨x,y,_,by rw[hc],hx⟩,fun e=>?_,fun _ e=>absurd e h3,fun _ _ e=>?_,fun e=>absurd e hk4⟩
  ·exact word_one (no_word hl) hw hr 2 (by simp)
  ·exact word_one (no_word hl) hw hr 3 (by simp)
  ·exact word_one (no_word hl) hw hr 4 (by simp)
  ·rw[hk] at e;cases e
  ·rcases scope_word h2 with ⟨e1,_⟩ | ⟨_,e2⟩
   ·exact⟨c,l++[o],by rw[e1]⟩
   ·rw[e2] at e;cases e
theorem says_plain {ws:List (List UInt8)} {st:Stm} (h2:∀ o,o=2∨o=3∨o=4→wordOf o ws=false) (ho:st.order=0) (hk:isAcc st.kind=false) (hk4:st.kind≠4) (hc:∃ c r q,ws=(c::r)::q∧c≠102):Says ws st :=
 ⟨by rw[h2 2 (by simp),ho];rfl,by rw[h2 3 (by simp),ho];rfl,by rw[h2 4 (by simp),ho];rfl,fun e=>absurd e hk4,fun _=>hc,fun _ _=>ho,fun e=>(by rw[hk] at e;cases e),fun e=>(by rw[hk] at e;cases e),fun e=>absurd e hk4⟩
theorem says_step {st st':Stm} {c e d:List UInt8} {r:List (List UInt8)} {k:Int} (hc:∃ x y,c=x::y∧x≠102) (he:e.length≤5) (hd:d.length≤5) (hk:isAcc k=true) (h:step st k r=(st',true)):Says (c::e::d::r) st':=by
 match r,h with
 | [],h=>simp[step] at h
 | [_],h=>simp[step] at h
 | p::v::r,h =>
  simp only[step] at h
  split at h
  ·rename_i ht
   simp only[target] at ht h
   split at ht
   ·rename_i hv
    rw[if_pos hv] at h
    refine says_acc (l:=[e,d,p,v]) (fun q hq=>?_) ?_ hc h
    ·simp at hq
     rcases hq with rfl | rfl | rfl | rfl
     ·exact he
     ·exact hd
     ·have:=var_len hv;omega
     ·have:=operand_word ht;omega
    ·exact hk
   ·simp at ht
  ·simp at h
theorem says_sum {d0:Int} {st':Stm} {c e a:List UInt8} {r:List (List UInt8)} (hc:∃ x y,c=x::y∧x≠102) (he:e.length≤5) (h:sum ⟨0,0,d0,0,Opd.zero,Opd.zero,0,0,0⟩ (a::r)=(st',true)):Says (c::e::a::r) st':=by
 obtain⟨x,y,hcx,hx⟩:=hc
 match r,h with
 | [],h =>
  simp only[sum] at h
  split at h
  ·simp only[Prod.mk.injEq] at h
   rw[← h.1]
   refine says_plain (fun o ho=>?_) rfl rfl (show (6:Int)≠4 by decide) ⟨x,y,_,by rw[hcx],hx⟩
   exact word_none (l:=[e]) (no_word (fun p hp=>by simp at hp;subst hp;exact he)) o ho
  ·simp at h
 | [_],h=>simp[sum] at h
 | [s,b],h =>
  simp only[sum] at h
  split at h
  ·rename_i ha
   split at h
   ·rename_i hs
    simp only[Prod.mk.injEq] at h
    rw[← h.1]
    have hk:(sign s).1=7∨(sign s).1=8∨(sign s).1=9:=by
     unfold sign at hs ⊢
     repeat' split at hs
     all_goals first
      | (simp at hs;done)
      | (rename_i e1;have e2:=eq_of_beq e1;subst e2;decide)
    refine says_plain (fun o ho=>?_) rfl ?_ ?_ ⟨x,y,_,by rw[hcx],hx⟩
    ·exact word_none (l:=[e,a,s]) (no_word (fun p hp=>by
      simp at hp
      rcases hp with rfl | rfl | rfl
      ·exact he
      ·have:=operand_word ha;omega
      ·have:=sign_word hs;omega)) o ho
    ·simp only[]
     rcases hk with h1 | h1 | h1<;>(rw[h1];rfl)
    ·simp only[]
     rcases hk with h1 | h1 | h1<;>(rw[h1];decide)
   ·simp at h
  ·simp at h
 | _::_::_::_,h=>simp[sum] at h
theorem statement_says {ws:List (List UInt8)} {st:Stm} (h:zKm ws=(st,true)):Says ws st:=by
 cases ws with
 | nil=>simp[zKm] at h
 | cons c r =>
  simp only[zKm] at h
  split at h
  ·rename_i hc
   have hc2:=eq_of_beq hc
   match r,h with
   | [],h=>simp[store] at h
   | [_],h=>simp[store] at h
   | p::v::r,h =>
    simp only[store] at h
    split at h
    ·rename_i ht
     simp only[target] at ht h
     split at ht
     ·rename_i hv
      rw[if_pos hv] at h
      refine says_acc (l:=[p,v]) (fun q hq=>?_) ?_ ⟨115,_,hc2,by decide⟩ h
      ·simp at hq
       rcases hq with rfl | rfl
       ·have:=var_len hv;omega
       ·have:=operand_word ht;omega
      ·rfl
     ·simp at ht
    ·simp at h
  ·split at h
   ·rename_i hc
    have hc2:=eq_of_beq hc
    simp only[fence] at h
    rcases ordering_word h with ⟨o,rfl,h0,rfl⟩ | ⟨o,s,rfl,h1,h2,h3,rfl,h5⟩
    ·simp[zLd,h0,ordW,order,zMw] at h
    ·obtain⟨hw,hr⟩:=order_word h1
     have h45:(order o).1=4∨(order o).1=5:=by
      simp[zMw] at h5
      exact h5
     refine⟨?_,?_,?_,fun _=>by rw[hc2];rfl,fun e=>absurd rfl e,fun _ e=>absurd rfl e,fun e=>by simp[isAcc] at e,fun e=>by simp[isAcc] at e,fun _=>h45⟩
     ·exact word_one (l:=[]) (fun _ _ p hp=>by simp at hp) hw hr 2 (by simp)
     ·exact word_one (l:=[]) (fun _ _ p hp=>by simp at hp) hw hr 3 (by simp)
     ·exact word_one (l:=[]) (fun _ _ p hp=>by simp at hp) hw hr 4 (by simp)
   ·split at h
    ·rename_i hc
     have hc2:=eq_of_beq hc
     simp only[Prod.mk.injEq] at h
     have hr:r=[]:=by simpa using h.2
     subst hr
     rw[← h.1]
     exact says_plain (fun _ _=>rfl) rfl rfl (by decide) ⟨98,_,_,by rw[hc2],by decide⟩
    ·split at h
     ·rename_i hc
      have hc2:=eq_of_beq hc
      match r,h with
      | [],h=>simp[zLE] at h
      | [a],h =>
       simp only[zLE,Prod.mk.injEq] at h
       rw[← h.1]
       exact says_plain (fun _ _=>rfl) rfl rfl (show (10:Int)≠4 by decide) ⟨105,_,_,by rw[hc2],by decide⟩
      | _::_::_,h=>simp[zLE] at h
     ·split at h
      ·rename_i hc
       have hc2:=eq_of_beq hc
       simp only[Prod.mk.injEq] at h
       have hr:r=[]:=by simpa using h.2
       subst hr
       rw[← h.1]
       exact says_plain (fun _ _=>rfl) rfl rfl (by decide) ⟨101,_,_,by rw[hc2],by decide⟩
      ·match r,h with
       | [],h=>simp[zKl] at h
       | [_],h=>simp[zKl] at h
       | e::d::r,h =>
        simp only[zKl] at h
        split at h
        ·rename_i he
         have he2:=eq_of_beq he
         split at h
         ·rename_i hreg
          obtain⟨g,hg⟩:=register_word hreg
          have hc0:∃ x y,c=x::y∧x≠102:=⟨114,[g],hg,by decide⟩
          split at h
          ·rename_i hd
           have hd2:=eq_of_beq hd
           cases r with
           | nil=>simp[load] at h
           | cons v r =>
            simp only[load] at h
            split at h
            ·rename_i hv
             refine says_acc (l:=[e,d,v]) (fun q hq=>?_) rfl hc0 h
             simp at hq
             rcases hq with rfl | rfl | rfl
             ·rw[he2];simp
             ·rw[hd2];simp
             ·have:=var_len hv;omega
            ·simp at h
          ·split at h
           ·rename_i hd
            have hd2:=eq_of_beq hd
            exact says_step hc0 (by rw[he2];simp) (by rw[hd2];simp) (by rfl) h
           ·split at h
            ·rename_i hd
             have hd2:=eq_of_beq hd
             exact says_step hc0 (by rw[he2];simp) (by rw[hd2];simp) (by rfl) h
            ·exact says_sum hc0 (by rw[he2];simp) h
         ·simp at h
        ·simp at h
end P
end Go.Proofs.YtgceflcbckjjiaaGreatDoor
