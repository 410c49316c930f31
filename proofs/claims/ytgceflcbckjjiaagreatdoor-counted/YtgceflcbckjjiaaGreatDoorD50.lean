import Derived.Test.YtgceflcbckjjiaaGreatDoorD49
set_option linter.unusedVariables false
set_option linter.unusedSimpArgs false
set_option maxHeartbeats 12800000
namespace Go.Proofs.YtgceflcbckjjiaaGreatDoor
namespace P
def addS (st:Stm):Nat:=if isAcc st.kind then (if st.order==2||st.order==3 then 1 else if st.order==4 then 2 else 0) else 0
def isStep (st:Stm):Bool:=isAcc st.kind&&st.order==4
def totS (f:Stm→Nat):List Stm→Nat
 | []=>0
 | s::r=>f s+totS f r
def totT (f:Stm→Nat):List Thr→Nat
 | []=>0
 | t::r=>1+totS f t.stmts+totT f r
def anyT (g:Stm→Bool):List Thr→Bool
 | []=>false
 | t::r=>t.stmts.any g||anyT g r
theorem totS_app (f:Stm→Nat):∀ (a b:List Stm),totS f (a++b)=totS f a+totS f b
 | [],b=>by simp[totS]
 | s::a,b=>by rw[List.cons_append,totS,totS,totS_app f a b];omega
theorem totT_new (f:Stm→Nat) (t:Thr) (h:t.stmts=[]):∀ ts,totT f (ts++[t])=totT f ts+1
 | []=>by simp[totT,h,totS]
 | a::ts=>by rw[List.cons_append,totT,totT,totT_new f t h ts];omega
theorem any_new (g:Stm→Bool) (t:Thr) (h:t.stmts=[]):∀ ts,anyT g (ts++[t])=anyT g ts
 | []=>by simp[anyT,h]
 | a::ts=>by rw[List.cons_append,anyT,anyT,any_new g t h ts]
theorem totT_put (f:Stm→Nat) (s:Stm):∀ ts,ts≠[]→totT f (putLast ts s)=totT f ts+f s
 | [],h=>absurd rfl h
 | [t],_=>by simp[putLast,totT,totS_app,totS];omega
 | a::b::ts,_=>by rw[putLast,totT,totT,totT_put f s (b::ts) (by simp)];omega
theorem any_put (g:Stm→Bool) (s:Stm):∀ ts,ts≠[]→anyT g (putLast ts s)=(anyT g ts||g s)
 | [],h=>absurd rfl h
 | [t],_=>by simp[putLast,anyT]
 | a::b::ts,_=>by rw[putLast,anyT,anyT,any_put g s (b::ts) (by simp),Bool.or_assoc]
theorem takes_does {r r':Rd} {ws:List (List UInt8)} (h:takes r ws=(r',true)):(∃ c t,ws=[[116,104,114,101,97,100],[c]]∧t.stmts=[]∧r'.threads=r.threads++[t])∨∃ st s,zKm ws=(st,true)∧s.kind=st.kind∧s.order=st.order∧s.var=st.var∧s.scope=st.scope∧r.threads≠[]∧r'.threads=putLast r.threads s:=by
 unfold takes at h
 split at h
 ·rename_i hh
  refine Or.inl ?_
  unfold zKX at h
  split at h
  ·simp at h
  ·split at h
   ·rename_i w c
    split at h
    ·simp only[Prod.mk.injEq] at h
     have hw:w=[116,104,114,101,97,100]:=by simpa using hh
     exact⟨c,_,by rw[hw],rfl,by rw[← h.1]⟩
    ·simp at h
   ·simp at h
 ·split at h
  ·simp at h
  ·rename_i hne
   have hts:r.threads≠[]:=by simpa using hne
   refine Or.inr ?_
   simp only[] at h
   split at h
   ·rename_i hs
    refine⟨(zKm ws).1,?_⟩
    have e0:zKm ws=((zKm ws).1,true):=by rw[← hs]
    split at h
    ·unfold ends at h
     split at h
     ·simp at h
     ·simp only[Prod.mk.injEq] at h
      exact⟨{ (zKm ws).1 with line:=r.line,label:=_ },e0,rfl,rfl,rfl,rfl,hts,by rw[← h.1];rfl⟩
    ·split at h
     ·simp at h
     ·split at h
      ·split at h
       ·simp at h
       ·unfold zLQ at h
        split at h
        ·simp at h
        ·simp only[Prod.mk.injEq] at h
         exact⟨{ (zKm ws).1 with line:=r.line,label:=r.ifs+1 },e0,rfl,rfl,rfl,rfl,hts,by rw[← h.1];rfl⟩
      ·simp only[Prod.mk.injEq] at h
       exact⟨{ (zKm ws).1 with line:=r.line },e0,rfl,rfl,rfl,rfl,hts,by rw[← h.1];rfl⟩
   ·simp at h
theorem begins_fence {x:List UInt8} {q:List (List UInt8)} (h:zJZ 32 x=[102,101,110,99,101]::q):zKQ (x++[10]) fenL=true:=by
 have hx:=join_split 32 x
 rw[h] at hx
 unfold zKQ fenL
 cases q with
 | nil=>rw[← hx];decide
 | cons a q =>
  rw[← hx,joinC_cons 32 _ _ (by simp)]
  simp
theorem begins_not {x r:List UInt8} {c:UInt8} {q:List (List UInt8)} (h:zJZ 32 x=(c::r)::q) (hc:c≠102):zKQ (x++[10]) fenL=false:=by
 have hx:=join_split 32 x
 rw[h] at hx
 have hy:∃ y,x=c::y:=by
  cases q with
  | nil=>exact⟨r,by rw[← hx];rfl⟩
  | cons a q=>exact⟨_,by rw[← hx,joinC_cons 32 _ _ (by simp)];rfl⟩
 obtain⟨y,rfl⟩:=hy
 unfold zKQ fenL
 rw[Bool.and_eq_false_iff]
 refine Or.inr ?_
 simp only[List.cons_append,List.length_cons,List.take_succ_cons]
 rw[beq_eq_false_iff_ne]
 intro e
 exact hc (List.cons.inj e).1
theorem more_says {x:List UInt8} {st:Stm} (h:Says (zJZ 32 x) st):more2 x=isStep st∧more1 x=(st.order==2||st.order==3):=by
 have e4:hasB (x++[10]) zMf=(st.order==4):=by rw[← h.w4];exact has_word x (ordW 4) (by decide)
 have e2:hasB (x++[10]) zLC=(st.order==2):=by rw[← h.w2];exact has_word x (ordW 2) (by decide)
 have e3:hasB (x++[10]) zLD=(st.order==3):=by rw[← h.w3];exact has_word x (ordW 3) (by decide)
 refine⟨?_,by unfold more1;rw[e2,e3]⟩
 unfold more2 isStep
 rw[e4]
 by_cases hk:st.kind=4
 ·have hf:=h.fen hk
  cases hs:zJZ 32 x with
  | nil=>exact absurd hs (zLr _ _)
  | cons a q =>
   rw[hs] at hf
   simp at hf
   rw[hf] at hs
   rw[begins_fence hs,hk]
   simp[isAcc]
 ·obtain⟨c,r,q,hs,hc⟩:=h.nof hk
  rw[begins_not hs hc]
  cases ha:isAcc st.kind
  ·rw[h.none ha hk];rfl
  ·simp
theorem row_counts {w:Int} (hw:w=0∨w=1) {r r':Rd} {x:List UInt8} (h:takes r (zJZ 32 x)=(r',true)):zKi w (totT (fun st=>1+if w==1 then addS st else 0) r.threads,anyT isStep r.threads) x=(totT (fun st=>1+if w==1 then addS st else 0) r'.threads,anyT isStep r'.threads):=by
 rcases takes_does h with ⟨c,t,hws,ht,hth⟩ | ⟨st,s,hst,h1,h2,h3,h4,hne,hth⟩
 ·have hi:∀ W:List UInt8,(32:UInt8) ∉ W→hasB (x++[10]) (32::(W++[32]))=false:=fun W hW=>by rw[has_word x W hW,hws];rfl
  have e4:hasB (x++[10]) zMf=false:=hi (ordW 4) (by decide)
  have e2:hasB (x++[10]) zLC=false:=hi (ordW 2) (by decide)
  have e3:hasB (x++[10]) zLD=false:=hi (ordW 3) (by decide)
  unfold zKi more2 more1
  rw[e4,e2,e3,hth,totT_new _ t ht,any_new _ t ht]
  simp
 ·have hs:=statement_says hst
  obtain⟨m2,m1⟩:=more_says hs
  have es:isStep s=isStep st:=by unfold isStep;rw[h1,h2]
  have ea:addS s=addS st:=by unfold addS;rw[h1,h2]
  unfold zKi
  rw[m2,m1,hth,totT_put _ s _ hne,any_put _ s _ hne,es,ea]
  simp only[Prod.mk.injEq,and_true]
  rcases hw with rfl | rfl
  ·simp
  ·simp only[show ((1:Int)==1)=true from rfl,Bool.true_and,if_true]
   unfold isStep addS
   cases ha:isAcc st.kind
   ·by_cases hk:st.kind=4
    ·rcases hs.frel hk with e | e<;>rw[e]<;>simp
    ·rw[hs.none ha hk];simp
   ·by_cases e2:st.order=2
    ·rw[e2];simp
    ·by_cases e3:st.order=3
     ·rw[e3];simp
     ·by_cases e4:st.order=4
      ·rw[e4];simp
      ·simp[e2,e3,e4]
theorem rows_count {w:Int} (hw:w=0∨w=1):∀ (xs:List (List UInt8)) (r r':Rd),zLY r xs=(r',true)→xs.foldl (zKi w) (totT (fun st=>1+if w==1 then addS st else 0) r.threads,anyT isStep r.threads)=(totT (fun st=>1+if w==1 then addS st else 0) r'.threads,anyT isStep r'.threads)
 | [],r,r',h=>by simp[zLY] at h;rw[h];rfl
 | x::xs,r,r',h=>by
  simp only[zLY] at h
  split at h
  ·rename_i ht
   have e:takes { r with line:=r.line+1 } (zJZ 32 x)=((takes { r with line:=r.line+1 } (zJZ 32 x)).1,true):=by rw[← ht]
   have h1:=row_counts hw e
   rw[List.foldl_cons]
   exact (congrArg (fun p=>xs.foldl (zKi w) p) h1).trans (rows_count hw xs _ r' h)
  ·simp at h
end P
namespace P
theorem dec_no {n:Int} (h0:0≤n) (h:n<100):(10:UInt8) ∉ dec n:=by
 have:∀ i:Fin 100,(10:UInt8) ∉ Lib.decDigits i.1:=by decide +kernel
 unfold dec
 exact this ⟨n.toNat,by omega⟩
theorem regT_no {n:Int} (h0:0≤n) (h:n<100):(10:UInt8) ∉ regT n:=by
 unfold regT
 simp[dec_no h0 h]
theorem opdT_no {o:Opd} (h0:0≤o.n) (h:o.n<100):(10:UInt8) ∉ opdT o:=by
 unfold opdT
 split
 ·exact regT_no h0 h
 ·exact dec_no h0 h
theorem labT_no {n:Int} (h0:0≤n) (h:n<100):(10:UInt8) ∉ labT n:=by
 unfold labT
 simp[dec_no h0 h]
theorem varT_no (v:Int):(10:UInt8) ∉ varT v:=by
 unfold varT
 split
 ·decide
 ·split<;>decide
theorem celT_no (v:Int):(10:UInt8) ∉ celT v:=by
 unfold celT
 simp[varT_no v]
theorem ordT_no (o:Int):(10:UInt8) ∉ ordT o:=by
 unfold ordT
 repeat' split
 all_goals decide
theorem sufT_no (st:Stm):(10:UInt8) ∉ sufT st:=by
 unfold sufT
 split
 ·decide
 ·split<;>simp[ordT_no]
theorem no_ite {p:Prop} [Decidable p] {x:UInt8} {a b:List UInt8} (ha:x ∉ a) (hb:x ∉ b):x ∉ if p then a else b:=by split<;>assumption
theorem instr_no {st:Stm} (h:Small st):(10:UInt8) ∉ instr st:=by
 have a:=regT_no h.d0 h.d1
 have b:=opdT_no h.a0 h.a1
 have c:=opdT_no h.b0 h.b1
 have d:=labT_no h.l0 h.l1
 have e:=celT_no st.var
 have f:=sufT_no st
 unfold instr
 repeat' refine no_ite ?_ ?_
 all_goals simp[a,b,c,d,e,f]
theorem writeS_count:∀ {ss:List Stm},(∀ x∈ss,Small x)→(zMH ss).count 10=totS (fun _=>1) ss
 | [],_=>rfl
 | s::r,h=>by
  rw[zMH,List.count_append,List.count_append,writeS_count (fun x hx=>h x (List.mem_cons_of_mem _ hx)),List.count_eq_zero.2 (instr_no (h s (by simp))),totS]
  rfl
theorem write_count:∀ {ts:List Thr},(∀ t∈ts,0≤t.block∧t.block<100∧∀ x∈t.stmts,Small x)→(write ts).count 10=totT (fun _=>1) ts
 | [],_=>rfl
 | t::r,h=>by
  obtain⟨h1,h2,h3⟩:=h t (by simp)
  rw[write,writeT,List.count_append,write_count (fun x hx=>h x (List.mem_cons_of_mem _ hx)),List.count_append,List.count_append,List.count_append,writeS_count h3,List.count_eq_zero.2 (dec_no h1 h2),totT]
  simp[List.count_cons]
theorem lines_count {ts:List Thr} (h:∀ t∈ts,0≤t.block∧t.block<100∧∀ x∈t.stmts,Small x):(zJZ 10 (write ts)).dropLast.length=totT (fun _=>1) ts:=by
 rw[List.length_dropLast,splitAt_count,write_count h];omega
theorem fenced1_small {pr:Int→Bool} {st x:Stm} (h:Small st) (hx:x∈zKN pr st):Small x:=by
 unfold zKN at hx
 split at hx
 ·have h1:Small { st with order:=1 }:=small_os h 1 st.scope
  simp only[List.mem_append,List.mem_singleton] at hx
  rcases hx with (hx | hx) | hx
  ·split at hx
   ·simp at hx;rw[hx];exact small_fence st
   ·simp at hx
  ·rw[hx];exact h1
  ·split at hx
   ·simp at hx;rw[hx];exact small_fence st
   ·simp at hx
 ·simp at hx;rw[hx];exact h
theorem fencedS_small {pr:Int→Bool}:∀ {ss:List Stm},(∀ x∈ss,Small x)→∀ x∈zKo pr ss,Small x
 | [],_,x,hx=>by simp[zKo] at hx
 | s::r,h,x,hx=>by
  rw[zKo] at hx
  rcases List.mem_append.1 hx with hx | hx
  ·exact fenced1_small (h s (by simp)) hx
  ·exact fencedS_small (fun y hy=>h y (List.mem_cons_of_mem _ hy)) x hx
theorem fencedS_tot {pr:Int→Bool}:∀ ss:List Stm,totS (fun _=>1) (zKo pr ss)=totS (fun st=>(zKN pr st).length) ss
 | []=>rfl
 | s::r=>by
  rw[zKo,totS_app,fencedS_tot r,totS]
  have:∀ l:List Stm,totS (fun _=>1) l=l.length:=by
   intro l
   induction l with
   | nil=>rfl
   | cons a l ih=>rw[totS,ih,List.length_cons];omega
  rw[this]
theorem fenced_tot (pr:Int→Bool):∀ ts:List Thr,totT (fun _=>1) (ts.map fun t=>{ t with stmts:=zKo pr t.stmts })=totT (fun st=>(zKN pr st).length) ts
 | []=>rfl
 | t::r=>by rw[List.map_cons,totT,totT,fenced_tot pr r,fencedS_tot]
theorem fenced1_len (pr:Int→Bool) (st:Stm):(zKN pr st).length=1+(if isAcc st.kind&&pr st.var then addS st else 0):=by
 unfold zKN addS
 cases ha:isAcc st.kind
 ·rfl
 ·cases hp:pr st.var
  ·rfl
  ·simp only[Bool.and_self,if_true]
   unfold rel acq
   by_cases e2:st.order=2
   ·rw[e2];rfl
   ·by_cases e3:st.order=3
    ·rw[e3];rfl
    ·by_cases e4:st.order=4
     ·rw[e4];rfl
     ·simp[e2,e3,e4]
theorem totS_le {f g:Stm→Nat}:∀ {ss:List Stm},(∀ x∈ss,f x≤g x)→totS f ss≤totS g ss
 | [],_=>Nat.le_refl _
 | s::r,h=>by
  have h1:=h s (by simp)
  have h2:=totS_le (fun x hx=>h x (List.mem_cons_of_mem s hx))
  rw[totS,totS];omega
theorem totT_le {f g:Stm→Nat}:∀ {ts:List Thr},(∀ t∈ts,∀ x∈t.stmts,f x≤g x)→totT f ts≤totT g ts
 | [],_=>Nat.le_refl _
 | t::r,h=>by
  have h1:=totS_le (h t (by simp))
  have h2:=totT_le (fun x hx=>h x (List.mem_cons_of_mem t hx))
  rw[totT,totT];omega
theorem anyT_false {g:Stm→Bool}:∀ {ts:List Thr},anyT g ts=false→∀ t∈ts,∀ x∈t.stmts,g x=false
 | [],_,t,ht=>by simp at ht
 | a::r,h,t,ht=>by
  rw[anyT,Bool.or_eq_false_iff] at h
  rcases List.mem_cons.1 ht with rfl | ht
  ·intro x hx
   have:=List.any_eq_false.1 h.1 x hx
   simpa using this
  ·exact anyT_false h.2 t ht
theorem rows_end {s:List UInt8} (g:Stm→Bool) (hg:∀ st s':Stm,s'.kind=st.kind→s'.order=st.order→s'.scope=st.scope→s'.var=st.var→g s'=g st) (H:∀ x∈(zJZ 10 s).dropLast,∀ st,Says (zJZ 32 x) st→g st=false):∀ (xs:List (List UInt8)) (r r':Rd),(∀ x∈xs,x∈(zJZ 10 s).dropLast)→zLY r xs=(r',true)→anyT g r.threads=false→anyT g r'.threads=false
 | [],r,r',_,h,hr=>by simp[zLY] at h;rw[← h];exact hr
 | x::xs,r,r',hx,h,hr=>by
  simp only[zLY] at h
  split at h
  ·rename_i ht
   have e:takes { r with line:=r.line+1 } (zJZ 32 x)=((takes { r with line:=r.line+1 } (zJZ 32 x)).1,true):=by rw[← ht]
   refine rows_end g hg H xs _ r' (fun y hy=>hx y (List.mem_cons_of_mem _ hy)) h ?_
   rcases takes_does e with ⟨c,t,hws,ht1,hth⟩ | ⟨st,s1,hst,h1,h2,h3,h4,hne,hth⟩
   ·rw[hth,any_new g t ht1];exact hr
   ·rw[hth,any_put g s1 _ hne,hg st s1 h1 h2 h4 h3,H x (hx x (by simp)) st (statement_says hst),Bool.or_false];exact hr
  ·simp at h
theorem counted_true (s:List UInt8) (way:Int) (h0:0≤way) (h4:way<4):zMg s way=true:=by
 unfold zMg
 cases ze:((zKq s way).2.1 != 0)
 rotate_left
 ·rw[if_pos rfl]
  unfold zKq at ze ⊢
  rw[if_neg (by omega)] at ze ⊢
  split at ze
  ·rename_i hk
   rw[if_pos hk];rfl
  ·simp at ze
 ·rw[if_neg (by simp)]
  have hk:((kernel s).2.1 != 0)=false:=by
   unfold zKq at ze
   rw[if_neg (by omega)] at ze
   split at ze
   ·rename_i hk
    simp only[] at ze
    rw[ze] at hk;cases hk
   ·rename_i hk
    simpa using hk
  have hc:zKq s way=(write (ways (kernel s).1 (isOpt way) (isFen way)),0,0):=by
   unfold zKq
   rw[if_neg (by omega),if_neg (by simp[hk])]
  have hl:∃ r',zLY Rd.zero (zJZ 10 s).dropLast=(r',true)∧(kernel s).1=r'.threads∧r'.threads≠[]∧(∀ t∈r'.threads,0≤t.block∧t.block<100∧∀ x∈t.stmts,Small x):=by
   have hsm:=lines_small s
   unfold kernel at hk ⊢
   split at hk
   ·simp at hk
   ·rename_i k1
    rw[if_neg k1]
    split at hk
    ·simp at hk
    ·rename_i k2
     rw[if_neg k2]
     split at hk
     ·simp at hk
     ·rename_i k3
      rw[if_neg k3]
      split at hk
      ·simp at hk
      ·rename_i k4
       rw[if_neg k4]
       split at hk
       ·simp at hk
       ·rename_i k5
        rw[if_neg k5]
        have hz:(lines s).2=0:=by simpa using k2
        unfold lines at hz hsm ⊢
        simp only[] at hz hsm ⊢
        cases hq:(zLY Rd.zero (zJZ 10 s).dropLast).2
        ·rw[hq] at hz
         have hl2:=(zLe s (by simpa using k2)).1
         unfold lines at hl2
         simp only[hq,Bool.false_eq_true,if_false] at hl2
         exact absurd rfl hl2
        ·simp only[hq,if_true] at hz hsm ⊢
         split at hz
         ·rename_i hb
          have hl2:=(zLe s (by simpa using k2)).1
          unfold lines at hl2
          simp only[hq,if_true] at hl2
          rw[if_pos hb] at hl2
          exact absurd rfl hl2
         ·rename_i hb
          rw[if_neg hb] at hsm ⊢
          exact⟨_,by rw[← hq],rfl,fun e=>hb (Or.inr (Or.inr e)),hsm⟩
  obtain⟨r',hrun,hth,hne,hsm⟩:=hl
  by_cases h2:2≤way
  ·rw[if_pos (by simpa using h2),hc]
   have:write (ways (kernel s).1 (isOpt way) (isFen way))≠[]:=by
    have hw:ways (kernel s).1 (isOpt way) (isFen way)≠[]:=by
     rw[hth]
     unfold ways zLv zKM
     repeat' split
     all_goals simp[hne]
    cases hx:ways (kernel s).1 (isOpt way) (isFen way) with
    | nil=>exact absurd hx hw
    | cons t r=>simp[write,writeT]
   simpa using this
  ·rw[if_neg (by simpa using h2)]
   have hw:way=0∨way=1:=by omega
   have hcn:zMJ way s=(totT (fun st=>1+if way==1 then addS st else 0) r'.threads,anyT isStep r'.threads):=by
    have:=rows_count hw (zJZ 10 s).dropLast Rd.zero r' hrun
    exact this
   rw[hcn,hc,hth]
   rcases hw with rfl | rfl
   ·have e1:(zJZ 10 (write (ways r'.threads (isOpt 0) (isFen 0)))).dropLast.length=totT (fun _=>1) r'.threads:=lines_count hsm
    simp only[show ((0:Int)==1)=false from rfl,Bool.false_and,Bool.false_eq_true,if_false]
    rw[e1]
    simp
   ·have e1:(zJZ 10 (write (ways r'.threads (isOpt 1) (isFen 1)))).dropLast.length=totT (fun st=>(zKN (zLp r'.threads) st).length) r'.threads:=by
     have:ways r'.threads (isOpt 1) (isFen 1)=r'.threads.map fun t=>{ t with stmts:=zKo (zLp r'.threads) t.stmts }:=rfl
     rw[this,lines_count,fenced_tot]
     intro t ht
     obtain⟨t0,ht0,rfl⟩:=List.mem_map.1 ht
     obtain⟨a1,a2,a3⟩:=hsm t0 ht0
     exact⟨a1,a2,fencedS_small a3⟩
    have e2:totT (fun st=>(zKN (zLp r'.threads) st).length) r'.threads≤totT (fun st=>1+if (1:Int)==1 then addS st else 0) r'.threads:=totT_le (fun t _ x _=>by
     rw[fenced1_len]
     simp only[show ((1:Int)==1)=true from rfl,if_true]
     split<;>omega)
    simp only[show ((1:Int)==1)=true from rfl,Bool.true_and] at e2 ⊢
    rw[e1]
    split
    ·simpa using e2
    ·rename_i hno
     simp only[Bool.or_eq_true,not_or,Bool.not_eq_true] at hno
     obtain⟨⟨hweak,hblock⟩,hstep⟩:=hno
     have hW:anyT (fun st=>isAcc st.kind&&st.order==0) r'.threads=false:=rows_end (s:=s) _ (fun st s' a b c d=>by rw[a,b]) (fun x hx st hs=>by
      rw[← Bool.not_eq_true]
      intro hh
      simp only[Bool.and_eq_true,beq_iff_eq] at hh
      obtain⟨a,l,hal⟩:=hs.weak hh.1 hh.2
      obtain⟨y,hy⟩:=last_word hal
      have:=row_has hx (W:=32::ordW 0) hy
      have e:hasB s weakL=true:=this
      rw[e] at hweak;cases hweak) _ Rd.zero r' (fun x hx=>hx) hrun rfl
     have hB:anyT (fun st=>isAcc st.kind&&(!(st.order==0)&&st.scope==0)) r'.threads=false:=rows_end (s:=s) _ (fun st s' a b c d=>by rw[a,b,c]) (fun x hx st hs=>by
      rw[← Bool.not_eq_true]
      intro hh
      simp only[Bool.and_eq_true,beq_iff_eq,Bool.not_eq_true',beq_eq_false_iff_ne] at hh
      obtain⟨a,l,hal⟩:=hs.blk hh.1 hh.2.1 hh.2.2
      obtain⟨y,hy⟩:=last_word hal
      have:=row_has hx (W:=32::[98,108,111,99,107]) hy
      have e:hasB s zLk=true:=this
      rw[e] at hblock;cases hblock) _ Rd.zero r' (fun x hx=>hx) hrun rfl
     have hP:∀ v,zLp r'.threads v=true:=fun v=>by
      unfold zLp
      rw[List.all_eq_true]
      intro t ht
      rw[List.all_eq_true]
      intro st hst
      have w1:=anyT_false hW t ht st hst
      have w2:=anyT_false hB t ht st hst
      have w3:=anyT_false hstep t ht st hst
      unfold zLH needs
      unfold isStep at w3
      cases ha:isAcc st.kind
      ·rfl
      ·rw[ha] at w1 w2 w3
       simp only[Bool.true_and] at w1 w2 w3
       rw[w1] at w2 ⊢
       simp only[Bool.not_false,Bool.true_and] at w2
       rw[w2,w3]
       simp
     have e3:totT (fun st=>1+if true=true then addS st else 0) r'.threads≤totT (fun st=>(zKN (zLp r'.threads) st).length) r'.threads:=totT_le (fun t _ x _=>by
      rw[fenced1_len,hP x.var]
      simp only[if_true,Bool.and_true]
      cases ha:isAcc x.kind
      ·simp[addS,ha]
      ·simp)
     have e4:=Nat.le_antisymm e2 e3
     rw[e4]
     simp
end P
end Go.Proofs.YtgceflcbckjjiaaGreatDoor
namespace Go.Proofs.YtgceflcbckjjiaaGreatDoor
open Go Go.RowKit
set_option maxRecDepth 100000
theorem zHI {α:Type} (p:α→Bool):∀ (n:Nat) (l:List α),l.length≤32*n→(∀ j,j<n→((l.drop (32*j)).take 32).all p=true)→l.all p=true
 | 0,l,h,_=>by
  have:l=[]:=List.eq_nil_of_length_eq_zero (by omega)
  rw[this];rfl
 | n+1,l,h,hj=>by
  have h1:=hj 0 (by omega)
  rw[Nat.mul_zero,List.drop_zero] at h1
  have h2:=zHI p n (l.drop 32) (by rw[List.length_drop];omega) (fun j hjn=>by
   have:=hj (j+1) (by omega)
   rw[List.drop_drop,show 32+32*j=32*(j+1) by omega]
   exact this)
  rw[← List.take_append_drop 32 l,List.all_append,h1,h2];rfl
namespace Q
theorem ins_ne (l:List (List Int)) (r:List Int):Q.ins l r≠[]:=by
 cases l with
 | nil=>simp[Q.ins]
 | cons x q =>
  rw[Q.ins]
  split
  ·simp
  ·split<;>simp
theorem fold_ne {α:Type} (F:Ans→α→Ans) (hF:∀ a x,a.rows.length≤(F a x).rows.length) (x:α) (hx:∀ a,(F a x).rows≠[]) (l:List α) (hl:x∈l) (a:Ans):(l.foldl F a).rows≠[]:=by
 obtain⟨p,q,rfl⟩:=List.append_of_mem hl
 rw[List.foldl_append,List.foldl_cons]
 have h1:=zMm F hF q (F (p.foldl F a) x)
 intro e
 rw[e,List.length_nil] at h1
 exact hx (p.foldl F a) (List.eq_nil_of_length_eq_zero (Nat.le_zero.1 h1))
theorem source_ne {ts:List P.Thr} {l:List (List Int)} (hl:∀ d∈l,d∈zKt ((runs ts).map fun r=>(r.length:Int))) (h:someIn ts l=true):(zKK ts).rows≠[]:=by
 unfold someIn at h
 simp only[List.any_eq_true] at h
 obtain⟨ds,hds,c,hc,d,hd,hm⟩:=h
 unfold zKK
 refine fold_ne zLc srcCand_rows c (fun a=>?_) _ ?_ _
 ·unfold zLc zLq
  refine fold_ne _ (srcOrder_rows _ _ _ _) d (fun a=>?_) _ hd _
  unfold zKC
  rw[if_pos hm]
  exact ins_ne _ _
 ·unfold cands
  rw[List.mem_flatMap]
  exact⟨ds,hl ds hds,hc⟩
end Q
namespace P
theorem k17_rows {rows:List (List Int)} (h:∀ r∈rows,k17p r=true):wantOk rows kn17.2.1∧comesB rows kn17.2.1=false:=by
 have hr:∀ r∈rows,rowB r kn17.2.1=true∧wantTo r kn17.2.1 4=false:=fun r hr=>by
  have:=h r hr
  unfold k17p at this
  simp only[Bool.and_eq_true,Bool.not_eq_true'] at this
  exact this
 refine⟨⟨by decide,⟨4,rfl⟩,fun r hm=>?_⟩,?_⟩
 ·have h1:=(hr r hm).1
  unfold rowB at h1
  simp only[Bool.and_eq_true,decide_eq_true_eq,List.all_eq_true,List.mem_range] at h1
  refine⟨h1.1,fun k hk=>?_⟩
  obtain⟨⟨⟨⟨a,b⟩,c⟩,d⟩,e⟩:=h1.2 k (by omega)
  exact⟨a,b,c,d,e⟩
 ·unfold comesB
  rw[List.any_eq_false]
  intro r hm
  have h2:=(hr r hm).2
  have e:kn17.2.1.length / 3=4:=rfl
  rw[e,h2];simp
theorem kn17_src:SrcFacts kn17:=by
 have hm:=zJJ
 simp only[Bool.and_eq_true,beq_iff_eq,decide_eq_true_eq] at hm
 obtain⟨⟨⟨⟨h1,h2⟩,h3⟩,h4⟩,h5⟩:=hm
 have hall:Q.srcIn k17p k17s (Q.zKt ((Q.runs k17s).map fun r=>(r.length:Int)))=true:=by
  unfold Q.srcIn
  refine zHI _ 8 _ (by omega) (fun j hj=>?_)
  match j,hj with
  | 0,_=>exact zJB
  | 1,_=>exact zJC
  | 2,_=>exact zJD
  | 3,_=>exact zJE
  | 4,_=>exact zJF
  | 5,_=>exact zJG
  | 6,_=>exact zJH
  | 7,_=>exact zJI
  | n+8,h=>exact absurd h (by omega)
 have hg:=Q.source_good hall
 obtain⟨hw,hc⟩:=k17_rows hg.1
 exact⟨h1,h2,Q.zMF h3,Q.source_few h4,hw,hc,hg.2⟩
structure AnsK (x:List UInt8 × List Int × Bool × Bool):Prop where
 size:x.1.length≤2000
 src:SrcFacts x
 ne:(Q.zKK (kernel x.1).1).rows≠[]
theorem srcK_ans {x:List UInt8 × List Int × Bool × Bool} (hz:x.1.length≤2000) (h:srcK x=true):AnsK x:=by
 refine⟨hz,srcK_ok h,?_⟩
 unfold srcK at h
 simp only[Bool.and_eq_true] at h
 intro e
 have h2:=h.2.2.2
 rw[e] at h2;simp at h2
theorem kn17_ans:AnsK kn17:=⟨by decide,kn17_src,Q.source_ne (fun d hd=>by
 unfold chunk at hd
 exact List.mem_of_mem_drop (List.mem_of_mem_take hd)) zJK⟩
theorem kan_0:AnsK kn0:=srcK_ans (by decide) zJN
theorem kan_1:AnsK kn1:=srcK_ans (by decide) zJO
theorem kan_2:AnsK kn2:=srcK_ans (by decide) zJP
theorem kan_3:AnsK kn3:=srcK_ans (by decide) zJQ
theorem kan_4:AnsK kn4:=srcK_ans (by decide) zJR
theorem kan_5:AnsK kn5:=srcK_ans (by decide) zJS
theorem kan_6:AnsK kn6:=srcK_ans (by decide) zJT
theorem kan_7:AnsK kn7:=srcK_ans (by decide) zJU
theorem kan_8:AnsK kn8:=srcK_ans (by decide) zJV
theorem kan_9:AnsK kn9:=srcK_ans (by decide) zJW
theorem kan_10:AnsK kn10:=srcK_ans (by decide) zJj
theorem kan_11:AnsK kn11:=srcK_ans (by decide) zJk
theorem kan_12:AnsK kn12:=srcK_ans (by decide) zJl
theorem kan_13:AnsK kn13:=srcK_ans (by decide) zJm
theorem kan_14:AnsK kn14:=srcK_ans (by decide) zJn
theorem kan_15:AnsK kn15:=srcK_ans (by decide) zJo
theorem kan_16:AnsK kn16:=srcK_ans (by decide) zJp
theorem kan_18:AnsK kn18:=srcK_ans (by decide) zJz
theorem kan_19:AnsK kn19:=srcK_ans (by decide) zJA
theorem kan_20:AnsK kn20:=srcK_ans (by decide) zJq
theorem kan_21:AnsK kn21:=srcK_ans (by decide) zJr
theorem kan_22:AnsK kn22:=srcK_ans (by decide) zJs
theorem kan_23:AnsK kn23:=srcK_ans (by decide) zJt
theorem kan_24:AnsK kn24:=srcK_ans (by decide) zJu
theorem kan_25:AnsK kn25:=srcK_ans (by decide) zJv
theorem kan_26:AnsK kn26:=srcK_ans (by decide) zJw
theorem kan_27:AnsK kn27:=srcK_ans (by decide) zJx
theorem kan_28:AnsK kn28:=srcK_ans (by decide) zJy
theorem kns_ans:∀ x∈kns,AnsK x:=by
 intro x hx
 simp only[kns,List.mem_cons,List.not_mem_nil,or_false] at hx
 rcases hx with rfl | rfl | rfl | rfl | rfl | rfl | rfl | rfl | rfl | rfl | rfl | rfl | rfl | rfl | rfl | rfl | rfl | rfl | rfl | rfl | rfl | rfl | rfl | rfl | rfl | rfl | rfl | rfl | rfl
 ·exact kan_0
 ·exact kan_1
 ·exact kan_2
 ·exact kan_3
 ·exact kan_4
 ·exact kan_5
 ·exact kan_6
 ·exact kan_7
 ·exact kan_8
 ·exact kan_9
 ·exact kan_10
 ·exact kan_11
 ·exact kan_12
 ·exact kan_13
 ·exact kan_14
 ·exact kan_15
 ·exact kan_16
 ·exact kn17_ans
 ·exact kan_18
 ·exact kan_19
 ·exact kan_20
 ·exact kan_21
 ·exact kan_22
 ·exact kan_23
 ·exact kan_24
 ·exact kan_25
 ·exact kan_26
 ·exact kan_27
 ·exact kan_28
end P
theorem zFV (s:ByteArray) (x:List UInt8 × List Int × Bool × Bool) (w:World) (hs:s.toList=x.1) (hz:s.size≤8192) (h:P.AnsK x) :
  Calls Tryz.prog 14 #[.string s] w fun e w'=>∃ ov n a c,e=.returned (.tuple #[ov,.bool x.2.2.2,.int .i64 0,.int .i64 0])∧ov=.slice a n c∧0<n∧n<100000000∧Below w.heap.size w w':=by
 refine (zHH s w hz (by rw[hs];exact h.src.e) (by rw[hs];exact h.src.l) (by rw[hs];exact h.src.ok) (by rw[hs];exact h.src.few)).mono ?_
 rw[hs]
 rintro e w' ⟨ov,vs,rfl,hri,hb⟩
 obtain⟨a,c,ho,_⟩:=hri.form
 exact⟨ov,_,a,c,by rw[h.src.clash],ho,List.length_pos_iff.2 h.ne,h.src.few,hb⟩
theorem zFW (HK:Hid (∀ x∈P.kns,P.AnsK x)) (c:Int) (w:World) (h0:-9223372036854775808≤c) (h1:c<9223372036854775808) :
  Calls Tryz.prog 7 #[.int .i64 c] w fun e w'=>e=.returned (.bool true)∧Below w.heap.size w w':=by
 go_enter Tryz.func7,Tryz.ntmps7
 go_wp2_with (first
  | (go_at_call 13;refine (zGU _).mono ?_;rintro e w1 ⟨rfl,hkn,hlk,hb1⟩;have KN:=zAa hkn;have B1:=zAa hb1;clear hkn hb1;generalize hgk:w.heap.size+14=gk at *)
  | (go_at_call 9;refine (zGv c _ h0 h1).mono ?_;rintro e wp ⟨i,hi,rfl,hwp⟩;subst hwp;obtain⟨x,hx⟩:∃ x,P.kns[i]?=some x:=⟨P.kns[i]'hi,List.getElem?_eq_getElem hi⟩;have XO:=zAa (HK.out x (List.mem_of_getElem? hx));obtain⟨s,gw,hs,cs,cw,cm,cc,hrw⟩:=KN.out i x hx;have HS:=zAa hs;have hi29:(i:Int)<29:=(by omega);have hsz:s.size≤8192:=(by have h9:=XO.out.size;rw[← hs,zAu] at h9;omega);clear hs hrw hx)
  | (go_at_call 14;refine (zFV s x _ HS.out hsz XO.out).mono ?_;rintro e w2 ⟨ov2,n2,a2,c2,rfl,hov2,hn2,hm2,hb2⟩;subst hov2;have B2:=zAa (zAr B1.out (Nat.le_refl _) hb2);have hn2':(0:Int)<(n2:Int):=(by omega);clear hb2))
 go_ret
 exact⟨rfl,B2.out⟩
theorem zFn (HK:Hid (∀ x∈P.kns,P.AnsK x)) (s:ByteArray) (way:Int) (w:World) (h0:-9223372036854775808≤way) (h1:way<9223372036854775808) :
  Calls Tryz.prog 3 #[.string s,.int .i64 way] w fun e w'=>e=.returned (.bool true)∧Below w.heap.size w w':=by
 by_cases hs:s.size≤8192
 ·have hs':¬ ((8192:Int)<(s.size:Int)):=by omega
  have hz0:-9223372036854775808≤(s.size:Int):=by omega
  have hz1:(s.size:Int)<9223372036854775808:=by omega
  go_enter Tryz.func3,Tryz.ntmps3
  go_wp2_with (first
   | (go_at_call 7;refine (zFW HK (s.size:Int) _ hz0 hz1).mono ?_;rintro e w1 ⟨rfl,hb1⟩;have B1:=zAa hb1;clear hb1)
   | (go_at_call 9;refine (zGW way _ h0 h1).mono ?_;rintro e wp ⟨d,hd,rfl,hwp⟩;subst hwp)
   | (go_at_call 8;refine (zFU s (d:Int) _ hs (by omega) (by omega)).mono ?_;rw[P.counted_true s.toList (d:Int) (by omega) (by omega)];rintro e w2 ⟨rfl,hb2⟩;have B2:=zAa (zAr B1.out (Nat.le_refl _) hb2);clear hb2))
  go_ret
  exact⟨rfl,B2.out⟩
 ·have hs':(8192:Int)<(s.size:Int):=by omega
  go_enter Tryz.func3,Tryz.ntmps3
  go_wp2
  go_ret
  exact⟨rfl,Below.refl _ _⟩
end Go.Proofs.YtgceflcbckjjiaaGreatDoor
