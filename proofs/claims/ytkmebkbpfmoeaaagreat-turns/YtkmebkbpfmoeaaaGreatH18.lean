import Derived.Test.YtkmebkbpfmoeaaaGreatH17
set_option linter.unusedVariables false
set_option linter.unusedSimpArgs false
set_option maxHeartbeats 12800000
namespace Go.Proofs.YtkmebkbpfmoeaaaGreat
namespace Q
theorem Mach.write_len (m:Mach) (st:P.Stm) (v:Int) (s:Nat):(m.write st v s).events.length=m.events.length+1:=by simp[Mach.write,Mach.put]
theorem Mach.write_evs {m:Mach} {n:Nat} (h1:∀ e∈m.events,0≤e.value∧e.value<4∧e.hangs<M64) (ha:m.asked<M64) (st:P.Stm) (v:Int) (s:Nat) (hv:0≤v∧v<4) (hs:s<M64):∀ e∈(m.write st v s).events,0≤e.value∧e.value<4∧e.hangs<M64:=by
 intro e he
 simp only[Mach.write,Mach.put,List.mem_append,List.mem_singleton] at he
 rcases he with he | rfl
 ·exact h1 e he
 ·exact⟨hv.1,hv.2,or_lt ha hs⟩
theorem mod4 (x:Int):0≤x % 4∧x % 4<4:=⟨Int.emod_nonneg _ (by decide),Int.emod_lt_of_pos _ (by decide)⟩
theorem Mach.Ok.result {m:Mach} {n:Nat} (h:m.Ok n) {st:P.Stm} (hs:StOk st):0≤m.result st∧m.result st<4:=by
 unfold Mach.result
 split
 ·exact mod4 _
 ·split
  ·exact mod4 _
  ·split
   ·split<;>omega
   ·exact h.value hs.1
theorem Mach.Ok.readOk {m:Mach} {n:Nat} (h:m.Ok n) (st:P.Stm):(m.read st).Ok (n+1):=by
 obtain⟨r1,r2,r3,r4,r5,r6⟩:=h.read st
 exact⟨r1,r2,r3,r4,by have:=h.len;omega,by have:=h.bars;show m.bars≤n+1;omega,r6⟩
theorem Mach.Ok.doIt {m:Mach} {n:Nat} (h:m.Ok n) {st:P.Stm} (hs:StOk st):(m.doIt st).Ok (n+1):=by
 have hr:=h.readOk st
 have hrl:(m.read st).events.length=m.events.length+1:=(h.read st).2.2.2.2.1
 have hl:=h.len
 have hW:∀ (v:Int) (s:Nat),0≤v∧v<4→s<M64→((m.read st).write st v s).Ok (n+1):=fun v s hv hm =>
  ⟨hr.regs,hr.made,hr.asked,Mach.write_evs (n:=n) hr.evs hr.asked st v s hv hm,by rw[Mach.write_len,hrl];omega,hr.bars,hr.unread⟩
 unfold Mach.doIt
 split
 ·exact hr.give _ _ _ (hr.valueOf _) (zKw _)
 split
 ·exact⟨h.regs,h.made,h.asked,Mach.write_evs (n:=n) h.evs h.asked st _ _ (h.value hs.1) (zBk h.made _),by unfold Mach.store;rw[Mach.write_len];omega,by have:=h.bars;show m.bars≤n+1;omega,h.unread⟩
 split
 ·unfold Mach.step
  split
  ·have hx:=hW ((m.value st.a+(m.read st).valueOf m.events.length) % 4) (m.madeOf st.a ||| one (m.events.length:Nat)) (mod4 _) (or_lt (zBk h.made _) (zKw _))
   exact hx.give _ _ _ (hx.valueOf _) (zKw _)
  ·have hx:=hW (m.value st.a) (m.madeOf st.a) (h.value hs.1) (zBk h.made _)
   exact hx.give _ _ _ (hx.valueOf _) (zKw _)
 split
 ·refine⟨h.regs,h.made,h.asked,fun e he=>?_,by simp[Mach.put];omega,by have:=h.bars;show m.bars≤n+1;omega,h.unread⟩
  simp only[Mach.put,List.mem_append,List.mem_singleton] at he
  rcases he with he | rfl
  ·exact h.evs e he
  ·simp[Mach.event]
 split
 ·refine⟨h.regs,h.made,h.asked,fun e he=>?_,by simp[Mach.barrier];omega,by have:=h.bars;show m.bars+1≤n+1;omega,h.unread⟩
  simp only[Mach.barrier,List.mem_append,List.mem_cons,List.mem_nil_iff,or_false] at he
  rcases he with he | rfl | rfl
  ·exact h.evs e he
  ·simp[Mach.event]
  ·simp[Mach.event]
 split
 ·exact (h.give _ _ _ (h.result hs) (or_lt (zBk h.made _) (zBk h.made _))).more
 ·exact h.more
theorem Mach.Ok.ask {m:Mach} {n:Nat} (h:m.Ok n) (st:P.Stm):(m.ask st).Ok n:=⟨h.regs,h.made,or_lt h.asked (zBk h.made _),h.evs,h.len,h.bars,h.unread⟩
theorem carry_ok {p:Mach × Nat} {n:Nat} (h:p.1.Ok n) {st:P.Stm} (hs:StOk st):(carry p st).1.Ok (n+1):=by
 unfold carry
 split
 ·split
  ·exact (h.ask st).more
  ·exact h.doIt hs
 ·split
  ·exact h.more
  ·split<;>exact h.more
theorem start_ok (t b:Int) (u:Nat) (hu:u<1000000000):(Mach.start t b u).Ok 0:=by
 refine⟨?_,?_,(by show (0:Nat)<M64;decide),?_,by simp[Mach.start],by simp[Mach.start],hu⟩
 ·intro x hx;simp[Mach.start] at hx;omega
 ·intro x hx;simp[Mach.start] at hx;rw[hx];decide
 ·intro e he;simp[Mach.start] at he
theorem carry_pass (p:Mach × Nat) (st:P.Stm):(carry p st).2≤p.2+1:=by
 unfold carry
 split
 ·split
  ·split<;>simp
  ·simp
 ·split
  ·simp
  ·split
   ·simp;omega
   ·omega
end Q
namespace P
def nE (s:Stm):Bool:=s.kind != 11
def iE (s:Stm):Bool:=s.kind==11
def iB (s:Stm):Bool:=s.kind==10
theorem putLast_ne {ts:List Thr} (h:ts≠[]) (s:Stm):∃ a t,ts=a++[t]∧putLast ts s=a++[{ t with stmts:=t.stmts++[s] }]:=by
 rcases List.eq_nil_or_concat ts with h0 | ⟨a,t,rfl⟩
 ·exact absurd h0 h
 ·rw[List.concat_eq_append];exact⟨a,t,rfl,zJu a t s⟩
structure Cn (r:Rd):Prop where
 le:∀ t∈r.threads,cnt nE t.stmts≤8
 last:∀ a t,r.threads=a++[t]→cnt nE t.stmts≤r.count
 ln:∀ t∈r.threads,0<t.line
 lin:0≤r.line
 en:∀ t∈r.threads,cnt iE t.stmts≤cnt iB t.stmts
 op:∀ a t,r.threads=a++[t]→cnt iE t.stmts+r.opn.length=cnt iB t.stmts
theorem takes_line (q:Rd) (x:List (List UInt8)):(takes q x).1.line=q.line:=by
 unfold takes
 split
 ·unfold zIX
  split
  ·rfl
  ·split
   ·split<;>rfl
   ·rfl
 ·split
  ·rfl
  ·simp only[]
   split
   ·split
    ·unfold ends;split<;>rfl
    ·split
     ·rfl
     ·split
      ·split
       ·rfl
       ·unfold branch;split<;>rfl
      ·rfl
   ·rfl
theorem run_cn:∀ (xs:List (List UInt8)) (r r':Rd),zJZ r xs=(r',true)→Cn r→Cn r'
 | [],r,r',h,hr=>by simp[zJZ] at h;rw[← h];exact hr
 | x::xs,r,r',h,hr=>by
  simp only[zJZ] at h
  split at h
  ·rename_i ht
   have e:takes { r with line:=r.line+1 } (zIr 32 x)=((takes { r with line:=r.line+1 } (zIr 32 x)).1,true):=by rw[← ht]
   refine run_cn xs _ r' h ?_
   have hl:0≤(takes { r with line:=r.line+1 } (zIr 32 x)).1.line:=by rw[takes_line];show 0≤r.line+1;have:=hr.lin;omega
   rcases takes_put e with ⟨t,ht1,ht2,hth,hc,_,ho2⟩ | ⟨st,l,lb,hst,hne,hth,hc⟩
   ·refine⟨fun u hu=>?_,fun a u hu=>?_,fun u hu=>?_,hl,fun u hu=>?_,fun b u hu=>?_⟩
    ·rw[hth] at hu
     rcases List.mem_append.1 hu with hu | hu
     ·exact hr.le u hu
     ·simp at hu;rw[hu,ht1];simp[cnt]
    ·rw[hth] at hu
     have:=(List.append_inj' hu rfl).2
     simp at this
     rw[← this,ht1,hc];simp[cnt]
    ·rw[hth] at hu
     rcases List.mem_append.1 hu with hu | hu
     ·exact hr.ln u hu
     ·simp at hu;rw[hu,ht2];show 0<r.line+1;have:=hr.lin;omega
    ·rw[hth] at hu
     rcases List.mem_append.1 hu with hu | hu
     ·exact hr.en u hu
     ·simp at hu;rw[hu,ht1];simp[cnt]
    ·rw[hth] at hu
     have:=(List.append_inj' hu rfl).2
     simp at this
     rw[← this,ht1,ho2];simp[cnt]
   ·obtain⟨a,t,h1,h2⟩:=putLast_ne hne { st with line:=l,label:=lb }
    have h1':r.threads=a++[t]:=h1
    rw[h2] at hth
    have ha:=hr.le t (by rw[h1'];simp)
    have hb:=hr.last a t h1'
    have hk:cnt nE (t.stmts++[{ st with line:=l,label:=lb }])≤8∧cnt nE (t.stmts++[{ st with line:=l,label:=lb }])≤(takes { r with line:=r.line+1 } (zIr 32 x)).1.count:=by
     rw[cnt_append]
     rcases hc with ⟨hc1,hc2,_⟩ | ⟨hc1,hc2,_,_⟩
     ·rw[hc2]
      simp only[cnt,nE,hc1]
      exact⟨by simpa using ha,by simpa using hb⟩
     ·rw[hc2]
      simp only[cnt]
      have hc1':r.count<8:=hc1
      show _≤(8:Int)∧_≤r.count+1
      split<;>omega
    have hop:=hr.op a t h1'
    have hk2:cnt iE (t.stmts++[{ st with line:=l,label:=lb }])+((takes { r with line:=r.line+1 } (zIr 32 x)).1.opn.length:Int)=cnt iB (t.stmts++[{ st with line:=l,label:=lb }]):=by
     rw[cnt_append,cnt_append]
     rcases hc with ⟨hc1,_,hc2⟩ | ⟨_,_,hc1,hc2⟩
     ·have hc2':((takes { r with line:=r.line+1 } (zIr 32 x)).1.opn.length:Int)+1=r.opn.length:=by exact_mod_cast hc2
      simp only[cnt,iE,iB,hc1]
      simp
      omega
     ·have hc2':((takes { r with line:=r.line+1 } (zIr 32 x)).1.opn.length:Int)=r.opn.length+if st.kind==10 then 1 else 0:=hc2
      rw[hc2']
      have h11:(st.kind==11)=false:=by simpa using hc1
      simp only[cnt,iE,iB,h11]
      by_cases h10:st.kind=10
      ·simp[h10];omega
      ·simp[h10];omega
    refine⟨fun u hu=>?_,fun b u hu=>?_,fun u hu=>?_,hl,fun u hu=>?_,fun b u hu=>?_⟩
    ·rw[hth] at hu
     rcases List.mem_append.1 hu with hu | hu
     ·exact hr.le u (by rw[h1'];simp[hu])
     ·simp at hu;rw[hu];exact hk.1
    ·rw[hth] at hu
     have:=(List.append_inj' hu rfl).2
     simp at this
     rw[← this];exact hk.2
    ·rw[hth] at hu
     rcases List.mem_append.1 hu with hu | hu
     ·exact hr.ln u (by rw[h1'];simp[hu])
     ·simp at hu;rw[hu];exact hr.ln t (by rw[h1'];simp)
    ·rw[hth] at hu
     rcases List.mem_append.1 hu with hu | hu
     ·exact hr.en u (by rw[h1'];simp[hu])
     ·simp at hu;rw[hu];show cnt iE (t.stmts++_)≤cnt iB (t.stmts++_);omega
    ·rw[hth] at hu
     have:=(List.append_inj' hu rfl).2
     simp at this
     rw[← this];exact hk2
  ·simp at h
theorem kernel_parts {l:List UInt8} (h:(kernel l).2.1=0):(kernel l).1=(lines l).1∧(kernel l).2.2=0∧l.length≤2000∧(lines l).2=0∧zIM (lines l).1=0∧zIw (lines l).1 (lines l).1=0∧over (lines l).1=false:=by
 unfold kernel at h ⊢
 by_cases h1:2000<l.length
 ·rw[if_pos h1] at h;simp at h
 rw[if_neg h1] at h ⊢
 by_cases h2:((lines l).2 != 0)=true
 ·rw[if_pos h2] at h;simp at h
 rw[if_neg h2] at h ⊢
 by_cases h3:(zIM (lines l).1 != 0)=true
 ·rw[if_pos h3] at h;simp at h
 rw[if_neg h3] at h ⊢
 by_cases h4:(zIw (lines l).1 (lines l).1 != 0)=true
 ·rw[if_pos h4] at h;simp at h
 rw[if_neg h4] at h ⊢
 by_cases h5:over (lines l).1=true
 ·rw[if_pos h5] at h;simp at h
 rw[if_neg h5] at h ⊢
 exact⟨rfl,rfl,by omega,by simpa using h2,by simpa using h3,by simpa using h4,by simpa using h5⟩
theorem lines_run {l:List UInt8} (h:(lines l).2=0):zJZ Rd.zero (zIr 10 l).dropLast=((zJZ Rd.zero (zIr 10 l).dropLast).1,true)∧(lines l).1=(zJZ Rd.zero (zIr 10 l).dropLast).1.threads∧(zIr 10 l).getLast?=some []∧(zJZ Rd.zero (zIr 10 l).dropLast).1.opn=[]∧(zJZ Rd.zero (zIr 10 l).dropLast).1.threads≠[]:=by
 obtain⟨g1,g2,g3⟩:=good_run (zIr 10 l).dropLast 0 Rd.zero good_zero
 have z:Rd.zero.line=0:=rfl
 unfold lines at h ⊢
 simp only[] at h ⊢
 cases hq:(zJZ Rd.zero (zIr 10 l).dropLast).2
 ·have:=g3 hq
  simp[hq] at h
  omega
 ·simp only[hq,if_true] at h ⊢
  split at h
  ·simp at h;omega
  ·rename_i hno
   rw[if_neg hno]
   simp only[not_or,Decidable.not_not] at hno
   exact⟨by rw[← hq],rfl,hno.1,hno.2.1,hno.2.2⟩
theorem uneven_zero (all:List Thr):∀ (l:List Thr),(∀ u∈l,0<u.line)→zIw all l=0→∀ t∈l,bars t.stmts=zIT t.block all∧bars t.stmts≤2
 | [],_,_,t,ht=>by simp at ht
 | u::l,hl,h,t,ht=>by
  simp only[zIw] at h
  split at h
  ·have:=hl u (by simp);omega
  ·rename_i hb
   rcases List.mem_cons.1 ht with rfl | ht
   ·simp at hb;exact⟨hb.1,by omega⟩
   ·exact uneven_zero all l (fun u hu=>hl u (List.mem_cons_of_mem _ hu)) h t ht
theorem cnt_mono {p q:Stm→Bool} (h:∀ s,p s=true→q s=true):∀ l,cnt p l≤cnt q l
 | []=>by simp[cnt]
 | s::l=>by
  have:=cnt_mono h l
  simp only[cnt]
  by_cases hp:p s=true
  ·rw[if_pos hp,if_pos (h s hp)];omega
  ·rw[if_neg hp];split<;>omega
theorem cnt_split:∀ l:List Stm,(l.length:Int)=cnt nE l+cnt iE l
 | []=>by simp[cnt]
 | s::l=>by
  have:=cnt_split l
  simp only[cnt,nE,iE,List.length_cons]
  by_cases h:s.kind=11
  ·simp[h];omega
  ·simp[h];omega
structure KerIs (ts:List Thr):Prop where
 ne:ts≠[]
 few:ts.length≤4
 len:∀ t∈ts,t.stmts.length≤16
 ok:∀ t∈ts,∀ s∈t.stmts,Q.StOk s
 le:∀ t∈ts,cnt nE t.stmts≤8
 br:∀ t∈ts,bars t.stmts≤2
 rd:tot isR ts≤4
 wr:tot isW ts≤3
 sc:tot isF ts≤3
theorem zIN {l:List UInt8} (h:(kernel l).2.1=0):KerIs (kernel l).1:=by
 obtain⟨k1,k2,k3,k4,k5,k6,k7⟩:=kernel_parts h
 obtain⟨r1,r2,r3,r4,r5⟩:=lines_run k4
 obtain⟨o1,o2,o3⟩:=zJo l k4
 have hcn:Cn (zJZ Rd.zero (zIr 10 l).dropLast).1:=run_cn _ _ _ r1 ⟨by simp[Rd.zero],by simp[Rd.zero],by simp[Rd.zero],by simp[Rd.zero],by simp[Rd.zero],by simp[Rd.zero]⟩
 have hok:=run_all (G:=Q.StOk) (fun st l lb h=>h) (fun ws st h=>statement_okG h) _ _ _ r1 (fun t ht=>by simp[Rd.zero] at ht)
 have hb:=uneven_zero (lines l).1 (lines l).1 (by rw[r2];exact hcn.ln) k6
 simp only[over,Bool.or_eq_false_iff,decide_eq_false_iff_not] at k7
 rw[k1]
 exact⟨o1,o2,fun t ht=>by
  rw[r2] at ht
  have e1:=hcn.en t ht
  have e2:=hcn.le t ht
  have e3:=cnt_split t.stmts
  have e4:cnt iB t.stmts≤cnt nE t.stmts:=cnt_mono (fun s hs=>by simp only[iB,nE] at *;rw[beq_iff_eq] at hs;rw[hs];decide) _
  omega,by rw[r2];exact hok,by rw[r2];exact hcn.le,fun t ht=>(hb t ht).2,by omega,by omega,by omega⟩
end P
end Go.Proofs.YtkmebkbpfmoeaaaGreat
namespace Go.Proofs.YtkmebkbpfmoeaaaGreat
open Go Go.RowKit
set_option maxRecDepth 100000
structure OrdOn (w:World) (g gr gb gd:Nat) (rs bs ds:List Int) (rest:List (List Int)):Prop where
 r0:w.cell? ⟨g,0,none⟩=some (.slice (some ⟨gr,0,none⟩) rs.length rs.length)
 rows:zAp w gr rs
 ctr:zDe w g 1 gb gd bs ds rest
 len:bs.length=rs.length
 ne:gr≠gd
 neg:gr≠g
theorem OrdOn.below {w w':World} {g gr gb gd:Nat} {rs bs ds:List Int} {rest:List (List Int)} (h:OrdOn w g gr gb gd rs bs ds rest) (hb:Below w.heap.size w w'):OrdOn w' g gr gb gd rs bs ds rest:=by
 obtain⟨b,hc⟩:=h.ctr.ctr
 exact⟨(hb.cell hc.lt).trans h.r0,h.rows.below hb,h.ctr.below hb,h.len,h.ne,h.neg⟩
theorem zFb (g gr gb gd:Nat) (rs bs ds:List Int) (rest:List (List Int)) (w:World) (h:OrdOn w g gr gb gd rs bs ds rest) (hn:bs.length<10000) (hb:∀ b∈bs,b<1000000000) :
  Calls Tryz.prog 56 #[.pointer (some ⟨g,0,none⟩)] w fun e w'=>((rest=[]∧e=.returned (.bool false))∨∃ r q,rest=r::q∧e=.returned (.bool true)∧OrdOn w' g gr gb gd rs bs r q∧Q.DigOk bs r)∧Ticked w w' g 1 gd:=by
 have H:=zAa h
 obtain⟨b,hc⟩:=h.ctr.ctr
 have hl:=hc.lt
 clear h hc
 go_enter Tryz.func56,Tryz.ntmps56
 go_wp2_with (first | (go_at_call 80;refine (zFa g 1 gb gd bs ds rest _ H.out.ctr hn hb).mono ?_;rintro e w' ⟨h1,hT⟩;have HT:=zAa hT;rcases h1 with ⟨hr,rfl⟩ | ⟨r,q,hr,rfl,hc,hd⟩))
 ·go_ret
  exact⟨Or.inl ⟨hr,rfl⟩,HT.out⟩
 ·go_ret
  have T:=HT.out
  exact⟨Or.inr ⟨r,q,hr,rfl,⟨(T.cell 0 (by omega)).trans H.out.r0,H.out.rows.of_block (T.block gr H.out.neg H.out.ne),hc,H.out.len,H.out.ne,H.out.neg⟩,hd⟩,T⟩
namespace Q
def zJt (rs:List Int) (i k:Nat):Int:=(((List.range k).filter fun k=>rs.getD k (-1)==rs.getD i (-1)).length:Nat)
theorem filt_succ (P:Nat→Bool) (k:Nat):(((List.range (k+1)).filter P).length:Int)=(((List.range k).filter P).length:Int)+if P k then 1 else 0:=by
 rw[List.range_succ,List.filter_append,List.length_append]
 cases h:P k<;>simp[List.filter,h]
theorem countTo_succ (rs:List Int) (i k:Nat):zJt rs i (k+1)=zJt rs i k+if rs.getD k (-1)==rs.getD i (-1) then 1 else 0:=filt_succ (fun k=>rs.getD k (-1)==rs.getD i (-1)) k
theorem zJU (rs:List Int) (i k:Nat):0≤zJt rs i k∧zJt rs i k≤k:=by
 unfold zJt
 have:=List.length_filter_le (fun k=>rs.getD k (-1)==rs.getD i (-1)) (List.range k)
 simp at this ⊢;omega
end Q
theorem zGD (g gr i:Nat) (rs:List Int) (w:World) (h0:w.cell? ⟨g,0,none⟩=some (.slice (some ⟨gr,0,none⟩) rs.length rs.length)) (hr:zAp w gr rs) (hg:g<w.heap.size) (hi:i<rs.length) (hn:rs.length<10000) :
  Calls Tryz.prog 81 #[.pointer (some ⟨g,0,none⟩),.int .i64 (i:Int)] w fun e w'=>e=.returned (.int .i64 (Q.zJT rs i))∧Below w.heap.size w w':=by
 have HR:=zAa hr
 have hgr:=hr.lt
 have HE:Hid (Q.zJT rs i=Q.zJt rs i i):=rfl
 have hil:(i:Int)<(rs.length:Int):=by omega
 have HCI:Hid (∀ W:World,Below w.heap.size w W→W.cell? ⟨gr,i,none⟩=some (.int .i64 (rs.getD i (-1)))):=fun W hb=>by rw[zAH rs i hi];exact (hb.cell (p:=⟨gr,i,none⟩) hgr).trans (HR.out.cell i hi)
 clear hr
 go_enter Tryz.func81,Tryz.ntmps81
 go_wp2
 go_loopw [5,6] (fun c j wr=>∃ k:Nat,k≤i∧j=.int .i64 k∧c=.int .i64 (Q.zJt rs i k)∧Below w.heap.size w wr) (fun _ j _=>i-(intOf j).toNat)
 case atStart=>exact⟨0,Nat.zero_le _,rfl,rfl,Below.refl _ _⟩
 case round =>
  obtain⟨k,hk,rfl,rfl,hbel⟩:=hrel
  have d0:=cfL hbel hg h0
  have lg:=Nat.lt_of_lt_of_le hg hbel.size
  have lr:=Nat.lt_of_lt_of_le hgr hbel.size
  by_cases hlt:k<i
  ·have hin:(k:Int)<(i:Int):=by omega
   have hkl:k<rs.length:=by omega
   have hkli:(k:Int)<(rs.length:Int):=by omega
   have ck:wr.cell? ⟨gr,k,none⟩=some (.int .i64 (rs.getD k (-1))):=by rw[zAH rs k hkl];exact (hbel.cell (p:=⟨gr,k,none⟩) hgr).trans (HR.out.cell k hkl)
   have ci:=HCI.out wr hbel
   have HS:=zAa (Q.countTo_succ rs i k)
   have hbd:=Q.zJU rs i k
   generalize rs.getD k (-1)=x at *
   generalize rs.getD i (-1)=y at *
   generalize hct:Q.zJt rs i k=ct at *
   cases hz:(x==y)
   ·have HS':Hid (Q.zJt rs i (k+1)=ct):=by unfold Hid;rw[HS.out,hz];simp
    go_wp2
    go_quiet (fail)
    all_goals
     go_wp2
     go_roundw
     case rel=>exact⟨k+1,by omega,by go_num,by rw[HS'.out],hbel.trans (zAD _ _ _)⟩
     case measure=>simp[intOf];omega
   ·have HS':Hid (Q.zJt rs i (k+1)=ct+1):=by unfold Hid;rw[HS.out,hz];simp
    go_wp2
    go_quiet (fail)
    all_goals
     go_wp2
     go_roundw
     case rel=>exact⟨k+1,by omega,by go_num,by rw[HS'.out],hbel.trans (zAD _ _ _)⟩
     case measure=>simp[intOf];omega
  ·have hki:k=i:=by omega
   subst hki
   go_wp2
   go_ret
   rw[HE.out];exact⟨rfl,hbel⟩
namespace Q
theorem placeK_len (rs:List Int) (i k:Nat) (p:List Int):(zJI rs i p k).length=p.length:=by unfold zJI;split<;>simp
theorem getD_set_eq (p:List Int) (i:Nat) (x:Int) (h:i<p.length):(p.set i x).getD i 0=x:=by simp[List.getD,h]
def Bd (p:List Int) (m:Int):Prop:=∀ x∈p, -1000000001≤x∧x≤m
theorem Bd.set {p:List Int} {m:Int} (h:Bd p m) (i:Nat) (x:Int) (h1:-1000000001≤x) (h2:x≤m):Bd (p.set i x) m:=fun y hy=>by
 rcases List.mem_or_eq_of_mem_set hy with hy | rfl
 ·exact h y hy
 ·exact⟨h1,h2⟩
theorem Bd.mono {p:List Int} {m k:Int} (h:Bd p m) (hk:m≤k):Bd p k:=fun y hy=>⟨(h y hy).1,by have:=(h y hy).2;omega⟩
theorem Bd.get {p:List Int} {m:Int} (h:Bd p m) (i:Nat) (hi:i<p.length):-1000000001≤p.getD i 0∧p.getD i 0≤m:=by rw[zAH p i hi];exact h _ (List.getElem_mem hi)
end Q
theorem zAp.cellD {w:World} {g:Nat} {l:List Int} (h:zAp w g l) (i:Nat) (hi:i<l.length):w.cell? ⟨g,i,none⟩=some (.int .i64 (l.getD i 0)):=by rw[zAH l i hi];exact h.cell i hi
theorem zCN (g gr gb gd:Nat) (rs bs ds:List Int) (rest:List (List Int)) (w:World) (h:OrdOn w g gr gb gd rs bs ds rest) (hd:Q.DigOk bs ds) (hb:∀ b∈bs,b<1000000000) (hn:rs.length≤64) :
  Calls Tryz.prog 57 #[.pointer (some ⟨g,0,none⟩)] w fun e w'=>∃ gp,e=.returned (.slice (some ⟨gp,0,none⟩) rs.length rs.length)∧zAp w' gp (Q.zIv rs ds)∧w.heap.size≤gp∧Below w.heap.size w w':=by
 have hmk:∀ w,(Instr.makeSlice 31 (.int .i64 (rs.length:Int)) (.int .i64 (rs.length:Int))).run Tryz.prog w=.ok (.slice (some ⟨w.heap.size,0,none⟩) rs.length rs.length) (w.alloc (.cells (madeCells #[.int .i64 0] rs.length) 3)) :=
  fun w=>run_make_row' 31 3 (.int .i64 0) 8 Tryz.underlying31 Tryz.infoInt rfl .i64 .i64 rs.length (by omega) (by omega) w
 obtain⟨bg,hc⟩:=h.ctr.ctr
 have hdl:ds.length=rs.length:=by rw[hc.len,h.len]
 have c0:=h.r0
 have c2:=hc.c1
 have hgl:=hc.lt
 have HRW:=zAa h.rows
 have HDG:=zAa hc.digits
 have hgr:=h.rows.lt
 have hgd:=hc.digits.lt
 have HDB:Hid (∀ i,i<rs.length→0≤ds.getD i 0∧ds.getD i 0<1000000000):=fun i hi=>by
  have h1:=hd.rng i (by omega)
  have h3:i<bs.length:=by rw[h.len];exact hi
  have h4:bs.getD i 0<1000000000:=by rw[zAH bs i h3];exact hb _ (List.getElem_mem h3)
  rw[zAH ds i (by omega)];omega
 have HPE:Hid (Q.zIv rs ds=(List.range rs.length).foldl (Q.zJx rs ds) (List.replicate rs.length 0)):=rfl
 have HM0:Hid (zAp (w.alloc (.cells (madeCells #[.int .i64 0] rs.length) 3)) w.heap.size (List.replicate rs.length 0)):=by
  unfold Hid zAp;rw[← zBX];exact heap_alloc_new w _
 have HB0:Hid (Below w.heap.size w (w.alloc (.cells (madeCells #[.int .i64 0] rs.length) 3))):=(Below.refl _ _).alloc (Nat.le_refl _) _
 rw[hdl] at c2
 simp only[Nat.reduceAdd] at c2
 clear h hc hb hd
 go_enter Tryz.func57,Tryz.ntmps57
 go_wp2
 go_loopw [18] (fun j wr=>∃ (k:Nat) (p:List Int),k≤rs.length∧j=.int .i64 k∧Hid (p=(List.range k).foldl (Q.zJx rs ds) (List.replicate rs.length 0))∧Hid (zAp wr w.heap.size p)∧Hid (p.length=rs.length)∧Hid (Q.Bd p (64+k*64))∧Hid (Below w.heap.size w wr)) (fun j _=>rs.length-(intOf j).toNat)
 case atStart=>exact⟨0,_,Nat.zero_le _,rfl,rfl,HM0,by simp[Hid],by intro x hx;rw[List.eq_of_mem_replicate hx];omega,HB0⟩
 case round =>
  obtain⟨k,p,hk,rfl,HP,HI,HL,HBD,HBL⟩:=hrel
  have hbel:=HBL.out
  have d0:=cfL hbel hgl c0
  have lg:=Nat.lt_of_lt_of_le hgl hbel.size
  have lr:=Nat.lt_of_lt_of_le hgr hbel.size
  clear hbel
  by_cases hlt:k<rs.length
  ·have hin:(k:Int)<(rs.length:Int):=by omega
   have ck:wr.cell? ⟨gr,k,none⟩=some (.int .i64 (rs.getD k (-1))):=by rw[zAH rs k hlt];exact (HBL.out.cell (p:=⟨gr,k,none⟩) hgr).trans (HRW.out.cell k hlt)
   have lp:=HI.out.lt
   have cp:=HI.out.cellD k (by rw[HL.out];exact hlt)
   have fp:=HI.out.free k
   have HI1:=zAa (HI.out.set k (-1))
   have HB1:Hid (Below w.heap.size w (wr.setCell ⟨w.heap.size,k,none⟩ (.int .i64 (-1)))):=HBL.out.setCell (p:=⟨w.heap.size,k,none⟩) (Nat.le_refl _) _
   have HPS:Hid ((List.range (k+1)).foldl (Q.zJx rs ds) (List.replicate rs.length 0)=Q.zJx rs ds p k):=by unfold Hid;rw[Q.zIm,← HP.out]
   have HPI:Hid (Q.zJx rs ds p k=if rs.getD k (-1) == -1 then p.set k (-1) else (List.range k).foldl (Q.zJI rs k) (p.set k (Q.zJT rs k-ds.getD k 0))):=rfl
   have hll1:w.heap.size<(wr.setCell ⟨w.heap.size,k,none⟩ (.int .i64 (-1))).heap.size:=by simpa using lp
   generalize hrow:rs.getD k (-1)=row at *
   generalize hpk:p.getD k 0=pk0 at *
   go_upto_region 6 with fail
   generalize hW:wr.setCell ⟨w.heap.size,k,none⟩ (.int .i64 (-1))=W1 at *
   cases hz:(row == -1)
   rotate_left
   ·have HN:Hid (p.set k (-1)=(List.range (k+1)).foldl (Q.zJx rs ds) (List.replicate rs.length 0)):=by unfold Hid;rw[HPS.out,HPI.out,hz];rfl
    go_wp2
    go_roundw
    case rel=>exact⟨k+1,_,by omega,by go_num,HN,HI1,by simp[Hid];exact HL.out,(HBD.out.set k (-1) (by omega) (by omega)).mono (by omega),HB1⟩
    case measure=>simp[intOf];omega
   ·have HN:Hid ((List.range (k+1)).foldl (Q.zJx rs ds) (List.replicate rs.length 0)=(List.range k).foldl (Q.zJI rs k) (p.set k (Q.zJT rs k-ds.getD k 0))):=by unfold Hid;rw[HPS.out,HPI.out,hz];rfl
    have e0:=cfL HB1.out hgl c0
    have e2:=cfL HB1.out hgl c2
    have ed:W1.cell? ⟨gd,k,none⟩=some (.int .i64 (ds.getD k 0)):=(HB1.out.cell (p:=⟨gd,k,none⟩) hgd).trans (HDG.out.cellD k (by omega))
    have lg1:=Nat.lt_of_lt_of_le hgl HB1.out.size
    have ld1:=Nat.lt_of_lt_of_le hgd HB1.out.size
    have hdb:=HDB.out k hlt
    have hcb:=Q.zJU rs k k
    have hcr:Q.zJt rs k k=Q.zJT rs k:=rfl
    rw[hcr] at hcb
    have HIR:=zAa (HRW.out.of_block (HB1.out.block gr hgr))
    generalize ds.getD k 0=dk at *
    generalize hcc:Q.zJT rs k=ct at *
    have HBD2:=zAa (Q.Bd.set HBD.out k (ct-dk) (by omega) (by omega))
    clear HBD
    have hwr:IntKind.i64.wrap (ct-dk)=ct-dk:=IntWalk.i64_in _ ⟨by omega,by omega⟩
    go_upto_region 7 with fail
    go_region_held3 (fun w'=>w'.cell? ⟨g,2,none⟩=some (.slice (some ⟨gd,0,none⟩) rs.length rs.length)∧w'.cell? ⟨gd,k,none⟩=some (.int .i64 dk)) (first | exact⟨e2,ed⟩ | exact⟨p2,pd⟩ | exact⟨(zAh (by omega)).trans p2,(zAh (by omega)).trans pd⟩) (first
     | (go_at_call 81;refine (zGD g gr k rs W1.drew e0 (HIR.out.of_block rfl) lg1 hlt (by omega)).mono ?_;rintro e w2 ⟨rfl,hb2⟩;rw[hcc];have B2:Hid (Below W1.heap.size W1 w2):=(by first | exact ((Below.refl W1.heap.size W1).drew).trans (hb2.mono (by simp)) | exact hb2);have p2:=cfL B2.out lg1 e2;have pd:=cfL B2.out ld1 ed;have I2:=zAa (HI1.out.of_block (B2.out.block w.heap.size hll1));have ip:=I2.out.cellD k (by rw[List.length_set,HL.out];exact hlt);have ifz:=I2.out.free k;have lp2:=I2.out.lt))
    have I3:=zAa (I2.out.set k (ct-dk))
    rw[List.set_set] at I3
    have B3:Hid (Below w.heap.size w (w2.setCell ⟨w.heap.size,k,none⟩ (.int .i64 (ct-dk)))):=(zAn HB1.out (Nat.le_refl _) B2.out).setCell (p:=⟨w.heap.size,k,none⟩) (Nat.le_refl _) _
    go_wp2
    go_loopw [6] (fun j wq=>∃ (q:Nat) (u:List Int),q≤k∧j=.int .i64 q∧Hid (u=(List.range q).foldl (Q.zJI rs k) (p.set k (ct-dk)))∧Hid (zAp wq w.heap.size u)∧Hid (u.length=rs.length)∧Hid (Q.Bd u (64+k*64+q))∧Hid (Below w.heap.size w wq)) (fun j _=>k-(intOf j).toNat)
    case atStart=>exact⟨0,_,Nat.zero_le _,rfl,rfl,I3,by simp[Hid];exact HL.out,HBD2.out.mono (by omega),B3⟩
    case round =>
     clear I3 B3 I2 B2 p2 pd ip ifz lp2 hb2 e0 e2 ed lg1 ld1 HIR HI1 HB1 hll1 hW lp cp fp ck d0 lg lr
     obtain⟨q,u,hq,rfl,HU,HJ,HUL,HUB,HBQ⟩:=hrel
     have d0:=cfL HBQ.out hgl c0
     have lg:=Nat.lt_of_lt_of_le hgl HBQ.out.size
     have lr:=Nat.lt_of_lt_of_le hgr HBQ.out.size
     by_cases hql:q<k
     ·have hqi:(q:Int)<(k:Int):=by omega
      have hqr:(q:Int)<(rs.length:Int):=by omega
      have hqn:q<rs.length:=by omega
      have cq:wr.cell? ⟨gr,q,none⟩=some (.int .i64 (rs.getD q (-1))):=by rw[zAH rs q hqn];exact (HBQ.out.cell (p:=⟨gr,q,none⟩) hgr).trans (HRW.out.cell q hqn)
      have lp:=HJ.out.lt
      have uq:=HJ.out.cellD q (by rw[HUL.out];exact hqn)
      have uk:=HJ.out.cellD k (by rw[HUL.out];exact hlt)
      have fq:=HJ.out.free q
      have bq:=HUB.out.get q (by rw[HUL.out];exact hqn)
      have HUS:Hid ((List.range (q+1)).foldl (Q.zJI rs k) (p.set k (ct-dk))=if rs.getD q (-1)==row&&decide (u.getD k 0≤u.getD q 0) then u.set q (u.getD q 0+1) else u):=by
       unfold Hid;rw[Q.zIm,← HU.out,← hrow];rfl
      have HJ1:=zAa (HJ.out.set q (u.getD q 0+1))
      have HUB1:=zAa (Q.Bd.set (HUB.out.mono (k:=64+k*64+(q+1:Nat)) (by omega)) q (u.getD q 0+1) (by omega) (by omega))
      generalize rs.getD q (-1)=x at *
      generalize u.getD q 0=y at *
      generalize u.getD k 0=z at *
      cases hx:(x==row)
      ·have HUN:Hid (u=(List.range (q+1)).foldl (Q.zJI rs k) (p.set k (ct-dk))):=by unfold Hid;rw[HUS.out,hx];rfl
       go_wp2
       go_quiet (fail)
       all_goals
        go_wp2
        go_roundw
        case rel=>exact⟨q+1,u,by omega,by go_num,HUN,HJ.out.of_block rfl,HUL,HUB.out.mono (by omega),HBQ.out.trans (zAD _ _ _)⟩
        case measure=>simp[intOf];omega
      by_cases hy:z≤y
      ·have hyd:decide (z≤y)=true:=decide_eq_true hy
       have HUN:Hid (u.set q (y+1)=(List.range (q+1)).foldl (Q.zJI rs k) (p.set k (ct-dk))):=by unfold Hid;rw[HUS.out,hx,hyd];rfl
       go_wp2
       go_quiet (fail)
       all_goals
        go_wp2
        go_roundw
        case rel=>exact⟨q+1,_,by omega,by go_num,HUN,by first | exact HJ1.out | exact HJ1.out.of_block rfl,by simp[Hid];exact HUL.out,HUB1,(HBQ.out.trans (zAD _ _ _)).setCell (p:=⟨w.heap.size,q,none⟩) (Nat.le_refl _) _⟩
        case measure=>simp[intOf];omega
      ·have hyd:decide (z≤y)=false:=decide_eq_false hy
       have HUN:Hid (u=(List.range (q+1)).foldl (Q.zJI rs k) (p.set k (ct-dk))):=by unfold Hid;rw[HUS.out,hx,hyd];rfl
       go_wp2
       go_quiet (fail)
       all_goals
        go_wp2
        go_roundw
        case rel=>exact⟨q+1,u,by omega,by go_num,HUN,HJ.out.of_block rfl,HUL,HUB.out.mono (by omega),HBQ.out.trans (zAD _ _ _)⟩
        case measure=>simp[intOf];omega
     ·have hqk:q=k:=by omega
      have HN2:Hid (u=(List.range (k+1)).foldl (Q.zJx rs ds) (List.replicate rs.length 0)):=by unfold Hid;rw[HN.out,HU.out,hqk]
      go_wp2
      go_roundw
      case rel=>exact⟨k+1,u,by omega,by go_num,HN2,HJ,HUL,HUB.out.mono (by omega),HBQ⟩
      case measure=>simp[intOf];omega
  ·have hkn:k=rs.length:=by omega
   have HE:Hid (p=Q.zIv rs ds):=by unfold Hid;rw[HPE.out,HP.out,hkn]
   go_wp2
   go_ret
   exact⟨w.heap.size,rfl,by rw[← HE.out];exact HI.out,Nat.le_refl _,HBL.out⟩
end Go.Proofs.YtkmebkbpfmoeaaaGreat
