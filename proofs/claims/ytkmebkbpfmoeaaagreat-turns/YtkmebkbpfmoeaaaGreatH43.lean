import Derived.Test.YtkmebkbpfmoeaaaGreatH42
set_option linter.unusedVariables false
set_option linter.unusedSimpArgs false
set_option maxHeartbeats 12800000
namespace Go.Proofs.YtkmebkbpfmoeaaaGreat
namespace Q
section
variable {pi:Int→Int} {m:Mach} {s t:P.Stm}
end
end Q
namespace P
theorem ordering_var (st st':Stm) (r:List (List UInt8)) (v:Int) (h:zJd st r=(st',true)):zJd { st with var:=v } r=({ st' with var:=v },true)∧st'.var=st.var∧st'.kind=st.kind:=by
 rcases ordering_word h with ⟨o,rfl,ho,rfl⟩ | ⟨o,s,rfl,h1,h2,h3,rfl,h5⟩
 ·refine⟨?_,rfl,rfl⟩
  simp only[zJd] at h ⊢
  split at h
  ·rename_i hc
   rw[if_pos hc]
   split at h
   ·rename_i h0;rw[if_pos h0];simp
   ·simp at h
  ·simp at h
 ·refine⟨?_,rfl,rfl⟩
  rw[ordering_two { st with var:=v } o s h1 h5 (beq_eq_false_iff_ne.2 h3),h2]
theorem free1 (c:UInt8) (h:isSep c=false):free [c]:=fun x hx=>by rw[List.mem_singleton] at hx;rw[hx];exact h
theorem var_rng {p:List UInt8} (h:(varOf p).2=true):0≤(varOf p).1∧(varOf p).1<3:=by
 rcases varOf_word h with rfl | rfl | rfl<;>decide
theorem statement_v {ws:List (List UInt8)} {st:Stm} (h:zIu ws=(st,true)):Q.StV st:=by
 intro hk
 rcases statement_form h with ⟨p,v,r,rfl,hv,ho,hr⟩ | ⟨d,v,r,rfl,hd,hv,hr⟩ | ⟨d,c,k,p,v,r,rfl,hd,hc,hv,ho,hr⟩ | ⟨r,rfl,hr⟩ | hp
 ·rw[(ordering_var _ _ _ 0 hr).2.1];exact var_rng hv
 ·rw[(ordering_var _ _ _ 0 hr).2.1];exact var_rng hv
 ·rw[(ordering_var _ _ _ 0 hr).2.1];exact var_rng hv
 ·have:=(ordering_var _ _ _ 0 hr).2.2
  rw[this] at hk
  exact absurd hk (by show ¬ ((4:Int)=0∨_);decide)
 ·have:=hp.kind.1
  unfold isAcc at this
  simp at this
  omega
theorem kernel_v {s:List UInt8} (h:(kernel s).2.1=0):Q.KerV (kernel s).1:=by
 obtain⟨r1,_,hr,_,_,_,hk,_⟩:=kernel_rows h
 rw[hk]
 exact run_all (G:=Q.StV) (fun st l lb hst=>hst) (fun ws st hst=>statement_v hst) _ _ _ hr (fun t ht=>by simp[Rd.zero] at ht)
end P
namespace P
theorem textOf_app:∀ x y:List (List UInt8),textOf (x++y)=textOf x++textOf y
 | [],_=>rfl
 | a::x,y=>by rw[List.cons_append,textOf,textOf,textOf_app x y];simp
end P
end Go.Proofs.YtkmebkbpfmoeaaaGreat
namespace Go.Proofs.YtkmebkbpfmoeaaaGreat
open Go Go.RowKit
set_option maxRecDepth 100000
theorem zGN (c:Int) (n:Nat) (w:World) (h0:-9223372036854775808≤c) (h1:c<9223372036854775808) (hn:0<n) (hn2:n<1000000) :
  Calls Tryz.prog 14 #[.int .i64 c,.int .i64 (n:Int)] w fun e w'=>∃ i:Nat,i<n∧e=.returned (.int .i64 (i:Int))∧w'=w:=by
 have hz:((n:Int)==0)=false:=by rw[beq_eq_false_iff_ne];omega
 have hz1:¬ ((n:Int)=0):=by omega
 have hz2:¬ (n=0):=by omega
 have hz3:((n:Int) == -1)=false:=by rw[beq_eq_false_iff_ne];omega
 by_cases hc:c<0
 ·have hw1:IntKind.i64.wrap (c+1)=c+1:=by simp[IntKind.wrap,IntKind.signed,IntKind.bits];omega
  have hw2:IntKind.i64.wrap (-(c+1))=-(c+1):=by simp[IntKind.wrap,IntKind.signed,IntKind.bits];omega
  have e1:(-(c+1)).tmod (n:Int)=(-(c+1)) % (n:Int):=Int.tmod_eq_emod_of_nonneg (by omega)
  have e0:=Int.emod_nonneg (-(c+1)) (b:=(n:Int)) (by omega)
  have e2:=Int.emod_lt_of_pos (-(c+1)) (b:=(n:Int)) (by omega)
  have HR:Hid ((-(c+1)).tmod (n:Int)=(((-(c+1)) % (n:Int)).toNat:Int)):=by unfold Hid;rw[e1];omega
  have HR2:Hid (-((c+1).tmod (n:Int))=(((-(c+1)) % (n:Int)).toNat:Int)):=by unfold Hid;rw[← Int.neg_tmod,e1];omega
  have hfin:((-(c+1)) % (n:Int)).toNat<n:=by omega
  clear e1 e0 e2
  generalize ((-(c+1)) % (n:Int)).toNat=i at *
  go_enter Tryz.func14,Tryz.ntmps14
  go_wp2
  go_ret
  refine⟨i,hfin,?_,rfl⟩
  first
   | (rw[← HR2.out];rfl)
   | (rw[← HR.out];rfl)
 ·have e0:=Int.emod_nonneg c (b:=(n:Int)) (by omega)
  have e2:=Int.emod_lt_of_pos c (b:=(n:Int)) (by omega)
  have HR:Hid (c % (n:Int)=((c % (n:Int)).toNat:Int)):=by unfold Hid;omega
  have HR2:Hid (c.tmod (n:Int)=((c % (n:Int)).toNat:Int)):=by unfold Hid;rw[Int.tmod_eq_emod_of_nonneg (by omega)];omega
  have hfin:(c % (n:Int)).toNat<n:=by omega
  clear e0 e2
  generalize (c % (n:Int)).toNat=i at *
  go_enter Tryz.func14,Tryz.ntmps14
  go_wp2
  go_ret
  refine⟨i,hfin,?_,rfl⟩
  first
   | (rw[← HR2.out];rfl)
   | (rw[← HR.out];rfl)
end Go.Proofs.YtkmebkbpfmoeaaaGreat
namespace Go.Proofs.YtkmebkbpfmoeaaaGreat
namespace Q
def evT (k:Int) (e:Ev):Ev:={ e with thread:=k }
def Mach.no (k:Int) (m:Mach):Mach:={ m with thread:=k,events:=m.events.map (evT k) }
section
variable {k:Int} {m:Mach} {s t:P.Stm}
theorem no_valueOf (i:Nat):(m.no k).valueOf i=m.valueOf i:=by
 show (ev (m.events.map (evT k)) i).value=(ev m.events i).value
 rw[ev_map]
 by_cases c:i<m.events.length
 ·rw[if_pos c];rfl
 ·rw[if_neg c,ev_out _ _ (by omega)]
theorem no_give (d v:Int) (u:Nat):(m.no k).give d v u=(m.give d v u).no k:=by
 unfold Mach.give;split<;>rfl
theorem no_giveRead (d:Int) (r:Nat):(m.no k).giveRead d r=(m.giveRead d r).no k:=by
 unfold Mach.giveRead
 rw[no_valueOf,no_give]
theorem no_add (L:List Ev):(m.no k).events++L.map (evT k)=(m.events++L).map (evT k):=by
 rw[List.map_append];rfl
theorem no_read (s:P.Stm):(m.no k).read s=(m.read s).no k:=by
 unfold Mach.read
 show Mach.mk _ _ _ _ _ _ _ _=Mach.mk _ _ _ _ _ _ _ _
 rw[← no_add]
 rfl
theorem no_write (s:P.Stm) (v:Int) (u:Nat):(m.no k).write s v u=(m.write s v u).no k:=by
 unfold Mach.write Mach.put
 show Mach.mk _ _ _ _ _ _ _ _=Mach.mk _ _ _ _ _ _ _ _
 rw[← no_add]
 rfl
theorem no_len:(m.no k).events.length=m.events.length:=by simp[Mach.no]
theorem no_doIt (s:P.Stm):(m.no k).doIt s=(m.doIt s).no k:=by
 unfold Mach.doIt
 rw[no_len]
 have hv:∀ o,(m.no k).value o=m.value o:=fun _=>rfl
 have hm:∀ o,(m.no k).madeOf o=m.madeOf o:=fun _=>rfl
 rcases kind_cases s.kind with e | e | e | e | e | e | ⟨e0,e1,e2,e3,e4,e5⟩
 ·rw[e]
  show ((m.no k).read s).giveRead _ _=((m.read s).giveRead _ _).no k
  rw[no_read,no_giveRead]
 ·rw[e]
  show (m.no k).store s=(m.store s).no k
  unfold Mach.store
  rw[hv,hm,no_write]
 ·rw[e]
  show (m.no k).step s=(m.step s).no k
  unfold Mach.step
  rw[hv,hm,no_len,no_read,no_valueOf,no_write,no_write,e]
  show Mach.giveRead (Mach.no k _) _ _=_
  rw[no_giveRead]
  rfl
 ·rw[e]
  show (m.no k).step s=(m.step s).no k
  unfold Mach.step
  rw[hv,hm,no_len,no_read,no_valueOf,no_write,no_write,e]
  show Mach.giveRead (Mach.no k _) _ _=_
  rw[no_giveRead]
  rfl
 ·rw[e]
  show (m.no k).put ((m.no k).event 2 s)=(m.put (m.event 2 s)).no k
  unfold Mach.put
  show Mach.mk _ _ _ _ _ _ _ _=Mach.mk _ _ _ _ _ _ _ _
  rw[← no_add]
  rfl
 ·rw[e]
  show (m.no k).barrier s=(m.barrier s).no k
  unfold Mach.barrier
  show Mach.mk _ _ _ _ _ _ _ _=Mach.mk _ _ _ _ _ _ _ _
  rw[← no_add]
  rfl
 ·rw[e0,e1,e2,e3,e4,e5]
  simp only[Bool.false_eq_true,if_false,Bool.or_self]
  split
  ·exact no_give _ _ _
  ·rfl
theorem no_carry (s:P.Stm) (n:Nat):carry (m.no k,n) s=((carry (m,n) s).1.no k,(carry (m,n) s).2):=by
 unfold carry
 have hv:∀ o,(m.no k).value o=m.value o:=fun _=>rfl
 simp only[hv,no_doIt]
 split
 ·split<;>rfl
 ·split
  ·rfl
  ·split<;>rfl
end
theorem no_fold (k:Int):∀ (ss:List P.Stm) (m:Mach) (n:Nat),ss.foldl carry (m.no k,n)=((ss.foldl carry (m,n)).1.no k,(ss.foldl carry (m,n)).2)
 | [],_,_=>rfl
 | s::ss,m,n=>by
  rw[List.foldl_cons,List.foldl_cons,no_carry]
  exact no_fold k ss _ _
structure StL (s t:P.Stm):Prop where
 eq:t={ s with line:=t.line,label:=t.label }
theorem carry_label (p:Mach × Nat) {s t:P.Stm} (h:StL s t):carry p t=carry p s:=by rw[h.eq];rfl
def StsL:List P.Stm→List P.Stm→Prop
 | [],[]=>True
 | a::x,b::y=>StL a b∧StsL x y
 | _,_=>False
theorem fold_label (x:List P.Stm):∀ (y:List P.Stm) (p:Mach × Nat),StsL x y→y.foldl carry p=x.foldl carry p:=by
 induction x with
 | nil=>intro y p h;cases y with
  | nil=>rfl
  | cons b y=>exact absurd h (by simp[StsL])
 | cons a x ih=>intro y p h;cases y with
  | nil=>exact absurd h (by simp[StsL])
  | cons b y=>rw[List.foldl_cons,List.foldl_cons,carry_label p h.1];exact ih y _ h.2
theorem codesL (c:Nat):∀ {x y:List P.Stm},StsL x y→y.foldl (fun c st=>if P.reads st.kind then c*4 else c) c=x.foldl (fun c st=>if P.reads st.kind then c*4 else c) c:=by
 intro x
 induction x generalizing c with
 | nil=>intro y h;cases y with
  | nil=>rfl
  | cons b y=>exact absurd h (by simp[StsL])
 | cons a x ih=>intro y h;cases y with
  | nil=>exact absurd h (by simp[StsL])
  | cons b y =>
   rw[List.foldl_cons,List.foldl_cons,show b.kind=a.kind by rw[h.1.eq]]
   exact ih _ h.2
structure ThL (t t':P.Thr):Prop where
 block:t'.block=t.block
 sts:StsL t.stmts t'.stmts
def Run.no (k:Int) (r:Run):Run:=⟨r.events.map (evT k),r.regs⟩
theorem runAt_no {t t':P.Thr} (h:ThL t t') (i k c:Nat):runAt t' k c=(runAt t i c).no (k:Int):=by
 unfold runAt zJB
 rw[h.block,fold_label _ _ _ h.sts]
 have:=no_fold (k:Int) t.stmts (Mach.start i t.block c) 0
 exact congrArg Prod.fst this
theorem runs_no {t t':P.Thr} (h:ThL t t') (i k:Nat):zJS t' k=(zJS t i).map (Run.no (k:Int)):=by
 unfold zJS zIU
 have e:codes t'.stmts=codes t.stmts:=codesL 1 h.sts
 rw[e,List.map_map]
 have e2:(fun c=>(runAt t' k c).unread==0)=(fun c=>(runAt t i c).unread==0):=funext fun c=>by rw[runAt_no h i];rfl
 rw[e2]
 refine List.map_congr_left fun c _=>?_
 rw[runAt_no h i]
 rfl
def flat (o:Nat):List (List Ev)→List Ev
 | []=>[]
 | p::ps=>p.map (zJh o)++flat (o+p.length) ps
def offF:List (List Ev)→Nat→Nat
 | _,0=>0
 | [],_+1=>0
 | p::ps,i+1=>p.length+offF ps i
def loc:List (List Ev)→Nat→Nat × Nat
 | [],_=>(0,0)
 | p::ps,m=>if m<p.length then (0,m) else ((loc ps (m-p.length)).1+1,(loc ps (m-p.length)).2)
theorem flat_lenT (o:Nat):∀ ps:List (List Ev),(flat o ps).length=offF ps ps.length:=by
 intro ps
 induction ps generalizing o with
 | nil=>rfl
 | cons p ps ih=>rw[flat,List.length_append,List.length_map,ih,List.length_cons,offF]
theorem flat_ev:∀ (ps:List (List Ev)) (o i l:Nat),l<(ps.getD i []).length→ev (flat o ps) (offF ps i+l)=zJh (o+offF ps i) (ev (ps.getD i []) l)
 | [],o,i,l,h=>by simp at h
 | p::ps,o,0,l,h=>by
  have h2:l<p.length:=by simpa using h
  rw[flat,offF,Nat.zero_add,Nat.add_zero,ev_append,if_pos (by simpa using h2),ev_map,if_pos h2]
  rfl
 | p::ps,o,i+1,l,h=>by
  have h2:l<(ps.getD i []).length:=by simpa using h
  have ih:=flat_ev ps (o+p.length) i l h2
  rw[flat,offF,ev_append,if_neg (by simp;omega),List.length_map,show p.length+offF ps i+l-p.length=offF ps i+l by omega,ih]
  have e:(p::ps).getD (i+1) []=ps.getD i []:=by simp
  rw[e,show o+p.length+offF ps i=o+(p.length+offF ps i) by omega]
theorem off_step:∀ (ps:List (List Ev)) (i:Nat),i<ps.length→offF ps (i+1)=offF ps i+(ps.getD i []).length
 | [],i,h=>by simp at h
 | p::ps,0,_=>by simp[offF]
 | p::ps,i+1,h=>by
  have ih:=off_step ps i (by simpa using h)
  rw[offF,offF,ih]
  have e:(p::ps).getD (i+1) []=ps.getD i []:=by simp
  rw[e];omega
theorem off_mono (ps:List (List Ev)):∀ (i k:Nat),i<k→k≤ps.length→offF ps i+(ps.getD i []).length≤offF ps k:=by
 intro i k h hk
 induction k with
 | zero=>omega
 | succ k ih =>
  by_cases c:i=k
  ·rw[c,off_step ps k (by omega)];omega
  ·have:=ih (by omega) (by omega)
   rw[off_step ps k (by omega)]
   omega
theorem loc_spec:∀ (ps:List (List Ev)) (m:Nat),m<offF ps ps.length→(loc ps m).1<ps.length∧(loc ps m).2<(ps.getD (loc ps m).1 []).length∧m=offF ps (loc ps m).1+(loc ps m).2
 | [],m,h=>by simp[offF] at h
 | p::ps,m,h=>by
  rw[List.length_cons,offF] at h
  rw[loc]
  by_cases c:m<p.length
  ·rw[if_pos c]
   exact⟨by simp,by simpa using c,by simp[offF]⟩
  ·rw[if_neg c]
   obtain⟨h1,h2,h3⟩:=loc_spec ps (m-p.length) (by omega)
   refine⟨by simp;omega,by simpa using h2,?_⟩
   rw[offF]
   omega
theorem loc_off (ps:List (List Ev)) (i l:Nat) (hi:i<ps.length) (hl:l<(ps.getD i []).length):loc ps (offF ps i+l)=(i,l):=by
 have hm:offF ps i+l<offF ps ps.length:=by
  have:=off_mono ps i ps.length hi (Nat.le_refl _)
  omega
 obtain⟨h1,h2,h3⟩:=loc_spec ps _ hm
 generalize loc ps (offF ps i+l)=q at h1 h2 h3
 obtain⟨a,b⟩:=q
 simp only at h1 h2 h3
 by_cases c:a=i
 ·subst c
  have:b=l:=by omega
  rw[this]
 ·exfalso
  by_cases c2:a<i
  ·have:=off_mono ps a i c2 (by omega)
   omega
  ·have:=off_mono ps i a (by omega) (by omega)
   omega
theorem join_fold:∀ (rs:List Run) (W:Wd),(rs.foldl Wd.join W).events=W.events++flat W.events.length (rs.map Run.events)∧(rs.foldl Wd.join W).regs=W.regs++(rs.map Run.regs).flatten
 | [],W=>⟨by simp[flat],by simp⟩
 | r::rs,W=>by
  obtain⟨h1,h2⟩:=join_fold rs (W.join r)
  rw[List.foldl_cons]
  refine⟨?_,?_⟩
  ·rw[h1,List.map_cons,flat]
   show (W.events++r.events.map (zJh W.events.length))++flat (W.events++r.events.map (zJh W.events.length)).length _=_
   rw[List.append_assoc,List.length_append,List.length_map]
  ·rw[h2,List.map_cons,List.flatten_cons]
   show (W.regs++r.regs)++_=_
   rw[List.append_assoc]
end Q
namespace Q
structure Inv (n:Nat) (sg:Nat→Nat):Prop where
 lt:∀ k,k<n→sg k<n
 back:∀ k,k<n→sg (sg k)=k
theorem Inv.inj {n:Nat} {sg:Nat→Nat} (h:Inv n sg) {a b:Nat} (ha:a<n) (hb:b<n) (e:sg a=sg b):a=b:=by
 rw[← h.back a ha,← h.back b hb,e]
structure Turn (n:Nat) (sg:Nat→Nat) (ps ps':List (List Ev)):Prop where
 inv:Inv n sg
 len:ps.length=n
 len':ps'.length=n
 no:∀ k,k<n→ps'.getD k []=(ps.getD (sg k) []).map (evT (k:Int))
 run:∀ k,k<n→RInv (k:Int) (ps.getD k [])
def fT (sg:Nat→Nat) (ps ps':List (List Ev)) (m:Nat):Nat:=if m<3 then m else 3+offF ps (sg (loc ps' (m-3)).1)+(loc ps' (m-3)).2
theorem first_len:zIR.length=3:=rfl
theorem world_ev (ps:List (List Ev)) (i l:Nat) (h:l<(ps.getD i []).length):ev (zIR++flat 3 ps) (3+offF ps i+l)=zJh (3+offF ps i) (ev (ps.getD i []) l):=by
 rw[ev_append,if_neg (by rw[first_len];omega),first_len,show 3+offF ps i+l-3=offF ps i+l by omega,flat_ev ps 3 i l h]
theorem world_first (ps:List (List Ev)) (i:Nat) (h:i<3):ev (zIR++flat 3 ps) i=zIF (i:Int):=by
 rw[ev_append,if_pos (by rw[first_len];exact h)]
 exact winv_first.fst i h
section
variable {n:Nat} {sg:Nat→Nat} {ps ps':List (List Ev)}
theorem Turn.lens (h:Turn n sg ps ps') {k:Nat} (hk:k<n):(ps'.getD k []).length=(ps.getD (sg k) []).length:=by rw[h.no k hk,List.length_map]
theorem Turn.at' (h:Turn n sg ps ps') {k l:Nat} (hk:k<n) (hl:l<(ps'.getD k []).length):ev (zIR++flat 3 ps') (3+offF ps' k+l)=zJh (3+offF ps' k) (evT (k:Int) (ev (ps.getD (sg k) []) l)):=by
 rw[world_ev ps' k l hl,h.no k hk,ev_map,if_pos (by rw[h.lens hk] at hl;exact hl)]
theorem Turn.fAt (h:Turn n sg ps ps') {k l:Nat} (hk:k<n) (hl:l<(ps'.getD k []).length):fT sg ps ps' (3+offF ps' k+l)=3+offF ps (sg k)+l:=by
 unfold fT
 rw[if_neg (by omega),show 3+offF ps' k+l-3=offF ps' k+l by omega,loc_off ps' k l (by rw[h.len'];exact hk) hl]
theorem Turn.loc' (h:Turn n sg ps ps') {m:Nat} (hm:3≤m) (hl:m<(zIR++flat 3 ps').length):∃ k l,k<n∧l<(ps'.getD k []).length∧m=3+offF ps' k+l:=by
 rw[List.length_append,first_len,flat_lenT] at hl
 obtain⟨h1,h2,h3⟩:=loc_spec ps' (m-3) (by omega)
 exact⟨_,_,by rw[← h.len'];exact h1,h2,by omega⟩
theorem Turn.loc (h:Turn n sg ps ps') {m:Nat} (hm:3≤m) (hl:m<(zIR++flat 3 ps).length):∃ k l,k<n∧l<(ps.getD k []).length∧m=3+offF ps k+l:=by
 rw[List.length_append,first_len,flat_lenT] at hl
 obtain⟨h1,h2,h3⟩:=loc_spec ps (m-3) (by omega)
 exact⟨_,_,by rw[← h.len];exact h1,h2,by omega⟩
theorem turn_thr (h:Turn n sg ps ps') {k l:Nat} (hk:k<n) (hl:l<(ps.getD k []).length):(ev (ps.getD k []) l).thread=(k:Int):=by
 have:=(h.run k hk).evs _ (List.getElem_mem hl)
 rw[ev_in _ _ hl]
 exact this.thr
theorem turn_hb (h:Turn n sg ps ps') {k l:Nat} (hk:k<n) (hl:l<(ps.getD k []).length):HB (ps.getD k []).length (ev (ps.getD k []) l).hangs:=by
 have:=(h.run k hk).evs _ (List.getElem_mem hl)
 rw[ev_in _ _ hl]
 exact this.hb
theorem off_lt {i l:Nat} (hi:i<ps.length) (hl:l<(ps.getD i []).length) (o:Nat):o+offF ps i+l<o+(flat 3 ps).length:=by
 rw[flat_lenT]
 have:=off_mono ps i ps.length hi (Nat.le_refl _)
 omega
theorem turn_whom (h:Turn n sg ps ps') (h64:(zIR++flat 3 ps).length≤64):WHom (fun v=>v) (fT sg ps ps') (zIR++flat 3 ps') (zIR++flat 3 ps):=by
 have hlen:(zIR++flat 3 ps).length=3+(flat 3 ps).length:=by rw[List.length_append,first_len]
 have f3:∀ m,m<3→fT sg ps ps' m=m:=fun m hm=>by unfold fT;rw[if_pos hm]
 have f3':∀ m,3≤m→m<(zIR++flat 3 ps').length→3≤fT sg ps ps' m:=fun m hm hl=>by
  unfold fT;rw[if_neg (by omega)];omega
 have thr':∀ {k l:Nat} (hk:k<n) (hl:l<(ps'.getD k []).length),(ev (zIR++flat 3 ps') (3+offF ps' k+l)).thread=(k:Int):=fun hk hl=>by rw[h.at' hk hl];rfl
 have thr:∀ {k l:Nat} (hk:k<n) (hl:l<(ps'.getD k []).length),(ev (zIR++flat 3 ps) (3+offF ps (sg k)+l)).thread=(sg k:Int):=fun {k l} hk hl=>by
  rw[h.lens hk] at hl
  rw[world_ev ps (sg k) l hl]
  exact turn_thr h (h.inv.lt k hk) hl
 have le:∀ {k l:Nat} (hk:k<n) (hl:l<(ps'.getD k []).length),EvLe (ev (zIR++flat 3 ps') (3+offF ps' k+l)) (ev (zIR++flat 3 ps) (3+offF ps (sg k)+l))∧(ev (zIR++flat 3 ps) (3+offF ps (sg k)+l)).var=(ev (zIR++flat 3 ps') (3+offF ps' k+l)).var:=fun {k l} hk hl=>by
  rw[h.at' hk hl]
  rw[h.lens hk] at hl
  rw[world_ev ps (sg k) l hl]
  exact⟨⟨rfl,rfl,rfl,rfl,rfl,id,id,id,fun _ h=>h,id⟩,rfl⟩
 have hvar:∀ i,i<(zIR++flat 3 ps').length→(ev (zIR++flat 3 ps) (fT sg ps ps' i)).var=(ev (zIR++flat 3 ps') i).var:=fun i hi=>by
  by_cases c:i<3
  ·rw[f3 i c,world_first ps i c,world_first ps' i c]
  ·obtain⟨k,l,hk,hl,rfl⟩:=h.loc' (by omega) hi
   rw[h.fAt hk hl]
   exact (le hk hl).2
 have first:∀ i,i<(zIR++flat 3 ps').length→((ev (zIR++flat 3 ps) (fT sg ps ps' i)).thread=-1 ↔ (ev (zIR++flat 3 ps') i).thread=-1):=fun i hi=>by
  by_cases c:i<3
  ·rw[f3 i c,world_first ps i c,world_first ps' i c]
  ·obtain⟨k,l,hk,hl,rfl⟩:=h.loc' (by omega) hi
   rw[h.fAt hk hl,thr hk hl,thr' hk hl]
   constructor<;>intro e<;>omega
 refine⟨⟨fun i hi=>?_,fun i k hi hk e=>?_,fun i hi=>?_,first,fun i k hi hk=>?_,fun i k hi hk _ _=>by rw[hvar i hi,hvar k hk],fun i k hi hk ht hs hik=>?_,fun i k hi k1 s1 e=>?_,fun i k hi hk hb=>?_⟩,fun m hm ha=>?_,fun i hi k0 s0=>?_,fun i hi _=>hvar i hi⟩
 ·by_cases c:i<3
  ·rw[f3 i c];omega
  ·obtain⟨k,l,hk,hl,rfl⟩:=h.loc' (by omega) hi
   rw[h.fAt hk hl,hlen]
   rw[h.lens hk] at hl
   exact off_lt (by rw[h.len];exact h.inv.lt k hk) hl 3
 ·by_cases c:i<3
  ·by_cases c2:k<3
   ·rw[f3 i c,f3 k c2] at e;exact e
   ·have:=f3' k (by omega) hk
    rw[f3 i c] at e;omega
  ·by_cases c2:k<3
   ·have:=f3' i (by omega) hi
    rw[f3 k c2] at e;omega
   ·obtain⟨a,l,ha,hl,rfl⟩:=h.loc' (by omega) hi
    obtain⟨b,j,hb,hj,rfl⟩:=h.loc' (by omega) hk
    rw[h.fAt ha hl,h.fAt hb hj] at e
    have hl2:=hl
    have hj2:=hj
    rw[h.lens ha] at hl2
    rw[h.lens hb] at hj2
    have e1:=loc_off ps (sg a) l (by rw[h.len];exact h.inv.lt a ha) hl2
    have e2:=loc_off ps (sg b) j (by rw[h.len];exact h.inv.lt b hb) hj2
    rw[show offF ps (sg a)+l=offF ps (sg b)+j by omega,e2] at e1
    simp only[Prod.mk.injEq] at e1
    rw[h.inv.inj ha hb e1.1.symm,e1.2]
 ·by_cases c:i<3
  ·rw[f3 i c,world_first ps i c,world_first ps' i c]
   exact⟨rfl,rfl,rfl,rfl,rfl,id,id,id,fun _ h=>h,id⟩
  ·obtain⟨k,l,hk,hl,rfl⟩:=h.loc' (by omega) hi
   rw[h.fAt hk hl]
   exact (le hk hl).1
 ·by_cases c:i<3
  ·have e1:(ev (zIR++flat 3 ps') i).thread=-1:=by rw[world_first ps' i c];rfl
   have e2:=(first i hi).2 e1
   rw[e1,e2]
   have:=first k hk
   constructor
   ·intro e;exact (this.1 e.symm).symm
   ·intro e;exact (this.2 e.symm).symm
  ·obtain⟨a,l,ha,hl,rfl⟩:=h.loc' (by omega) hi
   by_cases c2:k<3
   ·rw[h.fAt ha hl,thr ha hl,thr' ha hl,f3 k c2,world_first ps k c2,world_first ps' k c2]
    show ((sg a:Nat):Int)=-1 ↔ (a:Int)=-1
    constructor<;>intro e<;>omega
   ·obtain⟨b,j,hb,hj,rfl⟩:=h.loc' (by omega) hk
    rw[h.fAt ha hl,h.fAt hb hj,thr ha hl,thr hb hj,thr' ha hl,thr' hb hj]
    constructor
    ·intro e
     have:=h.inv.inj ha hb (by omega)
     rw[this]
    ·intro e
     have:a=b:=by omega
     rw[this]
 ·have c:¬ i<3:=fun c=>ht (by rw[world_first ps' i c];rfl)
  obtain⟨a,l,ha,hl,rfl⟩:=h.loc' (by omega) hi
  have c2:¬ k<3:=by omega
  obtain⟨b,j,hb,hj,rfl⟩:=h.loc' (by omega) hk
  rw[thr' ha hl,thr' hb hj] at hs
  have e:a=b:=by omega
  subst e
  rw[h.fAt ha hl,h.fAt hb hj]
  omega
 ·have c:¬ i<3:=fun c=>by rw[world_first ps' i c] at s1;simp[zIF] at s1
  obtain⟨a,l,ha,hl,rfl⟩:=h.loc' (by omega) hi
  rw[h.at' ha hl] at k1 s1
  have hsw:=(h.run (sg a) (h.inv.lt a ha)).sw l k1 s1
  have e2:k=3+offF ps' a+(l-1):=by omega
  rw[e2,h.fAt ha (by omega),h.fAt ha hl]
  omega
 ·by_cases c:i<3
  ·rw[world_first ps' i c,show (zIF (i:Int)).hangs=0 from rfl,hasS_zero] at hb;cases hb
  ·obtain⟨a,l,ha,hl,rfl⟩:=h.loc' (by omega) hi
   have hl2:=hl
   rw[h.lens ha] at hl2
   have hsg:=h.inv.lt a ha
   rw[h.at' ha hl] at hb
   have hb2:hasS (moved (ev (ps.getD (sg a) []) l).hangs ((3+offF ps' a:Nat):Int)) (k:Int)=true:=hb
   rw[h.fAt ha hl,world_ev ps (sg a) l hl2]
   show hasS (moved (ev (ps.getD (sg a) []) l).hangs ((3+offF ps (sg a):Nat):Int)) _=true
   have hbd:=turn_hb h hsg hl2
   by_cases hn:3+offF ps' a<64
   ·obtain⟨k64,hok,hs⟩:=(hasS_moved _ _ _ hn).1 hb2
    have hj:=hbd _ hs
    have e:k=3+offF ps' a+(k-(3+offF ps' a)):=by omega
    have hj2:k-(3+offF ps' a)<(ps'.getD a []).length:=by rw[h.lens ha];exact hj
    rw[e,h.fAt ha hj2]
    have hbig:=off_lt (ps:=ps) (i:=sg a) (l:=k-(3+offF ps' a)) (by rw[h.len];exact hsg) hj 3
    rw[hlen] at h64
    refine (hasS_moved _ _ _ (by omega)).2 ⟨by omega,by omega,?_⟩
    rw[show 3+offF ps (sg a)+(k-(3+offF ps' a))-(3+offF ps (sg a))=k-(3+offF ps' a) by omega]
    exact hs
   ·have z:moved (ev (ps.getD (sg a) []) l).hangs ((3+offF ps' a:Nat):Int)=0:=by unfold moved;rw[if_pos (by omega)]
    rw[z,hasS_zero] at hb2;cases hb2
 ·by_cases c:m<3
  ·exact⟨m,by rw[List.length_append,first_len];omega,f3 m c⟩
  ·obtain⟨b,l,hb,hl,rfl⟩:=h.loc (by omega) hm
   have hsb:=h.inv.lt b hb
   have hl2:l<(ps'.getD (sg b) []).length:=by rw[h.lens hsb,h.inv.back b hb];exact hl
   refine⟨3+offF ps' (sg b)+l,?_,?_⟩
   ·rw[List.length_append,first_len]
    exact off_lt (by rw[h.len'];exact hsb) hl2 3
   ·rw[h.fAt hsb hl2,h.inv.back b hb]
 ·have c:¬ i<3:=fun c=>by rw[world_first ps' i c] at s0;simp[zIF] at s0
  obtain⟨a,l,ha,hl,rfl⟩:=h.loc' (m:=i) (by omega) (by omega)
  rw[h.at' ha hl] at k0 s0
  have hsr:=(h.run (sg a) (h.inv.lt a ha)).sr l k0 s0
  have hl3:l+1<(ps'.getD a []).length:=by
   rw[h.lens ha]
   by_cases c2:l+1<(ps.getD (sg a) []).length
   ·exact c2
   ·rw[ev_out _ _ (by omega)] at hsr;simp[Ev.zero] at hsr
  rw[show 3+offF ps' a+l+1=3+offF ps' a+(l+1) by omega,h.fAt ha hl3,h.fAt ha hl]
  omega
end
end Q
namespace Q
theorem gD_lt {α:Type} (l:List α) (k:Nat) (d:α) (h:k<l.length):l.getD k d=l[k]:=by rw[List.getD_eq_getElem?_getD,List.getElem?_eq_getElem h];rfl
theorem zKE {α:Type} (l:List α) (k:Nat) (d:α) (h:k<l.length):l.getD k d∈l:=by rw[gD_lt l k d h];exact List.getElem_mem h
theorem gD_map {α β:Type} (f:α→β) (l:List α) (k:Nat) (d:α) (d':β) (h:k<l.length):(l.map f).getD k d'=f (l.getD k d):=by
 rw[gD_lt l k d h,gD_lt (l.map f) k d' (by simpa using h),List.getElem_map]
def run0:Run:=⟨[],[]⟩
def thr0:P.Thr:=⟨0,0,[]⟩
theorem joinAll_fold:∀ (rss:List (List Run)) (ds:List Int) (W:Wd),DigOk (zAT rss) ds→∃ rs:List Run,rs.length=rss.length∧(∀ k,k<rss.length→(ds.getD k 0).toNat<(rss.getD k []).length∧rs.getD k run0=(rss.getD k []).getD (ds.getD k 0).toNat run0)∧zKn W rss ds=rs.foldl Wd.join W
 | [],[],W,_=>⟨[],rfl,fun k h=>by simp at h,rfl⟩
 | r::rss,d::ds,W,h=>by
  have h1:0≤d:=h.1
  have h2:d<(r.length:Int):=h.2.1
  have hd:d.toNat<r.length:=by omega
  obtain⟨rs,e1,e2,e3⟩:=joinAll_fold rss ds (W.join r[d.toNat]) h.2.2
  refine⟨r[d.toNat]::rs,by simp[e1],fun k hk=>?_,?_⟩
  ·cases k with
   | zero =>
    refine⟨by simpa using hd,?_⟩
    simp[List.getD_eq_getElem?_getD,hd]
   | succ k =>
    have:=e2 k (by simpa using hk)
    simpa using this
  ·simp only[zKn]
   rw[dif_pos hd,e3,List.foldl_cons]
 | [],d::ds,_,h=>by simp[zAT,DigOk] at h
 | r::rss,[],_,h=>by simp[zAT,DigOk] at h
theorem runsFrom_get:∀ (ts:List P.Thr) (i k:Nat),k<ts.length→(runsFrom i ts).getD k []=zJS (ts.getD k thr0) (i+k)
 | [],_,k,h=>by simp at h
 | t::ts,i,0,_=>by simp[runsFrom]
 | t::ts,i,k+1,h=>by
  have:=runsFrom_get ts (i+1) k (by simpa using h)
  rw[show i+1+k=i+(k+1) by omega] at this
  simpa [runsFrom] using this
theorem runsFrom_lenT:∀ (ts:List P.Thr) (i:Nat),(runsFrom i ts).length=ts.length
 | [],_=>rfl
 | t::ts,i=>by simp[runsFrom,runsFrom_lenT ts (i+1)]
structure TurnTs (n:Nat) (sg:Nat→Nat) (ts ts':List P.Thr):Prop where
 inv:Inv n sg
 len:ts.length=n
 len':ts'.length=n
 thr:∀ k,k<n→ThL (ts.getD (sg k) thr0) (ts'.getD k thr0)
theorem StL.symm {s t:P.Stm} (h:StL s t):StL t s:=⟨by rw[h.eq]⟩
theorem stsL_symm:∀ {x y:List P.Stm},StsL x y→StsL y x
 | [],[],_=>trivial
 | a::x,b::y,h=>⟨h.1.symm,stsL_symm h.2⟩
 | [],b::y,h=>by simp[StsL] at h
 | a::x,[],h=>by simp[StsL] at h
theorem TurnTs.symm {n:Nat} {sg:Nat→Nat} {ts ts':List P.Thr} (h:TurnTs n sg ts ts'):TurnTs n sg ts' ts :=
 ⟨h.inv,h.len',h.len,fun k hk=>by
  have:=h.thr (sg k) (h.inv.lt k hk)
  rw[h.inv.back k hk] at this
  exact⟨this.block.symm,stsL_symm this.sts⟩⟩
theorem list_range {α:Type} (l:List α) (d:α):l=(List.range l.length).map fun k=>l.getD k d:=by
 refine List.ext_getElem (by simp) (fun i h1 h2=>?_)
 simp[List.getD_eq_getElem?_getD,h1]
def regsT (n:Nat) (sg:Nat→Nat) (g:List Int):List Int:=(List.range n).flatMap fun k=>(g.drop (4*sg k)).take 4
theorem flat_block:∀ (rs:List (List Int)) (k:Nat),(∀ r∈rs,r.length=4)→k<rs.length→(rs.flatten.drop (4*k)).take 4=rs.getD k []
 | [],k,_,h=>by simp at h
 | r::rs,0,hr,_=>by
  have:=hr r (by simp)
  simp only[List.flatten_cons,Nat.mul_zero,List.drop_zero]
  rw[List.take_append_of_le_length (by omega),List.take_of_length_le (by omega)]
  rfl
 | r::rs,k+1,hr,h=>by
  have h4:=hr r (by simp)
  have ih:=flat_block rs k (fun x hx=>hr x (List.mem_cons_of_mem _ hx)) (by simpa using h)
  rw[List.flatten_cons,show 4*(k+1)=4+4*k by omega,← List.drop_drop,List.drop_append_of_le_length (by omega),show r.drop 4=[] from List.drop_eq_nil_of_le (by omega),List.nil_append,ih]
  simp
theorem zJQ {n:Nat} {sg:Nat→Nat} {ts ts':List P.Thr} (h:TurnTs n sg ts ts') (hV:KerV ts) (hV':KerV ts') (hn:∀ d∈zIE (zAT (runs ts)),(zIl (runs ts) d).events.length≤64) (hn':∀ d∈zIE (zAT (runs ts')),(zIl (runs ts') d).events.length≤64)
  (h4:∀ rs∈runs ts,∀ r∈rs,r.regs.length=4) :
  (∀ r∈(zIC ts).rows,∃ (g:List Int) (x y z:Int),g.length=4*n∧r=g++[x,y,z]∧regsT n sg g++[x,y,z]∈(zIC ts').rows)∧((zIC ts).clash=true→(zIC ts').clash=true):=by
 have hl:(runs ts).length=n:=by unfold runs;rw[runsFrom_lenT];exact h.len
 have hl':(runs ts').length=n:=by unfold runs;rw[runsFrom_lenT];exact h.len'
 have hget:∀ k,k<n→(runs ts).getD k []=zJS (ts.getD k thr0) k:=fun k hk=>by
  have:=runsFrom_get ts 0 k (by rw[h.len];exact hk)
  rw[Nat.zero_add] at this;exact this
 have hget':∀ k,k<n→(runs ts').getD k []=((runs ts).getD (sg k) []).map (Run.no (k:Int)):=fun k hk=>by
  have:=runsFrom_get ts' 0 k (by rw[h.len'];exact hk)
  rw[Nat.zero_add] at this
  rw[hget (sg k) (h.inv.lt k hk)]
  exact this.trans (runs_no (h.thr k hk) (sg k) k)
 obtain⟨a1,a2⟩:=source_pull (ts:=ts') (ts':=ts) hV' hV hn' hn (fun v=>v) (fun g g'=>g'.length=4*n∧g=regsT n sg g') (fun d hd=>by
  have hdo:=digitRows_ok hd
  obtain⟨rs,r1,r2,r3⟩:=joinAll_fold (runs ts) d ⟨zIR,[]⟩ hdo
  rw[hl] at r1 r2
  have hd':DigOk (zAT (runs ts')) ((List.range n).map fun k=>d.getD (sg k) 0):=by
   have e:zAT (runs ts')=(List.range n).map fun k=>(((runs ts).getD (sg k) []).length:Int):=by
    unfold zAT
    conv=>lhs;rw[list_range (runs ts') []]
    rw[hl',List.map_map]
    refine List.map_congr_left fun k hk=>?_
    show (((runs ts').getD k []).length:Int)=_
    rw[hget' k (List.mem_range.1 hk),List.length_map]
   rw[e]
   refine dig_range _ _ _ (fun k hk=>?_)
   have hk2:=h.inv.lt k (List.mem_range.1 hk)
   have h5:=(r2 (sg k) hk2).1
   have h6:=dig_get hdo (sg k) (by unfold zAT;rw[List.length_map,hl];exact hk2)
   omega
  obtain⟨rs',q1,q2,q3⟩:=joinAll_fold (runs ts') ((List.range n).map fun k=>d.getD (sg k) 0) ⟨zIR,[]⟩ hd'
  rw[hl'] at q1 q2
  have hrs:∀ k,k<n→rs'.getD k run0=(rs.getD (sg k) run0).no (k:Int):=fun k hk=>by
   obtain⟨b1,b2⟩:=q2 k hk
   obtain⟨c1,c2⟩:=r2 (sg k) (h.inv.lt k hk)
   have e:((List.range n).map fun k=>d.getD (sg k) 0).getD k 0=d.getD (sg k) 0:=range_getD _ n k hk
   rw[b2,e,c2,hget' k hk]
   exact gD_map (Run.no (k:Int)) _ _ run0 run0 c1
  have hmem:∀ k,k<n→rs.getD k run0∈zJS (ts.getD k thr0) k:=fun k hk=>by
   obtain⟨c1,c2⟩:=r2 k hk
   rw[c2,← hget k hk]
   exact zKE _ _ _ c1
  have hev:∀ (l:List Run) k,k<l.length→(l.map Run.events).getD k []=(l.getD k run0).events:=fun l k hk=>by
   exact gD_map Run.events l k run0 [] hk
  have hT:Turn n sg (rs.map Run.events) (rs'.map Run.events):=⟨h.inv,by simpa using r1,by simpa using q1,fun k hk=>by
   rw[hev rs' k (by omega),hev rs (sg k) (by rw[r1];exact h.inv.lt k hk),hrs k hk];rfl,fun k hk=>by
   rw[hev rs k (by omega)]
   refine run_rinv (t:=ts.getD k thr0) (hV _ ?_) (hmem k hk)
   exact zKE _ _ _ (by rw[h.len];exact hk)⟩
  have w1:zIl (runs ts) d=rs.foldl Wd.join ⟨zIR,[]⟩:=r3
  have w2:zIl (runs ts') ((List.range n).map fun k=>d.getD (sg k) 0)=rs'.foldl Wd.join ⟨zIR,[]⟩:=q3
  obtain⟨e1,g1⟩:=join_fold rs ⟨zIR,[]⟩
  obtain⟨e2,g2⟩:=join_fold rs' ⟨zIR,[]⟩
  have h64:=hn d hd
  rw[w1,e1] at h64
  refine⟨(List.range n).map fun k=>d.getD (sg k) 0,dig_mem hd',fT sg (rs.map Run.events) (rs'.map Run.events),?_,?_,?_⟩
  ·rw[w1,w2,e1,e2]
   exact turn_whom hT h64
  ·rw[w1,g1]
   have hreg:∀ x∈rs.map Run.regs,x.length=4:=fun x hx=>by
    obtain⟨r,hr,rfl⟩:=List.mem_map.1 hx
    obtain⟨k,hk,e⟩:=List.getElem_of_mem hr
    have hk2:k<n:=by omega
    have:=hmem k hk2
    rw[gD_lt rs k run0 hk,e] at this
    refine h4 _ ?_ r this
    rw[← hget k hk2]
    exact zKE _ _ _ (by omega)
   have:∀ l:List (List Int),(∀ x∈l,x.length=4)→l.flatten.length=4*l.length:=fun l=>by
    induction l with
    | nil=>intro _;rfl
    | cons a l ih=>intro hl;rw[List.flatten_cons,List.length_append,ih (fun x hx=>hl x (List.mem_cons_of_mem _ hx)),hl a (by simp),List.length_cons];omega
   show ([]++(rs.map Run.regs).flatten).length=_
   rw[List.nil_append,this _ hreg,List.length_map,r1]
  ·rw[w1,w2,g1,g2]
   show []++(rs'.map Run.regs).flatten=regsT n sg ([]++(rs.map Run.regs).flatten)
   rw[List.nil_append,List.nil_append]
   have hreg:∀ x∈rs.map Run.regs,x.length=4:=fun x hx=>by
    obtain⟨r,hr,rfl⟩:=List.mem_map.1 hx
    obtain⟨k,hk,e⟩:=List.getElem_of_mem hr
    have hk2:k<n:=by omega
    have:=hmem k hk2
    rw[gD_lt rs k run0 hk,e] at this
    refine h4 _ ?_ r this
    rw[← hget k hk2]
    exact zKE _ _ _ (by omega)
   unfold regsT
   have e3:rs'.map Run.regs=(List.range n).map fun k=>((rs.map Run.regs).flatten.drop (4*sg k)).take 4:=by
    conv=>lhs;rw[list_range rs' run0]
    rw[q1,List.map_map]
    refine List.map_congr_left fun k hk=>?_
    have hk2:=List.mem_range.1 hk
    show (rs'.getD k run0).regs=_
    rw[flat_block _ (sg k) hreg (by rw[List.length_map,r1];exact h.inv.lt k hk2),hrs k hk2,gD_map Run.regs rs (sg k) run0 [] (by rw[r1];exact h.inv.lt k hk2)]
    rfl
   rw[e3,List.flatMap_def])
 refine⟨fun r hr=>?_,a2⟩
 obtain⟨g,g',x,⟨hg,hg2⟩,e,hm⟩:=a1 r hr
 rw[hg2] at hm
 exact⟨g',x 0,x 1,x 2,hg,e,hm⟩
end Q
end Go.Proofs.YtkmebkbpfmoeaaaGreat
