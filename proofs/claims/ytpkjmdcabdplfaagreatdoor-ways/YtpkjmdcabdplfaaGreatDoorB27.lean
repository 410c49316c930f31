import Derived.Test.YtpkjmdcabdplfaaGreatDoorB26
set_option linter.unusedVariables false
set_option linter.unusedSimpArgs false
namespace Go.Proofs.YtpkjmdcabdplfaaGreatDoor
open Go
def Alike (p:P.Rd × Bool) (o:Option R.St) (i:Int):Prop :=
 p.1.line=i∧match o with
 | none=>p.2=false
 | some s=>p.2=true∧Rel p.1 s
theorem digit2 (c:UInt8):(P.digit c 2).2=true ↔ (c=48∨c=49):=by
 have:∀ c:Fin 256,(P.digit (UInt8.ofNat c.1) 2).2=true ↔ (UInt8.ofNat c.1=48∨UInt8.ofNat c.1=49):=by decide +kernel
 have h:=this ⟨c.toNat,UInt8.toNat_lt c⟩
 simpa using h
theorem bl_one (c:UInt8):(P.digit c 2).2=decide (0≤R.inn [c] R.bl)∧((P.digit c 2).2=true→(P.digit c 2).1=R.inn [c] R.bl):=by
 rw[inn_bl]
 by_cases h0:c=48
 ·subst h0;decide
 by_cases h1:c=49
 ·subst h1;decide
 have hf:(P.digit c 2).2=false:=by
  cases h:(P.digit c 2).2
  ·rfl
  ·rcases (digit2 c).1 h with h | h
   ·exact absurd h h0
   ·exact absurd h h1
 rw[hf]
 simp[h0,h1]
theorem bl_none (v:List UInt8) (h:∀ c,v≠[c]):decide (0≤R.inn v R.bl)=false:=by
 rw[inn_bl,if_neg (h _),if_neg (h _)];rfl
theorem alike_begins (r:P.Rd) (s:R.St) (i:Int) (c:ByteArray) (w:List ByteArray) (hr:Rel r s) (hi:r.line=i) (hpos:0<i) :
  Alike (P.begins r (c.toList::w.map ByteArray.toList)) (R.begins s i w) i:=by
 have hl:=hr.thsLen
 have ho:=hr.opnLen
 have hf:=hr.few
 have bad:∀ o,o=none→Alike (r,false) o i:=fun o h=>by subst h;exact⟨hi,rfl⟩
 unfold P.begins R.begins
 by_cases hc:4≤r.threads.length∨0<r.opn.length
 ·rw[if_pos hc]
  apply bad
  match w with
  | []=>rfl
  | [d] =>
   simp only[]
   rw[if_neg]
   intro hh
   simp at hh
   rcases hc with hc | hc
   ·exact hh.2 (by omega)
   ·rw[ho,hh.1.2] at hc;simp at hc
  | _::_::_=>rfl
 rw[if_neg hc]
 have h4:¬ s.ts.length=4:=by omega
 have h0:s.opn=[]:=by
  have:s.opn.length=0:=by omega
  exact List.length_eq_zero_iff.1 this
 match w with
 | []=>exact bad _ rfl
 | [d] =>
  simp only[List.map_cons,List.map_nil,h0,List.isEmpty_nil,Bool.and_true]
  have h4':(s.ts.length==4)=false:=by simpa using h4
  rw[h4']
  simp only[Bool.not_false,Bool.and_true]
  match hd:d.toList with
  | [] =>
   simp only[]
   apply bad
   rw[bl_none _ (fun c h=>by cases h)];rfl
  | [x] =>
   simp only[]
   have e:=bl_one x
   cases hx:(P.digit x 2).2
   ·rw[hx] at e
    rw[← e.1]
    exact bad _ rfl
   ·rw[hx] at e
    rw[← e.1]
    simp only[if_true]
    refine⟨hi,rfl,⟨rfl,?_,?_,?_,?_,Or.inr ?_⟩⟩
    ·simp;omega
    ·intro u hu
     simp at hu
     rcases hu with hu | rfl
     ·exact hr.thr u hu
     ·refine⟨by simp only[hi];exact hpos,?_⟩
      simp only[]
      rw[e.2 rfl,inn_bl]
      have h1:=e.1
      rw[inn_bl] at h1
      split
      ·exact Or.inl rfl
      ·rename_i h2
       rw[if_neg h2] at h1
       split
       ·exact Or.inr rfl
       ·rename_i h3
        rw[if_neg h3] at h1
        exact absurd h1 (by decide)
    ·have:=hr.inn
     simp only[P.innerO_append,P.innerO,P.innerS,Option.or_none]
     exact this
    ·intro l h
     simp only[P.innerO_append,P.innerO,P.innerS,Option.or_none] at h
     exact hr.pos l h
    ·have hopn:r.opn=[]:=by
      have:r.opn.length=0:=by omega
      exact List.length_eq_zero_iff.1 this
     have T:Thrs 0 s.ts r.threads r.ifs:=by
      rcases hr.ths with ⟨h1,h2,h3,h5,h6⟩ | ⟨ts,us,t,u,m,k,b,q,h1,h2,h3,h5,h6,h7,h8,h9⟩
      ·rw[h1,h2,h6];exact .nil 0
      ·obtain⟨e1,e2,e3⟩:=h6.none h0
       rw[h1,h2]
       refine .snoc h3 ?_ h8 h9
       rw[h7,e1,List.append_nil,e3];exact h5
     refine⟨s.ts,r.threads,_,_,r.ifs,r.ifs,[],[],rfl,rfl,T,.nil _,?_,rfl,e.2 rfl,hi⟩
     rw[hopn]
     exact .nil _
  | x::y::z =>
   simp only[]
   apply bad
   rw[bl_none _ (fun c h=>by cases h)];rfl
 | a::b::z =>
  simp only[List.map_cons]
  split
  ·rename_i h;simp at h
  ·exact bad _ rfl
theorem thr_put {ts:List P.Thr} (st:P.Stm) (h:∀ u∈ts,0<u.line∧(u.block=0∨u.block=1)):∀ u∈P.putLast ts st,0<u.line∧(u.block=0∨u.block=1):=by
 match ts,h with
 | [],h=>intro u hu;simp[P.putLast] at hu
 | [t],h =>
  intro u hu
  simp[P.putLast] at hu
  subst hu
  exact h t (by simp)
 | t::v::q,h =>
  intro u hu
  simp only[P.putLast,List.mem_cons] at hu
  rcases hu with rfl | hu
  ·exact h u (by simp)
  ·exact thr_put (ts:=v::q) st (fun u hu=>h u (by simp at hu ⊢;exact Or.inr hu)) u hu
theorem rel_put {r:P.Rd} {s:R.St} (st:P.Stm) (tr:R.Tree) (c n:Int) (i:Int) (inn:Int) (hr:Rel r s) (hne:s.ts≠[]) (hi:0<i) (hc:c=n)
  (hst:∀ k,Flat k [tr] [st] k) (hl:st.line=i)
  (hin:inn=if (st.kind==5)&&!s.opn.isEmpty&&s.inner==0 then i else s.inner) :
  Rel (P.put { r with count:=c } st) (R.put { s with count:=n,inner:=inn } tr):=by
 rcases hr.ths with ⟨h1,h2,h3,h5,h6⟩ | ⟨ts,us,t,u,m,k,b,q,h1,h2,h3,h5,h6,h7,h8,h9⟩
 ·exact absurd h2 hne
 have hdep:P.dep u.stmts=s.opn.length:=by rw[h7,P.dep_append,h5.dep,h6.dep];omega
 have hpt:P.putLast r.threads st=us++[{ u with stmts:=u.stmts++[st] }]:=by rw[h2,P.putLast_snoc]
 have hio:P.innerO (P.putLast r.threads st)=(P.innerO r.threads).or (if st.kind==5&&decide (0<(s.opn.length:Int)) then some i else none):=by
  rw[hpt,h2,P.innerO_append,P.innerO_append]
  simp only[P.innerO,Option.or_none]
  rw[P.innerS_snoc,hdep,hl,Option.or_assoc]
  simp
 have hpos:(!s.opn.isEmpty)=decide (0<(s.opn.length:Int)):=by
  cases s.opn with
  | nil=>rfl
  | cons a l=>simp
 have hinn:inn=(P.innerO (P.putLast r.threads st)).getD 0:=by
  rw[hin,hio,← hpos]
  have h0:=hr.inn
  have hp:=hr.pos
  cases ho:P.innerO r.threads with
  | none =>
   rw[ho] at h0
   simp at h0
   rw[h0]
   cases (st.kind==5&&!s.opn.isEmpty)<;>simp
  | some l =>
   rw[ho] at h0
   have:=hp l ho
   simp at h0
   have hn:(s.inner==0)=false:=by rw[h0];simp;omega
   rw[hn,h0];simp
 have hposn:∀ l,P.innerO (P.putLast r.threads st)=some l→0<l:=by
  intro l hl'
  rw[hio] at hl'
  cases ho:P.innerO r.threads with
  | none =>
   rw[ho] at hl'
   simp at hl'
   omega
  | some l' =>
   rw[ho] at hl'
   simp at hl'
   rw[← hl'];exact hr.pos _ ho
 have hfew:(P.putLast r.threads st).length≤4:=by rw[P.putLast_length];exact hr.few
 unfold R.put P.put
 by_cases he:s.opn=[]
 ·obtain⟨e1,e2,e3⟩:=h6.none he
  simp only[he,List.isEmpty_nil,if_true]
  refine⟨hc,hfew,thr_put st hr.thr,hinn,hposn,Or.inr ⟨ts,us,{ t with body:=t.body++[tr] },{ u with stmts:=u.stmts++[st] },m,k,b++[st],[],?_,hpt,h3,h5.append (hst k),?_,?_,h8,h9⟩⟩
  ·simp only[h1,R.addLast_snoc]
  ·simp only[e2,e3];exact .nil _
  ·simp[h7,e1]
 ·obtain⟨m',a,gs,p,ss,ms,st',l,o1,o2,o3,o4,o5,o6⟩:=h6.last he
  have hemp:s.opn.isEmpty=false:=by cases hx:s.opn with
   | nil=>exact absurd hx he
   | cons _ _=>rfl
  simp only[hemp,Bool.false_eq_true,if_false]
  refine⟨hc,hfew,thr_put st hr.thr,hinn,hposn,Or.inr ⟨ts,us,t,{ u with stmts:=u.stmts++[st] },m,k,b,q++[st],h1,hpt,h3,h5,?_,?_,h8,h9⟩⟩
  ·simp only[o4,R.addTop_snoc,o6,o5]
   have:=Opened.snoc o1 o2 (o3.append (hst r.ifs))
   simpa using this
  ·simp[h7]
end Go.Proofs.YtpkjmdcabdplfaaGreatDoor
namespace Go.Proofs.YtpkjmdcabdplfaaGreatDoor
namespace P
structure Tidy (r:Rd):Prop where
 few:r.threads.length≤4
 c0:0≤r.count
 c8:r.count≤8
 none:r.threads=[]→r.count=0
 i0:0≤r.ifs
 i1:r.ifs≤8*((r.threads.length-1:Nat):Int)+r.count
 opn:∀ o∈r.opn,0≤o∧o<100
 thr:∀ t∈r.threads,0≤t.block∧t.block<100∧∀ s∈t.stmts,Small s
theorem tidy_zero:Tidy Rd.zero:=⟨by simp[Rd.zero],by simp[Rd.zero],by simp[Rd.zero],by simp[Rd.zero],by simp[Rd.zero],by simp[Rd.zero],by simp[Rd.zero],by simp[Rd.zero]⟩
theorem small_of {st:Stm} (h:Nums st) (ln lb:Int) (h0:0≤lb) (h1:lb<100):Small { st with line:=ln,label:=lb } :=
 ⟨h.d0,by have:=h.d1;show st.dest<100;omega,h.a0,by have:=h.a1;show st.a.n<100;omega,h.b0,by have:=h.b1;show st.b.n<100;omega,h0,h1⟩
theorem putLast_thr (ts:List Thr) (s:Stm) (hs:Small s) (h:∀ t∈ts,0≤t.block∧t.block<100∧∀ s∈t.stmts,Small s):∀ t∈putLast ts s,0≤t.block∧t.block<100∧∀ s∈t.stmts,Small s:=by
 match ts,h with
 | [],h=>intro t ht;simp[putLast] at ht
 | [a],h =>
  intro t ht
  simp[putLast] at ht
  subst ht
  have:=h a (by simp)
  refine⟨this.1,this.2.1,fun x hx=>?_⟩
  simp at hx
  rcases hx with hx | rfl
  ·exact this.2.2 x hx
  ·exact hs
 | a::b::r,h =>
  intro t ht
  simp only[putLast,List.mem_cons] at ht
  rcases ht with rfl | ht
  ·exact h t (by simp)
  ·exact putLast_thr (b::r) s hs (fun t ht=>h t (by simp at ht ⊢;right;exact ht)) t ht
theorem tidy_put {r:Rd} (s:Stm) (h:Tidy r) (hs:Small s):Tidy (put r s):=by
 have hl:(put r s).threads.length=r.threads.length:=putLast_length _ _
 refine⟨by rw[hl];exact h.few,h.c0,h.c8,fun e=>h.none (by have:=congrArg List.length e;rw[hl] at this;exact List.eq_nil_of_length_eq_zero (by simpa using this)),h.i0,by rw[hl];exact h.i1,h.opn,putLast_thr _ _ hs h.thr⟩
theorem tidy_takes {r:Rd} (ws:List (List UInt8)) (h:Tidy r):Tidy (takes { r with line:=r.line+1 } ws).1:=by
 have h0:Tidy { r with line:=r.line+1 }:=⟨h.few,h.c0,h.c8,h.none,h.i0,h.i1,h.opn,h.thr⟩
 unfold takes
 split
 ·unfold begins
  by_cases hf:4≤r.threads.length∨0<r.opn.length
  ·rw[if_pos (by exact hf)];exact h0
  ·rw[if_neg (by exact hf)]
   split
   ·rename_i a c _
    by_cases hd:(digit c 2).2=true
    ·rw[if_pos hd]
     have hb:=digit_ok c 2 hd
     refine⟨by simp;omega,by simp,by simp,by simp,h.i0,?_,h.opn,?_⟩
     ·have:=h.i1
      have hn:=h.none
      have h8:=h.c8
      cases ht:r.threads with
      | nil=>rw[ht] at this;rw[hn ht] at this;simp at this ⊢;omega
      | cons t q=>rw[ht] at this;simp at this ⊢;omega
     ·intro t ht
      simp at ht
      rcases ht with ht | rfl
      ·exact h.thr t ht
      ·exact⟨hb.1,by show (digit c 2).1<100;omega,by simp⟩
    ·rw[if_neg hd];exact h0
   ·exact h0
 ·split
  ·exact h0
  ·rename_i _ hne
   simp only[]
   split
   ·rename_i hs
    have hn:=nums_statement ws hs
    split
    ·unfold ends
     split
     ·exact h0
     ·rename_i l hl
      have hm:l∈r.opn:=List.mem_of_getLast? hl
      have hlb:=h.opn l hm
      refine tidy_put _ ⟨h.few,h.c0,h.c8,h.none,h.i0,h.i1,fun o ho=>h.opn o (List.dropLast_subset _ ho),h.thr⟩ ?_
      exact small_of hn _ _ hlb.1 hlb.2
    ·split
     ·exact h0
     ·rename_i h8
      have h8':r.count<8:=by simpa using h8
      have hne':r.threads≠[]:=by simpa using hne
      have h1:Tidy { r with line:=r.line+1,count:=r.count+1 }:=⟨h.few,by have:=h.c0;show 0≤r.count+1;omega,by show r.count+1≤8;omega,fun e=>absurd e hne',h.i0,by have:=h.i1;show r.ifs≤8*((r.threads.length-1:Nat):Int)+(r.count+1);omega,h.opn,h.thr⟩
      split
      ·split
       ·exact h1
       ·rename_i ho
        unfold branch
        rw[if_neg ho]
        have hi:=h.i1
        have hf:=h.few
        have hi0:=h.i0
        have hb:r.ifs+1<100:=by omega
        refine tidy_put _ ⟨h1.few,h1.c0,h1.c8,h1.none,by show 0≤r.ifs+1;omega,by show r.ifs+1≤8*((r.threads.length-1:Nat):Int)+(r.count+1);omega,?_,h1.thr⟩ (small_of hn _ _ (by show 0≤r.ifs+1;omega) hb)
        intro o ho'
        simp at ho'
        rcases ho' with ho' | rfl
        ·exact h.opn o ho'
        ·exact⟨by omega,hb⟩
      ·refine tidy_put _ h1 ?_
       have:=small_of hn (r.line+1) 0 (by omega) (by omega)
       have e:({ (statement ws).1 with line:=r.line+1 }:Stm)={ (statement ws).1 with line:=r.line+1,label:=0 }:=by
        have:=hn.l0
        rw[← this]
       rw[e];exact this
   ·exact h0
theorem tidy_run (xs:List (List UInt8)):∀ r:Rd,Tidy r→Tidy (runLines r xs).1:=by
 induction xs with
 | nil=>intro r h;exact h
 | cons x q ih =>
  intro r h
  simp only[runLines]
  split
  ·exact ih _ (tidy_takes _ h)
  ·exact tidy_takes _ h
theorem lines_small (l:List UInt8):∀ t∈(lines l).1,0≤t.block∧t.block<100∧∀ s∈t.stmts,Small s:=by
 have h:=tidy_run (splitAt 10 l).dropLast Rd.zero tidy_zero
 unfold lines
 simp only[]
 split
 ·split
  ·intro t ht;simp at ht
  ·exact h.thr
 ·intro t ht;simp at ht
end P
end Go.Proofs.YtpkjmdcabdplfaaGreatDoor
namespace Go.Proofs.YtpkjmdcabdplfaaGreatDoor
open Go
theorem rel_ends {r:P.Rd} {s:R.St} (st:P.Stm) (l:Int) (f:R.Fr) (hr:Rel r s) (hk:st.kind=11) (hl:r.opn.getLast?=some l) (hf:s.opn.getLast?=some f) :
  Rel (P.put { r with opn:=r.opn.dropLast } { st with label:=l }) (R.put { s with opn:=s.opn.dropLast } (.mk (R.lIf f.a) f.l)):=by
 have hne:s.opn≠[]:=by intro h;rw[h] at hf;simp at hf
 rcases hr.ths with ⟨h1,h2,h3,h5,h6⟩ | ⟨ts,us,t,u,m,k,b,q,h1,h2,h3,h5,h6,h7,h8,h9⟩
 ·exact absurd h3 hne
 obtain⟨m',a,gs,p,ss,ms,st',tl,o1,o2,o3,o4,o5,o6⟩:=h6.last hne
 have ef:f=⟨tl,a⟩:=by rw[o4] at hf;simpa using hf.symm
 have el:l=m'+1:=by rw[o6] at hl;simpa using hl.symm
 subst ef
 subst el
 have hs:s.opn.dropLast=gs:=by rw[o4];simp
 have hm:r.opn.dropLast=ms:=by rw[o6];simp
 rw[hs,hm]
 have hpt:∀ x,P.putLast r.threads x=us++[{ u with stmts:=u.stmts++[x] }]:=fun x=>by rw[h2,P.putLast_snoc]
 have N:Flat m' [.mk (R.lIf a) tl] (st'::(ss++[{ st with label:=m'+1 }])) r.ifs:=Flat.node o2 o3 ⟨hk,rfl⟩ (.nil _)
 have hio:P.innerO (P.putLast r.threads { st with label:=m'+1 })=P.innerO r.threads:=by
  rw[hpt,h2,P.innerO_append,P.innerO_append]
  simp only[P.innerO,Option.or_none]
  rw[P.innerS_snoc]
  simp[hk]
 have hfew:(P.putLast r.threads { st with label:=m'+1 }).length≤4:=by rw[P.putLast_length];exact hr.few
 unfold R.put P.put
 by_cases he:gs=[]
 ·obtain⟨e1,e2,e3⟩:=o1.none he
  subst he
  simp only[List.isEmpty_nil,if_true]
  refine⟨hr.cnt,hfew,thr_put _ hr.thr,by simp only[hio];exact hr.inn,by simp only[hio];exact hr.pos,Or.inr ⟨ts,us,{ t with body:=t.body++[.mk (R.lIf a) tl] },{ u with stmts:=u.stmts++[{ st with label:=m'+1 }] },m,r.ifs,b++(st'::(ss++[{ st with label:=m'+1 }])),[],?_,hpt _,h3,h5.append (e3 ▸ N),?_,?_,h8,h9⟩⟩
  ·simp only[h1,R.addLast_snoc]
  ·simp only[e2];exact .nil _
  ·simp[h7,o5,e1]
 ·obtain⟨m2,a2,gs2,p2,ss2,ms2,st2,tl2,q1,q2,q3,q4,q5,q6⟩:=o1.last he
  have hemp:gs.isEmpty=false:=by cases hx:gs with
   | nil=>exact absurd hx he
   | cons _ _=>rfl
  simp only[hemp,Bool.false_eq_true,if_false]
  refine⟨hr.cnt,hfew,thr_put _ hr.thr,by simp only[hio];exact hr.inn,by simp only[hio];exact hr.pos,Or.inr ⟨ts,us,t,{ u with stmts:=u.stmts++[{ st with label:=m'+1 }] },m,k,b,q++[{ st with label:=m'+1 }],h1,hpt _,h3,h5,?_,?_,h8,h9⟩⟩
  ·simp only[q4,R.addTop_snoc,q6,o5,q5]
   have:=Opened.snoc q1 q2 (q3.append N)
   simpa using this
  ·simp[h7]
theorem rel_branch {r:P.Rd} {s:R.St} (st:P.Stm) (a:Int) (c n:Int) (hr:Rel r s) (hne:s.ts≠[]) (hk:st.kind=10) (ho:P.opdT st.a=R.shown a) (hc:c=n) :
  Rel (P.put { r with count:=c,ifs:=r.ifs+1,opn:=r.opn++[r.ifs+1] } { st with label:=r.ifs+1 }) { s with count:=n,opn:=s.opn++[⟨[],a⟩] }:=by
 rcases hr.ths with ⟨h1,h2,h3,h5,h6⟩ | ⟨ts,us,t,u,m,k,b,q,h1,h2,h3,h5,h6,h7,h8,h9⟩
 ·exact absurd h2 hne
 have hpt:∀ x,P.putLast r.threads x=us++[{ u with stmts:=u.stmts++[x] }]:=fun x=>by rw[h2,P.putLast_snoc]
 have hio:P.innerO (P.putLast r.threads { st with label:=r.ifs+1 })=P.innerO r.threads:=by
  rw[hpt,h2,P.innerO_append,P.innerO_append]
  simp only[P.innerO,Option.or_none]
  rw[P.innerS_snoc]
  simp[hk]
 have hfew:(P.putLast r.threads { st with label:=r.ifs+1 }).length≤4:=by rw[P.putLast_length];exact hr.few
 unfold P.put
 refine⟨hc,hfew,thr_put _ hr.thr,by simp only[hio];exact hr.inn,by simp only[hio];exact hr.pos,Or.inr ⟨ts,us,t,{ u with stmts:=u.stmts++[{ st with label:=r.ifs+1 }] },m,k,b,q++[{ st with label:=r.ifs+1 }],h1,hpt _,h3,h5,Opened.snoc h6 ⟨hk,rfl,ho⟩ (.nil _),?_,h8,h9⟩⟩
 simp[h7]
theorem how_op (x:R.Lh) (orders:List UInt8) (r:List ByteArray):(R.how x orders r).1.op=x.op:=by
 unfold R.how
 split
 ·rfl
 ·split
  ·rfl
  ·split
   ·rfl
   ·split<;>rfl
theorem assign_op (d c:ByteArray) (r:List ByteArray):¬ (R.assign d c r).1.op.toList=[105,102]:=by
 have h0:¬ R.x0.op.toList=[105,102]:=by rw[R.x0,lit_toList];decide
 have hs:¬ R.sSet.toList=[105,102]:=by rw[R.sSet,lit_toList];decide
 unfold R.assign
 split
 ·split
  ·simp only[R.stLoad,how_op,R.sLoad,lit_toList];decide
  ·exact h0
 ·split
  ·rename_i hc
   simp only[Bool.and_eq_true,Bool.or_eq_true,beq_iff_eq] at hc
   split
   ·simp only[R.stStep,how_op]
    rcases hc.1 with h | h<;>rw[h]<;>decide
   ·exact h0
  ·split
   ·exact hs
   ·exact hs
   ·exact hs
theorem stmt_op (c:ByteArray) (w:List ByteArray):¬ (R.stmt c w).1.op.toList=[105,102]:=by
 have h0:¬ R.x0.op.toList=[105,102]:=by rw[R.x0,lit_toList];decide
 unfold R.stmt
 split
 ·simp only[R.sBarrier,lit_toList];decide
 ·split
  ·simp only[how_op,R.sFence,lit_toList];decide
  ·split
   ·split
    ·simp only[R.stStore,how_op,R.sStore,lit_toList];decide
    ·exact h0
   ·split
    ·split
     ·exact assign_op _ _ _
     ·exact h0
    ·exact h0
theorem alike_takes (r:P.Rd) (s:R.St) (i:Int) (c:ByteArray) (w:List ByteArray) (hr:Rel r s) (hi:r.line=i) (hpos:0<i) :
  Alike (P.takes r (c.toList::w.map ByteArray.toList)) (R.step s i c w) i:=by
 unfold P.takes R.step
 simp only[List.head?_cons]
 by_cases ht:c.toList=[116,104,114,101,97,100]
 ·rw[if_pos (by simpa using ht),if_pos (by simpa using ht)]
  exact alike_begins r s i c w hr hi hpos
 have htB:(some c.toList==some [116,104,114,101,97,100])=false:=by simpa using ht
 have htC:(c.toList==[116,104,114,101,97,100])=false:=by simpa using ht
 simp only[htB,htC,Bool.false_eq_true,if_false]
 have hl:=hr.thsLen
 have ho:=hr.opnLen
 by_cases hn:s.ts=[]
 ·have:r.threads=[]:=List.length_eq_zero_iff.1 (by rw[hl,hn];rfl)
  rw[hn,this]
  exact⟨hi,rfl⟩
 have hn':r.threads.isEmpty=false:=by
  cases hx:r.threads with
  | nil=>rw[hx] at hl;exact absurd (List.length_eq_zero_iff.1 hl.symm) hn
  | cons _ _=>rfl
 have hn2:s.ts.isEmpty=false:=by
  cases hx:s.ts with
  | nil=>exact absurd hx hn
  | cons _ _=>rfl
 rw[hn',hn2]
 simp only[Bool.false_eq_true,if_false]
 have bad:∀ (n:Int) o,o=none→Alike ({ r with count:=n },false) o i:=fun n o h=>by subst h;exact⟨hi,rfl⟩
 have bad0:∀ o,o=none→Alike (r,false) o i:=fun o h=>by subst h;exact⟨hi,rfl⟩
 by_cases he:c.toList=[101,110,100]
 ·have heB:(c.toList==[101,110,100])=true:=by simpa using he
  simp only[heB,if_true]
  have hs:P.statement (c.toList::w.map ByteArray.toList)=({ P.Stm.zero with kind:=11 },w.isEmpty):=by
   unfold P.statement;simp[he]
  rw[hs]
  simp only[]
  cases hw:w.isEmpty
  ·simp only[Bool.false_eq_true,if_false]
   apply bad0
   unfold R.ends
   rw[hw]
   cases s.opn.getLast?<;>rfl
  ·simp only[if_true]
   rw[if_pos (by rfl)]
   unfold P.ends R.ends
   rw[hw]
   cases hg:s.opn.getLast? with
   | none =>
    have:r.opn=[]:=by
     rw[List.getLast?_eq_none_iff] at hg
     exact List.length_eq_zero_iff.1 (by rw[ho,hg];rfl)
    rw[this]
    exact⟨hi,rfl⟩
   | some f =>
    cases hg2:r.opn.getLast? with
    | none =>
     rw[List.getLast?_eq_none_iff] at hg2
     rw[hg2] at ho
     have:s.opn=[]:=List.length_eq_zero_iff.1 ho.symm
     rw[this] at hg;simp at hg
    | some l=>exact⟨hi,rfl,rel_ends _ l f hr rfl hg2 hg⟩
 have heB:(c.toList==[101,110,100])=false:=by simpa using he
 simp only[heB,Bool.false_eq_true,if_false]
 by_cases hif:c.toList=[105,102]
 ·have hifB:(c.toList==[105,102])=true:=by simpa using hif
  simp only[hifB,if_true]
  have hs:P.statement (c.toList::w.map ByteArray.toList)=P.condition (c.toList::w.map ByteArray.toList):=by
   unfold P.statement;simp[hif]
  rw[hs]
  match w with
  | []=>exact bad0 _ rfl
  | [a] =>
   have e:=opd_eq a.toList
   simp only[P.condition,List.map_cons,List.map_nil,R.branch]
   cases hx:(P.operand a.toList).2
   ·simp only[Bool.false_eq_true,if_false]
    apply bad0
    rw[← e.1,hx];simp
   ·simp only[if_true]
    rw[if_neg (by decide)]
    have hc:=hr.cnt
    by_cases h8:8≤r.count
    ·rw[if_pos h8]
     apply bad0
     rw[if_neg];simp;omega
    rw[if_neg h8,if_pos (by decide)]
    by_cases h2:2≤r.opn.length
    ·rw[if_pos h2]
     apply bad
     rw[if_neg];simp;omega
    rw[if_neg h2]
    unfold P.branch
    simp only[]
    rw[if_neg h2,if_pos (by rw[← e.1,hx];simp;omega)]
    refine⟨hi,rfl,?_⟩
    refine rel_branch { P.Stm.zero with kind:=10,line:=r.line,a:=(P.operand a.toList).1 } (R.opd a.toList).1 (r.count+1) (s.count+1) hr hn rfl ?_ (by rw[hc])
    rw[← e.2 hx,shown_enc _ (P.operand_ok _ hx).1]
  | a::b::z=>exact bad0 _ rfl
 have hifB:(c.toList==[105,102])=false:=by simpa using hif
 simp only[hifB,Bool.false_eq_true,if_false]
 have e:=stmt_eq c w hif he
 unfold R.one
 cases hx:(P.statement (c.toList::w.map ByteArray.toList)).2
 ·simp only[Bool.false_eq_true,if_false]
  apply bad0
  rw[← e.1,hx];simp
 ·have T:=(e.2 (by rw[← e.1,hx])).line r.line
  simp only[if_true]
  rw[if_neg (by rw[show ((P.statement (c.toList::w.map ByteArray.toList)).1.kind==11)=false from T.k11];decide)]
  have hc:=hr.cnt
  by_cases h8:8≤r.count
  ·rw[if_pos h8]
   apply bad0
   rw[if_neg];simp;omega
  rw[if_neg h8,if_neg (by rw[show ((P.statement (c.toList::w.map ByteArray.toList)).1.kind==10)=false from T.k10];decide)]
  rw[if_pos (by rw[← e.1,hx];simp;omega)]
  refine⟨hi,rfl,?_⟩
  refine rel_put { (P.statement (c.toList::w.map ByteArray.toList)).1 with line:=r.line } _ (r.count+1) (s.count+1) i _ hr hn hpos (by rw[hc]) (fun k=>.leaf T (stmt_op c w) (.nil k)) hi ?_
  rw[show ((P.statement (c.toList::w.map ByteArray.toList)).1.kind==5)=R.isB (R.stmt c w).1 from T.br.symm]
end Go.Proofs.YtpkjmdcabdplfaaGreatDoor
namespace Go.Proofs.YtpkjmdcabdplfaaGreatDoor
open Go Go.RowKit
set_option maxRecDepth 100000
set_option maxHeartbeats 2000000 in
theorem small_any (i:Nat) (w:World) (h:i<100) :
  Calls Tryz.prog 98 #[.int .i64 (i:Int)] w fun e w'=>e=.returned (.string ⟨(Lib.decDigits i).toArray⟩)∧w'=w:=by
 go_enter Tryz.func98,Tryz.ntmps98
 go_name_bytes_deep 45 SM hSM
 have eSM:SM=Lib.smalls:=by rw[← hSM];decide +kernel
 subst eSM
 clear hSM
 go_name_bytes_deep 30 DG hDG
 have eDG:DG=Lib.digits36:=by rw[← hDG];decide +kernel
 subst eDG
 clear hDG
 by_cases h10:i<10
 ·have hsl:∀ w,(Instr.slice 9 (.string Lib.digits36) (some (.int .i64 (i:Int))) (some (.int .i64 ((i:Int)+1))) none).run Tryz.prog w=.ok (.string (Lib.digits36.extract i (i+1))) w:=fun w=>by
   rw[run_slice_string w 9 Lib.digits36 .i64 .i64 _ _ Tryz.underlying9 (by omega) (by omega) (by rw[Lib.digits36_size];omega),show ((i:Int)).toNat=i by omega,show ((i:Int)+1).toNat=i+1 by omega]
  go_wp2
  go_ret
  refine⟨?_,rfl⟩
  show Ending.returned (Value.string (Lib.digits36.extract i (i+1)))=_
  rw[ba_of (Lib.digits36.extract i (i+1)) (Lib.decDigits i) (by rw[Lib.extract_data];exact Lib.digits36_piece h10)]
 ·have hsl:∀ w,(Instr.slice 9 (.string Lib.smalls) (some (.int .i64 ((i:Int)*2))) (some (.int .i64 ((i:Int)*2+2))) none).run Tryz.prog w=.ok (.string (Lib.smalls.extract (i*2) (i*2+2))) w:=fun w=>by
   rw[run_slice_string w 9 Lib.smalls .i64 .i64 _ _ Tryz.underlying9 (by omega) (by omega) (by rw[Lib.smalls_size];omega),show ((i:Int)*2).toNat=i*2 by omega,show ((i:Int)*2+2).toNat=i*2+2 by omega]
  go_wp2
  go_ret
  refine⟨?_,rfl⟩
  show Ending.returned (Value.string (Lib.smalls.extract (i*2) (i*2+2)))=_
  rw[ba_of (Lib.smalls.extract (i*2) (i*2+2)) (Lib.decDigits i) (by rw[Lib.extract_data];exact Lib.smalls_piece h10 h)]
set_option maxHeartbeats 2000000 in
theorem format_any (i:Nat) (w:World) (h:i<100) :
  Calls Tryz.prog 90 #[.int .i64 (i:Int),.int .i64 10] w fun e w'=>e=.returned (.string ⟨(Lib.decDigits i).toArray⟩)∧w'=w:=by
 have h1:(0:Int)≤(i:Int):=by omega
 have h2:(i:Int)<100:=by omega
 go_enter Tryz.func90,Tryz.ntmps90
 go_wp2_with (first | (go_at_call 98;refine (small_any i _ h).mono ?_;rintro e w' ⟨rfl,rfl⟩))
 go_ret
 exact⟨rfl,rfl⟩
theorem itoa_any (n:Int) (w:World) (h0:0≤n) (h:n<100) :
  Calls Tryz.prog 60 #[.int .i64 n] w fun e w'=>e=.returned (.string ⟨(Lib.decDigits n.toNat).toArray⟩)∧w'=w:=by
 obtain⟨i,rfl⟩:=Int.eq_ofNat_of_zero_le h0
 rw[Int.toNat_natCast]
 go_enter Tryz.func60,Tryz.ntmps60
 go_wp2_with (first | (go_at_call 90;refine (format_any i _ (by omega)).mono ?_;rintro e w' ⟨rfl,rfl⟩) | go_in)
 go_ret
 exact⟨rfl,rfl⟩
theorem itoa_txt (n:Int) (w:World) (h0:0≤n) (h:n<100) :
  Calls Tryz.prog 60 #[.int .i64 n] w fun e w'=>∃ s,e=.returned (.string s)∧Txt 2 s (P.dec n)∧w'=w:=by
 refine (itoa_any n w h0 h).mono ?_
 rintro e w' ⟨rfl,rfl⟩
 refine⟨_,rfl,⟨mk_toList _,?_⟩,rfl⟩
 have:=P.dec_len n h
 rw[← size_toList,mk_toList];exact this
set_option maxHeartbeats 400000 in
theorem regA_any (n:Int) (w:World) (h0:0≤n) (h:n<100) :
  Calls Tryz.prog 77 #[.int .i64 n] w fun e w'=>∃ s,e=.returned (.string s)∧Txt 4 s (P.regT n)∧w'=w:=by
 go_enter Tryz.func77,Tryz.ntmps77
 go_wp2_with (first | (go_at_call 60;refine (itoa_txt n _ h0 h).mono ?_;rintro e w' ⟨s,rfl,hs,rfl⟩;have hsz:=hs.size))
 go_ret
 refine⟨_,rfl,⟨?_,?_⟩,rfl⟩
 ·simp[app_toList,lit_toList,hs.1,P.regT]
 ·simp[lit_size];omega
set_option maxHeartbeats 400000 in
theorem varA_any (n:Int) (w:World) :
  Calls Tryz.prog 78 #[.int .i64 n] w fun e w'=>∃ s,e=.returned (.string s)∧Txt 3 s (P.celT n)∧w'=w:=by
 go_enter Tryz.func78,Tryz.ntmps78
 go_wp2
 all_goals go_ret
 all_goals refine⟨_,rfl,⟨?_,by simp[lit_size]⟩,rfl⟩
 all_goals simp[P.celT,P.varT,lit_toList, *]
set_option maxHeartbeats 400000 in
theorem ordA_any (n:Int) (w:World) :
  Calls Tryz.prog 76 #[.int .i64 n] w fun e w'=>∃ s,e=.returned (.string s)∧Txt 8 s ([46]++P.ordT n)∧w'=w:=by
 go_enter Tryz.func76,Tryz.ntmps76
 go_wp2
 all_goals go_ret
 all_goals refine⟨_,rfl,⟨?_,by simp[lit_size]⟩,rfl⟩
 all_goals simp[P.ordT,lit_toList, *]
set_option maxHeartbeats 400000 in
theorem labA_any (n:Int) (w:World) (h0:0≤n) (h:n<100) :
  Calls Tryz.prog 61 #[.int .i64 n] w fun e w'=>∃ s,e=.returned (.string s)∧Txt 3 s (P.labT n)∧w'=w:=by
 go_enter Tryz.func61,Tryz.ntmps61
 go_wp2_with (first | (go_at_call 60;refine (itoa_txt n _ h0 h).mono ?_;rintro e w' ⟨s,rfl,hs,rfl⟩;have hsz:=hs.size))
 go_ret
 refine⟨_,rfl,⟨?_,?_⟩,rfl⟩
 ·simp[app_toList,lit_toList,hs.1,P.labT]
 ·simp[lit_size];omega
set_option maxHeartbeats 400000 in
theorem thrA_any (n:Int) (w:World) (h0:0≤n) (h:n<100) :
  Calls Tryz.prog 32 #[.int .i64 n] w fun e w'=>∃ s,e=.returned (.string s)∧Txt 10 s ([46,116,104,114,101,97,100,32]++P.dec n)∧w'=w:=by
 go_enter Tryz.func32,Tryz.ntmps32
 go_wp2_with (first | (go_at_call 60;refine (itoa_txt n _ h0 h).mono ?_;rintro e w' ⟨s,rfl,hs,rfl⟩;have hsz:=hs.size))
 go_ret
 refine⟨_,rfl,⟨?_,?_⟩,rfl⟩
 ·simp[app_toList,lit_toList,hs.1]
 ·simp[lit_size];omega
set_option maxHeartbeats 400000 in
theorem opdA_any (o:P.Opd) (w:World) (h0:0≤o.n) (h:o.n<100) :
  Calls Tryz.prog 79 #[.agg #[.bool o.reg,.int .i64 o.n]] w fun e w'=>∃ s,e=.returned (.string s)∧Txt 4 s (P.opdT o)∧Below w.heap.size w w':=by
 cases hr:o.reg
 ·go_enter Tryz.func79,Tryz.ntmps79
  go_wp2_with (first | (go_at_call 60;refine (itoa_txt o.n _ h0 h).mono ?_;rintro e w' ⟨s,rfl,hs,rfl⟩;have hsz:=hs.size))
  go_ret
  refine⟨_,rfl,⟨?_,by omega⟩,(Below.refl _ _).alloc (Nat.le_refl _) _⟩
  rw[hs.1];simp[P.opdT,hr]
 ·go_enter Tryz.func79,Tryz.ntmps79
  go_wp2_with (first | (go_at_call 77;refine (regA_any o.n _ h0 h).mono ?_;rintro e w' ⟨s,rfl,hs,rfl⟩;have hsz:=hs.size))
  go_ret
  refine⟨_,rfl,⟨?_,by omega⟩,(Below.refl _ _).alloc (Nat.le_refl _) _⟩
  rw[hs.1];simp[P.opdT,hr]
namespace P
def sufO (o sc:Int):List UInt8:=if o==0 then [46,119,101,97,107] else [46]++ordT o++(if sc==0 then [46,99,116,97] else [46,103,112,117])
theorem sufO_eq (st:Stm):sufO st.order st.scope=sufT st:=rfl
end P
set_option maxHeartbeats 800000 in
theorem sufA_any (o sc:Int) (w:World) :
  Calls Tryz.prog 64 #[.int .i64 o,.int .i64 sc] w fun e w'=>∃ s,e=.returned (.string s)∧Txt 20 s (P.sufO o sc)∧w'=w:=by
 cases h0:(o==0)
 ·cases h1:(sc==0)
  all_goals
   go_enter Tryz.func64,Tryz.ntmps64
   go_wp2_with (first | (go_at_call 76;refine (ordA_any o _).mono ?_;rintro e w' ⟨s,rfl,hs,rfl⟩;have hsz:=hs.size))
   go_ret
   refine⟨_,rfl,⟨?_,?_⟩,rfl⟩
   ·simp[app_toList,lit_toList,hs.1,P.sufO,h0,h1]
   ·simp[lit_size];omega
 ·go_enter Tryz.func64,Tryz.ntmps64
  go_wp2
  go_ret
  refine⟨_,rfl,⟨?_,by simp[lit_size]⟩,rfl⟩
  simp[lit_toList,P.sufO,h0]
namespace P
def layT (k:Int):List UInt8 × List UInt8 :=
 if k==0 then ([108,100],[100,118])
 else if k==1 then ([115,116],[118,97])
 else if k==2 then ([97,116,111,109,46,97,100,100],[100,118,97])
 else if k==3 then ([97,116,111,109,46,101,120,99,104],[100,118,97])
 else if k==4 then ([102,101,110,99,101],[])
 else if k==5 then ([98,97,114,46,115,121,110,99],[])
 else if k==6 then ([109,111,118],[100,97])
 else if k==7 then ([97,100,100],[100,97,98])
 else if k==8 then ([115,117,98],[100,97,98])
 else if k==9 then ([115,101,116,101,113],[100,97,98])
 else ([98,122],[97,108])
def isOrd (k:Int):Bool:=(k==0||k==1||k==2||k==3)||k==4
def partT (st:Stm) (c:UInt8):List UInt8 :=
 if c=100 then regT st.dest else if c=118 then celT st.var else if c=97 then opdT st.a else if c=98 then opdT st.b else labT st.label
def joinT (st:Stm):List UInt8→List UInt8
 | []=>[]
 | c::r=>[32]++partT st c++r.flatMap (fun c=>[44,32]++partT st c)
def betT (l:List UInt8):List UInt8:=if l.isEmpty then [32] else [44,32]
theorem joinT_snoc (st:Stm) (l:List UInt8) (c:UInt8):joinT st (l++[c])=joinT st l++(betT l++partT st c):=by
 cases l with
 | nil=>simp[joinT,betT]
 | cons a r=>simp[joinT,betT]
theorem instr_end (st:Stm) (h:(st.kind==11)=true):instr st=labT st.label++[58]:=by
 have h':st.kind=11:=by simpa using h
 simp[instr,h']
theorem instr_lay (st:Stm) (h:(st.kind==11)=false):instr st=(layT st.kind).1++(if isOrd st.kind then sufO st.order st.scope else [])++joinT st (layT st.kind).2:=by
 have h':¬ st.kind=11:=by simpa using h
 rw[sufO_eq]
 by_cases hk:st.kind=0∨st.kind=1∨st.kind=2∨st.kind=3∨st.kind=4∨st.kind=5∨st.kind=6∨st.kind=7∨st.kind=8∨st.kind=9
 ·rcases hk with e | e | e | e | e | e | e | e | e | e<;>simp[instr,e,layT,isOrd,joinT,partT]
 ·have h0:¬ st.kind=0:=by omega
  have h1:¬ st.kind=1:=by omega
  have h2:¬ st.kind=2:=by omega
  have h3:¬ st.kind=3:=by omega
  have h4:¬ st.kind=4:=by omega
  have h5:¬ st.kind=5:=by omega
  have h6:¬ st.kind=6:=by omega
  have h7:¬ st.kind=7:=by omega
  have h8:¬ st.kind=8:=by omega
  have h9:¬ st.kind=9:=by omega
  simp[instr,h',h0,h1,h2,h3,h4,h5,h6,h7,h8,h9,layT,isOrd,joinT,partT]
end P
set_option maxHeartbeats 800000 in
theorem layA_any (k:Int) (w:World) :
  Calls Tryz.prog 62 #[.int .i64 k] w fun e w'=>∃ s t,e=.returned (.tuple #[.string s,.string t])∧Txt 9 s (P.layT k).1∧Txt 3 t (P.layT k).2∧w'=w:=by
 go_enter Tryz.func62,Tryz.ntmps62
 go_wp2
 all_goals go_ret2
 all_goals refine⟨_,_,rfl,⟨?_,by simp[lit_size]⟩,⟨?_,by simp[lit_size]⟩,rfl⟩
 all_goals simp[P.layT,lit_toList, *]
end Go.Proofs.YtpkjmdcabdplfaaGreatDoor
