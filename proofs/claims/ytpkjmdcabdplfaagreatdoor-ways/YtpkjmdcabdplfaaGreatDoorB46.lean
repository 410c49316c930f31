import Derived.Test.YtpkjmdcabdplfaaGreatDoorB29
set_option linter.unusedVariables false
set_option linter.unusedSimpArgs false
namespace Go.Proofs.YtpkjmdcabdplfaaGreatDoor
open Go
theorem ordW_inj {o:Int} (h0:0≤o) (h1:o<6):(ordW o==oW)=(o==0)∧(ordW o==oR)=(o==1)∧(ordW o==oA)=(o==2)∧(ordW o==oL)=(o==3)∧(ordW o==oQ)=(o==4)∧(ordW o==oS)=(o==5):=by
 have:o=0∨o=1∨o=2∨o=3∨o=4∨o=5:=by omega
 rcases this with rfl | rfl | rfl | rfl | rfl | rfl<;>decide
theorem scW_facts {o s:Int} (h:OkOS o s):(scW o s==[])=(o==0)∧(scW o s==R.lBlock)=(o != 0&&s==0)∧(scW o s==R.lDevice)=(s==1):=by
 have h1:o=0∨o=1∨o=2∨o=3∨o=4∨o=5:=by have:=h.o0;have:=h.o1;omega
 have hw:=h.w
 rcases h.s0 with rfl | rfl<;>rcases h1 with rfl | rfl | rfl | rfl | rfl | rfl<;>first | decide | (exact absurd (hw rfl) (by decide))
theorem suf_os (st:P.Stm) (ob sb:ByteArray) (o s:Int) (h:OkOS o s) (ho:ob.toList=ordW o) (hs:sb.toList=scW o s):P.sufT { st with order:=o,scope:=s }=46::R.scopd ob.toList sb.toList:=by
 rw[ho,hs]
 have h1:o=0∨o=1∨o=2∨o=3∨o=4∨o=5:=by have:=h.o0;have:=h.o1;omega
 have hw:=h.w
 have e:∀ o s:Int,P.sufT { st with order:=o,scope:=s }=if o==0 then [46,119,101,97,107] else [46]++P.ordT o++(if s==0 then [46,99,116,97] else [46,103,112,117]):=fun _ _=>rfl
 rw[e]
 rcases h.s0 with e1 | e1<;>rcases h1 with e2 | e2 | e2 | e2 | e2 | e2<;>subst e1<;>subst e2<;>first | decide | (exact absurd (hw rfl) (by decide))
theorem Twin.with {st:P.Stm} {x:R.Lh} (h:Twin st x) (hk:(P.isAcc st.kind||st.kind==4)=true) (o s:Int) (ob sb:ByteArray) (hok:OkOS o s) (ho:ob.toList=ordW o) (hs:sb.toList=scW o s) (h5:st.kind=4→o=st.order) (hal:P.allows st.kind o=true) :
  Twin { st with order:=o,scope:=s } { x with ord:=ob,scope:=sb }:=by
 refine⟨h.gen _ _ _ _ (suf_os st ob sb o s hok ho hs),h.rd,h.wr,?_,h.br,h.k10,h.k11,fun o' s' ob' sb' hh=>h.gen o' s' ob' sb' hh,h.fe,h.se,h.acc,h.nac,fun _=>⟨ho,hs,hok,hal⟩,fun hn=>?_⟩
 ·have hf:=h.fe
  unfold R.isF P.isF
  simp only[] at hf ⊢
  rw[hf]
  cases h4:(st.kind==4)
  ·simp
  ·have e:=h5 (by simpa using h4)
   simp only[Bool.true_and,ho]
   exact (ordW_inj hok.o0 hok.o1).2.2.2.2.2
 ·simp only[] at hn;rw[hk] at hn;exact absurd hn (by decide)
theorem Flat.flatAny {n m:Int} {l:List R.Tree} {ss:List P.Stm} (p:P.Stm→Bool) (q:R.Lh→Bool) (h:Flat n l ss m)
  (hT:∀ st x,Twin st x→¬ x.op.toList=[105,102]→q x=p st) (h10:∀ st,st.kind=10→p st=false) (h11:∀ st,st.kind=11→p st=false) (hI:∀ a,q (R.lIf a)=false):(R.flatL l).any q=ss.any p:=by
 induction h using Flat.ind with
 | nil=>simp[R.flatL]
 | leaf t o _ ih=>simp[R.flatL,hT _ _ t o,ih]
 | node i _ e _ ih1 ih2=>simp[R.flatL,h10 _ i.k,h11 _ e.k,hI,ih1,ih2]
theorem acc10 {k:Int} (h:k=10):P.isAcc k=false:=by subst h;decide
theorem acc11 {k:Int} (h:k=11):P.isAcc k=false:=by subst h;decide
theorem reach_tw (v:Int) (hv:0≤v) (st:P.Stm) (x:R.Lh) (t:Twin st x):R.hasV v x=P.reachS v st:=by
 unfold R.hasV P.reachS
 cases ha:P.isAcc st.kind
 ·have:=t.nac ha
  rw[this]
  simp;omega
 ·rw[(t.acc ha).1];simp
theorem reach_if (v:Int) (hv:0≤v) (a:Int):R.hasV v (R.lIf a)=false:=by
 unfold R.hasV;simp[R.lIf,R.x0];omega
theorem Flat.reach {n m:Int} {l:List R.Tree} {ss:List P.Stm} (h:Flat n l ss m) (v:Int) (hv:0≤v):(R.flatL l).any (R.hasV v)=ss.any (P.reachS v) :=
 h.flatAny _ _ (fun st x t _=>reach_tw v hv st x t) (fun st hk=>by simp[P.reachS,acc10 hk]) (fun st hk=>by simp[P.reachS,acc11 hk]) (reach_if v hv)
theorem ThrC.anyB {n k:Int} {ts:List R.Th} {us:List P.Thr} (h:ThrC n ts us k) (v b:Int) (hv:0≤v):R.anyB (R.hasV v) b ts=P.blockReaches us b v:=by
 induction h using ThrC.ind with
 | nil=>rfl
 | cons f e _ _ ih=>simp only[R.anyB,P.blockReaches,List.any_cons,e,f.reach v hv] at ih ⊢;rw[ih]
theorem ThrC.one {n k:Int} {ts:List R.Th} {us:List P.Thr} (h:ThrC n ts us k) (v:Int) (hv:0≤v):R.onev ts v=!P.bothReach us v:=by
 unfold R.onev P.bothReach
 rw[h.anyB v 0 hv,h.anyB v 1 hv]
 cases P.blockReaches us 0 v<;>cases P.blockReaches us 1 v<;>rfl
theorem ThrC.there {n k:Int} {ts:List R.Th} {us:List P.Thr} (h:ThrC n ts us k) (b:Int):R.there ts b=us.any (fun u=>u.block==b):=by
 induction h using ThrC.ind with
 | nil=>rfl
 | cons f e _ _ ih=>simp only[R.there,List.any_cons,e] at ih ⊢;rw[ih]
theorem ofOne_eq (us:List P.Thr) (hb:∀ u∈us,u.block=0∨u.block=1):P.ofOne us=!(us.any (fun u=>u.block==0)&&us.any (fun u=>u.block==1)):=by
 cases us with
 | nil=>rfl
 | cons t r =>
  have key:∀ (l:List P.Thr),(∀ u∈l,u.block=0∨u.block=1)→(l.all (fun u=>u.block==0)=!l.any (fun u=>u.block==1))∧(l.all (fun u=>u.block==1)=!l.any (fun u=>u.block==0)):=by
   intro l
   induction l with
   | nil=>intro _;exact⟨rfl,rfl⟩
   | cons a q ih =>
    intro h
    have:=ih (fun u hu=>h u (by simp[hu]))
    simp only[List.all_cons,List.any_cons,this.1,this.2]
    rcases h a (by simp) with e | e<;>rw[e]<;>simp
  have k:=key (t::r) hb
  unfold P.ofOne
  simp only[]
  rcases hb t (by simp) with e | e
  ·rw[e,k.1];simp only[List.any_cons,e];simp
  ·rw[e,k.2];simp only[List.any_cons,e];simp
theorem ThrC.blocks {n k:Int} {ts:List R.Th} {us:List P.Thr} (h:ThrC n ts us k) (hb:∀ u∈us,u.block=0∨u.block=1):P.ofOne us=!R.both ts:=by
 rw[ofOne_eq us hb];unfold R.both;rw[h.there,h.there]
theorem narrow_tw (ts:List R.Th) (us:List P.Thr) (h1:∀ v,0≤v→R.onev ts v=!P.bothReach us v) (h2:P.ofOne us=!R.both ts) (st:P.Stm) (x:R.Lh) (t:Twin st x):Twin (P.narrowS us st) (R.narX (R.onev ts) (R.both ts) x):=by
 unfold P.narrowS R.narX P.stays
 cases hk:(P.isAcc st.kind||st.kind==4)
 ·simp only[Bool.or_eq_false_iff] at hk
  have hn:=t.non (by simp[hk])
  simp only[hk,hn]
  simpa using t
 ·obtain⟨ho,hs,hok,hal⟩:=t.os hk
  have hsc:=(scW_facts hok).1
  by_cases hw:st.order=0
  ·have hs0:=hok.w hw
   have e1:(x.scope.toList != [])=false:=by rw[hs];simp[scW,hw]
   rw[e1]
   simp only[Bool.false_and,Bool.false_eq_true,if_false]
   have e2:({ st with scope:=0 }:P.Stm)=st:=by rw[← hs0]
   rw[e2]
   simpa using t
  ·have e1:(x.scope.toList != [])=true:=by
    rw[hs]
    have:(scW st.order st.scope==[])=false:=by rw[hsc];simpa using hw
    simp[bne,this]
   rw[e1,Bool.true_and]
   have hok':OkOS st.order 0:=⟨hok.o0,hok.o1,Or.inl rfl,fun _=>rfl⟩
   have T:=t.with hk st.order 0 x.ord R.bBlock hok' ho (by rw[R.bBlock,lit_toList];simp[scW,hw]) (fun _=>rfl) hal
   cases h4:(st.kind==4)
   ·have ha:P.isAcc st.kind=true:=by simpa [h4] using hk
    obtain⟨a1,a2,a3⟩:=t.acc ha
    have e3:decide (0≤x.var)=true:=by simpa [a1] using a2
    have e4:decide (x.var<0)=false:=by simp[a1];omega
    have e5:P.bothReach us st.var=P.bothReach us x.var:=by rw[a1]
    rw[e3,e4,h1 x.var (by rw[a1];exact a2),ha,e5]
    simp only[Bool.true_and,Bool.false_and,Bool.or_false,Bool.false_eq_true,if_false]
    cases P.bothReach us x.var
    ·simpa using T
    ·simpa using t
   ·have ha:P.isAcc st.kind=false:=by
     have:st.kind=4:=by simpa using h4
     rw[this];rfl
    have hv:=t.nac ha
    have e3:decide (0≤x.var)=false:=by rw[hv];rfl
    have e4:decide (x.var<0)=true:=by rw[hv];rfl
    rw[e3,e4,h2]
    simp only[Bool.true_and,Bool.false_and,Bool.false_or,if_true]
    cases R.both ts
    ·simpa using T
    ·simpa using t
theorem narX_if (one:Int→Bool) (bo:Bool) (a:Int):R.narX one bo (R.lIf a)=R.lIf a:=by
 unfold R.narX;simp[R.lIf,R.x0,lit_toList]
theorem narX_op (one:Int→Bool) (bo:Bool) (x:R.Lh):(R.narX one bo x).op=x.op:=by
 unfold R.narX;split<;>rfl
theorem narrow_kind (us:List P.Thr) (st:P.Stm):(P.narrowS us st).kind=st.kind∧(P.narrowS us st).label=st.label∧(P.narrowS us st).a=st.a:=by
 unfold P.narrowS;split<;>exact⟨rfl,rfl,rfl⟩
theorem Flat.narrow {n m:Int} {l:List R.Tree} {ss:List P.Stm} (ts:List R.Th) (us:List P.Thr) (h1:∀ v,0≤v→R.onev ts v=!P.bothReach us v) (h2:P.ofOne us=!R.both ts) (h:Flat n l ss m):Flat n (R.narL (R.narX (R.onev ts) (R.both ts)) l) (P.narrowed us ss) m:=by
 induction h using Flat.ind with
 | nil=>simp only[R.narL,P.narrowed,List.map_nil];exact .nil _
 | @leaf n m st x l ss t o _ ih =>
  simp only[R.narL,P.narrowed,List.map_cons] at ih ⊢
  exact .leaf (narrow_tw ts us h1 h2 st x t) (by rw[narX_op];exact o) ih
 | @node n m k a st e b l bs ss i _ e' _ ih1 ih2 =>
  simp only[R.narL,narX_if,P.narrowed,List.map_cons,List.map_append] at ih1 ih2 ⊢
  have k1:=narrow_kind us st
  have k2:=narrow_kind us e
  exact .node ⟨by rw[k1.1];exact i.k,by rw[k1.2.1];exact i.l,by rw[k1.2.2];exact i.o⟩ ih1 ⟨by rw[k2.1];exact e'.k,by rw[k2.2.1];exact e'.l⟩ ih2
def noIfB:List R.Tree→Bool
 | []=>true
 | .mk _ b::r=>!(R.flatL b).any R.isB&&noIfB r
theorem inner_go (ss:List P.Stm) (d:Int) (hd:0<d) (h:∀ k rest,ss=k++rest→0<d+P.dep k):P.innerS d ss=none→ss.any (fun s=>s.kind==5)=false:=by
 induction ss generalizing d with
 | nil=>intro _;rfl
 | cons s r ih =>
  intro hi
  simp only[P.innerS] at hi
  have h1:=h [s] r rfl
  simp only[P.dep] at h1
  have hr:∀ d',d'=d+P.dep [s]→∀ k rest,r=k++rest→0<d'+P.dep k:=fun d' hd' k rest e=>by
   have:=h (s::k) rest (by simp[e])
   simp only[P.dep] at this hd'
   omega
  by_cases h10:s.kind=10
  ·simp[h10] at hi
   simp only[List.any_cons,h10]
   simpa using ih (d+1) (by omega) (hr _ (by simp[P.dep,h10])) hi
  by_cases h11:s.kind=11
  ·simp[h11] at hi
   simp[h11] at h1
   simp only[List.any_cons,h11]
   simpa using ih (d-1) (by omega) (hr _ (by simp[P.dep,h11];omega)) hi
  by_cases h5:s.kind=5
  ·simp[h5,hd] at hi
  ·simp[h10,h11,h5] at hi
   have e5:(s.kind==5)=false:=by simpa using h5
   simp only[List.any_cons,e5,Bool.false_or]
   exact ih d hd (hr _ (by simp[P.dep,h10,h11])) hi
theorem Flat.dep0 {n m:Int} {l:List R.Tree} {ss:List P.Stm} (h:Flat n l ss m):∀ k rest,ss=k++rest→0≤P.dep k:=by
 induction h using Flat.ind with
 | nil =>
  intro k rest e
  have:k=[]:=by simpa using (List.append_eq_nil_iff.1 e.symm).1
  subst this;simp[P.dep]
 | @leaf n m st x l ss t o _ ih =>
  intro k rest e
  cases k with
  | nil=>simp[P.dep]
  | cons a k =>
   simp only[List.cons_append,List.cons.injEq] at e
   rw[← e.1]
   have:=ih k rest e.2
   simp only[P.dep,t.k10,t.k11,Bool.false_eq_true,if_false];omega
 | @node n m k' a st e b l bs ss i hb e' _ ih1 ih2 =>
  intro k rest eq
  cases k with
  | nil=>simp[P.dep]
  | cons s k =>
   simp only[List.cons_append,List.cons.injEq] at eq
   rw[← eq.1]
   have hst:(if st.kind==10 then (1:Int) else if st.kind==11 then -1 else 0)=1:=by simp[i.k]
   simp only[P.dep,hst]
   rcases List.append_eq_append_iff.1 eq.2 with ⟨c,h1,h2⟩ | ⟨c,h1,h2⟩
   ·-- k=bs++c
    rw[h1,P.dep_append,hb.dep]
    cases c with
    | nil=>simp[P.dep]
    | cons s2 c =>
     simp only[List.cons_append,List.cons.injEq] at h2
     rw[← h2.1]
     have:=ih2 c rest h2.2
     simp only[P.dep,e'.k];simp;omega
   ·have:=ih1 k c h1
    omega
theorem Flat.noIn {n m:Int} {l:List R.Tree} {ss:List P.Stm} (h:Flat n l ss m):P.innerS 0 ss=none→noIfB l=true:=by
 induction h using Flat.ind with
 | nil=>intro _;simp[noIfB]
 | @leaf n m st x l ss t o _ ih =>
  intro hi
  simp only[P.innerS,t.k10,t.k11,Bool.false_eq_true,if_false] at hi
  have:P.innerS 0 ss=none:=by
   by_cases h5:st.kind=5
   ·simpa [h5] using hi
   ·simpa [h5] using hi
  simp[noIfB,R.flatL,ih this]
 | @node n m k a st e b l bs ss i hb e' _ ih1 ih2 =>
  intro hi
  have hs:(bs++e::ss)=(bs++[e])++ss:=by simp
  simp only[P.innerS,i.k] at hi
  have gen:∀ (p q:List P.Stm) (d:Int),P.innerS d (p++q)=(P.innerS d p).or (P.innerS (d+P.dep p) q):=by
   intro p
   induction p with
   | nil=>intro q d;simp[P.innerS,P.dep]
   | cons s r ih =>
    intro q d
    simp only[List.cons_append,P.innerS,P.dep]
    by_cases h10:s.kind=10
    ·have e:d+1+P.dep r=d+(1+P.dep r):=by omega
     simp[h10,ih,e]
    by_cases h11:s.kind=11
    ·have e:d-1+P.dep r=d+(-1+P.dep r):=by omega
     simp[h11,ih,e]
    by_cases h5:s.kind=5
    ·by_cases hd:0<d
     ·simp[h5,hd]
     ·simp[h5,hd,ih]
    ·simp[h10,h11,h5,ih]
  simp only[show ((10:Int)==10)=true from rfl,if_true] at hi
  rw[gen] at hi
  have hi1:P.innerS (0+1) bs=none:=by cases hx:P.innerS (0+1) bs with
   | none=>rfl
   | some v=>rw[hx] at hi;simp at hi
  rw[hi1,Option.none_or,hb.dep] at hi
  simp only[P.innerS,e'.k] at hi
  simp only[show ((11:Int)==10)=false from rfl,show ((11:Int)==11)=true from rfl,Bool.false_eq_true,if_false,if_true] at hi
  have hi2:P.innerS 0 ss=none:=by simpa using hi
  have hany:=inner_go bs (0+1) (by omega) (fun k rest e=>by have:=hb.dep0 k rest e;omega) hi1
  have:(R.flatL b).any R.isB=bs.any (fun s=>s.kind==5):=hb.flatAny _ _ (fun _ _ t _=>t.br) (fun st hk=>by simp[hk]) (fun st hk=>by simp[hk]) (fun a=>by simp[R.isB,opIf,R.sBarrier,lit_toList])
  simp[noIfB,this,hany,ih2 hi2]
theorem mem_nn (l:List R.Lh):0≤R.memN l:=by
 induction l with
 | nil=>simp[R.memN]
 | cons x r ih=>simp only[R.memN,R.mem1];split<;>omega
theorem mem_any (l:List R.Lh):(R.memN l==0)=!l.any (fun x=>x.op.toList != R.sSet.toList&&x.op.toList != R.sIf.toList):=by
 induction l with
 | nil=>rfl
 | cons x r ih =>
  have:=mem_nn r
  simp only[R.memN,R.mem1,List.any_cons]
  split
  ·rename_i h
   rw[h]
   have:¬ (1+R.memN r=0):=by omega
   simpa using this
  ·rename_i h
   have h':(x.op.toList != R.sSet.toList&&x.op.toList != R.sIf.toList)=false:=by simpa using h
   rw[h',Bool.false_or,← ih];simp
theorem str_nn (l:List R.Tree):∀ bar,0≤R.strGo bar l:=by
 induction l with
 | nil=>intro bar;simp[R.strGo]
 | cons t r ih =>
  intro bar
  simp only[R.strGo]
  have:=mem_nn (R.flatL [t])
  have h1:=ih bar
  have h2:=ih (bar+1)
  split
  ·exact h2
  ·split<;>omega
theorem sIf_list:R.sIf.toList=[105,102]:=by rw[R.sIf,lit_toList]
theorem mem_tw (st:P.Stm) (x:R.Lh) (t:Twin st x) (o:¬ x.op.toList=[105,102]):(x.op.toList != R.sSet.toList&&x.op.toList != R.sIf.toList)=!P.ofReg st.kind:=by
 have h1:=t.se
 have h2:(x.op.toList != R.sIf.toList)=true:=by rw[sIf_list];simpa using o
 rw[h2,Bool.and_true]
 unfold P.ofReg
 rw[t.k10,t.k11,Bool.or_false,Bool.or_false,← h1];rfl
theorem Flat.mem {n m:Int} {l:List R.Tree} {ss:List P.Stm} (h:Flat n l ss m):(R.memN (R.flatL l)==0)=ss.all (fun s=>P.ofReg s.kind):=by
 rw[mem_any,h.flatAny (fun s=>!P.ofReg s.kind) _ mem_tw (fun st hk=>by rw[hk];decide) (fun st hk=>by rw[hk];decide) (fun a=>by rw[opIf,sIf_list];simp)]
 simp[List.all_eq_not_any_not]
theorem idles_no (ss rest:List P.Stm) (bar:Int) (h:ss.any (fun s=>s.kind==5)=false):P.idlesGo bar (ss++rest)=((bar != 1||ss.all (fun s=>P.ofReg s.kind))&&P.idlesGo bar rest):=by
 induction ss with
 | nil=>simp
 | cons s r ih =>
  simp only[List.any_cons,Bool.or_eq_false_iff] at h
  simp only[List.cons_append,P.idlesGo,h.1,Bool.false_eq_true,if_false,ih h.2,List.all_cons]
  cases hb:(bar==1)
  ·simp[bne,hb]
  ·cases ho:P.ofReg s.kind
   ·simp[bne,hb]
   ·simp[bne,hb]
theorem drop_no (ss rest:List P.Stm) (c:Int) (h:ss.any (fun s=>s.kind==5)=false):P.dropGo c (ss++rest)=ss++P.dropGo c rest:=by
 induction ss with
 | nil=>rfl
 | cons s r ih =>
  simp only[List.any_cons,Bool.or_eq_false_iff] at h
  simp only[List.cons_append,P.dropGo,h.1,Bool.false_eq_true,if_false,ih h.2]
theorem isB_if (a:Int):R.isB (R.lIf a)=false:=by simp[R.isB,opIf,R.sBarrier,lit_toList]
theorem Flat.idles {n m:Int} {l:List R.Tree} {ss:List P.Stm} (h:Flat n l ss m):noIfB l=true→∀ bar,P.idlesGo bar ss=(R.strGo bar l==0):=by
 induction h using Flat.ind with
 | nil=>intro _ bar;rfl
 | @leaf n m st x l ss t o _ ih =>
  intro hn bar
  simp only[noIfB,Bool.and_eq_true] at hn
  have ih:=ih hn.2
  simp only[P.idlesGo,R.strGo,t.br]
  cases h5:(st.kind==5)
  ·have hm:=mem_tw st x t o
   simp only[Bool.false_eq_true,if_false]
   cases hb:(bar==1)
   ·simp[ih]
   ·have:=str_nn l bar
    simp only[Bool.true_and,if_true,R.flatL,List.append_nil,R.memN,R.mem1,hm,ih]
    cases ho:P.ofReg st.kind
    ·simp;omega
    ·simp
  ·simp[ih]
 | @node n m k a st e b l bs ss i hb e' _ ih1 ih2 =>
  intro hn bar
  simp only[noIfB,Bool.and_eq_true,Bool.not_eq_true'] at hn
  have hnb:bs.any (fun s=>s.kind==5)=false:=by
   rw[← hb.flatAny _ _ (fun _ _ t _=>t.br) (fun st hk=>by simp[hk]) (fun st hk=>by simp[hk]) isB_if];exact hn.1
  have ih:=ih2 hn.2
  have hm:=hb.mem
  have k1:(st.kind==5)=false:=by rw[i.k];rfl
  have k2:(e.kind==5)=false:=by rw[e'.k];rfl
  have k3:P.ofReg st.kind=true:=by rw[i.k];rfl
  have k4:P.ofReg e.kind=true:=by rw[e'.k];rfl
  simp only[P.idlesGo,R.strGo,k1,k3,isB_if,Bool.false_eq_true,if_false,Bool.not_true,Bool.and_false]
  rw[idles_no bs (e::ss) bar hnb,← hm]
  simp only[P.idlesGo,k2,k4,Bool.false_eq_true,if_false,Bool.not_true,Bool.and_false,ih]
  cases hbar:(bar==1)
  ·simp[bne,hbar]
  ·have h1:=str_nn l bar
   have h2:=mem_nn (R.flatL b)
   have h3:R.mem1 (R.lIf a)=0:=by simp[R.mem1,opIf,sIf_list]
   simp only[bne,hbar,Bool.not_true,Bool.false_or,if_true,R.flatL,List.append_nil,R.memN,h3]
   by_cases e1:R.memN (R.flatL b)=0
   ·simp[e1]
   ·have e2:¬ (0+R.memN (R.flatL b)+R.strGo bar l=0):=by omega
    have e3:(R.memN (R.flatL b)==0)=false:=by simpa using e1
    have e4:(0+R.memN (R.flatL b)+R.strGo bar l==0)=false:=by simpa using e2
    rw[e3,e4];rfl
theorem Flat.drop {n m:Int} {l:List R.Tree} {ss:List P.Stm} (h:Flat n l ss m):noIfB l=true→∀ c,Flat n (R.dropL (2-c) l) (P.dropGo c ss) m:=by
 induction h using Flat.ind with
 | nil=>intro _ c;exact .nil _
 | @leaf n m st x l ss t o _ ih =>
  intro hn c
  simp only[noIfB,Bool.and_eq_true] at hn
  have ih:=ih hn.2
  simp only[P.dropGo,R.dropL,t.br]
  cases h5:(st.kind==5)
  ·simp only[Bool.false_eq_true,if_false]
   exact .leaf t o (ih c)
  ·have e1:(2:Int)-c-1=2-(c+1):=by omega
   have e2:((2:Int)-(c+1)==0)=(c+1==2):=by
    by_cases h:c+1=2
    ·simp[h]
    ·have h':¬ (2:Int)-(c+1)=0:=by omega
     simp only[beq_eq_false_iff_ne.2 h,beq_eq_false_iff_ne.2 h']
   simp only[if_true,e1,e2]
   cases hc:(c+1==2)
   ·simp only[Bool.false_eq_true,if_false]
    exact .leaf t o (ih (c+1))
   ·simp only[if_true]
    exact ih (c+1)
 | @node n m k a st e b l bs ss i hb e' _ ih1 ih2 =>
  intro hn c
  simp only[noIfB,Bool.and_eq_true,Bool.not_eq_true'] at hn
  have hnb:bs.any (fun s=>s.kind==5)=false:=by
   rw[← hb.flatAny _ _ (fun _ _ t _=>t.br) (fun st hk=>by simp[hk]) (fun st hk=>by simp[hk]) isB_if];exact hn.1
  have k1:(st.kind==5)=false:=by rw[i.k];rfl
  have k2:(e.kind==5)=false:=by rw[e'.k];rfl
  simp only[P.dropGo,R.dropL,k1,isB_if,Bool.false_eq_true,if_false]
  rw[drop_no bs (e::ss) c hnb]
  simp only[P.dropGo,k2,Bool.false_eq_true,if_false]
  exact .node i hb e' (ih2 hn.2 c)
def CovR (p:Option P.Stm) (q:Option R.Lh):Prop:=∀ st x,Twin st x→P.covO p st=R.cov q x
theorem cov_none (q:Option R.Lh):(∀ y,q=some y→(y.op.toList==R.sFence.toList)=false)→∀ x,R.cov q x=false:=by
 intro h x
 cases q with
 | none=>rfl
 | some y=>simp[R.cov,h y rfl]
theorem covO_none (p:Option P.Stm):(∀ y,p=some y→(y.kind==4)=false)→∀ s,P.covO p s=false:=by
 intro h s
 cases p with
 | none=>rfl
 | some y=>simp[P.covO,P.covers,h y rfl]
theorem covO_kind (p:Option P.Stm) (s:P.Stm) (h:(s.kind==4)=false):P.covO p s=false:=by
 cases p with
 | none=>rfl
 | some y=>simp[P.covO,P.covers,h]
theorem CovR.some {st:P.Stm} {x:R.Lh} (t:Twin st x):CovR (some st) (some x):=by
 intro st2 x2 t2
 simp only[P.covO,P.covers,R.cov,t.fe,t2.fe]
 cases h1:(st.kind==4)
 ·simp
 cases h2:(st2.kind==4)
 ·simp
 obtain⟨o1,s1,k1,a1⟩:=t.os (by simp[h1])
 obtain⟨o2,s2,k2,a2⟩:=t2.os (by simp[h2])
 have e2:st2.kind=4:=by simpa using h2
 have n2:(st2.order != 0)=true:=by
  rw[e2] at a2
  by_cases hz:st2.order=0
  ·rw[hz] at a2;exact absurd a2 (by decide)
  ·simpa using hz
 rw[o1,o2,s1,s2,(ordW_inj k1.o0 k1.o1).2.2.2.2.2,(ordW_inj k2.o0 k2.o1).2.2.2.2.1,(scW_facts k1).2.2,(scW_facts k2).2.1,n2]
 simp
theorem thin_end (bs ss:List P.Stm) (e:P.Stm) (he:(e.kind==4)=false):∀ p,P.thinGo p (bs++e::ss)=P.thinGo p bs++e::P.thinGo (some e) ss:=by
 induction bs with
 | nil=>intro p;simp[P.thinGo,covO_kind p e he]
 | cons s r ih =>
  intro p
  simp only[List.cons_append,P.thinGo]
  split
  ·exact ih p
  ·rw[ih];rfl
theorem Flat.thin {n m:Int} {l:List R.Tree} {ss:List P.Stm} (h:Flat n l ss m):∀ p q,CovR p q→Flat n (R.thinL q l) (P.thinGo p ss) m:=by
 induction h using Flat.ind with
 | nil=>intro _ _ _;simp only[R.thinL,P.thinGo];exact .nil _
 | @leaf n m st x l ss t o _ ih =>
  intro p q hc
  simp only[R.thinL,P.thinGo,hc st x t]
  cases R.cov q x
  ·simp only[Bool.false_eq_true,if_false]
   exact .leaf t o (ih _ _ (CovR.some t))
  ·simp only[if_true]
   exact ih p q hc
 | @node n m k a st e b l bs ss i hb e' _ ih1 ih2 =>
  intro p q hc
  have k1:(st.kind==4)=false:=by rw[i.k];rfl
  have k2:(e.kind==4)=false:=by rw[e'.k];rfl
  have o1:((R.lIf a).op.toList==R.sFence.toList)=false:=by rw[opIf,R.sFence,lit_toList];rfl
  have c1:R.cov q (R.lIf a)=false:=by
   cases q with
   | none=>rfl
   | some y=>simp[R.cov,o1]
  simp only[R.thinL,P.thinGo,covO_kind p st k1,c1,Bool.false_eq_true,if_false]
  rw[thin_end _ _ _ k2]
  refine .node i (ih1 _ _ ?_) e' (ih2 _ _ ?_)
  ·intro s2 x2 _
   rw[covO_none (some st) (fun y hy=>by simp at hy;rw[← hy];exact k1)];rfl
  ·intro s2 x2 _
   rw[covO_none (some e) (fun y hy=>by simp at hy;rw[← hy];exact k2),cov_none (some (R.lIf a)) (fun y hy=>by simp at hy;rw[← hy];exact o1)]
theorem line_leaf (pr:Int→Bool) (st:P.Stm) (x:R.Lh) (t:Twin st x) (hw:P.isAcc st.kind=true→pr st.var=true→st.order≠0):R.lineP pr x=P.writeS (P.fenced1 pr st):=by
 unfold R.lineP P.fenced1
 cases ha:P.isAcc st.kind
 ·have hv:=t.nac ha
  have hf:R.fenB pr x=false:=by simp[R.fenB,hv]
  simp[R.aheadT,R.behindT,R.ordX,hf,P.writeS,← t.txt]
 obtain⟨a1,a2,a3⟩:=t.acc ha
 obtain⟨o1,s1,k1,al⟩:=t.os (by simp[ha])
 cases hp:pr st.var
 ·have hf:R.fenB pr x=false:=by simp[R.fenB,a1,hp]
  simp[R.aheadT,R.behindT,R.ordX,hf,P.writeS,← t.txt]
 have hw:=hw ha hp
 have hd:decide (0≤x.var)=true:=by simpa [a1] using a2
 obtain⟨i0,i1,i2,i3,i4,i5⟩:=ordW_inj k1.o0 k1.o1
 have hF:R.fenB pr x=(st.order != 0&&st.order != 1):=by
  unfold R.fenB
  rw[hd,a1,hp,o1]
  simp only[bne,i0,i1];simp
 have hs4:x.scope.toList=scW 4 st.scope:=by
  rw[s1]
  have h0:(st.order==0)=false:=by simpa using hw
  simp[scW,h0]
 have ok4:OkOS 4 st.scope:=⟨by decide,by decide,k1.s0,fun h=>absurd h (by decide)⟩
 have ok1:OkOS 1 st.scope:=⟨by decide,by decide,k1.s0,fun h=>absurd h (by decide)⟩
 have hfe:R.fenT x=P.instr (P.fenceS st)++[10]:=by
  have e:P.sufT (P.fenceS st)=46::R.scopd oQ x.scope.toList:=by
   have:=suf_os (P.fenceS st) R.bAcqrel x.scope 4 st.scope ok4 (by rw[R.bAcqrel,lit_toList];rfl) hs4
   rw[R.bAcqrel,lit_toList] at this
   exact this
  unfold R.fenT P.instr
  rw[e]
  simp[P.fenceS]
 have hrx:R.lineT { x with ord:=R.bRelaxed }=P.instr { st with order:=1 }:=by
  have:=t.gen 1 st.scope R.bRelaxed x.scope (suf_os st R.bRelaxed x.scope 1 st.scope ok1 (by rw[R.bRelaxed,lit_toList];rfl) (by rw[hs4];rfl))
  exact this
 have h5:st.order≠5:=by
  intro e
  rw[e] at al
  unfold P.isAcc at ha
  simp only[Bool.or_eq_true,beq_iff_eq] at ha
  rcases ha with ((h | h) | h) | h<;>(rw[h] at al;exact absurd al (by decide))
 have h6:st.order=1∨st.order=2∨st.order=3∨st.order=4:=by have:=k1.o0;have:=k1.o1;omega
 simp only[Bool.true_and,if_true,R.aheadT,R.behindT,R.ordX,hF,o1,bne,i2,i3]
 rcases h6 with e | e | e | e
 ·have e':({ st with order:=1 }:P.Stm)=st:=by rw[← e]
  rw[e']
  simp[e,P.rel,P.acq,P.writeS,← t.txt]
 ·simp[e,P.rel,P.acq,P.writeS,hrx,hfe]
 ·simp[e,P.rel,P.acq,P.writeS,hrx,hfe]
 ·simp[e,P.rel,P.acq,P.writeS,hrx,hfe]
theorem writeS_app (a b:List P.Stm):P.writeS (a++b)=P.writeS a++P.writeS b:=by
 induction a with
 | nil=>rfl
 | cons s r ih=>simp[P.writeS,ih]
theorem fencedS_app (pr:Int→Bool) (a b:List P.Stm):P.fencedS pr (a++b)=P.fencedS pr a++P.fencedS pr b:=by
 induction a with
 | nil=>rfl
 | cons s r ih=>simp[P.fencedS,ih]
theorem Flat.textP {n m:Int} {l:List R.Tree} {ss:List P.Stm} (pr:Int→Bool) (h:Flat n l ss m):(∀ st∈ss,P.isAcc st.kind=true→pr st.var=true→st.order≠0)→R.textP pr n l=(P.writeS (P.fencedS pr ss),m):=by
 induction h using Flat.ind with
 | nil=>intro _;simp[R.textP,P.fencedS,P.writeS]
 | @leaf n m st x l ss t o _ ih =>
  intro hw
  have ho:(x.op.toList==[105,102])=false:=by simpa using o
  have ih:=ih (fun s hs=>hw s (by simp[hs]))
  have hl:=line_leaf pr st x t (hw st (by simp))
  simp only[R.textP,ho,Bool.false_eq_true,if_false,ih,P.fencedS,writeS_app,hl]
 | @node n m k a st e b l bs ss i hb e' _ ih1 ih2 =>
  intro hw
  have ho:((R.lIf a).op.toList==[105,102])=true:=by rw[opIf];rfl
  have ih1:=ih1 (fun s hs=>hw s (by simp[hs]))
  have ih2:=ih2 (fun s hs=>hw s (by simp[hs]))
  have f1:P.fenced1 pr st=[st]:=by simp[P.fenced1,i.k,P.isAcc]
  have f2:P.fenced1 pr e=[e]:=by simp[P.fenced1,e'.k,P.isAcc]
  simp only[R.textP,ho,if_true,ih1,ih2,P.fencedS,fencedS_app,f1,f2,writeS_app,P.writeS]
  simp[P.instr,i.k,e'.k,i.l,e'.l,i.o,R.lIf]
end Go.Proofs.YtpkjmdcabdplfaaGreatDoor
