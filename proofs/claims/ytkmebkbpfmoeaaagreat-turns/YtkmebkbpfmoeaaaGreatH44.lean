import Derived.Test.YtkmebkbpfmoeaaaGreatH43
set_option linter.unusedVariables false
set_option linter.unusedSimpArgs false
set_option maxHeartbeats 12800000
namespace Go.Proofs.YtkmebkbpfmoeaaaGreat
namespace P
theorem stsL_app:∀ {x y u v:List Stm},Q.StsL x y→Q.StsL u v→Q.StsL (x++u) (y++v)
 | [],[],_,_,_,h=>h
 | a::x,b::y,_,_,h,k=>⟨h.1,stsL_app h.2 k⟩
 | [],b::y,_,_,h,_=>by simp[Q.StsL] at h
 | a::x,[],_,_,h,_=>by simp[Q.StsL] at h
structure RdP (B B':List Thr) (r r':Rd):Prop where
 th:∃ t t',r.threads=B++[t]∧r'.threads=B'++[t']∧Q.ThL t t'
 count:r'.count=r.count
 opn:r'.opn.length=r.opn.length
 most:r'.most=r.most
theorem putLast_end (B:List Thr) (t:Thr) (s:Stm):putLast (B++[t]) s=B++[{ t with stmts:=t.stmts++[s] }]:=zJu B t s
theorem RdP.put {B B':List Thr} {r r':Rd} (h:RdP B B' r r') {s s':Stm} (hs:Q.StL s s') (o o':List Int) (i i' c:Int) (ho:o'.length=o.length):RdP B B' (put { r with opn:=o,ifs:=i,count:=c } s) (put { r' with opn:=o',ifs:=i',count:=c } s'):=by
 obtain⟨t,t',e,e',hT⟩:=h.th
 refine⟨⟨{ t with stmts:=t.stmts++[s] },{ t' with stmts:=t'.stmts++[s'] },?_,?_,hT.block,stsL_app hT.sts ⟨hs,trivial⟩⟩,rfl,ho,h.most⟩
 ·show putLast r.threads s=_
  rw[e];exact putLast_end B t s
 ·show putLast r'.threads s'=_
  rw[e'];exact putLast_end B' t' s'
theorem takes_P {B B':List Thr} {r r' r1:Rd} {ws:List (List UInt8)} (hm:r.most=8) (hw:(ws.head?==some thrW)=false) (h:takes r ws=(r1,true)) (hr:RdP B B' r r'):∃ r1',takes r' ws=(r1',true)∧RdP B B' r1 r1':=by
 have hm':r'.most=8:=by rw[hr.most];exact hm
 obtain⟨t,t',et,et',hT⟩:=hr.th
 rcases takes_true hm h with ⟨c,rfl,hd,h1⟩ | ⟨st,hs,h1,c,q,rfl,hc⟩
 ·simp at hw
 ·rw[takes_D r' c q hc hm',hs]
  simp only[if_true]
  unfold putD at h1 ⊢
  rw[if_neg (by rw[et];simp)] at h1
  rw[if_neg (by rw[et'];simp)]
  split at h1
  ·rename_i h11
   rw[if_pos h11]
   unfold ends at h1 ⊢
   split at h1
   ·simp at h1
   ·rename_i l hl
    have hne:r'.opn≠[]:=fun e=>by
     have:=hr.opn
     rw[e] at this
     have h2:r.opn=[]:=List.eq_nil_of_length_eq_zero this.symm
     rw[h2] at hl;simp at hl
    have hl':r'.opn.getLast?=some (r'.opn.getLast hne):=List.getLast?_eq_some_getLast hne
    rw[hl']
    simp only[Prod.mk.injEq,and_true] at h1
    refine⟨_,rfl,?_⟩
    rw[← h1]
    have:=hr.put (s:={ st with line:=r.line,label:=l }) (s':={ st with line:=r'.line,label:=r'.opn.getLast hne }) ⟨rfl⟩ r.opn.dropLast r'.opn.dropLast r.ifs r'.ifs r.count (by rw[List.length_dropLast,List.length_dropLast,hr.opn])
    rw[← hr.count] at this
    have e1:({ r' with opn:=r'.opn.dropLast,ifs:=r'.ifs,count:=r'.count }:Rd)={ r' with opn:=r'.opn.dropLast }:=rfl
    rw[hr.count] at this
    have e2:({ r' with opn:=r'.opn.dropLast,ifs:=r'.ifs,count:=r.count }:Rd)={ r' with opn:=r'.opn.dropLast }:=by rw[← hr.count]
    rw[e2] at this
    exact this
  ·rename_i h11
   rw[if_neg h11]
   split at h1
   ·simp at h1
   ·rename_i h2
    rw[if_neg (by rw[hr.most,hr.count];exact h2)]
    split at h1
    ·rename_i h3
     rw[if_pos h3]
     split at h1
     ·simp at h1
     ·rename_i h4
      rw[if_neg (by rw[hr.opn];exact h4)]
      unfold branch at h1 ⊢
      simp only at h1 ⊢
      rw[if_neg h4] at h1
      rw[if_neg (by rw[hr.opn];exact h4)]
      simp only[Prod.mk.injEq,and_true] at h1
      refine⟨_,rfl,?_⟩
      rw[← h1,hr.count]
      exact hr.put (s:={ st with line:=r.line,label:=r.ifs+1 }) (s':={ st with line:=r'.line,label:=r'.ifs+1 }) ⟨rfl⟩ _ _ _ _ (r.count+1) (by simp[hr.opn])
    ·rename_i h3
     rw[if_neg h3]
     simp only[Prod.mk.injEq,and_true] at h1
     refine⟨_,rfl,?_⟩
     rw[← h1,hr.count]
     exact hr.put (s:={ st with line:=r.line }) (s':={ st with line:=r'.line }) ⟨rfl⟩ r.opn r'.opn r.ifs r'.ifs (r.count+1) hr.opn
def isThr (x:List UInt8):Bool:=(zIr 32 x).head?==some thrW
theorem runLines_P {B B':List Thr}:∀ (xs:List (List UInt8)) {r r' r1:Rd},(∀ x∈xs,isThr x=false)→r.most=8→zJZ r xs=(r1,true)→RdP B B' r r'→∃ r1',zJZ r' xs=(r1',true)∧RdP B B' r1 r1'
 | [],r,r',r1,_,_,h,hr=>by
  simp[zJZ] at h
  subst h
  exact⟨r',rfl,hr⟩
 | x::xs,r,r',r1,hx,hm,h,hr=>by
  simp only[zJZ] at h ⊢
  split at h
  ·rename_i ht
   have e:takes { r with line:=r.line+1 } (zIr 32 x)=((takes { r with line:=r.line+1 } (zIr 32 x)).1,true):=by rw[← ht]
   have hk:=zJR { r with line:=r.line+1 } (zIr 32 x) hm
   obtain⟨r2,h2,h3⟩:=takes_P (r:={ r with line:=r.line+1 }) (r':={ r' with line:=r'.line+1 }) hm (hx x (by simp)) e ⟨hr.th,hr.count,hr.opn,hr.most⟩
   rw[h2]
   simp only[if_true]
   exact runLines_P xs (fun y hy=>hx y (List.mem_cons_of_mem _ hy)) hk.2 h h3
  ·simp at h
theorem runLines_most:∀ (xs:List (List UInt8)) {r r1:Rd},r.most=8→zJZ r xs=(r1,true)→r1.most=8
 | [],r,r1,hm,h=>by simp[zJZ] at h;rw[← h];exact hm
 | x::xs,r,r1,hm,h=>by
  simp only[zJZ] at h
  split at h
  ·exact runLines_most xs (zJR { r with line:=r.line+1 } (zIr 32 x) hm).2 h
  ·simp at h
theorem read_part {x:List UInt8} {body:List (List UInt8)} (hx:isThr x=true) (hb:∀ y∈body,isThr y=false) {r r' r1:Rd} (hm:r.most=8) (hm':r'.most=8) (h:zJZ r (x::body)=(r1,true)) (ho':r'.opn=[]) (hf:r'.threads.length<4) :
  r.opn=[]∧∃ r1' t t',zJZ r' (x::body)=(r1',true)∧r1.threads=r.threads++[t]∧r1'.threads=r'.threads++[t']∧Q.ThL t t'∧r1'.opn.length=r1.opn.length∧r1.most=8∧r1'.most=8:=by
 simp only[zJZ] at h
 split at h
 ·rename_i ht
  have e:takes { r with line:=r.line+1 } (zIr 32 x)=((takes { r with line:=r.line+1 } (zIr 32 x)).1,true):=by rw[← ht]
  have hk:=zJR { r with line:=r.line+1 } (zIr 32 x) hm
  rcases takes_true (r:={ r with line:=r.line+1 }) hm e with ⟨c,hw,hd,h1⟩ | ⟨st,hs,h1,c,q,hw,hc⟩
  ·unfold beginD at h1
   split at h1
   ·simp at h1
   ·rename_i h0
    simp only[not_or] at h0
    have ho:r.opn=[]:=List.eq_nil_of_length_eq_zero (by have:=h0.2;simp at this ⊢;exact this)
    simp only[Prod.mk.injEq,and_true] at h1
    refine⟨ho,?_⟩
    have h2:takes { r' with line:=r'.line+1 } (zIr 32 x)=({ r' with line:=r'.line+1,threads:=r'.threads++[⟨(digit c 2).1,r'.line+1,[]⟩],count:=0 },true):=by
     rw[hw]
     have e5:takes { r' with line:=r'.line+1 } [thrW,[c]]=zIX { r' with line:=r'.line+1 } [thrW,[c]]:=by unfold takes;simp
     rw[e5,begins_D,if_pos hd]
     unfold beginD
     rw[if_neg (by simp only[not_or];exact⟨by show ¬ 4≤r'.threads.length;omega,by show ¬ 0<r'.opn.length;rw[ho'];simp⟩)]
    have hP:RdP r.threads r'.threads (takes { r with line:=r.line+1 } (zIr 32 x)).1 { r' with line:=r'.line+1,threads:=r'.threads++[⟨(digit c 2).1,r'.line+1,[]⟩],count:=0 }:=by
     rw[← h1]
     exact⟨⟨⟨(digit c 2).1,r.line+1,[]⟩,⟨(digit c 2).1,r'.line+1,[]⟩,rfl,rfl,rfl,trivial⟩,rfl,by show r'.opn.length=r.opn.length;rw[ho,ho'],by show r'.most=r.most;rw[hm,hm']⟩
    obtain⟨r2,e2,hP2⟩:=runLines_P body hb hk.2 h hP
    obtain⟨t,t',et,et',hT⟩:=hP2.th
    have hkm:=(runLines_most body hk.2 h)
    refine⟨r2,t,t',?_,et,et',hT,hP2.opn,hkm,by rw[hP2.most];exact hkm⟩
    simp only[zJZ]
    rw[h2]
    simpa using e2
  ·exfalso
   unfold isThr at hx
   rw[hw] at hx
   have:c=thrW:=by simpa using hx
   rw[this] at hc
   simp at hc
 ·simp at h
end P
namespace P
abbrev Row:=List UInt8
structure GOk (g:List Row):Prop where
 is:∃ x body,g=x::body∧isThr x=true∧∀ y∈body,isThr y=false
def Reads (g:List Row) (t:Thr):Prop:=∀ r':Rd,r'.most=8→r'.opn=[]→r'.threads.length<4→∃ r1' t',zJZ r' g=(r1',true)∧r1'.threads=r'.threads++[t']∧Q.ThL t t'∧r1'.opn=[]∧r1'.most=8
theorem reads_one {g:List Row} (hg:GOk g) {r r1:Rd} (hm:r.most=8) (h:zJZ r g=(r1,true)) (ho:r1.opn=[]):∃ t,r1.threads=r.threads++[t]∧Reads g t∧r1.most=8:=by
 obtain⟨x,body,rfl,hx,hb⟩:=hg.is
 obtain⟨_,_,t,_,_,e,_,_,_,hm1,_⟩:=read_part hx hb (r':=Rd.zero) hm rfl h rfl (by decide)
 refine⟨t,e,fun r' h1 h2 h3=>?_,hm1⟩
 obtain⟨_,r2,t2,t',e2,e3,e4,hT,hl,_,hm2⟩:=read_part hx hb (r':=r') hm h1 h h2 h3
 have et:t=t2:=by
  rw[e] at e3
  have:=List.append_inj' e3 rfl
  simpa using this.2
 rw[et]
 exact⟨r2,t',e2,e4,hT,List.eq_nil_of_length_eq_zero (by rw[hl,ho];rfl),hm2⟩
theorem start_opn {g:List Row} (hg:GOk g) {r r1:Rd} (hm:r.most=8) (h:zJZ r g=(r1,true)):r.opn=[]:=by
 obtain⟨x,body,rfl,hx,hb⟩:=hg.is
 exact (read_part hx hb (r':=Rd.zero) hm rfl h rfl (by decide)).1
theorem reads_all:∀ (gs:List (List Row)) {r r1:Rd},(∀ g∈gs,GOk g)→r.most=8→zJZ r gs.flatten=(r1,true)→r1.opn=[]→∃ ts,r1.threads=r.threads++ts∧All2 Reads gs ts
 | [],r,r1,_,_,h,_=>by
  simp[zJZ] at h
  exact⟨[],by rw[h];simp,trivial⟩
 | g::gs,r,r1,hg,hm,h,ho=>by
  rw[List.flatten_cons] at h
  obtain⟨r2,h1,h2⟩:=runLines_cut _ _ _ _ h
  have hm2:=runLines_most g hm h1
  have ho2:r2.opn=[]:=by
   cases gs with
   | nil=>simp[zJZ] at h2;rw[h2];exact ho
   | cons g2 gs =>
    rw[List.flatten_cons] at h2
    obtain⟨r3,h3,_⟩:=runLines_cut _ _ _ _ h2
    exact start_opn (hg g2 (by simp)) hm2 h3
  obtain⟨t,e1,hR,_⟩:=reads_one (hg g (by simp)) hm h1 ho2
  obtain⟨ts,e2,hA⟩:=reads_all gs (fun x hx=>hg x (List.mem_cons_of_mem _ hx)) hm2 h2 ho
  exact⟨t::ts,by rw[e2,e1];simp,hR,hA⟩
theorem reads_new:∀ (hs:List (List Row)) (us:List Thr) {r':Rd},All2 Reads hs us→r'.most=8→r'.opn=[]→r'.threads.length+hs.length≤4→∃ r1' ts',zJZ r' hs.flatten=(r1',true)∧r1'.threads=r'.threads++ts'∧All2 Q.ThL us ts'∧r1'.opn=[]
 | [],[],r',_,_,ho,_=>⟨r',[],rfl,by simp,trivial,ho⟩
 | g::hs,u::us,r',h,hm,ho,hn=>by
  have hn2:r'.threads.length+(hs.length+1)≤4:=hn
  obtain⟨r2,t',e1,e2,hT,ho2,hm2⟩:=h.1 r' hm ho (by omega)
  obtain⟨r3,ts',e3,e4,hA,ho3⟩:=reads_new hs us h.2 hm2 ho2 (by rw[e2];simp;omega)
  refine⟨r3,t'::ts',?_,by rw[e4,e2];simp,⟨hT,hA⟩,ho3⟩
  rw[List.flatten_cons,runLines_app _ _ _ _ e1]
  exact e3
 | [],u::us,_,h,_,_,_=>by simp[All2] at h
 | g::hs,[],_,h,_,_,_=>by simp[All2] at h
theorem all2_get {α β:Type} {R:α→β→Prop} (da:α) (db:β):∀ {x:List α} {y:List β},All2 R x y→∀ k,k<x.length→R (x.getD k da) (y.getD k db)
 | [],[],_,k,h=>by simp at h
 | a::x,b::y,h,0,_=>h.1
 | a::x,b::y,h,k+1,hk=>by
  have:=all2_get da db h.2 k (by simpa using hk)
  simpa using this
 | [],b::y,h,_,_=>by simp[All2] at h
 | a::x,[],h,_,_=>by simp[All2] at h
theorem all2_of {α β:Type} {R:α→β→Prop} (f:Nat→α) (g:Nat→β):∀ (L:List Nat),(∀ k∈L,R (f k) (g k))→All2 R (L.map f) (L.map g)
 | [],_=>trivial
 | a::L,h=>⟨h a (by simp),all2_of f g L fun k hk=>h k (List.mem_cons_of_mem _ hk)⟩
theorem innerS_L (d:Int):∀ {x y:List Stm},Q.StsL x y→((zIH d y).isNone=(zIH d x).isNone):=by
 intro x
 induction x generalizing d with
 | nil=>intro y h;cases y with
  | nil=>rfl
  | cons b y=>exact absurd h (by simp[Q.StsL])
 | cons a x ih=>intro y h;cases y with
  | nil=>exact absurd h (by simp[Q.StsL])
  | cons b y =>
   rw[zIH,zIH,show b.kind=a.kind by rw[h.1.eq]]
   split
   ·exact ih _ h.2
   ·split
    ·exact ih _ h.2
    ·split
     ·split
      ·rfl
      ·exact ih _ h.2
     ·exact ih _ h.2
theorem cnt_L (p:Stm→Bool) (hp:∀ (s:Stm) (l b:Int),p { s with line:=l,label:=b }=p s):∀ {x y:List Stm},Q.StsL x y→cnt p y=cnt p x
 | [],[],_=>rfl
 | a::x,b::y,h=>by rw[cnt,cnt,cnt_L p hp h.2,h.1.eq,hp]
 | [],b::y,h=>by simp[Q.StsL] at h
 | a::x,[],h=>by simp[Q.StsL] at h
theorem bars_L:∀ {x y:List Stm},Q.StsL x y→bars y=bars x
 | [],[],_=>rfl
 | a::x,b::y,h=>by rw[bars,bars,bars_L h.2,show b.kind=a.kind by rw[h.1.eq]]
 | [],b::y,h=>by simp[Q.StsL] at h
 | a::x,[],h=>by simp[Q.StsL] at h
theorem barsOf_some (b:Int):∀ {ts:List Thr},(∃ t∈ts,t.block=b)→∃ u∈ts,u.block=b∧zIT b ts=bars u.stmts
 | [],⟨t,ht,_⟩=>by simp at ht
 | a::ts,⟨t,ht,hb⟩=>by
  rw[zIT]
  by_cases c:a.block=b
  ·exact⟨a,by simp,c,by rw[if_pos (by simpa using c)]⟩
  ·rw[if_neg (by simpa using c)]
   rcases List.mem_cons.1 ht with rfl | ht
   ·exact absurd hb c
   ·obtain⟨u,hu,h1,h2⟩:=barsOf_some b ⟨t,ht,hb⟩
    exact⟨u,List.mem_cons_of_mem _ hu,h1,h2⟩
def sumN (F:Nat→Int):Nat→Int
 | 0=>0
 | n+1=>sumN F n+F n
theorem sumN_congr {F G:Nat→Int}:∀ n,(∀ k,k<n→F k=G k)→sumN F n=sumN G n
 | 0,_=>rfl
 | n+1,h=>by rw[sumN,sumN,sumN_congr n (fun k hk=>h k (by omega)),h n (by omega)]
theorem tot_sum (p:Stm→Bool) (ts:List Thr):tot p ts=sumN (fun k=>cnt p (ts.getD k Q.thr0).stmts) ts.length:=by
 have:∀ n,n≤ts.length→tot p (ts.take n)=sumN (fun k=>cnt p (ts.getD k Q.thr0).stmts) n:=fun n=>by
  induction n with
  | zero=>intro _;simp[tot,sumN]
  | succ n ih =>
   intro h
   rw[zKb p ts n (by omega),ih (by omega),sumN,Q.gD_lt ts n Q.thr0 (by omega)]
 have h:=this ts.length (Nat.le_refl _)
 rw[List.take_length] at h
 exact h
def sgT (a n i:Nat):Nat:=(a+n-i) % n
theorem sgT_inv {a n:Nat} (ha:a<n) (hn:n≤4):Q.Inv n (sgT a n):=by
 have:n=1∨n=2∨n=3∨n=4:=by omega
 have hk:∀ k,k<n→k=0∨k=1∨k=2∨k=3:=fun k h=>by omega
 have hA:=hk a ha
 refine⟨fun k h=>Nat.mod_lt _ (by omega),fun k h=>?_⟩
 have hK:=hk k h
 unfold sgT
 rcases this with rfl | rfl | rfl | rfl<;>rcases hA with rfl | rfl | rfl | rfl<;>rcases hK with rfl | rfl | rfl | rfl<;>first | rfl | omega
theorem sumN_turn (F:Nat→Int) {a n:Nat} (ha:a<n) (hn:n≤4):sumN (fun k=>F (sgT a n k)) n=sumN F n:=by
 have:n=1∨n=2∨n=3∨n=4:=by omega
 have hA:a=0∨a=1∨a=2∨a=3:=by omega
 rcases this with rfl | rfl | rfl | rfl<;>rcases hA with rfl | rfl | rfl | rfl<;>first | omega | (simp[sumN,sgT];try omega)
theorem turn_checks {n a:Nat} (hn:n≤4) (ha:a<n) {ts ts':List Thr} (h:Q.TurnTs n (sgT a n) ts ts') (hl:∀ t∈ts,0<t.line) (hs:∀ t∈ts,∀ s∈t.stmts,0<s.line) (h1:zIM ts=0) (h2:zIw ts ts=0) (h3:over ts=false):zIM ts'=0∧zIw ts' ts'=0∧over ts'=false:=by
 have hmem:∀ t'∈ts',∃ u∈ts,Q.ThL u t':=fun t' ht'=>by
  obtain⟨k,hk,e⟩:=List.getElem_of_mem ht'
  have hk2:k<n:=by rw[← h.len'];exact hk
  have hT:=h.thr k hk2
  rw[Q.gD_lt ts' k Q.thr0 hk,e] at hT
  exact⟨_,Q.zKE ts _ Q.thr0 (by rw[h.len];exact h.inv.lt k hk2),hT⟩
 have hmem2:∀ t∈ts,∃ u'∈ts',Q.ThL t u':=fun t ht=>by
  obtain⟨k,hk,e⟩:=List.getElem_of_mem ht
  have hk2:k<n:=by rw[← h.len];exact hk
  have hT:=h.thr (sgT a n k) (h.inv.lt k hk2)
  rw[h.inv.back k hk2,Q.gD_lt ts k Q.thr0 hk,e] at hT
  exact⟨_,Q.zKE ts' _ Q.thr0 (by rw[h.len'];exact h.inv.lt k hk2),hT⟩
 refine⟨inner_none fun t' ht'=>?_,uneven_none fun t' ht'=>?_,?_⟩
 ·obtain⟨u,hu,hT⟩:=hmem t' ht'
  rw[innerS_L 0 hT.sts]
  exact inner_all hs h1 u hu
 ·obtain⟨u,hu,hT⟩:=hmem t' ht'
  have he:=uneven_all hl h2 u hu
  obtain⟨w',hw',b1,b2⟩:=barsOf_some t'.block ⟨t',ht',rfl⟩
  obtain⟨w,hw,hTw⟩:=hmem w' hw'
  have hew:=uneven_all hl h2 w hw
  unfold unevB at he hew ⊢
  rw[Bool.or_eq_false_iff] at he hew ⊢
  have e1:bars u.stmts=zIT u.block ts:=by simpa using he.1
  have e2:bars w.stmts=zIT w.block ts:=by simpa using hew.1
  have eb:w.block=u.block:=by rw[← hTw.block,← hT.block,b1]
  rw[b2,bars_L hT.sts,bars_L hTw.sts,e1,e2,eb]
  refine⟨by simp,?_⟩
  rw[← e1];exact he.2
 ·have htot:∀ p:Stm→Bool,(∀ (s:Stm) (l b:Int),p { s with line:=l,label:=b }=p s)→tot p ts'=tot p ts:=fun p hp=>by
   rw[tot_sum,tot_sum,h.len,h.len',← sumN_turn (fun k=>cnt p (ts.getD k Q.thr0).stmts) ha hn]
   exact sumN_congr n fun k hk=>cnt_L p hp (h.thr k hk).sts
  unfold over at h3 ⊢
  rw[htot isR (fun _ _ _=>rfl),htot isW (fun _ _ _=>rfl),htot isF (fun _ _ _=>rfl)]
  exact h3
def rowsT (a:Nat) (gs:List (List Row)):List Row:=((List.range gs.length).map fun k=>gs.getD (sgT a gs.length k) []).flatten
theorem textOf_flat:∀ gs:List (List Row),(textOf gs.flatten).length=(gs.map fun g=>(textOf g).length).sum
 | []=>rfl
 | g::gs=>by
  rw[List.flatten_cons,List.map_cons,List.sum_cons,← textOf_flat gs]
  have:∀ x y:List Row,textOf (x++y)=textOf x++textOf y:=fun x=>by
   induction x with
   | nil=>intro y;rfl
   | cons c x ih=>intro y;rw[List.cons_append,textOf,textOf,ih];simp
  rw[this,List.length_append]
theorem sum_range (F:Nat→Nat):∀ n,((((List.range n).map F).sum:Nat):Int)=sumN (fun k=>(F k:Int)) n
 | 0=>rfl
 | n+1=>by
  rw[List.range_succ,List.map_append,List.sum_append,sumN,← sum_range F n]
  simp
theorem rowsT_len {a:Nat} {gs:List (List Row)} (ha:a<gs.length) (hn:gs.length≤4):(textOf (rowsT a gs)).length=(textOf gs.flatten).length:=by
 have e1:(gs.map fun g=>(textOf g).length)=(List.range gs.length).map fun k=>(textOf (gs.getD k [])).length:=by
  conv=>lhs;rw[Q.list_range gs []]
  rw[List.map_map];rfl
 have h:=sumN_turn (fun k=>((textOf (gs.getD k [])).length:Int)) ha hn
 have s1:=sum_range (fun k=>(textOf (gs.getD k [])).length) gs.length
 have s2:=sum_range (fun k=>(textOf (gs.getD (sgT a gs.length k) [])).length) gs.length
 unfold rowsT
 rw[textOf_flat,textOf_flat,e1,List.map_map]
 have s3:(((List.range gs.length).map fun k=>(textOf (gs.getD (sgT a gs.length k) [])).length).sum:Nat)=((List.range gs.length).map fun k=>(textOf (gs.getD k [])).length).sum:=by
  have:((((List.range gs.length).map fun k=>(textOf (gs.getD (sgT a gs.length k) [])).length).sum:Nat):Int)=((((List.range gs.length).map fun k=>(textOf (gs.getD k [])).length).sum:Nat):Int):=by
   rw[s1,s2];exact h
  omega
 exact s3
theorem kernel_turn {s:List UInt8} (h:(kernel s).2.1=0) {gs:List (List Row)} (hg:∀ g∈gs,GOk g) (hx:gs.flatten=(zIr 10 s).dropLast) {a:Nat} (ha:a<gs.length):gs.length=(kernel s).1.length∧gs.length≤4∧∃ ts',kernel (textOf (rowsT a gs))=(ts',0,0)∧Q.TurnTs gs.length (sgT a gs.length) (kernel s).1 ts':=by
 obtain⟨r1,hz,hr,hlast,ho,ht,hker,h1,h2,h3⟩:=kernel_rows h
 rw[← hx] at hr
 obtain⟨ts,e1,hA⟩:=reads_all gs hg (r:=Rd.zero) rfl hr ho
 have ets:r1.threads=ts:=by rw[e1];rfl
 have hlen:ts.length=gs.length:=all2_len hA
 obtain⟨lp,_,_⟩:=runLines_lp _ (r:=Rd.zero) rfl ⟨by decide,fun t ht=>by simp[Rd.zero] at ht,fun t ht=>by simp[Rd.zero] at ht⟩ hr
 have h4:ts.length≤4:=by
  have:=(good_run gs.flatten 0 Rd.zero good_zero).1.few
  rw[hr] at this
  rw[← ets];exact this
 have e3:(kernel s).1=ts:=by rw[hker,← ets]
 have hn4:gs.length≤4:=by omega
 have hI:=sgT_inv ha hn4
 have hAll:All2 Reads ((List.range gs.length).map fun k=>gs.getD (sgT a gs.length k) []) ((List.range gs.length).map fun k=>ts.getD (sgT a gs.length k) Q.thr0):=all2_of _ _ _ fun k hk=>all2_get [] Q.thr0 hA _ (hI.lt k (List.mem_range.1 hk))
 obtain⟨r2,ts',f1,f2,hT,f3⟩:=reads_new _ _ (r':=Rd.zero) hAll rfl rfl (by simp[Rd.zero];exact hn4)
 have ets':r2.threads=ts':=by rw[f2];rfl
 have hlen':ts'.length=gs.length:=by rw[all2_len hT];simp
 have hTurn:Q.TurnTs gs.length (sgT a gs.length) ts ts':=⟨hI,hlen,hlen',fun k hk=>by
  have:=all2_get Q.thr0 Q.thr0 hT k (by simpa using hk)
  have e9:((List.range gs.length).map fun k=>ts.getD (sgT a gs.length k) Q.thr0).getD k Q.thr0=ts.getD (sgT a gs.length k) Q.thr0:=by
   rw[Q.gD_lt _ k _ (by simpa using hk)];simp
  rw[e9] at this
  exact this⟩
 rw[ets] at h1 h2 h3 ht
 obtain⟨c1,c2,c3⟩:=turn_checks hn4 ha hTurn (fun t ht=>lp.thr t (by rw[ets];exact ht)) (fun t ht=>lp.st t (by rw[ets];exact ht)) h1 h2 h3
 refine⟨by rw[e3];exact hlen.symm,hn4,ts',?_,by rw[e3];exact hTurn⟩
 have h10:∀ x∈rowsT a gs,(10:UInt8) ∉ x:=fun x hxm=>by
  unfold rowsT at hxm
  obtain⟨g,hgm,hxg⟩:=List.mem_flatten.1 hxm
  obtain⟨k,hk,rfl⟩:=List.mem_map.1 hgm
  have hmem:gs.getD (sgT a gs.length k) []∈gs:=Q.zKE gs _ [] (hI.lt k (List.mem_range.1 hk))
  have:x∈(zIr 10 s).dropLast:=by rw[← hx];exact List.mem_flatten.2 ⟨_,hmem,hxg⟩
  exact split_free 10 s x (List.dropLast_subset _ this)
 have hzz:(textOf (rowsT a gs)).length≤2000:=by
  rw[rowsT_len ha hn4,hx,← text_split hlast];exact hz
 have:=kernel_of h10 hzz f1 f3 (by rw[ets'];intro e;rw[e] at hlen';simp at hlen';omega) (by rw[ets'];exact c1) (by rw[ets'];exact c2) (by rw[ets'];exact c3)
 rw[this,ets']
end P
namespace P
theorem nodup_map {α β:Type} (f:α→β) {l:List α} (h:l.Nodup) (hi:∀ a∈l,∀ b∈l,f a=f b→a=b):(l.map f).Nodup:=by
 unfold List.Nodup at h ⊢
 rw[List.pairwise_map]
 refine List.Pairwise.imp_of_mem (fun ha hb hab e=>hab (hi _ ha _ hb e)) h
theorem map_le {l m:List (List Int)} (f:List Int→List Int) (hl:l.Nodup) (hm:∀ r∈l,f r∈m) (hi:∀ a∈l,∀ b∈l,f a=f b→a=b):l.length≤m.length:=by
 have:=Q.nodup_len (l.map f) m (nodup_map f hl hi) (fun y hy=>by obtain⟨r,hr,rfl⟩:=List.mem_map.1 hy;exact hm r hr)
 simpa using this
theorem app_three {g h:List Int} {a b c a' b' c':Int} (e:g++[a,b,c]=h++[a',b',c']):g=h∧a=a'∧b=b'∧c=c':=by
 have:=List.append_inj' e rfl
 have h2:=this.2
 simp only[List.cons.injEq,and_true] at h2
 exact⟨this.1,h2.1,h2.2.1,h2.2.2⟩
end P
namespace P
def putG {α:Type}:List (List α)→List α→List (List α)
 | [],_=>[]
 | [g],y=>[g++y]
 | g::h::r,y=>g::putG (h::r) y
theorem zKl {α:Type} (g y:List α):∀ acc:List (List α),putG (acc++[g]) y=acc++[g++y]
 | []=>rfl
 | [a]=>rfl
 | a::b::acc=>by
  have:=zKl g y (b::acc)
  rw[List.cons_append,List.cons_append,putG,List.cons_append]
  rw[List.cons_append] at this
  rw[this]
def ptS (acc:List (List UInt8)) (x:Row):List (List UInt8):=putG (if zJc x thrW then acc++[[]] else acc) (x++[10])
def ptG (acc:List (List Row)) (x:Row):List (List Row):=if isThr x then acc++[[x]] else putG acc [x]
theorem snoc_ofT {α:Type} (l:List α) (h:l≠[]):∃ a b,l=a++[b]:=⟨l.dropLast,l.getLast h,(List.dropLast_concat_getLast h).symm⟩
theorem ptG_map (acc:List (List Row)) (x:Row) (h:zJc x thrW=isThr x):ptS (acc.map textOf) x=(ptG acc x).map textOf:=by
 unfold ptS ptG
 rw[h]
 cases c:isThr x
 ·simp only[Bool.false_eq_true,if_false]
  by_cases e:acc=[]
  ·rw[e];rfl
  ·obtain⟨a,b,rfl⟩:=snoc_ofT acc e
   rw[List.map_append,List.map_cons,List.map_nil,zKl,zKl,List.map_append,List.map_cons,List.map_nil,textOf_app]
   rfl
 ·simp only[if_true]
  rw[zKl,List.map_append]
  rfl
theorem pt_fold:∀ (xs:List Row) (acc:List (List Row)),(∀ x∈xs,zJc x thrW=isThr x)→xs.foldl ptS (acc.map textOf)=(xs.foldl ptG acc).map textOf
 | [],_,_=>rfl
 | x::xs,acc,h=>by
  rw[List.foldl_cons,List.foldl_cons,ptG_map acc x (h x (by simp))]
  exact pt_fold xs _ fun y hy=>h y (List.mem_cons_of_mem _ hy)
theorem ptG_ok {acc:List (List Row)} {x:Row} (h:∀ g∈acc,GOk g) (hx:acc≠[]∨isThr x=true):(∀ g∈ptG acc x,GOk g)∧(ptG acc x).flatten=acc.flatten++[x]∧ptG acc x≠[]:=by
 unfold ptG
 cases c:isThr x
 ·simp only[Bool.false_eq_true,if_false]
  have hne:acc≠[]:=hx.elim id (fun e=>by rw[c] at e;cases e)
  obtain⟨a,b,rfl⟩:=snoc_ofT acc hne
  rw[zKl]
  refine⟨fun g hg=>?_,by simp,by simp⟩
  rcases List.mem_append.1 hg with hg | hg
  ·exact h g (List.mem_append_left _ hg)
  ·rw[List.mem_singleton] at hg
   rw[hg]
   obtain⟨y,body,e,hy,hb⟩:=(h b (by simp)).is
   refine⟨y,body++[x],by rw[e];rfl,hy,fun z hz=>?_⟩
   rcases List.mem_append.1 hz with hz | hz
   ·exact hb z hz
   ·rw[List.mem_singleton] at hz;rw[hz];exact c
 ·simp only[if_true]
  refine⟨fun g hg=>?_,by simp,by simp⟩
  rcases List.mem_append.1 hg with hg | hg
  ·exact h g hg
  ·rw[List.mem_singleton] at hg
   rw[hg]
   exact⟨x,[],rfl,c,fun y hy=>by simp at hy⟩
theorem ptG_fold:∀ (xs:List Row) (acc:List (List Row)),(∀ g∈acc,GOk g)→acc≠[]→(∀ g∈xs.foldl ptG acc,GOk g)∧(xs.foldl ptG acc).flatten=acc.flatten++xs
 | [],acc,h,_=>⟨h,by simp⟩
 | x::xs,acc,h,hne=>by
  obtain⟨h1,h2,h3⟩:=ptG_ok (x:=x) h (Or.inl hne)
  obtain⟨k1,k2⟩:=ptG_fold xs _ h1 h3
  rw[List.foldl_cons]
  exact⟨k1,by rw[k2,h2];simp⟩
theorem row_thr {x:Row} {r r1:Rd} (hm:r.most=8) (h:takes r (zIr 32 x)=(r1,true)):zJc x thrW=isThr x∧(r.threads=[]→isThr x=true):=by
 have hx:=join_split 32 x
 rcases takes_true hm h with ⟨c,hw,hd,h1⟩ | ⟨st,hs,h1,c,q,hw,hc⟩
 ·have e1:isThr x=true:=by unfold isThr;rw[hw];rfl
  refine⟨?_,fun _=>e1⟩
  rw[e1]
  rw[hw] at hx
  rw[← hx]
  rfl
 ·have e1:isThr x=false:=by
   unfold isThr;rw[hw]
   rw[List.head?_cons,beq_eq_false_iff_ne]
   intro e
   exact (beq_eq_false_iff_ne.1 hc) (Option.some.inj e)
  refine⟨?_,fun e=>?_⟩
  ·rw[e1]
   rw[hw] at hs hx
   have hfirst:∃ a w,c=a::w∧a≠116:=by
    rcases statement_form hs with ⟨p,v,r,e,_⟩ | ⟨d,v,r,e,hd,_⟩ | ⟨d,c0,k,p,v,r,e,hd,_⟩ | ⟨r,e,_⟩ | hp
    ·rw[(List.cons.inj e).1];exact⟨115,_,rfl,by decide⟩
    ·obtain⟨g,hg⟩:=register_word hd
     rw[(List.cons.inj e).1,hg];exact⟨114,_,rfl,by decide⟩
    ·obtain⟨g,hg⟩:=register_word hd
     rw[(List.cons.inj e).1,hg];exact⟨114,_,rfl,by decide⟩
    ·rw[(List.cons.inj e).1];exact⟨102,_,rfl,by decide⟩
    ·obtain⟨a,w,q2,e,_,h116,_⟩:=hp.head
     rw[(List.cons.inj e).1];exact⟨a,w,rfl,h116⟩
   obtain⟨a,w,rfl,ha⟩:=hfirst
   have hy:∃ y,x=a::y:=by
    rw[← hx]
    cases q with
    | nil=>exact⟨w,rfl⟩
    | cons b q=>exact⟨_,rfl⟩
   obtain⟨y,rfl⟩:=hy
   unfold zJc
   rw[Bool.and_eq_false_iff]
   refine Or.inr ?_
   rw[beq_eq_false_iff_ne]
   intro e
   simp only[List.length_cons,List.take_succ_cons] at e
   exact ha (List.cons.inj e).1
  ·unfold putD at h1
   rw[if_pos (by rw[e];rfl)] at h1
   simp at h1
theorem rows_thr:∀ (xs:List Row) {r r1:Rd},r.most=8→zJZ r xs=(r1,true)→∀ x∈xs,zJc x thrW=isThr x
 | [],_,_,_,_,x,hx=>by simp at hx
 | y::xs,r,r1,hm,h,x,hx=>by
  simp only[zJZ] at h
  split at h
  ·rename_i ht
   have e:takes { r with line:=r.line+1 } (zIr 32 y)=((takes { r with line:=r.line+1 } (zIr 32 y)).1,true):=by rw[← ht]
   rcases List.mem_cons.1 hx with rfl | hx
   ·exact (row_thr (r:={ r with line:=r.line+1 }) hm e).1
   ·exact rows_thr xs (zJR { r with line:=r.line+1 } (zIr 32 y) hm).2 h x hx
  ·simp at h
theorem groups_of {xs:List Row} {r1:Rd} (h:zJZ Rd.zero xs=(r1,true)) (hne:r1.threads≠[]):(∀ g∈xs.foldl ptG [],GOk g)∧(xs.foldl ptG []).flatten=xs∧xs.foldl ptG []≠[]∧xs.foldl ptS []=(xs.foldl ptG []).map textOf:=by
 have hS:=pt_fold xs [] (rows_thr xs rfl h)
 cases xs with
 | nil=>simp[zJZ] at h;rw[← h] at hne;exact absurd rfl hne
 | cons x xs =>
  have hx:isThr x=true:=by
   simp only[zJZ] at h
   split at h
   ·rename_i ht
    exact (row_thr (r:={ Rd.zero with line:=Rd.zero.line+1 }) rfl (by rw[← ht])).2 rfl
   ·simp at h
  obtain⟨a1,a2,a3⟩:=ptG_ok (acc:=[]) (x:=x) (fun g hg=>by simp at hg) (Or.inr hx)
  obtain⟨b1,b2⟩:=ptG_fold xs _ a1 a3
  refine⟨b1,by rw[List.foldl_cons,b2,a2];rfl,fun e=>?_,hS⟩
  have:=b2
  rw[List.foldl_cons] at e
  rw[e,a2] at this
  simp at this
end P
namespace Q
theorem chunks (sg:Nat→Nat):∀ (n:Nat) (g:List Int),g.length=4*n→(List.range n).flatMap (fun k=>(g.drop (4*k)).take 4)=g
 | 0,g,h=>by
  have:g=[]:=List.eq_nil_of_length_eq_zero (by omega)
  rw[this];rfl
 | n+1,g,h=>by
  have ih:=chunks sg n (g.take (4*n)) (by rw[List.length_take];omega)
  rw[List.range_succ,List.flatMap_append]
  have e:(List.range n).flatMap (fun k=>(g.drop (4*k)).take 4)=(List.range n).flatMap (fun k=>((g.take (4*n)).drop (4*k)).take 4):=by
   rw[List.flatMap_def,List.flatMap_def]
   congr 1
   refine List.map_congr_left fun k hk=>?_
   have hk2:=List.mem_range.1 hk
   rw[List.drop_take,List.take_take]
   congr 1
   omega
  rw[e,ih,List.flatMap_cons,List.flatMap_nil,List.append_nil,List.take_of_length_le (l:=g.drop (4*n)) (by rw[List.length_drop];omega)]
  exact List.take_append_drop _ _
theorem zJX {n:Nat} {sg:Nat→Nat} (h:Inv n sg) {g:List Int} (hg:g.length=4*n):regsT n sg (regsT n sg g)=g:=by
 have e:regsT n sg g=((List.range n).map fun k=>(g.drop (4*sg k)).take 4).flatten:=by unfold regsT;rw[List.flatMap_def]
 have h4:∀ r∈(List.range n).map fun k=>(g.drop (4*sg k)).take 4,r.length=4:=fun r hr=>by
  obtain⟨k,hk,rfl⟩:=List.mem_map.1 hr
  have:=h.lt k (List.mem_range.1 hk)
  rw[List.length_take,List.length_drop];omega
 conv=>rhs;rw[← chunks sg n g hg]
 rw[e]
 unfold regsT
 rw[List.flatMap_def,List.flatMap_def]
 congr 1
 refine List.map_congr_left fun k hk=>?_
 have hk2:=List.mem_range.1 hk
 rw[flat_block _ (sg k) h4 (by simp;exact h.lt k hk2),gD_map _ _ (sg k) 0 [] (by simp;exact h.lt k hk2),gD_lt (List.range n) (sg k) 0 (by simp;exact h.lt k hk2)]
 simp only[List.getElem_range]
 rw[h.back k hk2]
end Q
namespace P
def rowT (n:Nat) (sg:Nat→Nat) (r:List Int):List Int:=Q.regsT n sg (r.take (4*n))++r.drop (4*n)
theorem rowT_is {n:Nat} {sg:Nat→Nat} {g:List Int} (hg:g.length=4*n) (x y z:Int):rowT n sg (g++[x,y,z])=Q.regsT n sg g++[x,y,z]:=by
 unfold rowT
 rw[List.take_append_of_le_length (by omega),List.take_of_length_le (by omega),List.drop_append_of_le_length (by omega),List.drop_eq_nil_of_le (by omega)]
 rfl
theorem turned_law {s:List UInt8} (h:(kernel s).2.1=0) {a:Nat} (ha:a<((zIr 10 s).dropLast.foldl ptS []).length):((zIr 10 s).dropLast.foldl ptS []).length≤4 ∧
  ((((List.range ((zIr 10 s).dropLast.foldl ptS []).length).map fun k=>((zIr 10 s).dropLast.foldl ptS []).getD (sgT a ((zIr 10 s).dropLast.foldl ptS []).length k) []).flatten).length≤2000) ∧
  ∃ T,T=((List.range ((zIr 10 s).dropLast.foldl ptS []).length).map fun k=>((zIr 10 s).dropLast.foldl ptS []).getD (sgT a ((zIr 10 s).dropLast.foldl ptS []).length k) []).flatten∧(kernel T).2.1=0∧(Q.zIC (kernel T).1).clash=(Q.zIC (kernel s).1).clash∧(Q.zIC (kernel T).1).rows.length=(Q.zIC (kernel s).1).rows.length ∧
   ∀ r∈(Q.zIC (kernel s).1).rows,r.length=4*((zIr 10 s).dropLast.foldl ptS []).length+3∧rowT ((zIr 10 s).dropLast.foldl ptS []).length (sgT a ((zIr 10 s).dropLast.foldl ptS []).length) r∈(Q.zIC (kernel T).1).rows:=by
 obtain⟨r1,hz,hr,hlast,_,ht,_⟩:=kernel_rows h
 obtain⟨g1,g2,g3,g4⟩:=groups_of hr ht
 rw[g4] at ha ⊢
 generalize hgs:(zIr 10 s).dropLast.foldl ptG []=gs at *
 rw[List.length_map] at ha ⊢
 obtain⟨k1,k2,ts',k3,k4⟩:=kernel_turn h g1 g2 ha
 have eT:((List.range gs.length).map fun k=>(gs.map textOf).getD (sgT a gs.length k) []).flatten=textOf (rowsT a gs):=by
  unfold rowsT
  have hfl:∀ L:List (List Row),textOf L.flatten=(L.map textOf).flatten:=fun L=>by
   induction L with
   | nil=>rfl
   | cons b L ih=>rw[List.flatten_cons,textOf_app,ih];rfl
  rw[hfl,List.map_map]
  congr 1
  refine List.map_congr_left fun k hk=>?_
  exact Q.gD_map textOf gs (sgT a gs.length k) [] [] (k4.inv.lt k (List.mem_range.1 hk))
 rw[eT]
 have h0:(kernel (textOf (rowsT a gs))).2.1=0:=by rw[k3]
 refine⟨k2,by rw[rowsT_len ha k2,g2,← text_split hlast];exact hz,_,rfl,h0,?_⟩
 have hv:=kernel_v h
 have hv':=kernel_v h0
 have e1:=Q.zJW (zIN h)
 have e2:=Q.zJW (zIN h0)
 have q1:=(Q.zKD (zIN h)).rn
 have q2:=(Q.zKD (zIN h0)).rn
 rw[k3] at hv' e2 q2 ⊢
 obtain⟨a1,a2⟩:=Q.zJQ k4 hv hv' e1 e2 (fun rs hrs r hr=>(q1 rs hrs r hr).1)
 obtain⟨b1,b2⟩:=Q.zJQ k4.symm hv' hv e2 e1 (fun rs hrs r hr=>(q2 rs hrs r hr).1)
 have inj:∀ {l:List (List Int)},(∀ r∈l,∃ g x y z,g.length=4*gs.length∧r=g++[x,y,z])→∀ p∈l,∀ q∈l,rowT gs.length (sgT a gs.length) p=rowT gs.length (sgT a gs.length) q→p=q:=fun hl p hp q hq e=>by
  obtain⟨g,x,y,z,hg,rfl⟩:=hl p hp
  obtain⟨g',x',y',z',hg',rfl⟩:=hl q hq
  rw[rowT_is hg,rowT_is hg'] at e
  obtain⟨c1,c2,c3,c4⟩:=app_three e
  have:=congrArg (Q.regsT gs.length (sgT a gs.length)) c1
  rw[Q.zJX k4.inv hg,Q.zJX k4.inv hg'] at this
  rw[this,c2,c3,c4]
 refine⟨?_,?_,fun r hr=>?_⟩
 ·cases c1:(Q.zIC ts').clash<;>cases c2:(Q.zIC (kernel s).1).clash
  ·rfl
  ·have:=a2 c2;rw[c1] at this;cases this
  ·have:=b2 c1;rw[c2] at this;cases this
  ·rfl
 ·refine Nat.le_antisymm (map_le (rowT gs.length (sgT a gs.length)) (Q.zJA (Q.zJq _)) (fun r hr=>?_) (inj fun r hr=>?_)) (map_le (rowT gs.length (sgT a gs.length)) (Q.zJA (Q.zJq _)) (fun r hr=>?_) (inj fun r hr=>?_))
  ·obtain⟨g,x,y,z,hg,rfl,hm⟩:=b1 r hr
   rw[rowT_is hg];exact hm
  ·obtain⟨g,x,y,z,hg,e,_⟩:=b1 r hr
   exact⟨g,x,y,z,hg,e⟩
  ·obtain⟨g,x,y,z,hg,rfl,hm⟩:=a1 r hr
   rw[rowT_is hg];exact hm
  ·obtain⟨g,x,y,z,hg,e,_⟩:=a1 r hr
   exact⟨g,x,y,z,hg,e⟩
 ·obtain⟨g,x,y,z,hg,rfl,hm⟩:=a1 r hr
  exact⟨by rw[List.length_append,hg];rfl,by rw[rowT_is hg];exact hm⟩
end P
end Go.Proofs.YtkmebkbpfmoeaaaGreat
