import Derived.Test.YtkmebkbpfmoeaaaGreatF43
set_option linter.unusedVariables false
set_option linter.unusedSimpArgs false
set_option maxHeartbeats 12800000
namespace Go.Proofs.YtkmebkbpfmoeaaaGreat
namespace P
theorem runLines_app:∀ (xs ys:List (List UInt8)) (r r1:Rd),zJq r xs=(r1,true)→zJq r (xs++ys)=zJq r1 ys
 | [],ys,r,r1,h=>by simp[zJq] at h;rw[h];rfl
 | x::xs,ys,r,r1,h=>by
  simp only[zJq] at h
  rw[List.cons_append]
  simp only[zJq]
  split at h
  ·rename_i ht
   rw[if_pos ht]
   exact runLines_app xs ys _ r1 h
  ·simp at h
theorem runLines_cut:∀ (xs ys:List (List UInt8)) (r r2:Rd),zJq r (xs++ys)=(r2,true)→∃ r1,zJq r xs=(r1,true)∧zJq r1 ys=(r2,true)
 | [],ys,r,r2,h=>⟨r,rfl,h⟩
 | x::xs,ys,r,r2,h=>by
  rw[List.cons_append] at h
  simp only[zJq] at h
  split at h
  ·rename_i ht
   obtain⟨r1,h1,h2⟩:=runLines_cut xs ys _ r2 h
   refine⟨r1,?_,h2⟩
   simp only[zJq]
   rw[if_pos ht]
   exact h1
  ·simp at h
structure RdF (r r':Rd):Prop where
 th:Q.FenTs r.threads r'.threads
 ifs:r'.ifs=r.ifs
 opn:r'.opn=r.opn
 most:r'.most=r.most
theorem stsE_app:∀ {x y u v:List Stm},Q.StsE x y→Q.StsE u v→Q.StsE (x++u) (y++v)
 | [],[],_,_,_,h=>h
 | a::x,b::y,_,_,h,k=>⟨h.1,stsE_app h.2 k⟩
 | [],b::y,_,_,h,_=>by simp[Q.StsE] at h
 | a::x,[],_,_,h,_=>by simp[Q.StsE] at h
theorem stsE_refl:∀ x:List Stm,Q.StsE x x
 | []=>trivial
 | a::x=>⟨⟨rfl⟩,stsE_refl x⟩
theorem putLast_E {s s':Stm} (hs:Q.StE s s'):∀ {x y:List Thr},Q.ThsE x y→Q.ThsE (putLast x s) (putLast y s')
 | [],[],_=>trivial
 | [a],[b],h=>⟨⟨h.1.block,stsE_app h.1.sts ⟨hs,trivial⟩⟩,trivial⟩
 | a::a2::x,b::b2::y,h=>⟨h.1,putLast_E hs (x:=a2::x) (y:=b2::y) h.2⟩
 | [],b::y,h=>by simp[Q.ThsE] at h
 | a::x,[],h=>by simp[Q.ThsE] at h
 | [a],b::b2::y,h=>by have:=h.2;simp[Q.ThsE] at this
 | a::a2::x,[b],h=>by have:=h.2;simp[Q.ThsE] at this
theorem fenT_put {s s':Stm} (hs:Q.StE s s') {a b:Thr} (h:Q.FenT a b):Q.FenT { a with stmts:=a.stmts++[s] } { b with stmts:=b.stmts++[s'] }:=by
 obtain⟨A,B,A',B',f,e1,e2,hA,hB,hf⟩:=h.sts
 exact⟨h.block,A,B++[s],A',B'++[s'],f,by show a.stmts++[s]=_;rw[e1,List.append_assoc],by show b.stmts++[s']=_;rw[e2,List.append_assoc];rfl,hA,stsE_app hB ⟨hs,trivial⟩,hf⟩
theorem putLast_F {s s':Stm} (hs:Q.StE s s'):∀ {x y:List Thr},Q.FenTs x y→Q.FenTs (putLast x s) (putLast y s')
 | [],_,h=>by simp[Q.FenTs] at h
 | a::x,[],h=>by simp[Q.FenTs] at h
 | [a],[b],h=>by
  rcases h with ⟨h1,_⟩ | ⟨_,h2⟩
  ·exact Or.inl ⟨fenT_put hs h1,trivial⟩
  ·simp[Q.FenTs] at h2
 | [a],b::b2::y,h=>by
  rcases h with ⟨_,h2⟩ | ⟨_,h2⟩
  ·simp[Q.ThsE] at h2
  ·simp[Q.FenTs] at h2
 | a::a2::x,[b],h=>by
  rcases h with ⟨_,h2⟩ | ⟨_,h2⟩
  ·simp[Q.ThsE] at h2
  ·simp[Q.FenTs] at h2
 | a::a2::x,b::b2::y,h=>by
  rcases h with ⟨h1,h2⟩ | ⟨h1,h2⟩
  ·exact Or.inl ⟨h1,putLast_E hs (x:=a2::x) (y:=b2::y) h2⟩
  ·exact Or.inr ⟨h1,putLast_F hs (x:=a2::x) (y:=b2::y) h2⟩
theorem thsE_snoc {a b:Thr} (h:Q.ThE a b):∀ {x y:List Thr},Q.ThsE x y→Q.ThsE (x++[a]) (y++[b])
 | [],[],_=>⟨h,trivial⟩
 | c::x,d::y,k=>⟨k.1,thsE_snoc h k.2⟩
 | [],b::y,h=>by simp[Q.ThsE] at h
 | a::x,[],h=>by simp[Q.ThsE] at h
theorem fenTs_snoc {a b:Thr} (h:Q.ThE a b):∀ {x y:List Thr},Q.FenTs x y→Q.FenTs (x++[a]) (y++[b])
 | [],_,k=>by simp[Q.FenTs] at k
 | c::x,[],k=>by simp[Q.FenTs] at k
 | c::x,d::y,k=>by
  rcases k with ⟨k1,k2⟩ | ⟨k1,k2⟩
  ·exact Or.inl ⟨k1,thsE_snoc h k2⟩
  ·exact Or.inr ⟨k1,fenTs_snoc h k2⟩
theorem thsE_len:∀ {x y:List Thr},Q.ThsE x y→y.length=x.length
 | [],[],_=>rfl
 | a::x,b::y,h=>by rw[List.length_cons,List.length_cons,thsE_len h.2]
 | [],b::y,h=>by simp[Q.ThsE] at h
 | a::x,[],h=>by simp[Q.ThsE] at h
theorem fenTs_len:∀ {x y:List Thr},Q.FenTs x y→y.length=x.length
 | [],_,h=>by simp[Q.FenTs] at h
 | a::x,[],h=>by simp[Q.FenTs] at h
 | a::x,b::y,h=>by
  rcases h with ⟨_,h2⟩ | ⟨_,h2⟩
  ·rw[List.length_cons,List.length_cons,thsE_len h2]
  ·rw[List.length_cons,List.length_cons,fenTs_len h2]
theorem takes_F {r r' r1:Rd} {ws:List (List UInt8)} (hm:r.most=8) (h:takes r ws=(r1,true)) (hr:RdF r r'):(takes r' ws).2=false∨∃ r1',takes r' ws=(r1',true)∧RdF r1 r1':=by
 have hm':r'.most=8:=by rw[hr.most];exact hm
 have hlen:=fenTs_len hr.th
 rcases takes_true hm h with ⟨c,rfl,hd,h1⟩ | ⟨st,hs,h1,c,q,rfl,hc⟩
 ·right
  have e:takes r' [thrW,[c]]=zIR r' [thrW,[c]]:=by unfold takes;simp
  rw[e,begins_D,if_pos hd]
  unfold beginD at h1 ⊢
  rw[hlen,hr.opn]
  split at h1
  ·simp at h1
  ·rename_i h0
   rw[if_neg h0]
   simp only[Prod.mk.injEq,and_true] at h1
   refine⟨_,rfl,?_⟩
   rw[← h1]
   exact⟨fenTs_snoc (a:=⟨(digit c 2).1,r.line,[]⟩) (b:=⟨(digit c 2).1,r'.line,[]⟩) ⟨rfl,trivial⟩ hr.th,hr.ifs,rfl,hr.most⟩
 ·rw[takes_D r' c q hc hm',hs]
  simp only[if_true]
  have hemp:r'.threads.isEmpty=r.threads.isEmpty:=by
   cases h1:r.threads<;>cases h2:r'.threads<;>simp_all
  unfold putD at h1 ⊢
  rw[hemp]
  split at h1
  ·simp at h1
  ·rename_i h0
   rw[if_neg h0]
   split at h1
   ·rename_i h11
    rw[if_pos h11]
    right
    unfold ends at h1 ⊢
    rw[hr.opn]
    split at h1
    ·simp at h1
    ·rename_i l hl
     simp only[Prod.mk.injEq,and_true] at h1
     refine⟨_,rfl,?_⟩
     rw[← h1]
     exact⟨putLast_F ⟨rfl⟩ hr.th,hr.ifs,rfl,hr.most⟩
   ·rename_i h11
    rw[if_neg h11]
    split at h1
    ·simp at h1
    ·rename_i h2
     by_cases c8:r'.most≤r'.count
     ·left;rw[if_pos c8]
     ·rw[if_neg c8]
      right
      split at h1
      ·rename_i h3
       rw[if_pos h3]
       rw[hr.opn]
       split at h1
       ·simp at h1
       ·rename_i h4
        rw[if_neg h4]
        unfold branch at h1 ⊢
        simp only at h1 ⊢
        rw[if_neg h4] at h1
        rw[if_neg h4]
        simp only[Prod.mk.injEq,and_true] at h1
        refine⟨_,rfl,?_⟩
        rw[← h1]
        refine⟨putLast_F (s:={ st with line:=r.line,label:=r.ifs+1 }) (s':={ st with line:=r'.line,label:=r'.ifs+1 }) ⟨?_⟩ hr.th,by show r'.ifs+1=r.ifs+1;rw[hr.ifs],by show r.opn++[r'.ifs+1]=r.opn++[r.ifs+1];rw[hr.ifs],hr.most⟩
        rw[hr.ifs]
      ·rename_i h3
       rw[if_neg h3]
       simp only[Prod.mk.injEq,and_true] at h1
       refine⟨_,rfl,?_⟩
       rw[← h1]
       exact⟨putLast_F (s:={ st with line:=r.line }) (s':={ st with line:=r'.line }) ⟨rfl⟩ hr.th,hr.ifs,hr.opn,hr.most⟩
theorem runLines_F:∀ (xs:List (List UInt8)) {r r' r1:Rd},r.most=8→zJq r xs=(r1,true)→RdF r r'→(zJq r' xs).2=false∨∃ r1',zJq r' xs=(r1',true)∧RdF r1 r1'
 | [],r,r',r1,_,h,hr=>by
  simp[zJq] at h
  subst h
  exact Or.inr ⟨r',rfl,hr⟩
 | x::xs,r,r',r1,hm,h,hr=>by
  simp only[zJq] at h ⊢
  split at h
  ·rename_i ht
   have e:takes { r with line:=r.line+1 } (zIk 32 x)=((takes { r with line:=r.line+1 } (zIk 32 x)).1,true):=by rw[← ht]
   have hk:=zJE { r with line:=r.line+1 } (zIk 32 x) hm
   rcases takes_F (r:={ r with line:=r.line+1 }) (r':={ r' with line:=r'.line+1 }) hm e ⟨hr.th,hr.ifs,hr.opn,hr.most⟩ with h2 | ⟨r2,h2,h3⟩
   ·left
    rw[if_neg (by rw[h2];simp)]
   ·rw[h2]
    simp only[if_true]
    exact runLines_F xs hk.2 h h3
  ·simp at h
structure LP (r:Rd):Prop where
 line:0≤r.line
 thr:∀ t∈r.threads,0<t.line
 st:∀ t∈r.threads,∀ s∈t.stmts,0<s.line
theorem putLast_lp {s:Stm} (hs:0<s.line):∀ {x:List Thr},(∀ t∈x,0<t.line)→(∀ t∈x,∀ s∈t.stmts,0<s.line)→(∀ t∈putLast x s,0<t.line)∧∀ t∈putLast x s,∀ u∈t.stmts,0<u.line
 | [],_,_=>⟨fun t ht=>by simp[putLast] at ht,fun t ht=>by simp[putLast] at ht⟩
 | [a],h1,h2=>by
  refine⟨fun t ht=>?_,fun t ht u hu=>?_⟩
  ·simp[putLast] at ht;rw[ht];exact h1 a (by simp)
  ·simp[putLast] at ht;rw[ht] at hu
   rcases List.mem_append.1 hu with hu | hu
   ·exact h2 a (by simp) u hu
   ·rw[List.mem_singleton] at hu;rw[hu];exact hs
 | a::b::x,h1,h2=>by
  obtain⟨k1,k2⟩:=putLast_lp hs (x:=b::x) (fun t ht=>h1 t (List.mem_cons_of_mem _ ht)) (fun t ht=>h2 t (List.mem_cons_of_mem _ ht))
  refine⟨fun t ht=>?_,fun t ht u hu=>?_⟩
  ·rcases List.mem_cons.1 ht with rfl | ht
   ·exact h1 t (by simp)
   ·exact k1 t ht
  ·rcases List.mem_cons.1 ht with rfl | ht
   ·exact h2 t (by simp) u hu
   ·exact k2 t ht u hu
theorem takes_lp {r r1:Rd} {ws:List (List UInt8)} (hm:r.most=8) (hl:0<r.line) (hr:LP r) (h:takes r ws=(r1,true)):LP r1∧r1.line=r.line∧r1.most=8∧(r1.threads≠[]):=by
 have hk:=zJE r ws hm
 rw[h] at hk
 have hput:∀ (o:List Int) (i c:Int) (s:Stm),0<s.line→r.threads≠[]→LP (put { r with opn:=o,ifs:=i,count:=c } s)∧(put { r with opn:=o,ifs:=i,count:=c } s).threads≠[]:=fun o i c s hs hne=>by
  obtain⟨k1,k2⟩:=putLast_lp hs hr.thr hr.st
  refine⟨⟨hr.line,k1,k2⟩,fun e=>hne ?_⟩
  have:=putLast_length r.threads s
  have e2:putLast r.threads s=[]:=e
  rw[e2] at this
  exact List.eq_nil_of_length_eq_zero this.symm
 rcases takes_true hm h with ⟨c,rfl,hd,h1⟩ | ⟨st,hs,h1,c,q,rfl,hc⟩
 ·unfold beginD at h1
  split at h1
  ·simp at h1
  ·simp only[Prod.mk.injEq,and_true] at h1
   rw[← h1]
   refine⟨⟨hr.line,fun t ht=>?_,fun t ht u hu=>?_⟩,rfl,hm,by simp⟩
   ·rcases List.mem_append.1 ht with ht | ht
    ·exact hr.thr t ht
    ·rw[List.mem_singleton] at ht;rw[ht];exact hl
   ·rcases List.mem_append.1 ht with ht | ht
    ·exact hr.st t ht u hu
    ·rw[List.mem_singleton] at ht;rw[ht] at hu;simp at hu
 ·unfold putD at h1
  split at h1
  ·simp at h1
  ·rename_i h0
   have hne:r.threads≠[]:=by simpa using h0
   split at h1
   ·unfold ends at h1
    split at h1
    ·simp at h1
    ·rename_i l hl2
     simp only[Prod.mk.injEq,and_true] at h1
     rw[← h1]
     obtain⟨a,b⟩:=hput r.opn.dropLast r.ifs r.count { st with line:=r.line,label:=l } hl hne
     exact⟨a,rfl,hm,b⟩
   ·split at h1
    ·simp at h1
    ·split at h1
     ·split at h1
      ·simp at h1
      ·unfold branch at h1
       split at h1
       ·simp at h1
       ·simp only[Prod.mk.injEq,and_true] at h1
        rw[← h1]
        obtain⟨a,b⟩:=hput (r.opn++[r.ifs+1]) (r.ifs+1) (r.count+1) { st with line:=r.line,label:=r.ifs+1 } hl hne
        exact⟨a,rfl,hm,b⟩
     ·simp only[Prod.mk.injEq,and_true] at h1
      rw[← h1]
      obtain⟨a,b⟩:=hput r.opn r.ifs (r.count+1) { st with line:=r.line } hl hne
      exact⟨a,rfl,hm,b⟩
theorem runLines_lp:∀ (xs:List (List UInt8)) {r r1:Rd},r.most=8→LP r→zJq r xs=(r1,true)→LP r1∧r1.most=8∧(xs≠[]→r1.threads≠[])
 | [],r,r1,hm,hr,h=>by
  simp[zJq] at h
  subst h
  exact⟨hr,hm,fun c=>absurd rfl c⟩
 | x::xs,r,r1,hm,hr,h=>by
  simp only[zJq] at h
  split at h
  ·rename_i ht
   have e:takes { r with line:=r.line+1 } (zIk 32 x)=((takes { r with line:=r.line+1 } (zIk 32 x)).1,true):=by rw[← ht]
   have h0:=hr.line
   obtain⟨k1,k2,k3,k4⟩:=takes_lp (r:={ r with line:=r.line+1 }) hm (by show 0<r.line+1;omega) ⟨by show 0≤r.line+1;omega,hr.thr,hr.st⟩ e
   obtain⟨j1,j2,j3⟩:=runLines_lp xs k3 k1 h
   refine⟨j1,j2,fun _=>?_⟩
   by_cases c:xs=[]
   ·subst c
    simp[zJq] at h
    rw[← h];exact k4
   ·exact j3 c
  ·simp at h
theorem innerS_E (d:Int):∀ {x y:List Stm},Q.StsE x y→((zIA d y).isNone=(zIA d x).isNone):=by
 intro x
 induction x generalizing d with
 | nil=>intro y h;cases y with
  | nil=>rfl
  | cons b y=>exact absurd h (by simp[Q.StsE])
 | cons a x ih=>intro y h;cases y with
  | nil=>exact absurd h (by simp[Q.StsE])
  | cons b y =>
   rw[zIA,zIA,show b.kind=a.kind by rw[h.1.eq]]
   split
   ·exact ih _ h.2
   ·split
    ·exact ih _ h.2
    ·split
     ·split
      ·rfl
      ·exact ih _ h.2
     ·exact ih _ h.2
theorem innerS_F (d:Int) {f:Stm} (hf:Q.IsFence f) {B B':List Stm} (hB:Q.StsE B B'):∀ {x y:List Stm},Q.StsE x y→((zIA d (y++f::B')).isNone=(zIA d (x++B)).isNone):=by
 intro x
 induction x generalizing d with
 | nil=>intro y h;cases y with
  | nil =>
   rw[List.nil_append,List.nil_append,zIA,hf.kind]
   exact innerS_E d hB
  | cons b y=>exact absurd h (by simp[Q.StsE])
 | cons a x ih=>intro y h;cases y with
  | nil=>exact absurd h (by simp[Q.StsE])
  | cons b y =>
   rw[List.cons_append,List.cons_append,zIA,zIA,show b.kind=a.kind by rw[h.1.eq]]
   split
   ·exact ih _ h.2
   ·split
    ·exact ih _ h.2
    ·split
     ·split
      ·rfl
      ·exact ih _ h.2
     ·exact ih _ h.2
theorem bars_E:∀ {x y:List Stm},Q.StsE x y→bars y=bars x
 | [],[],_=>rfl
 | a::x,b::y,h=>by rw[bars,bars,bars_E h.2,show b.kind=a.kind by rw[h.1.eq]]
 | [],b::y,h=>by simp[Q.StsE] at h
 | a::x,[],h=>by simp[Q.StsE] at h
theorem fenT_bars {t t':Thr} (h:Q.FenT t t'):bars t'.stmts=bars t.stmts∧(zIA 0 t'.stmts).isNone=(zIA 0 t.stmts).isNone:=by
 obtain⟨A,B,A',B',f,e1,e2,hA,hB,hf⟩:=h.sts
 rw[e1,e2]
 refine⟨?_,innerS_F 0 hf hB hA⟩
 rw[bars_append,bars_append,bars,bars_E hA,bars_E hB,hf.kind]
 simp
def look (t:Thr):Int × Int × Bool:=(t.block,bars t.stmts,(zIA 0 t.stmts).isNone)
theorem thsE_look:∀ {x y:List Thr},Q.ThsE x y→y.map look=x.map look
 | [],[],_=>rfl
 | a::x,b::y,h=>by
  rw[List.map_cons,List.map_cons,thsE_look h.2]
  unfold look
  rw[h.1.block,bars_E h.1.sts,innerS_E 0 h.1.sts]
 | [],b::y,h=>by simp[Q.ThsE] at h
 | a::x,[],h=>by simp[Q.ThsE] at h
theorem fenTs_look:∀ {x y:List Thr},Q.FenTs x y→y.map look=x.map look
 | [],_,h=>by simp[Q.FenTs] at h
 | a::x,[],h=>by simp[Q.FenTs] at h
 | a::x,b::y,h=>by
  rw[List.map_cons,List.map_cons]
  rcases h with ⟨h1,h2⟩ | ⟨h1,h2⟩
  ·rw[thsE_look h2]
   unfold look
   rw[h1.block,(fenT_bars h1).1,(fenT_bars h1).2]
  ·rw[fenTs_look h2]
   unfold look
   rw[h1.block,bars_E h1.sts,innerS_E 0 h1.sts]
theorem innerS_line {d:Int}:∀ {l:List Stm} {n:Int},(∀ s∈l,0<s.line)→zIA d l=some n→0<n:=by
 intro l
 induction l generalizing d with
 | nil=>intro n _ h;simp[zIA] at h
 | cons a l ih =>
  intro n hl h
  have hl2:∀ s∈l,0<s.line:=fun s hs=>hl s (List.mem_cons_of_mem _ hs)
  rw[zIA] at h
  split at h
  ·exact ih hl2 h
  ·split at h
   ·exact ih hl2 h
   ·split at h
    ·split at h
     ·rw[← Option.some.inj h];exact hl a (by simp)
     ·exact ih hl2 h
    ·exact ih hl2 h
theorem inner_all:∀ {ts:List Thr},(∀ t∈ts,∀ s∈t.stmts,0<s.line)→zIF ts=0→∀ t∈ts,(zIA 0 t.stmts).isNone=true
 | [],_,_,t,ht=>by simp at ht
 | a::ts,hl,h,t,ht=>by
  rw[zIF] at h
  cases hi:zIA 0 a.stmts with
  | some n =>
   rw[hi] at h
   have:=innerS_line (hl a (by simp)) hi
   simp only at h
   omega
  | none =>
   rw[hi] at h
   rcases List.mem_cons.1 ht with rfl | ht
   ·rw[hi];rfl
   ·exact inner_all (fun u hu=>hl u (List.mem_cons_of_mem _ hu)) h t ht
theorem inner_none:∀ {ts:List Thr},(∀ t∈ts,(zIA 0 t.stmts).isNone=true)→zIF ts=0
 | [],_=>rfl
 | a::ts,h=>by
  rw[zIF]
  have h1:=h a (by simp)
  cases hi:zIA 0 a.stmts with
  | some n=>rw[hi] at h1;simp at h1
  | none=>exact inner_none fun t ht=>h t (List.mem_cons_of_mem _ ht)
def unevB (all:List Thr) (t:Thr):Bool:=bars t.stmts != zIN t.block all||decide (2<bars t.stmts)
theorem uneven_all {all:List Thr}:∀ {ts:List Thr},(∀ t∈ts,0<t.line)→zIp all ts=0→∀ t∈ts,unevB all t=false
 | [],_,_,t,ht=>by simp at ht
 | a::ts,hl,h,t,ht=>by
  rw[zIp] at h
  have h1:=hl a (by simp)
  cases c:unevB all a
  ·have c2:(bars a.stmts != zIN a.block all||decide (2<bars a.stmts))=false:=c
   rw[c2] at h
   rcases List.mem_cons.1 ht with rfl | ht
   ·exact c
   ·exact uneven_all (fun u hu=>hl u (List.mem_cons_of_mem _ hu)) (by simpa using h) t ht
  ·have c2:(bars a.stmts != zIN a.block all||decide (2<bars a.stmts))=true:=c
   rw[c2] at h
   simp at h
   omega
theorem uneven_none {all:List Thr}:∀ {ts:List Thr},(∀ t∈ts,unevB all t=false)→zIp all ts=0
 | [],_=>rfl
 | a::ts,h=>by
  rw[zIp]
  have c2:(bars a.stmts != zIN a.block all||decide (2<bars a.stmts))=false:=h a (by simp)
  rw[c2]
  simpa using uneven_none fun t ht=>h t (List.mem_cons_of_mem _ ht)
theorem barsOf_look (b:Int):∀ {x y:List Thr},y.map look=x.map look→zIN b y=zIN b x
 | [],[],_=>rfl
 | a::x,c::y,h=>by
  simp only[List.map_cons,List.cons.injEq] at h
  have h1:=h.1
  unfold look at h1
  simp only[Prod.mk.injEq] at h1
  rw[zIN,zIN,h1.1,h1.2.1,barsOf_look b h.2]
 | [],b::y,h=>by simp at h
 | a::x,[],h=>by simp at h
theorem look_mem {x y:List Thr} (h:y.map look=x.map look) {t:Thr} (ht:t∈y):∃ u∈x,look t=look u:=by
 have:look t∈x.map look:=by rw[← h];exact List.mem_map_of_mem ht
 obtain⟨u,hu,e⟩:=List.mem_map.1 this
 exact⟨u,hu,e.symm⟩
theorem checks_F {x y:List Thr} (h:Q.FenTs x y) (hl:∀ t∈x,0<t.line) (hs:∀ t∈x,∀ s∈t.stmts,0<s.line) (h1:zIF x=0) (h2:zIp x x=0):zIF y=0∧zIp y y=0:=by
 have hlk:=fenTs_look h
 refine⟨inner_none fun t ht=>?_,uneven_none fun t ht=>?_⟩
 ·obtain⟨u,hu,e⟩:=look_mem hlk ht
  have:=inner_all hs h1 u hu
  unfold look at e
  simp only[Prod.mk.injEq] at e
  rw[e.2.2];exact this
 ·obtain⟨u,hu,e⟩:=look_mem hlk ht
  have:=uneven_all hl h2 u hu
  unfold look at e
  simp only[Prod.mk.injEq] at e
  unfold unevB at this ⊢
  rw[e.1,e.2.1,barsOf_look _ hlk];exact this
abbrev fenceRow:List UInt8:=[102,101,110,99,101,32,115,99,32,100,101,118,105,99,101]
def fenceSt:Stm:={ Stm.zero with kind:=4,order:=5,scope:=1 }
theorem fence_words:zIk 32 fenceRow=[fenceL,[115,99],deviceL]:=by decide
theorem fence_stm:zIn [fenceL,[115,99],deviceL]=(fenceSt,true):=by
 rw[stm_fence,ordering_two _ _ _ (by decide) (by decide) (by decide)]
 rfl
theorem fen_put {r:Rd} (hne:r.threads≠[]) (f:Stm) (hf:Q.IsFence f):Q.FenTs r.threads (putLast r.threads f):=by
 have:∀ {x:List Thr},x≠[]→Q.FenTs x (putLast x f):=by
  intro x
  induction x with
  | nil=>intro h;exact absurd rfl h
  | cons a x ih =>
   intro _
   cases x with
   | nil=>exact Or.inl ⟨⟨rfl,a.stmts,[],a.stmts,[],f,by simp,rfl,stsE_refl _,trivial,hf⟩,trivial⟩
   | cons b x=>exact Or.inr ⟨⟨rfl,stsE_refl _⟩,ih (by simp)⟩
 exact this hne
theorem takes_fence {r:Rd} (hm:r.most=8) (hne:r.threads≠[]):(takes r (zIk 32 fenceRow)).2=false∨∃ r1,takes r (zIk 32 fenceRow)=(r1,true)∧RdF r r1:=by
 rw[fence_words,takes_D r fenceL _ (by decide) hm,fence_stm]
 simp only[if_true]
 unfold putD
 rw[if_neg (by simpa using hne),if_neg (by show ¬ ((4:Int)==11)=true;decide)]
 by_cases c:r.most≤r.count
 ·left;rw[if_pos c]
 ·right
  rw[if_neg c,if_neg (by show ¬ ((4:Int)==10)=true;decide)]
  exact⟨_,rfl,fen_put hne _ ⟨rfl,rfl,rfl⟩,rfl,rfl,rfl⟩
def rowsF (k:Nat) (xs:List (List UInt8)):List (List UInt8):=xs.take k++fenceRow::xs.drop k
theorem fenced_rows {s:List UInt8} (h:(kernel s).2.1=0) {k:Nat} (hk:0<k) (hk2:k≤(zIk 10 s).dropLast.length):(kernel (textOf (rowsF k (zIk 10 s).dropLast))).2.1=1∨(kernel (textOf (rowsF k (zIk 10 s).dropLast))).2.1=2∨(kernel (textOf (rowsF k (zIk 10 s).dropLast))).2.1=4 ∨
  ∃ ts',kernel (textOf (rowsF k (zIk 10 s).dropLast))=(ts',0,0)∧Q.FenTs (kernel s).1 ts':=by
 obtain⟨r1,_,hr,_,ho,ht,hker,h1,h2,h3⟩:=kernel_rows h
 have h10:∀ x∈rowsF k (zIk 10 s).dropLast,(10:UInt8) ∉ x:=fun x hx=>by
  unfold rowsF at hx
  rcases List.mem_append.1 hx with hx | hx
  ·exact split_free 10 s x (List.dropLast_subset _ (List.mem_of_mem_take hx))
  ·rcases List.mem_cons.1 hx with rfl | hx
   ·decide
   ·exact split_free 10 s x (List.dropLast_subset _ (List.mem_of_mem_drop hx))
 by_cases hz0:2000<(textOf (rowsF k (zIk 10 s).dropLast)).length
 ·left
  unfold kernel
  rw[if_pos hz0]
 ·right
  have hz:(textOf (rowsF k (zIk 10 s).dropLast)).length≤2000:=by omega
  have hsp:=split_text h10
  generalize hX:(zIk 10 s).dropLast=X at *
  rw[← List.take_append_drop k X] at hr
  obtain⟨ra,ha,hb⟩:=runLines_cut _ _ _ _ hr
  obtain⟨la,ma,na⟩:=runLines_lp _ (r:=Rd.zero) rfl ⟨by decide,fun t ht=>by simp[Rd.zero] at ht,fun t ht=>by simp[Rd.zero] at ht⟩ ha
  have hne:ra.threads≠[]:=na (by
   intro e
   have:=congrArg List.length e
   rw[List.length_take,List.length_nil] at this
   omega)
  have hrun:∀ {b:Bool} {q:Rd},zJq Rd.zero (rowsF k X)=(q,b)→b=false→(kernel (textOf (rowsF k X))).2.1=2:=fun {b q} e hbf=>by
   subst hbf
   obtain⟨g1,g2,g3⟩:=good_run (rowsF k X) 0 Rd.zero good_zero
   have z:Rd.zero.line=0:=rfl
   have hlt:=g3 (by rw[e])
   have hl:(lines (textOf (rowsF k X))).2≠0:=by
    unfold lines
    simp only[]
    rw[hsp,List.dropLast_concat,e]
    simp only[Bool.false_eq_true,if_false]
    rw[e] at hlt
    simp only at hlt
    omega
   unfold kernel
   rw[if_neg (by omega),if_pos (by simpa using hl)]
  have hstart:zJq Rd.zero (rowsF k X)=zJq ra (fenceRow::X.drop k):=runLines_app _ _ _ _ ha
  have hcons:zJq ra (fenceRow::X.drop k)=if (takes { ra with line:=ra.line+1 } (zIk 32 fenceRow)).2 then zJq (takes { ra with line:=ra.line+1 } (zIk 32 fenceRow)).1 (X.drop k) else ((takes { ra with line:=ra.line+1 } (zIk 32 fenceRow)).1,false):=rfl
  rcases takes_fence (r:={ ra with line:=ra.line+1 }) ma hne with e | ⟨rb,e,hF⟩
  ·left
   refine hrun (b:=false) (q:=(takes { ra with line:=ra.line+1 } (zIk 32 fenceRow)).1) ?_ rfl
   rw[hstart,hcons,if_neg (by rw[e];simp)]
  ·have hgo:zJq Rd.zero (rowsF k X)=zJq rb (X.drop k):=by
    rw[hstart,hcons,e];simp
   rcases runLines_F (X.drop k) ma hb (r':=rb) ⟨hF.th,hF.ifs,hF.opn,hF.most⟩ with e2 | ⟨rc,e2,hF2⟩
   ·left
    refine hrun (b:=false) (q:=(zJq rb (X.drop k)).1) ?_ rfl
    rw[hgo,← e2]
   ·right
    obtain⟨lc,_,_⟩:=runLines_lp _ ma la hb
    obtain⟨c1,c2⟩:=checks_F hF2.th lc.thr lc.st h1 h2
    have hth:rc.threads≠[]:=fun c=>ht (List.eq_nil_of_length_eq_zero (by rw[← fenTs_len hF2.th,c];rfl))
    have hl:lines (textOf (rowsF k X))=(rc.threads,0):=by
     unfold lines
     simp only[]
     rw[hsp,List.dropLast_concat,hgo,e2]
     simp[hF2.opn,ho,hth]
    unfold kernel
    rw[if_neg (by omega),hl]
    simp only[bne_self_eq_false,Bool.false_eq_true,if_false,c1,c2]
    cases hov:over rc.threads
    ·right
     refine⟨rc.threads,by simp,?_⟩
     have e3:(kernel s).1=r1.threads:=by rw[hker]
     unfold kernel at e3
     rw[e3]
     exact hF2.th
    ·left;simp
end P
namespace Q
section
variable {pi:Int→Int} {m:Mach} {s t:P.Stm}
end
end Q
namespace P
theorem ordering_var (st st':Stm) (r:List (List UInt8)) (v:Int) (h:zIW st r=(st',true)):zIW { st with var:=v } r=({ st' with var:=v },true)∧st'.var=st.var∧st'.kind=st.kind:=by
 rcases ordering_word h with ⟨o,rfl,ho,rfl⟩ | ⟨o,s,rfl,h1,h2,h3,rfl,h5⟩
 ·refine⟨?_,rfl,rfl⟩
  simp only[zIW] at h ⊢
  split at h
  ·rename_i hc
   rw[if_pos hc]
   split at h
   ·rename_i h0;rw[if_pos h0];simp
   ·simp at h
  ·simp at h
 ·refine⟨?_,rfl,rfl⟩
  rw[ordering_two { st with var:=v } o s h1 h5 (beq_eq_false_iff_ne.2 h3),h2]
theorem free1 (c:UInt8) (h:isSep c=false):free [c]:=fun x hx=>by rw[List.mem_singleton] at hx;rw[hx];exact h
theorem var_rng {p:List UInt8} (h:(varOf p).2=true):0≤(varOf p).1∧(varOf p).1<3:=by
 rcases varOf_word h with rfl | rfl | rfl<;>decide
theorem statement_v {ws:List (List UInt8)} {st:Stm} (h:zIn ws=(st,true)):Q.StV st:=by
 intro hk
 rcases statement_form h with ⟨p,v,r,rfl,hv,ho,hr⟩ | ⟨d,v,r,rfl,hd,hv,hr⟩ | ⟨d,c,k,p,v,r,rfl,hd,hc,hv,ho,hr⟩ | ⟨r,rfl,hr⟩ | hp
 ·rw[(ordering_var _ _ _ 0 hr).2.1];exact var_rng hv
 ·rw[(ordering_var _ _ _ 0 hr).2.1];exact var_rng hv
 ·rw[(ordering_var _ _ _ 0 hr).2.1];exact var_rng hv
 ·have:=(ordering_var _ _ _ 0 hr).2.2
  rw[this] at hk
  exact absurd hk (by show ¬ ((4:Int)=0∨_);decide)
 ·have:=hp.kind.1
  unfold isAcc at this
  simp at this
  omega
theorem kernel_v {s:List UInt8} (h:(kernel s).2.1=0):Q.KerV (kernel s).1:=by
 obtain⟨r1,_,hr,_,_,_,hk,_⟩:=kernel_rows h
 rw[hk]
 exact run_all (G:=Q.StV) (fun st l lb hst=>hst) (fun ws st hst=>statement_v hst) _ _ _ hr (fun t ht=>by simp[Rd.zero] at ht)
end P
namespace P
theorem textOf_app:∀ x y:List (List UInt8),textOf (x++y)=textOf x++textOf y
 | [],_=>rfl
 | a::x,y=>by rw[List.cons_append,textOf,textOf,textOf_app x y];simp
theorem rowsF_len (k:Nat) (xs:List (List UInt8)):(textOf (rowsF k xs)).length=(textOf xs).length+16:=by
 unfold rowsF
 conv=>rhs;rw[← List.take_append_drop k xs,textOf_app]
 simp only[textOf_app,textOf,List.length_append,List.length_cons,List.length_nil]
 omega
def accF (k:Nat) (xs:List (List UInt8)) (j:Nat):List UInt8:=if k<j then textOf (xs.take k)++(fenceRow++10::textOf ((xs.take j).drop k)) else textOf (xs.take j)
theorem accF_all {k:Nat} {xs:List (List UInt8)} (h:k<xs.length):accF k xs xs.length=textOf (rowsF k xs):=by
 unfold accF rowsF
 rw[if_pos h,List.take_length,textOf_app,textOf]
theorem accF_end (xs:List (List UInt8)):accF xs.length xs xs.length++(fenceRow++[10])=textOf (rowsF xs.length xs):=by
 unfold accF rowsF
 rw[if_neg (by omega),textOf_app,textOf,List.take_length,List.drop_length]
 rfl
theorem text_one (x:List UInt8):textOf [x]=x++[10]:=rfl
theorem accF_same {k j:Nat} {xs:List (List UInt8)} (h:j<xs.length) (hk:j≠k):accF k xs (j+1)=accF k xs j++(xs[j]++[10]):=by
 unfold accF
 by_cases c:k<j
 ·rw[if_pos (by omega),if_pos c,List.take_succ_eq_append_getElem h,List.drop_append_of_le_length (by rw[List.length_take];omega),textOf_app,text_one]
  simp
 ·rw[if_neg (by omega),if_neg c,List.take_succ_eq_append_getElem h,textOf_app,text_one]
theorem accF_here {k:Nat} {xs:List (List UInt8)} (h:k<xs.length):accF k xs (k+1)=accF k xs k++(fenceRow++[10])++(xs[k]++[10]):=by
 unfold accF
 rw[if_pos (by omega),if_neg (by omega),List.take_succ_eq_append_getElem h,List.drop_append_of_le_length (by rw[List.length_take];omega),List.drop_eq_nil_of_le (by rw[List.length_take];omega)]
 simp[textOf]
theorem fenced_law {s:List UInt8} (h:(kernel s).2.1=0) {k:Nat} (hk:0<k) (hk2:k≤(zIk 10 s).dropLast.length):(textOf (rowsF k (zIk 10 s).dropLast)).length≤2016∧((kernel (textOf (rowsF k (zIk 10 s).dropLast))).2.1=1∨(kernel (textOf (rowsF k (zIk 10 s).dropLast))).2.1=2∨(kernel (textOf (rowsF k (zIk 10 s).dropLast))).2.1=4 ∨
  ((kernel (textOf (rowsF k (zIk 10 s).dropLast))).2.1=0∧((Q.zIx (kernel (textOf (rowsF k (zIk 10 s).dropLast))).1).rows.all fun x=>(Q.zIx (kernel s).1).rows.contains x)=true∧((Q.zIx (kernel s).1).clash=false→(Q.zIx (kernel (textOf (rowsF k (zIk 10 s).dropLast))).1).clash=false))):=by
 obtain⟨r1,hz,_,hlast,_⟩:=kernel_rows h
 refine⟨by rw[rowsF_len,← text_split hlast];omega,?_⟩
 rcases fenced_rows h hk hk2 with e | e | e | ⟨ts',e,hF⟩
 ·exact Or.inl e
 ·exact Or.inr (Or.inl e)
 ·exact Or.inr (Or.inr (Or.inl e))
 ·refine Or.inr (Or.inr (Or.inr ?_))
  have h0:(kernel (textOf (rowsF k (zIk 10 s).dropLast))).2.1=0:=by rw[e]
  have k1:=zIG h
  have hv:=kernel_v h
  have hv':=kernel_v h0
  have k2:=Q.ker_events (zIG h0)
  rw[e] at hv' k2 ⊢
  obtain⟨a1,a2⟩:=Q.source_fen hF hv hv' k1.len (fun d hd=>by have:=(Q.ker_wi k1 (Q.digitRows_ok hd)).len;omega) k2
  refine⟨rfl,?_,fun hc=>?_⟩
  ·rw[List.all_eq_true]
   intro x hx
   rw[List.contains_iff_mem]
   exact a1 x hx
  ·cases hq:(Q.zIx ts').clash
   ·rfl
   ·have:=a2 hq
    rw[hc] at this;cases this
end P
end Go.Proofs.YtkmebkbpfmoeaaaGreat
