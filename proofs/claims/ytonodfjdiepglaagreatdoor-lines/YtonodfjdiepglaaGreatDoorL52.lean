import Derived.Test.YtonodfjdiepglaaGreatDoorRows
import Derived.Test.YtonodfjdiepglaaGreatDoorCards
import Derived.Test.YtonodfjdiepglaaGreatDoorTie
import Derived.ProofKit
import Derived.ChangeBears2
import Derived.LaidMore
import Derived.OpenShut
import Derived.Stop.Joined
import Derived.SevenTiedAt
import Derived.Stop.LaidErr
import Derived.MakeChecks
import Derived.Test.YtonodfjdiepglaaGreatDoorL51
import Derived.Test.YtonodfjdiepglaaGreatDoorL47
set_option linter.unusedVariables false
set_option linter.unusedSimpArgs false
set_option maxHeartbeats 12800000
namespace Go.Proofs.YtonodfjdiepglaaGreatDoor
namespace P
structure StG (s:Stm):Prop where
 ok:Q.kCY s
 v0:0≤s.var
 v3:s.var<3
theorem stg_zero:StG Stm.zero:=⟨⟨kCI,kCI⟩,by decide,by decide⟩
theorem readReg_rng (w:List UInt8):0≤(zME w).1∧(zME w).1<4:=by
 unfold zME
 repeat' split
 all_goals exact⟨by decide,by decide⟩
theorem readVar_rng (w:List UInt8):0≤(zNe w).1∧(zNe w).1<3:=by
 unfold zNe
 repeat' split
 all_goals exact⟨by decide,by decide⟩
theorem readOpd_rng (w:List UInt8):Q.kKK (zMA w).1:=by
 unfold zMA
 repeat' split
 ·exact⟨by decide,by decide⟩
 ·exact⟨by decide,by decide⟩
 ·exact⟨by decide,by decide⟩
 ·exact⟨by decide,by decide⟩
 ·exact readReg_rng w
theorem partR_g {s:Stm} (h:StG s) (c:UInt8) (w:List UInt8):StG (kAR s c w).1:=by
 unfold kAR
 split
 ·exact⟨h.ok,h.v0,h.v3⟩
 split
 ·exact⟨h.ok,(readVar_rng w).1,(readVar_rng w).2⟩
 split
 ·exact⟨⟨readOpd_rng w,h.ok.2⟩,h.v0,h.v3⟩
 split
 ·exact⟨⟨h.ok.1,readOpd_rng w⟩,h.v0,h.v3⟩
 ·exact h
theorem partsR_g:∀ (cs:List UInt8) (ws:List (List UInt8)) {s:Stm},StG s→StG (zOe s cs ws).1
 | [],_,_,h=>h
 | _::_,[],_,h=>h
 | c::cs,w::ws,s,h=>by
  rw[zOe]
  split
  ·exact partsR_g cs ws (partR_g h c w)
  ·exact stg_zero
theorem stmGo_g (first:List UInt8) (ops:List (List UInt8)) (next:Int):∀ (f:Nat) (k:Int),StG (kAV first ops next f k).1
 | 0,_=>stg_zero
 | f+1,k=>by
  have h0:StG (if k==10 then { Stm.zero with kind:=k,label:=next } else { Stm.zero with kind:=k }):=by
   split<;>exact⟨⟨kCI,kCI⟩,by show (0:Int)≤0;omega,by show (0:Int)<3;omega⟩
  rw[kAV]
  simp only
  generalize (if k==10 then { Stm.zero with kind:=k,label:=next } else { Stm.zero with kind:=k })=s0 at h0 ⊢
  by_cases c1:(kAk k).1.isPrefixOf first=true
  ·rw[if_pos c1]
   by_cases c2:(zMB s0 (first.drop (kAk k).1.length)).2=true
   ·rw[if_pos c2]
    unfold zMD
    by_cases c3:((kAk k).2.length != ops.length)=true
    ·rw[if_pos c3];exact stg_zero
    ·rw[if_neg c3]
     refine partsR_g _ _ ?_
     unfold zMB
     split
     ·split
      ·exact⟨h0.ok,h0.v0,h0.v3⟩
      ·exact h0
     ·exact h0
   ·rw[if_neg c2];exact stmGo_g first ops next f (k+1)
  ·rw[if_neg c1];exact stmGo_g first ops next f (k+1)
theorem stmA_g (l:List UInt8) (next:Int):StG (kAv l next).1:=stmGo_g _ _ _ _ _
theorem putD_is {r r':Rd} {st:Stm} (h:kAT r st=(r',true)):r.Ec≠[]∧∃ lb,r'.Ec=zMI r.Ec { st with label:=lb }∧r'.most=r.most∧((st.kind=11∧r'.count=r.count∧r'.ifs=r.ifs∧r.opn≠[]∧r'.opn=r.opn.dropLast)∨(st.kind≠11∧r.count<r.most∧r'.count=r.count+1∧((st.kind=10∧r'.ifs=r.ifs+1∧r'.opn=r.opn++[r.ifs+1])∨(st.kind≠10∧r'.ifs=r.ifs∧r'.opn=r.opn)))):=by
 unfold kAT at h
 split at h
 ·simp at h
 rename_i hne
 refine⟨by simpa using hne,?_⟩
 split at h
 ·rename_i h11
  unfold ends at h
  split at h
  ·simp at h
  ·rename_i x hx
   simp only[Prod.mk.injEq,and_true] at h
   subst h
   exact⟨x,rfl,rfl,Or.inl ⟨by simpa using h11,rfl,rfl,by intro e;rw[e] at hx;simp at hx,rfl⟩⟩
 rename_i h11
 have n11:st.kind≠11:=by simpa using h11
 split at h
 ·simp at h
 rename_i hm
 split at h
 ·rename_i h10
  split at h
  ·simp at h
  rename_i ho
  unfold branch at h
  rw[if_neg ho] at h
  simp only[Prod.mk.injEq,and_true] at h
  subst h
  exact⟨r.ifs+1,rfl,rfl,Or.inr ⟨n11,by omega,rfl,Or.inl ⟨by simpa using h10,rfl,rfl⟩⟩⟩
 ·rename_i h10
  simp only[Prod.mk.injEq,and_true] at h
  subst h
  exact⟨st.label,rfl,rfl,Or.inr ⟨n11,by omega,rfl,Or.inr ⟨by simpa using h10,rfl,rfl⟩⟩⟩
structure AI (r:Rd):Prop where
 st:∀ t∈r.Ec,∀ s∈t.Eb,StG s
 le:∀ t∈r.Ec,cnt nE t.Eb≤40
 last:∀ a t,r.Ec=a++[t]→cnt nE t.Eb≤r.count∧cnt iE t.Eb+r.opn.length=cnt iB t.Eb
 most:r.most=40
 pre:∀ t∈r.Ec,∀ a b,t.Eb=a++b→cnt iE a≤cnt iB a
 bar:∀ t∈r.Ec,∀ a s b,t.Eb=a++s::b→s.kind=5→cnt iB a=cnt iE a
 opn:∀ x∈r.opn,1≤x
 ifs:0≤r.ifs
 ln:∀ t∈r.Ec,0<t.line
 lin:0≤r.line
theorem ai_zero:AI Rd.zeroA:=⟨by simp[Rd.zeroA],by simp[Rd.zeroA],by simp[Rd.zeroA],rfl,by simp[Rd.zeroA],by simp[Rd.zeroA],by simp[Rd.zeroA],by simp[Rd.zeroA],by simp[Rd.zeroA],by simp[Rd.zeroA]⟩
theorem AI.line {r:Rd} (h:AI r) {m:Int} (hm:0≤m):AI { r with line:=m }:=⟨h.st,h.le,h.last,h.most,h.pre,h.bar,h.opn,h.ifs,h.ln,hm⟩
theorem AI.begin {r r':Rd} (h:AI r) {b l:Int} (hl:0<l) (e:zNr r b l=(r',true)):AI r':=by
 unfold zNr at e
 split at e
 ·simp at e
 rename_i hn
 simp only[Prod.mk.injEq,and_true] at e
 have ho:r.opn=[]:=List.eq_nil_of_length_eq_zero (by omega)
 subst e
 have key:∀ (Pr:Thr→Prop),(∀ t∈r.Ec,Pr t)→Pr ⟨b,l,[]⟩→∀ t∈r.Ec++[⟨b,l,[]⟩],Pr t:=fun Pr h1 h2 t ht=>by
  rcases List.mem_append.1 ht with ht | ht
  ·exact h1 t ht
  ·simp at ht;rw[ht];exact h2
 refine⟨key _ h.st (by simp),key _ h.le (by simp[cnt]),fun a t e=>?_,h.most,key _ h.pre (fun a b e=>?_),key _ h.bar (fun a s b e=>by simp at e),h.opn,h.ifs,key _ h.ln hl,h.lin⟩
 ·have:=(List.append_inj' e rfl).2
  simp at this
  rw[← this]
  simp[cnt,ho]
 ·have:=List.append_eq_nil_iff.1 e.symm
  rw[this.1];simp[cnt]
theorem AI.put {r r':Rd} (h:AI r) {st:Stm} (hs:StG st) (hb:st.kind=5→r.opn=[]) (hl:r'.line=r.line) (e:kAT r st=(r',true)):AI r':=by
 obtain⟨hne,lb,ht,hm,hc⟩:=putD_is e
 obtain⟨a,t,h1,h2⟩:=kIE hne { st with label:=lb }
 rw[h2] at ht
 have ht0:t∈r.Ec:=by rw[h1];simp
 obtain⟨l1,l2⟩:=h.last a t h1
 have hle:=h.le t ht0
 have hs':StG { st with label:=lb }:=⟨hs.ok,hs.v0,hs.v3⟩
 have key:∀ (Pr:Thr→Prop),(∀ t∈r.Ec,Pr t)→Pr { t with Eb:=t.Eb++[{ st with label:=lb }] }→∀ t∈r'.Ec,Pr t:=fun Pr h3 h4 u hu=>by
  rw[ht] at hu
  rcases List.mem_append.1 hu with hu | hu
  ·exact h3 u (by rw[h1];simp[hu])
  ·simp at hu;rw[hu];exact h4
 have hcnt:cnt nE (t.Eb++[{ st with label:=lb }])≤40∧cnt nE (t.Eb++[{ st with label:=lb }])≤r'.count∧cnt iE (t.Eb++[{ st with label:=lb }])+(r'.opn.length:Int)=cnt iB (t.Eb++[{ st with label:=lb }]):=by
  rw[zNY,zNY,zNY]
  simp only[cnt,nE,iE,iB]
  rw[h.most] at hc
  rcases hc with ⟨c1,c2,_,c3,c4⟩ | ⟨c1,c2,c3,⟨c4,_,c5⟩ | ⟨c4,_,c5⟩⟩
  ·have:r.opn.length=r.opn.dropLast.length+1:=by
    have:=List.length_pos_iff.2 c3
    rw[List.length_dropLast];omega
   rw[c4,c1,c2]
   simp
   omega
  ·rw[c5,c4,c3]
   simp
   omega
  ·rw[c5,c3]
   simp[c1,c4]
   omega
 have hpre:∀ x y,t.Eb++[{ st with label:=lb }]=x++y→cnt iE x≤cnt iB x:=fun x y e=>by
  rcases List.eq_nil_or_concat y with hy | ⟨y',s',hy⟩
  ·rw[hy,List.append_nil] at e
   rw[← e]
   omega
  ·rw[hy,List.concat_eq_append,← List.append_assoc] at e
   have:=(List.append_inj' e rfl).1
   exact h.pre t ht0 x y' this
 refine⟨key (fun t=>∀ s∈t.Eb,StG s) h.st (fun s hs2=>?_),key (fun t=>cnt nE t.Eb≤40) h.le hcnt.1,fun b u e2=>?_,hm.trans h.most,key (fun t=>∀ a b,t.Eb=a++b→cnt iE a≤cnt iB a) h.pre hpre,key (fun t=>∀ a s b,t.Eb=a++s::b→s.kind=5→cnt iB a=cnt iE a) h.bar (fun x s y e2 k5=>?_),fun x hx=>?_,?_,key (fun t=>0<t.line) h.ln (h.ln t ht0),by rw[hl];exact h.lin⟩
 ·rcases List.mem_append.1 hs2 with hs2 | hs2
  ·exact h.st t ht0 s hs2
  ·simp at hs2;rw[hs2];exact hs'
 ·rw[ht] at e2
  have:=(List.append_inj' e2 rfl).2
  simp at this
  rw[← this]
  exact hcnt.2
 ·rcases List.eq_nil_or_concat y with hy | ⟨y',s',hy⟩
  ·rw[hy] at e2
   obtain⟨q1,q2⟩:=List.append_inj' e2 rfl
   simp at q2
   rw[← q1]
   have:st.kind=5:=by rw[← q2] at k5;exact k5
   have ho:=hb this
   rw[ho] at l2
   simp at l2
   omega
  ·rw[hy,List.concat_eq_append,← List.cons_append,← List.append_assoc] at e2
   exact h.bar t ht0 x s y' (List.append_inj' e2 rfl).1 k5
 ·rcases hc with ⟨_,_,_,_,c4⟩ | ⟨_,_,_,⟨_,_,c5⟩ | ⟨_,_,c5⟩⟩
  ·rw[c4] at hx;exact h.opn x (List.dropLast_subset _ hx)
  ·rw[c5] at hx
   rcases List.mem_append.1 hx with hx | hx
   ·exact h.opn x hx
   ·simp at hx;have:=h.ifs;omega
  ·rw[c5] at hx;exact h.opn x hx
 ·have:=h.ifs
  rcases hc with ⟨_,_,c,_⟩ | ⟨_,_,_,⟨_,c,_⟩ | ⟨_,c,_⟩⟩<;>rw[c]<;>omega
theorem AI.open_zero {r:Rd} (h:AI r) (e:openL r=0):r.opn=[]:=by
 unfold openL at e
 cases hl:r.opn.getLast? with
 | none=>exact List.getLast?_eq_none_iff.1 hl
 | some x =>
  rw[hl] at e
  have:=h.opn x (List.mem_of_getLast? hl)
  simp at e
  omega
theorem AI.take {r r':Rd} (h:AI r) (hl:0<r.line) {l:List UInt8} (e:kAt r l=(r',true)):AI r':=by
 have hk:=(zOC r l).1
 rw[e] at hk
 unfold kAt at e
 split at e
 ·exact h.begin hl e
 split at e
 ·exact h.begin hl e
 split at e
 ·exact h.put (st:={ Stm.zero with kind:=11,line:=r.line }) ⟨⟨kCI,kCI⟩,by show (0:Int)≤0;omega,by show (0:Int)<3;omega⟩ (fun k=>by simp at k) hk e
 split at e
 ·simp at e
 rename_i hn
 have hg:=stmA_g l (r.ifs+1)
 refine h.put (st:={ (kAv l (r.ifs+1)).1 with line:=r.line }) ⟨hg.ok,hg.v0,hg.v3⟩ (fun k=>?_) hk e
 refine h.open_zero ?_
 have k2:(kAv l (r.ifs+1)).1.kind=5:=k
 rw[k2] at hn
 simp at hn
 exact hn.2
theorem ai_run:∀ (xs:List (List UInt8)) {r r':Rd},kAS r xs=(r',true)→AI r→AI r'
 | [],r,r',h,hr=>by simp[kAS] at h;rw[← h];exact hr
 | x::xs,r,r',h,hr=>by
  simp only[kAS] at h
  split at h
  ·rename_i ht
   have e:kAt { r with line:=r.line+1 } x=((kAt { r with line:=r.line+1 } x).1,true):=by rw[← ht]
   have hl:=hr.lin
   exact ai_run xs h ((hr.line (m:=r.line+1) (by omega)).take (by show 0<r.line+1;omega) e)
  ·simp at h
theorem linesA_run {l:List UInt8} (h:(zMr l).2=0):kAS Rd.zeroA (zMi 10 l).dropLast=((kAS Rd.zeroA (zMi 10 l).dropLast).1,true)∧(zMr l).1=(kAS Rd.zeroA (zMi 10 l).dropLast).1.Ec∧(kAS Rd.zeroA (zMi 10 l).dropLast).1.opn=[]:=by
 obtain⟨_,g2,g3⟩:=kGt (zMi 10 l).dropLast 0 Rd.zeroA kDC rfl
 have z:Rd.zeroA.line=0:=rfl
 unfold zMr at h ⊢
 simp only at h ⊢
 cases hq:(kAS Rd.zeroA (zMi 10 l).dropLast).2
 ·have:=g3 hq
  rw[hq] at h
  simp at h
  omega
 ·rw[hq] at h
  simp only[if_true] at h ⊢
  split at h
  ·simp at h;omega
  ·rename_i hno
   rw[if_neg hno]
   refine⟨by rw[← hq],rfl,?_⟩
   by_cases c:(kAS Rd.zeroA (zMi 10 l).dropLast).1.opn=[]
   ·exact c
   ·exact absurd (Or.inr (Or.inl c)) hno
structure AsmIs (ts:List Thr):Prop where
 ne:ts≠[]
 few:ts.length≤4
 len:∀ t∈ts,t.Eb.length≤80
 wf:∀ t∈ts,Q.WF t
 even:∀ t∈ts,bars t.Eb=zNl t.block ts
 rd:tot isR ts≤4
 wr:tot isW ts≤3
 sc:tot isF ts≤3
 ev:evT ts≤50
theorem asm_is {l:List UInt8} (h:(kAz l).2.1=0):AsmIs (kAz l).1∧(kAz l).2.2=0∧l.length≤2000:=by
 unfold kAz at h ⊢
 by_cases h1:2000<l.length
 ·rw[if_pos h1] at h;simp at h
 rw[if_neg h1] at h ⊢
 by_cases h2:((zMr l).2 != 0)=true
 ·rw[if_pos h2] at h;simp at h
 rw[if_neg h2] at h ⊢
 by_cases h3:(zMs (zMr l).1 (zMr l).1 != 0)=true
 ·rw[if_pos h3] at h;simp at h
 rw[if_neg h3] at h ⊢
 by_cases h4:(over (zMr l).1||decide (50<evT (zMr l).1))=true
 ·rw[if_pos h4] at h;simp at h
 rw[if_neg h4]
 have e2:(zMr l).2=0:=by simpa using h2
 obtain⟨q1,q2,q3⟩:=linesA_run e2
 obtain⟨o1,o2,_⟩:=kGg l e2
 have ai:=ai_run _ q1 ai_zero
 have hb:=kCA (zMr l).1 (zMr l).1 (by rw[q2];exact ai.ln) (by simpa using h3)
 simp only[over,Bool.or_eq_true,decide_eq_true_eq,not_or] at h4
 refine⟨⟨o1,o2,fun t ht=>?_,fun t ht=>?_,fun t ht=>(hb t ht).1,by show tot isR (zMr l).1≤4;omega,by show tot isW (zMr l).1≤3;omega,by show tot isF (zMr l).1≤3;omega,by show evT (zMr l).1≤50;omega⟩,rfl,by omega⟩
 ·rw[q2] at ht
  have e1:=ai.pre t ht t.Eb [] (by simp)
  have e2:=ai.le t ht
  have e3:=kGC t.Eb
  have e4:cnt iB t.Eb≤cnt nE t.Eb:=kHA (fun s hs=>by simp only[iB,nE] at *;rw[beq_iff_eq] at hs;rw[hs];decide) _
  omega
 ·rw[q2] at ht
  exact⟨ai.pre t ht,ai.bar t ht,fun s hs _=>⟨(ai.st t ht s hs).v0,(ai.st t ht s hs).v3⟩,fun s hs=>(ai.st t ht s hs).ok⟩
end P
end Go.Proofs.YtonodfjdiepglaaGreatDoor
namespace Go.Proofs.YtonodfjdiepglaaGreatDoor
set_option maxRecDepth 100000
namespace Q
theorem addsC_lenA (p:ED × Nat) (s:P.Stm):((kCU p s).length:Int)≤(if P.isR s then 1 else 0)+(if P.isW s then 1 else 0)+(if s.kind==4 then 1 else if s.kind==5 then 2 else 0):=by
 have key:∀ m:ED,((kDK m s).length:Int)≤(if P.isR s then 1 else 0)+(if P.isW s then 1 else 0)+(if s.kind==4 then 1 else if s.kind==5 then 2 else 0):=fun m=>by
  unfold kDK P.isR P.isW P.reads P.zMK
  rcases kCf s.kind with e | e | e | e | e | e | ⟨e0,e1,e2,e3,e4,e5⟩
  ·simp[e]
  ·simp[e]
  ·simp[e]
  ·simp[e]
  ·simp[e]
  ·simp[e]
  ·rw[e0,e1,e2,e3,e4,e5];simp
 have h0:(0:Int)≤(if P.isR s then 1 else 0)+(if P.isW s then 1 else 0)+(if s.kind==4 then 1 else if s.kind==5 then 2 else 0):=by
  repeat' split
  all_goals omega
 unfold kCU
 split
 ·split
  ·simpa using h0
  ·exact key _
 ·simpa using h0
theorem fold_lenA:∀ (ss:List P.Stm) (p:ED × Nat),((ss.foldl carry p).1.Ea.length:Int)≤p.1.Ea.length+(P.cnt P.isR ss+P.cnt P.isW ss+P.evS ss)
 | [],p=>by simp[P.cnt,P.evS]
 | s::ss,p=>by
  rw[List.foldl_cons]
  have h1:=fold_lenA ss (carry p s)
  have h2:=addsC_lenA p s
  rw[kCb,List.length_append] at h1
  simp only[P.cnt,P.evS]
  push_cast at h1
  omega
theorem run_lenA {t:P.Thr} {i:Nat} {r:Run} (h:r∈zOD t i):(r.Ea.length:Int)≤P.cnt P.isR t.Eb+P.cnt P.isW t.Eb+P.evS t.Eb:=by
 unfold zOD zNs at h
 obtain⟨c,_,rfl⟩:=List.mem_map.1 h
 have h2:=fold_lenA t.Eb (ED.start i t.block c,0)
 simp only[ED.start,List.length_nil] at h2
 simp only[kBs,zOl,ED.run,ED.start]
 push_cast at h2
 omega
theorem WI.joinA {w:Wd} {E S R e:Int} (h:WI w E S R) {r:Run} {t:P.Thr} (hr:RunOk r t) (hl:(r.Ea.length:Int)≤e):WI (w.join r) (E+e) (S+P.cnt P.isF t.Eb) (R+4):=by
 have h1:=h.len
 have h2:=h.sc
 have h3:=h.regs
 have r2:=hr.sc
 have r3:=hr.regs
 refine⟨by have:=h.pos;simp[Wd.join];omega,by simp[Wd.join];omega,?_,by simp[Wd.join,r3,h3],fun x hx=>?_,fun e he=>?_⟩
 ·simp only[Wd.join]
  rw[List.filter_append,List.length_append,kLu]
  push_cast;omega
 ·simp only[Wd.join] at hx
  rcases List.mem_append.1 hx with hx | hx
  ·exact h.vals x hx
  ·exact hr.vals x hx
 ·simp only[Wd.join] at he
  rcases List.mem_append.1 he with he | he
  ·exact h.evs e he
  ·obtain⟨e0,h0,rfl⟩:=List.mem_map.1 he
   exact⟨(hr.evs e0 h0).1,(hr.evs e0 h0).2.1,kKw _ _⟩
theorem joinAll_wiA:∀ (ts:List P.Thr) (i:Nat) (w:Wd) (ds:List Int) (E S R:Int),(∀ t∈ts,(∀ s∈t.Eb,kCY s)∧kBm t.Eb<1000000000)→kAy (zBh (kAi i ts)) ds→WI w E S R→WI (zPf w (kAi i ts) ds) (E+(P.tot P.isR ts+P.tot P.isW ts+P.evT ts)) (S+P.tot P.isF ts) (R+4*ts.length)
 | [],i,w,ds,E,S,R,ht,hd,h=>by
  cases ds with
  | nil=>simpa [kAi,zPf,P.tot,P.evT] using h
  | cons d ds=>simp[kAi,zBh,kAy] at hd
 | t::ts,i,w,ds,E,S,R,ht,hd,h=>by
  cases ds with
  | nil=>simp[kAi,zBh,kAy] at hd
  | cons d ds =>
   simp only[kAi,zBh,List.map_cons,kAy] at hd
   have hlt:d.toNat<(zOD t i).length:=by omega
   simp only[kAi,zPf]
   rw[dif_pos hlt]
   have hk:=ht t (by simp)
   have h1:=h.joinA (kKE hk.1 hk.2 (List.getElem_mem hlt)) (run_lenA (List.getElem_mem hlt))
   have h2:=joinAll_wiA ts (i+1) _ ds _ _ _ (fun u hu=>ht u (List.mem_cons_of_mem _ hu)) hd.2.2 h1
   simp only[P.tot,P.evT,List.length_cons]
   rw[show E+(P.cnt P.isR t.Eb+P.tot P.isR ts+(P.cnt P.isW t.Eb+P.tot P.isW ts)+(P.evS t.Eb+P.evT ts))=E+(P.cnt P.isR t.Eb+P.cnt P.isW t.Eb+P.evS t.Eb)+(P.tot P.isR ts+P.tot P.isW ts+P.evT ts) by omega,show S+(P.cnt P.isF t.Eb+P.tot P.isF ts)=S+P.cnt P.isF t.Eb+P.tot P.isF ts by omega,show R+4*((ts.length+1:Nat):Int)=R+4+4*ts.length by push_cast;omega]
   exact h2
theorem asm_codes {ts:List P.Thr} (h:P.AsmIs ts):∀ t∈ts,kBm t.Eb≤256:=fun t ht=>by
 rw[kHl]
 have h1:=kKk (p:=P.isR) ht
 have h2:=h.rd
 exact Nat.le_trans (Nat.pow_le_pow_right (by omega) (by omega:(P.cnt P.isR t.Eb).toNat≤4)) (by decide)
theorem asm_wd {ts:List P.Thr} (h:P.AsmIs ts) {d:List Int} (hd:kAy (zBh (runs ts)) d):WdOk (zMj (runs ts) d):=by
 have h1:WI (zMj (runs ts) d) _ _ _:=joinAll_wiA ts 0 _ d _ _ _ (fun t ht=>⟨(h.wf t ht).ok,Nat.lt_of_le_of_lt (asm_codes h t ht) (by decide)⟩) hd kKx
 have h2:=h.rd
 have h3:=h.wr
 have h4:=h.ev
 have h5:=h.sc
 have h6:=h.few
 have l1:=h1.len
 have l2:=h1.sc
 have l3:=h1.regs
 exact⟨h1.pos,by omega,fun e he=>(h1.evs e he).2.2,by omega,h1.vals,fun e he=>⟨(h1.evs e he).1,(h1.evs e he).2.1⟩,Nat.lt_of_le_of_lt (kMn (by omega)) (by decide)⟩
theorem asm_ker {ts:List P.Thr} (h:P.AsmIs ts):KerOk ts:=by
 have h4:=h.few
 refine⟨by omega,fun t hm=>⟨(h.wf t hm).ok,?_,Nat.lt_of_le_of_lt (asm_codes h t hm) (by decide)⟩,fun rs hrs=>?_,fun rs hrs r hr=>?_,fun d hd=>asm_wd h hd⟩
 ·exact Nat.lt_of_le_of_lt (h.len t hm) (by decide)
 ·obtain⟨t,hm,k,rfl⟩:=kCR hrs
  exact Nat.lt_of_le_of_lt (Nat.le_trans (kFw t k) (asm_codes h t hm)) (by decide)
 ·obtain⟨t,hm,k,rfl⟩:=kCR hrs
  have:=kKE (h.wf t hm).ok (Nat.lt_of_le_of_lt (asm_codes h t hm) (by decide)) hr
  exact⟨this.regs,fun e he=>(this.evs e he).2.2⟩
theorem target_few {ts:List P.Thr} (h:P.AsmIs ts):(kAp ts).rows.length<100000000:=by
 have h1:(kAp ts).rows.length≤(kEM ts).length:=by
  refine kGs _ _ (kHi (kFS ts)) (fun r hr=>?_)
  obtain⟨c,hc,ds,hds,fs,hfs,_,rfl⟩:=(kEz ts r).1 hr
  obtain⟨d,hd,rs,hrs,rfl,_⟩:=kGA.1 hc
  have hw:=asm_wd h (kBj hd)
  unfold kEM
  refine List.mem_flatMap.2 ⟨d,hd,?_⟩
  have hv:=fun v=>kGo (zMj (runs ts) d).Ea v (kAl (zMj (runs ts) d) ds) hw.evals
  exact List.mem_flatMap.2 ⟨_,kFz (hv 0),List.mem_flatMap.2 ⟨_,kFz (hv 1),List.mem_map.2 ⟨_,kFz (hv 2),rfl⟩⟩⟩
 have h2:=kFC ts 0
 have h3:4 ^ (P.tot P.isR ts).toNat≤4 ^ 4:=Nat.pow_le_pow_right (by omega) (by have:=h.rd;omega)
 have h4:(zMH (zBh (runs ts))).length≤256:=Nat.le_trans h2 h3
 rw[kHE] at h1
 omega
theorem asm_some {ts:List P.Thr} (h:P.AsmIs ts):(kAp ts).rows≠[]:=by
 refine (kKA (fun k hk=>h.wf _ (kIo ts k kAD hk)) (fun k k' hk hk' e=>?_) (fun t ht=>(h.wf t ht).var) (fun d hd=>(asm_wd h (kBj hd)).le)).2
 rw[h.even _ (kIo ts k kAD hk),h.even _ (kIo ts k' kAD hk'),e]
end Q
end Go.Proofs.YtonodfjdiepglaaGreatDoor
namespace Go.Proofs.YtonodfjdiepglaaGreatDoor
open Go Go.RowKit
set_option maxRecDepth 100000
theorem zKE (s:ByteArray) (w:World) (hT:Tab w):Calls Tryz.prog 3 #[.string s] w fun e w'=>e=.returned (.bool true)∧Below w.heap.size w w':=by
 by_cases hs:8192<s.size
 ·have hs':(8192:Int)<(s.size:Int):=by omega
  go_enter Tryz.func3,Tryz.ntmps3
  go_wp2
  go_ret
  exact⟨rfl,Below.refl _ _⟩
 have hs':¬ (8192:Int)<(s.size:Int):=by omega
 have hs2:s.size≤8192:=by omega
 have HR:=zAa (zKk s.toList).1
 have HA:=zAa (fun w=>zLm s w hs2)
 by_cases h0:(P.kAz s.toList).2.1=0
 ·obtain⟨hi,h1,_⟩:=P.asm_is h0
  have HT:=zAa (zJI s w hT h0 h1 (Q.asm_ker hi) (Q.target_few hi))
  have hne:=List.length_pos_iff.2 (Q.asm_some hi)
  have h2:(R.kCZ s.toList).2=(0,0):=by rw[← HR.out];exact Prod.ext h0 h1
  have HQ:Hid ((R.kCZ s.toList).2=(0,0)):=h2
  generalize (Q.kAp (P.kAz s.toList).1).clash=cl at *
  generalize (Q.kAp (P.kAz s.toList).1).rows=rows at *
  generalize hrl:rows.length=rl at *
  have HL:=zAa hrl
  have hri:(0:Int)<(rl:Int):=by omega
  clear h0 h1 hi h2 hrl hT HR
  go_enter Tryz.func3,Tryz.ntmps3
  go_wp2_with (first
   | (go_at_call 4;refine HT.out.mono ?_;rintro e w1 ⟨ov,vs,rfl,hro,hb1⟩;obtain⟨ra,rc,rfl,_⟩:=hro.form;rw[HL.out];have HB1:=zAa hb1;clear hro hb1;dsimp only)
   | (go_at_call 5;refine (HA.out _).mono ?_;rintro e w2 ⟨tv,rfl,⟨va,vn,vc,rfl⟩,hb2⟩;rw[HQ.out];have HB2:=zAa (HB1.out.trans (hb2.mono HB1.out.size));clear hb2;dsimp only))
  go_ret
  exact⟨rfl,HB2.out⟩
 ·have hb:((P.kAz s.toList).2.1 != 0)=true:=by simpa using h0
  have HT:=zAa (zIi s w hT hb)
  have HZ:Hid (∀ w:World,Calls Tryz.prog 5 #[.string s] w fun e w'=>∃ tv,e=.returned (.tuple #[tv,.int .i64 (P.kAz s.toList).2.1,.int .i64 (P.kAz s.toList).2.2])∧(∃ a q cc,tv=.slice a q cc)∧Below w.heap.size w w'):=fun w=>by have:=HA.out w;unfold zFs at this;rw[← HR.out] at this;exact this
  generalize (P.kAz s.toList).2.1=ec at *
  generalize (P.kAz s.toList).2.2=lc at *
  clear HA HR h0 hT
  have hnil:∀ wx,(binOp .eql 22 (.slice none 0 0) (.slice none 0 0)).run Tryz.prog wx=.ok (.bool true) wx:=fun wx=>run_eql_nil_slice wx _ 68 none 0 0 0 0 (by kernel_rfl)
  go_enter Tryz.func3,Tryz.ntmps3
  go_wp2_with (first
   | (go_at_call 4;refine HT.out.mono ?_;rintro e w1 ⟨rfl,hb1⟩;have HB1:=zAa hb1;clear hb1;dsimp only)
   | (go_at_call 5;refine (HZ.out _).mono ?_;rintro e w2 ⟨tv,rfl,⟨va,vn,vc,rfl⟩,hb2⟩;have HB2:=zAa (HB1.out.trans (hb2.mono HB1.out.size));clear hb2;dsimp only))
  go_ret
  exact⟨rfl,HB2.out⟩
end Go.Proofs.YtonodfjdiepglaaGreatDoor
namespace Go.Proofs.YtonodfjdiepglaaGreatDoor
open Go Go.ChangeShapes Go.WideShapes Go.ChangeAt Go.RowKit Go.WideElems
open Go.ChangeMaps (open_string shut_string)
theorem zJJ {W:World} (h:laidMetH Tryz.prog Rows.linesRow.laid W):Tab W:=by
 rw[MakeChecks.laidMetH_plain _ _ _ (by kernel_rfl)] at h
 have h1:laidMet Tryz.prog [("internal/strconv.uint64pow10",Lib.tabData .u64 Lib.pow10Tab)] W:=laidMet.tail (laidMet.tail h)
 exact Lib.tabIs_of_head (g:=0) (t:=203) (e:=143) (n:=20) (by kernel_rfl) (by kernel_rfl) Tryz.underlying203 Tryz.underlying143 (by kernel_rfl) (by kernel_rfl) h1
theorem zJK:ownKnob Tryz.prog.godebug=none:=by kernel_rfl
theorem zIC (os:Os) (args:Array Value):laidMetH Tryz.prog Rows.linesRow.laid ((World.doorLaid Tryz.prog 400 os).forCall (fun _ _=>0) ⟨#[],args,[]⟩).memory :=
 laidMetH_of_parts3 (fuel:=8) (laidMet_of_run' 8 (by kernel_rfl) (by kernel_rfl)) (by kernel_rfl) (by kernel_rfl)
set_option maxRecDepth 100000 in
theorem zGh (os:Os) (started:os.Started) (H:Type) (enc:TypeId × Value→H) :
  ReturnsInHanded {} Tryz.checked os 3 .any (fun w args=>(Rows.linesSpec.pre enc Tryz.prog Tryz.f3 [] false w args∧laidMetH Tryz.prog Rows.linesRow.laid w)∧sizedMet enc Tryz.prog Tryz.f3 (OpenSpec.ofChange Rows.linesSpec) false w args)
   (Rows.linesSpec.post enc Tryz.prog Tryz.f3 false true false false):=by
 refine returnsInHanded_of_change_and (C:=Tryz.checked) (X:=fun w _=>laidMetH Tryz.prog Rows.linesRow.laid w) (fun _ _ _ hh h=>h.of_heap hh) zJK started (by kernel_rfl) Tryz.func3
  (ChangeSpec.witness_shaped (enc:=enc) (C:=Tryz.checked) (os:=os) (X:=fun w _=>laidMetH Tryz.prog Rows.linesRow.laid w) false (World.doorLaid Tryz.prog 400 os) #[.string ⟨#[]⟩] 8 rfl (World.shaped_of_RefB (by kernel_rfl) (by kernel_rfl)) (by kernel_rfl) (by kernel_rfl) (by kernel_rfl) (zIC os _)) ?_
 intro W base args ds gs before hval0 hW _ _ hL _
 have hval:∀ (j:Nat) t v,Tryz.f3.params[j]?=some t→args[j]?=some v→Value.okWide Tryz.prog W .any base t v:=hval0
 have hW':=hW
 obtain⟨p,q,hA0,hV,rfl,hfz,hnd⟩:=hW
 have hA:DataW.TrodAll enc Tryz.prog W 0 (fun _=>true) true Tryz.f3.params.toList args.toList ds p:=hA0
 rw[Tryz.params3] at hA hval
 obtain⟨v0,d0,rfl,rfl,h0⟩:=trodAll_one hA
 obtain⟨rfl,rfl⟩:=trodVars_none hV
 obtain⟨s,rfl,rfl,rfl,ws⟩:=open_string Tryz.underlying9 (hval 0 9 v0 rfl rfl) h0
 clear hA0 hval0
 simp only[List.append_nil] at hW'
 have e1:Rows.linesSpec.fn H ([.lit (.string s.data.toList)]++[])={ results:=[.lit (.bool true)],args:=[.lit (.string s.data.toList)] }:=by simp[Rows.linesSpec]
 refine (zKE s W (zJJ hL)).mono fun e W' ⟨he,hB⟩=>?_
 subst he
 refine⟨_,rfl,_,_,_,[],[],[],hW',?_,?_,?_,hB.frame _,fun h=>by cases h⟩
 ·rw[e1];exact trodAll_mk1 (shut_bool Tryz.underlying4 true)
 ·rw[e1];exact trodAll_mk1 (shut_string Tryz.underlying9 ws)
 ·rw[e1];rfl
theorem lines_holds:Rows.LinesSaid :=
 OpenClaim.holds_of_wide 3 Tryz.f3 rfl rfl rfl rfl rfl rfl rfl ⟨rfl,rfl,rfl,rfl,rfl⟩ rfl rfl rfl rfl rfl (by kernel_rfl) Tryz.func3 (by kernel_rfl)
  (of_decide_eq_true (by kernel_rfl)) (by unfold Func.isWrapper;first | (rw[if_pos (by decide +kernel)];kernel_rfl) | (rw[if_neg (by decide +kernel)];exact⟨rfl,rfl⟩))
  (fun os started H enc _=>zGh os started H enc)
theorem lines_card_holds:Rows.LinesCardSaid :=
 Claim7.holds_tied_plain_at .later [] [.data,.data,.data] true Rows.linesCard.stood.harness false
  lines_holds (fun _ h=>by cases h) (by kernel_rfl) (fun _ h=>by cases h) lines_row_tie rfl ⟨rfl,rfl⟩ (by kernel_rfl) rfl
  (fun f fn hf hfn=>by
   obtain rfl:f=3:=Option.some.inj ((show Tryz.prog.funcNamed Rows.linesRow.func=some 3 by kernel_rfl).symm.trans hf) |>.symm
   obtain rfl:fn=Tryz.f3:=(Option.some.inj (Tryz.func3.symm.trans hfn)).symm
   exact⟨by kernel_rfl,fun j t ht=>by
    rw[Tryz.params3] at ht
    have hm:t∈[9]:=by simpa using Array.mem_of_getElem? ht
    have hall:([9].all fun u=>!Tryz.prog.wantsStandIn u)=true:=by kernel_rfl
    exact (show Tryz.prog.wantsStandIn t=false by simpa using List.all_eq_true.1 hall t hm)⟩)
  (by kernel_rfl)
#print axioms lines_card_holds
end Go.Proofs.YtonodfjdiepglaaGreatDoor
