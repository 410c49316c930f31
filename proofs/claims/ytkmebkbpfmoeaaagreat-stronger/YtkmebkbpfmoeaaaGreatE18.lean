import Derived.Test.YtkmebkbpfmoeaaaGreatE17
import Derived.Test.YtkmebkbpfmoeaaaGreatE15
set_option linter.unusedVariables false
set_option linter.unusedSimpArgs false
set_option maxHeartbeats 12800000
namespace Go.Proofs.YtkmebkbpfmoeaaaGreat
open Go Go.RowKit
set_option maxRecDepth 100000
namespace Q
structure Mach.Ok (m:Mach) (n:Nat):Prop where
 regs:∀ x∈m.regs,0≤x∧x<4
 made:∀ x∈m.made,x<M64
 asked:m.asked<M64
 evs:∀ e∈m.events,0≤e.value∧e.value<4∧e.hangs<M64
 len:m.events.length≤2*n
 bars:m.bars≤n
 unread:m.unread<1000000000
def OpOk (a:P.Opd):Prop:=0≤a.n∧a.n<4
def StOk (st:P.Stm):Prop:=OpOk st.a∧OpOk st.b
theorem getD_bd (l:List Int) (h:∀ x∈l,0≤x∧x<4) (i:Nat):0≤l.getD i 0∧l.getD i 0<4:=by
 by_cases hi:i<l.length
 ·rw[zAH l i hi];exact h _ (List.getElem_mem hi)
 ·simp[List.getD,List.getElem?_eq_none (by omega:l.length≤i)]
theorem Mach.Ok.value {m:Mach} {n:Nat} (h:m.Ok n) {a:P.Opd} (ha:OpOk a):0≤m.value a∧m.value a<4:=by
 unfold Mach.value
 split
 ·split
  ·omega
  ·exact getD_bd _ h.regs _
 ·exact ha
theorem Mach.Ok.valueOf {m:Mach} {n:Nat} (h:m.Ok n) (i:Nat):0≤m.valueOf i∧m.valueOf i<4:=by
 unfold Mach.valueOf
 by_cases hi:i<m.events.length
 ·have e:m.events.getD i Ev.zero=m.events[i]:=by simp[hi]
  rw[e];have:=h.evs _ (List.getElem_mem hi);omega
 ·have e:m.events.getD i Ev.zero=Ev.zero:=by simp[List.getElem?_eq_none (by omega:m.events.length≤i)]
  rw[e];simp[Ev.zero]
theorem Mach.Ok.give {m:Mach} {n:Nat} (h:m.Ok n) (d v:Int) (s:Nat) (hv:0≤v∧v<4) (hs:s<M64):(m.give d v s).Ok n:=by
 unfold Mach.give
 split
 ·exact h
 ·refine⟨fun x hx=>?_,fun x hx=>?_,h.asked,h.evs,h.len,h.bars,h.unread⟩
  ·rcases List.mem_or_eq_of_mem_set hx with hx | rfl
   ·exact h.regs x hx
   ·exact hv
  ·rcases List.mem_or_eq_of_mem_set hx with hx | rfl
   ·exact h.made x hx
   ·exact hs
theorem Mach.Ok.more {m:Mach} {n:Nat} (h:m.Ok n):m.Ok (n+1):=⟨h.regs,h.made,h.asked,h.evs,by have:=h.len;omega,by have:=h.bars;omega,h.unread⟩
theorem Mach.Ok.read {m:Mach} {n:Nat} (h:m.Ok n) (st:P.Stm):(∀ x∈(m.read st).regs,0≤x∧x<4)∧(∀ x∈(m.read st).made,x<M64)∧(m.read st).asked<M64∧(∀ e∈(m.read st).events,0≤e.value∧e.value<4∧e.hangs<M64)∧(m.read st).events.length=m.events.length+1∧(m.read st).unread<1000000000:=by
 refine⟨h.regs,h.made,h.asked,fun e he=>?_,by simp[Mach.read],by have:=h.unread;simp[Mach.read];omega⟩
 simp only[Mach.read,List.mem_append,List.mem_singleton] at he
 rcases he with he | rfl
 ·exact h.evs e he
 ·refine⟨by simp;omega,by simp;omega,?_⟩
  simp[Mach.event];exact h.asked
end Q
theorem zCg (B g k:Nat) (m:Q.Mach) (ev:Value) (st:P.Stm) (w:World) (h:MachIn w B g m ev) (hok:m.Ok k) (hst:Q.StOk st) :
  Calls Tryz.prog 141 #[.pointer (some ⟨g,0,none⟩),.agg (zAe st)] w fun x w'=>x=.returned (.int .i64 (m.result st))∧Below w.heap.size w w':=by
 obtain⟨k0,hsz,hbw⟩:=zBw w (zAe st) 97
 have HM0:=zAa (h.below hbw)
 have BW0:=zAa hbw
 have HST:Hid (zAv _ _ st):=k0
 have HE:Hid (m.result st=if st.kind==7 then (m.value ⟨st.a.reg,st.a.n⟩+m.value ⟨st.b.reg,st.b.n⟩) % 4 else if st.kind==8 then (m.value ⟨st.a.reg,st.a.n⟩+4-m.value ⟨st.b.reg,st.b.n⟩) % 4 else if st.kind==9 then (if m.value ⟨st.a.reg,st.a.n⟩==m.value ⟨st.b.reg,st.b.n⟩ then 1 else 0) else m.value ⟨st.a.reg,st.a.n⟩):=rfl
 have ha:=hok.value (a:=⟨st.a.reg,st.a.n⟩) hst.1
 have hb:=hok.value (a:=⟨st.b.reg,st.b.n⟩) hst.2
 clear h hbw k0 hsz hok hst
 simp only[zAe] at *
 go_enter Tryz.func141,Tryz.ntmps141
 go_upto_region 1 with fail
 generalize hE:w.alloc (.cells #[.int .i64 st.kind,.int .i64 st.line,.int .i64 st.dest,.int .i64 st.var,.bool st.a.reg,.int .i64 st.a.n,.bool st.b.reg,.int .i64 st.b.n,.int .i64 st.order,.int .i64 st.scope,.int .i64 st.label] 97)=W0 at *
 obtain⟨s0,s1,s2,s3,s4,s5,s6,s7,s8,s9,s10,s11,s12⟩:=HST.out.facts
 clear hE
 go_upto_region 2 with (first
  | (go_at_call 120;refine (zCa B g m ev st.a.reg st.a.n _ HM0.out).mono ?_;rintro e w1 ⟨rfl,hb1⟩;have HM1:=zAa (HM0.out.below hb1);have HS1:=zAa (HST.out.below hb1);have B1:=zAa (zAo BW0.out (Nat.le_refl _) hb1);clear s0 s1 s2 s3 s4 s5 s6 s7 s8 s9 s10 s11 s12;obtain⟨s0,s1,s2,s3,s4,s5,s6,s7,s8,s9,s10,s11,s12⟩:=HS1.out.facts))
 go_upto_region 3 with (first
  | (go_at_call 120;refine (zCa B g m ev st.b.reg st.b.n _ HM1.out).mono ?_;rintro e w2 ⟨rfl,hb2⟩;have HS2:=zAa (HS1.out.below hb2);have B2:=zAa (zAo B1.out (Nat.le_refl _) hb2);clear s0 s1 s2 s3 s4 s5 s6 s7 s8 s9 s10 s11 s12;obtain⟨s0,s1,s2,s3,s4,s5,s6,s7,s8,s9,s10,s11,s12⟩:=HS2.out.facts))
 generalize m.value ⟨st.a.reg,st.a.n⟩=x at *
 generalize m.value ⟨st.b.reg,st.b.n⟩=y at *
 cases z7:(st.kind==7)
 rotate_left
 ·have HV:Hid (m.result st=(x+y) % 4):=by unfold Hid;rw[HE.out,z7];rfl
  go_wp2
  go_ret
  rw[HV.out];exact⟨rfl,B2.out⟩
 cases z8:(st.kind==8)
 rotate_left
 ·have HV:Hid (m.result st=(x+4-y) % 4):=by unfold Hid;rw[HE.out,z7,z8];rfl
  go_wp2
  go_ret
  rw[HV.out];exact⟨rfl,B2.out⟩
 cases z9:(st.kind==9)
 ·have HV:Hid (m.result st=x):=by unfold Hid;rw[HE.out,z7,z8,z9];rfl
  go_wp2
  go_ret
  rw[HV.out];exact⟨rfl,B2.out⟩
 cases zz:(x==y)
 ·have HV:Hid (m.result st=0):=by unfold Hid;rw[HE.out,z7,z8,z9,zz];rfl
  go_wp2
  go_ret
  rw[HV.out];exact⟨rfl,B2.out⟩
 ·have HV:Hid (m.result st=1):=by unfold Hid;rw[HE.out,z7,z8,z9,zz];rfl
  go_wp2
  go_ret
  rw[HV.out];exact⟨rfl,B2.out⟩
end Go.Proofs.YtkmebkbpfmoeaaaGreat
namespace Go.Proofs.YtkmebkbpfmoeaaaGreat
namespace P
theorem digit_okG {c:UInt8} {n:Int} (h:(digit c n).2=true):0≤(digit c n).1∧(digit c n).1<n:=by
 unfold digit at h ⊢
 simp only[Bool.and_eq_true,decide_eq_true_eq] at h ⊢
 omega
theorem register_okG {p:List UInt8} (h:(zIk p).2=true):0≤(zIk p).1∧(zIk p).1<4:=by
 obtain⟨d,rfl⟩:=register_word h
 simp only[zIk,if_true] at h ⊢
 exact digit_okG h
theorem operand_okG {p:List UInt8} (h:(zIv p).2=true):Q.OpOk (zIv p).1:=by
 match p,h with
 | [],h=>simp[zIv,zIk] at h
 | [c],h=>exact digit_okG (n:=4) h
 | a::b::r,h=>exact register_okG (p:=a::b::r) h
theorem zero_okG:Q.OpOk Opd.zero:=⟨by decide,by decide⟩
theorem ordering_okG {st st':Stm} {r:List (List UInt8)} (h:zJa st r=(st',true)) (hs:Q.StOk st):Q.StOk st':=by
 rcases ordering_word h with ⟨o,rfl,h0,rfl⟩ | ⟨o,s,rfl,h1,h2,h3,rfl,h5⟩<;>exact hs
theorem step_okG {st st':Stm} {r:List (List UInt8)} {k:Int} (h:step st k r=(st',true)) (hs:Q.StOk st):Q.StOk st':=by
 match r,h with
 | [],h=>simp[step] at h
 | [_],h=>simp[step] at h
 | p::v::r,h =>
  simp only[step] at h
  split at h
  ·rename_i ht
   simp only[target] at ht h
   split at ht
   ·rename_i hv
    rw[if_pos hv] at h
    exact ordering_okG h ⟨operand_okG ht,hs.2⟩
   ·simp at ht
  ·simp at h
theorem sum_okG {st st':Stm} {r:List (List UInt8)} (h:sum st r=(st',true)) (hs:Q.StOk st):Q.StOk st':=by
 match r,h with
 | [],h=>simp[sum] at h
 | [a],h =>
  simp only[sum] at h
  split at h
  ·rename_i ha
   simp only[Prod.mk.injEq] at h
   rw[← h.1]
   exact⟨operand_okG ha,hs.2⟩
  ·simp at h
 | [_,_],h=>simp[sum] at h
 | [a,s,b],h =>
  simp only[sum] at h
  split at h
  ·rename_i ha
   split at h
   ·simp only[Prod.mk.injEq] at h
    rw[← h.1]
    exact⟨operand_okG ha,operand_okG h.2⟩
   ·simp at h
  ·simp at h
 | _::_::_::_::_,h=>simp[sum] at h
theorem statement_okG {ws:List (List UInt8)} {st:Stm} (h:zIr ws=(st,true)):Q.StOk st:=by
 have hz:Q.StOk Stm.zero:=⟨zero_okG,zero_okG⟩
 cases ws with
 | nil=>simp[zIr] at h
 | cons c r =>
  simp only[zIr] at h
  split at h
  ·match r,h with
   | [],h=>simp[store] at h
   | [_],h=>simp[store] at h
   | p::v::r,h =>
    simp only[store] at h
    split at h
    ·rename_i ht
     simp only[target] at ht h
     split at ht
     ·rename_i hv
      rw[if_pos hv] at h
      exact ordering_okG h ⟨operand_okG ht,zero_okG⟩
     ·simp at ht
    ·simp at h
  ·split at h
   ·simp only[fence] at h
    exact ordering_okG h ⟨zero_okG,zero_okG⟩
   ·split at h
    ·simp only[Prod.mk.injEq] at h
     rw[← h.1];exact⟨zero_okG,zero_okG⟩
    ·split at h
     ·match r,h with
      | [],h=>simp[zJz] at h
      | [a],h =>
       simp only[zJz,Prod.mk.injEq] at h
       rw[← h.1];exact⟨operand_okG h.2,zero_okG⟩
      | _::_::_,h=>simp[zJz] at h
     ·split at h
      ·simp only[Prod.mk.injEq] at h
       rw[← h.1];exact⟨zero_okG,zero_okG⟩
      ·match r,h with
       | [],h=>simp[zIq] at h
       | [_],h=>simp[zIq] at h
       | e::d::r,h =>
        simp only[zIq] at h
        split at h
        ·split at h
         ·split at h
          ·cases r with
           | nil=>simp[load] at h
           | cons v r =>
            simp only[load] at h
            split at h
            ·exact ordering_okG h ⟨zero_okG,zero_okG⟩
            ·simp at h
          ·split at h
           ·exact step_okG h ⟨zero_okG,zero_okG⟩
           ·split at h
            ·exact step_okG h ⟨zero_okG,zero_okG⟩
            ·exact sum_okG h ⟨zero_okG,zero_okG⟩
         ·simp at h
        ·simp at h
theorem takes_put {r r':Rd} {ws:List (List UInt8)} (h:takes r ws=(r',true)):(∃ t,t.stmts=[]∧t.line=r.line∧r'.threads=r.threads++[t]∧r'.count=0∧r.opn=[]∧r'.opn=[])∨∃ st l lb,zIr ws=(st,true)∧r.threads≠[]∧r'.threads=putLast r.threads { st with line:=l,label:=lb }∧((st.kind=11∧r'.count=r.count∧r'.opn.length+1=r.opn.length)∨(r.count<8∧r'.count=r.count+1∧st.kind≠11∧(r'.opn.length:Int)=r.opn.length+if st.kind==10 then 1 else 0)):=by
 unfold takes at h
 split at h
 ·refine Or.inl ?_
  unfold zIV at h
  split at h
  ·simp at h
  ·rename_i hno
   have ho:r.opn=[]:=List.eq_nil_of_length_eq_zero (by omega)
   split at h
   ·split at h
    ·simp only[Prod.mk.injEq] at h
     exact⟨⟨_,r.line,[]⟩,rfl,rfl,by rw[← h.1],by rw[← h.1],ho,by rw[← h.1];exact ho⟩
    ·simp at h
   ·simp at h
 ·split at h
  ·simp at h
  ·rename_i hne
   have hts:r.threads≠[]:=by simpa using hne
   refine Or.inr ?_
   simp only[] at h
   split at h
   ·rename_i hs
    have e0:zIr ws=((zIr ws).1,true):=by rw[← hs]
    split at h
    ·rename_i h11
     unfold ends at h
     split at h
     ·simp at h
     ·rename_i lo hlo
      simp only[Prod.mk.injEq] at h
      have hne0:r.opn≠[]:=by intro e;rw[e] at hlo;simp at hlo
      refine⟨(zIr ws).1,r.line,_,e0,hts,by rw[← h.1];rfl,Or.inl ⟨by simpa using h11,by rw[← h.1];rfl,?_⟩⟩
      rw[← h.1]
      show r.opn.dropLast.length+1=r.opn.length
      have:=List.length_pos_iff.2 hne0
      rw[List.length_dropLast];omega
    ·rename_i h11
     split at h
     ·simp at h
     ·rename_i h8
      split at h
      ·rename_i h10
       split at h
       ·simp at h
       ·unfold branch at h
        split at h
        ·simp at h
        ·simp only[Prod.mk.injEq] at h
         exact⟨(zIr ws).1,r.line,r.ifs+1,e0,hts,by rw[← h.1];rfl,Or.inr ⟨by omega,by rw[← h.1];rfl,by simpa using h11,by rw[← h.1,if_pos h10];simp[put]⟩⟩
      ·rename_i h10
       simp only[Prod.mk.injEq] at h
       exact⟨(zIr ws).1,r.line,(zIr ws).1.label,e0,hts,by rw[← h.1];rfl,Or.inr ⟨by omega,by rw[← h.1];rfl,by simpa using h11,by rw[← h.1,if_neg h10];simp[put]⟩⟩
   ·simp at h
def AllT (G:Stm→Prop) (ts:List Thr):Prop:=∀ t∈ts,∀ s∈t.stmts,G s
theorem allT_put {G:Stm→Prop} {s:Stm} (hs:G s):∀ {ts:List Thr},AllT G ts→AllT G (putLast ts s)
 | [],h=>h
 | [t],h=>fun u hu x hx=>by
  simp[putLast] at hu
  subst hu
  rcases List.mem_append.1 hx with hx | hx
  ·exact h t (by simp) x hx
  ·simp at hx;rw[hx];exact hs
 | a::b::ts,h=>fun u hu x hx=>by
  rw[putLast] at hu
  rcases List.mem_cons.1 hu with rfl | hu
  ·exact h u (by simp) x hx
  ·exact allT_put hs (fun v hv=>h v (List.mem_cons_of_mem _ hv)) u hu x hx
theorem run_all {G:Stm→Prop} (hG:∀ st l lb,G st→G { st with line:=l,label:=lb }) (hS:∀ ws st,zIr ws=(st,true)→G st):∀ (xs:List (List UInt8)) (r r':Rd),zJP r xs=(r',true)→AllT G r.threads→AllT G r'.threads
 | [],r,r',h,hr=>by simp[zJP] at h;rw[← h];exact hr
 | x::xs,r,r',h,hr=>by
  simp only[zJP] at h
  split at h
  ·rename_i ht
   have e:takes { r with line:=r.line+1 } (zIp 32 x)=((takes { r with line:=r.line+1 } (zIp 32 x)).1,true):=by rw[← ht]
   refine run_all hG hS xs _ r' h ?_
   rcases takes_put e with ⟨t,ht1,_,hth,_⟩ | ⟨st,l,lb,hst,hne,hth,_⟩
   ·rw[hth]
    intro u hu x hx
    rcases List.mem_append.1 hu with hu | hu
    ·exact hr u hu x hx
    ·simp at hu;rw[hu,ht1] at hx;simp at hx
   ·rw[hth]
    exact allT_put (hG _ _ _ (hS _ _ hst)) hr
  ·simp at h
end P
namespace Q
theorem Mach.write_len (m:Mach) (st:P.Stm) (v:Int) (s:Nat):(m.write st v s).events.length=m.events.length+1:=by simp[Mach.write,Mach.put]
theorem Mach.write_evs {m:Mach} {n:Nat} (h1:∀ e∈m.events,0≤e.value∧e.value<4∧e.hangs<M64) (ha:m.asked<M64) (st:P.Stm) (v:Int) (s:Nat) (hv:0≤v∧v<4) (hs:s<M64):∀ e∈(m.write st v s).events,0≤e.value∧e.value<4∧e.hangs<M64:=by
 intro e he
 simp only[Mach.write,Mach.put,List.mem_append,List.mem_singleton] at he
 rcases he with he | rfl
 ·exact h1 e he
 ·exact⟨hv.1,hv.2,or_lt ha hs⟩
theorem mod4 (x:Int):0≤x % 4∧x % 4<4:=⟨Int.emod_nonneg _ (by decide),Int.emod_lt_of_pos _ (by decide)⟩
theorem Mach.Ok.result {m:Mach} {n:Nat} (h:m.Ok n) {st:P.Stm} (hs:StOk st):0≤m.result st∧m.result st<4:=by
 unfold Mach.result
 split
 ·exact mod4 _
 ·split
  ·exact mod4 _
  ·split
   ·split<;>omega
   ·exact h.value hs.1
theorem Mach.Ok.readOk {m:Mach} {n:Nat} (h:m.Ok n) (st:P.Stm):(m.read st).Ok (n+1):=by
 obtain⟨r1,r2,r3,r4,r5,r6⟩:=h.read st
 exact⟨r1,r2,r3,r4,by have:=h.len;omega,by have:=h.bars;show m.bars≤n+1;omega,r6⟩
theorem Mach.Ok.doIt {m:Mach} {n:Nat} (h:m.Ok n) {st:P.Stm} (hs:StOk st):(m.doIt st).Ok (n+1):=by
 have hr:=h.readOk st
 have hrl:(m.read st).events.length=m.events.length+1:=(h.read st).2.2.2.2.1
 have hl:=h.len
 have hW:∀ (v:Int) (s:Nat),0≤v∧v<4→s<M64→((m.read st).write st v s).Ok (n+1):=fun v s hv hm =>
  ⟨hr.regs,hr.made,hr.asked,Mach.write_evs (n:=n) hr.evs hr.asked st v s hv hm,by rw[Mach.write_len,hrl];omega,hr.bars,hr.unread⟩
 unfold Mach.doIt
 split
 ·exact hr.give _ _ _ (hr.valueOf _) (zKs _)
 split
 ·exact⟨h.regs,h.made,h.asked,Mach.write_evs (n:=n) h.evs h.asked st _ _ (h.value hs.1) (zBm h.made _),by unfold Mach.store;rw[Mach.write_len];omega,by have:=h.bars;show m.bars≤n+1;omega,h.unread⟩
 split
 ·unfold Mach.step
  split
  ·have hx:=hW ((m.value st.a+(m.read st).valueOf m.events.length) % 4) (m.madeOf st.a ||| one (m.events.length:Nat)) (mod4 _) (or_lt (zBm h.made _) (zKs _))
   exact hx.give _ _ _ (hx.valueOf _) (zKs _)
  ·have hx:=hW (m.value st.a) (m.madeOf st.a) (h.value hs.1) (zBm h.made _)
   exact hx.give _ _ _ (hx.valueOf _) (zKs _)
 split
 ·refine⟨h.regs,h.made,h.asked,fun e he=>?_,by simp[Mach.put];omega,by have:=h.bars;show m.bars≤n+1;omega,h.unread⟩
  simp only[Mach.put,List.mem_append,List.mem_singleton] at he
  rcases he with he | rfl
  ·exact h.evs e he
  ·simp[Mach.event]
 split
 ·refine⟨h.regs,h.made,h.asked,fun e he=>?_,by simp[Mach.barrier];omega,by have:=h.bars;show m.bars+1≤n+1;omega,h.unread⟩
  simp only[Mach.barrier,List.mem_append,List.mem_cons,List.mem_nil_iff,or_false] at he
  rcases he with he | rfl | rfl
  ·exact h.evs e he
  ·simp[Mach.event]
  ·simp[Mach.event]
 split
 ·exact (h.give _ _ _ (h.result hs) (or_lt (zBm h.made _) (zBm h.made _))).more
 ·exact h.more
theorem Mach.Ok.ask {m:Mach} {n:Nat} (h:m.Ok n) (st:P.Stm):(m.ask st).Ok n:=⟨h.regs,h.made,or_lt h.asked (zBm h.made _),h.evs,h.len,h.bars,h.unread⟩
theorem carry_ok {p:Mach × Nat} {n:Nat} (h:p.1.Ok n) {st:P.Stm} (hs:StOk st):(carry p st).1.Ok (n+1):=by
 unfold carry
 split
 ·split
  ·exact (h.ask st).more
  ·exact h.doIt hs
 ·split
  ·exact h.more
  ·split<;>exact h.more
theorem start_ok (t b:Int) (u:Nat) (hu:u<1000000000):(Mach.start t b u).Ok 0:=by
 refine⟨?_,?_,(by show (0:Nat)<M64;decide),?_,by simp[Mach.start],by simp[Mach.start],hu⟩
 ·intro x hx;simp[Mach.start] at hx;omega
 ·intro x hx;simp[Mach.start] at hx;rw[hx];decide
 ·intro e he;simp[Mach.start] at he
theorem carry_pass (p:Mach × Nat) (st:P.Stm):(carry p st).2≤p.2+1:=by
 unfold carry
 split
 ·split
  ·split<;>simp
  ·simp
 ·split
  ·simp
  ·split
   ·simp;omega
   ·omega
end Q
namespace P
def nE (s:Stm):Bool:=s.kind != 11
def iE (s:Stm):Bool:=s.kind==11
def iB (s:Stm):Bool:=s.kind==10
theorem putLast_ne {ts:List Thr} (h:ts≠[]) (s:Stm):∃ a t,ts=a++[t]∧putLast ts s=a++[{ t with stmts:=t.stmts++[s] }]:=by
 rcases List.eq_nil_or_concat ts with h0 | ⟨a,t,rfl⟩
 ·exact absurd h0 h
 ·rw[List.concat_eq_append];exact⟨a,t,rfl,zJq a t s⟩
structure Cn (r:Rd):Prop where
 le:∀ t∈r.threads,cnt nE t.stmts≤8
 last:∀ a t,r.threads=a++[t]→cnt nE t.stmts≤r.count
 ln:∀ t∈r.threads,0<t.line
 lin:0≤r.line
 en:∀ t∈r.threads,cnt iE t.stmts≤cnt iB t.stmts
 op:∀ a t,r.threads=a++[t]→cnt iE t.stmts+r.opn.length=cnt iB t.stmts
theorem takes_line (q:Rd) (x:List (List UInt8)):(takes q x).1.line=q.line:=by
 unfold takes
 split
 ·unfold zIV
  split
  ·rfl
  ·split
   ·split<;>rfl
   ·rfl
 ·split
  ·rfl
  ·simp only[]
   split
   ·split
    ·unfold ends;split<;>rfl
    ·split
     ·rfl
     ·split
      ·split
       ·rfl
       ·unfold branch;split<;>rfl
      ·rfl
   ·rfl
theorem run_cn:∀ (xs:List (List UInt8)) (r r':Rd),zJP r xs=(r',true)→Cn r→Cn r'
 | [],r,r',h,hr=>by simp[zJP] at h;rw[← h];exact hr
 | x::xs,r,r',h,hr=>by
  simp only[zJP] at h
  split at h
  ·rename_i ht
   have e:takes { r with line:=r.line+1 } (zIp 32 x)=((takes { r with line:=r.line+1 } (zIp 32 x)).1,true):=by rw[← ht]
   refine run_cn xs _ r' h ?_
   have hl:0≤(takes { r with line:=r.line+1 } (zIp 32 x)).1.line:=by rw[takes_line];show 0≤r.line+1;have:=hr.lin;omega
   rcases takes_put e with ⟨t,ht1,ht2,hth,hc,_,ho2⟩ | ⟨st,l,lb,hst,hne,hth,hc⟩
   ·refine⟨fun u hu=>?_,fun a u hu=>?_,fun u hu=>?_,hl,fun u hu=>?_,fun b u hu=>?_⟩
    ·rw[hth] at hu
     rcases List.mem_append.1 hu with hu | hu
     ·exact hr.le u hu
     ·simp at hu;rw[hu,ht1];simp[cnt]
    ·rw[hth] at hu
     have:=(List.append_inj' hu rfl).2
     simp at this
     rw[← this,ht1,hc];simp[cnt]
    ·rw[hth] at hu
     rcases List.mem_append.1 hu with hu | hu
     ·exact hr.ln u hu
     ·simp at hu;rw[hu,ht2];show 0<r.line+1;have:=hr.lin;omega
    ·rw[hth] at hu
     rcases List.mem_append.1 hu with hu | hu
     ·exact hr.en u hu
     ·simp at hu;rw[hu,ht1];simp[cnt]
    ·rw[hth] at hu
     have:=(List.append_inj' hu rfl).2
     simp at this
     rw[← this,ht1,ho2];simp[cnt]
   ·obtain⟨a,t,h1,h2⟩:=putLast_ne hne { st with line:=l,label:=lb }
    have h1':r.threads=a++[t]:=h1
    rw[h2] at hth
    have ha:=hr.le t (by rw[h1'];simp)
    have hb:=hr.last a t h1'
    have hk:cnt nE (t.stmts++[{ st with line:=l,label:=lb }])≤8∧cnt nE (t.stmts++[{ st with line:=l,label:=lb }])≤(takes { r with line:=r.line+1 } (zIp 32 x)).1.count:=by
     rw[cnt_append]
     rcases hc with ⟨hc1,hc2,_⟩ | ⟨hc1,hc2,_,_⟩
     ·rw[hc2]
      simp only[cnt,nE,hc1]
      exact⟨by simpa using ha,by simpa using hb⟩
     ·rw[hc2]
      simp only[cnt]
      have hc1':r.count<8:=hc1
      show _≤(8:Int)∧_≤r.count+1
      split<;>omega
    have hop:=hr.op a t h1'
    have hk2:cnt iE (t.stmts++[{ st with line:=l,label:=lb }])+((takes { r with line:=r.line+1 } (zIp 32 x)).1.opn.length:Int)=cnt iB (t.stmts++[{ st with line:=l,label:=lb }]):=by
     rw[cnt_append,cnt_append]
     rcases hc with ⟨hc1,_,hc2⟩ | ⟨_,_,hc1,hc2⟩
     ·have hc2':((takes { r with line:=r.line+1 } (zIp 32 x)).1.opn.length:Int)+1=r.opn.length:=by exact_mod_cast hc2
      simp only[cnt,iE,iB,hc1]
      simp
      omega
     ·have hc2':((takes { r with line:=r.line+1 } (zIp 32 x)).1.opn.length:Int)=r.opn.length+if st.kind==10 then 1 else 0:=hc2
      rw[hc2']
      have h11:(st.kind==11)=false:=by simpa using hc1
      simp only[cnt,iE,iB,h11]
      by_cases h10:st.kind=10
      ·simp[h10];omega
      ·simp[h10];omega
    refine⟨fun u hu=>?_,fun b u hu=>?_,fun u hu=>?_,hl,fun u hu=>?_,fun b u hu=>?_⟩
    ·rw[hth] at hu
     rcases List.mem_append.1 hu with hu | hu
     ·exact hr.le u (by rw[h1'];simp[hu])
     ·simp at hu;rw[hu];exact hk.1
    ·rw[hth] at hu
     have:=(List.append_inj' hu rfl).2
     simp at this
     rw[← this];exact hk.2
    ·rw[hth] at hu
     rcases List.mem_append.1 hu with hu | hu
     ·exact hr.ln u (by rw[h1'];simp[hu])
     ·simp at hu;rw[hu];exact hr.ln t (by rw[h1'];simp)
    ·rw[hth] at hu
     rcases List.mem_append.1 hu with hu | hu
     ·exact hr.en u (by rw[h1'];simp[hu])
     ·simp at hu;rw[hu];show cnt iE (t.stmts++_)≤cnt iB (t.stmts++_);omega
    ·rw[hth] at hu
     have:=(List.append_inj' hu rfl).2
     simp at this
     rw[← this];exact hk2
  ·simp at h
theorem kernel_parts {l:List UInt8} (h:(kernel l).2.1=0):(kernel l).1=(lines l).1∧(kernel l).2.2=0∧l.length≤2000∧(lines l).2=0∧zII (lines l).1=0∧zIt (lines l).1 (lines l).1=0∧over (lines l).1=false:=by
 unfold kernel at h ⊢
 by_cases h1:2000<l.length
 ·rw[if_pos h1] at h;simp at h
 rw[if_neg h1] at h ⊢
 by_cases h2:((lines l).2 != 0)=true
 ·rw[if_pos h2] at h;simp at h
 rw[if_neg h2] at h ⊢
 by_cases h3:(zII (lines l).1 != 0)=true
 ·rw[if_pos h3] at h;simp at h
 rw[if_neg h3] at h ⊢
 by_cases h4:(zIt (lines l).1 (lines l).1 != 0)=true
 ·rw[if_pos h4] at h;simp at h
 rw[if_neg h4] at h ⊢
 by_cases h5:over (lines l).1=true
 ·rw[if_pos h5] at h;simp at h
 rw[if_neg h5] at h ⊢
 exact⟨rfl,rfl,by omega,by simpa using h2,by simpa using h3,by simpa using h4,by simpa using h5⟩
theorem lines_run {l:List UInt8} (h:(lines l).2=0):zJP Rd.zero (zIp 10 l).dropLast=((zJP Rd.zero (zIp 10 l).dropLast).1,true)∧(lines l).1=(zJP Rd.zero (zIp 10 l).dropLast).1.threads∧(zIp 10 l).getLast?=some []∧(zJP Rd.zero (zIp 10 l).dropLast).1.opn=[]∧(zJP Rd.zero (zIp 10 l).dropLast).1.threads≠[]:=by
 obtain⟨g1,g2,g3⟩:=good_run (zIp 10 l).dropLast 0 Rd.zero good_zero
 have z:Rd.zero.line=0:=rfl
 unfold lines at h ⊢
 simp only[] at h ⊢
 cases hq:(zJP Rd.zero (zIp 10 l).dropLast).2
 ·have:=g3 hq
  simp[hq] at h
  omega
 ·simp only[hq,if_true] at h ⊢
  split at h
  ·simp at h;omega
  ·rename_i hno
   rw[if_neg hno]
   simp only[not_or,Decidable.not_not] at hno
   exact⟨by rw[← hq],rfl,hno.1,hno.2.1,hno.2.2⟩
theorem uneven_zero (all:List Thr):∀ (l:List Thr),(∀ u∈l,0<u.line)→zIt all l=0→∀ t∈l,bars t.stmts=zIQ t.block all∧bars t.stmts≤2
 | [],_,_,t,ht=>by simp at ht
 | u::l,hl,h,t,ht=>by
  simp only[zIt] at h
  split at h
  ·have:=hl u (by simp);omega
  ·rename_i hb
   rcases List.mem_cons.1 ht with rfl | ht
   ·simp at hb;exact⟨hb.1,by omega⟩
   ·exact uneven_zero all l (fun u hu=>hl u (List.mem_cons_of_mem _ hu)) h t ht
theorem cnt_mono {p q:Stm→Bool} (h:∀ s,p s=true→q s=true):∀ l,cnt p l≤cnt q l
 | []=>by simp[cnt]
 | s::l=>by
  have:=cnt_mono h l
  simp only[cnt]
  by_cases hp:p s=true
  ·rw[if_pos hp,if_pos (h s hp)];omega
  ·rw[if_neg hp];split<;>omega
theorem cnt_split:∀ l:List Stm,(l.length:Int)=cnt nE l+cnt iE l
 | []=>by simp[cnt]
 | s::l=>by
  have:=cnt_split l
  simp only[cnt,nE,iE,List.length_cons]
  by_cases h:s.kind=11
  ·simp[h];omega
  ·simp[h];omega
structure KerIs (ts:List Thr):Prop where
 ne:ts≠[]
 few:ts.length≤4
 len:∀ t∈ts,t.stmts.length≤16
 ok:∀ t∈ts,∀ s∈t.stmts,Q.StOk s
 le:∀ t∈ts,cnt nE t.stmts≤8
 br:∀ t∈ts,bars t.stmts≤2
 rd:tot isR ts≤4
 wr:tot isW ts≤3
 sc:tot isF ts≤3
theorem zIJ {l:List UInt8} (h:(kernel l).2.1=0):KerIs (kernel l).1:=by
 obtain⟨k1,k2,k3,k4,k5,k6,k7⟩:=kernel_parts h
 obtain⟨r1,r2,r3,r4,r5⟩:=lines_run k4
 obtain⟨o1,o2,o3⟩:=zJm l k4
 have hcn:Cn (zJP Rd.zero (zIp 10 l).dropLast).1:=run_cn _ _ _ r1 ⟨by simp[Rd.zero],by simp[Rd.zero],by simp[Rd.zero],by simp[Rd.zero],by simp[Rd.zero],by simp[Rd.zero]⟩
 have hok:=run_all (G:=Q.StOk) (fun st l lb h=>h) (fun ws st h=>statement_okG h) _ _ _ r1 (fun t ht=>by simp[Rd.zero] at ht)
 have hb:=uneven_zero (lines l).1 (lines l).1 (by rw[r2];exact hcn.ln) k6
 simp only[over,Bool.or_eq_false_iff,decide_eq_false_iff_not] at k7
 rw[k1]
 exact⟨o1,o2,fun t ht=>by
  rw[r2] at ht
  have e1:=hcn.en t ht
  have e2:=hcn.le t ht
  have e3:=cnt_split t.stmts
  have e4:cnt iB t.stmts≤cnt nE t.stmts:=cnt_mono (fun s hs=>by simp only[iB,nE] at *;rw[beq_iff_eq] at hs;rw[hs];decide) _
  omega,by rw[r2];exact hok,by rw[r2];exact hcn.le,fun t ht=>(hb t ht).2,by omega,by omega,by omega⟩
end P
end Go.Proofs.YtkmebkbpfmoeaaaGreat
namespace Go.Proofs.YtkmebkbpfmoeaaaGreat
open Go Go.RowKit
set_option maxRecDepth 100000
structure OrdOn (w:World) (g gr gb gd:Nat) (rs bs ds:List Int) (rest:List (List Int)):Prop where
 r0:w.cell? ⟨g,0,none⟩=some (.slice (some ⟨gr,0,none⟩) rs.length rs.length)
 rows:zAq w gr rs
 ctr:zDf w g 1 gb gd bs ds rest
 len:bs.length=rs.length
 ne:gr≠gd
 neg:gr≠g
theorem OrdOn.below {w w':World} {g gr gb gd:Nat} {rs bs ds:List Int} {rest:List (List Int)} (h:OrdOn w g gr gb gd rs bs ds rest) (hb:Below w.heap.size w w'):OrdOn w' g gr gb gd rs bs ds rest:=by
 obtain⟨b,hc⟩:=h.ctr.ctr
 exact⟨(hb.cell hc.lt).trans h.r0,h.rows.below hb,h.ctr.below hb,h.len,h.ne,h.neg⟩
theorem zFh (g gr gb gd:Nat) (rs bs ds:List Int) (rest:List (List Int)) (w:World) (h:OrdOn w g gr gb gd rs bs ds rest) (hn:bs.length<10000) (hb:∀ b∈bs,b<1000000000) :
  Calls Tryz.prog 56 #[.pointer (some ⟨g,0,none⟩)] w fun e w'=>((rest=[]∧e=.returned (.bool false))∨∃ r q,rest=r::q∧e=.returned (.bool true)∧OrdOn w' g gr gb gd rs bs r q∧Q.DigOk bs r)∧Ticked w w' g 1 gd:=by
 have H:=zAa h
 obtain⟨b,hc⟩:=h.ctr.ctr
 have hl:=hc.lt
 clear h hc
 go_enter Tryz.func56,Tryz.ntmps56
 go_wp2_with (first | (go_at_call 80;refine (zFg g 1 gb gd bs ds rest _ H.out.ctr hn hb).mono ?_;rintro e w' ⟨h1,hT⟩;have HT:=zAa hT;rcases h1 with ⟨hr,rfl⟩ | ⟨r,q,hr,rfl,hc,hd⟩))
 ·go_ret
  exact⟨Or.inl ⟨hr,rfl⟩,HT.out⟩
 ·go_ret
  have T:=HT.out
  exact⟨Or.inr ⟨r,q,hr,rfl,⟨(T.cell 0 (by omega)).trans H.out.r0,H.out.rows.of_block (T.block gr H.out.neg H.out.ne),hc,H.out.len,H.out.ne,H.out.neg⟩,hd⟩,T⟩
namespace Q
def zJp (rs:List Int) (i k:Nat):Int:=(((List.range k).filter fun k=>rs.getD k (-1)==rs.getD i (-1)).length:Nat)
theorem filt_succ (P:Nat→Bool) (k:Nat):(((List.range (k+1)).filter P).length:Int)=(((List.range k).filter P).length:Int)+if P k then 1 else 0:=by
 rw[List.range_succ,List.filter_append,List.length_append]
 cases h:P k<;>simp[List.filter,h]
theorem countTo_succ (rs:List Int) (i k:Nat):zJp rs i (k+1)=zJp rs i k+if rs.getD k (-1)==rs.getD i (-1) then 1 else 0:=filt_succ (fun k=>rs.getD k (-1)==rs.getD i (-1)) k
theorem zJM (rs:List Int) (i k:Nat):0≤zJp rs i k∧zJp rs i k≤k:=by
 unfold zJp
 have:=List.length_filter_le (fun k=>rs.getD k (-1)==rs.getD i (-1)) (List.range k)
 simp at this ⊢;omega
end Q
theorem zGD (g gr i:Nat) (rs:List Int) (w:World) (h0:w.cell? ⟨g,0,none⟩=some (.slice (some ⟨gr,0,none⟩) rs.length rs.length)) (hr:zAq w gr rs) (hg:g<w.heap.size) (hi:i<rs.length) (hn:rs.length<10000) :
  Calls Tryz.prog 81 #[.pointer (some ⟨g,0,none⟩),.int .i64 (i:Int)] w fun e w'=>e=.returned (.int .i64 (Q.zJL rs i))∧Below w.heap.size w w':=by
 have HR:=zAa hr
 have hgr:=hr.lt
 have HE:Hid (Q.zJL rs i=Q.zJp rs i i):=rfl
 have hil:(i:Int)<(rs.length:Int):=by omega
 have HCI:Hid (∀ W:World,Below w.heap.size w W→W.cell? ⟨gr,i,none⟩=some (.int .i64 (rs.getD i (-1)))):=fun W hb=>by rw[zAH rs i hi];exact (hb.cell (p:=⟨gr,i,none⟩) hgr).trans (HR.out.cell i hi)
 clear hr
 go_enter Tryz.func81,Tryz.ntmps81
 go_wp2
 go_loopw [5,6] (fun c j wr=>∃ k:Nat,k≤i∧j=.int .i64 k∧c=.int .i64 (Q.zJp rs i k)∧Below w.heap.size w wr) (fun _ j _=>i-(intOf j).toNat)
 case atStart=>exact⟨0,Nat.zero_le _,rfl,rfl,Below.refl _ _⟩
 case round =>
  obtain⟨k,hk,rfl,rfl,hbel⟩:=hrel
  have d0:=cfL hbel hg h0
  have lg:=Nat.lt_of_lt_of_le hg hbel.size
  have lr:=Nat.lt_of_lt_of_le hgr hbel.size
  by_cases hlt:k<i
  ·have hin:(k:Int)<(i:Int):=by omega
   have hkl:k<rs.length:=by omega
   have hkli:(k:Int)<(rs.length:Int):=by omega
   have ck:wr.cell? ⟨gr,k,none⟩=some (.int .i64 (rs.getD k (-1))):=by rw[zAH rs k hkl];exact (hbel.cell (p:=⟨gr,k,none⟩) hgr).trans (HR.out.cell k hkl)
   have ci:=HCI.out wr hbel
   have HS:=zAa (Q.countTo_succ rs i k)
   have hbd:=Q.zJM rs i k
   generalize rs.getD k (-1)=x at *
   generalize rs.getD i (-1)=y at *
   generalize hct:Q.zJp rs i k=ct at *
   cases hz:(x==y)
   ·have HS':Hid (Q.zJp rs i (k+1)=ct):=by unfold Hid;rw[HS.out,hz];simp
    go_wp2
    go_quiet (fail)
    all_goals
     go_wp2
     go_roundw
     case rel=>exact⟨k+1,by omega,by go_num,by rw[HS'.out],hbel.trans (zAD _ _ _)⟩
     case measure=>simp[intOf];omega
   ·have HS':Hid (Q.zJp rs i (k+1)=ct+1):=by unfold Hid;rw[HS.out,hz];simp
    go_wp2
    go_quiet (fail)
    all_goals
     go_wp2
     go_roundw
     case rel=>exact⟨k+1,by omega,by go_num,by rw[HS'.out],hbel.trans (zAD _ _ _)⟩
     case measure=>simp[intOf];omega
  ·have hki:k=i:=by omega
   subst hki
   go_wp2
   go_ret
   rw[HE.out];exact⟨rfl,hbel⟩
end Go.Proofs.YtkmebkbpfmoeaaaGreat
