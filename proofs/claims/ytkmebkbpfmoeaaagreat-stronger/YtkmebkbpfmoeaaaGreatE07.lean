import Derived.Test.YtkmebkbpfmoeaaaGreatE06
set_option linter.unusedVariables false
set_option linter.unusedSimpArgs false
set_option maxHeartbeats 12800000
namespace Go.Proofs.YtkmebkbpfmoeaaaGreat
open Go Go.RowKit
set_option maxRecDepth 100000
namespace P
def zID (d:Int):List Stm→Option Int
 | []=>none
 | s::r =>
  if s.kind==10 then zID (d+1) r
  else if s.kind==11 then zID (d-1) r
  else if s.kind==5 then (if 0<d then some s.line else zID d r)
  else zID d r
def zII:List Thr→Int
 | []=>0
 | t::r=>match zID 0 t.stmts with
  | some l=>l
  | none=>zII r
end P
theorem zCy (B bt n cap:Nat) (ts:List P.Thr) (w:World) (h:zAw w B (.slice (some ⟨bt,0,none⟩) n cap) ts) (hn:n=ts.length) (hnb:n<10) (hst:∀ t∈ts,t.stmts.length<10000) :
  Calls Tryz.prog 28 #[.agg #[.slice (some ⟨bt,0,none⟩) n cap]] w fun e w'=>e=.returned (.int .i64 (P.zII ts))∧Below w.heap.size w w':=by
 have HA:=zAa h
 have HN:=zAa hn
 have HS:=zAa hst
 clear h hn hst
 go_enter Tryz.func28,Tryz.ntmps28
 go_wp2
 go_loopw [11] (fun i wr=>∃ k:Nat,k≤n∧i=.int .i64 k∧Hid (P.zII ts=P.zII (ts.drop k))∧Below w.heap.size w wr) (fun i _=>n-(intOf i).toNat)
 case atStart=>exact⟨0,Nat.zero_le _,rfl,rfl,(Below.refl _ _).alloc (Nat.le_refl _) _⟩
 case round =>
  obtain⟨k,hk,rfl,HB,hbel⟩:=hrel
  by_cases hlt:k<n
  ·have hkl:k<ts.length:=by rw[← HN.out];exact hlt
   obtain⟨hbt,sa,sc,c0,c1,c2,ho⟩:=zEw HA.out HN.out k hkl
   have d0:=cfL hbel hbt c0
   have d1:=cfL hbel hbt c1
   have d2:=cfL hbel hbt c2
   have hls:=HS.out ts[k] (List.getElem_mem hkl)
   have HD:=zAa (P.zJl ts k hkl)
   have HO:=zAa ho
   generalize hst:ts[k]=t at *
   have hsa:0<t.stmts.length→∃ b,sa=some ⟨b,0,none⟩∧b<w.heap.size:=fun h0=>by
    rcases ho.2 with ⟨e,h0'⟩ | ⟨b',c',cur,e,hb',hg',_⟩
    ·omega
    ·simp only[Value.slice.injEq] at e
     exact⟨b',e.1,(Array.getElem?_eq_some_iff.1 hg').1⟩
   clear hst c0 c1 c2 ho
   have hws:w.heap.size≤wr.heap.size:=hbel.size
   have hbel1:Below w.heap.size w (wr.alloc (.cells #[.int .i64 t.block,.int .i64 t.line,.slice sa t.stmts.length sc] 93)):=hbel.alloc hws _
   have HB1:=zAa hbel1
   clear hbel1 hbel
   go_wp2
   go_loopw [5,18] (fun dv j w2=>∃ q:Nat,∃ dep:Int,q≤t.stmts.length∧j=.int .i64 q∧dv=.int .i64 dep∧-(q:Int)≤dep∧dep≤q∧Hid (P.zID 0 t.stmts=P.zID dep (t.stmts.drop q))∧Below w.heap.size w w2) (fun _ j _=>t.stmts.length-(intOf j).toNat)
   case atStart=>exact⟨0,0,Nat.zero_le _,rfl,rfl,by simp,by simp,rfl,HB1.out⟩
   case round =>
    obtain⟨q,dep,hq,rfl,rfl,hd1,hd2,HI,hbel⟩:=hrel
    by_cases hql:q<t.stmts.length
    ·obtain⟨b,rfl,hblt⟩:=hsa (by omega)
     have hr:=zAa (zAA (zCl HO.out rfl q hql) (hbel.block b hblt))
     have HQ:=zAa (P.zJl t.stmts q hql)
     generalize hst:t.stmts[q]=st at hr HQ
     clear hst
     have hws2:=hbel.size
     cases h10:(st.kind==10)
     rotate_left
     ·have HI':Hid (P.zID 0 t.stmts=P.zID (dep+1) (t.stmts.drop (q+1))):=by
       unfold Hid;rw[HI.out,HQ.out,P.zID];simp[h10]
      go_wp2_with (first | (refine zAE (.tmp 20) rfl rfl b (q*11) st rfl hr.out ?_))
      go_roundw
      case rel=>exact⟨q+1,dep+1,by omega,by go_num,by go_num,by simp;omega,by simp;omega,HI',hbel.alloc hws2 _⟩
      case measure=>simp[intOf];omega
     have h10':¬ st.kind=10:=by simpa using h10
     cases h11:(st.kind==11)
     rotate_left
     ·have HI':Hid (P.zID 0 t.stmts=P.zID (dep-1) (t.stmts.drop (q+1))):=by
       unfold Hid;rw[HI.out,HQ.out,P.zID];simp[h10',h11]
      go_wp2_with (first | (refine zAE (.tmp 20) rfl rfl b (q*11) st rfl hr.out ?_))
      go_roundw
      case rel=>exact⟨q+1,dep-1,by omega,by go_num,by go_num,by simp;omega,by simp;omega,HI',hbel.alloc hws2 _⟩
      case measure=>simp[intOf];omega
     have h11':¬ st.kind=11:=by simpa using h11
     cases h5:(st.kind==5)
     ·have HI':Hid (P.zID 0 t.stmts=P.zID (dep) (t.stmts.drop (q+1))):=by
       unfold Hid;rw[HI.out,HQ.out,P.zID];simp[h10',h11',h5]
      go_wp2_with (first | (refine zAE (.tmp 20) rfl rfl b (q*11) st rfl hr.out ?_))
      go_roundw
      case rel=>exact⟨q+1,dep,by omega,by go_num,by go_num,by simp;omega,by simp;omega,HI',hbel.alloc hws2 _⟩
      case measure=>simp[intOf];omega
     by_cases hp:0<dep
     ·have HI':Hid (P.zII ts=st.line):=by
       have e:P.zID 0 t.stmts=some st.line:=by rw[HI.out,HQ.out,P.zID];simp[h10',h11',h5,hp]
       unfold Hid;rw[HB.out,HD.out,P.zII,e]
      go_wp2_with (first | (refine zAE (.tmp 20) rfl rfl b (q*11) st rfl hr.out ?_))
      go_ret
      rw[HI'.out]
      exact⟨rfl,hbel.alloc hws2 _⟩
     ·have HI':Hid (P.zID 0 t.stmts=P.zID (dep) (t.stmts.drop (q+1))):=by
       unfold Hid;rw[HI.out,HQ.out,P.zID];simp[h10',h11',h5,hp]
      go_wp2_with (first | (refine zAE (.tmp 20) rfl rfl b (q*11) st rfl hr.out ?_))
      go_roundw
      case rel=>exact⟨q+1,dep,by omega,by go_num,by go_num,by simp;omega,by simp;omega,HI',hbel.alloc hws2 _⟩
      case measure=>simp[intOf];omega
    ·have HB':Hid (P.zII ts=P.zII (ts.drop (k+1))):=by
      have e:P.zID 0 t.stmts=none:=by rw[HI.out,List.drop_eq_nil_of_le (by omega)];rfl
      unfold Hid;rw[HB.out,HD.out,P.zII,e]
     go_wp2
     go_roundw
     case rel=>exact⟨k+1,by omega,by go_num,HB',hbel⟩
     case measure=>simp[intOf];omega
  ·have HB':Hid (P.zII ts=0):=by
    unfold Hid;rw[HB.out,List.drop_eq_nil_of_le (by have:=HN.out;omega)];rfl
   go_wp2
   go_ret
   rw[HB'.out]
   exact⟨rfl,hbel⟩
namespace P
def cnt (p:Stm→Bool):List Stm→Int
 | []=>0
 | s::r=>(if p s then 1 else 0)+cnt p r
theorem cnt_append (p:Stm→Bool) (a b:List Stm):cnt p (a++b)=cnt p a+cnt p b:=by
 induction a with
 | nil=>simp[cnt]
 | cons s r ih=>simp[cnt,ih];omega
theorem zJs (p:Stm→Bool) (l:List Stm):0≤cnt p l∧cnt p l≤l.length:=by
 induction l with
 | nil=>simp[cnt]
 | cons s r ih=>simp only[cnt,List.length_cons];split<;>omega
theorem zJQ (p:Stm→Bool) (l:List Stm) (k:Nat) (h:k<l.length):cnt p (l.take (k+1))=cnt p (l.take k)+if p l[k] then 1 else 0:=by
 rw[List.take_succ_eq_append_getElem h,cnt_append];simp[cnt]
def tot (p:Stm→Bool):List Thr→Int
 | []=>0
 | t::r=>cnt p t.stmts+tot p r
theorem tot_append (p:Stm→Bool) (a b:List Thr):tot p (a++b)=tot p a+tot p b:=by
 induction a with
 | nil=>simp[tot]
 | cons s r ih=>simp[tot,ih];omega
theorem zJR (p:Stm→Bool) (l:List Thr) (k:Nat) (h:k<l.length):tot p (l.take (k+1))=tot p (l.take k)+cnt p l[k].stmts:=by
 rw[List.take_succ_eq_append_getElem h,tot_append];simp[tot]
theorem zKv (p:Stm→Bool) (l:List Thr) (N:Nat) (h:∀ t∈l,t.stmts.length<N):0≤tot p l∧tot p l≤l.length*N:=by
 induction l with
 | nil=>simp[tot]
 | cons t r ih =>
  have h1:=ih (fun t ht=>h t (by simp[ht]))
  have h2:=zJs p t.stmts
  have h3:=h t (by simp)
  simp only[tot,List.length_cons]
  refine⟨by omega,?_⟩
  have:((r.length+1:Nat):Int)*N=r.length*N+N:=by push_cast;rw[Int.add_mul];omega
  rw[this];omega
def isR (s:Stm):Bool:=reads s.kind
def isW (s:Stm):Bool:=zJZ s.kind
def isF (s:Stm):Bool:=s.kind==4&&s.order==5
def over (ts:List Thr):Bool:=decide (4<tot isR ts)||decide (3<tot isW ts)||decide (3<tot isF ts)
end P
theorem zFy (B bt n cap:Nat) (ts:List P.Thr) (w:World) (h:zAw w B (.slice (some ⟨bt,0,none⟩) n cap) ts) (hn:n=ts.length) (hnb:n<10) (hst:∀ t∈ts,t.stmts.length<10000) :
  Calls Tryz.prog 30 #[.agg #[.slice (some ⟨bt,0,none⟩) n cap]] w fun e w'=>e=.returned (.bool (P.over ts))∧Below w.heap.size w w':=by
 have HA:=zAa h
 have HN:=zAa hn
 have HS:=zAa hst
 clear h hn hst
 go_enter Tryz.func30,Tryz.ntmps30
 go_wp2
 go_loopw [3,4,5,13] (fun a b c i wr=>∃ k:Nat,k≤n∧i=.int .i64 k∧a=.int .i64 (P.tot P.isR (ts.take k))∧b=.int .i64 (P.tot P.isW (ts.take k))∧c=.int .i64 (P.tot P.isF (ts.take k))∧Below w.heap.size w wr) (fun _ _ _ i _=>n-(intOf i).toNat)
 case atStart=>exact⟨0,Nat.zero_le _,rfl,by simp[P.tot],by simp[P.tot],by simp[P.tot],(Below.refl _ _).alloc (Nat.le_refl _) _⟩
 case round =>
  obtain⟨k,hk,rfl,rfl,rfl,rfl,hbel⟩:=hrel
  have htk:∀ t∈ts.take k,t.stmts.length<10000:=fun t ht=>HS.out t (List.mem_of_mem_take ht)
  have hbR:=P.zKv P.isR (ts.take k) 10000 htk
  have hbW:=P.zKv P.isW (ts.take k) 10000 htk
  have hbF:=P.zKv P.isF (ts.take k) 10000 htk
  have hlk:(ts.take k).length≤k:=List.length_take_le _ _
  clear htk
  by_cases hlt:k<n
  ·have hkl:k<ts.length:=by rw[← HN.out];exact hlt
   obtain⟨hbt,sa,sc,c0,c1,c2,ho⟩:=zEw HA.out HN.out k hkl
   have d0:=cfL hbel hbt c0
   have d1:=cfL hbel hbt c1
   have d2:=cfL hbel hbt c2
   have hls:=HS.out ts[k] (List.getElem_mem hkl)
   have HR:=zAa (P.zJR P.isR ts k hkl)
   have HW:=zAa (P.zJR P.isW ts k hkl)
   have HF:=zAa (P.zJR P.isF ts k hkl)
   have HO:=zAa ho
   generalize hst:ts[k]=t at *
   have hsa:0<t.stmts.length→∃ b,sa=some ⟨b,0,none⟩∧b<w.heap.size:=fun h0=>by
    rcases ho.2 with ⟨e,h0'⟩ | ⟨b',c',cur,e,hb',hg',_⟩
    ·omega
    ·simp only[Value.slice.injEq] at e
     exact⟨b',e.1,(Array.getElem?_eq_some_iff.1 hg').1⟩
   clear hst c0 c1 c2 ho
   have hws:w.heap.size≤wr.heap.size:=hbel.size
   have HB1:Hid (Below w.heap.size w (wr.alloc (.cells #[.int .i64 t.block,.int .i64 t.line,.slice sa t.stmts.length sc] 93))):=hbel.alloc hws _
   clear hbel
   generalize hR:P.tot P.isR (ts.take k)=R at *
   generalize hW:P.tot P.isW (ts.take k)=W at *
   generalize hF:P.tot P.isF (ts.take k)=F at *
   clear hR hW hF
   go_wp2
   go_loopw [3,4,5,20] (fun a b c j w2=>∃ q:Nat,q≤t.stmts.length∧j=.int .i64 q∧a=.int .i64 (R+P.cnt P.isR (t.stmts.take q))∧b=.int .i64 (W+P.cnt P.isW (t.stmts.take q))∧c=.int .i64 (F+P.cnt P.isF (t.stmts.take q))∧Below w.heap.size w w2) (fun _ _ _ j _=>t.stmts.length-(intOf j).toNat)
   case atStart=>exact⟨0,Nat.zero_le _,rfl,by simp[P.cnt],by simp[P.cnt],by simp[P.cnt],HB1.out⟩
   case round =>
    obtain⟨q,hq,rfl,rfl,rfl,rfl,hbel⟩:=hrel
    have hcR:=P.zJs P.isR (t.stmts.take q)
    have hcW:=P.zJs P.isW (t.stmts.take q)
    have hcF:=P.zJs P.isF (t.stmts.take q)
    have hlq:(t.stmts.take q).length≤q:=List.length_take_le _ _
    by_cases hql:q<t.stmts.length
    ·obtain⟨b,rfl,hblt⟩:=hsa (by omega)
     have hr:=zAa (zAA (zCl HO.out rfl q hql) (hbel.block b hblt))
     have KR:=zAa (P.zJQ P.isR t.stmts q hql)
     have KW:=zAa (P.zJQ P.isW t.stmts q hql)
     have KF:=zAa (P.zJQ P.isF t.stmts q hql)
     generalize hst:t.stmts[q]=st at hr KR KW KF
     clear hst
     have hws2:=hbel.size
     generalize hxR:P.cnt P.isR (t.stmts.take q)=xR at *
     generalize hxW:P.cnt P.isW (t.stmts.take q)=xW at *
     generalize hxF:P.cnt P.isF (t.stmts.take q)=xF at *
     clear hxR hxW hxF
     cases b1:P.reads st.kind<;>cases b2:P.zJZ st.kind<;>cases b3:(st.kind==4)
     all_goals
      try cases b4:(st.order==5)
     all_goals
      have e1:P.isR st=P.reads st.kind:=rfl
      have e2:P.isW st=P.zJZ st.kind:=rfl
      have e3:P.isF st=(st.kind==4&&st.order==5):=rfl
      have NR:Hid (P.cnt P.isR (t.stmts.take (q+1))=_):=KR.out
      have NW:Hid (P.cnt P.isW (t.stmts.take (q+1))=_):=KW.out
      have NF:Hid (P.cnt P.isF (t.stmts.take (q+1))=_):=KF.out
      rw[e1,b1] at NR
      rw[e2,b2] at NW
      simp only[e3,b3,b4] at NF
      clear e1 e2 e3 KR KW KF
      go_wp2_with (first | (refine zAE (.tmp 22) rfl rfl b (q*11) st rfl hr.out ?_) | (go_at_call 44;refine (zDo _ _).mono ?_;rintro e w' ⟨rfl,rfl⟩) | (go_at_call 45;refine (zFK _ _).mono ?_;rintro e w' ⟨rfl,rfl⟩))
      go_roundw
      case rel=>exact⟨q+1,by omega,by go_num,by rw[NR.out];simp<;>omega,by rw[NW.out];simp<;>omega,by rw[NF.out];simp<;>omega,hbel.alloc hws2 _⟩
      case measure=>simp[intOf];omega
    ·have hqq:q=t.stmts.length:=by omega
     subst hqq
     have HT:Hid (t.stmts.take t.stmts.length=t.stmts):=List.take_length
     go_wp2
     go_roundw
     case rel=>exact⟨k+1,by omega,by go_num,by rw[HR.out,HT.out],by rw[HW.out,HT.out],by rw[HF.out,HT.out],hbel⟩
     case measure=>simp[intOf];omega
  ·have hkn:k=n:=by omega
   subst hkn
   have HT:Hid (ts.take k=ts):=List.take_of_length_le (by have:=HN.out;omega)
   have HO:Hid (P.over ts=(decide (4<P.tot P.isR (ts.take k))||decide (3<P.tot P.isW (ts.take k))||decide (3<P.tot P.isF (ts.take k)))):=by
    unfold Hid;rw[HT.out];rfl
   generalize P.tot P.isR (ts.take k)=R at *
   generalize P.tot P.isW (ts.take k)=W at *
   generalize P.tot P.isF (ts.take k)=F at *
   go_wp2
   all_goals go_ret
   all_goals rw[HO.out]
   all_goals refine⟨?_,hbel⟩
   all_goals simp[*]
namespace P
theorem good_run (xs:List (List UInt8)):∀ (k:Nat) (r:Rd),Good k r→Good (k+xs.length) (zJP r xs).1∧r.line≤(zJP r xs).1.line∧((zJP r xs).2=false→r.line<(zJP r xs).1.line):=by
 induction xs with
 | nil=>intro k r h;exact⟨h,by simp[zJP],by simp[zJP]⟩
 | cons x r ih =>
  intro k q h
  have h1:=good_takes (zIp 32 x) h (by have:=h.lin1;omega)
  have hl:(takes { q with line:=q.line+1 } (zIp 32 x)).1.line=q.line+1:=by
   unfold takes
   split
   ·unfold zIV
    split
    ·rfl
    ·split
     ·split<;>rfl
     ·rfl
   ·split
    ·rfl
    ·simp only[]
     split
     ·split
      ·unfold ends;split<;>rfl
      ·split
       ·rfl
       ·split
        ·split
         ·rfl
         ·unfold branch;split<;>rfl
        ·rfl
     ·rfl
  simp only[zJP]
  cases ht:(takes { q with line:=q.line+1 } (zIp 32 x)).2
  ·refine⟨?_,?_,?_⟩
   ·have:=h1
    refine⟨this.few,fun t ht=>?_,this.opn,this.ifs0,?_,this.cnt,this.lin0,?_⟩
    ·have:=this.stm t ht;simp;omega
    ·have:=this.ifs1;simp at *;omega
    ·have:=this.lin1;simp at *;omega
   ·simp[hl];omega
   ·simp[hl];omega
  ·obtain⟨a1,a2,a3⟩:=ih (k+1) _ h1
   simp only[if_true]
   refine⟨?_,?_,?_⟩
   ·rw[show k+(x::r).length=k+1+r.length by simp;omega];exact a1
   ·rw[hl] at a2;omega
   ·intro hf
    have:=a3 hf
    rw[hl] at this;omega
theorem zJm (l:List UInt8) (h:(lines l).2=0):(lines l).1≠[]∧(lines l).1.length≤4∧∀ t∈(lines l).1,t.stmts.length≤l.length:=by
 have hl:=zIL 10 l
 obtain⟨g1,g2,g3⟩:=good_run (zIp 10 l).dropLast 0 Rd.zero good_zero
 have hd:(zIp 10 l).dropLast.length≤l.length:=by rw[List.length_dropLast];omega
 unfold lines at h ⊢
 simp only[] at h ⊢
 cases hq:(zJP Rd.zero (zIp 10 l).dropLast).2
 ·have:=g3 hq
  have z:Rd.zero.line=0:=rfl
  simp[hq] at h
  omega
 ·simp only[hq,if_true] at h ⊢
  split at h
  ·have z:Rd.zero.line=0:=rfl
   simp at h;omega
  ·rename_i hno
   rw[if_neg hno]
   refine⟨fun e=>hno (Or.inr (Or.inr e)),g1.few,fun t ht=>?_⟩
   have:=g1.stm t ht
   omega
def kernel (l:List UInt8):List Thr × Int × Int :=
 if 2000<l.length then ([],1,0)
 else if (lines l).2 != 0 then ([],2,(lines l).2)
 else if zII (lines l).1 != 0 then ([],3,zII (lines l).1)
 else if zIt (lines l).1 (lines l).1 != 0 then ([],3,zIt (lines l).1 (lines l).1)
 else if over (lines l).1 then ([],4,0)
 else ((lines l).1,0,0)
end P
theorem zCL {fn:Func} {p u v:Tmp} {ty:TypeId} (h:fn.results=#[.cell p ty,.tmp u,.tmp v]) (tmps:Array Value) (Pg:Program) (w:World) :
  (results fn tmps).run Pg w=((asAddr (tmps.getD p undef)).run Pg w).andThen fun a w₁=>((loadVar ty a).run Pg w₁).andThen fun x w₂=>.ok (.tuple #[x,tmps.getD u undef,tmps.getD v undef]) w₂:=by
 simp only[results,h]
 simp[Sem.run_bind,Result.andThen]
theorem zBY {fn:Func} {R:Ending→World→Prop} {a:Act} {w:World} {p u v:Tmp} (g:Nat) (tv uv vv:Value) (hres:fn.results=#[.cell p 45,.tmp u,.tmp v])
  (hp:a.tmps.getD p undef=.pointer (some ⟨g,0,none⟩)) (hu:a.tmps.getD u undef=uv) (hv:a.tmps.getD v undef=vv) (h:w.heap[g]?=some (.cells #[tv] 45 (0,0))) (hd:a.defers=[]) (hR:R (.returned (.tuple #[.agg #[tv],uv,vv])) w):bodyPost Tryz.prog fn R .ret a w:=by
 refine bodyPost_ret (v:=.tuple #[.agg #[tv],uv,vv]) ?_ hd hR
 rw[zCL hres,hp,hu,hv]
 have:(asAddr (.pointer (some ⟨g,0,none⟩))).run Tryz.prog w=.ok ⟨g,0,none⟩ w:=rfl
 rw[this,Result.andThen_ok,zBk w g _ _ _ h _ Tryz.underlying45 rfl (by kernel_rfl),Result.andThen_ok]
theorem zAw.base {w:World} {B B':Nat} {tv:Value} {ts:List P.Thr} (h:zAw w B tv ts) (hb:B'≤B):zAw w B' tv ts:=by
 obtain⟨vs,h1,h2⟩:=h
 exact⟨vs,zDk h1 hb,h2.base hb⟩
theorem zEY (s:ByteArray) (w:World) (hs:s.size≤8192) (h:2000<s.size) :
  Calls Tryz.prog 24 #[.string s] w fun e w'=>e=.returned (.tuple #[.agg #[.slice none 0 0],.int .i64 1,.int .i64 0])∧Below w.heap.size w w':=by
 have h':(2000:Int)<(s.size:Int):=by omega
 go_enter Tryz.func24,Tryz.ntmps24
 go_wp2
 refine zBY (p:=2) (u:=3) (v:=4) w.heap.size (.slice none 0 0) _ _ (by kernel_rfl) rfl rfl rfl (by exact heap_alloc_new w _) rfl ⟨rfl,?_⟩
 exact (Below.refl _ _).alloc (Nat.le_refl _) _
theorem zAw.form {w:World} {B:Nat} {tv:Value} {ts:List P.Thr} (h:zAw w B tv ts):∃ a c,tv=.slice a ts.length c∧(ts≠[]→∃ bt,a=some ⟨bt,0,none⟩):=by
 obtain⟨vs,h1,h2⟩:=h
 rcases h1.2 with ⟨e,h0⟩ | ⟨k,c,cur,e,_⟩
 ·exact⟨none,0,by rw[e,h0],fun hne=>absurd (List.eq_nil_of_length_eq_zero h0) hne⟩
 ·exact⟨_,c,e,fun _=>⟨k,rfl⟩⟩
theorem zEx (s:ByteArray) (w:World) (hs:s.size≤8192) (h:s.size≤2000) (hl:((P.lines s.toList).2 != 0)=true) :
  Calls Tryz.prog 24 #[.string s] w fun e w'=>e=.returned (.tuple #[.agg #[.slice none 0 0],.int .i64 2,.int .i64 (P.lines s.toList).2])∧Below w.heap.size w w':=by
 have h':¬ (2000:Int)<(s.size:Int):=by omega
 go_enter Tryz.func24,Tryz.ntmps24
 go_wp2_with (first | (go_at_call 27;refine (zCk s _ hs).mono ?_;rintro e w1 ⟨tv,rfl,hth,hb1⟩;obtain⟨ta,tc,rfl,hta⟩:=hth.form;have hsz1:w.heap.size+1≤w1.heap.size:=(by have:=hb1.size;simp at this;omega);have hres:w1.heap[w.heap.size]?=some (.cells #[.slice none 0 0] 45 (0,0)):=(by rw[hb1.block _ (by simp)];exact heap_alloc_new w _);obtain⟨z0,z1,z2⟩:=zAJ hres;have HRES:=zAa hres;have HTH:=zAa hth;have HB1:Hid (Below w.heap.size w w1):=((Below.refl _ _).alloc (Nat.le_refl _) _).trans (hb1.mono (by simp));clear hres hth hb1))
 refine zBY (p:=2) (u:=3) (v:=4) w.heap.size (.slice none 0 0) _ _ (by kernel_rfl) rfl rfl rfl ?_ rfl ⟨rfl,?_⟩
 ·rw[Below.heap_alloc _ _ _ (by simp;omega)]
  exact zAf HRES.out 0 _
 ·exact (HB1.out.setCell (Nat.le_refl _) _).alloc (by simp;omega) _
theorem zAw.set {w:World} {B:Nat} {tv:Value} {ts:List P.Thr} (h:zAw w (B+1) tv ts) (u:Value):zAw (w.setCell ⟨B,0,none⟩ u) B tv ts:=by
 obtain⟨vs,h1,h2⟩:=h
 refine⟨vs,zDk (zAd h1 (fun k hk=>?_)) (by omega),(h2.keep (fun v hv k hk=>?_)).base (by omega)⟩
 ·have:=(h1.lt k hk).1
  exact Below.heap_setCell _ _ _ _ (by simp;omega)
 ·obtain⟨n,xs,ho⟩:=h2.mem v hv
  have:=(ho.lt k hk).1
  exact Below.heap_setCell _ _ _ _ (by simp;omega)
theorem zCe {w w1 w':World} {B:Nat} {tv:Value} {ts:List P.Thr} (hth:zAw w1 B tv ts) (hb1:Below w.heap.size w w1) (hres:w1.heap[w.heap.size]?=some (.cells #[.slice none 0 0] 45 (0,0)))
  (hb:Below (w1.alloc (.cells #[tv] 45)).heap.size (w1.alloc (.cells #[tv] 45)) w') (hB:w.heap.size+1≤B:=by simp) :
  zAw w' (w.heap.size+1) tv ts∧Below w.heap.size w w'∧w'.heap[w.heap.size]?=some (.cells #[.slice none 0 0] 45 (0,0))∧w'.heap[w1.heap.size]?=some (.cells #[tv] 45 (0,0))∧w1.heap.size<w'.heap.size:=by
 have hlt:w.heap.size<w1.heap.size:=(Array.getElem?_eq_some_iff.1 hres).1
 refine⟨(hth.keep (fun k hk=>?_)).base hB,?_,?_,?_,?_⟩
 ·rw[hb.block k (by simp;omega)];exact Below.heap_alloc _ _ _ hk
 ·exact (hb1.alloc hb1.size _).trans (hb.mono (by simp;omega))
 ·rw[hb.block _ (by simp;omega),Below.heap_alloc _ _ _ hlt];exact hres
 ·rw[hb.block _ (by simp)];exact heap_alloc_new w1 _
 ·have:=hb.size;simp at this;omega
theorem zEy (s:ByteArray) (w:World) (hs:s.size≤8192) (h:s.size≤2000) (hl:((P.lines s.toList).2 != 0)=false) (hi:(P.zII (P.lines s.toList).1 != 0)=true) :
  Calls Tryz.prog 24 #[.string s] w fun e w'=>e=.returned (.tuple #[.agg #[.slice none 0 0],.int .i64 3,.int .i64 (P.zII (P.lines s.toList).1)])∧Below w.heap.size w w':=by
 have h':¬ (2000:Int)<(s.size:Int):=by omega
 have hl0:(P.lines s.toList).2=0:=by simpa using hl
 obtain⟨hne,h4,hst'⟩:=P.zJm s.toList hl0
 have hst:∀ t∈(P.lines s.toList).1,t.stmts.length<10000:=fun t ht=>by have:=hst' t ht;rw[zAi] at this;omega
 clear hl0 hst'
 go_enter Tryz.func24,Tryz.ntmps24
 go_wp2_with (first | (go_at_call 27;refine (zCk s _ hs).mono ?_;rintro e w1 ⟨tv,rfl,hth,hb1⟩;obtain⟨ta,tc,rfl,hta⟩:=hth.form;have hsz1:w.heap.size+1≤w1.heap.size:=(by have:=hb1.size;simp at this;omega);have hres:w1.heap[w.heap.size]?=some (.cells #[.slice none 0 0] 45 (0,0)):=(by rw[hb1.block _ (by simp)];exact heap_alloc_new w _);obtain⟨z0,z1,z2⟩:=zAJ hres;have HRES:=zAa hres;have HTH:=zAa hth;have HB1:Hid (Below w.heap.size w w1):=((Below.refl _ _).alloc (Nat.le_refl _) _).trans (hb1.mono (by simp));obtain⟨bt,rfl⟩:=hta hne;have TK:Hid (∀ w':World,Below (w1.alloc (.cells #[(.slice (some ⟨bt,0,none⟩) (P.lines s.toList).1.length tc)] 45)).heap.size (w1.alloc (.cells #[(.slice (some ⟨bt,0,none⟩) (P.lines s.toList).1.length tc)] 45)) w'→zAw w' (w.heap.size+1) (.slice (some ⟨bt,0,none⟩) (P.lines s.toList).1.length tc) (P.lines s.toList).1∧Below w.heap.size w w'∧w'.heap[w.heap.size]?=some (.cells #[.slice none 0 0] 45 (0,0))∧w'.heap[w1.heap.size]?=some (.cells #[(.slice (some ⟨bt,0,none⟩) (P.lines s.toList).1.length tc)] 45 (0,0))∧w1.heap.size<w'.heap.size):=(fun w' hb'=>zCe HTH.out HB1.out HRES.out hb');clear hres hth hb1) | (go_at_call 28;refine (zCy (w.heap.size+1) bt _ tc (P.lines s.toList).1 _ (by exact (TK.out _ (Below.refl _ _)).1) rfl (by omega) hst).mono ?_;rintro e w2 ⟨rfl,hb2⟩;obtain⟨t2,v2,r2,q2,l2⟩:=TK.out w2 hb2;obtain⟨y0,y1,y2⟩:=zAJ r2;obtain⟨x0,x1,x2⟩:=zAJ q2;have T2:=zAa t2;have R2:=zAa r2;have Q2:=zAa q2;clear t2 r2 q2))
 refine zBY (p:=2) (u:=3) (v:=4) w.heap.size (.slice none 0 0) _ _ (by kernel_rfl) rfl rfl rfl (by exact zAf R2.out 0 _) rfl ⟨rfl,v2.setCell (Nat.le_refl _) _⟩
theorem zEe (s:ByteArray) (w:World) (hs:s.size≤8192) (h:s.size≤2000) (hl:((P.lines s.toList).2 != 0)=false) (hi:(P.zII (P.lines s.toList).1 != 0)=false) (hu:(P.zIt (P.lines s.toList).1 (P.lines s.toList).1 != 0)=true) :
  Calls Tryz.prog 24 #[.string s] w fun e w'=>e=.returned (.tuple #[.agg #[.slice none 0 0],.int .i64 3,.int .i64 (P.zIt (P.lines s.toList).1 (P.lines s.toList).1)])∧Below w.heap.size w w':=by
 have h':¬ (2000:Int)<(s.size:Int):=by omega
 have hl0:(P.lines s.toList).2=0:=by simpa using hl
 obtain⟨hne,h4,hst'⟩:=P.zJm s.toList hl0
 have hst:∀ t∈(P.lines s.toList).1,t.stmts.length<10000:=fun t ht=>by have:=hst' t ht;rw[zAi] at this;omega
 clear hl0 hst'
 go_enter Tryz.func24,Tryz.ntmps24
 go_wp2_with (first | (go_at_call 27;refine (zCk s _ hs).mono ?_;rintro e w1 ⟨tv,rfl,hth,hb1⟩;obtain⟨ta,tc,rfl,hta⟩:=hth.form;have hsz1:w.heap.size+1≤w1.heap.size:=(by have:=hb1.size;simp at this;omega);have hres:w1.heap[w.heap.size]?=some (.cells #[.slice none 0 0] 45 (0,0)):=(by rw[hb1.block _ (by simp)];exact heap_alloc_new w _);obtain⟨z0,z1,z2⟩:=zAJ hres;have HRES:=zAa hres;have HTH:=zAa hth;have HB1:Hid (Below w.heap.size w w1):=((Below.refl _ _).alloc (Nat.le_refl _) _).trans (hb1.mono (by simp));obtain⟨bt,rfl⟩:=hta hne;have TK:Hid (∀ w':World,Below (w1.alloc (.cells #[(.slice (some ⟨bt,0,none⟩) (P.lines s.toList).1.length tc)] 45)).heap.size (w1.alloc (.cells #[(.slice (some ⟨bt,0,none⟩) (P.lines s.toList).1.length tc)] 45)) w'→zAw w' (w.heap.size+1) (.slice (some ⟨bt,0,none⟩) (P.lines s.toList).1.length tc) (P.lines s.toList).1∧Below w.heap.size w w'∧w'.heap[w.heap.size]?=some (.cells #[.slice none 0 0] 45 (0,0))∧w'.heap[w1.heap.size]?=some (.cells #[(.slice (some ⟨bt,0,none⟩) (P.lines s.toList).1.length tc)] 45 (0,0))∧w1.heap.size<w'.heap.size):=(fun w' hb'=>zCe HTH.out HB1.out HRES.out hb');clear hres hth hb1) | (go_at_call 28;refine (zCy (w.heap.size+1) bt _ tc (P.lines s.toList).1 _ (by exact (TK.out _ (Below.refl _ _)).1) rfl (by omega) hst).mono ?_;rintro e w2 ⟨rfl,hb2⟩;obtain⟨t2,v2,r2,q2,l2⟩:=TK.out w2 hb2;obtain⟨y0,y1,y2⟩:=zAJ r2;obtain⟨x0,x1,x2⟩:=zAJ q2;have T2:=zAa t2;have R2:=zAa r2;have Q2:=zAa q2;clear t2 r2 q2) | (go_at_call 29;refine (zCK (w.heap.size+1) bt _ tc (P.lines s.toList).1 _ (by exact T2.out) rfl (by omega) hst).mono ?_;rintro e w3 ⟨rfl,hb3⟩;obtain⟨t3,v3,r3,q3,l3⟩:=TK.out w3 (hb2.trans (hb3.mono hb2.size));obtain⟨y0,y1,y2⟩:=zAJ r3;obtain⟨x0,x1,x2⟩:=zAJ q3;have T3:=zAa t3;have R3:=zAa r3;clear t3 r3 q3))
 refine zBY (p:=2) (u:=3) (v:=4) w.heap.size (.slice none 0 0) _ _ (by kernel_rfl) rfl rfl rfl (by exact zAf R3.out 0 _) rfl ⟨rfl,v3.setCell (Nat.le_refl _) _⟩
theorem zEZ (s:ByteArray) (w:World) (hs:s.size≤8192) (h:s.size≤2000) (hl:((P.lines s.toList).2 != 0)=false) (hi:(P.zII (P.lines s.toList).1 != 0)=false) (hu:(P.zIt (P.lines s.toList).1 (P.lines s.toList).1 != 0)=false) (ho:P.over (P.lines s.toList).1=true) :
  Calls Tryz.prog 24 #[.string s] w fun e w'=>e=.returned (.tuple #[.agg #[.slice none 0 0],.int .i64 4,.int .i64 0])∧Below w.heap.size w w':=by
 have h':¬ (2000:Int)<(s.size:Int):=by omega
 have hl0:(P.lines s.toList).2=0:=by simpa using hl
 obtain⟨hne,h4,hst'⟩:=P.zJm s.toList hl0
 have hst:∀ t∈(P.lines s.toList).1,t.stmts.length<10000:=fun t ht=>by have:=hst' t ht;rw[zAi] at this;omega
 clear hl0 hst'
 go_enter Tryz.func24,Tryz.ntmps24
 go_wp2_with (first | (go_at_call 27;refine (zCk s _ hs).mono ?_;rintro e w1 ⟨tv,rfl,hth,hb1⟩;obtain⟨ta,tc,rfl,hta⟩:=hth.form;have hsz1:w.heap.size+1≤w1.heap.size:=(by have:=hb1.size;simp at this;omega);have hres:w1.heap[w.heap.size]?=some (.cells #[.slice none 0 0] 45 (0,0)):=(by rw[hb1.block _ (by simp)];exact heap_alloc_new w _);obtain⟨z0,z1,z2⟩:=zAJ hres;have HRES:=zAa hres;have HTH:=zAa hth;have HB1:Hid (Below w.heap.size w w1):=((Below.refl _ _).alloc (Nat.le_refl _) _).trans (hb1.mono (by simp));obtain⟨bt,rfl⟩:=hta hne;have TK:Hid (∀ w':World,Below (w1.alloc (.cells #[(.slice (some ⟨bt,0,none⟩) (P.lines s.toList).1.length tc)] 45)).heap.size (w1.alloc (.cells #[(.slice (some ⟨bt,0,none⟩) (P.lines s.toList).1.length tc)] 45)) w'→zAw w' (w.heap.size+1) (.slice (some ⟨bt,0,none⟩) (P.lines s.toList).1.length tc) (P.lines s.toList).1∧Below w.heap.size w w'∧w'.heap[w.heap.size]?=some (.cells #[.slice none 0 0] 45 (0,0))∧w'.heap[w1.heap.size]?=some (.cells #[(.slice (some ⟨bt,0,none⟩) (P.lines s.toList).1.length tc)] 45 (0,0))∧w1.heap.size<w'.heap.size):=(fun w' hb'=>zCe HTH.out HB1.out HRES.out hb');clear hres hth hb1) | (go_at_call 28;refine (zCy (w.heap.size+1) bt _ tc (P.lines s.toList).1 _ (by exact (TK.out _ (Below.refl _ _)).1) rfl (by omega) hst).mono ?_;rintro e w2 ⟨rfl,hb2⟩;obtain⟨t2,v2,r2,q2,l2⟩:=TK.out w2 hb2;obtain⟨y0,y1,y2⟩:=zAJ r2;obtain⟨x0,x1,x2⟩:=zAJ q2;have T2:=zAa t2;have R2:=zAa r2;have Q2:=zAa q2;clear t2 r2 q2) | (go_at_call 29;refine (zCK (w.heap.size+1) bt _ tc (P.lines s.toList).1 _ (by exact T2.out) rfl (by omega) hst).mono ?_;rintro e w3 ⟨rfl,hb3⟩;obtain⟨t3,v3,r3,q3,l3⟩:=TK.out w3 (hb2.trans (hb3.mono hb2.size));obtain⟨y0,y1,y2⟩:=zAJ r3;obtain⟨x0,x1,x2⟩:=zAJ q3;have T3:=zAa t3;have R3:=zAa r3;clear t3 r3 q3) | (go_at_call 30;refine (zFy (w.heap.size+1) bt _ tc (P.lines s.toList).1 _ (by exact T3.out) rfl (by omega) hst).mono ?_;rintro e w4 ⟨rfl,hb4⟩;obtain⟨t4,v4,r4,q4,l4⟩:=TK.out w4 ((hb2.trans (hb3.mono hb2.size)).trans (hb4.mono (hb2.trans (hb3.mono hb2.size)).size));obtain⟨y0,y1,y2⟩:=zAJ r4;obtain⟨x0,x1,x2⟩:=zAJ q4;have T4:=zAa t4;have R4:=zAa r4;clear t4 r4 q4))
 refine zBY (p:=2) (u:=3) (v:=4) w.heap.size (.slice none 0 0) _ _ (by kernel_rfl) rfl rfl rfl (by exact zAf R4.out 0 _) rfl ⟨rfl,v4.setCell (Nat.le_refl _) _⟩
theorem zGx (s:ByteArray) (w:World) (hs:s.size≤8192) (h:s.size≤2000) (hl:((P.lines s.toList).2 != 0)=false) (hi:(P.zII (P.lines s.toList).1 != 0)=false) (hu:(P.zIt (P.lines s.toList).1 (P.lines s.toList).1 != 0)=false) (ho:P.over (P.lines s.toList).1=false) :
  Calls Tryz.prog 24 #[.string s] w fun e w'=>∃ bt tc,e=.returned (.tuple #[.agg #[(.slice (some ⟨bt,0,none⟩) (P.lines s.toList).1.length tc)],.int .i64 0,.int .i64 0])∧zAw w' w.heap.size (.slice (some ⟨bt,0,none⟩) (P.lines s.toList).1.length tc) (P.lines s.toList).1∧Below w.heap.size w w':=by
 have h':¬ (2000:Int)<(s.size:Int):=by omega
 have hl0:(P.lines s.toList).2=0:=by simpa using hl
 obtain⟨hne,h4,hst'⟩:=P.zJm s.toList hl0
 have hst:∀ t∈(P.lines s.toList).1,t.stmts.length<10000:=fun t ht=>by have:=hst' t ht;rw[zAi] at this;omega
 clear hl0 hst'
 go_enter Tryz.func24,Tryz.ntmps24
 go_wp2_with (first | (go_at_call 27;refine (zCk s _ hs).mono ?_;rintro e w1 ⟨tv,rfl,hth,hb1⟩;obtain⟨ta,tc,rfl,hta⟩:=hth.form;have hsz1:w.heap.size+1≤w1.heap.size:=(by have:=hb1.size;simp at this;omega);have hres:w1.heap[w.heap.size]?=some (.cells #[.slice none 0 0] 45 (0,0)):=(by rw[hb1.block _ (by simp)];exact heap_alloc_new w _);obtain⟨z0,z1,z2⟩:=zAJ hres;have HRES:=zAa hres;have HTH:=zAa hth;have HB1:Hid (Below w.heap.size w w1):=((Below.refl _ _).alloc (Nat.le_refl _) _).trans (hb1.mono (by simp));obtain⟨bt,rfl⟩:=hta hne;have TK:Hid (∀ w':World,Below (w1.alloc (.cells #[(.slice (some ⟨bt,0,none⟩) (P.lines s.toList).1.length tc)] 45)).heap.size (w1.alloc (.cells #[(.slice (some ⟨bt,0,none⟩) (P.lines s.toList).1.length tc)] 45)) w'→zAw w' (w.heap.size+1) (.slice (some ⟨bt,0,none⟩) (P.lines s.toList).1.length tc) (P.lines s.toList).1∧Below w.heap.size w w'∧w'.heap[w.heap.size]?=some (.cells #[.slice none 0 0] 45 (0,0))∧w'.heap[w1.heap.size]?=some (.cells #[(.slice (some ⟨bt,0,none⟩) (P.lines s.toList).1.length tc)] 45 (0,0))∧w1.heap.size<w'.heap.size):=(fun w' hb'=>zCe HTH.out HB1.out HRES.out hb');clear hres hth hb1) | (go_at_call 28;refine (zCy (w.heap.size+1) bt _ tc (P.lines s.toList).1 _ (by exact (TK.out _ (Below.refl _ _)).1) rfl (by omega) hst).mono ?_;rintro e w2 ⟨rfl,hb2⟩;obtain⟨t2,v2,r2,q2,l2⟩:=TK.out w2 hb2;obtain⟨y0,y1,y2⟩:=zAJ r2;obtain⟨x0,x1,x2⟩:=zAJ q2;have T2:=zAa t2;have R2:=zAa r2;have Q2:=zAa q2;clear t2 r2 q2) | (go_at_call 29;refine (zCK (w.heap.size+1) bt _ tc (P.lines s.toList).1 _ (by exact T2.out) rfl (by omega) hst).mono ?_;rintro e w3 ⟨rfl,hb3⟩;obtain⟨t3,v3,r3,q3,l3⟩:=TK.out w3 (hb2.trans (hb3.mono hb2.size));obtain⟨y0,y1,y2⟩:=zAJ r3;obtain⟨x0,x1,x2⟩:=zAJ q3;have T3:=zAa t3;have R3:=zAa r3;clear t3 r3 q3) | (go_at_call 30;refine (zFy (w.heap.size+1) bt _ tc (P.lines s.toList).1 _ (by exact T3.out) rfl (by omega) hst).mono ?_;rintro e w4 ⟨rfl,hb4⟩;obtain⟨t4,v4,r4,q4,l4⟩:=TK.out w4 ((hb2.trans (hb3.mono hb2.size)).trans (hb4.mono (hb2.trans (hb3.mono hb2.size)).size));obtain⟨y0,y1,y2⟩:=zAJ r4;obtain⟨x0,x1,x2⟩:=zAJ q4;have T4:=zAa t4;have R4:=zAa r4;clear t4 r4 q4))
 refine zBY (p:=2) (u:=3) (v:=4) w.heap.size _ _ _ (by kernel_rfl) rfl rfl rfl (by exact zAf R4.out 0 _) rfl ⟨_,_,rfl,T4.out.set _,v4.setCell (Nat.le_refl _) _⟩
end Go.Proofs.YtkmebkbpfmoeaaaGreat
