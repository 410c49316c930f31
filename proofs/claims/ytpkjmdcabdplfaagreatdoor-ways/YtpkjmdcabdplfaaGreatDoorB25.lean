import Derived.Test.YtpkjmdcabdplfaaGreatDoorB24
set_option linter.unusedVariables false
set_option linter.unusedSimpArgs false
namespace Go.Proofs.YtpkjmdcabdplfaaGreatDoor
open Go
set_option linter.unusedSimpArgs false
theorem shown_enc (o:P.Opd) (h:0≤o.n):R.shown (encO o)=P.opdT o:=by
 unfold encO R.shown P.opdT
 cases o.reg
 ·simp only[Bool.false_eq_true,if_false];rw[if_neg (by omega)]
 ·simp only[if_true];rw[if_pos (by omega)];congr 1;omega
theorem shown_reg (n:Int) (h:0≤n):R.shown (-1-n)=P.regT n:=by
 unfold R.shown
 rw[if_pos (by omega)];congr 1;omega
theorem cel_eq (v:Int) (h:0≤v):R.celT v=P.celT v:=by unfold R.celT P.celT;rw[if_pos h]
namespace P
def isAcc (k:Int):Bool:=k==0||k==1||k==2||k==3
def isReg (k:Int):Bool:=k==6||k==7||k==8||k==9
end P
theorem var_bd {v:List UInt8} (h:decide (0≤R.inn v R.vars)=true):0≤R.inn v R.vars∧R.inn v R.vars<3:=by
 refine⟨of_decide_eq_true h,?_⟩
 rw[inn_vars];(repeat' split)<;>omega
theorem ordering_al (st:P.Stm) (ws:List (List UInt8)) (h:(P.ordering st ws).2=true):P.allows st.kind (P.ordering st ws).1.order=true:=by
 match ws,h with
 | [],h=>simp[P.ordering] at h
 | o::r,h =>
  unfold P.ordering at h ⊢
  by_cases hc:((P.order o).2&&P.allows st.kind (P.order o).1)=true
  ·simp only[hc,if_true] at h ⊢
   simp only[Bool.and_eq_true] at hc
   by_cases hz:(P.order o).1=0
   ·have:=hc.2;rw[hz] at this;simpa [hz] using this
   ·simp only[beq_eq_false_iff_ne.2 hz,Bool.false_eq_true,if_false] at h ⊢
    split
    ·exact hc.2
    ·exact hc.2
  ·simp[hc] at h
structure Twin (st:P.Stm) (x:R.Lh):Prop where
 txt:R.lineT x=P.instr st
 rd:R.isR x=P.isR st
 wr:R.isW x=P.isW st
 fn:R.isF x=P.isF st
 br:R.isB x=(st.kind==5)
 k10:(st.kind==10)=false
 k11:(st.kind==11)=false
 gen:∀ (o' s':Int) (ob sb:ByteArray),P.sufT { st with order:=o',scope:=s' }=46::R.scopd ob.toList sb.toList→R.lineT { x with ord:=ob,scope:=sb }=P.instr { st with order:=o',scope:=s' }
 fe:(x.op.toList==R.sFence.toList)=(st.kind==4)
 se:(x.op.toList==R.sSet.toList)=P.isReg st.kind
 acc:P.isAcc st.kind=true→x.var=st.var∧0≤st.var∧st.var<3
 nac:P.isAcc st.kind=false→x.var=-1
 os:(P.isAcc st.kind||st.kind==4)=true→x.ord.toList=ordW st.order∧x.scope.toList=scW st.order st.scope∧OkOS st.order st.scope∧P.allows st.kind st.order=true
 non:(P.isAcc st.kind||st.kind==4)=false→x.scope.toList=[]
theorem x0_scope:R.x0.scope.toList=[]:=by rw[R.x0,lit_toList]
theorem twin_barrier:Twin { P.Stm.zero with kind:=5 } { R.x0 with op:=R.sBarrier }:=by
 refine⟨?_,?_,?_,?_,?_,rfl,rfl,?_,?_,?_,?_,?_,?_,?_⟩
 ·simp[R.lineT,R.isR,R.isW,R.isF,R.isB,P.instr,P.isR,P.isW,P.isF,P.reads,P.writes,R.sBarrier,R.sLoad,R.sStore,R.sFence,R.lAdd,R.lSwap,lit_toList,P.Stm.zero]
 ·simp[R.lineT,R.isR,R.isW,R.isF,R.isB,P.instr,P.isR,P.isW,P.isF,P.reads,P.writes,R.sBarrier,R.sLoad,R.sStore,R.sFence,R.lAdd,R.lSwap,lit_toList,P.Stm.zero]
 ·simp[R.lineT,R.isR,R.isW,R.isF,R.isB,P.instr,P.isR,P.isW,P.isF,P.reads,P.writes,R.sBarrier,R.sLoad,R.sStore,R.sFence,R.lAdd,R.lSwap,lit_toList,P.Stm.zero]
 ·simp[R.lineT,R.isR,R.isW,R.isF,R.isB,P.instr,P.isR,P.isW,P.isF,P.reads,P.writes,R.sBarrier,R.sLoad,R.sStore,R.sFence,R.lAdd,R.lSwap,lit_toList,P.Stm.zero]
 ·simp[R.lineT,R.isR,R.isW,R.isF,R.isB,P.instr,P.isR,P.isW,P.isF,P.reads,P.writes,R.sBarrier,R.sLoad,R.sStore,R.sFence,R.lAdd,R.lSwap,lit_toList,P.Stm.zero]
 ·intro o' s' ob sb _;simp[R.lineT,R.isR,R.isW,R.isF,R.isB,P.instr,P.isR,P.isW,P.isF,P.reads,P.writes,R.sBarrier,R.sLoad,R.sStore,R.sFence,R.lAdd,R.lSwap,lit_toList,P.Stm.zero]
 ·simp[R.sBarrier,R.sLoad,R.sStore,R.sFence,R.sSet,R.lAdd,R.lSwap,lit_toList,P.Stm.zero]
 ·simp[P.isReg,R.sBarrier,R.sLoad,R.sStore,R.sFence,R.sSet,R.lAdd,R.lSwap,lit_toList,P.Stm.zero]
 ·intro h;simp[P.isAcc,P.Stm.zero] at h
 ·intro _;rfl
 ·intro h;simp[P.isAcc,P.Stm.zero] at h
 ·intro _;exact x0_scope
theorem stmt_fence (r:List ByteArray):(P.ordering { P.Stm.zero with kind:=4 } (r.map ByteArray.toList)).2=(R.how { R.x0 with op:=R.sFence } R.oFence r).2∧((R.how { R.x0 with op:=R.sFence } R.oFence r).2=true→Twin (P.ordering { P.Stm.zero with kind:=4 } (r.map ByteArray.toList)).1 (R.how { R.x0 with op:=R.sFence } R.oFence r).1):=by
 have h:=how_eq { P.Stm.zero with kind:=4 } { R.x0 with op:=R.sFence } R.oFence agree_fence x0_scope rfl r
 refine⟨h.1,fun hok=>?_⟩
 have s:=h.2 hok
 have al:=ordering_al _ _ (h.1.trans hok)
 generalize (P.ordering { P.Stm.zero with kind:=4 } (r.map ByteArray.toList)).1=st at *
 generalize (R.how { R.x0 with op:=R.sFence } R.oFence r).1=x at *
 have hk:st.kind=4:=by rw[s.stm]
 have ho:x.op=R.sFence:=by rw[s.ln]
 have hsuf:=s.suf
 have hsc:=s.sc
 refine⟨?_,?_,?_,?_,?_,by rw[hk];rfl,by rw[hk];rfl,?_,?_,?_,?_,?_,?_,?_⟩
 ·simp[R.lineT,P.instr,hk,ho,R.sBarrier,R.sLoad,R.sStore,R.sFence,R.lAdd,R.lSwap,lit_toList,hsuf]
 ·simp[R.isR,P.isR,P.reads,hk,ho,R.sLoad,R.sFence,R.lAdd,R.lSwap,lit_toList]
 ·simp[R.isW,P.isW,P.writes,hk,ho,R.sStore,R.sFence,R.lAdd,R.lSwap,lit_toList]
 ·simp[R.isF,P.isF,hk,ho,R.sFence,lit_toList,← hsc]
 ·simp[R.isB,hk,ho,R.sFence,R.sBarrier,lit_toList]
 ·intro o' s' ob sb hsuf'
  simp only[hk] at hsuf'
  simp[R.lineT,R.regT,P.instr,hk,ho,R.sBarrier,R.sLoad,R.sStore,R.sFence,R.lAdd,R.lSwap,lit_toList,hsuf']
 ·simp[hk,ho,R.sBarrier,R.sLoad,R.sStore,R.sFence,R.sSet,R.lAdd,R.lSwap,lit_toList]
 ·simp[P.isReg,hk,ho,R.sBarrier,R.sLoad,R.sStore,R.sFence,R.sSet,R.lAdd,R.lSwap,lit_toList]
 ·intro h;rw[hk] at h;simp[P.isAcc] at h
 ·intro _;rw[s.ln];rfl
 ·intro _;exact⟨s.od,s.sp,s.ok,by rw[hk];exact al⟩
 ·intro h;rw[hk] at h;simp[P.isAcc] at h
theorem stmt_store (p v:ByteArray) (r:List ByteArray):(P.store ([115,116,111,114,101]::p.toList::v.toList::r.map ByteArray.toList)).2=(R.stStore p v r).2∧((R.stStore p v r).2=true→Twin (P.store ([115,116,111,114,101]::p.toList::v.toList::r.map ByteArray.toList)).1 (R.stStore p v r).1):=by
 have hv:=var_eq p.toList
 have ho:=opd_eq v.toList
 unfold P.store P.target R.stStore
 simp only[]
 cases h1:(P.varOf p.toList).2
 ·have hz:decide (0≤R.inn p.toList R.vars)=false:=by rw[← hv.1,h1]
  simp[hz]
 have hz:decide (0≤R.inn p.toList R.vars)=true:=by rw[← hv.1,h1]
 have hvv:=hv.2 h1
 simp only[if_true]
 cases h2:(P.operand v.toList).2
 ·have:(R.opd v.toList).2=false:=by rw[← ho.1,h2]
  simp[this]
 have h2':(R.opd v.toList).2=true:=by rw[← ho.1,h2]
 have hoo:=ho.2 h2
 have hn:=P.operand_ok _ h2
 simp only[if_true]
 have h:=how_eq { P.Stm.zero with kind:=1,var:=(P.varOf p.toList).1,a:=(P.operand v.toList).1 } { R.x0 with op:=R.sStore,var:=R.inn p.toList R.vars,a:=(R.opd v.toList).1 } R.oStore agree_store x0_scope rfl r
 rw[h2',hz]
 simp only[Bool.true_and,Bool.and_true]
 refine⟨h.1,fun hok=>?_⟩
 have s:=h.2 hok
 have al:=ordering_al _ _ (h.1.trans hok)
 generalize (P.ordering { P.Stm.zero with kind:=1,var:=(P.varOf p.toList).1,a:=(P.operand v.toList).1 } (r.map ByteArray.toList)).1=st at *
 generalize (R.how { R.x0 with op:=R.sStore,var:=R.inn p.toList R.vars,a:=(R.opd v.toList).1 } R.oStore r).1=x at *
 have hk:st.kind=1:=by rw[s.stm]
 have hop:x.op=R.sStore:=by rw[s.ln]
 have ha:st.a=(P.operand v.toList).1:=by rw[s.stm]
 have hxa:x.a=(R.opd v.toList).1:=by rw[s.ln]
 have hva:st.var=R.inn p.toList R.vars:=by rw[s.stm];exact hvv
 have hxv:x.var=R.inn p.toList R.vars:=by rw[s.ln]
 have hsuf:=s.suf
 have hge:0≤x.var:=by rw[hxv];exact of_decide_eq_true hz
 have hsh:R.shown x.a=P.opdT st.a:=by rw[hxa,← hoo,ha];exact shown_enc _ hn.1
 refine⟨?_,?_,?_,?_,?_,by rw[hk];rfl,by rw[hk];rfl,?_,?_,?_,?_,?_,?_,?_⟩
 ·have hcel:R.celT x.var=P.celT st.var:=by rw[cel_eq _ hge,hva,hxv]
  simp[R.lineT,P.instr,hk,hop,R.sBarrier,R.sLoad,R.sStore,R.sFence,R.lAdd,R.lSwap,lit_toList,hsuf,hsh,hcel]
 ·simp[R.isR,P.isR,P.reads,hk,hop,R.sLoad,R.sStore,R.lAdd,R.lSwap,lit_toList]
 ·simp[R.isW,P.isW,P.writes,hk,hop,R.sStore,R.lAdd,R.lSwap,lit_toList]
 ·simp[R.isF,P.isF,hk,hop,R.sFence,R.sStore,lit_toList]
 ·simp[R.isB,hk,hop,R.sStore,R.sBarrier,lit_toList]
 ·intro o' s' ob sb hsuf'
  simp only[hk] at hsuf'
  have hcel:R.celT x.var=P.celT st.var:=by rw[cel_eq _ hge,hva,hxv]
  simp[R.lineT,R.regT,P.instr,hk,hop,R.sBarrier,R.sLoad,R.sStore,R.sFence,R.lAdd,R.lSwap,lit_toList,hsuf',hsh,hcel]
 ·simp[hk,hop,R.sBarrier,R.sLoad,R.sStore,R.sFence,R.sSet,R.lAdd,R.lSwap,lit_toList]
 ·simp[P.isReg,hk,hop,R.sBarrier,R.sLoad,R.sStore,R.sFence,R.sSet,R.lAdd,R.lSwap,lit_toList]
 ·intro _;exact⟨by rw[hxv,hva],by rw[hva];exact (var_bd hz).1,by rw[hva];exact (var_bd hz).2⟩
 ·intro h;rw[hk] at h;simp[P.isAcc] at h
 ·intro _;exact⟨s.od,s.sp,s.ok,by rw[hk];exact al⟩
 ·intro h;rw[hk] at h;simp[P.isAcc] at h
theorem stmt_load (d p:ByteArray) (r:List ByteArray) (hd:(P.register d.toList).2=true):(P.load { P.Stm.zero with dest:=(P.register d.toList).1 } (p.toList::r.map ByteArray.toList)).2=(R.stLoad d p r).2∧((R.stLoad d p r).2=true→Twin (P.load { P.Stm.zero with dest:=(P.register d.toList).1 } (p.toList::r.map ByteArray.toList)).1 (R.stLoad d p r).1):=by
 have hv:=var_eq p.toList
 have hr:=reg_eq d.toList
 have hrz:decide (0≤R.inn d.toList R.regs)=true:=by rw[← hr.1,hd]
 have hrr:=hr.2 hd
 unfold R.stLoad
 simp only[]
 cases h1:(P.varOf p.toList).2
 ·have hz:decide (0≤R.inn p.toList R.vars)=false:=by rw[← hv.1,h1]
  rw[P.load_no _ _ _ h1]
  simp[hz]
 have hz:decide (0≤R.inn p.toList R.vars)=true:=by rw[← hv.1,h1]
 have hvv:=hv.2 h1
 rw[P.load_yes _ _ _ h1,hz,hrz]
 simp only[Bool.true_and,Bool.and_true]
 have h:=how_eq { P.Stm.zero with dest:=(P.register d.toList).1,kind:=0,var:=(P.varOf p.toList).1 } { R.x0 with reg:=R.inn d.toList R.regs,op:=R.sLoad,var:=R.inn p.toList R.vars } R.oLoad agree_load x0_scope rfl r
 refine⟨h.1,fun hok=>?_⟩
 have s:=h.2 hok
 have al:=ordering_al _ _ (h.1.trans hok)
 simp only[] at s al ⊢
 generalize (P.ordering { P.Stm.zero with dest:=(P.register d.toList).1,kind:=0,var:=(P.varOf p.toList).1 } (r.map ByteArray.toList)).1=st at s al ⊢
 generalize (R.how { R.x0 with reg:=R.inn d.toList R.regs,op:=R.sLoad,var:=R.inn p.toList R.vars } R.oLoad r).1=x at s ⊢
 have hk:st.kind=0:=by rw[s.stm]
 have hop:x.op=R.sLoad:=by rw[s.ln]
 have hva:st.var=R.inn p.toList R.vars:=by rw[s.stm];exact hvv
 have hxv:x.var=R.inn p.toList R.vars:=by rw[s.ln]
 have hde:st.dest=R.inn d.toList R.regs:=by rw[s.stm];exact hrr
 have hxr:x.reg=R.inn d.toList R.regs:=by rw[s.ln]
 have hsuf:=s.suf
 have hge:0≤x.var:=by rw[hxv];exact of_decide_eq_true hz
 have hcel:R.celT x.var=P.celT st.var:=by rw[cel_eq _ hge,hva,hxv]
 have hreg:R.regT x=P.regT st.dest:=by unfold R.regT;rw[hxr,hde];exact shown_reg _ (of_decide_eq_true hrz)
 refine⟨?_,?_,?_,?_,?_,by rw[hk];rfl,by rw[hk];rfl,?_,?_,?_,?_,?_,?_,?_⟩
 ·simp[R.lineT,P.instr,hk,hop,R.sBarrier,R.sLoad,R.sStore,R.sFence,R.lAdd,R.lSwap,lit_toList,hsuf,hcel,hreg]
 ·simp[R.isR,P.isR,P.reads,hk,hop,R.sLoad,R.lAdd,R.lSwap,lit_toList]
 ·simp[R.isW,P.isW,P.writes,hk,hop,R.sLoad,R.sStore,R.lAdd,R.lSwap,lit_toList]
 ·simp[R.isF,P.isF,hk,hop,R.sFence,R.sLoad,lit_toList]
 ·simp[R.isB,hk,hop,R.sLoad,R.sBarrier,lit_toList]
 ·intro o' s' ob sb hsuf'
  simp only[hk] at hsuf'
  have hreg2:=hreg
  try unfold R.regT at hreg2
  simp[R.lineT,R.regT,P.instr,hk,hop,R.sBarrier,R.sLoad,R.sStore,R.sFence,R.lAdd,R.lSwap,lit_toList,hsuf',hcel,hreg2]
 ·simp[hk,hop,R.sBarrier,R.sLoad,R.sStore,R.sFence,R.sSet,R.lAdd,R.lSwap,lit_toList]
 ·simp[P.isReg,hk,hop,R.sBarrier,R.sLoad,R.sStore,R.sFence,R.sSet,R.lAdd,R.lSwap,lit_toList]
 ·intro _;exact⟨by rw[hxv,hva],by rw[hva];exact (var_bd hz).1,by rw[hva];exact (var_bd hz).2⟩
 ·intro h;rw[hk] at h;simp[P.isAcc] at h
 ·intro _;exact⟨s.od,s.sp,s.ok,by rw[hk];exact al⟩
 ·intro h;rw[hk] at h;simp[P.isAcc] at h
theorem stmt_add (d c p v:ByteArray) (r:List ByteArray) (hd:(P.register d.toList).2=true) (hc:c.toList=[97,100,100]):(P.step { P.Stm.zero with dest:=(P.register d.toList).1 } 2 (p.toList::v.toList::r.map ByteArray.toList)).2=(R.stStep d c p v r).2∧((R.stStep d c p v r).2=true→Twin (P.step { P.Stm.zero with dest:=(P.register d.toList).1 } 2 (p.toList::v.toList::r.map ByteArray.toList)).1 (R.stStep d c p v r).1):=by
 have hv:=var_eq p.toList
 have ho:=opd_eq v.toList
 have hr:=reg_eq d.toList
 have hrz:decide (0≤R.inn d.toList R.regs)=true:=by rw[← hr.1,hd]
 have hrr:=hr.2 hd
 unfold P.step P.target R.stStep
 simp only[]
 cases h1:(P.varOf p.toList).2
 ·have hz:decide (0≤R.inn p.toList R.vars)=false:=by rw[← hv.1,h1]
  simp[hz]
 have hz:decide (0≤R.inn p.toList R.vars)=true:=by rw[← hv.1,h1]
 have hvv:=hv.2 h1
 simp only[if_true]
 cases h2:(P.operand v.toList).2
 ·have:(R.opd v.toList).2=false:=by rw[← ho.1,h2]
  simp[this]
 have h2':(R.opd v.toList).2=true:=by rw[← ho.1,h2]
 have hoo:=ho.2 h2
 have hn:=P.operand_ok _ h2
 simp only[if_true]
 have h:=how_eq { P.Stm.zero with dest:=(P.register d.toList).1,kind:=2,var:=(P.varOf p.toList).1,a:=(P.operand v.toList).1 } { R.x0 with reg:=R.inn d.toList R.regs,op:=c,var:=R.inn p.toList R.vars,a:=(R.opd v.toList).1 } R.oStep agree_add x0_scope rfl r
 rw[h2',hz,hrz]
 simp only[Bool.true_and,Bool.and_true]
 refine⟨h.1,fun hok=>?_⟩
 have s:=h.2 hok
 have al:=ordering_al _ _ (h.1.trans hok)
 simp only[] at s al ⊢
 generalize (P.ordering { P.Stm.zero with dest:=(P.register d.toList).1,kind:=2,var:=(P.varOf p.toList).1,a:=(P.operand v.toList).1 } (r.map ByteArray.toList)).1=st at s al ⊢
 generalize (R.how { R.x0 with reg:=R.inn d.toList R.regs,op:=c,var:=R.inn p.toList R.vars,a:=(R.opd v.toList).1 } R.oStep r).1=x at s ⊢
 have hk:st.kind=2:=by rw[s.stm]
 have hop:x.op=c:=by rw[s.ln]
 have ha:st.a=(P.operand v.toList).1:=by rw[s.stm]
 have hxa:x.a=(R.opd v.toList).1:=by rw[s.ln]
 have hva:st.var=R.inn p.toList R.vars:=by rw[s.stm];exact hvv
 have hxv:x.var=R.inn p.toList R.vars:=by rw[s.ln]
 have hde:st.dest=R.inn d.toList R.regs:=by rw[s.stm];exact hrr
 have hxr:x.reg=R.inn d.toList R.regs:=by rw[s.ln]
 have hsuf:=s.suf
 have hge:0≤x.var:=by rw[hxv];exact of_decide_eq_true hz
 have hsh:R.shown x.a=P.opdT st.a:=by rw[hxa,← hoo,ha];exact shown_enc _ hn.1
 have hcel:R.celT x.var=P.celT st.var:=by rw[cel_eq _ hge,hva,hxv]
 have hreg:R.regT x=P.regT st.dest:=by unfold R.regT;rw[hxr,hde];exact shown_reg _ (of_decide_eq_true hrz)
 refine⟨?_,?_,?_,?_,?_,by rw[hk];rfl,by rw[hk];rfl,?_,?_,?_,?_,?_,?_,?_⟩
 ·simp[R.lineT,P.instr,hk,hop,hc,R.sBarrier,R.sLoad,R.sStore,R.sFence,R.lAdd,R.lSwap,lit_toList,hsuf,hsh,hcel,hreg]
 ·simp[R.isR,P.isR,P.reads,hk,hop,hc,R.sLoad,R.lAdd,R.lSwap,lit_toList]
 ·simp[R.isW,P.isW,P.writes,hk,hop,hc,R.sStore,R.lAdd,R.lSwap,lit_toList]
 ·simp[R.isF,P.isF,hk,hop,hc,R.sFence,lit_toList]
 ·simp[R.isB,hk,hop,hc,R.sBarrier,lit_toList]
 ·intro o' s' ob sb hsuf'
  simp only[hk] at hsuf'
  have hreg2:=hreg
  try unfold R.regT at hreg2
  simp[R.lineT,R.regT,P.instr,hk,hop,hc,R.sBarrier,R.sLoad,R.sStore,R.sFence,R.lAdd,R.lSwap,lit_toList,hsuf',hsh,hcel,hreg2]
 ·simp[hk,hop,hc,R.sBarrier,R.sLoad,R.sStore,R.sFence,R.sSet,R.lAdd,R.lSwap,lit_toList]
 ·simp[P.isReg,hk,hop,hc,R.sBarrier,R.sLoad,R.sStore,R.sFence,R.sSet,R.lAdd,R.lSwap,lit_toList]
 ·intro _;exact⟨by rw[hxv,hva],by rw[hva];exact (var_bd hz).1,by rw[hva];exact (var_bd hz).2⟩
 ·intro h;rw[hk] at h;simp[P.isAcc] at h
 ·intro _;exact⟨s.od,s.sp,s.ok,by rw[hk];exact al⟩
 ·intro h;rw[hk] at h;simp[P.isAcc] at h
theorem stmt_swap (d c p v:ByteArray) (r:List ByteArray) (hd:(P.register d.toList).2=true) (hc:c.toList=[115,119,97,112]):(P.step { P.Stm.zero with dest:=(P.register d.toList).1 } 3 (p.toList::v.toList::r.map ByteArray.toList)).2=(R.stStep d c p v r).2∧((R.stStep d c p v r).2=true→Twin (P.step { P.Stm.zero with dest:=(P.register d.toList).1 } 3 (p.toList::v.toList::r.map ByteArray.toList)).1 (R.stStep d c p v r).1):=by
 have hv:=var_eq p.toList
 have ho:=opd_eq v.toList
 have hr:=reg_eq d.toList
 have hrz:decide (0≤R.inn d.toList R.regs)=true:=by rw[← hr.1,hd]
 have hrr:=hr.2 hd
 unfold P.step P.target R.stStep
 simp only[]
 cases h1:(P.varOf p.toList).2
 ·have hz:decide (0≤R.inn p.toList R.vars)=false:=by rw[← hv.1,h1]
  simp[hz]
 have hz:decide (0≤R.inn p.toList R.vars)=true:=by rw[← hv.1,h1]
 have hvv:=hv.2 h1
 simp only[if_true]
 cases h2:(P.operand v.toList).2
 ·have:(R.opd v.toList).2=false:=by rw[← ho.1,h2]
  simp[this]
 have h2':(R.opd v.toList).2=true:=by rw[← ho.1,h2]
 have hoo:=ho.2 h2
 have hn:=P.operand_ok _ h2
 simp only[if_true]
 have h:=how_eq { P.Stm.zero with dest:=(P.register d.toList).1,kind:=3,var:=(P.varOf p.toList).1,a:=(P.operand v.toList).1 } { R.x0 with reg:=R.inn d.toList R.regs,op:=c,var:=R.inn p.toList R.vars,a:=(R.opd v.toList).1 } R.oStep agree_swap x0_scope rfl r
 rw[h2',hz,hrz]
 simp only[Bool.true_and,Bool.and_true]
 refine⟨h.1,fun hok=>?_⟩
 have s:=h.2 hok
 have al:=ordering_al _ _ (h.1.trans hok)
 simp only[] at s al ⊢
 generalize (P.ordering { P.Stm.zero with dest:=(P.register d.toList).1,kind:=3,var:=(P.varOf p.toList).1,a:=(P.operand v.toList).1 } (r.map ByteArray.toList)).1=st at s al ⊢
 generalize (R.how { R.x0 with reg:=R.inn d.toList R.regs,op:=c,var:=R.inn p.toList R.vars,a:=(R.opd v.toList).1 } R.oStep r).1=x at s ⊢
 have hk:st.kind=3:=by rw[s.stm]
 have hop:x.op=c:=by rw[s.ln]
 have ha:st.a=(P.operand v.toList).1:=by rw[s.stm]
 have hxa:x.a=(R.opd v.toList).1:=by rw[s.ln]
 have hva:st.var=R.inn p.toList R.vars:=by rw[s.stm];exact hvv
 have hxv:x.var=R.inn p.toList R.vars:=by rw[s.ln]
 have hde:st.dest=R.inn d.toList R.regs:=by rw[s.stm];exact hrr
 have hxr:x.reg=R.inn d.toList R.regs:=by rw[s.ln]
 have hsuf:=s.suf
 have hge:0≤x.var:=by rw[hxv];exact of_decide_eq_true hz
 have hsh:R.shown x.a=P.opdT st.a:=by rw[hxa,← hoo,ha];exact shown_enc _ hn.1
 have hcel:R.celT x.var=P.celT st.var:=by rw[cel_eq _ hge,hva,hxv]
 have hreg:R.regT x=P.regT st.dest:=by unfold R.regT;rw[hxr,hde];exact shown_reg _ (of_decide_eq_true hrz)
 refine⟨?_,?_,?_,?_,?_,by rw[hk];rfl,by rw[hk];rfl,?_,?_,?_,?_,?_,?_,?_⟩
 ·simp[R.lineT,P.instr,hk,hop,hc,R.sBarrier,R.sLoad,R.sStore,R.sFence,R.lAdd,R.lSwap,lit_toList,hsuf,hsh,hcel,hreg]
 ·simp[R.isR,P.isR,P.reads,hk,hop,hc,R.sLoad,R.lAdd,R.lSwap,lit_toList]
 ·simp[R.isW,P.isW,P.writes,hk,hop,hc,R.sStore,R.lAdd,R.lSwap,lit_toList]
 ·simp[R.isF,P.isF,hk,hop,hc,R.sFence,lit_toList]
 ·simp[R.isB,hk,hop,hc,R.sBarrier,lit_toList]
 ·intro o' s' ob sb hsuf'
  simp only[hk] at hsuf'
  have hreg2:=hreg
  try unfold R.regT at hreg2
  simp[R.lineT,R.regT,P.instr,hk,hop,hc,R.sBarrier,R.sLoad,R.sStore,R.sFence,R.lAdd,R.lSwap,lit_toList,hsuf',hsh,hcel,hreg2]
 ·simp[hk,hop,hc,R.sBarrier,R.sLoad,R.sStore,R.sFence,R.sSet,R.lAdd,R.lSwap,lit_toList]
 ·simp[P.isReg,hk,hop,hc,R.sBarrier,R.sLoad,R.sStore,R.sFence,R.sSet,R.lAdd,R.lSwap,lit_toList]
 ·intro _;exact⟨by rw[hxv,hva],by rw[hva];exact (var_bd hz).1,by rw[hva];exact (var_bd hz).2⟩
 ·intro h;rw[hk] at h;simp[P.isAcc] at h
 ·intro _;exact⟨s.od,s.sp,s.ok,by rw[hk];exact al⟩
 ·intro h;rw[hk] at h;simp[P.isAcc] at h
set_option linter.unusedSimpArgs false
theorem sign_eq (v:List UInt8):(P.sign v).2=decide (0≤R.inn v R.signs)∧((P.sign v).2=true→(P.sign v).1=7+R.inn v R.signs∧(R.inn v R.signs=0∨R.inn v R.signs=1∨R.inn v R.signs=2)):=by
 have e:P.splitAt 32 R.signs=[[43],[45],[61,61]]:=by decide
 rw[inn_lit v R.signs _ e]
 by_cases h1:v=[43]
 ·subst h1;decide
 by_cases h2:v=[45]
 ·subst h2;decide
 by_cases h3:v=[61,61]
 ·subst h3;decide
 have:(P.sign v).2=false:=by unfold P.sign;simp[h1,h2,h3]
 rw[this]
 simp[R.idxFrom,Ne.symm h1,Ne.symm h2,Ne.symm h3]
theorem stmt_one (d a:ByteArray) (hd:(P.register d.toList).2=true):(P.sum { P.Stm.zero with dest:=(P.register d.toList).1 } [a.toList]).2=(R.stOne d a).2∧((R.stOne d a).2=true→Twin (P.sum { P.Stm.zero with dest:=(P.register d.toList).1 } [a.toList]).1 (R.stOne d a).1):=by
 have ho:=opd_eq a.toList
 have hr:=reg_eq d.toList
 have hrz:decide (0≤R.inn d.toList R.regs)=true:=by rw[← hr.1,hd]
 have hrr:=hr.2 hd
 unfold R.stOne
 simp only[hrz,Bool.true_and]
 cases h2:(P.operand a.toList).2
 ·have:(R.opd a.toList).2=false:=by rw[← ho.1,h2]
  rw[P.sum_no _ _ _ h2,this];simp
 have h2':(R.opd a.toList).2=true:=by rw[← ho.1,h2]
 have hoo:=ho.2 h2
 have hn:=P.operand_ok _ h2
 rw[P.sum_one _ _ h2,h2']
 refine⟨rfl,fun _=>?_⟩
 have hsh:R.shown (R.opd a.toList).1=P.opdT (P.operand a.toList).1:=by rw[← hoo];exact shown_enc _ hn.1
 have hreg:R.shown (-1-R.inn d.toList R.regs)=P.regT (P.register d.toList).1:=by rw[hrr];exact shown_reg _ (of_decide_eq_true hrz)
 have hsg:R.inn R.x0.sign.toList R.signs<0:=by rw[R.x0,lit_toList];decide
 refine⟨?_,?_,?_,?_,?_,rfl,rfl,?_,?_,?_,?_,?_,?_,?_⟩
 ·simp[R.lineT,R.regT,P.instr,R.sSet,R.sBarrier,R.sLoad,R.sStore,R.sFence,R.lAdd,R.lSwap,lit_toList,hsg,hsh,hreg]
 ·simp[R.isR,P.isR,P.reads,R.sSet,R.sLoad,R.lAdd,R.lSwap,lit_toList]
 ·simp[R.isW,P.isW,P.writes,R.sSet,R.sStore,R.lAdd,R.lSwap,lit_toList]
 ·simp[R.isF,P.isF,R.sSet,R.sFence,lit_toList]
 ·simp[R.isB,R.sSet,R.sBarrier,lit_toList]
 ·intro o' s' ob sb hsuf'
  have hreg2:=hreg
  try unfold R.regT at hreg2
  simp[R.lineT,R.regT,P.instr,R.sSet,R.sBarrier,R.sLoad,R.sStore,R.sFence,R.lAdd,R.lSwap,lit_toList,hsg,hsh,hreg2]
 ·simp[R.sBarrier,R.sLoad,R.sStore,R.sFence,R.sSet,R.lAdd,R.lSwap,lit_toList]
 ·simp[P.isReg,R.sBarrier,R.sLoad,R.sStore,R.sFence,R.sSet,R.lAdd,R.lSwap,lit_toList]
 ·intro h;simp[P.isAcc] at h
 ·intro _;rfl
 ·intro h;simp[P.isAcc] at h
 ·intro _;exact x0_scope
theorem stmt_two (d a s b:ByteArray) (hd:(P.register d.toList).2=true):(P.sum { P.Stm.zero with dest:=(P.register d.toList).1 } [a.toList,s.toList,b.toList]).2=(R.stTwo d a s b).2∧((R.stTwo d a s b).2=true→Twin (P.sum { P.Stm.zero with dest:=(P.register d.toList).1 } [a.toList,s.toList,b.toList]).1 (R.stTwo d a s b).1):=by
 have ho:=opd_eq a.toList
 have hb:=opd_eq b.toList
 have hs:=sign_eq s.toList
 have hr:=reg_eq d.toList
 have hrz:decide (0≤R.inn d.toList R.regs)=true:=by rw[← hr.1,hd]
 have hrr:=hr.2 hd
 unfold R.stTwo
 simp only[hrz,Bool.true_and]
 cases h2:(P.operand a.toList).2
 ·have:(R.opd a.toList).2=false:=by rw[← ho.1,h2]
  rw[P.sum_no _ _ _ h2,this];simp
 have h2':(R.opd a.toList).2=true:=by rw[← ho.1,h2]
 cases h3:(P.sign s.toList).2
 ·have:decide (0≤R.inn s.toList R.signs)=false:=by rw[← hs.1,h3]
  rw[P.sum_sign _ _ _ _ h2 h3,this];simp
 have h3':decide (0≤R.inn s.toList R.signs)=true:=by rw[← hs.1,h3]
 rw[P.sum_all _ _ _ _ h2 h3,h2',h3']
 simp only[Bool.true_and,Bool.and_true]
 refine⟨hb.1,fun hbb=>?_⟩
 have h4:(P.operand b.toList).2=true:=by rw[hb.1];exact hbb
 have hoo:=ho.2 h2
 have hbo:=hb.2 h4
 have hn:=P.operand_ok _ h2
 have hm:=P.operand_ok _ h4
 have hsh:R.shown (R.opd a.toList).1=P.opdT (P.operand a.toList).1:=by rw[← hoo];exact shown_enc _ hn.1
 have hsb:R.shown (R.opd b.toList).1=P.opdT (P.operand b.toList).1:=by rw[← hbo];exact shown_enc _ hm.1
 have hreg:R.shown (-1-R.inn d.toList R.regs)=P.regT (P.register d.toList).1:=by rw[hrr];exact shown_reg _ (of_decide_eq_true hrz)
 obtain⟨hk,hc⟩:=hs.2 h3
 rcases hc with hc | hc | hc
 all_goals
  rw[hc] at hk
  refine⟨?_,?_,?_,?_,?_,by simp[hk],by simp[hk],?_,?_,?_,?_,?_,?_,?_⟩
  ·simp[R.lineT,R.regT,P.instr,hk,hc,R.sSet,R.sBarrier,R.sLoad,R.sStore,R.sFence,R.lAdd,R.lSwap,lit_toList,hsh,hsb,hreg]
  ·simp[R.isR,P.isR,P.reads,hk,R.sSet,R.sLoad,R.lAdd,R.lSwap,lit_toList]
  ·simp[R.isW,P.isW,P.writes,hk,R.sSet,R.sStore,R.lAdd,R.lSwap,lit_toList]
  ·simp[R.isF,P.isF,hk,R.sSet,R.sFence,lit_toList]
  ·simp[R.isB,hk,R.sSet,R.sBarrier,lit_toList]
  ·intro o' s' ob sb hsuf'
   have hreg2:=hreg
   try unfold R.regT at hreg2
   simp[R.lineT,R.regT,P.instr,hk,hc,R.sSet,R.sBarrier,R.sLoad,R.sStore,R.sFence,R.lAdd,R.lSwap,lit_toList,hsh,hsb,hreg2]
  ·simp[hk,R.sBarrier,R.sLoad,R.sStore,R.sFence,R.sSet,R.lAdd,R.lSwap,lit_toList]
  ·simp[P.isReg,hk,R.sBarrier,R.sLoad,R.sStore,R.sFence,R.sSet,R.lAdd,R.lSwap,lit_toList]
  ·intro h;simp[hk,P.isAcc] at h
  ·intro _;rfl
  ·intro h;simp[hk,P.isAcc] at h
  ·intro _;exact x0_scope
theorem bf {x:P.Stm × Bool} {y:R.Lh × Bool} (hx:x.2=false) (hy:y.2=false):x.2=y.2∧(y.2=true→Twin x.1 y.1):=⟨by rw[hx,hy],fun h=>by rw[hy] at h;cases h⟩
theorem load_short (st:P.Stm) (l:List (List UInt8)) (h:l.length<2):(P.load st l).2=false:=by
 match l,h with
 | [],_=>rfl
 | [p],_ =>
  cases hp:(P.varOf p).2
  ·rw[P.load_no _ _ _ hp]
  ·rw[P.load_yes _ _ _ hp];rfl
theorem step_short (st:P.Stm) (k:Int) (l:List (List UInt8)) (h:l.length<3):(P.step st k l).2=false:=by
 match l,h with
 | [],_=>rfl
 | [_],_=>rfl
 | [p,v],_ =>
  cases hp:(P.target { st with kind:=k } p v).2
  ·rw[P.step_no _ _ _ _ _ hp]
  ·rw[P.step_yes _ _ _ _ _ hp];rfl
def rest (d c:ByteArray):List ByteArray→R.Lh × Bool
 | []=>R.stOne d c
 | [s,b]=>R.stTwo d c s b
 | _=>R.stElse d c
theorem rest_false (d c:ByteArray) (r:List ByteArray) (h:(R.opd c.toList).2=false):(rest d c r).2=false:=by
 match r with
 | []=>simp[rest,R.stOne,h]
 | [s,b]=>simp[rest,R.stTwo,h]
 | [_]=>rfl
 | _::_::_::_=>rfl
theorem asg_load (d c:ByteArray) (r:List ByteArray) (hc:c.toList=[108,111,97,100]):R.assign d c r=match r with
  | p::q::t=>R.stLoad d p (q::t)
  | _=>rest d c r:=by
 unfold R.assign
 match r with
 | []=>simp[hc,rest]
 | [_]=>simp[hc,rest]
 | _::_::_=>simp[hc]
theorem asg_step (d c:ByteArray) (r:List ByteArray) (hc:c.toList=[97,100,100]∨c.toList=[115,119,97,112]):R.assign d c r=match r with
  | p::v::q::t=>R.stStep d c p v (q::t)
  | _=>rest d c r:=by
 unfold R.assign
 match r with
 | []=>rcases hc with hc | hc<;>simp[hc,rest]
 | [_]=>rcases hc with hc | hc<;>simp[hc,rest]
 | [_,_]=>rcases hc with hc | hc<;>simp[hc,rest]
 | _::_::_::_=>rcases hc with hc | hc<;>simp[hc]
theorem asg_rest (d c:ByteArray) (r:List ByteArray) (h1:¬ c.toList=[108,111,97,100]) (h2:¬ c.toList=[97,100,100]) (h3:¬ c.toList=[115,119,97,112]):R.assign d c r=rest d c r:=by
 unfold R.assign
 match r with
 | []=>simp[h1,h2,h3,rest]
 | [_]=>simp[h1,h2,h3,rest]
 | [_,_]=>simp[h1,h2,h3,rest]
 | _::_::_::_=>simp[h1,h2,h3,rest]
theorem pasg (d c:List UInt8) (r:List (List UInt8)) (hd:(P.register d).2=true):P.assignment (d::[61]::c::r) =
  if c=[108,111,97,100] then P.load { P.Stm.zero with dest:=(P.register d).1 } r else if c=[97,100,100] then P.step { P.Stm.zero with dest:=(P.register d).1 } 2 r
  else if c=[115,119,97,112] then P.step { P.Stm.zero with dest:=(P.register d).1 } 3 r else P.sum { P.Stm.zero with dest:=(P.register d).1 } (c::r):=by
 simp[P.assignment,hd]
theorem assign_eq (d c:ByteArray) (r:List ByteArray) (hd:(P.register d.toList).2=true) :
  (P.assignment (d.toList::[61]::c.toList::r.map ByteArray.toList)).2=(R.assign d c r).2∧((R.assign d c r).2=true→Twin (P.assignment (d.toList::[61]::c.toList::r.map ByteArray.toList)).1 (R.assign d c r).1):=by
 rw[pasg _ _ _ hd]
 by_cases h1:c.toList=[108,111,97,100]
 ·have hoc:(R.opd c.toList).2=false:=by rw[h1];decide
  rw[if_pos h1,asg_load d c r h1]
  match r with
  | []=>exact bf (load_short _ _ (by simp)) (rest_false d c _ hoc)
  | [p]=>exact bf (load_short _ _ (by simp)) (rest_false d c _ hoc)
  | p::q::t=>exact stmt_load d p (q::t) hd
 rw[if_neg h1]
 by_cases h2:c.toList=[97,100,100]
 ·have hoc:(R.opd c.toList).2=false:=by rw[h2];decide
  rw[if_pos h2,asg_step d c r (Or.inl h2)]
  match r with
  | []=>exact bf (step_short _ _ _ (by simp)) (rest_false d c _ hoc)
  | [p]=>exact bf (step_short _ _ _ (by simp)) (rest_false d c _ hoc)
  | [p,v]=>exact bf (step_short _ _ _ (by simp)) (rest_false d c _ hoc)
  | p::v::q::t=>exact stmt_add d c p v (q::t) hd h2
 rw[if_neg h2]
 by_cases h3:c.toList=[115,119,97,112]
 ·have hoc:(R.opd c.toList).2=false:=by rw[h3];decide
  rw[if_pos h3,asg_step d c r (Or.inr h3)]
  match r with
  | []=>exact bf (step_short _ _ _ (by simp)) (rest_false d c _ hoc)
  | [p]=>exact bf (step_short _ _ _ (by simp)) (rest_false d c _ hoc)
  | [p,v]=>exact bf (step_short _ _ _ (by simp)) (rest_false d c _ hoc)
  | p::v::q::t=>exact stmt_swap d c p v (q::t) hd h3
 rw[if_neg h3,asg_rest d c r h1 h2 h3]
 match r with
 | []=>exact stmt_one d c hd
 | [x]=>exact bf (by rw[P.sum_len _ _ (by simp) (by simp)]) rfl
 | [s,b]=>exact stmt_two d c s b hd
 | x::y::z::t=>exact bf (by rw[P.sum_len _ _ (by simp) (by simp)]) rfl
theorem assign_noreg (d c:ByteArray) (r:List ByteArray) (h:decide (0≤R.inn d.toList R.regs)=false):(R.assign d c r).2=false:=by
 have hr:∀ q,(rest d c q).2=false:=fun q=>by
  match q with
  | []=>simp[rest,R.stOne,h]
  | [_,_]=>simp[rest,R.stTwo,h]
  | [_]=>rfl
  | _::_::_::_=>rfl
 by_cases h1:c.toList=[108,111,97,100]
 ·rw[asg_load d c r h1]
  match r with
  | []=>exact hr _
  | [_]=>exact hr _
  | p::q::t=>simp[R.stLoad,h]
 by_cases h2:c.toList=[97,100,100]∨c.toList=[115,119,97,112]
 ·rw[asg_step d c r h2]
  match r with
  | []=>exact hr _
  | [_]=>exact hr _
  | [_,_]=>exact hr _
  | p::v::q::t=>simp[R.stStep,h]
 ·rw[asg_rest d c r h1 (fun e=>h2 (Or.inl e)) (fun e=>h2 (Or.inr e))];exact hr _
theorem stmt_eq (c:ByteArray) (r:List ByteArray) (hif:¬ c.toList=[105,102]) (hen:¬ c.toList=[101,110,100]) :
  (P.statement (c.toList::r.map ByteArray.toList)).2=(R.stmt c r).2∧((R.stmt c r).2=true→Twin (P.statement (c.toList::r.map ByteArray.toList)).1 (R.stmt c r).1):=by
 unfold P.statement R.stmt
 by_cases hb:c.toList=[98,97,114,114,105,101,114]
 ·simp only[hb]
  refine⟨by simp,fun _=>?_⟩
  simpa using twin_barrier
 by_cases hf:c.toList=[102,101,110,99,101]
 ·simp only[hf]
  simpa [P.fence] using stmt_fence r
 by_cases hs:c.toList=[115,116,111,114,101]
 ·simp only[hs]
  match r with
  | []=>exact bf (by simp[P.store]) (by simp)
  | [x]=>exact bf (by simp[P.store]) (by simp)
  | [x,y] =>
   refine bf ?_ ?_
   ·simp only[List.map_cons,List.map_nil]
    have:(P.store [[115,116,111,114,101],x.toList,y.toList]).2=false:=by
     unfold P.store
     simp only[]
     split
     ·rfl
     ·rfl
    simpa using this
   ·simp
    split
    ·exact assign_noreg c y [] (by rw[hs,inn_regs];decide)
    ·rfl
  | p::v::q::t=>simpa using stmt_store p v (q::t)
 have e1:(c.toList==[115,116,111,114,101])=false:=by simpa using hs
 have e2:(c.toList==[102,101,110,99,101])=false:=by simpa using hf
 have e3:(c.toList==[98,97,114,114,105,101,114])=false:=by simpa using hb
 have e4:(c.toList==[105,102])=false:=by simpa using hif
 have e5:(c.toList==[101,110,100])=false:=by simpa using hen
 simp only[e1,e2,e3,e4,e5,Bool.false_eq_true,if_false,Bool.false_and]
 match r with
 | []=>exact bf rfl rfl
 | [_]=>exact bf rfl rfl
 | e::d::q =>
  simp only[List.map_cons]
  by_cases he:e.toList=[61]
  ·have he':(e.toList==[61])=true:=by simpa using he
   simp only[he',if_true]
   rw[he]
   cases hreg:(P.register c.toList).2
   ·exact bf (by simp[P.assignment,hreg]) (assign_noreg c d q (by rw[← (reg_eq c.toList).1,hreg]))
   ·exact assign_eq c d q hreg
  ·have he':(e.toList==[61])=false:=by simpa using he
   simp only[he',Bool.false_eq_true,if_false]
   rw[Pasg_eq _ _ _ _ he']
   refine⟨rfl,fun h=>?_⟩
   exact absurd h (by decide)
end Go.Proofs.YtpkjmdcabdplfaaGreatDoor
