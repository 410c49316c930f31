import Derived.Test.YtlikcongbhhpfaaGreatDoorM23
import Derived.Test.YtlikcongbhhpfaaGreatDoorM20
import Derived.Test.YtlikcongbhhpfaaGreatDoorM10
set_option linter.unusedVariables false
set_option linter.unusedSimpArgs false
set_option maxHeartbeats 12800000
namespace Go.Proofs.YtlikcongbhhpfaaGreatDoor
open Go Go.RowKit Go.Proofs.Tryz P Q
set_option maxRecDepth 1000000
variable {st st':JR}{d k:Int}{ws:List (List UInt8)}{m:Ex}{n:Nat}
open _root_.Array renaming size->N
open Go.World renaming heap->M
open Bool renaming true->C,false->O
open Go.Obj renaming cells->I
open Option renaming none->U
open Or renaming inr->xF,inl->xR
open Go.RowKit.Below renaming refl->xW
open Nat renaming le_refl->x0,lt_of_lt_of_le->x5
open List renaming mem_append->x1,mem_cons_of_mem->x2,mem_singleton->x3,isEmpty_iff->x6,getElem_mem->x7,getElem?_eq_none->x8,mem_or_eq_of_mem_set->x9
open Go.World renaming frozen?->x4
open Bool renaming or_eq_true->xa
namespace P
structure OS(k o s:Int):Prop where
 al:OQ k o=C
 sc:s=0\/s=1
 wk:o=0->s=0
theorem zQ{r:List (List UInt8)}(f:st.scope=0)(h:dI st r=(st',C)):∃o s,OS st.k o s/\st'={st with q:=o,scope:=s}:=by
 match r,h with
 |[],h=>simp[dI]at h
 |o::r,h =>
  by_cases b:(aF o).2=C
  rotate_left
  ·have b:(aF o).2=O:=by simpa using b
   simp[dI,b]at h
  by_cases a:OQ st.k (aF o).1=C
  rotate_left
  ·have a:OQ st.k (aF o).1=O:=by simpa using a
   simp[dI,a]at h
  by_cases c0:(aF o).1=0
  ·rw[RW st o r b a c0]at h;simp only[Prod.mk.injEq]at h;exact⟨0,0,⟨by rw[<- c0];exact a,xR Z,fun _=>Z⟩,by rw[<- h.1,<- f]⟩
  ·have c:((aF o).1==0)=O:=by simpa using c0
   match r,h with
   |[],h=>rw[RX st o b a c]at h;simp at h
   |[s],h =>
    rw[RY st o s b a c]at h;simp only[Prod.mk.injEq]at h;refine⟨(aF o).1,(scope s).1,⟨a,?_,fun e=>absurd e c0⟩,h.1.symm⟩;unfold scope
    split
    ·exact xR Z
    ·split
     ·exact xF Z
     ·exact xR Z
   |s::t::q,h=>rw[RZ st o s t q b a c]at h;simp at h
def mD(ws:List (List UInt8))(st:JR):Prop :=
 (∃p v r o s,ws=[115,116,111,114,101]::p::v::r/\(cR p).2=C/\(aO v).2=C/\OS 1 o s/\st={JR.zero with k:=1,z:=(cR p).1,a:=(aO v).1,q:=o,scope:=s}) \/
 (∃d v r o s,ws=d::[61]::[108,111,97,100]::v::r/\(aS d).2=C/\(cR v).2=C/\OS 0 o s/\st={JR.zero with k:=0,dest:=(aS d).1,z:=(cR v).1,q:=o,scope:=s}) \/
 (∃d p v r o s,ws=d::[61]::[97,100,100]::p::v::r/\(aS d).2=C/\(cR p).2=C/\(aO v).2=C/\OS 2 o s/\st={JR.zero with k:=2,dest:=(aS d).1,z:=(cR p).1,a:=(aO v).1,q:=o,scope:=s}) \/
 (∃d p v r o s,ws=d::[61]::[115,119,97,112]::p::v::r/\(aS d).2=C/\(cR p).2=C/\(aO v).2=C/\OS 3 o s/\st={JR.zero with k:=3,dest:=(aS d).1,z:=(cR p).1,a:=(aO v).1,q:=o,scope:=s}) \/
 (∃r o s,ws=[102,101,110,99,101]::r/\OS 4 o s/\st={JR.zero with k:=4,q:=o,scope:=s}) \/
 ws=[[98,97,114,114,105,101,114]]/\st={JR.zero with k:=5} \/
 (∃a,ws=[[105,102],a]/\(aO a).2=C/\st={JR.zero with k:=10,a:=(aO a).1}) \/
 ws=[[101,110,100]]/\st={JR.zero with k:=11} \/
 (∃d a,ws=[d,[61],a]/\(aS d).2=C/\(aO a).2=C/\st={JR.zero with k:=6,dest:=(aS d).1,a:=(aO a).1}) \/
 ∃d a s b,ws=[d,[61],a,s,b]/\(aS d).2=C/\(aO a).2=C/\(aO b).2=C/\(cX s).2=C/\st={JR.zero with k:=(cX s).1,dest:=(aS d).1,a:=(aO a).1,b:=(aO b).1}
theorem XU{p v:List UInt8}(h:MI st p v=(st',C)):(cR p).2=C/\(aO v).2=C/\st'={st with z:=(cR p).1,a:=(aO v).1}:=by
 unfold MI at h
 split at h
 ·rename_i c;simp only[Prod.mk.injEq]at h;exact⟨c,h.2,h.1.symm⟩
 ·simp at h
theorem XV(b:st.scope=0)(h:step st k ws=(st',C)):∃p v r o s,ws=p::v::r/\(cR p).2=C/\(aO v).2=C/\OS k o s/\st'={st with k:=k,z:=(cR p).1,a:=(aO v).1,q:=o,scope:=s}:=by
 match ws,h with
 |[],h=>simp[step]at h
 |[_],h=>simp[step]at h
 |p::v::r,h =>
  simp only[step]at h
  split at h
  ·rename_i c;obtain⟨e,f,g⟩:=XU (st:={st with k:=k}) (st':=(MI {st with k:=k} p v).1) (p:=p) (v:=v) (by rw[<- c]);rw[g]at h;obtain⟨o,s,i,j⟩:=zQ (by exact b) h;exact⟨p,v,r,o,s,Z,e,f,i,j⟩
  ·simp at h
theorem M4(h:sum st ws=(st',C)):(∃a,ws=[a]/\(aO a).2=C/\st'={st with k:=6,a:=(aO a).1})\/∃a s b,ws=[a,s,b]/\(aO a).2=C/\(aO b).2=C/\(cX s).2=C/\st'={st with k:=(cX s).1,a:=(aO a).1,b:=(aO b).1}:=by
 match ws,h with
 |[],h=>simp[sum]at h
 |[a],h =>
  simp only[sum]at h
  split at h
  ·rename_i c;simp only[Prod.mk.injEq]at h;exact xR ⟨a,Z,c,h.1.symm⟩
  ·simp at h
 |[_,_],h=>simp[sum]at h
 |[a,s,b],h =>
  simp only[sum]at h
  split at h
  ·rename_i c
   split at h
   ·rename_i e;simp only[Prod.mk.injEq]at h;exact xF ⟨a,s,b,Z,c,h.2,e,h.1.symm⟩
   ·simp at h
  ·simp at h
 |_::_::_::_::_,h=>simp[sum]at h
theorem XW(h:cI ws=(st,C)):mD ws st:=by
 cases ws with
 |nil=>simp[cI]at h
 |cons c r =>
  simp only[cI]at h
  split at h
  ·rename_i f;have f:=eq_of_beq f;subst f
   match r,h with
   |[],h=>simp[store]at h
   |[_],h=>simp[store]at h
   |p::v::r,h =>
    simp only[store]at h
    split at h
    ·rename_i c;obtain⟨g,j,l⟩:=XU (st':=(MI {JR.zero with k:=1} p v).1) (by rw[<- c]);rw[l]at h;obtain⟨o,s,i,q⟩:=zQ (by rfl) h;exact xR ⟨p,v,r,o,s,Z,g,j,i,q⟩
    ·simp at h
  split at h
  ·rename_i f;have f:=eq_of_beq f;subst f;simp only[fence]at h;obtain⟨o,s,i,q⟩:=zQ (by rfl) h;exact xF (xF (xF (xF (xR ⟨r,o,s,Z,i,q⟩))))
  split at h
  ·rename_i f;have f:=eq_of_beq f;subst f;simp only[Prod.mk.injEq,x6]at h;obtain⟨rfl,rfl⟩:=h;exact xF (xF (xF (xF (xF (xR ⟨Z,Z⟩)))))
  split at h
  ·rename_i f;have f:=eq_of_beq f;subst f
   match r,h with
   |[],h=>simp[kN]at h
   |[a],h =>
    simp only[kN,Prod.mk.injEq]at h;exact xF (xF (xF (xF (xF (xF (xR ⟨a,Z,h.2,h.1.symm⟩))))))
   |_::_::_,h=>simp[kN]at h
  split at h
  ·rename_i f;have f:=eq_of_beq f;subst f;simp only[Prod.mk.injEq,x6]at h;obtain⟨rfl,rfl⟩:=h;exact xF (xF (xF (xF (xF (xF (xF (xR ⟨Z,Z⟩)))))))
  ·match r,h with
   |[],h=>simp[eG]at h
   |[_],h=>simp[eG]at h
   |e::w::r,h =>
    simp only[eG]at h
    split at h
    ·rename_i u;have u:=eq_of_beq u;subst u
     split at h
     ·rename_i t
      split at h
      ·rename_i f;have f:=eq_of_beq f;subst f
       match r,h with
       |[],h=>simp[load]at h
       |v::r,h =>
        simp only[load]at h
        split at h
        ·rename_i x;obtain⟨o,s,i,q⟩:=zQ (by rfl) h;exact xF (xR ⟨c,v,r,o,s,Z,t,x,i,q⟩)
        ·simp at h
      split at h
      ·rename_i f;have f:=eq_of_beq f;subst f;obtain⟨p,v,r,o,s,rfl,g,j,l,i⟩:=XV (by rfl) h;exact xF (xF (xR ⟨c,p,v,r,o,s,Z,t,g,j,l,i⟩))
      split at h
      ·rename_i f;have f:=eq_of_beq f;subst f;obtain⟨p,v,r,o,s,rfl,g,j,l,i⟩:=XV (by rfl) h;exact xF (xF (xF (xR ⟨c,p,v,r,o,s,Z,t,g,j,l,i⟩)))
      ·rcases M4 h with⟨a,g,j,l⟩|⟨a,s,b,g,j,l,i,q⟩
       ·simp only[List.cons.injEq]at g;obtain⟨rfl,rfl⟩:=g;exact xF (xF (xF (xF (xF (xF (xF (xF (xR ⟨c,w,Z,t,j,l⟩))))))))
       ·simp only[List.cons.injEq]at g;obtain⟨rfl,rfl⟩:=g;exact xF (xF (xF (xF (xF (xF (xF (xF (xF ⟨c,w,s,b,Z,t,j,l,i,q⟩))))))))
     ·simp at h
    ·simp at h
end P
namespace Q
structure Ex.Ok(m:Ex)(n:Nat):Prop where
 g:∀x∈m.g,0<=x/\x<4
 made:∀x∈m.made,x<MU
 A:m.A<MU
 K:∀e∈m.E,0<=e.value/\e.value<4/\e.h<MU
 len:m.E.length<=2*n
 u:m.u<=n
 Y:m.Y<1000000000
def OW(a:MR):Prop:=0<=a.n/\a.n<4
def NZ(st:JR):Prop:=OW st.a/\OW st.b
theorem AS(l:List Int)(h:∀x∈l,0<=x/\x<4)(i:Nat):0<=l.getD i 0/\l.getD i 0<4:=by
 by_cases hi:i<l.length
 ·rw[eI l i hi];exact h _ (x7 hi)
 ·simp[List.getD,x8 (by omega:l.length<=i)]
theorem Ex.Ok.value(h:m.Ok n){a:MR}(b:OW a):0<=m.value a/\m.value a<4:=by
 unfold Ex.value
 split
 ·split
  ·omega
  ·exact AS _ h.g _
 ·exact b
theorem Ex.Ok.aI(h:m.Ok n)(i:Nat):0<=m.aI i/\m.aI i<4:=by
 unfold Ex.aI;by_cases hi:i<m.E.length
 ·have e:m.E.getD i Ev.zero=m.E[i]:=by simp[hi]
  rw[e];have:=h.K _ (x7 hi);omega
 ·have e:m.E.getD i Ev.zero=Ev.zero:=by simp[x8 (by omega:m.E.length<=i)]
  rw[e];simp[Ev.zero]
theorem Ex.Ok.aZ(h:m.Ok n)(d v:Int)(s:Nat)(c:0<=v/\v<4)(b:s<MU):(m.aZ d v s).Ok n:=by
 unfold Ex.aZ
 split
 ·exact h
 ·refine⟨fun x a=>?_,fun x a=>?_,h.A,h.K,h.len,h.u,h.Y⟩
  ·rcases x9 a with a|rfl
   ·exact h.g x a
   ·exact c
  ·rcases x9 a with a|rfl
   ·exact h.made x a
   ·exact b
theorem Ex.Ok.more(h:m.Ok n):m.Ok (n+1):=⟨h.g,h.made,h.A,h.K,by have:=h.len;omega,by have:=h.u;omega,h.Y⟩
theorem Ex.Ok.aN(h:m.Ok n)(st:JR):(∀x∈(m.aN st).g,0<=x/\x<4)/\(∀x∈(m.aN st).made,x<MU)/\(m.aN st).A<MU/\(∀e∈(m.aN st).E,0<=e.value/\e.value<4/\e.h<MU)/\(m.aN st).E.length=m.E.length+1/\(m.aN st).Y<1000000000:=by
 refine⟨h.g,h.made,h.A,fun e a=>?_,by simp[Ex.aN],by have:=h.Y;simp[Ex.aN];omega⟩;simp only[Ex.aN,x1,x3]at a
 rcases a with a|rfl
 ·exact h.K e a
 ·refine⟨by simp;omega,by simp;omega,?_⟩;simp[Ex.V];exact h.A
end Q
theorem zR(B g k:Nat)(m:Ex)(ev:Value)(st:JR)(w:World)(h:Ei w B g m ev)(v:m.Ok k)(A:NZ st):
  Calls prog 201 #[.pointer (some ⟨g,0,U⟩),.agg (aC st)] w fun x w'=>x=.returned (.int .i64 (m.aY st))/\Below (N (M w)) w w':=by
 obtain⟨k0,aa,u⟩:=gU w (aC st) 104;have p:=JO (h.X u);have H:=JO u;have s:JP (KH _ _ st):=k0;have l:JP (m.aY st=if st.k==7 then(m.value ⟨st.a.KI,st.a.n⟩+m.value ⟨st.b.KI,st.b.n⟩)%4 else if st.k==8 then(m.value ⟨st.a.KI,st.a.n⟩+4-m.value ⟨st.b.KI,st.b.n⟩)%4 else if st.k==9 then(if m.value ⟨st.a.KI,st.a.n⟩==m.value ⟨st.b.KI,st.b.n⟩then 1 else 0)else m.value ⟨st.a.KI,st.a.n⟩):=Z;have ha:=v.value (a:=⟨st.a.KI,st.a.n⟩) A.1;have hb:=v.value (a:=⟨st.b.KI,st.b.n⟩) A.2;simp only[aC]at *;go_enter func201,ntmps201;go_upto_region 1 with fail
 generalize hE:w.alloc (I #[.int .i64 st.k,.int .i64 st.i,.int .i64 st.dest,.int .i64 st.z,.bool st.a.KI,.int .i64 st.a.n,.bool st.b.KI,.int .i64 st.b.n,.int .i64 st.q,.int .i64 st.scope,.int .i64 st.label] 104)=W0 at*;obtain⟨s0,L,S,T,V,W,Y,s7,s8,s9,D,E,G⟩:=s.o.F;go_upto_region 2 with(first
  |(go_at_call 176;refine(tT B g m ev st.a.KI st.a.n _ p.o).mono ?_;rintro e w1 ⟨rfl,f⟩;have J:=JO (p.o.X f);have r:=JO (s.o.X f);have B1:=JO (JW H.o (x0 _) f);obtain⟨s0,L,S,T,V,W,Y,s7,s8,s9,D,E,G⟩:=r.o.F))
 go_upto_region 3 with(first
  |(go_at_call 176;refine(tT B g m ev st.b.KI st.b.n _ J.o).mono ?_;rintro e w2 ⟨rfl,t⟩;have K:=JO (r.o.X t);have j:=JO (JW B1.o (x0 _) t);obtain⟨s0,L,S,T,V,W,Y,s7,s8,s9,D,E,G⟩:=K.o.F))
 generalize m.value ⟨st.a.KI,st.a.n⟩=x at*;generalize m.value ⟨st.b.KI,st.b.n⟩=y at*
 cases z7:st.k==7
 rotate_left
 ·have c:JP (m.aY st=(x+y)%4):=by unfold JP;rw[l.o,z7];rfl
  go_wp2;go_ret;rw[c.o];exact⟨Z,j.o⟩
 cases z8:st.k==8
 rotate_left
 ·have c:JP (m.aY st=(x+4-y)%4):=by unfold JP;rw[l.o,z7,z8];rfl
  go_wp2;go_ret;rw[c.o];exact⟨Z,j.o⟩
 cases z9:st.k==9
 ·have c:JP (m.aY st=x):=by unfold JP;rw[l.o,z7,z8,z9];rfl
  go_wp2;go_ret;rw[c.o];exact⟨Z,j.o⟩
 cases zz:x==y
 ·have c:JP (m.aY st=0):=by unfold JP;rw[l.o,z7,z8,z9,zz];rfl
  go_wp2;go_ret;rw[c.o];exact⟨Z,j.o⟩
 ·have c:JP (m.aY st=1):=by unfold JP;rw[l.o,z7,z8,z9,zz];rfl
  go_wp2;go_ret;rw[c.o];exact⟨Z,j.o⟩
namespace Q
theorem Ex.dV(m:Ex)(st:JR)(v:Int)(s:Nat):(m.write st v s).E.length=m.E.length+1:=by simp[Ex.write,Ex.put]
theorem Ex.gX{n:Nat}(c:∀e∈m.E,0<=e.value/\e.value<4/\e.h<MU)(f:m.A<MU)(st:JR)(v:Int)(s:Nat)(b:0<=v/\v<4)(g:s<MU):∀e∈(m.write st v s).E,0<=e.value/\e.value<4/\e.h<MU:=by
 intro e a;simp only[Ex.write,Ex.put,x1,x3]at a
 rcases a with a|rfl
 ·exact c e a
 ·exact⟨b.1,b.2,nR f g⟩
theorem GG(x:Int):0<=x%4/\x%4<4:=⟨Int.emod_nonneg _ (by decide),Int.emod_lt_of_pos _ (by decide)⟩
theorem Ex.Ok.aY(h:m.Ok n)(a:NZ st):0<=m.aY st/\m.aY st<4:=by
 unfold Ex.aY
 split
 ·exact GG _
 ·split
  ·exact GG _
  ·split
   ·split<;>omega
   ·exact h.value a.1
theorem Ex.Ok.rT(h:m.Ok n)(st:JR):(m.aN st).Ok (n+1):=by
 obtain⟨a,b,c,e,g,f⟩:=h.aN st;exact⟨a,b,c,e,by have:=h.len;omega,by have:=h.u;show m.u<=n+1;omega,f⟩
theorem Ex.Ok.aW(h:m.Ok n)(i:NZ st):(m.aW st).Ok (n+1):=by
 have c:=h.rT st;have p:=h.len;have j:∀(v:Int) (s:Nat),0<=v/\v<4->s<MU->((m.aN st).write st v s).Ok (n+1):=fun v s o l =>
  ⟨c.g,c.made,c.A,Ex.gX (n:=n) c.K c.A st v s o l,by rw[Ex.dV,(h.aN st).2.2.2.2.1];omega,c.u,c.Y⟩
 unfold Ex.aW
 split
 ·exact c.aZ _ _ _ (c.aI _) (pN _)
 split
 ·exact⟨h.g,h.made,h.A,Ex.gX (n:=n) h.K h.A st _ _ (h.value i.1) (mC h.made _),by unfold Ex.store;rw[Ex.dV];omega,by have:=h.u;show m.u<=n+1;omega,h.Y⟩
 split
 ·unfold Ex.step
  split
  ·have f:=j ((m.value st.a+(m.aN st).aI m.E.length)%4) (m.Ea st.a|||one (m.E.length:Nat)) (GG _) (nR (mC h.made _) (pN _));exact f.aZ _ _ _ (f.aI _) (pN _)
  ·have f:=j (m.value st.a) (m.Ea st.a) (h.value i.1) (mC h.made _);exact f.aZ _ _ _ (f.aI _) (pN _)
 split
 ·refine⟨h.g,h.made,h.A,fun e b=>?_,by simp[Ex.put];omega,by have:=h.u;show m.u<=n+1;omega,h.Y⟩;simp only[Ex.put,x1,x3]at b
  rcases b with b|rfl
  ·exact h.K e b
  ·simp[Ex.V]
 split
 ·refine⟨h.g,h.made,h.A,fun e b=>?_,by simp[Ex.cP];omega,by have:=h.u;show m.u+1<=n+1;omega,h.Y⟩;simp only[Ex.cP,x1,List.mem_cons,List.mem_nil_iff,or_false]at b
  rcases b with b|rfl|rfl
  ·exact h.K e b
  ·simp[Ex.V]
  ·simp[Ex.V]
 split
 ·exact(h.aZ _ _ _ (h.aY i) (nR (mC h.made _) (mC h.made _))).more
 ·exact h.more
theorem Ex.Ok.lT(h:m.Ok n)(st:JR):(m.lT st).Ok n:=⟨h.g,h.made,nR h.A (mC h.made _),h.K,h.len,h.u,h.Y⟩
theorem IE{p:Ex×Nat}(h:p.1.Ok n)(a:NZ st):(aG p st).1.Ok (n+1):=by
 unfold aG
 split
 ·split
  ·exact(h.lT st).more
  ·exact h.aW a
 ·split
  ·exact h.more
  ·split<;>exact h.more
theorem CR(t b:Int)(u:Nat)(f:u<1000000000):(Ex.start t b u).Ok 0:=by
 refine⟨?_,?_,by show(0:Nat)<MU;decide,?_,by simp[Ex.start],by simp[Ex.start],f⟩
 ·intro x a;simp[Ex.start]at a;omega
 ·intro x a;simp[Ex.start]at a;rw[a];decide
 ·intro e c;simp[Ex.start]at c
theorem M5(p:Ex×Nat)(st:JR):(aG p st).2<=p.2+1:=by
 unfold aG
 split
 ·split
  ·split<;>simp
  ·simp
 ·split
  ·simp
  ·split
   ·simp;omega
   ·omega
end Q
theorem M6(a:FA)(f:Ey)(H:Nat)(rd:List Nat)(l:Nat)(bh:List Nat)(p:Nat)(ms:List Nat)(w:World)(hf:Ef w a f)(hr:Ed w H a.n rd)(hb:Ed w l a.n bh)(hm:Ed w p a.n ms)(h1:f.cF ms bh=C):
  Calls prog 96 #[.agg (gV a H),.agg #[JQ l a.n a.n],.agg #[JQ p a.n a.n]] w fun e w'=>e=.returned (.bool (O))/\Below (N (M w)) w w':=by
 obtain⟨x,c,q,_⟩:=hf.form;obtain⟨n,ev,K,L,S,T,V,W,Y,g8,g9⟩:=a;simp only at q hr hb hm;subst q;simp only[LY,gV];obtain⟨g,k1,k2,aa,b⟩:=lP w #[.slice x n c,JQ K n n,JQ L n n,JQ S n n,JQ T n n,JQ V n n,JQ W n n,JQ Y n n,JQ g8 n n,JQ g9 n n,JQ H n n] #[JQ l n n] #[JQ p n n] 109 76 76;have HF:=JO (hf.X b);have Rr:=JO (hr.X b);have Rb:=JO (hb.X b);have Rm:=JO (hm.X b);have J:=JO b;go_enter func96,ntmps96;go_upto_region 1 with fail
 generalize hE:((w.alloc (I #[.slice x n c,JQ K n n,JQ L n n,JQ S n n,JQ T n n,JQ V n n,JQ W n n,JQ Y n n,JQ g8 n n,JQ g9 n n,JQ H n n] 109)).alloc (I #[JQ l n n] 76)).alloc (I #[JQ p n n] 76)=W0 at*;have s:=aB g 0 _ Z;have t:=aB g 1 _ Z;have u:=aB g 2 _ Z;have v:=aB g 3 _ Z;have y:=aB g 4 _ Z;have z:=aB g 5 _ Z;have A:=aB g 6 _ Z;have B:=aB g 7 _ Z;have D:=aB g 8 _ Z;have E:=aB g 9 _ Z;have F:=aB k1 0 _ Z;have G:=aB k2 0 _ Z;go_wp2_with(first
  |(go_at_call 120;refine(vK (FA.mk n (.slice x n c) K L S T V W Y g8 g9) f p _ l _ _ (HF.o.X (xW _ _)) (Rm.o.X (xW _ _)) (Rb.o.X (xW _ _))).mono ?_;rintro e r ⟨rfl,i⟩;(try rw[h1]);have j:JP (Below (N (M W0)) W0 r):=i;skip))
 all_goals
  go_wp2;go_ret;exact⟨Z,JW J.o (x0 _) j.o⟩
theorem M7(a:FA)(f:Ey)(gr:Nat)(rd:List Nat)(gb:Nat)(bh:List Nat)(gm:Nat)(ms:List Nat)(w:World)(hf:Ef w a f)(hr:Ed w gr a.n rd)(hb:Ed w gb a.n bh)(hm:Ed w gm a.n ms)(h1:f.cF ms bh=O):
  Calls prog 96 #[.agg (gV a gr),.agg #[JQ gb a.n a.n],.agg #[JQ gm a.n a.n]] w fun e w'=>e=.returned (.bool (!Q.bJ (cE f.y (fY (pD rd bh ms) f.G))))/\Below (N (M w)) w w':=by
 obtain⟨x,c,aP,_⟩:=hf.form;obtain⟨n,ev,g1,g2,g3,g4,g5,g6,g7,g8,g9⟩:=a;simp only at aP hr hb hm;subst aP;simp only[LY,gV];obtain⟨k0,k1,k2,bL,ab⟩:=lP w #[.slice x n c,JQ g1 n n,JQ g2 n n,JQ g3 n n,JQ g4 n n,JQ g5 n n,JQ g6 n n,JQ g7 n n,JQ g8 n n,JQ g9 n n,JQ gr n n] #[JQ gb n n] #[JQ gm n n] 109 76 76;have HF:=JO (hf.X ab);have Rr:=JO (hr.X ab);have Rb:=JO (hb.X ab);have Rm:=JO (hm.X ab);have bg:=JO ab;go_enter func96,ntmps96;go_upto_region 1 with fail
 generalize hE:((w.alloc (I #[.slice x n c,JQ g1 n n,JQ g2 n n,JQ g3 n n,JQ g4 n n,JQ g5 n n,JQ g6 n n,JQ g7 n n,JQ g8 n n,JQ g9 n n,JQ gr n n] 109)).alloc (I #[JQ gb n n] 76)).alloc (I #[JQ gm n n] 76)=W0 at*;have B:=aB k0 0 _ Z;have D:=aB k0 1 _ Z;have E:=aB k0 2 _ Z;have F:=aB k0 3 _ Z;have H:=aB k0 4 _ Z;have J:=aB k0 5 _ Z;have K:=aB k0 6 _ Z;have L:=aB k0 7 _ Z;have S:=aB k0 8 _ Z;have T:=aB k0 9 _ Z;have t:=aB k0 10 _ Z;have b:N (M w)<N (M W0):=by omega
 have aM:∀j,W0.frozen? ⟨N (M w),j,U⟩=O:=fun j=>by simp[x4,k0]
 have aC:=JO k0;have V:=aB k1 0 _ Z;have u:N (M w)+1<N (M W0):=by omega
 have aN:∀j,W0.frozen? ⟨N (M w)+1,j,U⟩=O:=fun j=>by simp[x4,k1]
 have aD:=JO k1;have W:=aB k2 0 _ Z;have v:N (M w)+2<N (M W0):=by omega
 have aO:∀j,W0.frozen? ⟨N (M w)+2,j,U⟩=O:=fun j=>by simp[x4,k2]
 have aE:=JO k2;go_upto_region 4 with(first
  |(go_at_call 121;refine(EO (FA.mk n (.slice x n c) g1 g2 g3 g4 g5 g6 g7 g8 g9) f gr _ gb _ gm _ _ (HF.o.X g.o) (Rr.o.X g.o) (Rb.o.X g.o) (Rm.o.X g.o)).mono ?_;rintro e l ⟨i,rfl,av,ap⟩;have am:JP (Below (N (M W0)) W0 l):=JW g.o (x0 _) ap;have aF:=JO av)
  |(go_at_call 120;refine(vK (FA.mk n (.slice x n c) g1 g2 g3 g4 g5 g6 g7 g8 g9) f gm _ gb _ _ (HF.o.X (xW _ _)) (Rm.o.X (xW _ _)) (Rb.o.X (xW _ _))).mono ?_;rintro e aS ⟨rfl,ao⟩;(try rw[h1]);have g:JP (Below (N (M W0)) W0 aS):=ao;have aW:=JS g.o b B;have aX:=JS g.o b D;have aY:=JS g.o b E;have aZ:=JS g.o b F;have ba:=JS g.o b H;have bb:=JS g.o b J;have bc:=JS g.o b K;have bd:=JS g.o b L;have be:=JS g.o b S;have bf:=JS g.o b T;have aJ:=JS g.o b t;have aK:=JS g.o u V;have aL:=JS g.o v W;skip))
 have aQ:=heap_alloc_new l (I #[JQ i n n] 76);have q:Below (N (M W0)) W0 (l.alloc (I #[JQ i n n] 76)):=am.o.alloc am.o.size _;have ay:=q.size;have aA:=JO (HF.o.X q);have bp:=JO (Rr.o.X q);have bq:=JO (Rb.o.X q);have br:=JO (Rm.o.X q);have aI:=JO (aF.o.X ((xW _ _).alloc (x0 _) (I #[JQ i n n] 76)));have bi:=JO (JW bg.o (x0 _) q);have bs:=JS q b B;have bt:=JS q b D;have Y:=JS q b E;have bu:=JS q b F;have bv:=JS q b H;have aa:=JS q b J;have bw:=JS q b K;have bx:=JS q b L;have bz:=JS q b S;have bA:=JS q b T;have bj:=JS q b t;have bk:=JS q u V;have bl:=JS q v W;have bB:∀j,(l.alloc (I #[JQ i n n] 76)).frozen? ⟨N (M w),j,U⟩=O:=fun j=>(q.frozen (p:=⟨N (M w),j,U⟩) b).trans (aM j)
 have r:=x5 b ay;have bm:=JO ((q.block _ b).trans aC.o);have bC:∀j,(l.alloc (I #[JQ i n n] 76)).frozen? ⟨N (M w)+1,j,U⟩=O:=fun j=>(q.frozen (p:=⟨N (M w)+1,j,U⟩) u).trans (aN j)
 have bE:=x5 u ay;have bn:=JO ((q.block _ u).trans aD.o);have bD:∀j,(l.alloc (I #[JQ i n n] 76)).frozen? ⟨N (M w)+2,j,U⟩=O:=fun j=>(q.frozen (p:=⟨N (M w)+2,j,U⟩) v).trans (aO j)
 have bG:=x5 v ay;have bo:=JO ((q.block _ v).trans aE.o);have bK:N (M l)<(l.alloc (I #[JQ i n n] 76)).heap.size:=by simp
 generalize bI:l.alloc (I #[JQ i n n] 76)=W1 at*;obtain⟨al,bH,az⟩:=bF aQ;go_region_held3 (fun w'=>w'.cell? ⟨N (M w),2,U⟩=some (JQ g2 n n)/\w'.cell? ⟨N (M w),5,U⟩=some (JQ g5 n n)/\w'.cell? ⟨N (M l),0,U⟩=some (JQ i n n)) (first|exact⟨Y,aa,al⟩|exact⟨ac,ad,ae⟩|exact⟨af,ag,ah⟩|exact⟨ai,aj,ak⟩) (first
  |(go_at_call_of 111 (JQ an n n);refine(DM an n _ _ aH.o).mono ?_;rintro e aV ⟨rfl,au⟩;have A:JP (Below (N (M W1)) W1 aV):=JW z.o (x0 _) au;have ai:=JS A.o r Y;have aj:=JS A.o r aa;have ak:=JS A.o az al;skip)
  |(go_at_call_of 67 (JQ g5 n n);refine(iQ g5 aR n _ _ _ (aA.o.r5.X s.o) aG.o).mono ?_;rintro e aU ⟨an,rfl,ax,ar⟩;have z:JP (Below (N (M W1)) W1 aU):=JW s.o (x0 _) ar;have af:=JS z.o r Y;have ag:=JS z.o r aa;have ah:=JS z.o az al;have aH:=JO ax)
  |(go_at_call_of 114 (JQ i n n);refine(rD i g2 n _ _ _ (aI.o.X (xW _ _).drew) (aA.o.r2.X (xW _ _).drew)).mono ?_;rintro e aT ⟨aR,rfl,aw,aq⟩;have s:JP (Below (N (M W1)) W1 aT):=((xW (N (M W1)) W1).drew).trans (aq.mono (by simp));have ac:=JS s.o r Y;have ad:=JS s.o r aa;have ae:=JS s.o az al;have aG:=JO aw))
 all_goals
  go_wp2;go_ret;exact⟨Z,JW bi.o (x0 _) A.o⟩
namespace P
structure Lay(st:JR):Prop where
 k0:0<=st.k
 k1:st.k<=11
 os:NI st.k=C->OS st.k st.q st.scope
 no:NI st.k=O->st.q=0/\st.scope=0
 d:0<=st.dest/\st.dest<4
 dn:(100:UInt8)∉(LI st.k).2->st.dest=0
 v:0<=st.z/\st.z<3
 vn:(118:UInt8)∉(LI st.k).2->st.z=0
 a:OW st.a
 an:(97:UInt8)∉(LI st.k).2->st.a=MR.zero
 b:OW st.b
 bn:(98:UInt8)∉(LI st.k).2->st.b=MR.zero
 e11:st.k=11->st.a=MR.zero
def Pl(l:List UInt8):Prop:=(32:UInt8)∉l/\(10:UInt8)∉l
theorem M8(h:0<=d/\d<4):d=0\/d=1\/d=2\/d=3:=by omega
theorem XX(h:0<=d/\d<4):fK (cS d)=(d,C)/\Pl (cS d):=by
 unfold Pl
 rcases M8 h with rfl|rfl|rfl|rfl<;>decide +kernel
theorem XY(h:0<=d/\d<3):jQ (eB d)=(d,C)/\Pl (eB d):=by
 unfold Pl;have:d=0\/d=1\/d=2:=by omega
 rcases this with rfl|rfl|rfl<;>decide +kernel
theorem zA{o:MR}(h:OW o):eJ (dY o)=(o,C)/\Pl (dY o):=by
 obtain⟨r,n⟩:=o;have h:0<=n/\n<4:=h;have l:∀n:Fin 4,(eJ (dY ⟨O,(n.1:Int)⟩)).1.n=(n.1:Int)/\(eJ (dY ⟨O,(n.1:Int)⟩)).1.KI=O/\(eJ (dY ⟨O,(n.1:Int)⟩)).2=C/\(32:UInt8)∉dY ⟨O,(n.1:Int)⟩/\(10:UInt8)∉dY ⟨O,(n.1:Int)⟩:=by decide +kernel
 have p:∀n:Fin 4,(eJ (dY ⟨C,(n.1:Int)⟩)).1.n=(n.1:Int)/\(eJ (dY ⟨C,(n.1:Int)⟩)).1.KI=C/\(eJ (dY ⟨C,(n.1:Int)⟩)).2=C/\(32:UInt8)∉dY ⟨C,(n.1:Int)⟩/\(10:UInt8)∉dY ⟨C,(n.1:Int)⟩:=by decide +kernel
 have g:∀(x:MR) (r:Bool) (n:Int),x.n=n->x.KI=r->x=⟨r,n⟩:=fun x r n i j=>by cases x;cases i;cases j;rfl
 have e:n=((⟨n.toNat,by omega⟩:Fin 4).1:Int):=by show n=(n.toNat:Int);omega
 rw[e];cases r
 ·obtain⟨a,b,c,f⟩:=l ⟨n.toNat,by omega⟩;exact⟨Prod.ext (g _ _ _ a b) c,f⟩
 ·obtain⟨a,b,c,f⟩:=p ⟨n.toNat,by omega⟩;exact⟨Prod.ext (g _ _ _ a b) c,f⟩
theorem XZ{n:Int}(a:0<=n)(h:n<100):Pl (fE n):=by
 have k:∀n:Fin 100,(32:UInt8)∉fE (n.1:Int)/\(10:UInt8)∉fE (n.1:Int):=by decide +kernel
 have:=k ⟨n.toNat,by omega⟩;rw[show((⟨n.toNat,by omega⟩:Fin 100).1:Int)=n by show(n.toNat:Int)=n;omega]at this;exact this
def nY(k o s:Int):List UInt8:=(LI k).1++if NI k then kG o s else[]
def IW(k o s lb:Int):JR:={JR.zero with k:=k,q:=o,scope:=s,label:=lb}
theorem M9{o s:Int}(a:NI k=C)(h:OS k o s):(k,o,s)∈([(0,0,0),(0,1,0),(0,1,1),(0,2,0),(0,2,1),(1,0,0),(1,1,0),(1,1,1),(1,3,0),(1,3,1),(2,1,0),(2,1,1),(2,2,0),(2,2,1),(2,3,0),(2,3,1),(2,4,0),(2,4,1),(3,1,0),(3,1,1),(3,2,0),(3,2,1),(3,3,0),(3,3,1),(3,4,0),(3,4,1),(4,4,0),(4,4,1),(4,5,0),(4,5,1)]:List (Int×Int×Int)):=by
 obtain⟨b,c,e⟩:=h;have a:k=0\/k=1\/k=2\/k=3\/k=4:=by
  simp only[NI,xa,beq_iff_eq]at a;omega
 rcases a with rfl|rfl|rfl|rfl|rfl<;>simp[OQ]at b<;>rcases c with rfl|rfl<;>simp at e⊢<;>omega
theorem Na(a:List (List UInt8))(next:Int):∀r∈([(0,0,0),(0,1,0),(0,1,1),(0,2,0),(0,2,1),(1,0,0),(1,1,0),(1,1,1),(1,3,0),(1,3,1),(2,1,0),(2,1,1),(2,2,0),(2,2,1),(2,3,0),(2,3,1),(2,4,0),(2,4,1),(3,1,0),(3,1,1),(3,2,0),(3,2,1),(3,3,0),(3,3,1),(3,4,0),(3,4,1),(4,4,0),(4,4,1),(4,5,0),(4,5,1)]:List (Int×Int×Int)),iV (nY r.1 r.2.1 r.2.2) a next 11 0=jK (IW r.1 r.2.1 r.2.2 0) (LI r.1).2 a:=by
 simp only[List.forall_mem_cons];refine⟨Z,Z,Z,Z,Z,Z,Z,Z,Z,Z,Z,Z,Z,Z,Z,Z,Z,Z,Z,Z,Z,Z,Z,Z,Z,Z,Z,Z,Z,Z,?_⟩;simp
theorem Nb:∀r∈([(0,0,0),(0,1,0),(0,1,1),(0,2,0),(0,2,1),(1,0,0),(1,1,0),(1,1,1),(1,3,0),(1,3,1),(2,1,0),(2,1,1),(2,2,0),(2,2,1),(2,3,0),(2,3,1),(2,4,0),(2,4,1),(3,1,0),(3,1,1),(3,2,0),(3,2,1),(3,3,0),(3,3,1),(3,4,0),(3,4,1),(4,4,0),(4,4,1),(4,5,0),(4,5,1)]:List (Int×Int×Int)),(32:UInt8)∉nY r.1 r.2.1 r.2.2/\(10:UInt8)∉nY r.1 r.2.1 r.2.2/\(nY r.1 r.2.1 r.2.2).length<=21:=by decide
theorem YA(h:Lay st)(a:List (List UInt8))(next:Int)(j:st.k≠11):iV (nY st.k st.q st.scope) a next 11 0=jK (IW st.k st.q st.scope (if st.k=10 then next else 0)) (LI st.k).2 a/\Pl (nY st.k st.q st.scope)/\(nY st.k st.q st.scope).length<=21:=by
 have s:=h.k0;have t:=h.k1;by_cases c:NI st.k=C
 ·have f:=M9 c (h.os c);have b:st.k≠10:=fun e=>by rw[e]at c;exact absurd c (by decide)
  rw[if_neg b];obtain⟨o,p,r⟩:=Nb _ f;exact⟨Na a next _ f,⟨o,p⟩,r⟩
 ·obtain⟨g,i⟩:=h.no (by simpa using c);rw[g,i];have l:st.k=5\/st.k=6\/st.k=7\/st.k=8\/st.k=9\/st.k=10:=by
   simp only[NI,xa,beq_iff_eq]at c;omega
  unfold Pl
  rcases l with e|e|e|e|e|e<;>rw[e]<;>exact⟨Z,by decide,by decide⟩
theorem YB:∀(a q:List UInt8),(32:UInt8)∉a->eF 44 32 (a++44::32::q)=a::eF 44 32 q
 |[],q,_=>UO 44 32 q
 |c::a,q,h=>by
  have b:(32:UInt8)∉a:=fun e=>h (x2 _ e)
  rw[List.cons_append,IS 44 32 c _ fun⟨_,e⟩=>by
   cases a with
   |nil=>simp at e
   |cons d a=>simp at e;exact b (by rw[e];simp),YB a q b]
  rfl
theorem YC:∀(a:List UInt8),(32:UInt8)∉a->eF 44 32 a=[a]
 |[],_=>Z
 |c::a,h=>by
  have b:(32:UInt8)∉a:=fun e=>h (x2 _ e)
  rw[IS 44 32 c _ fun⟨_,e⟩=>by
   cases a with
   |nil=>simp at e
   |cons d a=>simp at e;exact b (by rw[e];simp),YC a b]
  rfl
theorem YD(f:UInt8->List UInt8)(a:∀c,(32:UInt8)∉f c):∀(c:UInt8) (r:List UInt8),eF 44 32 (f c++r.flatMap fun c=>[44,32]++f c)=(c::r).map f
 |c,[]=>by simpa using YC _ (a c)
 |c,d::r=>by
  have:=YD f a d r;rw[List.flatMap_cons,List.map_cons,<- this];have:=YB (f c) (f d++r.flatMap fun c=>[44,32]++f c) (a c);simpa using this
theorem Nc{x y:List UInt8}(h:(32:UInt8)∉x):(x++32::y).takeWhile fun c=>c != 32=x/\(x++32::y).dropWhile fun c=>c != 32=32::y:=by
 induction x with
 |nil=>simp
 |cons c x ih =>
  have a:c≠32:=fun e=>h (by rw[e];simp)
  have:=ih fun e=>h (x2 _ e);simp[a,this.1,this.2]
theorem Nd{x:List UInt8}(h:(32:UInt8)∉x):x.takeWhile fun c=>c != 32=x/\x.any fun c=>c==32=O:=by
 induction x with
 |nil=>simp
 |cons c x ih =>
  have a:c≠32:=fun e=>h (by rw[e];simp)
  have:=ih fun e=>h (x2 _ e);simp only[List.takeWhile_cons,List.any_cons,this.2];simp[a,this.1]
theorem Nf(st:JR)(x:List UInt8)(f:(32:UInt8)∉x)(g:∀c,(32:UInt8)∉eO st c)(l:List UInt8):lH (x++fJ st l)=(x,l.map (eO st)):=by
 cases l with
 |nil =>
  obtain⟨a,b⟩:=Nd f;simp[lH,fJ,a,b]
 |cons c r =>
  obtain⟨a,b⟩:=Nc (y:=eO st c++r.flatMap fun c=>[44,32]++eO st c) f;have e:x++fJ st (c::r)=x++32::(eO st c++r.flatMap fun c=>[44,32]++eO st c):=by simp[fJ]
  unfold lH;rw[e,a,b,if_pos (by simp),List.drop_one,List.tail_cons,YD _ g]
theorem YE(h:Lay st)(e:0<=st.label)(f:st.label<100)(c:UInt8):Pl (eO st c):=by
 unfold eO
 split
 ·exact(XX h.d).2
 split
 ·exact(XY h.v).2
 split
 ·exact(zA h.a).2
 split
 ·exact(zA h.b).2
 ·exact XZ e f
theorem Ng(h:Lay st)(j:st.k≠11)(z:0<=st.label)(A:st.label<100)(next:Int)(x:st.k=10->st.label=next):cV (dS st) next=({st with i:=0,label:=if st.k=10 then next else 0},C):=by
 obtain⟨B,D,_⟩:=YA h ((LI st.k).2.map (eO st)) next j;have e:dS st=nY st.k st.q st.scope++fJ st (LI st.k).2:=by rw[xN st (by simpa using j)];rfl
 unfold cV;rw[e,Nf st _ D.1 fun c=>(YE h z A c).1];simp only;rw[B];have E:=(XX h.d).1;have F:=(XY h.v).1;have G:=(zA h.a).1;have H:=(zA h.b).1;have o:=h.dn;have p:=h.vn;have r:=h.an;have s:=h.bn;have K:=h.k0;have u:=h.k1;have y:=h.no;obtain⟨f,line,l,J,a,b,aF,scope,g⟩:=st;simp only at*;have t:f=0\/f=1\/f=2\/f=3\/f=4\/f=5\/f=6\/f=7\/f=8\/f=9\/f=10:=by omega
 rcases t with rfl|rfl|rfl|rfl|rfl|rfl|rfl|rfl|rfl|rfl|rfl<;>simp[LI]at o p r s<;>simp[LI,jK,lC,fN,eO,E,F,G,H,IW,JR.zero,o,p,r,s,x]
end P
end Go.Proofs.YtlikcongbhhpfaaGreatDoor
