import Derived.Test.YtehclbpoabdpoaaGreatDoorO19
import Derived.Test.YtehclbpoabdpoaaGreatDoorO25
set_option linter.all false
set_option maxHeartbeats 0
namespace Go.Proofs.YtehclbpoabdpoaaGreatDoor
open Go Go.RowKit Go.Proofs.Tryz P Q
open scoped Classical
set_option maxRecDepth 1000000
variable {w w1:World}{B b g n:Nat}{e:Ev}{m:Et}{st:MV}
open List renaming length->S
open _root_.Array renaming size->T
open Go.World renaming heap->J
open Go.Value renaming int->C,bool->N,agg->D
open Go.IntKind renaming i64->O
open Option renaming none->I,some->U
open Go.Obj renaming cells->G
open Bool renaming false->M
open Go.Ending renaming returned->L
open Nat renaming le_refl->xF,lt_of_lt_of_le->xg
open Go.RowKit.Below renaming refl->xR,heap_setCell->xW,heap_alloc->xh
open List renaming getElem_mem->xa,mem_append->xb,mem_singleton->xd,getElem?_eq_none->xi,mem_or_eq_of_mem_set->xj
open Go.Value renaming ownBlock->xc,oneCell'->xe
def Tryz.infoEvM:(prog.info? 180).map (fun i=>(i.zero,i.size,i.bytes))=U (U (D (aG Ev.zero)),10,80):=by kernel_rfl
def NK.set(a:Ev)(h:NK w g e)(i:Nat)(u:Value)(c:(aG e).setIfInBounds i u=aG a):NK (w.setCell ⟨g,i,I⟩ u) g a:=by
 unfold NK at*;rw[bX h,c]
def NK.CB{i:Nat}{u:Value}(h:NK w g e)(a:g≠b):NK (w.setCell ⟨b,i,I⟩ u) g e:=by
 unfold NK at*;rw[xW _ _ _ _ a];exact h
def NK.range(h:NK w g e):w.rangeAt g 0 (aG e).toList:=IS h
def Oy{f:Array Oper}{rest:List Oper}{c:Oper}{a:Act}{R:Exit->Act->World->Prop}(x y:Operand)(i:c.guard=I)(k:c.op=.store 180 x y)(g:Nat)(e d:Ev)(l:a.eval x=.pointer (U ⟨g,0,I⟩))(o:a.eval y=D (aG e))(j:NK w g d)(h:∀w',NK w' g e->w.grownBy w' (U g)->wpList prog f R rest (a.put c.dst undef) w'):wpList prog f R (c::rest) a w :=
 LV i _ x y k g (aG e) (aG d) _ l o j Z (by kernel_rfl) (by simp[aG,xe]) h
def zJ(B g:Nat)(m:Et)(ev:Value)(c:Int)(st:MV)(w:World)(h:Eg w B g m ev)(hk:c=0\/c=1\/c=2\/c=3\/c=4):
  Calls prog 184 #[.pointer (U ⟨g,0,I⟩),C O c,D (aV st)] w fun e t=>e=L (D (aG (m.V c st)))/\Below (T (J w)) w t:=by
 have HV:MT (m.V c st=⟨c,m.j,m.block,st.z,0,st.q,st.scope,if c==3||c==4 then m.u else 0,(c==0||c==1)&&(st.B==2||st.B==3),if c==0||c==1 then m.A else 0⟩):=Z;generalize m.V c st=ke at*;obtain⟨k0,k1,af,l⟩:=mZ w #[C O st.B,C O st.i,C O st.dest,C O st.z,N st.a.MW,C O st.a.n,N st.b.MW,C O st.b.n,C O st.q,C O st.scope,C O st.label] #[C O 0,C O 0,C O 0,C O 0,C O 0,C O 0,C O 0,C O 0,N M,C .u64 0] 137 180;have HM:=h.X l;have aa:=MS l;have v:=MS HM;clear h HM l;simp only[aV];go_enter func184,ntmps184;go_upto_region 1 with fail
 generalize hE:(w.alloc (G #[C O st.B,C O st.i,C O st.dest,C O st.z,N st.a.MW,C O st.a.n,N st.b.MW,C O st.b.n,C O st.q,C O st.scope,C O st.label] 137)).alloc (G #[C O 0,C O 0,C O 0,C O 0,C O 0,C O 0,C O 0,C O 0,N M,C .u64 0] 180)=W0 at*;have x:bB W0 (T (J w)) st:=k0;obtain⟨Y,s1,s2,s3,s4,s5,s6,s7,s8,s9,r,s,ag⟩:=x.F;obtain⟨c0,c1,c2,c3,c4,c5,c6,c7,c8,c9,ab,y,E,ac,cf⟩:=v.F;have xl:T (J w)+1<T (J W0):=(Array.getElem?_eq_some_iff.1 k1).1;have H:=v.lt;have K1:MT (NK W0 (T (J w)+1) Ev.zero):=k1;have ah:T (J w)+2<=T (J W0):=by omega
 clear c2 c3 c4 c5 c6 c7 c8 c9 ab ac k0 k1 x af hE s3 s4 s6 s7 s8 s9 ag;go_region_held3 (fun t=>t.cell? ⟨g,0,I⟩=U (C O m.j)/\t.cell? ⟨g,1,I⟩=U (C O m.block)/\t.cell? ⟨T (J w),3,I⟩=U (C O st.z)/\t.cell? ⟨T (J w),8,I⟩=U (C O st.q)/\t.cell? ⟨T (J w),9,I⟩=U (C O st.scope)) (first|exact⟨c0,c1,s5,r,s⟩|exact⟨(mP H).trans c0,(mP H).trans c1,(mP Y).trans s5,(mP Y).trans r,(mP Y).trans s⟩) (first|fail);have E1:MT (NK ((W0.alloc (G #[C O c,C O m.j,C O m.block,C O st.z,C O 0,C O st.q,C O st.scope,C O 0,N M,C .u64 0] 180)).drew) (T (J W0)) ⟨c,m.j,m.block,st.z,0,st.q,st.scope,0,M,0⟩):=heap_alloc_new W0 _;have f:Below (T (J W0)) W0 ((W0.alloc (G #[C O c,C O m.j,C O m.block,C O st.z,C O 0,C O st.q,C O st.scope,C O 0,N M,C .u64 0] 180)).drew):=((xR _ _).alloc (xF _) _).drew;have K2:=MS (K1.X f);have B1:=MS (NE aa.o (xF _) f);have ai:=MZ f H y;have aj:=MZ f H E;have t2:=MZ f Y s2;have K:=f.size;have al:=xg H K;have am:=xg Y K;clear f c0 c1 y E s1 s2 s5 r s cf;generalize ae:(W0.alloc (G #[C O c,C O m.j,C O m.block,C O st.z,C O 0,C O st.q,C O st.scope,C O 0,N M,C .u64 0] 180)).drew=W1 at*;clear ae;generalize ak:T (J W0)=b7 at*;obtain⟨q0,q1,q2,q3,q4,q5,q6,q7,q8,q9,qf,ql⟩:=E1.F
 rcases hk with rfl|rfl|rfl|rfl|rfl
 case' inl=>cases z2:st.B==2<;>cases z3:st.B==3
 case' inr.inl=>cases z2:st.B==2<;>cases z3:st.B==3
 all_goals
  go_upto_region 10 with fail
  refine qO (fun W=>NK W b7 ke/\NK W (T (J w)+1) Ev.zero/\Below (T (J w)) w W) ⟨?_,?_,?_⟩ ?_
  ·rw[HV.o]
   try rw[z2,z3]
   first|exact E1.o|exact E1.set _ 7 _ Z|exact(E1.set ⟨_,m.j,m.block,st.z,0,st.q,st.scope,0,M,m.A⟩ 9 _ Z).set _ 8 _ Z
  ·first|exact K2.o|exact K2.CB (by omega)|exact(K2.CB (by omega)).CB (by omega)
  ·first|exact B1.o|exact B1.setCell (by simp;omega) _|exact(B1.setCell (by simp;omega) _).setCell (by simp;omega) _
  ·intro W h;have h:=MS h;go_wp2_with(first|(refine fY (.tmp 7) Z Z b7 0 _ Z h.1.range ?_)|(refine Oy (.tmp 6) (.tmp 50) Z Z (T (J w)+1) ke Ev.zero Z Z h.2.1 ?_;intro w9 ad d));have hb:=h.2.2;exact qW (p:=6) (T (J w)+1) _ (by kernel_rfl) underlying180 Z (by kernel_rfl) Z ad Z ⟨Z,hb.trans ⟨d.os,d.tape,d.output,d.size,fun k hk=>d.block k (by have:=hb.size;omega) (by simp;omega)⟩⟩
def ZL{ev:Value}(h:Eg w B g m ev):U g≠ev.ownBlock:=fun e=>by
 rcases h.K.2 with⟨e1,_⟩|⟨f,c,d,e1,_,a,_⟩
 ·rw[e1]at e;simp[xc]at e
 ·rw[e1]at e;simp[xc]at e;subst e;rw[h.box]at a;simp at a
def Oz{W0 Wd:World}{d j:Nat}{ev:Value}(i:Eg w B g m ev)(p:Below (T (J w)) w W0)(x:Below (T (J W0)) W0 Wd)(hs:T (J w)<T (J Wd))(f:w1.ownsRow B 180 10 (MU d (S m.E+1) j) (S m.E+1) (PB m.E++(aG e).toList))(a:Wd.grownBy w1 ev.ownBlock)(o:ev.ownBlock=U d\/T (J w)<=d):
  Eg (w1.setCell ⟨g,13,I⟩ (MU d (S m.E+1) j)) B g (m.put e) (MU d (S m.E+1) j)/\Ef w (w1.setCell ⟨g,13,I⟩ (MU d (S m.E+1) j)) g ev (MU d (S m.E+1) j):=by
 have c:Below (T (J w)) w Wd:=NE p (xF _) x;have l:w1.heap[g]?=U (G (SX m ev) 206 (0,0)):=(a.block g (by have:=i.lt;omega) (ZL i)).trans ((c.block g i.lt).trans i.box);have y:d≠g:=fun e1=>by
  rcases f.2 with⟨e2,_⟩|⟨z,u,v,e2,_,t,_⟩
  ·simp at e2
  ·simp only[Value.slice.injEq,Option.some.injEq,Addr.mk.injEq]at e2;rw[<- e2.1.1,e1,l]at t;simp at t
 refine⟨⟨?_,?_,i.ge,i.lr,i.lm⟩,?_⟩
 ·rw[bX l];rfl
 ·have e1:(m.put e).E.length=S m.E+1:=by simp[Et.put]
  have e2:PB (m.put e).E=PB m.E++(aG e).toList:=by simp only[Et.put];rw[YE,YF]
  rw[e1,e2];refine bE f fun k q=>xW _ _ _ _ ?_;simp[xc]at q;simp;omega
 ·refine⟨a.os.trans c.os,a.tape.trans c.tape,a.output.trans c.output,by have:=a.size;simp;omega,fun k q s r=>?_,?_⟩
  ·rw[xW _ _ _ _ s,a.block k (by omega) fun h=>r h.symm,c.block k q]
  ·rcases o with h|h
   ·exact Or.inl (by rw[h];rfl)
   ·exact Or.inr ⟨d,Z,h⟩
def AD(B g:Nat)(m:Et)(ev:Value)(e:Ev)(w:World)(h:Eg w B g m ev)(hn:S m.E<10000)(hB:B<=T (J w)):
  Calls prog 185 #[.pointer (U ⟨g,0,I⟩),D (aG e)] w fun x w'=>x=L (C O (S m.E:Int))/\∃ev',Eg w' B g (m.put e) ev'/\Ef w w' g ev ev':=by
 obtain⟨i0,hi,aa,ab,ac⟩:=info_parts Tryz.infoEvM;obtain⟨k0,Y,l⟩:=lW w (aG e) 180;have d:=MS (h.X l);have H:=MS h;have r:=MS l;obtain⟨sa,sc,rfl,ae⟩:=h.form;simp only[aG]at *;go_enter func185,ntmps185;go_upto_region 1 with fail
 generalize hE:w.alloc (G #[C O e.B,C O e.j,C O e.block,C O e.z,C O e.value,C O e.q,C O e.scope,C O e.u,N e.step,C .u64 (e.h:Nat)] 180)=W0 at*;have i:NK W0 (T (J w)) e:=k0;obtain⟨x0,x1,x2,x3,x4,x5,x6,x7,x8,x9,xf,xl⟩:=i.F;obtain⟨c0,c1,c2,c3,c4,c5,c6,c7,c8,c9,v,y,A,V,cf⟩:=d.F;have hg:=d.lt;have p:=ZL d.o;have HO:MT ((W0.drew.alloc (G (aG e) 180)).ownsRow B 180 10 (.slice sa (S m.E) sc) (S m.E) (PB m.E)):=bE d.K fun k hk=>xh _ _ _ (d.K.lt k hk).2;have HN:MT (∀j u,(aG e).toList[j]?=U u->(W0.drew.alloc (G (aG e) 180)).cell? ((⟨T (J W0),0,I⟩:Addr).add j)=U u):=
  World.news_of_block (cs:=aG e) (t:=180) (fr:=(0,0)) (heap_alloc_new W0.drew _)
 have HC:MT ((W0.drew.alloc (G (aG e) 180)).cell? ⟨g,13,I⟩=U (.slice sa (S m.E) sc)):=(mP (w:=W0.drew) hg).trans V;have s:MT ((W0.drew.alloc (G (aG e) 180)).frozen? ⟨g,13,I⟩=M):=by
  unfold MT;rw[World.frozen?_of_block (w:=W0.drew) (a:=⟨g,13,I⟩) (xh _ _ _ hg)];exact cf 13
 clear c0 c1 c2 c3 c4 c5 c6 c7 c8 c9 v y A k0 hE i Y;go_region_law(refine step_append_lies _ Z (.tmp 9) (.tmp 11) 78 Z B 180 i0 (D (aG Ev.zero)) 10 80 underlying78 hi aa ab ac Z (by decide) (.slice sa (S m.E) sc) (S m.E) (PB m.E) (by simp[Act.eval]) (by exact HO.o) ⟨T (J W0),0,I⟩ 1 1 (aG e).toList (by simp[Act.eval]) Z (by exact HN.o) (by simp[aG,xe]) (by decide) (by unfold maxLen;omega) (by omega) (by simp;omega) (T (J W0)+1) (by simp) ?_;intro gn cn w1 f c W ad;have c1:=(c.cell_far ⟨g,13,I⟩ (by simp;omega) p).trans HC.o;have f1:=(c.frozen_far ⟨g,13,I⟩ (by simp;omega) p).trans s.o)
 all_goals
  obtain⟨q1,q2⟩:=Oz (Wd:=W0.drew.alloc (G (aG e) 180)) H.o r.o (((xR _ _).drew).alloc (by simp) _) (by simp;omega) f c (by rcases W with h|h;exact Or.inl h;exact Or.inr (by omega));have Q1:=MS q1;have Q2:=MS q2;go_wp2;go_ret;exact⟨by first|rfl|(congr 2;omega),_,Q1.o,Q2.o⟩
def mH(B g:Nat)(w w':World)(ev:Value)(m:Et):Prop:=∃ev',Eg w' B g m ev'/\Ef w w' g ev ev'
def mH.next{d:World}{ev a:Value}(h:Ef w w1 g ev a)(k:mH B g w1 d a m):mH B g w d ev m:=by
 obtain⟨c,f,i⟩:=k;exact⟨c,f,h.trans i⟩
def ZM(B g:Nat)(m:Et)(ev:Value)(st:MV)(w:World)(h:Eg w B g m ev)(hn:S m.E<10000)(hB:B<=T (J w))(hu:m.Y<1000000000):
  Calls prog 180 #[.pointer (U ⟨g,0,I⟩),D (aV st)] w fun x w'=>x=L (C O (S m.E:Int))/\mH B g w w' ev (m.read st):=by
 have aj:=h.lt;have H:=MS h;obtain⟨k0,ak,j⟩:=lW w (aV st) 137;have u:=MS (h.X j);have f:=MS j;have HE:MT (m.read st={m with Y:=m.Y/4}.put {m.V 0 st with value:=(m.Y%4:Nat)}):=Z;simp only[aV]at *;go_enter func180,ntmps180;go_upto_region 2 with(first|(go_at_call 184;refine(zJ B g m ev 0 st _ u.o (Or.inl Z)).mono ?_;rintro e w1 ⟨rfl,a⟩;generalize ai:m.V 0 st=c at*;simp only[aG]))
 have t:MT (NK (w1.alloc (G (aG c) 180)) (T (J w1)) c):=NK.new w1 c;have s:Below (T (J w)) w (w1.alloc (G (aG c) 180)):=(NE f.o (xF _) a).alloc (by have:=a.size;simp at this;omega) _;have i:=MS (H.X s);have r:=MS s;have K:T (J w1)<(w1.alloc (G (aG c) 180)).heap.size:=by simp
 have l:T (J w)<=T (J w1):=(NE f.o (xF _) a).size;clear s a;simp only[aG]at t i r K;generalize hb:T (J w1)=b at*;generalize af:w1.alloc _=d at*;obtain⟨c0,c1,c2,c3,c4,c5,c6,c7,c8,c9,ab,ac,ad,ae,cf⟩:=i.F;obtain⟨x0,x1,x2,x3,x4,x5,x6,x7,x8,x9,xf,xl⟩:=t.F;go_upto_region 4 with fail
 have z:b≠g:=by omega
 have E2:MT (NK ((d.setCell ⟨b,4,I⟩ (C O ((m.Y:Int)%4))).setCell ⟨g,2,I⟩ (C O ((m.Y:Int)/4))) b {c with value:=(m.Y%4:Nat)}):=NK.CB (t.set _ 4 _ Z) z;have v:MT (Eg ((d.setCell ⟨b,4,I⟩ (C O ((m.Y:Int)%4))).setCell ⟨g,2,I⟩ (C O ((m.Y:Int)/4))) B g {m with Y:=m.Y/4} ev):=by
  have q:Eg (d.setCell ⟨b,4,I⟩ (C O ((m.Y:Int)%4))) B g m ev:=H.X (r.setCell (p:=⟨b,4,I⟩) l _);refine q.set ?_ (fun k hk=>xW _ _ _ _ hk) Z q.lr q.lm;rw[bX q.box];rfl
 have FR:MT (Ef w ((d.setCell ⟨b,4,I⟩ (C O ((m.Y:Int)%4))).setCell ⟨g,2,I⟩ (C O ((m.Y:Int)/4))) g ev ev):=(Ef.of (r.setCell (p:=⟨b,4,I⟩) l _) g ev).trans (Ef.set ev [(2,C O ((m.Y:Int)/4))]);have aa:T (J w)<=((d.setCell ⟨b,4,I⟩ (C O ((m.Y:Int)%4))).setCell ⟨g,2,I⟩ (C O ((m.Y:Int)/4))).heap.size:=FR.size;generalize ag:(d.setCell ⟨b,4,I⟩ (C O ((m.Y:Int)%4))).setCell ⟨g,2,I⟩ (C O ((m.Y:Int)/4))=W2 at*;generalize ah:({c with value:=(m.Y%4:Nat)}:Ev)=e1 at*;go_wp2_with(first|(refine fY (.tmp 5) Z Z b 0 e1 Z E2.range ?_)|(go_at_call 185;refine(AD B g _ ev e1 _ v.o hn (by omega)).mono ?_;rintro e w3 ⟨rfl,y,W,A⟩));go_ret;refine⟨Z,y,?_,FR.trans A⟩;rw[HE.o];exact W
def FJ(B g:Nat)(m:Et)(ev:Value)(st:MV)(v:Int)(s:Nat)(w:World)(h:Eg w B g m ev)(hn:S m.E<10000)(hB:B<=T (J w))(ha:m.A<OW)(hs:s<OW):
  Calls prog 207 #[.pointer (U ⟨g,0,I⟩),D (aV st),C O v,C .u64 (s:Nat)] w fun x w'=>x=L (.tuple #[])/\mH B g w w' ev (m.bL st v s):=by
 have H:=MS h;obtain⟨k0,ag,f⟩:=lW w (aV st) 137;have r:=MS (h.X f);have d:=MS f;have HE:MT (m.bL st v s=m.put {m.V 1 st with value:=v,h:=m.A|||s}):=Z;have af:=bits_or_u64_nat m.A s ha hs;have q:MT ((m.V 1 st).h=m.A):=Z;simp only[aV]at *;go_enter func207,ntmps207;go_upto_region 2 with(first|(go_at_call 184;refine(zJ B g m ev 1 st _ r.o (Or.inr (Or.inl Z))).mono ?_;rintro e w1 ⟨rfl,a⟩;generalize ae:m.V 1 st=c at*;simp only[aG]))
 have l:MT (NK (w1.alloc (G (aG c) 180)) (T (J w1)) c):=NK.new w1 c;have k:Below (T (J w)) w (w1.alloc (G (aG c) 180)):=(NE d.o (xF _) a).alloc (by have:=a.size;simp at this;omega) _;have t:=MS (H.X k);have B1:=MS k;have W:T (J w1)<(w1.alloc (G (aG c) 180)).heap.size:=by simp
 have i:T (J w)<=T (J w1):=(NE d.o (xF _) a).size;clear k a;simp only[aG]at l t B1 W;generalize hb:T (J w1)=b at*;generalize ab:w1.alloc _=y at*;obtain⟨x0,x1,x2,x3,x4,x5,x6,x7,x8,x9,xf,xl⟩:=l.F;rw[q.o]at x9;go_upto_region 4 with fail
 have E2:MT (NK ((y.setCell ⟨b,4,I⟩ (C O v)).setCell ⟨b,9,I⟩ (C .u64 ((m.A|||s:Nat):Int))) b {c with value:=v,h:=m.A|||s}):=(l.set {c with value:=v} 4 _ Z).set _ 9 _ Z;have j:MT (Below (T (J w)) w ((y.setCell ⟨b,4,I⟩ (C O v)).setCell ⟨b,9,I⟩ (C .u64 ((m.A|||s:Nat):Int)))):=(B1.setCell (p:=⟨b,4,I⟩) i _).setCell (p:=⟨b,9,I⟩) i _;have u:=MS (H.X j.o);generalize ac:(y.setCell ⟨b,4,I⟩ (C O v)).setCell ⟨b,9,I⟩ (C .u64 ((m.A|||s:Nat):Int))=W2 at*;generalize ad:({c with value:=v,h:=m.A|||s}:Ev)=e1 at*;have aa:=j.size;go_wp2_with(first|(refine fY (.tmp 8) Z Z b 0 e1 Z E2.range ?_)|(go_at_call 185;refine(AD B g _ ev e1 _ u.o hn (by omega)).mono ?_;rintro e w3 ⟨rfl,z,Y,K⟩));go_end0;refine⟨Z,z,?_,(Ef.of j.o g ev).trans K⟩;rw[HE.o];exact Y
def oU(c:∀x∈m.made,x<OW)(a:QR):m.Ea a<OW:=by
 unfold Et.Ea
 split
 ·split
  ·decide
  ·by_cases h:a.n.toNat<S m.made
   ·rw[rQ _ _ h];exact c _ (xa h)
   ·rw[rJ _ _ (by omega)];decide
 ·decide
def O6(B g:Nat)(m:Et)(ev:Value)(st:MV)(w:World)(h:Eg w B g m ev)(hn:S m.E<10000)(hB:B<=T (J w))(ha:m.A<OW)(hm:∀x∈m.made,x<OW):
  Calls prog 182 #[.pointer (U ⟨g,0,I⟩),D (aV st)] w fun x w'=>x=L (.tuple #[])/\mH B g w w' ev (m.store st):=by
 obtain⟨k0,aa,f⟩:=lW w (aV st) 137;have j:=MS (h.X f);have u:=MS f;have p:MT (bB _ _ st):=k0;have HE:MT (m.store st=m.bL st (m.value ⟨st.a.MW,st.a.n⟩) (m.Ea ⟨st.a.MW,st.a.n⟩)):=Z;have K:=f.size;simp only[aV]at *;go_enter func182,ntmps182;go_upto_region 1 with fail
 generalize hE:w.alloc (G #[C O st.B,C O st.i,C O st.dest,C O st.z,N st.a.MW,C O st.a.n,N st.b.MW,C O st.b.n,C O st.q,C O st.scope,C O st.label] 137)=W0 at*;obtain⟨V,W,Y,s3,s4,s5,s6,s7,s8,s9,r,s,t⟩:=p.F;go_wp2_with(first
  |(go_at_call 207;refine(FJ B g m ev st _ _ _ v.o hn (by omega) ha (oU hm ⟨st.a.MW,st.a.n⟩)).mono ?_;rintro e w3 ⟨rfl,H⟩)
  |(go_at_call 157;refine(AC B g m ev st.a.MW st.a.n _ k.o).mono ?_;rintro e w2 ⟨rfl,d⟩;have v:=MS (k.X d);have y:=MS (l.X d);obtain⟨V,W,Y,s3,s4,s5,s6,s7,s8,s9,r,s,t⟩:=y.F)
  |(go_at_call 158;refine(vV B g m ev st.a.MW st.a.n _ j.o).mono ?_;rintro e w1 ⟨rfl,c⟩;have k:=MS (j.X c);have l:=MS (p.X c);obtain⟨V,W,Y,s3,s4,s5,s6,s7,s8,s9,r,s,t⟩:=l.F))
 go_end0;refine⟨Z,mH.next (Ef.of (NE (NE u.o (xF _) c) (xF _) d) g ev) ?_⟩;rw[HE.o];exact H
def O7(B g:Nat)(m:Et)(ev:Value)(st:MV)(w:World)(h:Eg w B g m ev)(hn:S m.E+1<10000)(hB:B<=T (J w))(aB:m.u<10000):
  Calls prog 186 #[.pointer (U ⟨g,0,I⟩),D (aV st)] w fun x w'=>x=L (.tuple #[])/\mH B g w w' ev (m.cX st):=by
 have aC:=h.lt;have H:=MS h;obtain⟨k0,aE,r⟩:=lW w (aV st) 137;have A:=MS (h.X r);have ak:=MS r;have aa:MT (bB _ _ st):=k0;have HE:MT (m.cX st={(m.put (m.V 3 st)).put (m.V 4 st)with u:=m.u+1}):=by
  unfold MT Et.cX Et.put;simp
 have ay:=r.size;simp only[aV]at *;go_enter func186,ntmps186;go_upto_region 1 with fail
 generalize hE:w.alloc (G #[C O st.B,C O st.i,C O st.dest,C O st.z,N st.a.MW,C O st.a.n,N st.b.MW,C O st.b.n,C O st.q,C O st.scope,C O st.label] 137)=W0 at*;obtain⟨s0,s1,s2,s3,s4,s5,s6,s7,s8,s9,ah,ai,aj⟩:=aa.F;go_upto_region 2 with(first|(go_at_call 184;refine(zJ B g m ev 3 st _ A.o (by omega)).mono ?_;rintro e w1 ⟨rfl,d⟩;generalize ar:m.V 3 st=v at*;simp only[aG]))
 have E1:MT (NK (w1.alloc (G (aG v) 180)) (T (J w1)) v):=NK.new w1 v;have j:Below (T (J W0)) W0 (w1.alloc (G (aG v) 180)):=d.alloc d.size _;have l:=MS (A.X j);have Y:=MS (aa.X j);have B1:=MS (NE ak.o (xF _) j);have aF:T (J w)<=T (J w1):=by have:=d.size;omega
 clear j d s0 s1 s2 s3 s4 s5 s6 s7 s8 s9 ah ai aj;simp only[aG]at E1 l B1 Y;generalize hb:T (J w1)=b at*;generalize aq:w1.alloc _=W1 at*;clear aq;obtain⟨s0,s1,s2,s3,s4,s5,s6,s7,s8,s9,ah,ai,aj⟩:=Y.F;go_upto_region 3 with(first|(go_at_call 184;refine(zJ B g m ev 4 st _ l.o (by omega)).mono ?_;rintro e t ⟨rfl,p⟩;generalize ad:m.V 4 st=e4 at*;simp only[aG]))
 have E2:MT (NK (t.alloc (G (aG e4) 180)) (T (J t)) e4):=NK.new t e4;have j:Below (T (J W1)) W1 (t.alloc (G (aG e4) 180)):=p.alloc p.size _;have W:=MS (l.X j);have y:=MS (E1.X j);have B2:=MS (NE B1.o (xF _) j);have av:=E1.lt;have aw:T (J W1)<=T (J t):=p.size;simp only[aG]at E2 W B2 y;generalize aA:T (J t)=b2 at*;generalize az:t.alloc _=W2 at*;have ag:∀k,ev.ownBlock=U k->k<T (J w):=fun k hk=>(H.K.lt k hk).2
 have ax:=B2.size;clear ar ad;go_upto_region 4 with(first|(refine fY (.tmp 4) Z Z b 0 v Z y.range ?_)|(go_at_call 185;refine(AD B g m ev v _ W.o (by omega) (by omega)).mono ?_;rintro e w3 ⟨rfl,ap,af,f⟩))
 have E3:MT (NK w3 b2 e4):=by
  have h1:=E2.o;have h2:=h1.lt;unfold MT NK at*;rw[f.block b2 h2 (by omega) fun e=>by have:=ag b2 e;omega];exact h1
 have al:=MS af;have F3:=MS ((Ef.of B2.o g ev).trans f);have aD:=f.size;clear af f;go_upto_region 5 with(first|(refine fY (.tmp 5) Z Z b2 0 e4 Z E3.range ?_)|(go_at_call 185;refine(AD B g _ ap e4 _ al.o (by simp[Et.put];omega) (by omega)).mono ?_;rintro e w4 ⟨rfl,ac,s,ae⟩))
 obtain⟨c0,c1,c2,c3,c4,c5,c6,c7,c8,c9,am,an,ab,ao,cf⟩:=s.F;have c:=MS s;have F4:=MS (F3.trans ae);have au:w4.cell? ⟨g,12,I⟩=U (C O (m.u:Nat)):=ab;clear c0 c1 c2 c3 c4 c5 c6 c7 c8 c9 am an ab ao s ae;go_wp2;go_end0;refine⟨Z,ac,?_,F4.trans (Ef.set ac [(12,C O ((m.u:Int)+1))])⟩;rw[HE.o];refine c.set ?_ (fun k hk=>xW _ _ _ _ hk) Z c.lr c.lm;rw[bX c.box];rfl
namespace Q
structure Et.Ok(m:Et)(n:Nat):Prop where
 g:∀x∈m.g,0<=x/\x<4
 made:∀x∈m.made,x<OW
 A:m.A<OW
 K:∀e∈m.E,0<=e.value/\e.value<4/\e.h<OW
 len:S m.E<=2*n
 u:m.u<=n
 Y:m.Y<1000000000
def zI(a:QR):Prop:=0<=a.n/\a.n<4
def QK(st:MV):Prop:=zI st.a/\zI st.b
def O8(l:List Int)(h:∀x∈l,0<=x/\x<4)(i:Nat):0<=l.getD i 0/\l.getD i 0<4:=by
 by_cases hi:i<S l
 ·rw[gS l i hi];exact h _ (xa hi)
 ·simp[List.getD,xi (by omega:S l<=i)]
def Et.Ok.value(h:m.Ok n){a:QR}(c:zI a):0<=m.value a/\m.value a<4:=by
 unfold Et.value
 split
 ·split
  ·omega
  ·exact O8 _ h.g _
 ·exact c
def Et.Ok.aU(h:m.Ok n)(i:Nat):0<=m.aU i/\m.aU i<4:=by
 unfold Et.aU;by_cases hi:i<S m.E
 ·have e:m.E.getD i Ev.zero=m.E[i]:=by simp[hi]
  rw[e];have:=h.K _ (xa hi);omega
 ·have e:m.E.getD i Ev.zero=Ev.zero:=by simp[xi (by omega:S m.E<=i)]
  rw[e];simp[Ev.zero]
def Et.Ok.aJ(h:m.Ok n)(d v:Int)(s:Nat)(c:0<=v/\v<4)(hs:s<OW):(m.aJ d v s).Ok n:=by
 unfold Et.aJ
 split
 ·exact h
 ·refine⟨fun x a=>?_,fun x a=>?_,h.A,h.K,h.len,h.u,h.Y⟩
  ·rcases xj a with a|rfl
   ·exact h.g x a
   ·exact c
  ·rcases xj a with a|rfl
   ·exact h.made x a
   ·exact hs
def Et.Ok.mF(h:m.Ok n):m.Ok (n+1):=⟨h.g,h.made,h.A,h.K,by have:=h.len;omega,by have:=h.u;omega,h.Y⟩
def Et.Ok.read(h:m.Ok n)(st:MV):(∀x∈(m.read st).g,0<=x/\x<4)/\(∀x∈(m.read st).made,x<OW)/\(m.read st).A<OW/\(∀e∈(m.read st).E,0<=e.value/\e.value<4/\e.h<OW)/\(m.read st).E.length=S m.E+1/\(m.read st).Y<1000000000:=by
 refine⟨h.g,h.made,h.A,fun e a=>?_,by simp[Et.read],by have:=h.Y;simp[Et.read];omega⟩;simp only[Et.read,xb,xd]at a
 rcases a with a|rfl
 ·exact h.K e a
 ·refine⟨by simp;omega,by simp;omega,?_⟩;simp[Et.V];exact h.A
end Q
def O9(B g k:Nat)(m:Et)(ev:Value)(st:MV)(w:World)(h:Eg w B g m ev)(u:m.Ok k)(v:QK st):
  Calls prog 187 #[.pointer (U ⟨g,0,I⟩),D (aV st)] w fun x w'=>x=L (C O (m.bD st))/\Below (T (J w)) w w':=by
 obtain⟨k0,Y,t⟩:=lW w (aV st) 137;have l:=MS (h.X t);have A:=MS t;have r:MT (bB _ _ st):=k0;have j:MT (m.bD st=if st.B==7 then(m.value ⟨st.a.MW,st.a.n⟩+m.value ⟨st.b.MW,st.b.n⟩)%4 else if st.B==8 then(m.value ⟨st.a.MW,st.a.n⟩+4-m.value ⟨st.b.MW,st.b.n⟩)%4 else if st.B==9 then(if m.value ⟨st.a.MW,st.a.n⟩==m.value ⟨st.b.MW,st.b.n⟩then 1 else 0)else m.value ⟨st.a.MW,st.a.n⟩):=Z;have ha:=u.value (a:=⟨st.a.MW,st.a.n⟩) v.1;have hb:=u.value (a:=⟨st.b.MW,st.b.n⟩) v.2;simp only[aV]at *;go_enter func187,ntmps187;go_upto_region 1 with fail
 generalize hE:w.alloc (G #[C O st.B,C O st.i,C O st.dest,C O st.z,N st.a.MW,C O st.a.n,N st.b.MW,C O st.b.n,C O st.q,C O st.scope,C O st.label] 137)=W0 at*;obtain⟨H,K,V⟩:=r.fs;go_upto_region 2 with(first
  |(go_at_call 158;refine(vV B g m ev st.a.MW st.a.n _ l.o).mono ?_;rintro e w1 ⟨rfl,d⟩;have E:=MS (l.X d);have p:=MS (r.X d);have W:=MS (NE A.o (xF _) d);obtain⟨H,K,V⟩:=p.fs))
 go_upto_region 3 with(first
  |(go_at_call 158;refine(vV B g m ev st.b.MW st.b.n _ E.o).mono ?_;rintro e w2 ⟨rfl,s⟩;have F:=MS (p.X s);have f:=MS (NE W.o (xF _) s);obtain⟨H,K,V⟩:=F.fs))
 generalize m.value ⟨st.a.MW,st.a.n⟩=x at*;generalize m.value ⟨st.b.MW,st.b.n⟩=y at*
 cases z7:st.B==7
 rotate_left
 ·have c:MT (m.bD st=(x+y)%4):=by unfold MT;rw[j.o,z7];rfl
  go_wp2;go_ret;rw[c.o];exact⟨Z,f.o⟩
 cases z8:st.B==8
 rotate_left
 ·have c:MT (m.bD st=(x+4-y)%4):=by unfold MT;rw[j.o,z7,z8];rfl
  go_wp2;go_ret;rw[c.o];exact⟨Z,f.o⟩
 cases z9:st.B==9
 ·have c:MT (m.bD st=x):=by unfold MT;rw[j.o,z7,z8,z9];rfl
  go_wp2;go_ret;rw[c.o];exact⟨Z,f.o⟩
 cases zz:x==y
 ·have c:MT (m.bD st=0):=by unfold MT;rw[j.o,z7,z8,z9,zz];rfl
  go_wp2;go_ret;rw[c.o];exact⟨Z,f.o⟩
 ·have c:MT (m.bD st=1):=by unfold MT;rw[j.o,z7,z8,z9,zz];rfl
  go_wp2;go_ret;rw[c.o];exact⟨Z,f.o⟩
def ZN(B g k:Nat)(m:Et)(ev:Value)(st:MV)(w:World)(h:Eg w B g m ev)(d:m.Ok k)(ao:QK st)(hk:k<1000)(hB:B<=T (J w)):
  Calls prog 183 #[.pointer (U ⟨g,0,I⟩),D (aV st)] w fun x w'=>x=L (.tuple #[])/\mH B g w w' ev (m.step st):=by
 obtain⟨k0,au,W⟩:=lW w (aV st) 137;have ae:=MS (h.X W);have al:=MS W;have aj:MT (bB _ _ st):=k0;have ha:=d.value (a:=⟨st.a.MW,st.a.n⟩) ao.1;have ad:=oU d.made ⟨st.a.MW,st.a.n⟩;have ap:=d.len;obtain⟨r1,r2,r3,r4,r5,r6⟩:=d.read st;have av:0<=(m.read st).aU (S m.E)/\(m.read st).aU (S m.E)<4:=by
  have hx:(m.read st).Ok (k+1):=⟨r1,r2,r3,r4,by omega,by have:=d.u;show m.u<=k+1;omega,r6⟩;exact hx.aU _
 have r:=sU (S m.E:Nat);have ar:=bits_or_u64_nat (m.Ea ⟨st.a.MW,st.a.n⟩) (Q.bW (S m.E:Nat)) ad r;have an:=rA ad r;have aq:=W.size;have p:MT (∀v s,((m.read st).bL st v s).E.length=S m.E+2):=fun v s=>by simp[Et.bL,Et.put,Et.read]
 simp only[aV]at *;go_enter func183,ntmps183;go_upto_region 1 with fail
 generalize hE:w.alloc (G #[C O st.B,C O st.i,C O st.dest,C O st.z,N st.a.MW,C O st.a.n,N st.b.MW,C O st.b.n,C O st.q,C O st.scope,C O st.label] 137)=W0 at*;obtain⟨s0,s1,s2⟩:=aj.fs;go_upto_region 4 with(first
  |(go_at_call 180;refine(ZM B g m ev st _ ag.o (by omega) (by omega) d.Y).mono ?_;rintro e w3 ⟨rfl,H,am,ak⟩;have f:=MS am;have A:=MS (ak.stm ag.o ai.o);have F3:=MS ((Ef.of (NE (NE al.o (xF _) K) (xF _) V) g ev).trans ak);obtain⟨s0,s1,s2⟩:=A.fs)
  |(go_at_call 157;refine(AC B g m ev st.a.MW st.a.n _ af.o).mono ?_;rintro e w2 ⟨rfl,V⟩;have ag:=MS (af.X V);have ai:=MS (ah.X V);obtain⟨s0,s1,s2⟩:=ai.fs)
  |(go_at_call 158;refine(vV B g m ev st.a.MW st.a.n _ ae.o).mono ?_;rintro e w1 ⟨rfl,K⟩;have af:=MS (ae.X K);have ah:=MS (aj.X K);obtain⟨s0,s1,s2⟩:=ah.fs))
 cases z2:st.B==2
 ·have HE:MT (m.step st=((m.read st).bL st (m.value ⟨st.a.MW,st.a.n⟩) (m.Ea ⟨st.a.MW,st.a.n⟩)).aZ st.dest (S m.E)):=by unfold MT Et.step;rw[z2];rfl
  generalize m.value ⟨st.a.MW,st.a.n⟩=x at*;generalize m.Ea ⟨st.a.MW,st.a.n⟩=y at*;go_wp2_with(first
   |(go_at_call 181;refine(LU B g _ j st.dest (S m.E) _ t.o (by rw[p.o];omega) (by rw[p.o];omega)).mono ?_;rintro e w5 ⟨rfl,ac,aa⟩)
   |(go_at_call 207;refine(FJ B g (m.read st) H st x y _ f.o (by omega) (by omega) r3 ad).mono ?_;rintro e w4 ⟨rfl,j,ab,l⟩;have t:=MS ab;have F:=MS (l.stm f.o A.o);have F4:=MS (F3.trans l);obtain⟨s0,s1,s2⟩:=F.fs))
  go_end0;refine⟨Z,j,?_,F4.trans aa⟩;rw[HE.o];exact ac
 ·have HE:MT (m.step st=((m.read st).bL st ((m.value ⟨st.a.MW,st.a.n⟩+(m.read st).aU (S m.E))%4) (m.Ea ⟨st.a.MW,st.a.n⟩|||Q.bW (S m.E:Nat))).aZ st.dest (S m.E)):=by unfold MT Et.step;rw[z2];rfl
  generalize hx:m.value ⟨st.a.MW,st.a.n⟩=x at*;generalize hy:m.Ea ⟨st.a.MW,st.a.n⟩=y at*;generalize hv:(m.read st).aU (S m.E)=v at*;go_wp2_with(first
   |(go_at_call 181;refine(LU B g _ j st.dest (S m.E) _ t.o (by rw[p.o];omega) (by rw[p.o];omega)).mono ?_;rintro e w5 ⟨rfl,ac,aa⟩)
   |(go_at_call 207;refine(FJ B g (m.read st) H st ((x+v)%4) (y|||Q.bW (S m.E:Nat)) _ f.o (by omega) (by omega) r3 an).mono ?_;rintro e w4 ⟨rfl,j,ab,l⟩;have t:=MS ab;have F:=MS (l.stm f.o A.o);have F4:=MS (F3.trans l);obtain⟨s0,s1,s2⟩:=F.fs)
   |(go_at_call 206;refine(YP B g (m.read st) H (S m.E) _ f.o (by omega) (by omega)).mono ?_;rintro e w' ⟨rfl,c⟩;have c:=c.symm;subst c;rw[hv])
   |(go_at_call 139;refine(DW _ _).mono ?_;rintro e w' ⟨rfl,c⟩;have c:=c.symm;subst c))
  go_end0;refine⟨Z,j,?_,F4.trans aa⟩;rw[HE.o];exact ac
def Pa(B g k:Nat)(m:Et)(ev:Value)(st:MV)(w:World)(h:Eg w B g m ev)(ah:m.Ok k)(ay:QK st)(hk:k<1000)(hB:B<=T (J w)):
  Calls prog 159 #[.pointer (U ⟨g,0,I⟩),D (aV st)] w fun x w'=>x=L (.tuple #[])/\mH B g w w' ev (m.bO st):=by
 obtain⟨k0,aH,ab⟩:=lW w (aV st) 137;have c:=MS (h.X ab);have j:=MS ab;have aa:MT (bB _ _ st):=k0;have f:=MS ah;have W:=MS ay;have az:=ah.len;have aA:=ab.size;have K:MT (m.bO st=if st.B==0 then(m.read st).aZ st.dest (S m.E)else if st.B==1 then m.store st else if st.B==2||st.B==3 then m.step st else if st.B==4 then m.put (m.V 2 st)else if st.B==5 then m.cX st else if st.B==6||st.B==7||st.B==8||st.B==9 then m.aJ st.dest (m.bD st) (m.Ea ⟨st.a.MW,st.a.n⟩|||m.Ea ⟨st.b.MW,st.b.n⟩)else m):=Z;simp only[aV]at *;go_enter func159,ntmps159;go_upto_region 1 with fail
 generalize hE:w.alloc (G #[C O st.B,C O st.i,C O st.dest,C O st.z,N st.a.MW,C O st.a.n,N st.b.MW,C O st.b.n,C O st.q,C O st.scope,C O st.label] 137)=W0 at*;obtain⟨v,s1,s2,s3,s4,s5,s6,s7,s8,s9,ai,aj,ak⟩:=aa.F
 cases z0:st.B==0
 rotate_left
 ·have aF:(m.read st).E.length=S m.E+1:=(f.read st).2.2.2.2.1;have p:MT (m.bO st=(m.read st).aZ st.dest (S m.E)):=by unfold MT;rw[K.o,z0];rfl
  go_wp2_with(first
   |(go_at_call 181;refine(LU B g _ y st.dest (S m.E) _ am.o (by omega) (by omega)).mono ?_;rintro e w5 ⟨rfl,ad,ac⟩)
   |(go_at_call 180;refine(ZM B g m ev st _ c.o (by omega) (by omega) f.Y).mono ?_;rintro e w3 ⟨rfl,y,d,H⟩;have am:=MS d;have aq:=MS (H.stm c.o aa.o);have F3:=MS ((Ef.of j.o g ev).trans H);obtain⟨v,s1,s2,s3,s4,s5,s6,s7,s8,s9,ai,aj,ak⟩:=aq.F))
  go_end0;refine⟨Z,y,?_,F3.trans ac⟩;rw[p.o];exact ad
 cases z1:st.B==1
 rotate_left
 ·skip
  have p:MT (m.bO st=m.store st):=by unfold MT;rw[K.o,z0,z1];rfl
  go_wp2_with(first|(go_at_call 182;refine(O6 B g m ev st _ c.o (by omega) (by omega) f.A f.made).mono ?_;rintro e w3 ⟨rfl,d⟩));go_end0;refine⟨Z,mH.next (Ef.of j.o g ev) ?_⟩;rw[p.o];exact d
 cases z2:st.B==2
 rotate_left
 ·skip
  have p:MT (m.bO st=m.step st):=by unfold MT;rw[K.o,z0,z1,z2];rfl
  go_wp2_with(first|(go_at_call 183;refine(ZN B g k m ev st _ c.o f.o W.o hk (by omega)).mono ?_;rintro e w3 ⟨rfl,d⟩));go_end0;refine⟨Z,mH.next (Ef.of j.o g ev) ?_⟩;rw[p.o];exact d
 cases z3:st.B==3
 rotate_left
 ·skip
  have p:MT (m.bO st=m.step st):=by unfold MT;rw[K.o,z0,z1,z2,z3];rfl
  go_wp2_with(first|(go_at_call 183;refine(ZN B g k m ev st _ c.o f.o W.o hk (by omega)).mono ?_;rintro e w3 ⟨rfl,d⟩));go_end0;refine⟨Z,mH.next (Ef.of j.o g ev) ?_⟩;rw[p.o];exact d
 cases z4:st.B==4
 rotate_left
 ·skip
  have p:MT (m.bO st=m.put (m.V 2 st)):=by unfold MT;rw[K.o,z0,z1,z2,z3,z4];rfl
  go_upto_region 12 with(first|(go_at_call 184;refine(zJ B g m ev 2 st _ c.o (by omega)).mono ?_;rintro e w1 ⟨rfl,t⟩;generalize aD:m.V 2 st=e0 at*;simp only[aG]))
  have E1:MT (NK (w1.alloc (G (aG e0) 180)) (T (J w1)) e0):=NK.new w1 e0;have BX:Below (T (J W0)) W0 (w1.alloc (G (aG e0) 180)):=t.alloc t.size _;have s:=MS (c.X BX);have B1:=MS (NE j.o (xF _) BX);have ax:=BX.size;simp only[aG]at E1 s B1 ax;generalize hb:T (J w1)=b at*;generalize aB:w1.alloc _=W1 at*;go_wp2_with(first|(refine fY (.tmp 5) Z Z b 0 e0 Z E1.range ?_)|(go_at_call 185;refine(AD B g m ev e0 _ s.o (by omega) (by omega)).mono ?_;rintro e w3 ⟨rfl,y,d,H⟩));go_end0;refine⟨Z,y,?_,(Ef.of B1.o g ev).trans H⟩;rw[p.o];exact d
 cases z5:st.B==5
 rotate_left
 ·skip
  have p:MT (m.bO st=m.cX st):=by unfold MT;rw[K.o,z0,z1,z2,z3,z4,z5];rfl
  have aC:=f.u;go_wp2_with(first|(go_at_call 186;refine(O7 B g m ev st _ c.o (by omega) (by omega) (by omega)).mono ?_;rintro e w3 ⟨rfl,d⟩));go_end0;refine⟨Z,mH.next (Ef.of j.o g ev) ?_⟩;rw[p.o];exact d
 have av:=oU f.made ⟨st.a.MW,st.a.n⟩;have aw:=oU f.made ⟨st.b.MW,st.b.n⟩;have aE:=bits_or_u64_nat (m.Ea ⟨st.a.MW,st.a.n⟩) (m.Ea ⟨st.b.MW,st.b.n⟩) av aw
 cases z6:st.B==6
 case' false =>
  cases z7:st.B==7
  case' false =>
   cases z8:st.B==8
   case' false =>
    cases z9:st.B==9
    case' false =>
      have p:MT (m.bO st=m):=by unfold MT;rw[K.o,z0,z1,z2,z3,z4,z5,z6,z7,z8,z9];rfl
      go_wp2;go_end0;refine⟨Z,ev,?_,Ef.of j.o g ev⟩;rw[p.o];exact c.o
 all_goals
  have p:MT (m.bO st=m.aJ st.dest (m.bD st) (m.Ea ⟨st.a.MW,st.a.n⟩|||m.Ea ⟨st.b.MW,st.b.n⟩)):=by unfold MT;rw[K.o,z0,z1,z2,z3,z4,z5];first|(rw[z6];rfl)|(rw[z6,z7];rfl)|(rw[z6,z7,z8];rfl)|(rw[z6,z7,z8,z9];rfl)
  go_upto_region 20 with(first|(go_at_call 187;refine(O9 B g k m ev st _ c.o f.o W.o).mono ?_;rintro e w1 ⟨rfl,t⟩;have s:=MS (c.X t);have ae:=MS (aa.X t);have B1:=MS (NE j.o (xF _) t);obtain⟨v,s1,s2,s3,s4,s5,s6,s7,s8,s9,ai,aj,ak⟩:=ae.F))
  generalize m.bD st=rv at*;generalize af:m.Ea ⟨st.a.MW,st.a.n⟩=ma at*;generalize ag:m.Ea ⟨st.b.MW,st.b.n⟩=mb at*;have an:=MS af;have ao:=MS ag;go_region_held3 (fun w'=>w'.cell? ⟨T (J w),4,I⟩=U (N st.a.MW)/\w'.cell? ⟨T (J w),5,I⟩=U (C O st.a.n)/\w'.cell? ⟨T (J w),6,I⟩=U (N st.b.MW)/\w'.cell? ⟨T (J w),7,I⟩=U (C O st.b.n)) (first|exact⟨s6,s7,s8,s9⟩|exact⟨p6,p7,p8,p9⟩|exact⟨q6,q7,q8,q9⟩) (first
   |(go_at_call_of 157 (Value.bool st.b.MW);refine(AC B g m ev st.b.MW st.b.n _ (s.X r.o)).mono ?_;rintro e v2 ⟨rfl,au⟩;have l:MT (Below (T (J w1)) w1 v2):=NE r.o (xF _) au;rw[ao.o];have q6:=MZ l.o v s6;have q7:=MZ l.o v s7;have q8:=MZ l.o v s8;have q9:=MZ l.o v s9)
   |(go_at_call 157;refine(AC B g m ev st.a.MW st.a.n _ (s.X (xR _ _).drew)).mono ?_;rintro e v1 ⟨rfl,ar⟩;have r:MT (Below (T (J w1)) w1 v1):=((xR (T (J w1)) w1).drew).trans (ar.mono (by simp));rw[an.o];have p6:=MZ r.o v s6;have p7:=MZ r.o v s7;have p8:=MZ r.o v s8;have p9:=MZ r.o v s9))
  have ap:=MS (ae.X l.o);have al:=MS (s.X l.o);have F2:=MS (Ef.of (NE B1.o (xF _) l.o) g ev);obtain⟨t0,t1,t2,t3,t4,t5,t6,t7,t8,t9,aI,aK,aL⟩:=ap.F;go_wp2_with(first|(go_at_call 188;refine(YQ B g m ev st.dest rv (ma|||mb) _ al.o).mono ?_;rintro e w5 ⟨rfl,ad,ac⟩));go_end0;refine⟨Z,ev,?_,F2.trans ac⟩;rw[p.o];exact ad
namespace Q
def Et.jU(m:Et)(st:MV)(v:Int)(s:Nat):(m.bL st v s).E.length=S m.E+1:=by simp[Et.bL,Et.put]
def Et.jV{n:Nat}(d:∀e∈m.E,0<=e.value/\e.value<4/\e.h<OW)(f:m.A<OW)(st:MV)(v:Int)(s:Nat)(c:0<=v/\v<4)(hs:s<OW):∀e∈(m.bL st v s).E,0<=e.value/\e.value<4/\e.h<OW:=by
 intro e a;simp only[Et.bL,Et.put,xb,xd]at a
 rcases a with a|rfl
 ·exact d e a
 ·exact⟨c.1,c.2,rA f hs⟩
def IV(x:Int):0<=x%4/\x%4<4:=⟨Int.emod_nonneg _ (by decide),Int.emod_lt_of_pos _ (by decide)⟩
def Et.Ok.bD(h:m.Ok n)(hs:QK st):0<=m.bD st/\m.bD st<4:=by
 unfold Et.bD
 split
 ·exact IV _
 ·split
  ·exact IV _
  ·split
   ·split<;>omega
   ·exact h.value hs.1
def Et.Ok.vN(h:m.Ok n)(st:MV):(m.read st).Ok (n+1):=by
 obtain⟨a,c,d,f,j,i⟩:=h.read st;exact⟨a,c,d,f,by have:=h.len;omega,by have:=h.u;show m.u<=n+1;omega,i⟩
def Et.Ok.bO(h:m.Ok n)(hs:QK st):(m.bO st).Ok (n+1):=by
 have d:=h.vN st;have l:=h.len;have i:∀(v:Int) (s:Nat),0<=v/\v<4->s<OW->((m.read st).bL st v s).Ok (n+1):=fun v s k j =>
  ⟨d.g,d.made,d.A,Et.jV (n:=n) d.K d.A st v s k j,by rw[Et.jU,(h.read st).2.2.2.2.1];omega,d.u,d.Y⟩
 unfold Et.bO
 split
 ·exact d.aJ _ _ _ (d.aU _) (sU _)
 split
 ·exact⟨h.g,h.made,h.A,Et.jV (n:=n) h.K h.A st _ _ (h.value hs.1) (oU h.made _),by unfold Et.store;rw[Et.jU];omega,by have:=h.u;show m.u<=n+1;omega,h.Y⟩
 split
 ·unfold Et.step
  split
  ·have f:=i ((m.value st.a+(m.read st).aU (S m.E))%4) (m.Ea st.a|||bW (S m.E:Nat)) (IV _) (rA (oU h.made _) (sU _));exact f.aJ _ _ _ (f.aU _) (sU _)
  ·have f:=i (m.value st.a) (m.Ea st.a) (h.value hs.1) (oU h.made _);exact f.aJ _ _ _ (f.aU _) (sU _)
 split
 ·refine⟨h.g,h.made,h.A,fun e c=>?_,by simp[Et.put];omega,by have:=h.u;show m.u<=n+1;omega,h.Y⟩;simp only[Et.put,xb,xd]at c
  rcases c with c|rfl
  ·exact h.K e c
  ·simp[Et.V]
 split
 ·refine⟨h.g,h.made,h.A,fun e c=>?_,by simp[Et.cX];omega,by have:=h.u;show m.u+1<=n+1;omega,h.Y⟩;simp only[Et.cX,xb,List.mem_cons,List.mem_nil_iff,or_false]at c
  rcases c with c|rfl|rfl
  ·exact h.K e c
  ·simp[Et.V]
  ·simp[Et.V]
 split
 ·exact(h.aJ _ _ _ (h.bD hs) (rA (oU h.made _) (oU h.made _))).mF
 ·exact h.mF
def Et.Ok.bY(h:m.Ok n)(st:MV):(m.bY st).Ok n:=⟨h.g,h.made,rA h.A (oU h.made _),h.K,h.len,h.u,h.Y⟩
def ZO{p:Et×Nat}(h:p.1.Ok n)(hs:QK st):(aK p st).1.Ok (n+1):=by
 unfold aK
 split
 ·split
  ·exact(h.bY st).mF
  ·exact h.bO hs
 ·split
  ·exact h.mF
  ·split<;>exact h.mF
def ZP(t b:Int)(u:Nat)(d:u<1000000000):(Et.start t b u).Ok 0:=by
 refine⟨?_,?_,by show(0:Nat)<OW;decide,?_,by simp[Et.start],by simp[Et.start],d⟩
 ·intro x a;simp[Et.start]at a;omega
 ·intro x a;simp[Et.start]at a;rw[a];decide
 ·intro e c;simp[Et.start]at c
def Pb(p:Et×Nat)(st:MV):(aK p st).2<=p.2+1:=by
 unfold aK
 split
 ·split
  ·split<;>simp
  ·simp
 ·split
  ·simp
  ·split
   ·simp;omega
   ·omega
end Q
def Pc(p:Et×Nat)(st:MV)(a:(p.2==0)=M)(h:(st.B==10)=true):aK p st=(p.1,p.2+1):=by unfold aK;rw[a,h];rfl
def Pd(p:Et×Nat)(st:MV)(a:(p.2==0)=M)(h:(st.B==10)=M)(c:(st.B==11)=true):aK p st=(p.1,p.2-1):=by unfold aK;rw[a,h,c];rfl
def Pe(p:Et×Nat)(st:MV)(a:(p.2==0)=M)(h:(st.B==10)=M)(c:(st.B==11)=M):aK p st=p:=by unfold aK;rw[a,h,c];rfl
def Pf(m:Et)(st:MV)(h:(st.B==10)=true):aK (m,0) st=(m.bY st,if m.value st.a==0 then 1 else 0):=by unfold aK;rw[h];rfl
def Ph(m:Et)(st:MV)(h:(st.B==10)=M):aK (m,0) st=(m.bO st,0):=by unfold aK;rw[h];rfl
def bB.vI{c:World}{ev:Value}(f:Eg w B g m ev)(hs:bB w b st)(d:∀k,k≠g->c.heap[k]?=w.heap[k]?):bB c b st:=by
 refine hs.aC (d b ?_);intro e;have a:=f.box;unfold bB at hs;rw[<- e,hs]at a;simp at a
def Pi(B g H sc:Nat)(m:Et)(ev:Value)(r:List MV)(sa:Option Addr)(w:World)(h:Eg w B g m ev)(aj:m.Ok 0)(am:∀s∈r,QK s)(hn:S r<900)(hB:B<=T (J w))(aQ:0<S r->sa=U ⟨H,0,I⟩)(aI:0<S r->H<B)(hr:∀q (hq:q<S r),w.rangeAt H (q*11) (aV r[q]).toList):
  Calls prog 134 #[.pointer (U ⟨g,0,I⟩),.slice sa (S r) sc] w fun x w'=>x=L (.tuple #[])/\mH B g w w' ev (rV m r):=by
 have ae:=MS h;have ay:=MS hr;have ax:=MS aj;have aA:=MS am;have av:MT (rV m r=(r.foldl aK (m,0)).1):=Z;clear h hr aj am;go_enter func134,ntmps134;go_wp2;go_loopw[4,9] (fun c j wr=>∃(k:Nat) (p:Et×Nat) (l:Value),k<=S r/\j=C O k/\c=C O (p.2:Nat)/\MT (p=(r.take k).foldl aK (m,0))/\MT (p.1.Ok k)/\p.2<=k/\MT (Eg wr B g p.1 l)/\MT (Ef w wr g ev l)) fun _ j _=>S r-(intOf j).toNat
 case atStart=>exact⟨0,(m,0),ev,Nat.zero_le _,Z,Z,by simp[MT],ax,xF _,ae,Ef.of (xR _ _) g ev⟩
 case round =>
  obtain⟨k,⟨mk,v⟩,l,hk,rfl,rfl,HP,HO,aN,HI,HF⟩:=hrel;simp only at HO aN HI;by_cases hlt:k<S r
  ·have aW:(k:Int)<(S r:Int):=by omega
   have aP:=aQ (by omega);subst aP;have aH:=aI (by omega);have aa:=HF.X ae.o hB;have E:MT (wr.rangeAt H (k*11) (aV r[k]).toList):=jM (ay.o k hlt) (aa.block H aH);have f:MT ((r.take (k+1)).foldl aK (m,0)=aK (mk,v) r[k]):=by
    unfold MT;rw[List.take_succ_eq_append_getElem hlt,List.foldl_append,<- HP.o];rfl
   have al:=aA.o r[k] (xa hlt);generalize r[k]=st at*;have d:=MS (ZO (p:=(mk,v)) HO.o al);have aS:=Pb (mk,v) st;have ab:=MS (bB.new wr st);have t:=MS (HI.X ((xR _ _).alloc (xF _) (G (aV st) 137)));have y:=MS (HF.trans (Ef.of ((xR (T (J wr)) wr).alloc (xF _) (G (aV st) 137)) g l));have ao:B<=(wr.alloc (G (aV st) 137)).heap.size:=by have:=y.size;omega
   have aX:H<T (J wr):=by have:=aa.size;omega
   clear aa
   cases hp0:v==0
   ·have aR:0<v:=by have h9:v≠0:=(by simpa using hp0);omega
    have aO:(0:Int)<(v:Int):=by omega
    cases hz:st.B==10
    rotate_left
    ·have W:=MS (Pc (mk,v) st hp0 hz);rw[W.o]at f d;go_wp2_with(first|(refine mD (.tmp 11) Z Z H (k*11) st Z E.o ?_));go_roundw
     case rel=>exact⟨k+1,(mk,v+1),l,by omega,by go_num,by go_num,f.symm,d,by simp;omega,t,y⟩
     case measure=>simp[intOf];omega
    cases hz1:st.B==11
    ·have W:=MS (Pe (mk,v) st hp0 hz hz1);rw[W.o]at f d;go_wp2_with(first|(refine mD (.tmp 11) Z Z H (k*11) st Z E.o ?_));go_roundw
     case rel=>exact⟨k+1,(mk,v),l,by omega,by go_num,Z,f.symm,d,by simp;omega,t,y⟩
     case measure=>simp[intOf];omega
    ·have W:=MS (Pd (mk,v) st hp0 hz hz1);rw[W.o]at f d;have an:((v-1:Nat):Int)=(v:Int)-1:=by omega
     go_wp2_with(first|(refine mD (.tmp 11) Z Z H (k*11) st Z E.o ?_));go_roundw
     case rel=>exact⟨k+1,(mk,v-1),l,by omega,by go_num,by rw[an],f.symm,d,by simp;omega,t,y⟩
     case measure=>simp[intOf];omega
   ·have ak:v=0:=by simpa using hp0
    subst ak
    cases hz:st.B==10
    ·have W:=MS (Ph mk st hz);rw[W.o]at f d;go_wp2_with(first|(refine mD (.tmp 11) Z Z H (k*11) st Z E.o ?_)|(go_at_call 159;refine(Pa B g k mk l st _ t.o HO.o al (by omega) ao).mono ?_;rintro e w3 ⟨rfl,aF,aM,aJ⟩));go_roundw
     case rel=>exact⟨k+1,(mk.bO st,0),aF,by omega,by go_num,Z,f.symm,d,by simp,aM,y.trans aJ⟩
     case measure=>simp[intOf];omega
    ·have W:=MS (Pf mk st hz);rw[W.o]at f d;have au:MT (mk.bY st={mk with A:=mk.A|||mk.Ea ⟨st.a.MW,st.a.n⟩}):=Z;have aB:MT (mk.value st.a=mk.value ⟨st.a.MW,st.a.n⟩):=Z;have aY:=bits_or_u64_nat mk.A (mk.Ea ⟨st.a.MW,st.a.n⟩) HO.A (oU HO.made _);obtain⟨s0,s1,s2,s3,s4,s5,s6,s7,s8,s9,ap,aq,ar⟩:=ab.F;obtain⟨c0,c1,c2,c3,c4,c5,c6,c7,c8,c9,aC,ac,aD,aE,cf⟩:=t.F;have Y:=t.lt;clear c0 c1 c2 c3 c4 c5 c6 c7 c8 c9 aC aD aE s3 s4 s5 ap aq ar;simp only[aV]at s0 s1 s2 s6 s7 s8 s9 ac cf Y ao;go_upto_region 11 with(first|(refine mD (.tmp 11) Z Z H (k*11) st Z E.o ?_))
     generalize aU:T (J wr)=b0 at*;have af:MT (bB (wr.alloc (G (aV st) 137)) b0 st):=ab;simp only[aV]at t y af;generalize aG:wr.alloc (G #[C O st.B,C O st.i,C O st.dest,C O st.z,N st.a.MW,C O st.a.n,N st.b.MW,C O st.b.n,C O st.q,C O st.scope,C O st.label] 137)=W1 at*;clear aG ab;generalize ai:mk.Ea ⟨st.a.MW,st.a.n⟩=mo at*;have aw:=MS ai;clear ai;go_cut[]from 43 to 53 fun wx=>∃u,MT (Eg wx B g (mk.bY st) u)/\MT (Ef w wx g ev u)/\MT (bB wx b0 st)
     case first =>
      go_region_with(go_at_call 157;refine(AC B g mk l st.a.MW st.a.n _ (t.X (by first|exact(xR _ _).drew|exact xR _ _))).mono ?_;rintro e w2 ⟨rfl,ah⟩;rw[aw.o];have B2:MT (Below (T (J W1)) W1 w2):=(by first|exact((xR (T (J W1)) W1).drew).trans (ah.mono (by simp))|exact ah);have aT:=MZ B2.o Y ac;have df:∀j,w2.frozen? ⟨g,j,I⟩=M:=fun j=>(B2.frozen (p:=⟨g,j,I⟩) Y).trans (cf j))
      all_goals
       (try go_wp2)
       go_meet
       case rel =>
        have K:=t.X B2.o;refine⟨l,?_,y.trans ((Ef.of B2.o g l).trans (Ef.set l [(11,C .u64 ((mk.A|||mo:Nat):Int))])),bB.vI K (af.X B2.o) fun k hk=>xW _ _ _ _ hk⟩;rw[au.o];refine K.set ?_ (fun k hk=>xW _ _ _ _ hk) Z K.lr K.lm;rw[bX K.box];rfl
     case rest =>
      obtain⟨u,H5,ad,az⟩:=hcut;clear s0 s1 s2 s6 s7 s8 s9 ac cf Y;obtain⟨s0,s1,s2,s3,s4,s5,s6,s7,s8,s9,ap,aq,ar⟩:=az.F;have ag:MT ((mk.bY st).value ⟨st.a.MW,st.a.n⟩=mk.value ⟨st.a.MW,st.a.n⟩):=Z;rw[aB.o]at f d;generalize aZ:mk.value ⟨st.a.MW,st.a.n⟩=vv at*
      cases hv0:vv==0
      ·rw[hv0]at f d;go_wp2_with(first|(go_at_call 158;refine(vV B g (mk.bY st) u st.a.MW st.a.n _ H5.o).mono ?_;rintro e w6 ⟨rfl,V⟩;rw[ag.o]));go_roundw
       case rel=>exact⟨k+1,(mk.bY st,0),u,by omega,by go_num,Z,f.symm,d,by simp,H5.X V,ad.trans (Ef.of V g u)⟩
       case measure=>simp[intOf];omega
      ·rw[hv0]at f d;go_wp2_with(first|(go_at_call 158;refine(vV B g (mk.bY st) u st.a.MW st.a.n _ H5.o).mono ?_;rintro e w6 ⟨rfl,V⟩;rw[ag.o]));go_roundw
       case rel=>exact⟨k+1,(mk.bY st,1),u,by omega,by go_num,Z,f.symm,d,by simp,H5.X V,ad.trans (Ef.of V g u)⟩
       case measure=>simp[intOf];omega
  ·have aL:k=S r:=by omega
   have HE:MT (mk=rV m r):=by
    have h1:=HP.o;rw[aL,List.take_length]at h1;unfold MT;rw[av.o,<- h1]
   go_wp2;go_end0;exact⟨Z,l,by rw[<- HE.o];exact HI.o,HF.o⟩
