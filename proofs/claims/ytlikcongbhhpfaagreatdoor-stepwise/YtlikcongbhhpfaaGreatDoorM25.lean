import Derived.Test.YtlikcongbhhpfaaGreatDoorM24
set_option linter.unusedVariables false
set_option linter.unusedSimpArgs false
set_option maxHeartbeats 12800000
namespace Go.Proofs.YtlikcongbhhpfaaGreatDoor
open Go Go.RowKit Go.Proofs.Tryz P Q
set_option maxRecDepth 1000000
open List renaming length->M
open _root_.Array renaming size->H
open Go.World renaming heap->L,cell?->D
open Go.Value renaming int->C,bool->U
open Go.IntKind renaming i64->O
open Option renaming none->I,some->G
open Go.Obj renaming cells->N
open Nat renaming le_refl->xF
open Go.RowKit.Below renaming refl->xR,heap_setCell->x0
open Go.Value renaming bool->xW
theorem YF(B g k:Nat)(m:Ex)(ev:Value)(c:JR)(w:World)(h:Ei w B g m ev)(f:m.Ok k)(ar:NZ c)(hk:k<1000)(hB:B<=H (L w)):
  Calls prog 197 #[.pointer (G ⟨g,0,I⟩),.agg (aC c)] w fun x w'=>x=.returned (.tuple #[])/\kH B g w w' ev (m.step c):=by
 obtain⟨k0,ax,ac⟩:=gU w (aC c) 104;have ah:=JO (h.X ac);have ao:=JO ac;have am:JP (KH _ _ c):=k0;have ha:=f.value (a:=⟨c.a.KI,c.a.n⟩) ar.1;have ag:=mC f.made ⟨c.a.KI,c.a.n⟩;have au:=f.len;obtain⟨r1,r2,r3,r4,r5,r6⟩:=f.aN c;have ay:0<=(m.aN c).aI (M m.E)/\(m.aN c).aI (M m.E)<4:=by
  have hx:(m.aN c).Ok (k+1):=⟨r1,r2,r3,r4,by omega,by have:=f.u;show m.u<=k+1;omega,r6⟩;exact hx.aI _
 have K:=pN (M m.E:Nat);have aw:=bits_or_u64_nat (m.Ea ⟨c.a.KI,c.a.n⟩) (one (M m.E:Nat)) ag K;have aq:=nR ag K;have av:=ac.size;have J:JP (∀v s,((m.aN c).write c v s).E.length=M m.E+2):=fun v s=>by simp[Ex.write,Ex.put,Ex.aN]
 simp only[aC]at *;go_enter func197,ntmps197;go_upto_region 1 with fail
 generalize hE:w.alloc (N #[C O c.k,C O c.i,C O c.dest,C O c.z,U c.a.KI,C O c.a.n,U c.b.KI,C O c.b.n,C O c.q,C O c.scope,C O c.label] 104)=W0 at*;obtain⟨s0,s1,s2,s3,s4,s5,s6,s7,s8,s9,r,t,A⟩:=am.o.F;go_upto_region 4 with(first
  |(go_at_call 194;refine(XT B g m ev c _ aj.o (by omega) (by omega) f.Y).mono ?_;rintro e w3 ⟨rfl,W,ap,an⟩;have j:=JO ap;have T:=JO (an.stm aj.o al.o);have F3:=JO ((Eh.of (JW (JW ao.o (xF _) aa) (xF _) ab) g ev).trans an);obtain⟨s0,s1,s2,s3,s4,s5,s6,s7,s8,s9,r,t,A⟩:=T.o.F)
  |(go_at_call 175;refine(mL B g m ev c.a.KI c.a.n _ ai.o).mono ?_;rintro e w2 ⟨rfl,ab⟩;have aj:=JO (ai.o.X ab);have al:=JO (ak.o.X ab);obtain⟨s0,s1,s2,s3,s4,s5,s6,s7,s8,s9,r,t,A⟩:=al.o.F)
  |(go_at_call 176;refine(tT B g m ev c.a.KI c.a.n _ ah.o).mono ?_;rintro e w1 ⟨rfl,aa⟩;have ai:=JO (ah.o.X aa);have ak:=JO (am.o.X aa);obtain⟨s0,s1,s2,s3,s4,s5,s6,s7,s8,s9,r,t,A⟩:=ak.o.F))
 cases z2:c.k==2
 ·have HE:JP (m.step c=((m.aN c).write c (m.value ⟨c.a.KI,c.a.n⟩) (m.Ea ⟨c.a.KI,c.a.n⟩)).aM c.dest (M m.E)):=by unfold JP Ex.step;rw[z2];rfl
  generalize m.value ⟨c.a.KI,c.a.n⟩=x at*;generalize m.Ea ⟨c.a.KI,c.a.n⟩=y at*;go_wp2_with(first
   |(go_at_call 195;refine(DD B g _ l c.dest (M m.E) _ S.o (by rw[J.o];omega) (by rw[J.o];omega)).mono ?_;rintro e w5 ⟨rfl,af,ad⟩)
   |(go_at_call 213;refine(DA B g (m.aN c) W c x y _ j.o (by omega) (by omega) r3 ag).mono ?_;rintro e w4 ⟨rfl,l,ae,p⟩;have S:=JO ae;have V:=JO (p.stm j.o T.o);have F4:=JO (F3.o.trans p);obtain⟨s0,s1,s2,s3,s4,s5,s6,s7,s8,s9,r,t,A⟩:=V.o.F))
  go_end0;refine⟨Z,l,?_,F4.o.trans ad⟩;rw[HE.o];exact af
 ·have HE:JP (m.step c=((m.aN c).write c ((m.value ⟨c.a.KI,c.a.n⟩+(m.aN c).aI (M m.E))%4) (m.Ea ⟨c.a.KI,c.a.n⟩|||one (M m.E:Nat))).aM c.dest (M m.E)):=by unfold JP Ex.step;rw[z2];rfl
  generalize hx:m.value ⟨c.a.KI,c.a.n⟩=x at*;generalize hy:m.Ea ⟨c.a.KI,c.a.n⟩=y at*;generalize hv:(m.aN c).aI (M m.E)=v at*;go_wp2_with(first
   |(go_at_call 195;refine(DD B g _ l c.dest (M m.E) _ S.o (by rw[J.o];omega) (by rw[J.o];omega)).mono ?_;rintro e w5 ⟨rfl,af,ad⟩)
   |(go_at_call 213;refine(DA B g (m.aN c) W c ((x+v)%4) (y|||one (M m.E:Nat)) _ j.o (by omega) (by omega) r3 aq).mono ?_;rintro e w4 ⟨rfl,l,ae,p⟩;have S:=JO ae;have V:=JO (p.stm j.o T.o);have F4:=JO (F3.o.trans p);obtain⟨s0,s1,s2,s3,s4,s5,s6,s7,s8,s9,r,t,A⟩:=V.o.F)
   |(go_at_call 212;refine(XR B g (m.aN c) W (M m.E) _ j.o (by omega) (by omega)).mono ?_;rintro e w' ⟨rfl,d⟩;have d:=d.symm;subst d;rw[hv])
   |(go_at_call 159;refine(AG _ _).mono ?_;rintro e w' ⟨rfl,d⟩;have d:=d.symm;subst d))
  go_end0;refine⟨Z,l,?_,F4.o.trans ad⟩;rw[HE.o];exact af
theorem Nh(B g k:Nat)(m:Ex)(ev:Value)(c:JR)(w:World)(h:Ei w B g m ev)(au:m.Ok k)(aA:NZ c)(hk:k<1000)(hB:B<=H (L w)):
  Calls prog 177 #[.pointer (G ⟨g,0,I⟩),.agg (aC c)] w fun x T=>x=.returned (.tuple #[])/\kH B g w T ev (m.aW c):=by
 obtain⟨k0,aK,ao⟩:=gU w (aC c) 104;have p:=JO (h.X ao);have t:=JO ao;have ai:JP (KH _ _ c):=k0;have s:=JO au;have ah:=JO aA;have aB:=au.len;have aE:=ao.size;have HD:JP (m.aW c=if c.k==0 then(m.aN c).aM c.dest (M m.E)else if c.k==1 then m.store c else if c.k==2||c.k==3 then m.step c else if c.k==4 then m.put (m.V 2 c)else if c.k==5 then m.cP c else if c.k==6||c.k==7||c.k==8||c.k==9 then m.aZ c.dest (m.aY c) (m.Ea ⟨c.a.KI,c.a.n⟩|||m.Ea ⟨c.b.KI,c.b.n⟩)else m):=Z;simp only[aC]at *;go_enter func177,ntmps177;go_upto_region 1 with fail
 generalize hE:w.alloc (N #[C O c.k,C O c.i,C O c.dest,C O c.z,U c.a.KI,C O c.a.n,U c.b.KI,C O c.b.n,C O c.q,C O c.scope,C O c.label] 104)=W0 at*;obtain⟨s0,s1,s2,s3,s4,s5,s6,s7,s8,s9,aj,ak,al⟩:=ai.o.F
 cases z0:c.k==0
 rotate_left
 ·have aJ:(m.aN c).E.length=M m.E+1:=(s.o.aN c).2.2.2.2.1;have S:JP (m.aW c=(m.aN c).aM c.dest (M m.E)):=by unfold JP;rw[HD.o,z0];rfl
  go_wp2_with(first
   |(go_at_call 195;refine(DD B g _ am c.dest (M m.E) _ av.o (by omega) (by omega)).mono ?_;rintro e w5 ⟨rfl,aa,W⟩)
   |(go_at_call 194;refine(XT B g m ev c _ p.o (by omega) (by omega) s.o.Y).mono ?_;rintro e w3 ⟨rfl,am,y,an⟩;have av:=JO y;have aw:=JO (an.stm p.o ai.o);have F3:=JO ((Eh.of t.o g ev).trans an);obtain⟨s0,s1,s2,s3,s4,s5,s6,s7,s8,s9,aj,ak,al⟩:=aw.o.F))
  go_end0;refine⟨Z,am,?_,F3.o.trans W⟩;rw[S.o];exact aa
 cases z1:c.k==1
 rotate_left
 ·skip
  have S:JP (m.aW c=m.store c):=by unfold JP;rw[HD.o,z0,z1];rfl
  go_wp2_with(first|(go_at_call 196;refine(M2 B g m ev c _ p.o (by omega) (by omega) s.o.A s.o.made).mono ?_;rintro e w3 ⟨rfl,y⟩));go_end0;refine⟨Z,kH.next (Eh.of t.o g ev) ?_⟩;rw[S.o];exact y
 cases z2:c.k==2
 rotate_left
 ·skip
  have S:JP (m.aW c=m.step c):=by unfold JP;rw[HD.o,z0,z1,z2];rfl
  go_wp2_with(first|(go_at_call 197;refine(YF B g k m ev c _ p.o s.o ah.o hk (by omega)).mono ?_;rintro e w3 ⟨rfl,y⟩));go_end0;refine⟨Z,kH.next (Eh.of t.o g ev) ?_⟩;rw[S.o];exact y
 cases z3:c.k==3
 rotate_left
 ·skip
  have S:JP (m.aW c=m.step c):=by unfold JP;rw[HD.o,z0,z1,z2,z3];rfl
  go_wp2_with(first|(go_at_call 197;refine(YF B g k m ev c _ p.o s.o ah.o hk (by omega)).mono ?_;rintro e w3 ⟨rfl,y⟩));go_end0;refine⟨Z,kH.next (Eh.of t.o g ev) ?_⟩;rw[S.o];exact y
 cases z4:c.k==4
 rotate_left
 ·skip
  have S:JP (m.aW c=m.put (m.V 2 c)):=by unfold JP;rw[HD.o,z0,z1,z2,z3,z4];rfl
  go_upto_region 12 with(first|(go_at_call 198;refine(uS B g m ev 2 c _ p.o (by omega)).mono ?_;rintro e r ⟨rfl,l⟩;generalize aH:m.V 2 c=e0 at*;simp only[aD]))
  have E1:JP (KO (r.alloc (N (aD e0) 166)) (H (L r)) e0):=KO.bA r e0;have BX:Below (H (L W0)) W0 (r.alloc (N (aD e0) 166)):=l.alloc l.size _;have j:=JO (p.o.X BX);have B1:=JO (JW t.o (xF _) BX);have az:=BX.size;simp only[aD]at E1 j B1 az;generalize hb:H (L r)=b at*;generalize aF:r.alloc _=W1 at*;go_wp2_with(first|(refine cA (.tmp 5) Z Z b 0 e0 Z E1.o.range ?_)|(go_at_call 199;refine(uW B g m ev e0 _ j.o (by omega) (by omega)).mono ?_;rintro e w3 ⟨rfl,am,y,an⟩));go_end0;refine⟨Z,am,?_,(Eh.of B1.o g ev).trans an⟩;rw[S.o];exact y
 cases z5:c.k==5
 rotate_left
 ·skip
  have S:JP (m.aW c=m.cP c):=by unfold JP;rw[HD.o,z0,z1,z2,z3,z4,z5];rfl
  have aG:=s.o.u;go_wp2_with(first|(go_at_call 200;refine(M3 B g m ev c _ p.o (by omega) (by omega) (by omega)).mono ?_;rintro e w3 ⟨rfl,y⟩));go_end0;refine⟨Z,kH.next (Eh.of t.o g ev) ?_⟩;rw[S.o];exact y
 have ax:=mC s.o.made ⟨c.a.KI,c.a.n⟩;have ay:=mC s.o.made ⟨c.b.KI,c.b.n⟩;have aI:=bits_or_u64_nat (m.Ea ⟨c.a.KI,c.a.n⟩) (m.Ea ⟨c.b.KI,c.b.n⟩) ax ay
 cases z6:c.k==6
 rotate_left
 ·skip
  have S:JP (m.aW c=m.aZ c.dest (m.aY c) (m.Ea ⟨c.a.KI,c.a.n⟩|||m.Ea ⟨c.b.KI,c.b.n⟩)):=by unfold JP;rw[HD.o,z0,z1,z2,z3,z4,z5,z6];rfl
  go_upto_region 20 with(first|(go_at_call 201;refine(zR B g k m ev c _ p.o s.o ah.o).mono ?_;rintro e r ⟨rfl,l⟩;have j:=JO (p.o.X l);have v:=JO (ai.o.X l);have B1:=JO (JW t.o (xF _) l);obtain⟨s0,s1,s2,s3,s4,s5,s6,s7,s8,s9,aj,ak,al⟩:=v.o.F))
  generalize m.aY c=rv at*;generalize J:m.Ea ⟨c.a.KI,c.a.n⟩=ma at*;generalize K:m.Ea ⟨c.b.KI,c.b.n⟩=mb at*;have ac:=JO J;have ad:=JO K;go_region_held3 (fun T=>D T ⟨H (L w),4,I⟩=G (U c.a.KI)/\D T ⟨H (L w),5,I⟩=G (C O c.a.n)/\D T ⟨H (L w),6,I⟩=G (U c.b.KI)/\D T ⟨H (L w),7,I⟩=G (C O c.b.n)) (first|exact⟨s6,s7,s8,s9⟩|exact⟨p6,p7,p8,p9⟩|exact⟨q6,q7,q8,q9⟩) (first
   |(go_at_call_of 175 (xW c.b.KI);refine(mL B g m ev c.b.KI c.b.n _ (j.o.X f.o)).mono ?_;rintro e v2 ⟨rfl,ag⟩;have d:JP (Below (H (L r)) r v2):=JW f.o (xF _) ag;rw[ad.o];have q6:=JS d.o s0 s6;have q7:=JS d.o s0 s7;have q8:=JS d.o s0 s8;have q9:=JS d.o s0 s9)
   |(go_at_call 175;refine(mL B g m ev c.a.KI c.a.n _ (j.o.X (xR _ _).drew)).mono ?_;rintro e v1 ⟨rfl,af⟩;have f:JP (Below (H (L r)) r v1):=((xR (H (L r)) r).drew).trans (af.mono (by simp));rw[ac.o];have p6:=JS f.o s0 s6;have p7:=JS f.o s0 s7;have p8:=JS f.o s0 s8;have p9:=JS f.o s0 s9))
  have ae:=JO (v.o.X d.o);have ab:=JO (j.o.X d.o);have F2:=JO (Eh.of (JW B1.o (xF _) d.o) g ev);obtain⟨t0,t1,t2,t3,t4,t5,t6,t7,t8,t9,ap,aq,ar⟩:=ae.o.F;go_wp2_with(first|(go_at_call 202;refine(uK B g m ev c.dest rv (ma|||mb) _ ab.o).mono ?_;rintro e w5 ⟨rfl,aa,W⟩));go_end0;refine⟨Z,ev,?_,F2.o.trans W⟩;rw[S.o];exact aa
 cases z7:c.k==7
 rotate_left
 ·skip
  have S:JP (m.aW c=m.aZ c.dest (m.aY c) (m.Ea ⟨c.a.KI,c.a.n⟩|||m.Ea ⟨c.b.KI,c.b.n⟩)):=by unfold JP;rw[HD.o,z0,z1,z2,z3,z4,z5,z6,z7];rfl
  go_upto_region 20 with(first|(go_at_call 201;refine(zR B g k m ev c _ p.o s.o ah.o).mono ?_;rintro e r ⟨rfl,l⟩;have j:=JO (p.o.X l);have v:=JO (ai.o.X l);have B1:=JO (JW t.o (xF _) l);obtain⟨s0,s1,s2,s3,s4,s5,s6,s7,s8,s9,aj,ak,al⟩:=v.o.F))
  generalize m.aY c=rv at*;generalize J:m.Ea ⟨c.a.KI,c.a.n⟩=ma at*;generalize K:m.Ea ⟨c.b.KI,c.b.n⟩=mb at*;have ac:=JO J;have ad:=JO K;go_region_held3 (fun T=>D T ⟨H (L w),4,I⟩=G (U c.a.KI)/\D T ⟨H (L w),5,I⟩=G (C O c.a.n)/\D T ⟨H (L w),6,I⟩=G (U c.b.KI)/\D T ⟨H (L w),7,I⟩=G (C O c.b.n)) (first|exact⟨s6,s7,s8,s9⟩|exact⟨p6,p7,p8,p9⟩|exact⟨q6,q7,q8,q9⟩) (first
   |(go_at_call_of 175 (xW c.b.KI);refine(mL B g m ev c.b.KI c.b.n _ (j.o.X f.o)).mono ?_;rintro e v2 ⟨rfl,ag⟩;have d:JP (Below (H (L r)) r v2):=JW f.o (xF _) ag;rw[ad.o];have q6:=JS d.o s0 s6;have q7:=JS d.o s0 s7;have q8:=JS d.o s0 s8;have q9:=JS d.o s0 s9)
   |(go_at_call 175;refine(mL B g m ev c.a.KI c.a.n _ (j.o.X (xR _ _).drew)).mono ?_;rintro e v1 ⟨rfl,af⟩;have f:JP (Below (H (L r)) r v1):=((xR (H (L r)) r).drew).trans (af.mono (by simp));rw[ac.o];have p6:=JS f.o s0 s6;have p7:=JS f.o s0 s7;have p8:=JS f.o s0 s8;have p9:=JS f.o s0 s9))
  have ae:=JO (v.o.X d.o);have ab:=JO (j.o.X d.o);have F2:=JO (Eh.of (JW B1.o (xF _) d.o) g ev);obtain⟨t0,t1,t2,t3,t4,t5,t6,t7,t8,t9,ap,aq,ar⟩:=ae.o.F;go_wp2_with(first|(go_at_call 202;refine(uK B g m ev c.dest rv (ma|||mb) _ ab.o).mono ?_;rintro e w5 ⟨rfl,aa,W⟩));go_end0;refine⟨Z,ev,?_,F2.o.trans W⟩;rw[S.o];exact aa
 cases z8:c.k==8
 rotate_left
 ·skip
  have S:JP (m.aW c=m.aZ c.dest (m.aY c) (m.Ea ⟨c.a.KI,c.a.n⟩|||m.Ea ⟨c.b.KI,c.b.n⟩)):=by unfold JP;rw[HD.o,z0,z1,z2,z3,z4,z5,z6,z7,z8];rfl
  go_upto_region 20 with(first|(go_at_call 201;refine(zR B g k m ev c _ p.o s.o ah.o).mono ?_;rintro e r ⟨rfl,l⟩;have j:=JO (p.o.X l);have v:=JO (ai.o.X l);have B1:=JO (JW t.o (xF _) l);obtain⟨s0,s1,s2,s3,s4,s5,s6,s7,s8,s9,aj,ak,al⟩:=v.o.F))
  generalize m.aY c=rv at*;generalize J:m.Ea ⟨c.a.KI,c.a.n⟩=ma at*;generalize K:m.Ea ⟨c.b.KI,c.b.n⟩=mb at*;have ac:=JO J;have ad:=JO K;go_region_held3 (fun T=>D T ⟨H (L w),4,I⟩=G (U c.a.KI)/\D T ⟨H (L w),5,I⟩=G (C O c.a.n)/\D T ⟨H (L w),6,I⟩=G (U c.b.KI)/\D T ⟨H (L w),7,I⟩=G (C O c.b.n)) (first|exact⟨s6,s7,s8,s9⟩|exact⟨p6,p7,p8,p9⟩|exact⟨q6,q7,q8,q9⟩) (first
   |(go_at_call_of 175 (xW c.b.KI);refine(mL B g m ev c.b.KI c.b.n _ (j.o.X f.o)).mono ?_;rintro e v2 ⟨rfl,ag⟩;have d:JP (Below (H (L r)) r v2):=JW f.o (xF _) ag;rw[ad.o];have q6:=JS d.o s0 s6;have q7:=JS d.o s0 s7;have q8:=JS d.o s0 s8;have q9:=JS d.o s0 s9)
   |(go_at_call 175;refine(mL B g m ev c.a.KI c.a.n _ (j.o.X (xR _ _).drew)).mono ?_;rintro e v1 ⟨rfl,af⟩;have f:JP (Below (H (L r)) r v1):=((xR (H (L r)) r).drew).trans (af.mono (by simp));rw[ac.o];have p6:=JS f.o s0 s6;have p7:=JS f.o s0 s7;have p8:=JS f.o s0 s8;have p9:=JS f.o s0 s9))
  have ae:=JO (v.o.X d.o);have ab:=JO (j.o.X d.o);have F2:=JO (Eh.of (JW B1.o (xF _) d.o) g ev);obtain⟨t0,t1,t2,t3,t4,t5,t6,t7,t8,t9,ap,aq,ar⟩:=ae.o.F;go_wp2_with(first|(go_at_call 202;refine(uK B g m ev c.dest rv (ma|||mb) _ ab.o).mono ?_;rintro e w5 ⟨rfl,aa,W⟩));go_end0;refine⟨Z,ev,?_,F2.o.trans W⟩;rw[S.o];exact aa
 cases z9:c.k==9
 rotate_left
 ·skip
  have S:JP (m.aW c=m.aZ c.dest (m.aY c) (m.Ea ⟨c.a.KI,c.a.n⟩|||m.Ea ⟨c.b.KI,c.b.n⟩)):=by unfold JP;rw[HD.o,z0,z1,z2,z3,z4,z5,z6,z7,z8,z9];rfl
  go_upto_region 20 with(first|(go_at_call 201;refine(zR B g k m ev c _ p.o s.o ah.o).mono ?_;rintro e r ⟨rfl,l⟩;have j:=JO (p.o.X l);have v:=JO (ai.o.X l);have B1:=JO (JW t.o (xF _) l);obtain⟨s0,s1,s2,s3,s4,s5,s6,s7,s8,s9,aj,ak,al⟩:=v.o.F))
  generalize m.aY c=rv at*;generalize J:m.Ea ⟨c.a.KI,c.a.n⟩=ma at*;generalize K:m.Ea ⟨c.b.KI,c.b.n⟩=mb at*;have ac:=JO J;have ad:=JO K;go_region_held3 (fun T=>D T ⟨H (L w),4,I⟩=G (U c.a.KI)/\D T ⟨H (L w),5,I⟩=G (C O c.a.n)/\D T ⟨H (L w),6,I⟩=G (U c.b.KI)/\D T ⟨H (L w),7,I⟩=G (C O c.b.n)) (first|exact⟨s6,s7,s8,s9⟩|exact⟨p6,p7,p8,p9⟩|exact⟨q6,q7,q8,q9⟩) (first
   |(go_at_call_of 175 (xW c.b.KI);refine(mL B g m ev c.b.KI c.b.n _ (j.o.X f.o)).mono ?_;rintro e v2 ⟨rfl,ag⟩;have d:JP (Below (H (L r)) r v2):=JW f.o (xF _) ag;rw[ad.o];have q6:=JS d.o s0 s6;have q7:=JS d.o s0 s7;have q8:=JS d.o s0 s8;have q9:=JS d.o s0 s9)
   |(go_at_call 175;refine(mL B g m ev c.a.KI c.a.n _ (j.o.X (xR _ _).drew)).mono ?_;rintro e v1 ⟨rfl,af⟩;have f:JP (Below (H (L r)) r v1):=((xR (H (L r)) r).drew).trans (af.mono (by simp));rw[ac.o];have p6:=JS f.o s0 s6;have p7:=JS f.o s0 s7;have p8:=JS f.o s0 s8;have p9:=JS f.o s0 s9))
  have ae:=JO (v.o.X d.o);have ab:=JO (j.o.X d.o);have F2:=JO (Eh.of (JW B1.o (xF _) d.o) g ev);obtain⟨t0,t1,t2,t3,t4,t5,t6,t7,t8,t9,ap,aq,ar⟩:=ae.o.F;go_wp2_with(first|(go_at_call 202;refine(uK B g m ev c.dest rv (ma|||mb) _ ab.o).mono ?_;rintro e w5 ⟨rfl,aa,W⟩));go_end0;refine⟨Z,ev,?_,F2.o.trans W⟩;rw[S.o];exact aa
 have S:JP (m.aW c=m):=by unfold JP;rw[HD.o,z0,z1,z2,z3,z4,z5,z6,z7,z8,z9];rfl
 go_wp2;go_end0;refine⟨Z,ev,?_,Eh.of t.o g ev⟩;rw[S.o];exact p.o
theorem Ni(p:Ex×Nat)(a:JR)(b:(p.2==0)=false)(h:(a.k==10)=true):aG p a=(p.1,p.2+1):=by unfold aG;rw[b,h];rfl
theorem Nj(p:Ex×Nat)(a:JR)(b:(p.2==0)=false)(h:(a.k==10)=false)(c:(a.k==11)=true):aG p a=(p.1,p.2-1):=by unfold aG;rw[b,h,c];rfl
theorem Nk(p:Ex×Nat)(a:JR)(b:(p.2==0)=false)(h:(a.k==10)=false)(c:(a.k==11)=false):aG p a=p:=by unfold aG;rw[b,h,c];rfl
theorem Nl(m:Ex)(b:JR)(h:(b.k==10)=true):aG (m,0) b=(m.lT b,if m.value b.a==0 then 1 else 0):=by unfold aG;rw[h];rfl
theorem Nm(m:Ex)(a:JR)(h:(a.k==10)=false):aG (m,0) a=(m.aW a,0):=by unfold aG;rw[h];rfl
theorem KH.rK{w f:World}{B g:Nat}{m:Ex}{ev:Value}{b:Nat}{d:JR}(j:Ei w B g m ev)(a:KH w b d)(i:∀k,k≠g->f.heap[k]?=w.heap[k]?):KH f b d:=by
 refine a.aA (i b ?_);intro e;have c:=j.box;unfold KH at a;rw[<- e,a]at c;simp at c
theorem Nn(B g K sc:Nat)(m:Ex)(ev:Value)(t:List JR)(sa:Option Addr)(w:World)(h:Ei w B g m ev)(ai:m.Ok 0)(al:∀s∈t,NZ s)(hn:M t<900)(hB:B<=H (L w))(aQ:0<M t->sa=G ⟨K,0,I⟩)(aJ:0<M t->K<B)(hr:∀q (hq:q<M t),w.rangeAt K (q*11) (aC t[q]).toList):
  Calls prog 154 #[.pointer (G ⟨g,0,I⟩),.slice sa (M t) sc] w fun x w'=>x=.returned (.tuple #[])/\kH B g w w' ev (nJ m t):=by
 have ad:=JO h;have ax:=JO hr;have aw:=JO ai;have az:=JO al;have au:JP (nJ m t=(t.foldl aG (m,0)).1):=Z;clear h hr ai al;go_enter func154,ntmps154;go_wp2;go_loopw[4,9] (fun c j wr=>∃(k:Nat) (p:Ex×Nat) (r:Value),k<=M t/\j=C O k/\c=C O (p.2:Nat)/\JP (p=(t.take k).foldl aG (m,0))/\JP (p.1.Ok k)/\p.2<=k/\JP (Ei wr B g p.1 r)/\JP (Eh w wr g ev r)) fun _ j _=>M t-(intOf j).toNat
 case atStart=>exact⟨0,(m,0),ev,Nat.zero_le _,Z,Z,by simp[JP],aw,xF _,ad,Eh.of (xR _ _) g ev⟩
 case round =>
  obtain⟨k,⟨mk,y⟩,r,hk,rfl,rfl,HP,HO,aN,HI,HF⟩:=hrel;simp only at HO aN HI;by_cases hlt:k<M t
  ·have aV:(k:Int)<(M t:Int):=by omega
   have aP:=aQ (by omega);subst aP;have aI:=aJ (by omega);have Y:=HF.o.X ad.o hB;have J:JP (wr.rangeAt K (k*11) (aC t[k]).toList):=eH (ax.o k hlt) (Y.block K aI);have l:JP ((t.take (k+1)).foldl aG (m,0)=aG (mk,y) t[k]):=by
    unfold JP;rw[List.take_succ_eq_append_getElem hlt,List.foldl_append,<- HP.o];rfl
   have ak:=az.o t[k] (List.getElem_mem hlt);generalize t[k]=d at*;have f:=JO (IE (p:=(mk,y)) HO.o ak);have aS:=M5 (mk,y) d;have aa:=JO (KH.bA wr d);have u:=JO (HI.o.X ((xR _ _).alloc (xF _) (N (aC d) 104)));have E:=JO (HF.o.trans (Eh.of ((xR (H (L wr)) wr).alloc (xF _) (N (aC d) 104)) g r));have an:B<=(wr.alloc (N (aC d) 104)).heap.size:=by have:=E.o.size;omega
   have aX:K<H (L wr):=by have:=Y.size;omega
   clear Y
   cases hp0:y==0
   ·have aR:0<y:=by have h9:y≠0:=(by simpa using hp0);omega
    have aO:(0:Int)<(y:Int):=by omega
    cases hz:d.k==10
    rotate_left
    ·have V:=JO (Ni (mk,y) d hp0 hz);rw[V.o]at l f;go_wp2_with(first|(refine dC (.tmp 11) Z Z K (k*11) d Z J.o ?_));go_roundw
     case rel=>exact⟨k+1,(mk,y+1),r,by omega,by go_num,by go_num,l.o.symm,f,by simp;omega,u,E⟩
     case measure=>simp[intOf];omega
    cases hz1:d.k==11
    ·have V:=JO (Nk (mk,y) d hp0 hz hz1);rw[V.o]at l f;go_wp2_with(first|(refine dC (.tmp 11) Z Z K (k*11) d Z J.o ?_));go_roundw
     case rel=>exact⟨k+1,(mk,y),r,by omega,by go_num,Z,l.o.symm,f,by simp;omega,u,E⟩
     case measure=>simp[intOf];omega
    ·have V:=JO (Nj (mk,y) d hp0 hz hz1);rw[V.o]at l f;have am:((y-1:Nat):Int)=(y:Int)-1:=by omega
     go_wp2_with(first|(refine dC (.tmp 11) Z Z K (k*11) d Z J.o ?_));go_roundw
     case rel=>exact⟨k+1,(mk,y-1),r,by omega,by go_num,by rw[am],l.o.symm,f,by simp;omega,u,E⟩
     case measure=>simp[intOf];omega
   ·have aj:y=0:=by simpa using hp0
    subst aj
    cases hz:d.k==10
    ·have V:=JO (Nm mk d hz);rw[V.o]at l f;go_wp2_with(first|(refine dC (.tmp 11) Z Z K (k*11) d Z J.o ?_)|(go_at_call 177;refine(Nh B g k mk r d _ u.o HO.o ak (by omega) an).mono ?_;rintro e w3 ⟨rfl,aF,aM,aK⟩));go_roundw
     case rel=>exact⟨k+1,(mk.aW d,0),aF,by omega,by go_num,Z,l.o.symm,f,by simp,aM,E.o.trans aK⟩
     case measure=>simp[intOf];omega
    ·have V:=JO (Nl mk d hz);rw[V.o]at l f;have ar:JP (mk.lT d={mk with A:=mk.A|||mk.Ea ⟨d.a.KI,d.a.n⟩}):=Z;have aA:JP (mk.value d.a=mk.value ⟨d.a.KI,d.a.n⟩):=Z;have aY:=bits_or_u64_nat mk.A (mk.Ea ⟨d.a.KI,d.a.n⟩) HO.o.A (mC HO.o.made _);obtain⟨s0,s1,s2,s3,s4,s5,s6,s7,s8,s9,ao,ap,aq⟩:=aa.o.F;obtain⟨c0,c1,c2,c3,c4,c5,c6,c7,c8,c9,aB,ab,aD,aE,cf⟩:=u.o.F;have W:=u.o.lt;clear c0 c1 c2 c3 c4 c5 c6 c7 c8 c9 aB aD aE s3 s4 s5 ao ap aq;simp only[aC]at s0 s1 s2 s6 s7 s8 s9 ab cf W an;go_upto_region 11 with(first|(refine dC (.tmp 11) Z Z K (k*11) d Z J.o ?_))
     generalize aU:H (L wr)=b0 at*;have ae:JP (KH (wr.alloc (N (aC d) 104)) b0 d):=aa;simp only[aC]at u E ae;generalize aH:wr.alloc (N #[C O d.k,C O d.i,C O d.dest,C O d.z,U d.a.KI,C O d.a.n,U d.b.KI,C O d.b.n,C O d.q,C O d.scope,C O d.label] 104)=W1 at*;clear aH aa;generalize ah:mk.Ea ⟨d.a.KI,d.a.n⟩=mo at*;have av:=JO ah;clear ah;go_cut[]from 43 to 53 fun wx=>∃v,JP (Ei wx B g (mk.lT d) v)/\JP (Eh w wx g ev v)/\JP (KH wx b0 d)
     case first =>
      go_region_with(go_at_call 175;refine(mL B g mk r d.a.KI d.a.n _ (u.o.X (by first|exact(xR _ _).drew|exact xR _ _))).mono ?_;rintro e w2 ⟨rfl,ag⟩;rw[av.o];have B2:JP (Below (H (L W1)) W1 w2):=(by first|exact((xR (H (L W1)) W1).drew).trans (ag.mono (by simp))|exact ag);have aT:=JS B2.o W ab;have df:∀j,w2.frozen? ⟨g,j,I⟩=false:=fun j=>(B2.o.frozen (p:=⟨g,j,I⟩) W).trans (cf j))
      all_goals
       (try go_wp2)
       go_meet
       case rel =>
        have S:=u.o.X B2.o;refine⟨r,?_,E.o.trans ((Eh.of B2.o g r).trans (Eh.set r [(11,C .u64 ((mk.A|||mo:Nat):Int))])),KH.rK S (ae.o.X B2.o) fun k hk=>x0 _ _ _ _ hk⟩;rw[ar.o];refine S.set ?_ (fun k hk=>x0 _ _ _ _ hk) Z S.lr S.lm;rw[bC S.box];rfl
     case rest =>
      obtain⟨v,H5,ac,ay⟩:=hcut;clear s0 s1 s2 s6 s7 s8 s9 ab cf W;obtain⟨s0,s1,s2,s3,s4,s5,s6,s7,s8,s9,ao,ap,aq⟩:=ay.o.F;have af:JP ((mk.lT d).value ⟨d.a.KI,d.a.n⟩=mk.value ⟨d.a.KI,d.a.n⟩):=Z;rw[aA.o]at l f;generalize aZ:mk.value ⟨d.a.KI,d.a.n⟩=vv at*
      cases hv0:vv==0
      ·rw[hv0]at l f;go_wp2_with(first|(go_at_call 176;refine(tT B g (mk.lT d) v d.a.KI d.a.n _ H5.o).mono ?_;rintro e w6 ⟨rfl,T⟩;rw[af.o]));go_roundw
       case rel=>exact⟨k+1,(mk.lT d,0),v,by omega,by go_num,Z,l.o.symm,f,by simp,H5.o.X T,ac.o.trans (Eh.of T g v)⟩
       case measure=>simp[intOf];omega
      ·rw[hv0]at l f;go_wp2_with(first|(go_at_call 176;refine(tT B g (mk.lT d) v d.a.KI d.a.n _ H5.o).mono ?_;rintro e w6 ⟨rfl,T⟩;rw[af.o]));go_roundw
       case rel=>exact⟨k+1,(mk.lT d,1),v,by omega,by go_num,Z,l.o.symm,f,by simp,H5.o.X T,ac.o.trans (Eh.of T g v)⟩
       case measure=>simp[intOf];omega
  ·have aL:k=M t:=by omega
   have HE:JP (mk=nJ m t):=by
    have h1:=HP.o;rw[aL,List.take_length]at h1;unfold JP;rw[au.o,<- h1]
   go_wp2;go_end0;exact⟨Z,r,by rw[<- HE.o];exact HI.o,HF.o⟩
end Go.Proofs.YtlikcongbhhpfaaGreatDoor
