import Derived.Test.YtonodfjdiepglaaGreatDoorL27
set_option linter.unusedVariables false
set_option linter.unusedSimpArgs false
set_option maxHeartbeats 12800000
namespace Go.Proofs.YtonodfjdiepglaaGreatDoor
open Go Go.RowKit Go.Proofs.Tryz P Q R
set_option maxRecDepth 1000000
open Nat renaming le_refl→xF,lt_of_lt_of_le→x1
open Go.RowKit.Below renaming refl→xR,heap_setCell→x2
open Go.Value renaming bool→xW
theorem zFY (B g k:Nat) (m:ED) (ev:Value) (c:Stm) (w:World) (h:Em w B g m ev) (o:m.Ok k) (ah:kCY c) (hk:k<1000) (hB:B<=w.heap.size) :
  Calls prog 139 #[.pointer (some ⟨g,0,none⟩),.agg (aQ c)] w fun x w'=>x=.returned (.tuple #[])/\jV B g w w' ev (m.step c):=by
 obtain⟨k0,ai,L⟩:=jE w (aQ c) 109;have Y:=zAa (h.below L);have af:=zAa L;have ad:Hid (bC _ _ c):=k0;have ha:=o.value (a:=⟨c.a.reg,c.a.n⟩) ah.1;have X:=lS o.made ⟨c.a.reg,c.a.n⟩;have ak:=o.len;have aj:=o.unread;obtain⟨r1,r2,r3,r4,r5,r6⟩:=o.aU c;have an:0<=(m.aU c).aV m.Ea.length/\(m.aU c).aV m.Ea.length<4:=by
  have hx:(m.aU c).Ok (k+1):=⟨r1,r2,r3,r4,by omega,by have:=o.bars;show m.bars<=k+1;omega,r6⟩;exact hx.aV _
 have N:=oK (m.Ea.length:Nat);have am:=bits_or_u64_nat (m.Ed ⟨c.a.reg,c.a.n⟩) (cY (m.Ea.length:Nat)) X N;have ag:=mM X N;have al:=L.size;have I:Hid (∀ v s,((m.aU c).bX c v s).Ea.length=m.Ea.length+2):=fun v s=>by simp[ED.bX,ED.put,ED.aU]
 clear h L k0 ai r1 r2 r4 r6;simp only[aQ] at *;go_enter func139,ntmps139;go_upto_region 1 with fail
 generalize hE:w.alloc (.cells #[.int .i64 c.kind,.int .i64 c.line,.int .i64 c.dest,.int .i64 c.var,.bool c.a.reg,.int .i64 c.a.n,.bool c.b.reg,.int .i64 c.b.n,.int .i64 c.order,.int .i64 c.scope,.int .i64 c.label] 109)=W0 at *;obtain⟨t,u,z,A,C,D,E,F,G,H,d,f,i⟩:=ad.out.facts;clear hE;go_upto_region 4 with (first
  | (go_at_call 136;refine (zFW B g m ev c _ aa.out (by omega) (by omega) aj).mono ?_;rintro e w3 ⟨rfl,U,ae,M⟩;have p:=zAa ae;have S:=zAa (M.stm aa.out ac.out);have aq:=M.size;have F3:=zAa ((El.of (aK (aK af.out (xF _) J) (xF _) K) g ev).trans M);clear ae M t u z A C D E F G H d f i;obtain⟨t,u,z,A,C,D,E,F,G,H,d,f,i⟩:=S.out.facts)
  | (go_at_call 120;refine (lZ B g m ev c.a.reg c.a.n _ Z.out).mono ?_;rintro e w2 ⟨rfl,K⟩;have aa:=zAa (Z.out.below K);have ap:=K.size;have ac:=zAa (ab.out.below K);clear t u z A C D E F G H d f i;obtain⟨t,u,z,A,C,D,E,F,G,H,d,f,i⟩:=ac.out.facts)
  | (go_at_call 121;refine (tG B g m ev c.a.reg c.a.n _ Y.out).mono ?_;rintro e w1 ⟨rfl,J⟩;have Z:=zAa (Y.out.below J);have ao:=J.size;have ab:=zAa (ad.out.below J);clear t u z A C D E F G H d f i;obtain⟨t,u,z,A,C,D,E,F,G,H,d,f,i⟩:=ab.out.facts))
 cases z2:(c.kind==2)
 ·have HE:Hid (m.step c=((m.aU c).bX c (m.value ⟨c.a.reg,c.a.n⟩) (m.Ed ⟨c.a.reg,c.a.n⟩)).aY c.dest m.Ea.length):=by unfold Hid ED.step;rw[z2];rfl
  generalize m.value ⟨c.a.reg,c.a.n⟩=x at *;generalize m.Ed ⟨c.a.reg,c.a.n⟩=y at *;go_wp2_with (first
   | (go_at_call 137;refine (CC B g _ q c.dest m.Ea.length _ O.out (by rw[I.out];omega) (by rw[I.out];omega)).mono ?_;rintro e w5 ⟨rfl,W,V⟩)
   | (go_at_call 156;refine (DV B g (m.aU c) U c x y _ p.out (by omega) (by omega) r3 X).mono ?_;rintro e w4 ⟨rfl,q,r,j⟩;have O:=zAa r;have T:=zAa (j.stm p.out S.out);have F4:=zAa (F3.out.trans j);clear r j t u z A C D E F G H d f i;obtain⟨t,u,z,A,C,D,E,F,G,H,d,f,i⟩:=T.out.facts))
  go_end0;refine⟨rfl,q,?_,F4.out.trans V⟩;rw[HE.out];exact W
 ·have HE:Hid (m.step c=((m.aU c).bX c ((m.value ⟨c.a.reg,c.a.n⟩+(m.aU c).aV m.Ea.length) % 4) (m.Ed ⟨c.a.reg,c.a.n⟩ ||| cY (m.Ea.length:Nat))).aY c.dest m.Ea.length):=by unfold Hid ED.step;rw[z2];rfl
  generalize hx:m.value ⟨c.a.reg,c.a.n⟩=x at *;generalize hy:m.Ed ⟨c.a.reg,c.a.n⟩=y at *;generalize hv:(m.aU c).aV m.Ea.length=v at *;clear hx hy;go_wp2_with (first
   | (go_at_call 137;refine (CC B g _ q c.dest m.Ea.length _ O.out (by rw[I.out];omega) (by rw[I.out];omega)).mono ?_;rintro e w5 ⟨rfl,W,V⟩)
   | (go_at_call 156;refine (DV B g (m.aU c) U c ((x+v) % 4) (y ||| cY (m.Ea.length:Nat)) _ p.out (by omega) (by omega) r3 ag).mono ?_;rintro e w4 ⟨rfl,q,r,j⟩;have O:=zAa r;have T:=zAa (j.stm p.out S.out);have F4:=zAa (F3.out.trans j);clear r j t u z A C D E F G H d f i;obtain⟨t,u,z,A,C,D,E,F,G,H,d,f,i⟩:=T.out.facts)
   | (go_at_call 155;refine (zEw B g (m.aU c) U m.Ea.length _ p.out (by omega) (by omega)).mono ?_;rintro e w' ⟨rfl,l⟩;have l:=l.symm;subst l;rw[hv])
   | (go_at_call 109;refine (xS _ _).mono ?_;rintro e w' ⟨rfl,l⟩;have l:=l.symm;subst l))
  go_end0;refine⟨rfl,q,?_,F4.out.trans V⟩;rw[HE.out];exact W
theorem zLn (B g k:Nat) (m:ED) (ev:Value) (c:Stm) (w:World) (h:Em w B g m ev) (ad:m.Ok k) (ah:kCY c) (hk:k<1000) (hB:B<=w.heap.size) :
  Calls prog 122 #[.pointer (some ⟨g,0,none⟩),.agg (aQ c)] w fun x H=>x=.returned (.tuple #[])/\jV B g w H ev (m.bG c):=by
 obtain⟨k0,ap,ac⟩:=jE w (aQ c) 109;have o:=zAa (h.below ac);have z:=zAa ac;have Z:Hid (bC _ _ c):=k0;have v:=zAa ad;have Y:=zAa ah;have ar:=ad.len;have au:=ac.size;have HD:Hid (m.bG c=if c.kind==0 then (m.aU c).aY c.dest m.Ea.length else if c.kind==1 then m.store c else if c.kind==2||c.kind==3 then m.step c else if c.kind==4 then m.put (m.event 2 c) else if c.kind==5 then m.dC c else if c.kind==6||c.kind==7||c.kind==8||c.kind==9 then m.bK c.dest (m.bF c) (m.Ed ⟨c.a.reg,c.a.n⟩ ||| m.Ed ⟨c.b.reg,c.b.n⟩) else m):=rfl;clear h ac k0 ap ad ah;simp only[aQ] at *;go_enter func122,ntmps122;go_upto_region 1 with fail
 generalize hE:w.alloc (.cells #[.int .i64 c.kind,.int .i64 c.line,.int .i64 c.dest,.int .i64 c.var,.bool c.a.reg,.int .i64 c.a.n,.bool c.b.reg,.int .i64 c.b.n,.int .i64 c.order,.int .i64 c.scope,.int .i64 c.label] 109)=W0 at *;obtain⟨i,T,U,V,W,X,C,D,E,F,s,t,u⟩:=Z.out.facts;clear hE
 cases z0:(c.kind==0)
 rotate_left
 ·have ax:(m.aU c).Ea.length=m.Ea.length+1:=(v.out.aU c).2.2.2.2.1;have G:Hid (m.bG c=(m.aU c).aY c.dest m.Ea.length):=by unfold Hid;rw[HD.out,z0];rfl
  have aq:=v.out.unread;go_wp2_with (first
   | (go_at_call 137;refine (CC B g _ ab c.dest m.Ea.length _ ai.out (by omega) (by omega)).mono ?_;rintro e w5 ⟨rfl,J,I⟩)
   | (go_at_call 136;refine (zFW B g m ev c _ o.out (by omega) (by omega) aq).mono ?_;rintro e w3 ⟨rfl,ab,y,aa⟩;have ai:=zAa y;have aj:=zAa (aa.stm o.out Z.out);have F3:=zAa ((El.of z.out g ev).trans aa);clear y aa;clear i T U V W X C D E F s t u;obtain⟨i,T,U,V,W,X,C,D,E,F,s,t,u⟩:=aj.out.facts))
  go_end0;refine⟨rfl,ab,?_,F3.out.trans I⟩;rw[G.out];exact J
 cases z1:(c.kind==1)
 rotate_left
 ·skip
  have G:Hid (m.bG c=m.store c):=by unfold Hid;rw[HD.out,z0,z1];rfl
  go_wp2_with (first | (go_at_call 138;refine (zIn B g m ev c _ o.out (by omega) (by omega) v.out.Ee v.out.made).mono ?_;rintro e w3 ⟨rfl,y⟩));go_end0;refine⟨rfl,jV.next (El.of z.out g ev) ?_⟩;rw[G.out];exact y
 cases z2:(c.kind==2)
 rotate_left
 ·skip
  have G:Hid (m.bG c=m.step c):=by unfold Hid;rw[HD.out,z0,z1,z2];rfl
  go_wp2_with (first | (go_at_call 139;refine (zFY B g k m ev c _ o.out v.out Y.out hk (by omega)).mono ?_;rintro e w3 ⟨rfl,y⟩));go_end0;refine⟨rfl,jV.next (El.of z.out g ev) ?_⟩;rw[G.out];exact y
 cases z3:(c.kind==3)
 rotate_left
 ·skip
  have G:Hid (m.bG c=m.step c):=by unfold Hid;rw[HD.out,z0,z1,z2,z3];rfl
  go_wp2_with (first | (go_at_call 139;refine (zFY B g k m ev c _ o.out v.out Y.out hk (by omega)).mono ?_;rintro e w3 ⟨rfl,y⟩));go_end0;refine⟨rfl,jV.next (El.of z.out g ev) ?_⟩;rw[G.out];exact y
 cases z4:(c.kind==4)
 rotate_left
 ·skip
  have G:Hid (m.bG c=m.put (m.event 2 c)):=by unfold Hid;rw[HD.out,z0,z1,z2,z3,z4];rfl
  go_upto_region 12 with (first | (go_at_call 140;refine (tZ B g m ev 2 c _ o.out (by omega)).mono ?_;rintro e r ⟨rfl,j⟩;generalize al:m.event 2 c=e0 at *;simp only[aI]))
  have E1:Hid (zAP (r.alloc (.cells (aI e0) 146)) r.heap.size e0):=zAP.bT r e0;have BX:Below W0.heap.size W0 (r.alloc (.cells (aI e0) 146)):=j.alloc j.size _;have l:=zAa (o.out.below BX);have B1:=zAa (aK z.out (xF _) BX);have ao:=BX.size;clear BX j al;simp only[aI] at E1 l B1 ao;generalize hb:r.heap.size=b at *;generalize ak:r.alloc _=W1 at *;clear ak;go_wp2_with (first | (refine cQ (.tmp 5) rfl rfl b 0 e0 rfl E1.out.range ?_) | (go_at_call 141;refine (wE B g m ev e0 _ l.out (by omega) (by omega)).mono ?_;rintro e w3 ⟨rfl,ab,y,aa⟩));go_end0;refine⟨rfl,ab,?_,(El.of B1.out g ev).trans aa⟩;rw[G.out];exact y
 cases z5:(c.kind==5)
 rotate_left
 ·skip
  have G:Hid (m.bG c=m.dC c):=by unfold Hid;rw[HD.out,z0,z1,z2,z3,z4,z5];rfl
  have av:=v.out.bars;go_wp2_with (first | (go_at_call 142;refine (zFX B g m ev c _ o.out (by omega) (by omega) (by omega)).mono ?_;rintro e w3 ⟨rfl,y⟩));go_end0;refine⟨rfl,jV.next (El.of z.out g ev) ?_⟩;rw[G.out];exact y
 have am:=lS v.out.made ⟨c.a.reg,c.a.n⟩;have an:=lS v.out.made ⟨c.b.reg,c.b.n⟩;have aw:=bits_or_u64_nat (m.Ed ⟨c.a.reg,c.a.n⟩) (m.Ed ⟨c.b.reg,c.b.n⟩) am an
 cases z6:(c.kind==6)
 rotate_left
 ·skip
  have G:Hid (m.bG c=m.bK c.dest (m.bF c) (m.Ed ⟨c.a.reg,c.a.n⟩ ||| m.Ed ⟨c.b.reg,c.b.n⟩)):=by unfold Hid;rw[HD.out,z0,z1,z2,z3,z4,z5,z6];rfl
  go_upto_region 20 with (first | (go_at_call 143;refine (yR B g k m ev c _ o.out v.out Y.out).mono ?_;rintro e r ⟨rfl,j⟩;have l:=zAa (o.out.below j);have A:=zAa (Z.out.below j);have B1:=zAa (aK z.out (xF _) j);clear i T U V W X C D E F s t u;obtain⟨i,T,U,V,W,X,C,D,E,F,s,t,u⟩:=A.out.facts))
  generalize m.bF c=rv at *;generalize p:m.Ed ⟨c.a.reg,c.a.n⟩=ma at *;generalize q:m.Ed ⟨c.b.reg,c.b.n⟩=mb at *;have L:=zAa p;have M:=zAa q;clear p q;clear T U V W X s t u;go_region_held3 (fun H=>H.cell? ⟨w.heap.size,4,none⟩=some (.bool c.a.reg)/\H.cell? ⟨w.heap.size,5,none⟩=some (.int .i64 c.a.n)/\H.cell? ⟨w.heap.size,6,none⟩=some (.bool c.b.reg)/\H.cell? ⟨w.heap.size,7,none⟩=some (.int .i64 c.b.n)) (first | exact⟨C,D,E,F⟩ | exact⟨p6,p7,p8,p9⟩ | exact⟨q6,q7,q8,q9⟩) (first
   | (go_at_call_of 120 (xW c.b.reg);refine (lZ B g m ev c.b.reg c.b.n _ (l.out.below f.out)).mono ?_;rintro e v2 ⟨rfl,S⟩;have d:Hid (Below r.heap.size r v2):=aK f.out (xF _) S;rw[M.out];have q6:=aC d.out i C;have q7:=aC d.out i D;have q8:=aC d.out i E;have q9:=aC d.out i F)
   | (go_at_call 120;refine (lZ B g m ev c.a.reg c.a.n _ (l.out.below (xR _ _).drew)).mono ?_;rintro e v1 ⟨rfl,O⟩;have f:Hid (Below r.heap.size r v1):=((xR r.heap.size r).drew).trans (O.mono (by simp));rw[L.out];have p6:=aC f.out i C;have p7:=aC f.out i D;have p8:=aC f.out i E;have p9:=aC f.out i F))
  have N:=zAa (A.out.below d.out);have K:=zAa (l.out.below d.out);have F2:=zAa (El.of (aK B1.out (xF _) d.out) g ev);obtain⟨t0,t1,t2,t3,t4,t5,t6,t7,t8,t9,ae,af,ag⟩:=N.out.facts;go_wp2_with (first | (go_at_call 144;refine (uJ B g m ev c.dest rv (ma ||| mb) _ K.out).mono ?_;rintro e w5 ⟨rfl,J,I⟩));go_end0;refine⟨rfl,ev,?_,F2.out.trans I⟩;rw[G.out];exact J
 cases z7:(c.kind==7)
 rotate_left
 ·skip
  have G:Hid (m.bG c=m.bK c.dest (m.bF c) (m.Ed ⟨c.a.reg,c.a.n⟩ ||| m.Ed ⟨c.b.reg,c.b.n⟩)):=by unfold Hid;rw[HD.out,z0,z1,z2,z3,z4,z5,z6,z7];rfl
  go_upto_region 20 with (first | (go_at_call 143;refine (yR B g k m ev c _ o.out v.out Y.out).mono ?_;rintro e r ⟨rfl,j⟩;have l:=zAa (o.out.below j);have A:=zAa (Z.out.below j);have B1:=zAa (aK z.out (xF _) j);clear i T U V W X C D E F s t u;obtain⟨i,T,U,V,W,X,C,D,E,F,s,t,u⟩:=A.out.facts))
  generalize m.bF c=rv at *;generalize p:m.Ed ⟨c.a.reg,c.a.n⟩=ma at *;generalize q:m.Ed ⟨c.b.reg,c.b.n⟩=mb at *;have L:=zAa p;have M:=zAa q;clear p q;clear T U V W X s t u;go_region_held3 (fun H=>H.cell? ⟨w.heap.size,4,none⟩=some (.bool c.a.reg)/\H.cell? ⟨w.heap.size,5,none⟩=some (.int .i64 c.a.n)/\H.cell? ⟨w.heap.size,6,none⟩=some (.bool c.b.reg)/\H.cell? ⟨w.heap.size,7,none⟩=some (.int .i64 c.b.n)) (first | exact⟨C,D,E,F⟩ | exact⟨p6,p7,p8,p9⟩ | exact⟨q6,q7,q8,q9⟩) (first
   | (go_at_call_of 120 (xW c.b.reg);refine (lZ B g m ev c.b.reg c.b.n _ (l.out.below f.out)).mono ?_;rintro e v2 ⟨rfl,S⟩;have d:Hid (Below r.heap.size r v2):=aK f.out (xF _) S;rw[M.out];have q6:=aC d.out i C;have q7:=aC d.out i D;have q8:=aC d.out i E;have q9:=aC d.out i F)
   | (go_at_call 120;refine (lZ B g m ev c.a.reg c.a.n _ (l.out.below (xR _ _).drew)).mono ?_;rintro e v1 ⟨rfl,O⟩;have f:Hid (Below r.heap.size r v1):=((xR r.heap.size r).drew).trans (O.mono (by simp));rw[L.out];have p6:=aC f.out i C;have p7:=aC f.out i D;have p8:=aC f.out i E;have p9:=aC f.out i F))
  have N:=zAa (A.out.below d.out);have K:=zAa (l.out.below d.out);have F2:=zAa (El.of (aK B1.out (xF _) d.out) g ev);obtain⟨t0,t1,t2,t3,t4,t5,t6,t7,t8,t9,ae,af,ag⟩:=N.out.facts;go_wp2_with (first | (go_at_call 144;refine (uJ B g m ev c.dest rv (ma ||| mb) _ K.out).mono ?_;rintro e w5 ⟨rfl,J,I⟩));go_end0;refine⟨rfl,ev,?_,F2.out.trans I⟩;rw[G.out];exact J
 cases z8:(c.kind==8)
 rotate_left
 ·skip
  have G:Hid (m.bG c=m.bK c.dest (m.bF c) (m.Ed ⟨c.a.reg,c.a.n⟩ ||| m.Ed ⟨c.b.reg,c.b.n⟩)):=by unfold Hid;rw[HD.out,z0,z1,z2,z3,z4,z5,z6,z7,z8];rfl
  go_upto_region 20 with (first | (go_at_call 143;refine (yR B g k m ev c _ o.out v.out Y.out).mono ?_;rintro e r ⟨rfl,j⟩;have l:=zAa (o.out.below j);have A:=zAa (Z.out.below j);have B1:=zAa (aK z.out (xF _) j);clear i T U V W X C D E F s t u;obtain⟨i,T,U,V,W,X,C,D,E,F,s,t,u⟩:=A.out.facts))
  generalize m.bF c=rv at *;generalize p:m.Ed ⟨c.a.reg,c.a.n⟩=ma at *;generalize q:m.Ed ⟨c.b.reg,c.b.n⟩=mb at *;have L:=zAa p;have M:=zAa q;clear p q;clear T U V W X s t u;go_region_held3 (fun H=>H.cell? ⟨w.heap.size,4,none⟩=some (.bool c.a.reg)/\H.cell? ⟨w.heap.size,5,none⟩=some (.int .i64 c.a.n)/\H.cell? ⟨w.heap.size,6,none⟩=some (.bool c.b.reg)/\H.cell? ⟨w.heap.size,7,none⟩=some (.int .i64 c.b.n)) (first | exact⟨C,D,E,F⟩ | exact⟨p6,p7,p8,p9⟩ | exact⟨q6,q7,q8,q9⟩) (first
   | (go_at_call_of 120 (xW c.b.reg);refine (lZ B g m ev c.b.reg c.b.n _ (l.out.below f.out)).mono ?_;rintro e v2 ⟨rfl,S⟩;have d:Hid (Below r.heap.size r v2):=aK f.out (xF _) S;rw[M.out];have q6:=aC d.out i C;have q7:=aC d.out i D;have q8:=aC d.out i E;have q9:=aC d.out i F)
   | (go_at_call 120;refine (lZ B g m ev c.a.reg c.a.n _ (l.out.below (xR _ _).drew)).mono ?_;rintro e v1 ⟨rfl,O⟩;have f:Hid (Below r.heap.size r v1):=((xR r.heap.size r).drew).trans (O.mono (by simp));rw[L.out];have p6:=aC f.out i C;have p7:=aC f.out i D;have p8:=aC f.out i E;have p9:=aC f.out i F))
  have N:=zAa (A.out.below d.out);have K:=zAa (l.out.below d.out);have F2:=zAa (El.of (aK B1.out (xF _) d.out) g ev);obtain⟨t0,t1,t2,t3,t4,t5,t6,t7,t8,t9,ae,af,ag⟩:=N.out.facts;go_wp2_with (first | (go_at_call 144;refine (uJ B g m ev c.dest rv (ma ||| mb) _ K.out).mono ?_;rintro e w5 ⟨rfl,J,I⟩));go_end0;refine⟨rfl,ev,?_,F2.out.trans I⟩;rw[G.out];exact J
 cases z9:(c.kind==9)
 rotate_left
 ·skip
  have G:Hid (m.bG c=m.bK c.dest (m.bF c) (m.Ed ⟨c.a.reg,c.a.n⟩ ||| m.Ed ⟨c.b.reg,c.b.n⟩)):=by unfold Hid;rw[HD.out,z0,z1,z2,z3,z4,z5,z6,z7,z8,z9];rfl
  go_upto_region 20 with (first | (go_at_call 143;refine (yR B g k m ev c _ o.out v.out Y.out).mono ?_;rintro e r ⟨rfl,j⟩;have l:=zAa (o.out.below j);have A:=zAa (Z.out.below j);have B1:=zAa (aK z.out (xF _) j);clear i T U V W X C D E F s t u;obtain⟨i,T,U,V,W,X,C,D,E,F,s,t,u⟩:=A.out.facts))
  generalize m.bF c=rv at *;generalize p:m.Ed ⟨c.a.reg,c.a.n⟩=ma at *;generalize q:m.Ed ⟨c.b.reg,c.b.n⟩=mb at *;have L:=zAa p;have M:=zAa q;clear p q;clear T U V W X s t u;go_region_held3 (fun H=>H.cell? ⟨w.heap.size,4,none⟩=some (.bool c.a.reg)/\H.cell? ⟨w.heap.size,5,none⟩=some (.int .i64 c.a.n)/\H.cell? ⟨w.heap.size,6,none⟩=some (.bool c.b.reg)/\H.cell? ⟨w.heap.size,7,none⟩=some (.int .i64 c.b.n)) (first | exact⟨C,D,E,F⟩ | exact⟨p6,p7,p8,p9⟩ | exact⟨q6,q7,q8,q9⟩) (first
   | (go_at_call_of 120 (xW c.b.reg);refine (lZ B g m ev c.b.reg c.b.n _ (l.out.below f.out)).mono ?_;rintro e v2 ⟨rfl,S⟩;have d:Hid (Below r.heap.size r v2):=aK f.out (xF _) S;rw[M.out];have q6:=aC d.out i C;have q7:=aC d.out i D;have q8:=aC d.out i E;have q9:=aC d.out i F)
   | (go_at_call 120;refine (lZ B g m ev c.a.reg c.a.n _ (l.out.below (xR _ _).drew)).mono ?_;rintro e v1 ⟨rfl,O⟩;have f:Hid (Below r.heap.size r v1):=((xR r.heap.size r).drew).trans (O.mono (by simp));rw[L.out];have p6:=aC f.out i C;have p7:=aC f.out i D;have p8:=aC f.out i E;have p9:=aC f.out i F))
  have N:=zAa (A.out.below d.out);have K:=zAa (l.out.below d.out);have F2:=zAa (El.of (aK B1.out (xF _) d.out) g ev);obtain⟨t0,t1,t2,t3,t4,t5,t6,t7,t8,t9,ae,af,ag⟩:=N.out.facts;go_wp2_with (first | (go_at_call 144;refine (uJ B g m ev c.dest rv (ma ||| mb) _ K.out).mono ?_;rintro e w5 ⟨rfl,J,I⟩));go_end0;refine⟨rfl,ev,?_,F2.out.trans I⟩;rw[G.out];exact J
 have G:Hid (m.bG c=m):=by unfold Hid;rw[HD.out,z0,z1,z2,z3,z4,z5,z6,z7,z8,z9];rfl
 go_wp2;go_end0;refine⟨rfl,ev,?_,El.of z.out g ev⟩;rw[G.out];exact o.out
theorem zFu (p:ED × Nat) (a:Stm) (b:(p.2==0)=false) (h:(a.kind==10)=true):carry p a=(p.1,p.2+1):=by unfold carry;rw[b,h];rfl
theorem zEJ (p:ED × Nat) (a:Stm) (b:(p.2==0)=false) (h:(a.kind==10)=false) (c:(a.kind==11)=true):carry p a=(p.1,p.2-1):=by unfold carry;rw[b,h,c];rfl
theorem zFv (p:ED × Nat) (a:Stm) (b:(p.2==0)=false) (h:(a.kind==10)=false) (c:(a.kind==11)=false):carry p a=p:=by unfold carry;rw[b,h,c];rfl
theorem zKt (m:ED) (b:Stm) (h:(b.kind==10)=true):carry (m,0) b=(m.kV b,if m.value b.a==0 then 1 else 0):=by unfold carry;rw[h];rfl
theorem zKu (m:ED) (a:Stm) (h:(a.kind==10)=false):carry (m,0) a=(m.bG a,0):=by unfold carry;rw[h];rfl
theorem bC.qE {w f:World} {B g:Nat} {m:ED} {ev:Value} {b:Nat} {d:Stm} (j:Em w B g m ev) (a:bC w b d) (i:∀ k,k≠g->f.heap[k]?=w.heap[k]?):bC f b d:=by
 refine a.aA (i b ?_);intro e;have c:=j.box;unfold bC at a;rw[<- e,a] at c;simp at c
theorem zFZ (B g z sc:Nat) (m:ED) (ev:Value) (o:List Stm) (sa:Option Addr) (w:World) (h:Em w B g m ev) (U:m.Ok 0) (Y:∀ s∈o,kCY s) (hn:o.length<900) (hB:B<=w.heap.size)
  (aB:0<o.length->sa=some ⟨z,0,none⟩) (au:0<o.length->z<B) (hr:∀ q (hq:q<o.length),w.rangeAt z (q*11) (aQ o[q]).toList) :
  Calls prog 104 #[.pointer (some ⟨g,0,none⟩),.slice sa o.length sc] w fun x w'=>x=.returned (.tuple #[])/\jV B g w w' ev (zOl m o):=by
 have L:=zAa h;have ai:=zAa hr;have ah:=zAa U;have ak:=zAa Y;have af:Hid (zOl m o=(o.foldl carry (m,0)).1):=rfl;clear h hr U Y;go_enter func104,ntmps104;go_wp2;go_loopw [4,9] (fun c j wr=>∃ (k:Nat) (p:ED × Nat) (l:Value),k<=o.length/\j=.int .i64 k/\c=.int .i64 (p.2:Nat)/\Hid (p=(o.take k).foldl carry (m,0))/\Hid (p.1.Ok k)/\p.2<=k/\Hid (Em wr B g p.1 l)/\Hid (El w wr g ev l)) (fun _ j _=>o.length-(intOf j).toNat)
 case atStart=>exact⟨0,(m,0),ev,Nat.zero_le _,rfl,rfl,by simp[Hid],ah,xF _,L,El.of (xR _ _) g ev⟩
 case round =>
  obtain⟨k,⟨mk,u⟩,l,hk,rfl,rfl,HP,M,ay,HI,HF⟩:=hrel;simp only at M ay HI;by_cases hlt:k<o.length
  ·have aH:(k:Int)<(o.length:Int):=by omega
   have aA:=aB (by omega);subst aA;have ar:=au (by omega);have G:=HF.out.below L.out hB;have y:Hid (wr.rangeAt z (k*11) (aQ o[k]).toList):=fY (ai.out k hlt) (G.block z ar);have i:Hid ((o.take (k+1)).foldl carry (m,0)=carry (mk,u) o[k]):=by
    unfold Hid;rw[List.take_succ_eq_append_getElem hlt,List.foldl_append,<- HP.out];rfl
   have X:=ak.out o[k] (List.getElem_mem hlt);generalize o[k]=d at *;have f:=zAa (CQ (p:=(mk,u)) M.out X);have aE:=kIg (mk,u) d;have H:=zAa (bC.bT wr d);have r:=zAa (HI.out.below ((xR _ _).alloc (xF _) (.cells (aQ d) 109)));have v:=zAa (HF.out.trans (El.of ((xR wr.heap.size wr).alloc (xF _) (.cells (aQ d) 109)) g l));have aa:B<=(wr.alloc (.cells (aQ d) 109)).heap.size:=by have:=v.out.size;omega
   have aI:z<wr.heap.size:=by have:=G.size;omega
   clear G
   cases hp0:(u==0)
   ·have aD:0<u:=by have h9:u≠0:=(by simpa using hp0);omega
    have az:(0:Int)<(u:Int):=by omega
    cases hz:(d.kind==10)
    rotate_left
    ·have F:=zAa (zFu (mk,u) d hp0 hz);rw[F.out] at i f;go_wp2_with (first | (refine kW (.tmp 11) rfl rfl z (k*11) d rfl y.out ?_));go_roundw
     case rel=>exact⟨k+1,(mk,u+1),l,by omega,by go_num,by go_num,i.out.symm,f,by simp;omega,r,v⟩
     case measure=>simp[intOf];omega
    cases hz1:(d.kind==11)
    ·have F:=zAa (zFv (mk,u) d hp0 hz hz1);rw[F.out] at i f;go_wp2_with (first | (refine kW (.tmp 11) rfl rfl z (k*11) d rfl y.out ?_));go_roundw
     case rel=>exact⟨k+1,(mk,u),l,by omega,by go_num,rfl,i.out.symm,f,by simp;omega,r,v⟩
     case measure=>simp[intOf];omega
    ·have F:=zAa (zEJ (mk,u) d hp0 hz hz1);rw[F.out] at i f;have Z:((u-1:Nat):Int)=(u:Int)-1:=by omega
     go_wp2_with (first | (refine kW (.tmp 11) rfl rfl z (k*11) d rfl y.out ?_));go_roundw
     case rel=>exact⟨k+1,(mk,u-1),l,by omega,by go_num,by rw[Z],i.out.symm,f,by simp;omega,r,v⟩
     case measure=>simp[intOf];omega
   ·have W:u=0:=by simpa using hp0
    subst W
    cases hz:(d.kind==10)
    ·have F:=zAa (zKu mk d hz);rw[F.out] at i f;have V:=M.out;go_wp2_with (first | (refine kW (.tmp 11) rfl rfl z (k*11) d rfl y.out ?_) | (go_at_call 122;refine (zLn B g k mk l d _ r.out V X (by omega) aa).mono ?_;rintro e w3 ⟨rfl,ap,ax,av⟩));go_roundw
     case rel=>exact⟨k+1,(mk.bG d,0),ap,by omega,by go_num,rfl,i.out.symm,f,by simp,ax,v.out.trans av⟩
     case measure=>simp[intOf];omega
    ·have F:=zAa (zKt mk d hz);rw[F.out] at i f;have ae:Hid (mk.kV d={ mk with Ee:=mk.Ee ||| mk.Ed ⟨d.a.reg,d.a.n⟩ }):=rfl;have al:Hid (mk.value d.a=mk.value ⟨d.a.reg,d.a.n⟩):=rfl;have aJ:=bits_or_u64_nat mk.Ee (mk.Ed ⟨d.a.reg,d.a.n⟩) M.out.Ee (lS M.out.made _);obtain⟨J,s1,s2,s3,s4,s5,s6,s7,s8,s9,ab,ac,ad⟩:=H.out.facts;obtain⟨c0,c1,c2,c3,c4,c5,c6,c7,c8,c9,am,I,an,ao,cf⟩:=r.out.facts;have D:=r.out.lt;clear c0 c1 c2 c3 c4 c5 c6 c7 c8 c9 am an ao s3 s4 s5 ab ac ad;simp only[aQ] at J s1 s2 s6 s7 s8 s9 I cf D aa;go_upto_region 11 with (first | (refine kW (.tmp 11) rfl rfl z (k*11) d rfl y.out ?_))
     generalize aG:wr.heap.size=b0 at *;have N:Hid (bC (wr.alloc (.cells (aQ d) 109)) b0 d):=H;simp only[aQ] at r v N;generalize aq:wr.alloc (.cells #[.int .i64 d.kind,.int .i64 d.line,.int .i64 d.dest,.int .i64 d.var,.bool d.a.reg,.int .i64 d.a.n,.bool d.b.reg,.int .i64 d.b.n,.int .i64 d.order,.int .i64 d.scope,.int .i64 d.label] 109)=W1 at *;clear aq H;generalize T:mk.Ed ⟨d.a.reg,d.a.n⟩=mo at *;have ag:=zAa T;clear T;go_cut [] from 43 to 53 (fun wx=>∃ t,Hid (Em wx B g (mk.kV d) t)/\Hid (El w wx g ev t)/\Hid (bC wx b0 d))
     case first =>
      go_region_with (go_at_call 120;refine (lZ B g mk l d.a.reg d.a.n _ (r.out.below (by first | exact (xR _ _).drew | exact xR _ _))).mono ?_;rintro e w2 ⟨rfl,S⟩;rw[ag.out];have E:Hid (Below W1.heap.size W1 w2):=(by first | exact ((xR W1.heap.size W1).drew).trans (S.mono (by simp)) | exact S);have aF:=aC E.out D I;have df:∀ j,w2.frozen? ⟨g,j,none⟩=false:=(fun j=>(E.out.frozen (p:=⟨g,j,none⟩) D).trans (cf j));have t6:=aC E.out J s6;have t7:=aC E.out J s7;have l2:=x1 D E.out.size;have aL:=x1 J E.out.size)
      all_goals
       (try go_wp2)
       go_meet
       case rel =>
        have A:=r.out.below E.out;refine⟨l,?_,v.out.trans ((El.of E.out g l).trans (El.set l [(11,.int .u64 ((mk.Ee ||| mo:Nat):Int))])),bC.qE A (N.out.below E.out) (fun k hk=>x2 _ _ _ _ hk)⟩;rw[ae.out];refine A.set ?_ (fun k hk=>x2 _ _ _ _ hk) rfl A.lr A.lm;rw[bH A.box];rfl
     case rest =>
      obtain⟨t,H5,K,aj⟩:=hcut;clear J s1 s2 s6 s7 s8 s9 I cf D;obtain⟨J,s1,s2,s3,s4,s5,s6,s7,s8,s9,ab,ac,ad⟩:=aj.out.facts;have O:Hid ((mk.kV d).value ⟨d.a.reg,d.a.n⟩=mk.value ⟨d.a.reg,d.a.n⟩):=rfl;rw[al.out] at i f;generalize aK:mk.value ⟨d.a.reg,d.a.n⟩=vv at *
      cases hv0:(vv==0)
      ·rw[hv0] at i f;go_wp2_with (first | (go_at_call 121;refine (tG B g (mk.kV d) t d.a.reg d.a.n _ H5.out).mono ?_;rintro e w6 ⟨rfl,C⟩;rw[O.out]));go_roundw
       case rel=>exact⟨k+1,(mk.kV d,0),t,by omega,by go_num,rfl,i.out.symm,f,by simp,H5.out.below C,K.out.trans (El.of C g t)⟩
       case measure=>simp[intOf];omega
      ·rw[hv0] at i f;go_wp2_with (first | (go_at_call 121;refine (tG B g (mk.kV d) t d.a.reg d.a.n _ H5.out).mono ?_;rintro e w6 ⟨rfl,C⟩;rw[O.out]));go_roundw
       case rel=>exact⟨k+1,(mk.kV d,1),t,by omega,by go_num,rfl,i.out.symm,f,by simp,H5.out.below C,K.out.trans (El.of C g t)⟩
       case measure=>simp[intOf];omega
  ·have aw:k=o.length:=by omega
   have HE:Hid (mk=zOl m o):=by
    have h1:=HP.out;rw[aw,List.take_length] at h1;unfold Hid;rw[af.out,<- h1]
   go_wp2;go_end0;exact⟨rfl,l,by rw[<- HE.out];exact HI.out,HF.out⟩
end Go.Proofs.YtonodfjdiepglaaGreatDoor
