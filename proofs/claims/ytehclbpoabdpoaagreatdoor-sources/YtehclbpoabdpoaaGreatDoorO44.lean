import Derived.Test.YtehclbpoabdpoaaGreatDoorO43
set_option linter.all false
set_option maxHeartbeats 0
namespace Go.Proofs.YtehclbpoabdpoaaGreatDoor
open Go Go.RowKit Go.Proofs.Tryz P Q R
open scoped Classical
set_option maxRecDepth 1000000
variable {w:World}{B gh gl gr i n o z:Nat}{s:J.PS}{bv dv hv lv wv:Value}{hvs ons:List Value}{D:Nat->Prop}{v xa:Int}{a:Act}{N:Act->World->Prop}{ad:Bool}
open List renaming length->U
open Bool renaming false->Y,true->E
open Go.Value renaming slice->C,int->O
open Go.IntKind renaming i64->I
open Option renaming none->G
open Or renaming inr->xF,inl->x7
open List renaming range->xR,map_cons->xW,map_nil->x5,setIfInBounds_toArray->xc,set_cons_zero->xd,set_cons_succ->xe,dropLast_cons_cons->xg,dropLast_singleton->xh,length_cons->xi,length_nil->xj
open Nat renaming reduceAdd->x6,pow_le_pow_right->xk,lt_of_lt_of_le->xl
open Go.RowKit.Below renaming refl->x8
open Go.Act renaming put->x9
def SG(z gl o gr gh:Nat)(x:Lh)(w:World):Prop:=w.cell? ⟨z,1,G⟩=some (MU gr 4 4)/\w.cell? ⟨z,2,G⟩=some (MU gh 4 4)/\w.cell? ⟨gl,o+1,G⟩=some (O I x.MW)
def SG.of{ev:Value}{x:Lh}(h:PM w B z s ev dv wv gr gh ons hvs D)(b:LnC w gl o x bv):SG z gl o gr gh x w:=⟨h.blk.cell Z,h.blk.cell Z,b.MW⟩
def U3{k:Nat}{x:Lh}{ev:Value}{Q:Exit->Act->World->Prop}(y:lG Q)(h:PM w B z s ev dv wv gr gh ons hvs D)(A:LnC w gl o x bv)(hf:DGr a z lv i gl o v k)(aa:gl<B)(r0:0<=x.MW)(r1:x.MW<4)(hh:U s.hang=4)(M:sK w B z lv i (s.aJ x.MW v [(k:Int)]) N):
  NG prog ((aR f75).drop 7) (Exit.then N Q) a w:=by
 obtain⟨⟨sz,K,s0,s1,s4⟩,s5,s8,s9⟩:=hf;have q:=MS (SG.of h A);have l:x.MW.toNat<4:=by omega
 have q1:=h.tP l;have V:=h.pA l;have fr:=h.rb.free x.MW.toNat;have L:=h.hb.free x.MW.toNat;have H:=MS h;have HK:=MS M;have HL:=MS A;have lr:=h.rb.lt;clear h M A;rw[OQ sz K];simp only[xR,List.range.loop,xW,x5,s0,s1,s4,s5,s8,s9];generalize gA a=f;clear s0 s1 s4 s5 sz K s8 s9;refine MX 7 oD Z fun J j=>?_
 conv=>arg 2;whnf
 refine Pop.aQ (S:=SG z gl o gr gh x) (by kernel_rfl) _ Z (by kernel_rfl) q.o fun b=>?_;simp only[xg,xh,xi,xj,x6,Pop.qU]
 iterate 10
  refine Pop.tk Z (by kernel_rfl) (fun _ _ _ h=>y _ _ _ _ _ h) Z fun w g=>by dsimp only[SG]at g;go_simp;with_reducible rfl b ?_;simp only[x9,xc,xd,xe,x6]
 refine Pop.fin (by kernel_rfl) Z ?_;go_simp;refine j.o _ _ ?_;have u:=MS ((H.MW x.MW.toNat v).X ((x8 _ _).drew));have F:MT (JX (fun k=>B<=k) w (w.setCell ⟨gr,x.MW.toNat,G⟩ (O I v)).drew):=(JX.set (P:=fun k=>B<=k) (JX.refl _ _) (x7 H.bg) _ _).X ((x8 _ _).drew);have p:=MS (HL.x F.o (by omega));clear j J b q fr lr q1 V L;generalize(w.setCell ⟨gr,x.MW.toNat,G⟩ (O I v)).drew=W at*;have q:=MS (SG.of u.o p.o);refine MX 8 oD Z fun J j=>?_
 conv=>arg 2;whnf
 refine Pop.aQ (S:=SG z gl o gr gh x) (by kernel_rfl) _ Z (by kernel_rfl) q.o fun b=>?_;simp only[xg,xh,xi,xj,x6,Pop.qU]
 iterate 9
  refine Pop.tk Z (by kernel_rfl) (fun _ _ _ h=>y _ _ _ _ _ h) Z fun w g=>by dsimp only[SG]at g;go_simp;with_reducible rfl b ?_;simp only[x9,xc,xd,xe,x6]
 refine Pop.bW Z (by kernel_rfl) Z ?_;go_simp;have m:MT (Below W.heap.size W (W.alloc (.cells #[O I (k:Int)] 3)).drew):=((x8 W.heap.size W).alloc (Nat.le_refl _) _).drew;have d:=MS (u.X m.o);have r:=MS (p.x (JX.of (P:=fun _=>False) m.o) fun e=>e);have t:MT (OP (W.alloc (.cells #[O I (k:Int)] 3)).drew D (MU W.heap.size 1 1) [(k:Int)]):=xF ⟨by simp,W.heap.size,1,Z,fun i T=>by
  simp at T;subst T;exact(Blk.new W [O I (k:Int)] 3).cell Z,by simp,fun e=>by have:=u.low _ e;omega⟩
 generalize(W.alloc (.cells #[O I (k:Int)] 3)).drew=W2 at*;have V:=d.pA l;have L:=d.hb.free x.MW.toNat;have lh:=d.hb.lt;have c:=SG.of d.o r.o;clear b;refine⟨c,?_⟩;refine Pop.tk Z (by kernel_rfl) (fun _ _ _ h=>y _ _ _ _ _ h) Z fun w g=>by dsimp only[SG]at g;go_simp;with_reducible rfl c ?_;simp only[x9,xc,xd,xe,x6];refine Pop.fin (by kernel_rfl) Z ?_;go_simp;refine j.o _ _ ?_;show N _ _;exact HK.o _ _ _ _ _ _ _ _ _ _ ⟨Z,Z,Z,Z,Z⟩ (d.hng x.MW.toNat l hh t.o) ((F.X m.o).set (x7 d.bh) _ _)
def U4{x:Lh}{ev:Value}{Q:Exit->Act->World->Prop}{half:Bool}(hQ:lG Q)(h:PM w B z s ev dv wv gr gh ons hvs D)(p:LnC w gl o x bv)(hf:DFr a z lv i gl o xa hv x.op)(s8:gA a 8=O I v)(hs:U s.e<1000)(hB:B<=w.heap.size)(m:gl<B)(ph:(x.op.toList==[108,111,97,100])=!half)(pn:(x.op.toList != [108,111,97,100])=half)(F:∀a' w' ev' ons' d,DFr a' z lv i gl o xa hv x.op->gA a' 8=O I v->gA a' 9=O I (U s.e:Int)->PM w' B z (s.put [J.rE x v half s.way]) ev' dv wv gr gh ons' hvs d->JX (fun k=>B<=k) w w'->(∀u r,OP w D u r->OP w' d u r)->NG prog ((aR f75).drop 5) (Exit.then N Q) a' w'):
  NG prog ((aR f75).drop 3) (Exit.then N Q) a w:=by
 obtain⟨⟨sz,t,M,T,V⟩,W,X,s7,c⟩:=hf;obtain⟨y,A,rfl⟩:=J.AH h;obtain⟨wa,wn,wc,rfl⟩:=h.wr.form;have c0:=h.blk.cell (i:=0) (v:=C y (U s.e) A) Z;have lz:=h.blk.lt;have HS:=MS (SC.of h p);have H:=MS h;have HL:=MS p;have HN:=MS F;clear h p F;rw[OQ sz t];simp only[xR,List.range.loop,xW,x5,M,T,V,W,X,s7,c,s8];generalize gA a=f;clear M T V W X s7 c sz t s8;refine MX 3 oD Z (fun K q=>?_)
 conv=>arg 2;whnf
 go_wp2_with fail;refine q.o _ _ ?_;clear q;clear c0 lz;refine MX 4 oD Z (fun K1 j=>?_)
 conv=>arg 2;whnf
 refine Pop.aQ (S:=SC z gl o (C y (U s.e) A) (C wa wn wc) s.round x) (by kernel_rfl) _ Z (by kernel_rfl) HS.o (fun b=>?_);simp only[xg,xh,xi,xj,x6,Pop.qU]
 iterate 28
  refine Pop.tk Z (by kernel_rfl) (fun _ _ _ h=>hQ _ _ _ _ _ h) Z (fun w l=>by dsimp only[SC]at l;go_simp;with_reducible rfl) b ?_;simp only[x9,xc,xd,xe,x6]
 refine Pop.bW Z (by kernel_rfl) Z ?_;go_simp;refine AG H.o HL.o m hB hs [J.rE x v half s.way] [C wa wn wc] Z (by simp) (by simp) (by simp;rfl) (fun i L=>?_) Z Z Z (by kernel_rfl) ⟨Z,Z,Z⟩ ⟨Z,Z,Z⟩ ⟨Z,Z,Z⟩ ⟨Z,Z,Z⟩ Z (by decide) Z Z Z (fun g aa w5 d hR hP hX=>?_)
 ·simp at L;subst L;exact H.wr
 ·refine j.o _ _ ?_;exact HN.o _ _ _ _ _ ⟨⟨Z,Z,Z,Z,Z⟩,Z,Z,Z,Z⟩ Z Z hP hX hR
def lG.jD{Q:Exit->Act->World->Prop}(h:lG Q):lG (Exit.then N Q):=fun c a d v w k=>h c a d v w k
def J.PS.rP{x:Lh}(h:x.op.toList=J.oLoad):s.step x=(s.take.put [J.rE x (s.D.headD 0) Y s.take.way]).aJ x.MW (s.D.headD 0) [(U s.take.e:Int)]:=by
 unfold J.PS.step;rw[h];rfl
def J.PS.rZ{x:Lh}(h:x.op.toList=if ad then J.oAdd else J.oSwap):s.step x=((s.take.put [J.rE x (s.D.headD 0) true s.take.way]).put [J.wE x (cond ad ((s.val x.a+s.D.headD 0)%4) (s.val x.a)) true (cond ad (s.aH x.a++s.way++[(U s.take.e:Int)]) (s.aH x.a++s.way))]).aJ x.MW (s.D.headD 0) [(U s.take.e:Int)]:=by
 unfold J.PS.step;rw[h];cases ad
 ·simp[J.oSwap,J.oLoad,J.oAdd,J.PS.swap,J.PS.put,J.PS.take]
 ·simp[J.oLoad,J.oAdd,J.PS.add,J.PS.put,J.PS.take]
def U5{x:Lh}{ev:Value}{Q:Exit->Act->World->Prop}{half:Bool}(hQ:lG Q)(h:PM w B z s ev dv wv gr gh ons hvs D)(hl:LnC w gl o x bv)(hf:DFr a z lv i gl o xa hv x.op)(hB:B<=w.heap.size)(m:gl<B)(L:OP w D hv (s.aH x.a))(j:xa=s.val x.a)(hx:J.Fit x)(q:J.Bnd n s)(hn:n<30)(ai:U s.D<1000)(b:x.op.toList=if half then(if ad then J.oAdd else J.oSwap)else J.oLoad)(hK:sK w B z lv i (s.step x) N):
  NG prog ((aR f75).drop 0) (Exit.then N Q) a w:=by
 have hp:2^n<=2^30:=xk (by omega) (by omega);have ah:=q.head;have V:=q.val hx.a0 hx.a1;have an:=q.e;have ao:=q.aH x.a;have ap:=q.wy;have M:=hx.r (by rw[b];cases half<;>cases ad<;>simp);have ph:(x.op.toList==[108,111,97,100])=!half:=by rw[b];cases half<;>cases ad<;>rfl
 have pn:(x.op.toList != [108,111,97,100])=half:=by rw[b];cases half<;>cases ad<;>rfl
 refine Sx h hf ai fun a1 w1 al f1 g1 h1 x1=>?_;have p:=hl.x x1 (by have:=h.bz;omega);have S:=L.x x1 (fun y _ e=>by rw[e];exact h.dz);have X1:JX (fun k=>B<=k) w w1:=x1.mono (fun y _ e=>by rw[e];exact h.bz);refine U4 hQ h1 p f1 g1 (by show U s.e<1000;omega) (Nat.le_trans hB x1.size) m ph pn fun a2 w2 am aj D2 f2 g2 k2 h2 x2 r2=>?_;have g:=p.x x2 (by omega);have T:=r2 _ _ S;have X2:JX (fun k=>B<=k) w w2:=X1.trans x2 fun _ _ e=>e;have ag:B<=w2.heap.size:=Nat.le_trans hB X2.size;have c:∀(l H:Value) (d:List Value) (D3:Nat->Prop) (a3:Act) (X:World) (s3:J.PS),DGr a3 z lv i gl o (s.D.headD 0) (U s.take.e)->PM X B z s3 l H wv gr gh d hvs D3->JX (fun k=>B<=k) w X->s3.hang=s.hang->s.step x=s3.aJ x.MW (s.D.headD 0) [(U s.take.e:Int)]->NG prog ((aR f75).drop 7) (Exit.then N Q) a3 X:=fun l H d D3 a3 X s3 f3 h3 x3 e3 e4 =>
  U3 hQ h3 (hl.x x3 (by omega)) f3 m M.1 M.2 (by rw[e3];exact q.hl) fun a4 w4 _ _ _ _ _ _ _ _ f4 h4 x4=>hK _ _ _ _ _ _ _ _ _ _ f4 (by rw[e4];exact h4) (x3.trans x4 fun _ _ e=>e)
 have A:=MS c;have t:=MS h2;have ac:=MS g;have af:=MS T;have F:=MS X2;have o0:=g.op;have aq:=g.lt;obtain⟨⟨sz,df,s0,s1,s4⟩,s5,s6,s7,W⟩:=f2;clear c h2 g T X2 x2 r2 h1 p S f1 g1 X1 x1 h hl L hf hK;rw[OQ sz df];simp only[xR,List.range.loop,xW,x5,s0,s1,s4,s5,s6,s7,W,g2,k2];generalize gA a2=f;clear s0 s1 s4 s5 s6 s7 W sz df g2 k2;have ak:=MS j;have ae:=MS b;have aa:MT (half=Y->s.step x=(s.take.put [J.rE x (s.D.headD 0) half s.take.way]).aJ x.MW (s.D.headD 0) [(U s.take.e:Int)]):=fun e=>by rw[e]at b⊢;exact J.PS.rP b
 have ab:MT (half=E->s.step x=((s.take.put [J.rE x (s.D.headD 0) half s.take.way]).put [J.wE x (cond ad ((xa+s.D.headD 0)%4) xa) E (cond ad (s.aH x.a++s.way++[(U s.take.e:Int)]) (s.aH x.a++s.way))]).aJ x.MW (s.D.headD 0) [(U s.take.e:Int)]):=fun e=>by rw[e]at b⊢;rw[j];exact J.PS.rZ b
 rw[<- j]at V;clear j b;generalize s.D.headD 0=v at*;refine MX 5 oD Z fun K HK=>?_
 conv=>arg 2;whnf
 go_wp2_with fail;refine HK.o _ _ ?_;clear HK;refine MX 6 oD Z fun K2 u=>?_
 conv=>arg 2;whnf
 cases half with
 |false =>
  refine wp_cond_false (by first|rfl|(simp only[pn];rfl)) (wp_skip (u.o _ _ ?_));exact A.o _ _ _ _ _ _ _ ⟨⟨Z,Z,Z,Z,Z⟩,Z,Z,Z⟩ t.o F.o Z (aa.o Z)
 |true =>
  refine wp_cond_true (by first|rfl|(simp only[pn];rfl)) (PW _ _ _ _ ?_);show NG prog ((aW f75).drop 0) _ _ w2;refine Sy (ad:=ad) hQ.jD t.o ac.o ⟨⟨Z,Z,Z,Z,Z⟩,Z,Z,Z,Z⟩ Z Z (by simp only[J.PS.put,J.PS.take,List.length_append,List.length_singleton];omega) ag m af.o (by show(s.aH x.a).length+U s.way<1000000000000;omega) ah V (by rw[ae.o];cases ad<;>rfl) fun a3 X l d D3 f3 h3 x3=>u.o _ _ ?_;exact A.o _ _ _ _ _ _ _ f3 h3 (F.trans x3 fun _ _ e=>e) Z (ab.o Z)
structure DTr(a:Act)(z:Nat)(lv:Value)(i gl o:Nat)(v:Int)(on:Value):Prop where
 f0:DF0 a z lv i
 s5:gA a 5=.pointer (some ⟨gl,o,G⟩)
 s14:gA a 14=O I v
 s15:gA a 15=on
def J.EE(x:Lh)(c:Nat):Prop:=c=0/\x.sign.toList=[43]\/c=1/\x.sign.toList=[45]\/c=2/\x.sign.toList=[61,61]\/c=3/\x.sign.toList=[]\/c=4/\(x.sign.toList==[43])=Y/\(x.sign.toList==[45])=Y/\(x.sign.toList==[61,61])=Y/\x.sign.toList.isEmpty=Y
def J.vF(x:Lh):∃c,J.EE x c:=by
 by_cases h1:x.sign.toList=[43]
 ·exact⟨0,x7 ⟨Z,h1⟩⟩
 by_cases h2:x.sign.toList=[45]
 ·exact⟨1,xF (x7 ⟨Z,h2⟩)⟩
 by_cases h3:x.sign.toList=[61,61]
 ·exact⟨2,xF (xF (x7 ⟨Z,h3⟩))⟩
 by_cases h4:x.sign.toList=[]
 ·exact⟨3,xF (xF (xF (x7 ⟨Z,h4⟩)))⟩
 ·exact⟨4,xF (xF (xF (xF ⟨Z,by simpa using h1,by simpa using h2,by simpa using h3,by simpa using h4⟩)))⟩
def J.jX{x:Lh}{c:Nat}(h:J.EE x c):(x.sign.toList==[43])=decide (c=0)/\(x.sign.toList==[45])=decide (c=1)/\(x.sign.toList==[61,61])=decide (c=2)/\x.sign.toList.isEmpty=decide (c=3)/\(x.sign.toList != [])=!decide (c=3)/\c<=4:=by
 rcases h with⟨rfl,e⟩|⟨rfl,e⟩|⟨rfl,e⟩|⟨rfl,e⟩|⟨rfl,d,f,g,b⟩
 iterate 4 (rw[e];decide)
 refine⟨d,f,g,b,?_,Nat.le_refl _⟩
 cases e:x.sign.toList with
 |nil=>rw[e]at b;cases b
 |cons a l=>rfl
def J.nv(c:Nat)(a b:Int):Int:=if c=0 then(a+b)%4 else if c=1 then(a-b+4)%4 else if c=2 then(if a==b then 1 else 0)else a
def U6{c:Nat}{x:Lh}{ev:Value}{Q:Exit->Act->World->Prop}(h:PM w B z s ev dv wv gr gh ons hvs D)(hl:LnC w gl o x bv)(hf:DFr a z lv i gl o xa hv x.op)(ac:OP w D hv (s.aH x.a))(af:xa=s.val x.a)(t:J.Fit x)(W:J.Bnd n s)(hn:n<30)(hc:J.EE x c)(hN:∀a' w' u,DTr a' z lv i gl o (J.nv c xa (s.val x.b)) u->OP w' D u (if c=3 then s.aH x.a else s.aH x.a++s.aH x.b)->Below w.heap.size w w'->NG prog ((aT f75).drop 7) (Exit.then N Q) a' w'):
  NG prog ((aT f75).drop 0) (Exit.then N Q) a w:=by
 have hp:2^n<=2^30:=xk (by omega) (by omega);have an:=W.val t.a0 t.a1;have aq:=W.val t.b0 t.b1;have ao:=W.aH x.a;have ap:=W.aH x.b;rw[<- af]at an;obtain⟨⟨sz,df,s0,s1,s4⟩,s5,s6,s7,ah⟩:=hf;have aj:=MS ac;have H:=MS h;have HL:=MS hl;have HN:=MS hN;have V:=MS hc;have q4:=hl.b;have ag:=hl.lt;have b0:=t.b0;have b1:=t.b1;clear h hl hN ac hc af W t;rw[OQ sz df];simp only[xR,List.range.loop,xW,x5,s0,s1,s4,s5,s6,s7,ah];generalize gA a=f;clear s0 s1 s4 s5 s6 s7 ah sz df;refine MX 0 sC Z fun K d=>?_
 conv=>arg 2;whnf
 go_wp2_with(first|(go_at_call 117;refine(Az _ B z s ev dv wv gr gh ons hvs D H.o x.b b0 (by omega)).mono ?_;rintro e w1 ⟨gv,rfl,ab,X⟩;have F:=MS ab;have g:=MS X;clear ab X));refine d.o _ _ ?_;clear d;have r:=MS (aj.x (JX.of (P:=fun _=>False) g.o) fun _ _ e=>e.elim);have L:=MS (F.x (JX.of (P:=fun _=>False) g.o) fun _ _ e=>e.elim);clear q4 ag b0 b1;generalize s.val x.b=xb at*;generalize s.aH x.a=la at*;generalize s.aH x.b=lb at*;have ae:U la+([]:List Int).length<10000000000000:=by simp;omega
 refine MX 1 sC Z fun K d=>?_
 conv=>arg 2;whnf
 go_wp2_with fail;refine d.o _ _ ?_;clear d;refine MX 2 sC Z fun K d=>?_
 conv=>arg 2;whnf
 go_wp2_with(first|(go_at_call 76;refine(xO hv (C G 0 0) la [] _ (r.of fun _ _ e=>e.elim) (OP.nil _ _) ae).mono ?_;rintro e w2 ⟨u,rfl,m,k,q⟩;have j:=MS (g.trans (q.mono g.size));have T:=MS (m.mL (D:=D) (fun y hy=>xl (H.low y hy) g.size) k);have ak:=MS (r.x (JX.of (P:=fun _=>False) q) fun _ _ e=>e.elim);have ai:=MS (L.x (JX.of (P:=fun _=>False) q) fun _ _ e=>e.elim);clear m k q));refine d.o _ _ ?_;clear d;rw[List.append_nil]at T;have M:=MS (HL.x (JX.of (P:=fun _=>False) j.o) fun e=>e);have q5:=M.sign;have ag:=M.lt;clear ae r L F;have am:U la+U lb<10000000000000:=by omega
 refine MX 3 sC Z fun K d=>?_
 conv=>arg 2;whnf
 go_wp2_with fail;refine d.o _ _ ?_;clear d;obtain⟨p1,p2,p3,p4,p5,p6⟩:=J.jX V.o;have al:c=0\/c=1\/c=2/\(xa==xb)=E\/c=2/\(xa==xb)=Y\/c=3\/c=4:=by
  cases(xa==xb)<;>simp<;>omega
 clear p6 V
 rcases al with rfl|rfl|⟨rfl,pe⟩|⟨rfl,pe⟩|rfl|rfl
 all_goals
  simp only[Nat.reduceEqDiff,decide_false,decide_true,Bool.not_true,Bool.not_false]at p1 p2 p3 p4 p5;refine MX 4 sC Z fun K d=>?_
  conv=>arg 2;whnf
  go_wp2_with fail;refine d.o _ _ ?_;clear d;refine MX 5 sC Z fun K d=>?_
  conv=>arg 2;whnf
  go_wp2_with fail;refine d.o _ _ ?_;clear d;refine MX 6 sC Z fun K d=>?_
  conv=>arg 2;whnf
  go_wp2_with(first|(go_at_call 76;refine(xO hv gv la lb _ (ak.of fun _ _ e=>e.elim) (ai.of fun _ _ e=>e.elim) am).mono ?_;rintro e w3 ⟨ar,rfl,p,l,aa⟩;have A:=MS (j.trans (aa.mono j.size));have S:=MS (p.mL (D:=D) (fun y hy=>xl (H.low y hy) j.size) l);clear p l aa));refine d.o _ _ ?_;clear d
  first
   |exact HN.o _ _ _ ⟨⟨Z,Z,Z,Z,Z⟩,Z,Z,Z⟩ S.o A.o
   |exact HN.o _ _ _ ⟨⟨Z,Z,Z,Z,Z⟩,Z,Z,Z⟩ T.o j.o
   |(exact HN.o _ _ _ ⟨⟨Z,Z,Z,Z,Z⟩,Z,by simp[J.nv, *];rfl,Z⟩ S.o A.o)
def U7{p:Value}{m:List Int}{x:Lh}{ev:Value}{Q:Exit->Act->World->Prop}(hQ:lG Q)(h:PM w B z s ev dv wv gr gh ons hvs D)(J:LnC w gl o x bv)(hf:DTr a z lv i gl o v p)(j:OP w D p m)(aa:gl<B)(r0:0<=x.MW)(r1:x.MW<4)(hh:U s.hang=4)(V:sK w B z lv i (s.aJ x.MW v m) N):
  NG prog ((aT f75).drop 7) (Exit.then N Q) a w:=by
 obtain⟨⟨sz,M,s0,s1,s4⟩,s5,q,r⟩:=hf;obtain⟨oa,on,oc,rfl⟩:=j.form;have t:=MS (SG.of h J);have d:x.MW.toNat<4:=by omega
 have q1:=h.tP d;have q2:=h.pA d;have fr:=h.rb.free x.MW.toNat;have T:=h.hb.free x.MW.toNat;have H:=MS h;have HK:=MS V;have F:=MS j;have HL:=MS J;have lr:=h.rb.lt;clear h V J j;rw[OQ sz M];simp only[xR,List.range.loop,xW,x5,s0,s1,s4,s5,q,r];generalize gA a=f;clear s0 s1 s4 s5 sz M q r;refine MX 7 sC Z (fun L c=>?_)
 conv=>arg 2;whnf
 refine Pop.aQ (S:=SG z gl o gr gh x) (by kernel_rfl) _ Z (by kernel_rfl) t.o (fun b=>?_);simp only[xg,xh,xi,xj,x6,Pop.qU]
 iterate 10
  refine Pop.tk Z (by kernel_rfl) (fun _ _ _ h=>hQ _ _ _ _ _ h) Z (fun w g=>by dsimp only[SG]at g;go_simp;with_reducible rfl) b ?_;simp only[x9,xc,xd,xe,x6]
 refine Pop.fin (by kernel_rfl) Z ?_;go_simp;refine c.o _ _ ?_;have l:=MS ((H.MW x.MW.toNat v).X ((x8 _ _).drew));have K:MT (JX (fun k=>B<=k) w (w.setCell ⟨gr,x.MW.toNat,G⟩ (O I v)).drew):=(JX.set (P:=fun k=>B<=k) (JX.refl _ _) (x7 H.bg) _ _).X ((x8 _ _).drew);have u:=MS (HL.x K.o (by omega));have A:=MS (F.x ((JX.set (P:=fun k=>k=gr) (JX.refl _ _) (x7 Z) x.MW.toNat (O I v)).X ((x8 _ _).drew)) (fun y _ e=>by rw[e];exact H.dr));clear c L b t fr lr q1 q2 T;generalize(w.setCell ⟨gr,x.MW.toNat,G⟩ (O I v)).drew=W at*;have t:=MS (SG.of l.o u.o);refine MX 8 sC Z (fun L c=>?_)
 conv=>arg 2;whnf
 refine Pop.aQ (S:=SG z gl o gr gh x) (by kernel_rfl) _ Z (by kernel_rfl) t.o (fun b=>?_);simp only[xg,xh,xi,xj,x6,Pop.qU]
 iterate 10
  refine Pop.tk Z (by kernel_rfl) (fun _ _ _ h=>hQ _ _ _ _ _ h) Z (fun w g=>by dsimp only[SG]at g;go_simp;with_reducible rfl) b ?_;simp only[x9,xc,xd,xe,x6]
 have q2:=l.pA d;have T:=l.hb.free x.MW.toNat;have lh:=l.hb.lt;refine Pop.fin (by kernel_rfl) Z ?_;go_simp;refine c.o _ _ ?_;show N _ _;exact HK.o _ _ _ _ _ _ _ _ _ _ ⟨Z,Z,Z,Z,Z⟩ ((l.hng x.MW.toNat d hh A.o).X ((x8 _ _).drew)) ((K.set (x7 l.bh) _ _).X ((x8 _ _).drew))
def J.PS.uV{x:Lh}{c:Nat}(h:J.EE x c)(f:x.op.toList=J.oSet):s.step x=s.aJ x.MW (J.nv c (s.val x.a) (s.val x.b)) (if c=3 then s.aH x.a else s.aH x.a++s.aH x.b):=by
 obtain⟨g,j,k,l,m,p⟩:=J.jX h;have e:s.step x=s.set x:=by unfold J.PS.step;rw[f];rfl
 rw[e];unfold J.PS.set;rw[g,j,k,l];have d:c=0\/c=1\/c=2\/c=3\/c=4:=by omega
 rcases d with rfl|rfl|rfl|rfl|rfl<;>simp[J.nv]
def U8{x:Lh}{ev:Value}{Q:Exit->Act->World->Prop}(F:lG Q)(h:PM w B z s ev dv wv gr gh ons hvs D)(k:LnC w gl o x bv)(H:DFr a z lv i gl o xa hv x.op)(g:gl<B)(j:OP w D hv (s.aH x.a))(d:xa=s.val x.a)(l:J.Fit x)(m:J.Bnd n s)(K:n<30)(b:x.op.toList=J.oSet)(A:sK w B z lv i (s.step x) N):NG prog ((aT f75).drop 0) (Exit.then N Q) a w:=by
 obtain⟨c,p⟩:=J.vF x;refine U6 h k H j d l m K p fun S V L q u f=>?_;refine U7 F (h.X f) (k.x (JX.of (P:=fun _=>False) f) fun e=>e) q u g (l.r (xF (xF (xF b)))).1 (l.r (xF (xF (xF b)))).2 m.hl fun T W _ _ _ _ _ _ _ _ t y M=>A _ _ _ _ _ _ _ _ _ _ t (by rw[J.PS.uV p b,<- d];exact y) ((JX.of f).trans M fun _ _ e=>e)
def EU(w:World)(B z:Nat)(s:J.PS)(e:Ending)(w':World):Prop:=∃(v ev dv wv:Value) (gr gh:Nat) (ons hvs:List Value) (D:Nat->Prop),e=.returned v/\PM w' B z s ev dv wv gr gh ons hvs D/\JX (fun k=>B<=k) w w'
def U9{x:Lh}{ev:Value}{Q:Exit->Act->World->Prop}{b:List Tree}(h:PM w B z s ev dv wv gr gh ons hvs D)(hl:LnC w gl o x bv)(hf:DFr a z lv i gl o xa hv x.op)(ax:gl<B)(M:OP w D hv (s.aH x.a))(T:xa=s.val x.a)(hb:J.Bnd n s)(hn:n<30)(hc:∀(l:World) (ag af ao:Value) (ai ah:Nat) (V S:List Value) (D1:Nat->Prop),PM l B z (s.bY x) ag af ao ai ah V S D1->JX (fun k=>B<=k) w l->Calls prog 75 #[.pointer (some ⟨z,0,G⟩),bv] l fun e w'=>EU l B z (J.doL (s.bY x) b) e w')(hK:sK w B z lv i (if s.val x.a==0 then s.bY x else J.doL (s.bY x) b) N):NG prog ((aI f75).drop 0) (Exit.then N Q) a w:=by
 have hp:2^n<=2^30:=xk (by omega) (by omega);have aj:=hb.aH x.a;have al:=hb.wy;have ak:U s.way+(s.aH x.a).length<10000000000000:=by omega
 obtain⟨⟨sz,df,s0,s1,s4⟩,s5,s6,s7,aa⟩:=hf;have ab:=MS M;have H:=MS h;have HL:=MS hl;have c:=MS hK;have HC:=MS hc;have A:=MS T;have c3:=h.blk.cell (i:=3) (v:=wv) Z;have f3:=h.blk.free 3;have lz:=h.blk.lt;clear h hl M hK hc T hb hp aj al;rw[OQ sz df];simp only[xR,List.range.loop,xW,x5,s0,s1,s4,s5,s6,s7,aa];generalize gA a=f;clear s0 s1 s4 s5 s6 s7 aa sz df;refine MX 0 AW Z fun K c=>?_
 conv=>arg 2;whnf
 go_wp2_with(first|(go_at_call 76;refine(xO wv hv s.way (s.aH x.a) _ (H.wr.of fun _ _ e=>e.elim) (ab.of fun _ _ e=>e.elim) ak).mono ?_;rintro e l ⟨an,rfl,d,j,g⟩;obtain⟨q,on,r,rfl⟩:∃q on r,an=Value.slice q on r:=(by obtain⟨y1,y2,y3⟩:=RL d;exact⟨y1,_,y2,y3⟩);have u:=MS (d.mL (D:=D) (fun y hy=>H.low y hy) j);have m:=MS g;have d3:=MZ g lz c3;have g3:=(g.frozen (p:=⟨z,3,G⟩) lz).trans f3;have am:z<l.heap.size:=xl lz g.size;clear d j g));refine c.o _ _ ?_;clear c;have HP:MT (PM (l.setCell ⟨z,3,G⟩ (C q on r)) B z (s.bY x) ev dv (C q on r) gr gh ons hvs D):=(H.X m.o).wy u.o;have HX:MT (JX (fun k=>B<=k) w (l.setCell ⟨z,3,G⟩ (C q on r))):=(JX.of m.o).set (x7 H.bz) _ _;have t:=MS (HL.x HX.o (by omega));clear d3 g3 am c3 f3 lz u m;generalize l.setCell ⟨z,3,G⟩ (C q on r)=W at*;have q8:=t.body;have ay:=t.lt
 cases hq:xa==0 with
 |true =>
  have pn:(xa != 0)=Y:=by unfold bne;rw[hq];rfl
  have HQ:=MS hq;clear hq;refine MX 1 AW Z fun K c=>?_
  conv=>arg 2;whnf
  go_wp2_with fail;refine c.o _ _ ?_;clear c;refine MX 2 AW Z fun K c=>?_
  conv=>arg 2;whnf
  go_wp2_with fail;refine c.o _ _ ?_;clear c;show N _ _;exact c.o _ _ _ _ _ _ _ _ _ _ ⟨Z,Z,Z,Z,Z⟩ (by rw[<- A.o,HQ.o];exact HP.o) HX.o
 |false =>
  have pn:(xa != 0)=E:=by unfold bne;rw[hq];rfl
  have HQ:=MS hq;clear hq;refine MX 1 AW Z fun K c=>?_
  conv=>arg 2;whnf
  go_wp2_with fail;refine c.o _ _ ?_;clear c;refine MX 2 AW Z fun K c=>?_
  conv=>arg 2;whnf
  go_wp2_with(first|(go_at_call 75;refine(HC.o _ _ _ _ _ _ _ _ _ HP.o HX.o).mono ?_;rintro e w2 ⟨v2,au,ar,az,aw,av,aq,ap,D2,rfl,F,L⟩;have ac:=MS F;have ae:=MS (HX.trans L fun _ _ e=>e);clear F L));refine c.o _ _ ?_;clear c;show N _ _;exact c.o _ _ _ _ _ _ _ _ _ _ ⟨Z,Z,Z,Z,Z⟩ (by rw[<- A.o,HQ.o];exact ac.o) ae.o
def AR{P:Program}:∀(l:List Code) {Q1 b:Exit->Act->World->Prop} {a:Act} {w:World},(∀e a w,Q1 e a w->b e a w)->NG P l Q1 a w->NG P l b a w
 |[],_,_,_,_,hq,h=>hq _ _ _ h
 |_::r,_,_,_,_,hq,h=>wp_mono h (fun e _ _ c=>by cases e<;>first|exact AR r hq c|exact hq _ _ _ c)
def rU{P:Program}{l:List Code}{K:Act->World->Prop}{Q:Exit->Act->World->Prop}(c:∀a w,N a w->K a w)(h:NG P l (Exit.then N Q) a w):NG P l (Exit.then K (Exit.then N Q)) a w :=
 AR l (fun e a w b=>by cases e<;>first|exact c _ _ b|exact b) h
section
variable {w:World}{z i gl o:Nat}{lv hv:Value}{xa:Int}{op:ByteArray}{a:Act}{N:Act->World->Prop}{Q:Exit->Act->World->Prop}{t:Bool}
def sw1(F:DFr a z lv i gl o xa hv op)(p:(op.toList==[115,116,111,114,101])=t)(g:t=E->∀a',DFr a' z lv i gl o xa hv op->NG prog ((aS f75).drop 0) (Exit.then N Q) a' w)(j:t=Y->∀a',DFr a' z lv i gl o xa hv op->NG prog ((e2 f75).drop 0) (Exit.then N Q) a' w):NG prog ((e1 f75).drop 0) (Exit.then N Q) a w:=by
 obtain⟨⟨x,e,k,l,m⟩,q,r,u,c⟩:=F;have y:=MS g;have A:=MS j;clear g j;rw[OQ x e];simp only[xR,List.range.loop,xW,x5,k,l,m,q,r,u,c];generalize gA a=f;clear k l m q r u c x e;refine MX 0 Ba Z fun K d=>?_
 conv=>arg 2;whnf
 go_wp2_with fail;refine d.o _ _ ?_;clear d;refine MX 1 Ba Z fun H b=>?_
 conv=>arg 2;whnf
 cases t with
 |true =>
  refine wp_cond_true (by first|rfl|(simp only[p];rfl)) (PW _ _ _ _ (rU (fun _ _ h=>b.o _ _ h) ?_));exact y.o Z _ ⟨⟨Z,Z,Z,Z,Z⟩,Z,Z,Z,Z⟩
 |false =>
  refine wp_cond_false (by first|rfl|(simp only[p];rfl)) (PW _ _ _ _ (rU (fun _ _ h=>b.o _ _ h) ?_));exact A.o Z _ ⟨⟨Z,Z,Z,Z,Z⟩,Z,Z,Z,Z⟩
def sw2(F:DFr a z lv i gl o xa hv op)(p:(op.toList==[102,101,110,99,101])=t)(g:t=E->∀a',DFr a' z lv i gl o xa hv op->NG prog ((aF f75).drop 0) (Exit.then N Q) a' w)(j:t=Y->∀a',DFr a' z lv i gl o xa hv op->NG prog ((e3 f75).drop 0) (Exit.then N Q) a' w):NG prog ((e2 f75).drop 0) (Exit.then N Q) a w:=by
 obtain⟨⟨x,e,k,l,m⟩,q,r,u,c⟩:=F;have y:=MS g;have A:=MS j;clear g j;rw[OQ x e];simp only[xR,List.range.loop,xW,x5,k,l,m,q,r,u,c];generalize gA a=f;clear k l m q r u c x e;refine MX 0 Bb Z fun K d=>?_
 conv=>arg 2;whnf
 go_wp2_with fail;refine d.o _ _ ?_;clear d;refine MX 1 Bb Z fun H b=>?_
 conv=>arg 2;whnf
 cases t with
 |true =>
  refine wp_cond_true (by first|rfl|(simp only[p];rfl)) (PW _ _ _ _ (rU (fun _ _ h=>b.o _ _ h) ?_));exact y.o Z _ ⟨⟨Z,Z,Z,Z,Z⟩,Z,Z,Z,Z⟩
 |false =>
  refine wp_cond_false (by first|rfl|(simp only[p];rfl)) (PW _ _ _ _ (rU (fun _ _ h=>b.o _ _ h) ?_));exact A.o Z _ ⟨⟨Z,Z,Z,Z,Z⟩,Z,Z,Z,Z⟩
def sw3(F:DFr a z lv i gl o xa hv op)(p:(op.toList==[98,97,114,114,105,101,114])=t)(g:t=E->∀a',DFr a' z lv i gl o xa hv op->NG prog ((aB f75).drop 0) (Exit.then N Q) a' w)(j:t=Y->∀a',DFr a' z lv i gl o xa hv op->NG prog ((e4 f75).drop 0) (Exit.then N Q) a' w):NG prog ((e3 f75).drop 0) (Exit.then N Q) a w:=by
 obtain⟨⟨x,e,k,l,m⟩,q,r,u,c⟩:=F;have y:=MS g;have A:=MS j;clear g j;rw[OQ x e];simp only[xR,List.range.loop,xW,x5,k,l,m,q,r,u,c];generalize gA a=f;clear k l m q r u c x e;refine MX 0 Bc Z fun K d=>?_
 conv=>arg 2;whnf
 go_wp2_with fail;refine d.o _ _ ?_;clear d;refine MX 1 Bc Z fun H b=>?_
 conv=>arg 2;whnf
 cases t with
 |true =>
  refine wp_cond_true (by first|rfl|(simp only[p];rfl)) (PW _ _ _ _ (rU (fun _ _ h=>b.o _ _ h) ?_));exact y.o Z _ ⟨⟨Z,Z,Z,Z,Z⟩,Z,Z,Z,Z⟩
 |false =>
  refine wp_cond_false (by first|rfl|(simp only[p];rfl)) (PW _ _ _ _ (rU (fun _ _ h=>b.o _ _ h) ?_));exact A.o Z _ ⟨⟨Z,Z,Z,Z,Z⟩,Z,Z,Z,Z⟩
def sw4(F:DFr a z lv i gl o xa hv op)(p:(op.toList==[115,101,116])=t)(g:t=E->∀a',DFr a' z lv i gl o xa hv op->NG prog ((aT f75).drop 0) (Exit.then N Q) a' w)(j:t=Y->∀a',DFr a' z lv i gl o xa hv op->NG prog ((e5 f75).drop 0) (Exit.then N Q) a' w):NG prog ((e4 f75).drop 0) (Exit.then N Q) a w:=by
 obtain⟨⟨x,e,k,l,m⟩,q,r,u,c⟩:=F;have y:=MS g;have A:=MS j;clear g j;rw[OQ x e];simp only[xR,List.range.loop,xW,x5,k,l,m,q,r,u,c];generalize gA a=f;clear k l m q r u c x e;refine MX 0 Be Z fun K d=>?_
 conv=>arg 2;whnf
 go_wp2_with fail;refine d.o _ _ ?_;clear d;refine MX 1 Be Z fun H b=>?_
 conv=>arg 2;whnf
 cases t with
 |true =>
  refine wp_cond_true (by first|rfl|(simp only[p];rfl)) (PW _ _ _ _ (rU (fun _ _ h=>b.o _ _ h) ?_));exact y.o Z _ ⟨⟨Z,Z,Z,Z,Z⟩,Z,Z,Z,Z⟩
 |false =>
  refine wp_cond_false (by first|rfl|(simp only[p];rfl)) (PW _ _ _ _ (rU (fun _ _ h=>b.o _ _ h) ?_));exact A.o Z _ ⟨⟨Z,Z,Z,Z,Z⟩,Z,Z,Z,Z⟩
def sw5(F:DFr a z lv i gl o xa hv op)(p:(op.toList==[105,102])=t)(g:t=E->∀a',DFr a' z lv i gl o xa hv op->NG prog ((aI f75).drop 0) (Exit.then N Q) a' w)(j:t=E):NG prog ((e5 f75).drop 0) (Exit.then N Q) a w:=by
 obtain⟨⟨x,e,k,l,m⟩,q,r,u,b⟩:=F;have y:=MS g;have A:=MS j;clear g j;rw[OQ x e];simp only[xR,List.range.loop,xW,x5,k,l,m,q,r,u,b];generalize gA a=f;clear k l m q r u b x e;refine MX 0 Bf Z fun K d=>?_
 conv=>arg 2;whnf
 go_wp2_with fail;refine d.o _ _ ?_;clear d;refine MX 1 Bf Z fun H c=>?_
 conv=>arg 2;whnf
 cases t with
 |true =>
  refine wp_cond_true (by first|rfl|(simp only[p];rfl)) (PW _ _ _ _ (rU (fun _ _ h=>c.o _ _ h) ?_));exact y.o Z _ ⟨⟨Z,Z,Z,Z,Z⟩,Z,Z,Z,Z⟩
 |false =>
  exact absurd A.o (by decide)
def sw0(hf:DFr a z lv i gl o xa hv op){r u x:Bool}(p1:(op.toList==[108,111,97,100])=r)(p2:(op.toList==[97,100,100])=u)(p3:(op.toList==[115,119,97,112])=x)(H:(r||(u||x))=t)(A:t=E->∀a',DFr a' z lv i gl o xa hv op->NG prog ((aR f75).drop 0) (Exit.then (Q .normal) Q) a' w)(F:t=Y->∀a',DFr a' z lv i gl o xa hv op->NG prog ((e1 f75).drop 0) (Exit.then (Q .normal) Q) a' w):NG prog ((dS f75).drop 0) Q a w:=by
 obtain⟨⟨W,y,J,L,M⟩,S,T,V,m⟩:=hf;have X:=MS A;have H2:=MS F;have q:=MS H;clear A F H;rw[OQ W y];simp only[xR,List.range.loop,xW,x5,J,L,M,S,T,V,m];generalize gA a=f;clear J L M S T V m W y;have l:∀(p:Act),gA p 38=.bool t->DFr p z lv i gl o xa hv op->NG prog ((dS f75).drop 2) Q p w:=fun p g k=>by
  refine MX 2 tX Z fun K2 d=>?_
  conv=>arg 2;whnf
  cases t with
  |true =>
   refine wp_cond_true (by exact g) (PW _ _ _ _ (AR _ (fun e a w j=>?_) (X.o Z _ k)))
   cases e<;>first|exact d.o _ _ j|exact j
  |false =>
   refine wp_cond_false (by exact g) (PW _ _ _ _ (AR _ (fun e a w j=>?_) (H2.o Z _ k)))
   cases e<;>first|exact d.o _ _ j|exact j
 have c:=MS l;clear l;cases r
 ·cases u
  ·refine MX 0 tX Z fun K b=>?_
   conv=>arg 2;whnf
   go_wp2_with fail;refine b.o _ _ ?_;clear b;refine MX 1 tX Z fun K b=>?_
   conv=>arg 2;whnf
   go_wp2_with fail;refine b.o _ _ ?_;clear b;exact c.o _ (by rw[<- q.o];rfl) ⟨⟨Z,Z,Z,Z,Z⟩,Z,Z,Z,Z⟩
  ·refine MX 0 tX Z fun K b=>?_
   conv=>arg 2;whnf
   go_wp2_with fail;refine b.o _ _ ?_;clear b;refine MX 1 tX Z fun K b=>?_
   conv=>arg 2;whnf
   go_wp2_with fail;refine b.o _ _ ?_;clear b;exact c.o _ (by rw[<- q.o];rfl) ⟨⟨Z,Z,Z,Z,Z⟩,Z,Z,Z,Z⟩
 ·refine MX 0 tX Z fun K b=>?_
  conv=>arg 2;whnf
  go_wp2_with fail;refine b.o _ _ ?_;clear b;refine MX 1 tX Z fun K b=>?_
  conv=>arg 2;whnf
  go_wp2_with fail;refine b.o _ _ ?_;clear b;exact c.o _ (by rw[<- q.o];rfl) ⟨⟨Z,Z,Z,Z,Z⟩,Z,Z,Z,Z⟩
end
