import Derived.Test.YtehclbpoabdpoaaGreatDoorO39
set_option linter.all false
set_option maxHeartbeats 0
namespace Go.Proofs.YtehclbpoabdpoaaGreatDoor
open Go Go.RowKit Go.Proofs.Tryz P Q R
open scoped Classical
set_option maxRecDepth 1000000
variable {w1 w2:World}{B capr capw gr gw k n nw oc tc:Nat}{s:St}{oa ta:Option Addr}{ovs tvs:List Value}{G:List Nat}{r:List ByteArray}
open List renaming length->S
open _root_.Array renaming size->T
open Go.World renaming heap->A
open Go.Value renaming slice->Y,int->M,string->D
open Option renaming none->I,some->E
open Bool renaming false->U
open Go.Obj renaming cells->N
open Go.IntKind renaming i64->L
open List renaming map_cons->xF,map_nil->xR,range->x1,getElem?_append_right->x8,length_append->xb,length_cons->xc,length_nil->xd,append_nil->xi,map_append->xj,isEmpty_nil->xk,append_assoc->xo,length_map->xp
open Go.Exit renaming inBlock->xW
open Go.RowKit.Below renaming heap_alloc->x2,grown->x4,refl->x5
open _root_.ByteArray renaming toList->x3
open Go.Act renaming eval->x6
open Go.World renaming news_of_block->x7,cell?_of_block->xa,frozen?_of_block->xm
open Nat renaming zero_add->xe
open Bool renaming false_eq_true->xg
open Go.Value renaming oneCell'->xh,ownBlock->xn
def Tryz.infoTh:(prog.info? 50).map (fun i=>(i.zero,i.size,i.bytes))=E (E (.agg #[M L 0,Y I 0 0,M L 0]),3,40):=by kernel_rfl
def Tryz.infoFr:(prog.info? 54).map (fun i=>(i.zero,i.size,i.bytes))=E (E (.agg (#[Y I 0 0]++cI z0 (Y I 0 0))),10,144):=by kernel_rfl
def OG.rY{w:World}{g:Nat}{x:Lh}{a:Value}(h:OG w g x a)(u:Value):OG (w.setCell ⟨g,8,I⟩ u) g x u:=by
 unfold OG at*;rw[bX h];rfl
def IG(w1:World)(B:Nat)(rows:List ByteArray)(n k:Nat)(Q0:Exit->Act->World->Prop):Prop:=∀(fa:Act),Fr fa (sV k)->∀w3:World,run St.zero 0 ((rows.map x3).take n)=(I,(k:Int)+1)->Below B w1 w3->Q0 .ret fa w3
def AB(w1:World)(B n k gr capr:Nat)(s:St)(c:ByteArray)(r:List ByteArray)(K0:Act->World->Prop):Prop:=∀(s2:St) (tv2 ov2:Value) (tvs2 ovs2:List Value) (G2:List Nat) (fa:Act),Fr fa (sZ gr n capr k s2 tv2 ov2)->∀w3:World,R.step s ((k:Int)+1) c r=E s2->RdM w3 B tv2 ov2 s2.ts s2.O tvs2 ovs2 G2->Below B w1 w3->K0 fa w3
def RdD(w1:World)(B n k gr capr:Nat)(s:St)(tc:Nat)(tvs:List Value)(c:ByteArray)(r:List ByteArray)(bt m gx:Nat)(Q:Exit->Act->World->Prop):Prop:=∀(s2:St) (xl:Lh) (b:List Tree) (bv:Value) (oa2:Option Addr) (oc2:Nat) (ovs2:List Value) (G2 F:List Nat) (w4:World) (fa:Act),Fr fa (qD gr n capr k bt m gx tc oc2 oa2 s2)->RdM w4 B (MU bt (m+1) tc) (Y oa2 (S s2.O) oc2) s.ts s2.O tvs ovs2 G2->s2.ts=s.ts->OG w4 gx xl bv->NZ w4 B bv b F->(∀j∈F,j∉G2)->R.step s ((k:Int)+1) c r=E (R.put s2 (.mk xl b))->SzS (R.put s2 (.mk xl b))->Below B w1 w4->NG prog [aO (bC (aO (bN f10) 2)) 9,aO (bC (aO (bN f10) 2)) 10,aO (bC (aO (bN f10) 2)) 11] Q fa w4
def RdC.hs{wr:World}{rows:List ByteArray}{x c:ByteArray}(C:RdC w1 wr B rows n k s ta oa tc oc tvs ovs G gw nw capw x c r w2)(a:(c.toList==[116,104,114,101,97,100])=U):MT (R.step s ((k:Int)+1) c r=if s.ts.isEmpty then I else if c.toList==[101,110,100]then R.fC s r else if c.toList==[105,102]then R.branch s r else R.bW s ((k:Int)+1) c r):=by unfold MT R.step;rw[a];rfl
def R.Tj(s:St)(i:Int)(d:ByteArray):R.eG s i [d]=I/\(inn d.toList bl<0\/¬inn d.toList bl<0/\0<S s.O\/¬inn d.toList bl<0/\S s.O=0/\S s.ts=4)\/R.eG s i [d]=E {s with ts:=s.ts++[⟨inn d.toList bl,[],i⟩],count:=0}/\s.O=[]/\(S s.O:Int)=0/\((S s.ts:Int)==4)=U/\¬inn d.toList bl<0:=by
 unfold R.eG;by_cases h1:inn d.toList bl<0
 ·exact .inl ⟨by simp;omega,.inl h1⟩
 ·have c:decide (0<=inn d.toList bl)=true:=by simp;omega
  rcases e:s.O with _|⟨a,b⟩
  ·by_cases h4:S s.ts=4
   ·exact .inl ⟨by simp[h4],.inr (.inr ⟨h1,by simp,h4⟩)⟩
   ·exact .inr ⟨by simp[c,h4],Z,by simp,by simp;omega,h1⟩
  ·exact .inl ⟨by simp,.inr (.inl ⟨h1,by simp⟩)⟩
def Tk{wr:World}{rows:List ByteArray}{x c:ByteArray}(C:RdC w1 wr B rows n k s ta oa tc oc tvs ovs G gw nw capw x c r w2)(F:(c.toList==[116,104,114,101,97,100])=true)(K0:Act->World->Prop)(Q0:Exit->Act->World->Prop)(O:Act)(p:Fr O (qY gr n capr k gw nw capw tc oc ta oa s c))(J:IG w1 B rows n k Q0)(hN:AB w1 B n k gr capr s c r K0):
  NG prog [aO (bC (aO (bN f10) 2)) 2,aO (bC (aO (bN f10) 2)) 3,aO (bC (aO (bN f10) 2)) 4,aO (bC (aO (bN f10) 2)) 5,aO (bC (aO (bN f10) 2)) 6,aO (bC (aO (bN f10) 2)) 7,aO (bC (aO (bN f10) 2)) 8,aO (bC (aO (bN f10) 2)) 9,aO (bC (aO (bN f10) 2)) 10,aO (bC (aO (bN f10) 2)) 11] (xW 1 (Exit.then K0 Q0)) O w2:=by
 rw[OQ p.sz p.df];have fh:=p.at_;simp only[qY,xF,xR,List.cons.injEq,and_true]at fh;simp only[x1,List.range.loop,xF,xR,fh];generalize gA O=fA;obtain⟨hB,aq,q1,q2,q3,q4,q5,q6,a⟩:=C.IU;obtain⟨H,X,hn,hr,aj,hx,hc,hw,ab,al,ao,am,B2⟩:=C;have l:=H.step X hr hx hc;obtain⟨d0,_,ac⟩:=hw.head;have t:MT (R.step s ((k:Int)+1) c r=R.eG s ((k:Int)+1) r):=by unfold MT R.step;rw[F];rfl
 rw[F]
 try dsimp only
 refine nH fun K HK=>?_
 conv=>arg 2;whnf
 by_cases hl:S r=1
 ·obtain⟨d,rfl⟩:=List.length_eq_one_iff.1 hl;obtain⟨e1,_,_⟩:=ac.head;have y:nw=2:=by simpa using ab.symm
  subst y
  rcases Tj s ((k:Int)+1) d with⟨u,h|h|h⟩|⟨u,v,ap,ar,h⟩
  ·have HR:=t.trans u;have HR:=MS HR;go_wp2_with(first|(go_at_call 27;refine(jN d bl _ _ Z (by simp)).mono ?_;rintro e m ⟨rfl,g⟩;have b:Below B w1 m:=a.trans (g.mono (by have:=a.size;omega));dsimp only));exact J _ (by exact⟨Z,Z,Z⟩) _ (l.1 HR.o) b
  ·have HR:=t.trans u;obtain⟨h,h'⟩:=h;have HR:=MS HR;go_wp2_with(first|(go_at_call 27;refine(jN d bl _ _ Z (by simp)).mono ?_;rintro e m ⟨rfl,g⟩;have b:Below B w1 m:=a.trans (g.mono (by have:=a.size;omega));dsimp only));exact J _ (by exact⟨Z,Z,Z⟩) _ (l.1 HR.o) b
  ·have HR:=t.trans u;obtain⟨h,h',ai⟩:=h;have HR:=MS HR;go_wp2_with(first|(go_at_call 27;refine(jN d bl _ _ Z (by simp)).mono ?_;rintro e m ⟨rfl,g⟩;have b:Below B w1 m:=a.trans (g.mono (by have:=a.size;omega));dsimp only));exact J _ (by exact⟨Z,Z,Z⟩) _ (l.1 HR.o) b
  ·obtain⟨i0,hi,ad,ae,af⟩:=info_parts Tryz.infoTh;have HR:=MS (t.trans u);have HM:=MS (H.mem.keep (w':=w2) fun j q=>B2.block j q);go_wp2_with(first
    |(go_at_call 27;refine(jN d bl _ _ Z (by simp)).mono ?_;rintro e m ⟨rfl,g⟩;have b:Below B w1 m:=a.trans (g.mono (by have:=a.size;omega));have i:=MS (HM.keep fun j q=>g.block j q);have V:B<=T (A m):=(by have:=g.size;have:=B2.size;omega);dsimp only)
    |(at_builtin;refine wpList_append_lies _ Z (.tmp 71) (.tmp 76) 33 Z B 50 i0 (.agg #[M L 0,Y I 0 0,M L 0]) 3 40 underlying33 hi ad ae af Z (by decide) _ _ _ Z (i.th.alloc _) ⟨T (A m),0,I⟩ 1 1 [M L (inn d.toList bl),Y I 0 0,M L ((k:Int)+1)] Z Z ?c1 ?c2 (by decide) ?c3 ?c4 ?c5 _ Z ?_))
   case c2=>simp[xh]
   case c3=>unfold maxLen;omega
   case c4=>omega
   case c5=>omega
   intro g1 ag w4 z f ak ah;have aa:=RdM.j (by rw[v]at i;exact i.o) (fun j q=>x2 _ _ _ q) (by simp) z f;have W:Below B w1 w4:=x4 (b.alloc V _) f (by simp;omega) fun j q=>(i.th.lt j q).1;go_wp2_with fail;exact hN _ _ _ (tvs++[Y I 0 0]) ovs G _ (by exact⟨Z,Z,Z⟩) _ HR.o (by dsimp only;rw[v];exact aa) W
 ·have HR:R.step s ((k:Int)+1) c r=I:=by
   rw[t.o];unfold R.eG
   split
   ·simp at hl
   ·rfl
  have an:((nw:Int)==2)=U:=by simp;omega
  go_wp2_with fail;exact J _ (by exact⟨Z,Z,Z⟩) _ (l.1 HR) a
def Tl{wr:World}{rows:List ByteArray}{x c:ByteArray}(C:RdC w1 wr B rows n k s ta oa tc oc tvs ovs G gw nw capw x c r w2)(b:(c.toList==[116,104,114,101,97,100])=U)(v:Act->World->Prop)(g:Exit->Act->World->Prop)(d:Act)(a:Fr d (qY gr n capr k gw nw capw tc oc ta oa s c))(hE:IG w1 B rows n k g)(hK:MT (∀(f m i:Nat) (u:World) (d:Act),Fr d (sO gr n capr k f m i gw nw capw tc oc oa s c)->ta=E ⟨f,0,I⟩->S s.ts=m+1->OG u i z0 (Y I 0 0)->Below (T (A w2)) w2 u->T (A w2)<=i->NG prog [aO (bC (aO (bN f10) 2)) 8,aO (bC (aO (bN f10) 2)) 9,aO (bC (aO (bN f10) 2)) 10,aO (bC (aO (bN f10) 2)) 11] (xW 1 (Exit.then v g)) d u)):
  NG prog [aO (bC (aO (bN f10) 2)) 2,aO (bC (aO (bN f10) 2)) 3,aO (bC (aO (bN f10) 2)) 4,aO (bC (aO (bN f10) 2)) 5,aO (bC (aO (bN f10) 2)) 6,aO (bC (aO (bN f10) 2)) 7,aO (bC (aO (bN f10) 2)) 8,aO (bC (aO (bN f10) 2)) 9,aO (bC (aO (bN f10) 2)) 10,aO (bC (aO (bN f10) 2)) 11] (xW 1 (Exit.then v g)) d w2:=by
 rw[OQ a.sz a.df];have y:=a.at_;simp only[qY,xF,xR,List.cons.injEq,and_true]at y;simp only[x1,List.range.loop,xF,xR,y];generalize gA d=fA;obtain⟨hB,ah,q1,q2,q3,q4,q5,q6,l⟩:=C.IU;have V:=C.hs b;obtain⟨H,p,hn,hr,aa,hx,hc,hw,ag,ac,af,ad,J⟩:=C;have t:=H.step p hr hx hc;obtain⟨d0,_,aj⟩:=hw.head;by_cases hts:s.ts=[]
 ·have ai:(S s.ts:Int)=0:=by simp[hts]
  rw[b]
  try dsimp only
  iterate 2
   refine nH fun K e=>?_
   conv=>arg 2;whnf
   go_wp2_with fail;refine e.o _ _ ?_
  refine nH fun K e=>?_
  conv=>arg 2;whnf
  go_wp2_with fail;exact hE _ (by exact⟨Z,Z,Z⟩) _ (t.1 (by rw[V.o,hts];rfl)) l
 have q:RdM w2 B (Y ta (S s.ts) tc) (Y oa (S s.O) oc) s.ts s.O tvs ovs G:=H.mem.keep fun j hj=>J.block j hj;obtain⟨m,F⟩:∃m,S s.ts=m+1:=⟨S s.ts-1,by have:=List.length_pos_iff.2 hts;omega⟩;obtain⟨f,X,z,_,ab⟩:=q.th.form (by omega);simp only[Value.slice.injEq,true_and]at z;obtain⟨rfl,rfl⟩:=z;have ae:(m:Int)<(m:Int)+1:=by omega
 have W:=MS (OG.new w2 z0 (Y I 0 0));rw[b,F]
 try dsimp only
 iterate 6
  refine nH fun K e=>?_
  conv=>arg 2;whnf
  go_wp2_with fail;refine e.o _ _ ?_
 exact hK.o f m (T (A w2)) _ _ (by exact⟨Z,Z,Z⟩) Z F W.o ((x5 _ _).alloc (Nat.le_refl _) _) (Nat.le_refl _)
def R.Tm(s:St)(k:Int)(c:ByteArray)(r:List ByteArray):R.bW s k c r=I/\(decide (s.count+1<=8)=U\/decide (s.count+1<=8)=true/\(fD c r).2=U)\/∃i,R.bW s k c r=E (R.put {s with count:=s.count+1,inner:=i} (.mk (fD c r).1 []))/\decide (s.count+1<=8)=true/\(fD c r).2=true/\(((fD c r).1.op.toList==[98,97,114,114,105,101,114])=U/\i=s.inner\/((fD c r).1.op.toList==[98,97,114,114,105,101,114])=true/\(¬(0:Int)<(S s.O:Int)/\i=s.inner\/(0:Int)<(S s.O:Int)/\((s.inner==0)=U/\i=s.inner\/(s.inner==0)=true/\i=k))):=by
 unfold R.bW;by_cases h:s.count<8
 ·cases hf:(fD c r).2
  ·exact .inl ⟨by simp,.inr ⟨by simp;omega,Z⟩⟩
  ·refine .inr ⟨_,if_pos (by simp[h]),by simp;omega,Z,?_⟩
   cases hb:(fD c r).1.op.toList==[98,97,114,114,105,101,114]
   ·exact .inl ⟨Z,by simp[isB,jE,bQ,hb]⟩
   ·refine .inr ⟨Z,?_⟩
    rcases e:s.O with _|⟨a,b⟩
    ·exact .inl ⟨by simp,by simp⟩
    ·refine .inr ⟨by simp,?_⟩
     cases hi:s.inner==0
     ·exact .inl ⟨Z,by simp⟩
     ·exact .inr ⟨Z,by simp[isB,jE,bQ,hb]⟩
 ·exact .inl ⟨by simp[h],.inl (by simp;omega)⟩
def Tn{wr:World}{rows:List ByteArray}{x c:ByteArray}{bt m gx:Nat}{w3:World}(C:RdC w1 wr B rows n k s (E ⟨bt,0,I⟩) oa tc oc tvs ovs G gw nw capw x c r w2)(bf:(c.toList==[116,104,114,101,97,100])=U)(hm:S s.ts=m+1)(hX:MT (OG w3 gx z0 (Y I 0 0)))(B3:Below (T (A w2)) w2 w3)(bD:T (A w2)<=gx)(K0:Act->World->Prop)(Q0:Exit->Act->World->Prop)(fa:Act)(ak:Fr fa (sO gr n capr k bt m gx gw nw capw tc oc oa s c))(hE:IG w1 B rows n k Q0)(hN:AB w1 B n k gr capr s c r K0)(aw:RdD w1 B n k gr capr s tc tvs c r bt m gx (xW 1 (Exit.then K0 Q0))):
  NG prog [aO (bC (aO (bN f10) 2)) 8,aO (bC (aO (bN f10) 2)) 9,aO (bC (aO (bN f10) 2)) 10,aO (bC (aO (bN f10) 2)) 11] (xW 1 (Exit.then K0 Q0)) fa w3:=by
 rw[OQ ak.sz ak.df];have fh:=ak.at_;simp only[sO,xF,xR,List.cons.injEq,and_true]at fh;simp only[x1,List.range.loop,xF,xR,fh];generalize gA fa=fA;clear ak fh;obtain⟨hB,aL,q1,q2,q3,q4,q5,q6,av⟩:=C.IU;have HS:=C.hs bf;obtain⟨H,bd,hn,hr,aF,hx,hc,hw,aA,aZ,bE,bB,B2⟩:=C;have J:=H.step bd hr hx hc;have bg:s.ts.isEmpty=U:=by
  cases e:s.ts with
  |nil=>rw[e]at hm;simp at hm
  |cons a b=>rfl
 have d:Below B w1 w3:=av.trans (B3.mono (by have:=av.size;omega));have aM:NQ w3 gw 0 (c::r):=hw.X B3;have bs:gw<T (A w3):=by have:=B3.size;omega
 obtain⟨bw,_,aN⟩:=aM.head;have bL:=hX.lt;have am:=H.mem.keep (w':=w2) fun j y=>B2.block j y;rw[hm]at am;have aD:=MS am;have HM:=MS (am.keep (w':=w3) fun j y=>B3.block j y);have aE:B<=gx:=by have:=av.size;omega
 clear am;rw[bg]at HS;refine nH fun K HK=>?_
 cases hen:c.toList==[101,110,100]
 ·rw[hen]at HS
  cases hif:c.toList==[105,102]
  ·rw[hif]at HS;have p:MT (R.step s ((k:Int)+1) c r=R.bW s ((k:Int)+1) c r):=HS;have aR:MT (∀V:World,Below (T (A w3)) w3 V->Calls prog 18 #[MU gw nw capw] V fun e w'=>e=.returned (.tuple #[.agg #[D (fD c r).1.op,M L (fD c r).1.MW,M L (fD c r).1.z,M L (fD c r).1.a,M L (fD c r).1.b,D (fD c r).1.sign,D (fD c r).1.ord,D (fD c r).1.scope,Y I 0 0],.bool (fD c r).2])/\Below (T (A V)) V w'):=fun V q =>
    Np gw 0 nw capw c r V (aM.X q) (by simpa using aA) aZ (by have:=q.size;omega)
   clear hc HS
   rcases Tm s ((k:Int)+1) c r with⟨h0,ac|⟨ac,al⟩⟩|⟨i,h0,ac,al,⟨ba,rfl⟩|⟨ba,⟨bc,rfl⟩|⟨bc,⟨bb,rfl⟩|⟨bb,rfl⟩⟩⟩⟩
   all_goals
    have HR:=MS (p.trans h0);clear h0
    try dsimp only
    conv=>arg 2;whnf
    go_wp2_with(first
     |(go_at_call 18;refine(aR.o _ (x5 _ _)).mono ?_;rintro e V ⟨rfl,q⟩;have au:=MS (hX.X q);have aG:=q.size;dsimp only)
     |(refine wI (.tmp 22) Z Z (T (A V)) (fD c r).1 (Y I 0 0) Z (by exact OG.new V (fD c r).1 (Y I 0 0)) ?_)
     |(refine uG (.tmp 16) (.tmp 164) Z Z gx z0 (fD c r).1 (Y I 0 0) (Y I 0 0) Z Z Z (by exact au.alloc _) ?_;intro w5 ai aH;have aT:=MS ai;obtain⟨_,_,l0⟩:=ai.fs;have G5:=MS aH;clear ai aH))
    have W:Below B w1 w5:=by
     subst aF;exact kS ((d.trans (q.mono (by have:=d.size;omega))).alloc (by have:=d.size;omega) _) G5.o aE
    first
     |exact hE _ (by exact⟨Z,Z,Z⟩) _ (J.1 HR.o) W
     |(have aj:∀j,j<T (A w2)->w5.heap[j]?=w2.heap[j]?:=fun j y=>(by
       have:=B3.size;rw[G5.block j (by simp;omega) (by simp;omega),x2 _ _ _ (by omega),q.block j (by omega),B3.block j y])
       exact HK.o _ _ (aw {s with count:=s.count+1,inner:=_} (fD c r).1 [] (Y I 0 0) _ _ ovs G [] _ _ (by exact⟨Z,Z,Z⟩) (aD.keep aj) Z aT.o (NZ.nil _ _) (by simp) HR.o (JA aL HR.o) W))
  ·rw[hif]at HS;have p:MT (R.step s ((k:Int)+1) c r=R.branch s r):=HS;clear HS HK aw;by_cases hrr:S r=1
   ·obtain⟨a,rfl⟩:=List.length_eq_one_iff.1 hrr;obtain⟨i0,hi,bk,bl,bm⟩:=info_parts Tryz.infoFr;obtain⟨bx,_,_⟩:=aN.head;have aJ:nw=2:=by simpa using aA.symm
    subst aJ;have br:B<=T (A w3):=by have:=d.size;omega
    clear hc;by_cases hcc:s.count<8
    ·have ac:decide (s.count+1<=8)=true:=by simp;omega
     by_cases hoo:S s.O<2
     ·have be:(S s.O:Int)<2:=by omega
      cases al:(bG a.toList).2
      all_goals
       try dsimp only
       conv=>arg 2;whnf
       go_wp2_with(first
        |(go_at_call 16;refine(uJ a _).mono ?_;rintro e V ⟨rfl,q⟩;have aG:=q.size;have ar:=MS (HM.keep fun j y=>q.block j y);have aV:Below B w1 V:=d.trans (q.mono (by have:=d.size;omega));dsimp only)
        |(at_builtin;refine wpList_append_lies _ Z (.tmp 148) (.tmp 152) 47 Z B 54 i0 (.agg (#[Y I 0 0]++cI z0 (Y I 0 0))) 10 144 underlying47 hi bk bl bm Z (by decide) _ _ _ Z (ar.fr.alloc _) ⟨T (A V),0,I⟩ 1 1 (rS (bG a.toList).1 (Y I 0 0)) Z Z (x7 (cs:=(rS (bG a.toList).1 (Y I 0 0)).toArray) (t:=54) (fr:=(0,0)) (heap_alloc_new V _)) (by simp[rS,cI,xh]) (by decide) (by unfold maxLen;omega) (by omega) (by simp;omega) _ Z ?_))
       intro g1 bq w5 ao ab aW bu;have aP:=MS (RdM.branch ar.o (fun j y=>x2 _ _ _ y) (by simp) ao ab);have W:Below B w1 w5:=x4 (aV.alloc (by omega) _) ab (by simp;omega) fun j y=>(ar.fr.lt j y).1;clear ao ab aW;go_wp2_with fail
       first
        |exact hE _ (by exact⟨Z,Z,Z⟩) _ (J.1 (p.trans (by simp[R.branch,al]))) W
        |exact hN {s with count:=s.count+1,O:=s.O++[⟨[],(bG a.toList).1⟩]} _ _ tvs (ovs++[Y I 0 0]) G _ (by exact⟨Z,Z,Z⟩) _ (p.trans (by simp[R.branch,al,hcc,hoo])) aP.o W
     ·have be:¬(S s.O:Int)<2:=by omega
      try dsimp only
      conv=>arg 2;whnf
      go_wp2_with fail;exact hE _ (by exact⟨Z,Z,Z⟩) _ (J.1 (p.trans (by simp[R.branch,show ¬S s.O<2 from hoo]))) d
    ·have ac:decide (s.count+1<=8)=U:=by simp;omega
     try dsimp only
     conv=>arg 2;whnf
     go_wp2_with fail;exact hE _ (by exact⟨Z,Z,Z⟩) _ (J.1 (p.trans (by simp[R.branch,show decide (s.count<8)=U by simpa using hcc]))) d
   ·have bH:((nw:Int)==2)=U:=by simp;omega
    have h0:R.branch s r=I:=by
     unfold R.branch
     split
     ·simp at hrr
     ·rfl
    clear hc;by_cases hcc:s.count<8
    ·have ac:decide (s.count+1<=8)=true:=by simp;omega
     try dsimp only
     conv=>arg 2;whnf
     go_wp2_with fail;exact hE _ (by exact⟨Z,Z,Z⟩) _ (J.1 (p.trans (by exact h0))) d
    ·have ac:decide (s.count+1<=8)=U:=by simp;omega
     try dsimp only
     conv=>arg 2;whnf
     go_wp2_with fail;exact hE _ (by exact⟨Z,Z,Z⟩) _ (J.1 (p.trans (by exact h0))) d
 ·rw[hen]at HS;have p:MT (R.step s ((k:Int)+1) c r=R.fC s r):=HS;clear HS hN;by_cases ho:s.O=[]
  ·have aB:(S s.O:Int)=0:=by simp[ho]
   try dsimp only
   conv=>arg 2;whnf
   go_wp2_with fail;exact hE _ (by exact⟨Z,Z,Z⟩) _ (J.1 (p.trans (by simp[R.fC,ho]))) d
  ·obtain⟨fs,f,ae⟩:=nC s.O ho;have aB:S s.O=S fs+1:=by rw[ae];simp
   by_cases hr1:r=[]
   ·subst hr1;have ah:=HM.lo;obtain⟨aq,u,rfl⟩:=nC ovs (by intro e;rw[e,ae]at ah;simp at ah);have az:S aq=S fs:=by rw[ae]at ah;simpa using ah
    have ad:=HM.fr;rw[aB]at ad;obtain⟨bo,bv,he,bz,ax⟩:=ad.form (by omega);simp only[Value.slice.injEq,true_and]at he;obtain⟨rfl,rfl⟩:=he;have aa:∀j,j<10->w3.cell? ⟨bo,S fs*10+j,I⟩=(rS f.a u)[j]?:=fun j y=>by
     rw[ad.cellAt _ (by omega),ae,AQ _ _ _ _ az,x8 (by rw[uR _ _ az];omega),uR _ _ az,show S fs*10+j-S fs*10=j by omega];simp[RC]
    have aK:w3.rangeAt bo (S fs*10+1) (cI (fI f.a) (Y I 0 0)).toList:=by
     intro j v hv;have y:j<9:=(List.getElem?_eq_some_iff.1 hv).1;have:=aa (1+j) (by omega);rw[show S fs*10+1+j=S fs*10+(1+j)by omega,this,Nat.add_comm 1 j];simpa[rS]using hv
    have bh:w3.cell? ⟨bo,S fs*10,I⟩=E u:=by
     have:=aa 0 (by omega);simpa[rS]using this
    obtain⟨bn,af⟩:=gQ ad (k:=bo) Z;have aX:bo≠gx:=fun e=>by
     subst e;have:=hX.o;unfold OG at this;rw[this]at af;simp at af
    obtain⟨Ga,F,ap,ag,an⟩:=RdM.IX (n:=S fs) (by have:=aD.o;rw[ae]at this;simpa using this) Z;have aY:S fs+1<=oc:=by
     rcases ad.2 with⟨h',_⟩|⟨g',bp,aU,h',_,_,bF,_⟩
     ·simp at h'
     ·simp only[Value.slice.injEq]at h';omega
    have bi:∃a c,u=Y a (S f.l) c:=by
     obtain⟨bM,bj⟩:=ag.uO
     rcases bj.2 with⟨e,h0⟩|⟨k,c,aU,e,_⟩
     ·exact⟨I,0,by rw[e,h0]⟩
     ·exact⟨_,c,e⟩
    obtain⟨ua,uc,rfl⟩:=bi;have h3:decide ((S fs:Int)<0)=U:=by simp
    have aI:nw=1:=by simpa using aA.symm
    have HR:MT (R.step s ((k:Int)+1) c []=E (R.put {s with O:=fs} (.mk (fI f.a) f.l))):=p.trans (by simp[R.fC,ae]);have aS:=MS (JA aL HR.o);have HP:=MS ap;have HL:=MS ag;have HD:=MS an;have aQ:=MS aK;clear ap ag an aK aa ad HM ah ho;subst aI;rw[aB]
    try dsimp only
    conv=>arg 2;whnf
    go_wp2_with(first
     |(refine Ti (.tmp 109) Z Z bo (S fs*10+1) (fI f.a) (Y I 0 0) Z aQ.o ?_)
     |(refine uG (.tmp 16) (.tmp 110) Z Z gx z0 (fI f.a) (Y I 0 0) (Y I 0 0) Z Z Z hX.o ?_;intro V aC ay;have au:=MS aC;have bJ:=(xa (w:=w3) (a:=⟨bo,S fs*10,I⟩) (ay.block bo ax (by simpa using aX))).trans bh;obtain⟨_,bA,bK⟩:=aC.fs;have G4:=MS ay;clear ay aC))
    refine HK.o _ _ ?_;clear HK;have ai:=au.rY (Y ua (S f.l) uc);have G5:=dG G4.o 8 (Y ua (S f.l) uc);have aj:∀j,j<T (A w2)->(V.setCell ⟨gx,8,I⟩ (Y ua (S f.l) uc)).heap[j]?=w2.heap[j]?:=fun j y=>by
     rw[G5.block j (by have:=B3.size;omega) (by simp;omega),B3.block j y]
    have W:Below B w1 (V.setCell ⟨gx,8,I⟩ (Y ua (S f.l) uc)):=by
     subst aF;exact kS d G5 aE
    exact aw {s with O:=fs} (fI f.a) f.l _ _ _ aq Ga F _ _ (by exact⟨Z,Z,Z⟩) (HP.keep aj) Z ai (HL.keep fun j y=>aj j (HL.fV j y).2) HD.o HR.o aS.o W
   ·have bI:0<S r:=List.length_pos_iff.2 hr1;have h2:(1:Int)<(nw:Int):=by omega
    try dsimp only
    conv=>arg 2;whnf
    go_wp2_with fail;exact hE _ (by exact⟨Z,Z,Z⟩) _ (J.1 (p.trans (by unfold R.fC;cases r with|nil=>exact absurd Z hr1|cons a b=>split<;>simp))) d
def Tp(w1:World)(B:Nat)(rows:List ByteArray)(n k gr capr:Nat)(s:St)(tc:Nat)(tvs:List Value)(c:ByteArray)(r:List ByteArray)(q:St)(l:Lh)(b:List Tree)(y:Value)(ae:Option Addr)(af:Nat)(ac:List Value)(G2 F:List Nat)(p m gx:Nat)(i:World)(hm:S s.ts=m+1)(HM:MT (RdM i B (MU p (m+1) tc) (Y ae (S q.O) af) s.ts q.O tvs ac G2))(ao:q.ts=s.ts)(hX:MT (OG i gx l y))(HL:MT (NZ i B y b F))(HD:MT (∀j∈F,j∉G2))(HR:MT (R.step s ((k:Int)+1) c r=E (R.put q (.mk l b))))(av:SzS (R.put q (.mk l b)))(aj:Below B w1 i)(aH:T (A w1)=B)(ho:q.O=[])(v:List R.Th)(t:R.Th)(X:s.ts=v++[t])(ag:List Value)(u:Value)(aC:tvs=ag++[u])(K0:Act->World->Prop)(PP K9:Act->World->Prop)(RR:Ending->World->Prop)(fa:Act)(J:Fr fa (qD gr n capr k p m gx tc af ae q))(hN:AB w1 B n k gr capr s c r K0):
  NG prog [(aO (bC (aO (bN f10) 2)) 9),(aO (bC (aO (bN f10) 2)) 10),(aO (bC (aO (bN f10) 2)) 11)] (xW 1 (Exit.then K0 (Exit.then PP (xW 0 (Exit.then K9 (bodyPost prog f10 RR)))))) fa i:=by
 rw[OQ J.sz J.df];have fh:=J.at_;simp only[qD,xF,xR,List.cons.injEq,and_true]at fh;simp only[x1,List.range.loop,xF,xR,fh];generalize gA fa=fA;clear J fh;obtain⟨i0,hi,aD,aE,aF⟩:=info_parts Tryz.infoLn;have hB:B<=T (A i):=by have:=aj.size;omega
 have aK:=hX.lt;have az:m=S v:=by rw[X]at hm;simp at hm;omega
 subst az;subst aC;have f:=HM.o;rw[X,ho]at f;have ad:S ag=S v:=by simpa using f.lt
 have g:=f.th;simp only[xb,xc,xd,xe]at g;have al:=(g.lt p Z).2;have ay:i.cell? ⟨p,S v*3+1,I⟩=E u:=by
  rw[g.cellAt _ (by omega),LA _ _ _ _ ad,x8 (by rw[EN _ _ ad];omega),EN _ _ ad,show(S v)*3+1-S v*3=1 by omega];rfl
 have V:=f.kids;simp only[xi,xj,xF,xR]at V;have aB:ac=[]:=List.length_eq_zero_iff.1 f.lo;subst aB;rw[xi]at V;obtain⟨_,Fu,_,_,ap,_⟩:=OV.last V;obtain⟨xs,H⟩:=ap.uO;have aq:∃a cc,u=Y a (S t.body) cc:=by
  rcases H.2 with⟨e,h0⟩|⟨j,cc,aw,e,_⟩
  ·exact⟨I,0,by rw[e,h0]⟩
  ·exact⟨_,cc,e⟩
 obtain⟨ua,uc,rfl⟩:=aq;have aJ:OA t.body<=8:=by
  have h8:=av.all;simp only[R.put,ho,xk,if_true]at h8;rw[ao,X,xC]at h8;have h9:=h8 _ (List.mem_append_right _ (List.mem_singleton.2 Z));simp only[]at h9;rw[AV]at h9;have:=yZ b;omega
 have ah:=MS H;have aa:=MS f;have HO:MT ((i.drew.alloc (N (cI l y) 52)).ownsRow B 52 9 (Y ua (S t.body) uc) (S t.body) xs):=(H.drew).alloc _;have au:MT (∀j u,(cI l y).toList[j]?=E u->(i.drew.alloc (N (cI l y) 52)).cell? ((⟨T (A i),0,I⟩:Addr).add j)=E u):=x7 (t:=52) (fr:=(0,0)) (by have:=heap_alloc_new i.drew (N (cI l y) 52);simpa using this);have eb:(i.drew.alloc (N (cI l y) 52)).heap[p]?=i.heap[p]?:=x2 _ _ _ al;have HC:MT ((i.drew.alloc (N (cI l y) 52)).cell? ⟨p,S v*3+1,I⟩=E (Y ua (S t.body) uc)):=(xa (w:=i) (a:=⟨p,S v*3+1,I⟩) eb).trans ay;have HF:MT ((i.drew.alloc (N (cI l y) 52)).frozen? ⟨p,S v*3+1,I⟩=U):=(xm (w:=i) (a:=⟨p,S v*3+1,I⟩) eb).trans (g.frozenAt (S v*3+1));obtain⟨aw,ab⟩:=gQ g (k:=p) Z;have an:E p≠(Value.slice ua (S t.body) uc).ownBlock:=Ne.symm (pE H ab (by decide));obtain⟨_,_,l0⟩:=hX.fs;have aI:S t.body<10000:=by
  have:=DN t.body;omega
 clear eb ab H g;have aA:S q.O=0:=by simp[ho]
 clear f V ap;rw[aA]
 try dsimp only
 iterate 2
  refine nH (fun K HK=>?_)
  conv=>arg 2;whnf
  go_wp2_with fail;refine HK.o _ _ ?_
 refine nH (fun K hK=>?_);have HK:MT (∀a w,K0 a w->K a w):=fun a w h=>hK.o a w h
 clear hK
 conv=>arg 2;whnf
 go_wp2_with fail;go_region_law(refine step_append_lies _ Z (.tmp 208) (.tmp 210) 48 Z B 52 i0 (.agg (cI z0 (Y I 0 0))) 9 120 underlying48 hi aD aE aF Z (by decide) (Y ua (S t.body) uc) (S t.body) xs (by simp[x6]) (by exact HO.o) ⟨T (A i),0,I⟩ 1 1 (cI l y).toList (by simp[x6]) Z (by exact au.o) (by exact Bm l y HL.bW) (by decide) (by unfold maxLen;omega) (by omega) (by simp;omega) (T (A i)+1) (by simp) ?_;intro g1 ai w5 C d ak aG;have c1:=(d.cell_far ⟨p,S v*3+1,I⟩ (by simp;omega) an).trans HC.o;have f1:=(d.frozen_far ⟨p,S v*3+1,I⟩ (by simp;omega) an).trans HF.o)
 all_goals
  obtain⟨G3,am⟩:=(RdM.FF (x:=l) (W0:=i.drew.alloc (N (cI l y) 52)) aa.o Z HL.o HD.o (fun j hj=>x2 _ _ _ hj) (by simp) ah.o C d (by rcases ak with ha|ha;exact .inl ha.symm;exact .inr (fun j hj=>by simp[xn]at hj;omega)));have ar:=MS am;have ax:Below B w1 w5:=x4 ((aj.drew).alloc hB _) d (by simp;omega) (fun j hj=>(ah.lt j hj).1);clear am C d ak;go_wp2_with fail;refine HK.o _ _ ?_;have W:(R.put q (.mk l b)).ts=v++[{t with body:=t.body++[.mk l b]}]/\(R.put q (.mk l b)).O=[]/\(R.put q (.mk l b)).count=q.count/\(R.put q (.mk l b)).inner=q.inner:=by
   simp only[R.put,ho,xk,if_true];rw[ao,X,xC];refine⟨?_,?_,?_,?_⟩<;>first|rfl|trivial
  have z:=hN (R.put q (.mk l b)) (MU p (S v+1) tc) (Y ae 0 af) (ag++[MU g1 (S t.body+1) ai]) [] G3;unfold sZ at z;rw[W.1,W.2.1,W.2.2.1,W.2.2.2]at z;exact z _ (by exact⟨Z,Z,Z⟩) _ HR.o (by simpa[ho]using ar.o) (ax.setCell ((aa.th.lt p Z).1) _)
def Tq(w1:World)(B:Nat)(rows:List ByteArray)(n k gr capr:Nat)(s:St)(tc:Nat)(tvs:List Value)(c:ByteArray)(r:List ByteArray)(v:St)(i:Lh)(b:List Tree)(y:Value)(ao:Option Addr)(ae:Nat)(W:List Value)(G2 F:List Nat)(bt m gx:Nat)(g:World)(hm:S s.ts=m+1)(HM:MT (RdM g B (MU bt (m+1) tc) (Y ao (S v.O) ae) s.ts v.O tvs W G2))(aA:v.ts=s.ts)(hX:MT (OG g gx i y))(HL:MT (NZ g B y b F))(HD:MT (∀j∈F,j∉G2))(HR:MT (R.step s ((k:Int)+1) c r=E (R.put v (.mk i b))))(X:SzS (R.put v (.mk i b)))(ai:Below B w1 g)(aJ:T (A w1)=B)(fs:List R.Fr)(f:R.Fr)(ho:v.O=fs++[f])(H:List Value)(u:Value)(aC:W=H++[u])(K0:Act->World->Prop)(PP K9:Act->World->Prop)(RR:Ending->World->Prop)(fa:Act)(aa:Fr fa (qD gr n capr k bt m gx tc ae ao v))(hN:AB w1 B n k gr capr s c r K0):
  NG prog [(aO (bC (aO (bN f10) 2)) 9),(aO (bC (aO (bN f10) 2)) 10),(aO (bC (aO (bN f10) 2)) 11)] (xW 1 (Exit.then K0 (Exit.then PP (xW 0 (Exit.then K9 (bodyPost prog f10 RR)))))) fa g:=by
 rw[OQ aa.sz aa.df];have fh:=aa.at_;simp only[qD,xF,xR,List.cons.injEq,and_true]at fh;simp only[x1,List.range.loop,xF,xR,fh];generalize gA fa=fA;obtain⟨i0,hi,aD,aE,aF⟩:=info_parts Tryz.infoLn;have hB:B<=T (A g):=by have:=ai.size;omega
 subst aC;have az:S v.O=S fs+1:=by rw[ho];simp
 have d:=HM.o;rw[ho]at d;simp only[xb,xc,xd,xe]at d;have ac:S H=S fs:=by simpa using d.lo
 have q:=d.fr;simp only[xb,xc,xd,xe]at q;obtain⟨bo,aI,he,ak,aj⟩:=q.form (by omega);simp only[Value.slice.injEq,true_and]at he;obtain⟨rfl,rfl⟩:=he;have aw:g.cell? ⟨bo,S fs*10,I⟩=E u:=by
  rw[q.cellAt _ (by omega),AQ _ _ _ _ ac,x8 (by rw[uR _ _ ac];omega),uR _ _ ac,show(S fs)*10-S fs*10=0 by omega];rfl
 have ax:=q.frozenAt (S fs*10);have ab:=d.kids;rw[xj,<- xo,<- xo]at ab;simp only[xF,xR]at ab;obtain⟨_,Fu,_,_,aB,_⟩:=OV.last ab;obtain⟨xs,V⟩:=aB.uO;have an:∃a cc,u=Y a (S f.l) cc:=by
  rcases V.2 with⟨e,h0⟩|⟨j,cc,ar,e,_⟩
  ·exact⟨I,0,by rw[e,h0]⟩
  ·exact⟨_,cc,e⟩
 obtain⟨ua,uc,rfl⟩:=an;have C:v.O.isEmpty=U:=by rw[ho];cases fs<;>rfl
 have aM:OA f.l<=8:=by
  have h8:=X.sum;have h9:=X.NA;simp only[R.put,C,xg,if_false]at h8 h9;rw[ho,wU,AK,AV]at h8;have:=yZ b;have:=KC fs;have:=GQ v.ts;omega
 have aK:S fs<10:=by
  have h8:=X.nop;simp only[R.put,C,xg,if_false]at h8;rw[ho,wU]at h8;simp at h8;omega
 have ag:=MS V;have af:=MS d;have HO:MT ((g.drew.alloc (N (cI i y) 52)).ownsRow B 52 9 (Y ua (S f.l) uc) (S f.l) xs):=(V.drew).alloc _;have aq:MT (∀j u,(cI i y).toList[j]?=E u->(g.drew.alloc (N (cI i y) 52)).cell? ((⟨T (A g),0,I⟩:Addr).add j)=E u):=x7 (t:=52) (fr:=(0,0)) (by have:=heap_alloc_new g.drew (N (cI i y) 52);simpa using this);have eb:(g.drew.alloc (N (cI i y) 52)).heap[bo]?=g.heap[bo]?:=x2 _ _ _ aj;have HC:MT ((g.drew.alloc (N (cI i y) 52)).cell? ⟨bo,S fs*10,I⟩=E (Y ua (S f.l) uc)):=(xa (w:=g) (a:=⟨bo,S fs*10,I⟩) eb).trans aw;have HF:MT ((g.drew.alloc (N (cI i y) 52)).frozen? ⟨bo,S fs*10,I⟩=U):=(xm (w:=g) (a:=⟨bo,S fs*10,I⟩) eb).trans ax;obtain⟨ar,al⟩:=gQ q (k:=bo) Z;have am:E bo≠(Value.slice ua (S f.l) uc).ownBlock:=Ne.symm (pE V al (by decide));obtain⟨_,_,l0⟩:=hX.fs;have aL:S f.l<10000:=by
  have:=DN f.l;omega
 rw[az];have aH:(S fs:Int)<(S fs:Int)+1:=by omega
 try dsimp only
 iterate 2
  refine nH (fun K HK=>?_)
  conv=>arg 2;whnf
  go_wp2_with fail;refine HK.o _ _ ?_
 refine nH (fun K hK=>?_);have HK:MT (∀a w,K0 a w->K a w):=fun a w h=>hK.o a w h
 conv=>arg 2;whnf
 go_wp2_with fail;go_region_law(refine step_append_lies _ Z (.tmp 196) (.tmp 198) 48 Z B 52 i0 (.agg (cI z0 (Y I 0 0))) 9 120 underlying48 hi aD aE aF Z (by decide) (Y ua (S f.l) uc) (S f.l) xs (by simp[x6]) (by exact HO.o) ⟨T (A g),0,I⟩ 1 1 (cI i y).toList (by simp[x6]) Z (by exact aq.o) (by exact Bm i y HL.bW) (by decide) (by unfold maxLen;omega) (by omega) (by simp;omega) (T (A g)+1) (by simp) ?_;intro g1 ah w5 ad p au aG;have c1:=(p.cell_far ⟨bo,S fs*10,I⟩ (by simp;omega) am).trans HC.o;have f1:=(p.frozen_far ⟨bo,S fs*10,I⟩ (by simp;omega) am).trans HF.o)
 all_goals
  obtain⟨G3,ay⟩:=(RdM.JE (x:=i) (W0:=g.drew.alloc (N (cI i y) 52)) af.o Z HL.o HD.o (fun j hj=>x2 _ _ _ hj) (by simp) ag.o ad p (by rcases au with ha|ha;exact .inl ha.symm;exact .inr (fun j hj=>by simp[xn]at hj;omega)));have ap:=MS ay;have av:Below B w1 w5:=x4 ((ai.drew).alloc hB _) p (by simp;omega) (fun j hj=>(ag.lt j hj).1);go_wp2_with fail;refine HK.o _ _ ?_;have J:(R.put v (.mk i b)).ts=s.ts/\(R.put v (.mk i b)).O=fs++[{f with l:=f.l++[.mk i b]}]/\(R.put v (.mk i b)).count=v.count/\(R.put v (.mk i b)).inner=v.inner:=by
   simp only[R.put,C,xg,if_false];rw[ho,wU];refine⟨?_,?_,?_,?_⟩<;>first|rfl|exact aA|trivial
  have z:=hN (R.put v (.mk i b)) (MU bt (m+1) tc) (MU bo (S fs+1) ae) tvs (H++[MU g1 (S f.l+1) ah]) G3;unfold sZ at z;rw[J.1,J.2.1,J.2.2.1,J.2.2.2]at z;exact z _ (by exact⟨Z,Z,Z⟩) _ HR.o ap.o (av.setCell ak _)
def Tr(n k:Nat)(i:World)(q:k<n)(u:n<10000)(gr capr:Nat)(d c j e:Value)(f:Act->World->Prop)(m:Exit->Act->World->Prop)(b:Act)(a:Fr b [(5,MU gr (n+1) capr),(6,M L (n:Int)),(7,d),(8,c),(9,j),(10,e),(11,M L (k:Int))])(p:MT (∀(b:Act) (a:Fr b [(5,MU gr (n+1) capr),(6,M L (n:Int)),(7,d),(8,c),(9,j),(10,e),(11,M L ((k:Int)+1))]),f b i)):NG prog [(aO (bN f10) 3)] (Exit.then f m) b i:=by
 rw[OQ a.sz a.df];have g:=a.at_;simp only[qH,xF,xR,List.cons.injEq,and_true]at g;simp only[x1,List.range.loop,xF,xR,g];generalize gA b=t
 try dsimp only
 refine nH (fun K l=>?_)
 conv=>arg 2;whnf
 go_wp2_with fail;refine l.o _ _ ?_;simp only[NG,Exit.then];exact p.o _ (by exact⟨Z,Z,Z⟩)
def Ts(w1 wr:World)(B:Nat)(rows:List ByteArray)(n k gr capr:Nat)(s:St)(ta oa:Option Addr)(tc oc:Nat)(tvs ovs:List Value)(G:List Nat)(H:MT (RSr w1 B rows n k s (Y ta (S s.ts) tc) (Y oa (S s.O) oc) tvs ovs G wr))(J:k<n)(hn:n<10000)(hr:S rows=n+1)(ae:MT (NQ w1 gr 0 rows))(an:gr<B)(z:T (A w1)=B)(V:MT (∀x∈rows,x.size<=8192))(PP K9:Act->World->Prop)(RR:Ending->World->Prop)(g:Act)(a:Fr g (qH gr n capr k tc oc ta oa s))(hP:MT (∀(v:St) (p l:Value) (j d:List Value) (W:List Nat) (g:Act) (a:Fr g [(5,MU gr (n+1) capr),(6,M L (n:Int)),(7,p),(8,l),(9,M L v.count),(10,M L v.inner),(11,M L ((k:Int)+1))]) (y:World),RSr w1 B rows n (k+1) v p l j d W y->PP g y))(hE:MT (∀(g:Act) (a:Fr g (sV k)) (y:World),run St.zero 0 ((rows.map x3).take n)=(I,(k:Int)+1)->Below B w1 y->(xW 0 (Exit.then K9 (bodyPost prog f10 RR))) .ret g y)):
  Code.wp prog (bN f10) (Exit.then PP (xW 0 (Exit.then K9 (bodyPost prog f10 RR)))) g wr:=by
 rw[OQ a.sz a.df];have fh:=a.at_;simp only[qH,xF,xR,List.cons.injEq,and_true]at fh;simp only[x1,List.range.loop,xF,xR,fh];generalize gA g=fA;have aw:(k:Int)<(n:Int):=by omega
 refine PW _ _ _ _ ?_;rw[Bj]
 try dsimp only
 refine nH (fun K HK=>?_)
 conv=>arg 2;whnf
 go_wp2_with fail;refine HK.o _ _ ?_;refine nH (fun K HK=>?_)
 conv=>arg 2;whnf
 go_wp2_with fail;refine HK.o _ _ ?_;refine nH (fun K0 ak=>?_);rw[Tb];refine wp_block (PW _ _ _ _ ?_);rw[Tc];refine Tg w1 wr B rows n k gr capr s ta oa tc oc tvs ovs G H J hn hr ae an z V _ _ (by exact⟨Z,Z,Z⟩) ?_;intro gw nw capw x c r w2 g a hx hc hw ar al aq ao B2;have C:RdC w1 wr B rows n k s ta oa tc oc tvs ovs G gw nw capw x c r w2:=⟨H,J,hn,hr,z,hx,hc,hw,ar,al,aq,ao,B2⟩;have hN:AB w1 B n k gr capr s c r K0 :=
  fun v p l j d W g a y h1 h2 h3=>ak.o _ _ (Tr n k y J hn gr capr p l _ _ PP _ g a (fun g a=>hP.o v p l j d W g a y ((H.step J hr hx hc).2 v h1 p l j d W y h2 h3)))
 cases hth:(c.toList==[116,104,114,101,97,100])
 ·refine Tl C hth K0 _ g a hE ?_;intro bt m gx y fb am au hm hX B3 ap;subst au;refine Tn C hth hm hX B3 ap K0 _ fb am hE hN ?_;intro v xl b bv ah ai d W F w4 g a i af ac hL hD hR ab aa;by_cases ho:v.O=[]
  ·obtain⟨us,t,ag⟩:=nC s.ts (by intro e;rw[e]at hm;simp at hm);have q:=i.lt;obtain⟨av,u,X⟩:=nC tvs (by intro e;rw[e,ag]at q;simp at q);exact Tp w1 B rows n k gr capr s tc tvs c r v xl b bv ah ai d W F bt m gx w4 hm i af ac hL hD hR ab aa z ho us t ag av u X K0 PP K9 RR g a hN
  ·obtain⟨fs,f,ad⟩:=nC v.O ho;have q:=i.lo;obtain⟨aj,u,X⟩:=nC d (by intro e;rw[e,ad]at q;simp at q);exact Tq w1 B rows n k gr capr s tc tvs c r v xl b bv ah ai d W F bt m gx w4 hm i af ac hL hD hR ab aa z fs f ad aj u X K0 PP K9 RR g a hN
 ·exact Tk C hth K0 _ g a hE hN
def RI(w1:World)(B:Nat)(rows:List ByteArray)(n gr capr:Nat)(a:Act)(w':World):Prop :=
 ∃(k:Nat) (s:St) (ta oa:Option Addr) (tc oc:Nat) (tvs ovs:List Value) (G:List Nat),(k<=n/\RSr w1 B rows n k s (Y ta (S s.ts) tc) (Y oa (S s.O) oc) tvs ovs G w')/\Fr a (qH gr n capr k tc oc ta oa s)
def RM(n:Nat)(a:Act)(_:World):Nat:=n-(intOf (a.tmps.getD 11 undef)).toNat
def Tt(n gr capr:Nat)(s:St)(ta oa:Option Addr)(tc oc:Nat)(wr:World)(l:n<10000)(g:Act->World->Prop)(d:Exit->Act->World->Prop)(b:Act)(a:Fr b (tJ gr n capr tc oc ta oa s))(i:MT (∀(b:Act) (a:Fr b (tJ gr n capr tc oc ta oa s)),d (.exit 0) b wr)):Code.wp prog (bN f10) (Exit.then g d) b wr:=by
 rw[OQ a.sz a.df];have e:=a.at_;simp only[sV,sO,qD,qY,sZ,qH,tJ,xF,xR,List.cons.injEq,and_true]at e;simp only[x1,List.range.loop,xF,xR,e];generalize gA b=j;refine PW _ _ _ _ ?_;rw[Bj]
 try dsimp only
 refine nH fun K f=>?_
 conv=>arg 2;whnf
 go_wp2_with fail;refine f.o _ _ ?_;refine nH fun K c=>?_
 conv=>arg 2;whnf
 go_wp2_with fail;exact i.o _ (by exact⟨Z,Z,Z⟩)
def Tu(w1:World)(B:Nat)(rows:List ByteArray)(n gr capr:Nat)(hn:n<10000)(hr:S rows=n+1)(l:MT (NQ w1 gr 0 rows))(C:gr<B)(z:T (A w1)=B)(d:MT (∀x∈rows,x.size<=8192))(t:Act->World->Prop)(u:Ending->World->Prop)(a0:Act)(w0:World)(hI:RI w1 B rows n gr capr a0 w0)(hX:MT (∀(s:St) (ta oa:Option Addr) (tc oc:Nat) (tvs ovs:List Value) (G:List Nat) (c:Act) (b:Fr c (tJ gr n capr tc oc ta oa s)) (wr:World),RSr w1 B rows n n s (Y ta (S s.ts) tc) (Y oa (S s.O) oc) tvs ovs G wr->(xW 0 (Exit.then t (bodyPost prog f10 u))) (.exit 0) c wr))(hE:MT (∀(k:Nat) (c:Act) (b:Fr c (sV k)) (q:World),run St.zero 0 ((rows.map x3).take n)=(I,(k:Int)+1)->Below B w1 q->(xW 0 (Exit.then t (bodyPost prog f10 u))) .ret c q)):
  Code.wp prog (Code.loop (bN f10)) (xW 0 (Exit.then t (bodyPost prog f10 u))) a0 w0:=by
 refine wp_loop (RI w1 B rows n gr capr) (RM n) hI (fun c wr hL=>?_);unfold RI at hL;obtain⟨k,s,ta,oa,tc,oc,tvs,ovs,G,⟨hk,H⟩,b⟩:=hL;by_cases hlt:k<n
 ·refine Ts w1 wr B rows n k gr capr s ta oa tc oc tvs ovs G H hlt hn hr l C z d _ t u c b ?_ (fun c b q h1 h2=>hE.o k c b q h1 h2);intro s2 ac X p m G2 fb i q g;refine⟨?_,?_⟩
  ·have K:=g.mem.th;have J:=g.mem.fr;have e1:∃a f,ac=Y a (S s2.ts) f:=by
    rcases K.2 with⟨e,y⟩|⟨j,f,v,e,_⟩
    ·exact⟨I,0,by rw[e,y]⟩
    ·exact⟨_,f,e⟩
   have e2:∃a f,X=Y a (S s2.O) f:=by
    rcases J.2 with⟨e,y⟩|⟨j,f,v,e,_⟩
    ·exact⟨I,0,by rw[e,y]⟩
    ·exact⟨_,f,e⟩
   obtain⟨aa,ab,rfl⟩:=e1;obtain⟨V,W,rfl⟩:=e2;unfold RI;exact⟨k+1,s2,aa,V,ab,W,p,m,G2,⟨hlt,g⟩,by push_cast;exact i⟩
  ·have e1:=b.at_;have e2:=i.at_;simp only[sV,sO,qD,qY,sZ,qH,tJ,xF,xR,List.cons.injEq,and_true]at e1 e2
   change n-(intOf (gA fb 11)).toNat<n-(intOf (gA c 11)).toNat
   rw[e1.2.2.2.2.2.2,e2.2.2.2.2.2.2];simp only[intOf];omega
 ·have F:k=n:=by omega
  subst F;exact Tt k gr capr s ta oa tc oc wr hn _ _ c b (fun c b=>hX.o s ta oa tc oc tvs ovs G c b wr H)
namespace R
def Tv(l:List UInt8)(h:2000<S l):read l=([],1,0):=by unfold read;rw[if_pos h]
def Tw(l:List UInt8)(n:Int)(h:¬2000<S l)(a:run St.zero 0 (ND 10 l).dropLast=(I,n)):read l=([],2,n):=by unfold read;rw[if_neg h,a]
def KL(l:List UInt8)(a:St)(n:Int)(h:¬2000<S l)(c:run St.zero 0 (ND 10 l).dropLast=(E a,n))(b:(ND 10 l).getLast?≠E []\/n=0\/a.O≠[]):read l=([],2,n+1):=by
 unfold read;rw[if_neg h,c];simp only[];rw[if_pos b]
def Tx(l:List UInt8)(a:St)(n:Int)(h:¬2000<S l)(c:run St.zero 0 (ND 10 l).dropLast=(E a,n))(b:¬((ND 10 l).getLast?≠E []\/n=0\/a.O≠[])):read l=if 0<if a.inner==0 then mI a.ts else a.inner then([],3,if a.inner==0 then mI a.ts else a.inner)else if sN a.ts then(a.ts,0,0)else([],4,0):=by
 unfold read;rw[if_neg h,c];simp only[];rw[if_neg b]
def Ty(c:UInt8)(l:List UInt8):∀y∈ND c l,S y<=S l:=by
 induction l with
 |nil=>intro y b;simp[ND]at b;simp[b]
 |cons a r ih =>
  intro y b;unfold ND at b
  split at b
  ·simp at b
   rcases b with rfl|b
   ·simp
   ·have:=ih y b;simp;omega
  ·split at b
   ·rename_i e f d;simp at b
    rcases b with rfl|b
    ·have:=ih e (by rw[d];simp);simp;omega
    ·have:=ih y (by rw[d];simp[b]);simp;omega
   ·simp at b;rw[b];simp
end R
def Bn(s:ByteArray)(w:World)(e:Ending)(w':World):Prop :=
 ∃tv,e=.returned (.tuple #[tv,M L (read s.toList).2.1,M L (read s.toList).2.2])/\((read s.toList).2.1=0->∃bt cap B vs Fs,tv=MU bt (read s.toList).1.length cap/\ThsAt w' B tv (read s.toList).1 vs Fs)/\(∃a q cc,tv=Y a q cc)/\Below (T (A w)) w w'
def Tz(s:ByteArray)(w:World)(h:2000<s.size):Calls prog 10 #[D s] w (Bn s w):=by
 have a:=MS (Tv s.toList (by rw[jR];exact h));have c:(2000:Int)<(s.size:Int):=by omega
 go_enter func10,ntmps10;go_wp2;go_ret3;refine⟨Y I 0 0,by rw[a.o];rfl,fun b=>by rw[a.o]at b;simp at b,⟨I,0,0,Z⟩,x5 _ _⟩
def T0(s:ByteArray)(w:World)(hs:s.size<=8192):Calls prog 10 #[D s] w (Bn s w):=by
 by_cases h2:2000<s.size
 ·exact Tz s w h2
 have aB:¬(2000:Int)<(s.size:Int):=by omega
 have F:¬2000<S s.toList:=by rw[jR];exact h2
 go_enter func10,ntmps10;go_wp2_with(first|(go_at_call 13;refine(KS s 10 _ hs).mono ?_;rintro e w1 ⟨gr,capr,nr,d,W,rfl,HS,how,aH,h1,aD,B1⟩;obtain⟨n,rfl⟩:∃n,nr=n+1:=⟨nr-1,(by omega)⟩;have am:=MS how;have aG:((n+1:Nat):Int)-1=(n:Int):=(by omega);dsimp only));have K:S W=n:=by omega
 obtain⟨ad,ax,ak⟩:=KK am.o (by simpa using K);have ag:∀(i:Nat) (y:ByteArray),(d::W)[i]?=E y->w1.cell? ⟨gr,i,I⟩=E (D y):=fun i y hy=>by have:=ad i y hy;simpa using this
 have ai:=MS ag;have J:(d::W).map x3=ND 10 s.toList:=by rw[<- HS.o];rfl
 have H:(d::W).length=n+1:=by simp[K]
 have ap:((d::W).map x3).take n=(ND 10 s.toList).dropLast:=by
  rw[<- J,List.dropLast_eq_take,xp,H];rfl
 have ah:=MS ap;have au:∀x∈d::W,x.size<=8192:=fun x hx=>by
  have h3:=Ty 10 s.toList x.toList (by rw[<- J];exact List.mem_map_of_mem hx);rw[jR,jR]at h3;omega
 have an:=MS au;have ae:MT (∀y,(d::W)[n]?=E y->(ND 10 s.toList).getLast?=E y.toList):=fun y hy=>by
  rw[<- J,List.getLast?_eq_getElem?,xp,H,List.getElem?_map];simp only[Nat.add_sub_cancel];rw[hy];rfl
 have hW:=MS ad;refine Tu w1 (T (A w1)) (d::W) n gr capr (by omega) H hW ak Z an _ _ _ _ ?hI ?hX ?hE
 case hI =>
  unfold RI;exact⟨0,St.zero,I,I,0,0,[],[],[],⟨Nat.zero_le _,⟨RdM.zero _ _,SzS.zero,by simp,fun h=>by omega,by simp[St.zero],by simp[St.zero],x5 _ _⟩⟩,⟨Z,Z,Z⟩⟩
 case hE =>
  intro k fa q z V hb;rw[OQ q.sz q.df];have fh:=q.at_;simp only[sV,sO,qD,qY,sZ,qH,tJ,xF,xR,List.cons.injEq,and_true]at fh;simp only[x1,List.range.loop,xF,xR,fh];generalize gA fa=fA;have b:=MS (Tw s.toList _ F (by rw[<- ah.o];exact V));simp only[xW,Exit.then];go_ret3;exact⟨Y I 0 0,by rw[b.o];rfl,fun g=>by rw[b.o]at g;simp at g,⟨I,0,0,Z⟩,B1.trans (hb.mono B1.size)⟩
 case hX =>
  intro a ta oa tc oc tvs ovs G fa q wr l;rw[OQ q.sz q.df];have fh:=q.at_;simp only[sV,sO,qD,qY,sZ,qH,tJ,xF,xR,List.cons.injEq,and_true]at fh;simp only[x1,List.range.loop,xF,xR,fh];generalize gA fa=fA;have X:=MS l;have V:run St.zero 0 (ND 10 s.toList).dropLast=(E a,(n:Int)):=by
   rw[<- ah.o,l.run,List.drop_eq_nil_of_le (by simp;omega)];rfl
  have v:=MS V;have hy:(d::W)[n]?=E (d::W)[n]:=by simp[K]
  have hd:=(l.bel.cell (p:=⟨gr,n,I⟩) ak).trans (ai.o n _ hy);have u:=ae.o _ hy;have aF:(n:Int)<(n:Int)+1:=by omega
  have q1:=l.sz.nth;have q2:=l.sz.nop;have ay:=l.in0;have az:=l.in1;have c:Below (T (A w)) w wr:=B1.trans (l.bel.mono B1.size);generalize(d::W)[n]=y at*
  cases hye:y.toList.isEmpty
  ·have b:=MS (KL s.toList a n F v.o (Or.inl (by rw[u];simpa using hye)));have aw:(y.toList==[])=U:=by cases h:y.toList<;>simp_all
   go_wp2;go_ret3;exact⟨Y I 0 0,by rw[b.o];rfl,fun g=>by rw[b.o]at g;simp at g,⟨I,0,0,Z⟩,c⟩
  ·have al:y.toList=[]:=by simpa using hye
   have aw:(y.toList==[])=true:=by rw[al];rfl
   rw[al]at u;by_cases hn0:n=0
   ·subst hn0;have b:=MS (KL s.toList a _ F v.o (Or.inr (Or.inl Z)));go_wp2;go_ret3;exact⟨Y I 0 0,by rw[b.o];rfl,fun g=>by rw[b.o]at g;simp at g,⟨I,0,0,Z⟩,c⟩
   have aE:((n:Int)==0)=U:=by simp;omega
   by_cases ho:a.O=[]
   rotate_left
   ·have b:=MS (KL s.toList a _ F v.o (Or.inr (Or.inr ho)));have ar:=List.length_pos_iff.2 ho;go_wp2;go_ret3;exact⟨Y I 0 0,by rw[b.o];rfl,fun g=>by rw[b.o]at g;simp at g,⟨I,0,0,Z⟩,c⟩
   have ar:¬(0:Int)<(S a.O:Int):=by rw[ho];decide
   have HC:=MS (Tx s.toList a _ F v.o (by rw[u,ho];simp;omega));have av:=X.pos (by omega);have ac:=X.mem;rw[ho]at ac;obtain⟨Fs,hT⟩:=ac.done;obtain⟨bt,aA,he,_,aC⟩:=hT.own.form (List.length_pos_iff.2 av);simp only[Value.slice.injEq,true_and]at he;obtain⟨rfl,rfl⟩:=he;have HT:=MS hT;have ab:=MS X.sz.all;have aj:=MS X.sz.blk;by_cases hi:a.inner=0
   rotate_left
   ·have C:(a.inner==0)=U:=by simpa using hi
    have aq:0<a.inner:=by omega
    have b:MT (read s.toList=([],3,a.inner)):=by unfold MT;rw[HC.o,C];simp[aq]
    go_wp2;go_ret3;exact⟨Y I 0 0,by rw[b.o];rfl,fun g=>by rw[b.o]at g;simp at g,⟨I,0,0,Z⟩,c⟩
   have C:(a.inner==0)=true:=by simpa using hi
   have UN:MT (Calls prog 19 #[MU bt (S a.ts) tc] wr fun e w'=>e=.returned (M L (mI a.ts))/\Below (T (A wr)) wr w'):=Lc (T (A w1)) bt (S a.ts) tc a.ts tvs Fs wr HT.o Z (by omega) (fun t ht=>by have:=ab.o t ht;omega) aj.o;by_cases hu:0<mI a.ts
   ·have b:MT (read s.toList=([],3,mI a.ts)):=by unfold MT;rw[HC.o,C];simp[hu]
    go_wp2_with(first|(go_at_call 19;refine UN.mono ?_;rintro e z ⟨rfl,f⟩;have m:Below (T (A w)) w z:=c.trans (f.mono c.size);dsimp only));go_ret3;exact⟨Y I 0 0,by rw[b.o];rfl,fun g=>by rw[b.o]at g;simp at g,⟨I,0,0,Z⟩,m⟩
   have WI:MT (∀z:World,Below (T (A wr)) wr z->Calls prog 20 #[MU bt (S a.ts) tc] z fun e w'=>e=.returned (.bool (sN a.ts))/\Below (T (A z)) z w'):=fun z f=>K7 (T (A w1)) bt (S a.ts) tc a.ts tvs Fs z (HT.keep (fun j hj=>f.block j hj)) Z (by omega) (fun t ht=>by have:=ab.o t ht;omega)
   cases hwi:sN a.ts
   ·have b:MT (read s.toList=([],4,0)):=by unfold MT;rw[HC.o,C];simp[hu,hwi]
    go_wp2_with(first
     |(go_at_call 19;refine UN.mono ?_;rintro e z ⟨rfl,f⟩;have m:Below (T (A w)) w z:=c.trans (f.mono c.size);dsimp only)
     |(go_at_call 20;refine(WI.o _ f).mono ?_;rw[hwi];rintro e w4 ⟨rfl,aa⟩;have af:Below (T (A w)) w w4:=m.trans (aa.mono m.size);dsimp only))
    go_ret3;exact⟨Y I 0 0,by rw[b.o];rfl,fun g=>by rw[b.o]at g;simp at g,⟨I,0,0,Z⟩,af⟩
   ·have b:MT (read s.toList=(a.ts,0,0)):=by unfold MT;rw[HC.o,C];simp[hu,hwi]
    go_wp2_with(first
     |(go_at_call 19;refine UN.mono ?_;rintro e z ⟨rfl,f⟩;have m:Below (T (A w)) w z:=c.trans (f.mono c.size);dsimp only)
     |(go_at_call 20;refine(WI.o _ f).mono ?_;rw[hwi];rintro e w4 ⟨rfl,aa⟩;have af:Below (T (A w)) w w4:=m.trans (aa.mono m.size);have ao:=MS ((HT.keep (w':=z) (fun j hj=>f.block j hj)).keep (w':=w4) (fun j hj=>aa.block j hj));dsimp only))
    go_ret3;exact⟨MU bt (S a.ts) tc,by rw[b.o];rfl,fun _=>⟨bt,tc,T (A w1),tvs,Fs,by rw[b.o],by rw[b.o];exact ao.o⟩,⟨_,_,_,Z⟩,af⟩
