import Derived.Deep.Upon
import Derived.Test.YtehclbpoabdpoaaGreatDoorO35
set_option linter.all false
set_option maxHeartbeats 0
namespace Go.Proofs.YtehclbpoabdpoaaGreatDoor
open Go Go.RowKit Go.Proofs.Tryz P Q
open scoped Classical
set_option maxRecDepth 1000000
variable {ca ce cf g ga ge gf i:Nat}{es:List J.E}{fr:List Int}{bv:Value}{D:Nat->Prop}{w w':World}
open List renaming length->V
open Bool renaming true->Y,false->G
open Go.Value renaming slice->O,int->M,bool->F
open Option renaming none->I,some->U
open Go.IntKind renaming i64->N
open Go.Obj renaming cells->S
open Go.Ending renaming returned->A
open Or renaming inl->xF,inr->xR
open Nat renaming le_refl->xW,lt_of_lt_of_le->x4,zero_add->x7
open List renaming range->x1
open Go.Value renaming bool->x2,ownBlock->x3
open Go.RowKit.Below renaming refl->x5
open Int renaming toNat_natCast->x6
open Go.Instr renaming makeSlice->x8
def oF(d:Func):List Code:=dR (d.body.getD .skip)
def qZ:(oF f119).length=8:=by kernel_rfl
def GI(w w':World)(D:Nat->Prop)(g ge ce gf cf ga ca gd:Nat)(es:List J.E)(fr regs:List Int)(pv rv bv:Value)(L:Nat)(rs:List (List Int))(c:Bool)(seq:List Nat)(P:List Int->Prop)(C:Prop):Prop :=
 ∃ov' rs' c' ats',JO w' D g ge ce gf cf ga ca gd es fr regs pv rv bv ov' L rs' c' seq ats'/\JX (fun k=>k=g\/k=ga\/k=gd) w w'/\J.Grew L rs rs' c c' P C
def MC(g ge ce gf cf ga ca gd:Nat)(es:List J.E)(fr regs:List Int)(pv rv bv:Value)(L:Nat)(D:Nat->Prop)(seq:List Nat):Prop :=
 ∀(w:World) (ov:Value) (rs:List (List Int)) (c:Bool) (ats:List Int),JO w D g ge ce gf cf ga ca gd es fr regs pv rv bv ov L rs c seq ats ->
  Calls prog 119 #[.pointer (U ⟨g,0,I⟩),M N (V seq:Int),MU gd (V es) (V es)] w fun e w'=>e=A (.tuple #[])/\GI w w' D g ge ce gf cf ga ca gd es fr regs pv rv bv L rs c seq (J.OrdP es fr regs seq) (J.kY es fr seq)
structure OFr(a:Act)(g gd n k:Nat)(nx:Int):Prop where
 sz:a.tmps.size=114
 df:a.defers=[]
 s0:gA a 0=.pointer (U ⟨g,0,I⟩)
 s1:gA a 1=M N (k:Int)
 s2:gA a 2=MU gd n n
 s6:gA a 6=M N nx
def Ru(p q r:Bool):p=G\/p=Y/\q=G\/p=Y/\q=Y/\r=Y\/p=Y/\q=Y/\r=G:=by
 cases p<;>cases q<;>cases r<;>simp
section
variable {g ge ce gf cf ga ca gd:Nat}{es:List J.E}{fr regs:List Int}{pv rv bv ov:Value}{L:Nat}{rs:List (List Int)}{c:Bool}{D:Nat->Prop}{seq:List Nat}{ats:List Int}{w:World}{a:Act}
def Rv(h:JO w D g ge ce gf cf ga ca gd es fr regs pv rv bv ov L rs c seq ats)(x:J.kK es seq)(hf:OFr a g gd (V es) (V seq) (-1)):
  NG prog ((oF f119).drop 3) (bodyPost prog f119 fun e w'=>e=A (.tuple #[])/\GI w w' D g ge ce gf cf ga ca gd es fr regs pv rv bv L rs c seq (J.OrdP es fr regs seq) (J.kY es fr seq)) a w:=by
 obtain⟨T,u,z,B,C,E⟩:=hf;have H:=MS h;have d:=MS x;have c2:=h.jj.blk.cell (i:=2) (v:=MU ge (V es) ce) Z;have lg:=h.jj.blk.lt;have hn:=h.jj.jin.n;have aa:∀w,(x8 189 (M N (V es:Int)) (M N (V es:Int))).run prog w=.ok (MU w.heap.size (V es) (V es)) (w.alloc (S ((x1 (V es)).map fun _=>x2 G).toArray 4)):=fun w=>by
  rw[<- zM];exact run_make_row' 189 4 (F G) 1 underlying189 Tryz.infoB Z N N (V es) (by omega) (by omega) w
 clear h x;rw[OQ T u];simp only[x1,List.range.loop,List.map_cons,List.map_nil,z,B,C,E];generalize gA a=f;clear z B C E T u;refine MX 3 qZ Z fun K t=>?_
 conv=>arg 2;whnf
 go_wp2_with fail;refine t.o _ _ ?_;clear t;refine MX 4 qZ Z fun K _=>?_
 conv=>arg 2;whnf
 go_wp2_with(first|(go_at_call 145;refine(Rt g ge ce gf cf ga ca es fr ats regs pv rv bv ov _ L rs c D _ (H.jj.X ((x5 _ _).alloc (xW _) _))).mono ?_;rintro e w7 ⟨rfl,j⟩;have m:=MS j;clear j));refine bodyPost_ret (results_none Z _ _ _) Z ?_;refine⟨Z,?_⟩;obtain⟨q,r,W,h1,h2,h3,p⟩:=m.o;have hb:Below w.heap.size w (w.alloc (S ((x1 (V es)).map fun _=>x2 G).toArray 4)):=(x5 _ _).alloc (xW _) _;have y:JX (fun k=>k=g) w w7:=(JX.of hb).trans h3 fun _ _ e=>e;refine⟨q,r,W,ats,H.eI y h1 h2 p.rise p.ok,y.mono fun _ _ e=>xF e,p.to (fun o=>?_) ?_⟩
 ·have e:=H.ok.full d.o;unfold J.OrdP;constructor
  ·rintro⟨l,b⟩;exact⟨seq,(J.dK d.o).2 Z,by unfold J.pX;rw[<- e];exact⟨l,b⟩⟩
  ·rintro⟨s,l,b⟩;rw[(J.dK d.o).1 l]at b;unfold J.pX at b;rw[<- e]at b;exact b
 ·have e:=H.ok.full d.o;unfold J.kY;constructor
  ·intro k;exact⟨seq,(J.dK d.o).2 Z,by unfold J.qA;rw[<- e];exact k⟩
  ·rintro⟨s,l,b⟩;rw[(J.dK d.o).1 l]at b;unfold J.qA at b;rw[<- e]at b;exact b
def jL(IH:∀i,J.Pick es seq i->MC g ge ce gf cf ga ca gd es fr regs pv rv bv L D (seq++[i]))(h:JO w D g ge ce gf cf ga ca gd es fr regs pv rv bv ov L rs c seq ats)(hk:V seq<1000){j:Nat}(hj:J.Nxt es seq j)(hf:OFr a g gd (V es) (V seq) (j:Int)):
  NG prog ((oF f119).drop 3) (bodyPost prog f119 fun e w'=>e=A (.tuple #[])/\GI w w' D g ge ce gf cf ga ca gd es fr regs pv rv bv L rs c seq (J.OrdP es fr regs seq) (J.kY es fr seq)) a w:=by
 obtain⟨sz,df,s0,s1,s2,s6⟩:=hf;have H:=MS h;have am:=MS IH;have HJ:=MS hj;have c2:=h.jj.blk.cell (i:=2) (v:=MU ge (V es) ce) Z;have lg:=h.jj.blk.lt;have hn:=h.jj.jin.n;have T:=h.jj.three;have aw:=hj.w.2.1;have az:(j:Int)<(V es:Int):=by omega
 have lj:=(h.jj.jin.ev j aw).l;have le:=h.jj.jin.le;have X:MT (¬J.kK es seq):=fun d=>hj.new (d j hj.w)
 clear h IH hj;rw[OQ sz df];simp only[x1,List.range.loop,List.map_cons,List.map_nil,s0,s1,s2,s6];generalize gA a=f;clear s0 s1 s2 s6 sz df;refine MX 3 qZ Z fun K z=>?_
 conv=>arg 2;whnf
 go_wp2_with fail;refine z.o _ _ ?_;clear z;refine MX 4 qZ Z fun K z=>?_
 conv=>arg 2;whnf
 go_wp2_with fail;refine z.o _ _ ?_;clear z;refine MX 5 qZ Z fun K z=>?_
 conv=>arg 2;whnf
 go_wp2_with fail;refine z.o _ _ ?_;clear z;refine MX 6 qZ Z fun K z=>?_
 conv=>arg 2;whnf
 go_wp2_with fail;refine z.o _ _ ?_;clear z;clear c2 lj le lg;refine MX 7 qZ Z fun K z=>?_
 conv=>arg 2;whnf
 go_wp2_with fail;go_loopw[9] (fun q wr=>∃(i:Nat) (ad:Value) (W:List (List Int)) (C:Bool) (y:List Int),3<=i/\i<=V es/\q=M N i/\MT (JO wr D g ge ce gf cf ga ca gd es fr regs pv rv bv ad L W C seq y)/\MT (JX (fun k=>k=g\/k=ga\/k=gd) w wr)/\MT (J.Grew L rs W c C (fun o=>∃x,x<i/\J.Pick es seq x/\J.OrdP es fr regs (seq++[x]) o) (∃x,x<i/\J.Pick es seq x/\J.kY es fr (seq++[x])))) fun q _=>V es-(intOf q).toNat
 case atStart =>
  refine⟨3,ov,rs,c,ats,xW _,T,Z,H,JX.refl _ _,(J.Grew.refl H.jj.rise H.jj.ok).to (fun o=>?_) ?_⟩
  ·exact⟨False.elim,fun⟨x,hx,t,_⟩=>by have:=t.w.1;omega⟩
  ·exact⟨False.elim,fun⟨x,hx,t,_⟩=>by have:=t.w.1;omega⟩
 case round =>
  obtain⟨i,ad,W,C,y,au,aD,rfl,b,HX,ag⟩:=hrel;have c2:=b.jj.blk.cell (i:=2) (v:=MU ge (V es) ce) Z;have lg:=b.jj.blk.lt;by_cases hit:i<V es
  ·have av:(i:Int)<(V es:Int):=by omega
   have le:=b.jj.jin.le;obtain⟨_,_,ik,il,_,_,_,_,_⟩:=b.jj.jin.ev i hit;have dc:=b.db.cell (i:=i) (v:=F (decide (i∈seq))) (by unfold RZ;rw[qI _ hit]);have ld:=b.db.lt;have fd:=b.db.free i;have ah:MT (¬J.Pick es seq i->J.Grew L rs W c C (fun o=>∃x,x<i+1/\J.Pick es seq x/\J.OrdP es fr regs (seq++[x]) o) (∃x,x<i+1/\J.Pick es seq x/\J.kY es fr (seq++[x]))):=fun t=>by
    refine ag.to (fun o=>⟨fun⟨x,E,m⟩=>⟨x,by omega,m⟩,fun⟨x,E,m,T⟩=>⟨x,?_,m,T⟩⟩) ⟨fun⟨x,E,m⟩=>⟨x,by omega,m⟩,fun⟨x,E,m,T⟩=>⟨x,?_,m,T⟩⟩
    ·by_cases e:x=i
     ·subst e;exact absurd m t
     ·omega
    ·by_cases e:x=i
     ·subst e;exact absurd m t
     ·omega
   have aa:MT (J.Pick es seq i↔((J.ev es i).B.toList==J.kW)=Y/\((J.ev es i).loc==(J.ev es j).loc)=Y/\decide (i∈seq)=G):=by
    constructor
    ·intro p;obtain⟨j2,ai,hl⟩:=p.loc;have:j2=j:=by
      rcases Nat.lt_trichotomy j2 j with k|k|k
      ·exact absurd (HJ.first j2 k ai.w) ai.new
      ·exact k
      ·exact absurd (ai.first j k HJ.w) HJ.new
     rw[this]at hl;exact⟨p.w.2.2,by simp[hl],by simpa using p.new⟩
    ·rintro⟨E,m,T⟩;exact⟨⟨au,hit,E⟩,by simpa using T,j,HJ.o,by simpa using m⟩
   have aA:MT (J.ev es i=J.ev es i):=Z
   rcases Ru ((J.ev es i).B.toList==J.kW) ((J.ev es i).loc==(J.ev es j).loc) (decide (i∈seq))with p1|⟨p1,p2⟩|⟨p1,p2,p3⟩|⟨p1,p2,p3⟩
   case inr.inr.inr =>
    have HP:=MS (aa.2 ⟨p1,p2,p3⟩);rw[p3]at dc;have c6:=b.jj.blk.cell (i:=6) (v:=MU ga (V es) ca) Z;obtain⟨n1,n2,n3,n4,n5,n6⟩:=b.gR;have ac:=(b.ab.bR (k:=gd) i (F Y) n6).cell (i:=i) (qQ (by rw[b.ok.len];exact hit));have la:=b.ab.lt;have fa:=b.ab.free i;have aB:=(b.jj.blk.bR (k:=gd) i (F Y) n2).cell (i:=6) (v:=MU ga (V es) ca) Z;have aC:=(b.ab.bR (k:=gd) i (F Y) n6).free i;have HM:=MS (b.mark HP.w HP.new);have aq:MT (JX (fun k=>k=g\/k=ga\/k=gd) w ((wr.setCell ⟨gd,i,I⟩ (F Y)).setCell ⟨ga,i,I⟩ (M N ((V seq:Int)+1)))):=JX.set (P:=fun k=>k=g\/k=ga\/k=gd) (JX.set (P:=fun k=>k=g\/k=ga\/k=gd) HX.o (xF (xR (xR Z))) _ _) (xF (xR (xF Z))) _ _;have u:=am.o i HP.o _ _ _ _ _ HM.o;rw[show((seq++[i]).length:Int)=(V seq:Int)+1 by simp]at u;have af:=MS u;clear u ah aa n1 n2 n3 n4 n5 n6 fa;simp only[J.kW]at p1;go_wp2_with(first
     |(go_at_call 119;refine af.mono ?_;rintro e w5 ⟨rfl,ax,ay,ar,aj,r,ak,ae⟩;have an:=MS r;have ap:=MS ak;have al:=MS ae;have d5:=r.db.cell (i:=i) (v:=F (decide (i∈seq++[i]))) (by unfold RZ;rw[qI _ hit]);have l5:=r.db.lt;have f5:=r.db.free i;clear r ak ae))
    go_roundw
    case rel =>
     refine⟨i+1,ax,ay,ar,aj,by omega,by omega,by go_num,an.tN HP.new,JX.set (P:=fun k=>k=g\/k=ga\/k=gd) (aq.trans ap.o fun _ _ e=>e) (xF (xR (xR Z))) _ _,(ag.trans al.o).to (fun o=>?_) ?_⟩
     ·constructor
      ·rintro(⟨x,E,m⟩|E)
       ·exact⟨x,by omega,m⟩
       ·exact⟨i,by omega,HP.o,E⟩
      ·rintro⟨x,E,m,T⟩;by_cases e:x=i
       ·subst e;exact xR T
       ·exact xF ⟨x,by omega,m,T⟩
     ·constructor
      ·rintro(⟨x,E,m⟩|E)
       ·exact⟨x,by omega,m⟩
       ·exact⟨i,by omega,HP.o,E⟩
      ·rintro⟨x,E,m,T⟩;by_cases e:x=i
       ·subst e;exact xR T
       ·exact xF ⟨x,by omega,m,T⟩
    case measure=>simp[intOf];omega
   all_goals
    have ao:=MS (ah.o fun k=>by have:=aa.1 k;simp[p1, *]at this);clear ah aa
    try(rw[p3]at dc)
    simp only[J.kW]at p1;go_wp2_with fail;go_roundw
    case rel=>exact⟨i+1,ad,W,C,y,by omega,by omega,by go_num,b,HX,ao⟩
    case measure=>simp[intOf];omega
  ·have av:¬(i:Int)<(V es:Int):=by omega
   go_wp2_with fail;refine z.o _ _ ?_;show bodyPost _ _ _ _ _ _;go_end0;refine⟨Z,ad,W,C,y,b.o,HX.o,ag.to (fun o=>?_) ?_⟩
   ·unfold J.OrdP;constructor
    ·rintro⟨x,_,t,s,k1,k2⟩;exact⟨s,(J.eQ X.o).2 ⟨x,t,k1⟩,k2⟩
    ·rintro⟨s,k1,k2⟩;obtain⟨x,t,k3⟩:=(J.eQ X.o).1 k1;exact⟨x,by have:=t.w.2.1;omega,t,s,k3,k2⟩
   ·unfold J.kY;constructor
    ·rintro⟨x,_,t,s,k1,k2⟩;exact⟨s,(J.eQ X.o).2 ⟨x,t,k1⟩,k2⟩
    ·rintro⟨s,k1,k2⟩;obtain⟨x,t,k3⟩:=(J.eQ X.o).1 k1;exact⟨x,by have:=t.w.2.1;omega,t,s,k3,k2⟩
end
def Rw(p q:Bool):p=G\/p=Y/\q=G\/p=Y/\q=Y:=by cases p<;>cases q<;>simp
def Rx{gd:Nat}{regs:List Int}{pv rv:Value}{L:Nat}:∀(m:Nat) (seq:List Nat),J.dW es seq=m->V seq+m<=V es->MC g ge ce gf cf ga ca gd es fr regs pv rv bv L D seq:=by
 intro m
 induction m with
 |zero=>?_
 |succ m ih=>?_
 all_goals
  intro seq hm hl w ov rs c aa h;have p:MT (∀i,J.Pick es seq i->MC g ge ce gf cf ga ca gd es fr regs pv rv bv L D (seq++[i])):=fun i hp=>by
   have hu:=J.eR hp.w hp.new
   first
    |(exfalso;omega)
    |exact ih _ (by omega) (by simp;omega)
  try clear ih
  have W:MT (V seq<1000):=by unfold MT;have:=h.jj.jin.n;omega
  have H:=MS h;have c2:=h.jj.blk.cell (i:=2) (v:=MU ge (V es) ce) Z;have lg:=h.jj.blk.lt;have hn:=h.jj.jin.n;have h3:=h.jj.three;have le:=h.jj.jin.le;have ld:=h.db.lt;clear h hm hl;go_enter func119,ntmps119;refine PW _ _ _ _ ?_;show NG prog ((oF f119).drop 0) _ _ w;refine MX 0 qZ Z fun K a=>?_
  conv=>arg 2;whnf
  go_wp2_with fail;refine a.o _ _ ?_;clear a;refine MX 1 qZ Z fun K a=>?_
  conv=>arg 2;whnf
  go_wp2_with fail;refine a.o _ _ ?_;clear a;refine MX 2 qZ Z fun K a=>?_
  conv=>arg 2;whnf
  go_wp2_with fail;go_loopw[6,7] (fun nx q wr=>∃(k:Nat) (x:Int),3<=k/\k<=V es/\q=M N k/\nx=M N x/\wr=w/\MT ((x=-1/\∀i,i<k->J.wr es i->i∈seq)\/0<=x/\J.Nxt es seq x.toNat)) fun _ q _=>V es-(intOf q).toNat
  case atStart=>exact⟨3, -1,xW _,h3,Z,Z,Z,xF ⟨Z,fun i E b=>absurd b.1 (by omega)⟩⟩
  case round =>
   obtain⟨k,x,T,ab,rfl,rfl,rfl,C⟩:=hrel
   rcases C.o with⟨rfl,d⟩|⟨ac,u⟩
   ·have z:=MS d;clear d C;by_cases hkt:k<V es
    ·have f:(k:Int)<(V es:Int):=by omega
     have ik:=(H.jj.jin.ev k hkt).k;have dc:=H.db.cell (i:=k) (v:=F (decide (k∈seq))) (by unfold RZ;rw[qI _ hkt]);have X:MT (((J.ev es k).B.toList==J.kW)=G\/decide (k∈seq)=Y->∀i,i<k+1->J.wr es i->i∈seq):=fun l i E b=>by
      by_cases e:i=k
      ·subst e
       rcases l with l|l
       ·rw[b.2.2]at l;cases l
       ·simpa using l
      ·exact z.o i (by omega) b
     rcases Rw ((J.ev es k).B.toList==J.kW) (decide (k∈seq))with j|⟨j,y⟩|⟨j,y⟩
     ·have r:=MS (X.o (xF j));simp only[J.kW]at j;go_wp2_with fail;go_roundw
      case rel=>exact⟨k+1, -1,by omega,by omega,by go_num,Z,by trivial,xF ⟨Z,r.o⟩⟩
      case measure=>simp[intOf];omega
     ·have r:MT (J.Nxt es seq k):=⟨⟨T,hkt,j⟩,by simpa using y,fun i E b=>z.o i E b⟩;rw[y]at dc;simp only[J.kW]at j;go_wp2_with fail;go_roundw
      case rel=>exact⟨k+1,(k:Int),by omega,by omega,by go_num,Z,by trivial,xR ⟨by omega,by simpa using r.o⟩⟩
      case measure=>simp[intOf];omega
     ·have r:=MS (X.o (xR y));rw[y]at dc;simp only[J.kW]at j;go_wp2_with fail;go_roundw
      case rel=>exact⟨k+1, -1,by omega,by omega,by go_num,Z,by trivial,xF ⟨Z,r.o⟩⟩
      case measure=>simp[intOf];omega
    ·have f:¬(k:Int)<(V es:Int):=by omega
     go_wp2_with fail;refine a.o _ _ ?_;exact Rv H.o (fun i b=>z.o i (by have:=b.2.1;omega) b) ⟨Z,Z,Z,Z,Z,Z⟩
   ·have s:=MS u;clear u C;have ad:¬x<0:=by omega
    have t:MT (((x.toNat:Nat):Int)=x):=by unfold MT;omega
    by_cases hkt:k<V es
    ·have f:(k:Int)<(V es:Int):=by omega
     go_wp2_with fail;refine a.o _ _ ?_;exact jL p.o H.o W.o s.o ⟨Z,Z,Z,Z,Z,by rw[t.o];rfl⟩
    ·have f:¬(k:Int)<(V es:Int):=by omega
     go_wp2_with fail;refine a.o _ _ ?_;exact jL p.o H.o W.o s.o ⟨Z,Z,Z,Z,Z,by rw[t.o];rfl⟩
def OP(w:World)(D:Nat->Prop)(v:Value)(r:List Int):Prop:=v=O I 0 0/\r=[]\/0<V r/\QQ w D v r
def OP.x{P:Nat->Prop}{v:Value}{r:List Int}(h:OP w D v r)(b:JX P w w')(a:∀x,x<w.heap.size->P x->D x):OP w' D v r:=h.imp id fun k=>⟨k.1,k.2.x b a⟩
namespace J
def uH(es:List E)(base:List Int)(fr:List Int)(a b:Nat):Prop:=3<=b/\((∃x∈(ev es b).on,(a:Int)=base.getD (ev es b).t.toNat 0+x)\/(a:Int)=fr.getD b 0)
def Hang(es:List E)(base fr:List Int):Prop:=∃i,i<V es/\TC (fun a b=>a<V es/\b<V es/\uH es base fr a b) i i
structure OnOk(es:List E)(base:List Int)(b:Nat):Prop where
 t0:0<=(ev es b).t
 tl:(ev es b).t.toNat<V base
 b0:0<=base.getD (ev es b).t.toNat 0
 len:(ev es b).on.length<1000
 on:∀x∈(ev es b).on,0<=x/\base.getD (ev es b).t.toNat 0+x<(V es:Int)
end J
structure JH(w:World)(D:Nat->Prop)(g ge ce gf cf ga ca:Nat)(es:List J.E)(fr ats base:List Int)(bv:Value):Prop where
 jin:QG w g ge ce gf cf ga ca es fr ats
 on:∀i,i<V es->∃v,w.cell? ⟨ge,i*10+9,I⟩=U v/\OP w D v (J.ev es i).on
 bc:w.cell? ⟨g,4,I⟩=U bv
 bs:QQ w (fun _=>False) bv base
 ok:∀i,3<=i->i<V es->J.OnOk es base i
def JH.X{a base:List Int}(h:JH w D g ge ce gf cf ga ca es fr a base bv)(b:Below w.heap.size w w'):JH w' D g ge ce gf cf ga ca es fr a base bv :=
 ⟨h.jin.X b,fun i f=>by
  obtain⟨v,c,d⟩:=h.on i f;exact⟨v,(b.cell h.jin.le).trans c,d.x (JX.of (P:=fun _=>False) b) fun _ _ e=>e.elim⟩,(b.cell h.jin.lg).trans h.bc,h.bs.x (JX.of (P:=fun _=>False) b) fun _ _ e=>e.elim,h.ok⟩
def Ap(g ge ce gf cf ga ca:Nat)(es:List J.E)(fr aJ base:List Int)(bv:Value)(D:Nat->Prop)(w:World)(h:JH w D g ge ce gf cf ga ca es fr aJ base bv)(av:∀i,i<V es->fr.getD i 0<(V es:Int))(h3:3<=V es):
  Calls prog 118 #[.pointer (U ⟨g,0,I⟩)] w fun e w'=>e=A (F (J.yes (J.Hang es base fr)))/\Below w.heap.size w w':=by
 have H:=MS h;have hn:=h.jin.n;have he:=h.jin.e;have lg:=h.jin.lg;have aF:=MS av;clear h av;go_enter func118,ntmps118;go_wp2_with(first|(go_at_call 142;refine(yV (V es) _ hn).mono ?_;rintro e w1 ⟨gt,C,rfl,⟨aB,aw,ae⟩,ap⟩;have aG:=MS aB;have aV:=MS aw;have an:=MS ae;have B1:=MS ap;clear aB ap aw ae));clear he lg;go_loopw[4] (fun q wr=>∃(i:Nat) (T:Nat->Nat->Bool),3<=i/\i<=V es/\q=M N i/\MT (JTab wr gt (V es) C T)/\MT (∀a b,T a b=Y↔b<i/\J.uH es base fr a b)/\MT (Below w.heap.size w wr)) fun q _=>V es-(intOf q).toNat
 case atStart=>exact⟨3,_,xW _,h3,Z,aG,fun a b=>⟨fun k=>(by cases k),fun k=>by have:=k.2.1;omega⟩,B1⟩
 case round =>
  obtain⟨i,T,ax,bf,rfl,HT,HI,HB⟩:=hrel;have K:=H.X HB.o;have he:=K.jin.e;have lg:=K.jin.lg;have le:=K.jin.le;by_cases hit:i<V es
  ·have aM:(i:Int)<(V es:Int):=by omega
   obtain⟨ov,aP,ai⟩:=K.on i hit;have az:=K.ok i ax hit;have aA:∃(oa:Option Addr) (oc:Nat),ov=O oa (J.ev es i).on.length oc:=by
    rcases ai with⟨rfl,e⟩|⟨_,b,aK,rfl,_⟩
    ·exact⟨I,0,by rw[e];rfl⟩
    ·exact⟨_,aK,Z⟩
   obtain⟨oa,oc,rfl⟩:=aA;have s:=MS az;have aW:=MS ai;clear K az ai;go_wp2;generalize ao:(J.ev es i).on=on at*;have ab:=MS ao;clear ao;go_loopw[6] (fun q wx=>∃(k:Nat) (T2:Nat->Nat->Bool),k<=V on/\q=M N k/\MT (JTab wx gt (V es) C T2)/\MT (∀a b,T2 a b=Y↔T a b=Y\/b=i/\∃x∈on.take k,(a:Int)=base.getD (J.ev es i).t.toNat 0+x)/\MT (Below w.heap.size w wx)) fun q _=>V on-(intOf q).toNat
   case atStart=>exact⟨0,T,Nat.zero_le _,Z,HT,fun a b=>by simp,HB⟩
   case round =>
    obtain⟨k,T2,hk,rfl,r,am,z⟩:=hrel;have K:=H.X z.o;have aY:=K.jin.e;have bk:=K.jin.lg;have bj:=K.jin.le;obtain⟨bl,L,W⟩:=K.on i hit;have ah:wr.cell? ⟨ge,i*10+9,I⟩=U (O oa (V on) oc):=by
     have:=(z.cell (p:=⟨ge,i*10+9,I⟩) H.jin.le).trans ((HB.cell (p:=⟨ge,i*10+9,I⟩) H.jin.le).symm.trans aP);exact this
    have af:OP wr D (O oa (V on) oc) on:=by
     rw[ah]at L;cases L;rw[ab.o]at W;exact W
    clear L W;have aS:V on<1000:=by have:=s.len;rw[ab.o]at this;exact this
    by_cases hkt:k<V on
    ·have aO:(k:Int)<(V on:Int):=by omega
     rcases af with⟨_,e⟩|⟨_,bo,co,e,ay,bi,_⟩
     ·rw[e]at hkt;simp at hkt
     cases e;have bg:=ay k hkt
     obtain⟨x0,xl⟩:=s.on on[k] (by rw[ab.o];exact List.getElem_mem hkt);obtain⟨bb,aR,rfl,ar,bh,_⟩:=K.bs;have aX:=K.bc;have ag:=ar _ s.tl;have aQ:=(K.jin.ev i hit).t;obtain⟨tt,ad⟩:∃tt:Nat,(J.ev es i).t=(tt:Int):=⟨(J.ev es i).t.toNat,by have:=s.t0;omega⟩;have aj:=s.tl;have b0:=s.b0;have aI:MT (∀a:Nat,(∃x∈on.take (k+1),(a:Int)=base.getD (J.ev es i).t.toNat 0+x)↔(∃x∈on.take k,(a:Int)=base.getD (J.ev es i).t.toNat 0+x)\/(a:Int)=base.getD (J.ev es i).t.toNat 0+on[k]):=fun a=>by
      rw[List.take_succ_eq_append_getElem hkt];simp only[List.mem_append,List.mem_singleton];constructor
      ·rintro⟨x,l|l,m⟩
       ·exact xF ⟨x,l,m⟩
       ·subst l;exact xR m
      ·rintro(⟨x,l,m⟩|l)
       ·exact⟨x,xF l,m⟩
       ·exact⟨_,xR Z,l⟩
     have au:base.getD (J.ev es i).t.toNat 0=base[(J.ev es i).t.toNat]:=by simp[aj]
     rw[<- au]at ag;rw[ad]at aQ aj ag;simp only[x6]at aj ag;have aE:MT (base.getD (J.ev es i).t.toNat 0=base.getD tt 0):=by unfold MT;rw[ad,x6]
     rw[ad]at xl b0;simp only[x6]at xl b0;clear au ad;generalize base.getD tt 0=bt at*;generalize on[k]=xx at*;obtain⟨p,rfl⟩:∃p:Nat,bt=(p:Int):=⟨bt.toNat,by omega⟩;obtain⟨q,rfl⟩:∃q:Nat,xx=(q:Int):=⟨xx.toNat,by omega⟩;have v:p+q<V es:=by omega
     have aT:(p:Int)+(q:Int)<(V es:Int):=by omega
     have aU:(tt:Int)<(V base:Int):=by omega
     have B:=r.at_;have r2:=B.row (p+q) v;have b2:=B.bit (p+q) i v hit;have l3:=B.lg;have l4:=B.lr (p+q) v;have f2:=(r.row (p+q) v).free i;have ac:=MS (r.set (p+q) i v Y);have aa:=MS (z.setCell (p:=⟨C (p+q),i,I⟩) (an.o _ v) (F Y));clear K B ay ar;go_wp2;go_region;go_wp2;go_roundw
     case rel =>
      refine⟨k+1,dH T2 (p+q) i Y,by omega,by go_num,by first|exact ac|exact ac.X (PZ _ _ _),fun a b=>?_,by first|exact aa|exact dA aa.o (xW _) (PZ _ _ _)⟩;have m:=am.o a b;have h3:=aI.o a;have e4:=aE.o;unfold dH;by_cases d:a=p+q/\b=i
      ·rw[if_pos d];exact⟨fun _=>xR ⟨d.2,h3.2 (xR (by rw[d.1,e4];omega))⟩,fun _=>Z⟩
      ·rw[if_neg d,m];constructor
       ·rintro(j|⟨j,y⟩)
        ·exact xF j
        ·exact xR ⟨j,h3.2 (xF y)⟩
       ·rintro(j|⟨j,y⟩)
        ·exact xF j
        ·rcases h3.1 y with k3|k3
         ·exact xR ⟨j,k3⟩
         ·rw[e4]at k3;exact absurd ⟨by omega,j⟩ d
     case measure=>simp[intOf];omega
    ·have aO:¬(k:Int)<(V on:Int):=by omega
     have aN:k=V on:=by omega
     have ak:MT (∀a b,T2 a b=Y↔T a b=Y\/b=i/\∃x∈(J.ev es i).on,(a:Int)=base.getD (J.ev es i).t.toNat 0+x):=by
      unfold MT;have:=am.o;rw[aN,List.take_length]at this;rw[ab.o];exact this
     have bd:=K.jin.f;have ba:=K.jin.fr i hit;have lf:=K.jin.lf;have be:=aF.o i hit;have al:MT (∀a b:Nat,b<i+1/\J.uH es base fr a b↔b<i/\J.uH es base fr a b\/b=i/\((∃x∈(J.ev es i).on,(a:Int)=base.getD (J.ev es i).t.toNat 0+x)\/(a:Int)=fr.getD i 0)):=fun a b=>by
      constructor
      ·rintro⟨l,m⟩;by_cases e:b=i
       ·subst e;exact xR ⟨Z,m.2⟩
       ·exact xF ⟨by omega,m⟩
      ·rintro(⟨l,m⟩|⟨rfl,m⟩)
       ·exact⟨by omega,m⟩
       ·exact⟨by omega,ax,m⟩
     clear K af;generalize fr.getD i 0=fi at*;by_cases hf0:0<=fi
     ·obtain⟨p,rfl⟩:∃p:Nat,fi=(p:Int):=⟨fi.toNat,by omega⟩;have u:p<V es:=by omega
      have B:=r.at_;have r2:=B.row p u;have b2:=B.bit p i u hit;have l3:=B.lg;have l4:=B.lr p u;have f2:=(r.row p u).free i;have ac:=MS (r.set p i u Y);have aa:=MS (z.setCell (p:=⟨C p,i,I⟩) (an.o _ u) (F Y));clear B;go_wp2;go_roundw
      case rel =>
       refine⟨i+1,dH T2 p i Y,by omega,by omega,by go_num,ac,fun a b=>?_,aa⟩;rw[al.o a b,<- HI.o a b];unfold dH;by_cases d:a=p/\b=i
       ·rw[if_pos d];exact⟨fun _=>xR ⟨d.2,xR (by rw[d.1])⟩,fun _=>Z⟩
       ·rw[if_neg d,ak.o a b];constructor
        ·rintro(j|⟨j,y⟩)
         ·exact xF j
         ·exact xR ⟨j,xF y⟩
        ·rintro(j|⟨j,y|y⟩)
         ·exact xF j
         ·exact xR ⟨j,y⟩
         ·exact absurd ⟨by omega,j⟩ d
      case measure=>simp[intOf];omega
     ·have aZ:fi<0:=by omega
      go_wp2;go_roundw
      case rel =>
       refine⟨i+1,T2,by omega,by omega,by go_num,r,fun a b=>?_,z⟩;rw[al.o a b,<- HI.o a b,ak.o a b];constructor
       ·rintro(j|⟨j,y⟩)
        ·exact xF j
        ·exact xR ⟨j,xF y⟩
       ·rintro(j|⟨j,y|y⟩)
        ·exact xF j
        ·exact xR ⟨j,y⟩
        ·omega
      case measure=>simp[intOf];omega
  ·have aM:¬(i:Int)<(V es:Int):=by omega
   clear K;go_wp2_with(first
    |(go_at_call 143;refine(CI gt (V es) C T _ HT.at_).mono ?_;rintro e w4 ⟨gc,aL,rfl,⟨aC,_,_⟩,aq⟩;have aH:=MS aC;have B4:=MS (dA HB.o (xW _) aq);clear aC aq)
    |(go_at_call 144;refine(JZ gc (V es) aL _ _ aH.at_).mono ?_;rintro e w5 ⟨rfl,rfl⟩))
   go_ret;refine⟨?_,B4.o⟩
   congr 2
   have aD:J.rnd (V es) (fun i k=>J.yes (TC (J.Rn (V es) T) i k))=Y↔J.Hang es base fr:=by
    unfold J.rnd J.Hang;rw[List.any_eq_true];have e:J.Rn (V es) T=fun a b=>a<V es/\b<V es/\J.uH es base fr a b:=by
     funext a b
     unfold J.Rn;apply propext;constructor
     ·rintro⟨l,m,h3⟩;exact⟨l,m,((HI.o a b).1 h3).2⟩
     ·rintro⟨l,m,h3⟩;exact⟨l,m,(HI.o a b).2 ⟨by omega,h3⟩⟩
    rw[e];constructor
    ·rintro⟨x,hx,l⟩;exact⟨x,List.mem_range.1 hx,J.bJ.1 l⟩
    ·rintro⟨x,hx,l⟩;exact⟨x,List.mem_range.2 hx,J.bJ.2 l⟩
   cases c:J.rnd (V es) fun i k=>J.yes (TC (J.Rn (V es) T) i k)
   ·rw[J.iQ fun k=>by rw[aD.2 k]at c;cases c]
    first|rfl|exact c
   ·rw[J.fS (aD.1 c)]
    first|rfl|exact c
namespace J
def cT(es:List E)(j k:Nat):Bool:=(ev es k).B.toList==kW&&((ev es k).loc==(ev es j).loc&&((ev es k).val==(ev es j).val&&!((ev es j).half&&(k:Int)==(j:Int)+1)))
def Legal(es:List E)(j:Nat)(x:Int):Prop:=if((ev es j).B.toList==kR)=Y then ∃k,k<V es/\x=(k:Int)/\cT es j k=Y else x=-1
structure RdX(es:List E)(base:List Int)(i:Nat)(fr f:List Int):Prop where
 len:V f=V es
 old:∀j,j<i->f.getD j 0=fr.getD j 0
 leg:∀j,i<=j->j<V es->Legal es j (f.getD j 0)
 no:¬Hang es base f
def pK(es:List E)(base regs:List Int)(i:Nat)(fr o:List Int):Prop:=∃f,RdX es base i fr f/\OrdP es f regs [] o
def RdC(es:List E)(base:List Int)(i:Nat)(fr:List Int):Prop:=∃f,RdX es base i fr f/\kY es f []
def dO{l:List Int}{x:Int}(h:i<V l):(l.set i x).getD i 0=x:=by simp[h]
section
variable {es:List E}{base fr fr' f:List Int}{i:Nat}
def Aq(h:∀j,j<i->fr'.getD j 0=fr.getD j 0):RdX es base i fr f↔RdX es base i fr' f :=
 ⟨fun k=>⟨k.len,fun j a=>(k.old j a).trans (h j a).symm,k.leg,k.no⟩,fun k=>⟨k.len,fun j a=>(k.old j a).trans (h j a),k.leg,k.no⟩⟩
def AY(d:i<V es)(n:V fr=V es):RdX es base i fr f↔∃x,Legal es i x/\RdX es base (i+1) (fr.set i x) f:=by
 constructor
 ·intro k;refine⟨f.getD i 0,k.leg i (xW _) d,k.len,fun j a=>?_,fun j a=>k.leg j (by omega),k.no⟩;by_cases c:j=i
  ·subst c;rw[dO (by omega)]
  ·rw[cE _ fun e=>c e.symm];exact k.old j (by omega)
 ·rintro⟨x,l,k⟩;have e:f.getD i 0=x:=by rw[k.old i (by omega),dO (by omega)]
  refine⟨k.len,fun j a=>?_,fun j m b=>?_,k.no⟩
  ·rw[k.old j (by omega),cE _ (by omega)]
  ·by_cases c:j=i
   ·subst c;rw[e];exact l
   ·exact k.leg j (by omega) b
def eU(c:V fr=V es):RdX es base (V es) fr f↔f=fr/\¬Hang es base fr:=by
 constructor
 ·intro k;have e:f=fr:=by
   apply List.ext_getElem (by rw[k.len,c]);intro j a b;have:=k.old j (by omega);simpa[a,b]using this
  subst e;exact⟨Z,k.no⟩
 ·rintro⟨rfl,h⟩;exact⟨c,fun _ _=>Z,fun j a b=>by omega,h⟩
def gE(regs o:List Int)(h:∀j,j<i->fr'.getD j 0=fr.getD j 0):pK es base regs i fr o↔pK es base regs i fr' o:=by
 unfold pK;exact exists_congr fun f=>and_congr_left fun _=>Aq h
def gL(h:∀j,j<i->fr'.getD j 0=fr.getD j 0):RdC es base i fr↔RdC es base i fr':=by
 unfold RdC;exact exists_congr fun f=>and_congr_left fun _=>Aq h
def lC(regs o:List Int)(d:i<V es)(e:V fr=V es):pK es base regs i fr o↔∃x,Legal es i x/\pK es base regs (i+1) (fr.set i x) o:=by
 unfold pK;constructor
 ·rintro⟨f,j,a⟩;obtain⟨x,c,b⟩:=(AY d e).1 j;exact⟨x,c,f,b,a⟩
 ·rintro⟨x,c,f,b,a⟩;exact⟨f,(AY d e).2 ⟨x,c,b⟩,a⟩
def lN(d:i<V es)(e:V fr=V es):RdC es base i fr↔∃x,Legal es i x/\RdC es base (i+1) (fr.set i x):=by
 unfold RdC;constructor
 ·rintro⟨f,j,a⟩;obtain⟨x,c,b⟩:=(AY d e).1 j;exact⟨x,c,f,b,a⟩
 ·rintro⟨x,c,f,b,a⟩;exact⟨f,(AY d e).2 ⟨x,c,b⟩,a⟩
end
end J
structure JR(w:World)(D:Nat->Prop)(g ge ce gf cf ga ca:Nat)(es:List J.E)(fr ats base regs:List Int)(pv rv bv ov:Value)(L:Nat)(rs:List (List Int))(c:Bool):Prop where
 blk:Blk w g (jw G pv (MU ge (V es) ce) rv bv (MU gf (V es) cf) (MU ga (V es) ca) ov c) 109
 ev:∀i,i<V es->SM w ge (i*10) (J.ev es i)
 le:ge<w.heap.size
 n:V es<1000
 on:∀i,i<V es->∃v,w.cell? ⟨ge,i*10+9,I⟩=U v/\OP w D v (J.ev es i).on
 fb:Blk w gf (NT fr) 3
 fl:V fr=V es
 ab:Blk w ga (NT ats) 3
 aok:J.AtOk es [] ats
 rg:QQ w D rv regs
 bs:QQ w (fun k=>k=g\/k=gf\/k=ga) bv base
 y:QP w D ov rs
 rise:QB rs
 ok:∀r∈rs,J.Ok L r
 len:V regs+3=L
 small:L<=19
 pos:0<V regs
 rng:∀x∈regs,0<=x/\x<4
 vals:∀i,i<V es->0<=(J.ev es i).val/\(J.ev es i).val<4
 half:∀i,i<V es->J.isStep (J.ev es i)=Y->i+1<V es
 three:3<=V es
 low:∀x,D x->x<w.heap.size
 dg:D g
 df:D gf
 da:D ga
 ne:ga≠gf
 onk:∀i,3<=i->i<V es->J.OnOk es base i
section
variable {w w':World}{D:Nat->Prop}{g ge ce gf cf ga ca:Nat}{es:List J.E}{fr fr' ats ats' base regs:List Int}{pv rv bv ov ov':Value}{L:Nat}{rs rs':List (List Int)}{c c':Bool}
def JR.jin(h:JR w D g ge ce gf cf ga ca es fr ats base regs pv rv bv ov L rs c):QG w g ge ce gf cf ga ca es fr ats :=
 ⟨h.blk.cell Z,h.blk.cell Z,h.blk.cell Z,h.ev,fun i a=>h.fb.cell (qQ (by rw[h.fl];exact a)),fun i a=>h.ab.cell (qQ (by rw[h.aok.len];exact a)),h.blk.lt,h.le,h.fb.lt,h.ab.lt,h.n⟩
def JR.jh(h:JR w D g ge ce gf cf ga ca es fr ats base regs pv rv bv ov L rs c):JH w D g ge ce gf cf ga ca es fr ats base bv :=
 ⟨h.jin,h.on,h.blk.cell Z,h.bs.of fun _ _ e=>e.elim,h.onk⟩
def JR.gR(h:JR w D g ge ce gf cf ga ca es fr ats base regs pv rv bv ov L rs c):g≠gf/\g≠ga/\ge≠g/\ge≠gf/\ge≠ga:=by
 have d:=h.three;have k:=h.ev 0 (by omega);have a:=k.k;have b:=k.t;simp only[Nat.zero_mul,x7]at a b;exact⟨h.blk.ne h.fb (by decide),h.blk.ne h.ab (by decide),h.blk.wS (i:=0) (u:=F G) Z b (by simp),h.fb.wS (i:=2) (qQ (by rw[h.fl];omega)) a (by simp),h.ab.wS (i:=2) (qQ (by rw[h.aok.len];omega)) a (by simp)⟩
def JR.eI(h:JR w D g ge ce gf cf ga ca es fr ats base regs pv rv bv ov L rs c)(a:JX (fun k=>k=g\/k=gf\/k=ga) w w')(C:Blk w' g (jw G pv (MU ge (V es) ce) rv bv (MU gf (V es) cf) (MU ga (V es) ca) ov' c') 109)(E:Blk w' gf (NT fr') 3)(o:V fr'=V es)(B:Blk w' ga (NT ats') 3)(m:J.AtOk es [] ats')(H:QP w' D ov' rs')(z:QB rs')(y:∀r∈rs',J.Ok L r):JR w' D g ge ce gf cf ga ca es fr' ats' base regs pv rv bv ov' L rs' c':=by
 obtain⟨X,n2,K,T,W⟩:=h.gR;have f:w'.heap[ge]?=w.heap[ge]?:=a.block ge h.le (by rintro(e|e|e);exact K e;exact T e;exact W e);have d:∀x,x<w.heap.size->x=g\/x=gf\/x=ga->D x:=fun x _ e=>by rcases e with rfl|rfl|rfl;exact h.dg;exact h.df;exact h.da
 refine⟨C,fun i p=>?_,x4 h.le a.size,h.n,fun i p=>?_,E,o,B,m,h.rg.x a d,h.bs.x a fun _ _ e=>e,H,z,y,h.len,h.small,h.pos,h.rng,h.vals,h.half,h.three,fun x k=>x4 (h.low x k) a.size,h.dg,h.df,h.da,h.ne,h.onk⟩
 ·have e:∀j,w'.cell? ⟨ge,j,I⟩=w.cell? ⟨ge,j,I⟩:=fun j=>gD f
  have k:=h.ev i p;exact⟨(e _).trans k.t,(e _).trans k.b,(e _).trans k.k,(e _).trans k.l,(e _).trans k.v,(e _).trans k.r,(e _).trans k.s,(e _).trans k.h,(e _).trans k.n⟩
 ·obtain⟨v,q,u⟩:=h.on i p;exact⟨v,(gD f).trans q,u.x a d⟩
def JR.X(h:JR w D g ge ce gf cf ga ca es fr ats base regs pv rv bv ov L rs c)(a:Below w.heap.size w w'):JR w' D g ge ce gf cf ga ca es fr ats base regs pv rv bv ov L rs c :=
 h.eI (JX.of a) (h.blk.X a) (h.fb.X a) h.fl (h.ab.X a) h.aok (h.y.x (JX.of (P:=fun _=>False) a) fun _ _ e=>e.elim) h.rise h.ok
def JR.set(h:JR w D g ge ce gf cf ga ca es fr ats base regs pv rv bv ov L rs c)(i:Nat)(x:Int):JR (w.setCell ⟨gf,i,I⟩ (M N x)) D g ge ce gf cf ga ca es (fr.set i x) ats base regs pv rv bv ov L rs c:=by
 obtain⟨a,b,d,f,j⟩:=h.gR;refine h.eI (JX.set (P:=fun k=>k=g\/k=gf\/k=ga) (JX.refl _ _) (xF (xR (xF Z))) _ _) (h.blk.bR _ _ a) ?_ (by simp[h.fl]) (h.ab.bR _ _ h.ne) h.aok (h.y.x (JX.set (P:=fun k=>k=gf) (JX.refl _ _) (xF Z) _ _) fun y _ e=>by rw[e];exact h.df) h.rise h.ok;have:=h.fb.set i (M N x);unfold NT at*;rw[List.map_set];exact this
def JR.jo(h:JR w D g ge ce gf cf ga ca es fr ats base regs pv rv bv ov L rs c)(j:J.Full es fr)(d:∀i,i<V es->fr.getD i 0<(V es:Int)):JO (w.alloc (S ((x1 (V es)).map fun _=>x2 G).toArray 4)) (fun k=>D k\/k=w.heap.size) g ge ce gf cf ga ca w.heap.size es fr regs pv rv bv ov L rs c [] ats:=by
 have b:Below w.heap.size w (w.alloc (S ((x1 (V es)).map fun _=>x2 G).toArray 4)):=(x5 _ _).alloc (xW _) _;have k:=h.X b;have lt:∀x,x<w.heap.size->D x\/x=w.heap.size->D x:=fun x l e=>e.elim id fun e=>by omega
 have f:QP (w.alloc (S ((x1 (V es)).map fun _=>x2 G).toArray 4)) (fun k=>D k\/k=w.heap.size) ov rs:=(h.y.of lt).x (JX.of (P:=fun _=>False) b) fun _ _ e=>e.elim;have a:QQ (w.alloc (S ((x1 (V es)).map fun _=>x2 G).toArray 4)) (fun k=>D k\/k=w.heap.size) rv regs:=(h.rg.of lt).x (JX.of (P:=fun _=>False) b) fun _ _ e=>e.elim;refine⟨⟨k.blk,k.jin,a.of fun _ _ e=>e.elim,f,h.rise,h.ok,h.len,h.small,h.pos,h.rng,h.vals,j,d,h.half,h.three,fun x e=>?_,xF h.dg⟩,k.ab,h.aok,?_,a,h.ne,xF h.da,xR Z⟩
 ·rcases e with e|e
  ·exact k.low x e
  ·rw[e];simp
 ·have:=Blk.new w ((x1 (V es)).map fun _=>x2 G) 4;simpa[RZ]using this
end
def Ry(w w':World)(D:Nat->Prop)(g ge ce gf cf ga ca:Nat)(es:List J.E)(fr base regs:List Int)(pv rv bv:Value)(L:Nat)(rs:List (List Int))(c:Bool)(i:Nat)(P:List Int->Prop)(C:Prop):Prop :=
 ∃ov' rs' c' fr' ats',JR w' D g ge ce gf cf ga ca es fr' ats' base regs pv rv bv ov' L rs' c'/\(∀j,j<i->fr'.getD j 0=fr.getD j 0)/\JX (fun k=>k=g\/k=gf\/k=ga) w w'/\J.Grew L rs rs' c c' P C
def BY(g ge ce gf cf ga ca:Nat)(es:List J.E)(base regs:List Int)(pv rv bv:Value)(L:Nat)(D:Nat->Prop)(i:Nat):Prop :=
 ∀(w:World) (ov:Value) (rs:List (List Int)) (c:Bool) (fr ats:List Int),JR w D g ge ce gf cf ga ca es fr ats base regs pv rv bv ov L rs c->(∀j,j<i->J.Legal es j (fr.getD j 0)) ->
  Calls prog 77 #[.pointer (U ⟨g,0,I⟩),M N (i:Int)] w fun e w'=>e=A (.tuple #[])/\Ry w w' D g ge ce gf cf ga ca es fr base regs pv rv bv L rs c i (J.pK es base regs i fr) (J.RdC es base i fr)
section
variable {g ge ce gf cf ga ca:Nat}{es:List J.E}{base regs:List Int}{pv rv bv:Value}{L:Nat}{D:Nat->Prop}
def Rz(es:List J.E):J.dW es []<=V es:=by
 unfold J.dW;have:=List.length_filter_le (fun i=>decide (3<=i)&&(J.ev es i).B.toList==J.kW&&!decide (i∈([]:List Nat))) (x1 (V es));simpa using this
def R4:BY g ge ce gf cf ga ca es base regs pv rv bv L D (V es):=by
 intro w ov rs c fr r h d;have hF:J.Full es fr:=fun i hi hk=>by
  have:=d i hi;unfold J.Legal at this;rw[if_pos hk]at this;obtain⟨k,j,s,_⟩:=this;omega
 have B:∀i,i<V es->fr.getD i 0<(V es:Int):=fun i hi=>by
  have:=d i hi;unfold J.Legal at this
  split at this
  ·obtain⟨k,j,s,_⟩:=this;omega
  ·omega
 have H:=MS h;have HF:=MS hF;have q:=MS B;have c2:=h.blk.cell (i:=2) (v:=MU ge (V es) ce) Z;have lg:=h.blk.lt;have hn:=h.n;clear h d hF B;by_cases hh:J.Hang es base fr
 ·have T:=MS (J.fS hh);go_enter func77,ntmps77;go_wp2_with(first
   |(go_at_call 118;refine(Ap g ge ce gf cf ga ca es fr r base bv D _ H.jh q.o H.three).mono ?_;rintro e w1 ⟨rfl,a⟩;rw[T.o];have p:=MS a;clear a))
  refine bodyPost_ret (results_none Z _ _ _) Z ?_;refine⟨Z,ov,rs,c,fr,r,H.X p.o,fun _ _=>Z,JX.of p.o,(J.Grew.refl H.rise H.ok).to (fun o=>?_) ?_⟩
  ·exact⟨False.elim,fun⟨f,j,_⟩=>((J.eU H.fl).1 j).2 hh⟩
  ·exact⟨False.elim,fun⟨f,j,_⟩=>((J.eU H.fl).1 j).2 hh⟩
 ·have T:=MS (J.iQ hh);have ae:∀w,(x8 189 (M N (V es:Int)) (M N (V es:Int))).run prog w=.ok (MU w.heap.size (V es) (V es)) (w.alloc (S ((x1 (V es)).map fun _=>x2 G).toArray 4)):=fun w=>by
   rw[<- zM];exact run_make_row' 189 4 (F G) 1 underlying189 Tryz.infoB Z N N (V es) (by omega) (by omega) w
  go_enter func77,ntmps77;go_wp2_with(first
   |(go_at_call 118;refine(Ap g ge ce gf cf ga ca es fr r base bv D _ H.jh q.o H.three).mono ?_;rintro e w1 ⟨rfl,a⟩;rw[T.o];have p:=MS a;have q2:=MZ a lg c2;have af:=x4 lg a.size;have HC:=MS (Rx (J.dW es []) [] Z (by have:=Rz es;simpa using this) _ _ _ _ _ ((H.X a).jo HF.o q.o));clear a)
   |(go_at_call 119;refine Calls.mono (HC.o) ?_;rintro e w5 ⟨rfl,ac,ad,W,u,m,C,l⟩;have b:=MS m;have t:=MS C;have K:=MS l;clear m C l))
  refine bodyPost_ret (results_none Z _ _ _) Z ?_;have z:Below w.heap.size w (w1.alloc (S ((x1 (V es)).map fun _=>x2 G).toArray 4)):=p.alloc p.size _;have E:JX (fun k=>k=g\/k=gf\/k=ga) w w5:=(JX.of z).trans t.o fun x hx e=>by
   rcases e with e|e|e
   ·exact xF e
   ·exact xR (xR e)
   ·have:=p.size;omega
  have aa:¬(gf=g\/gf=ga\/gf=w1.heap.size):=by
   rintro(e|e|e)
   ·exact H.gR.1 e.symm
   ·exact H.ne e.symm
   ·have:=H.fb.lt;have:=p.size;omega
  refine⟨Z,ac,ad,W,fr,u,H.eI E b.jj.blk ((H.fb.X z).x t.o aa) H.fl b.ab b.ok (b.jj.y.of fun x _ e=>xF e) b.jj.rise b.jj.ok,fun _ _=>Z,E,K.to (fun o=>?_) ?_⟩
  ·constructor
   ·intro k;exact⟨fr,(J.eU H.fl).2 ⟨Z,hh⟩,k⟩
   ·rintro⟨f,j,s⟩;rw[((J.eU H.fl).1 j).1]at s;exact s
  ·constructor
   ·intro k;exact⟨fr,(J.eU H.fl).2 ⟨Z,hh⟩,k⟩
   ·rintro⟨f,j,s⟩;rw[((J.eU H.fl).1 j).1]at s;exact s
end
def R5(p q r s t:Bool):p=G\/p=Y/\q=G\/p=Y/\q=Y/\r=G\/p=Y/\q=Y/\r=Y/\s=G\/p=Y/\q=Y/\r=Y/\s=Y/\t=G\/p=Y/\q=Y/\r=Y/\s=Y/\t=Y:=by
 cases p<;>cases q<;>cases r<;>cases s<;>cases t<;>simp
section
variable {g ge ce gf cf ga ca:Nat}{es:List J.E}{base regs:List Int}{pv rv bv:Value}{L:Nat}{D:Nat->Prop}
def R7(hi:i<V es)(IH:BY g ge ce gf cf ga ca es base regs pv rv bv L D (i+1)):BY g ge ce gf cf ga ca es base regs pv rv bv L D i:=by
 intro w ov rs c fr aE h ag;have H:=MS h;have HL:=MS ag;have au:=MS IH;have hn:=h.n;have aH:(i:Int)<(V es:Int):=by omega
 have aI:((i:Int)==(V es:Int))=G:=by simp;omega
 have c2:=h.blk.cell (i:=2) (v:=MU ge (V es) ce) Z;have c5:=h.blk.cell (i:=5) (v:=MU gf (V es) cf) Z;have lg:=h.blk.lt;have le:=h.le;have lf:=h.fb.lt;have ff:=h.fb.free i;have az:=h.fb.cell (qQ (l:=fr) (i:=i) (by rw[h.fl];exact hi));have HS:=MS (h.set i (-1));obtain⟨_,_,ik,_,_,_,_,_,_⟩:=(h.set i (-1)).ev i hi;have ax:MT (JX (fun k=>k=g\/k=gf\/k=ga) w (w.setCell ⟨gf,i,I⟩ (M N (-1)))):=JX.set (P:=fun k=>k=g\/k=gf\/k=ga) (JX.refl _ _) (xF (xR (xF Z))) _ _;have av:MT (∀j,j<i->(fr.set i (-1)).getD j 0=fr.getD j 0):=fun j hj=>J.cE _ (by omega)
 have K:MT (V fr=V es):=h.fl;clear h ag IH
 cases z:(J.ev es i).B.toList==J.kR
 ·have f:MT (∀x,J.Legal es i x↔x=-1):=fun x=>by unfold J.Legal;rw[z];simp
  have ac:∀j,j<i+1->J.Legal es j ((fr.set i (-1)).getD j 0):=fun j hj=>by
   by_cases e:j=i
   ·subst e;rw[J.dO (by rw[K.o];exact hi)];exact(f.o _).2 Z
   ·rw[J.cE _ fun k=>e k.symm];exact HL.o j (by omega)
  have a:=au.o _ _ _ _ _ _ HS.o ac;rw[show(((i+1:Nat):Nat):Int)=(i:Int)+1 by omega]at a;have HC:=MS a;have q1:=BJ z;simp only[J.kR]at z q1;clear a ac;go_enter func77,ntmps77;go_wp2_with(first
   |(go_at_call 77;refine HC.mono ?_;rintro e w5 ⟨rfl,aq,ar,an,ao,ab,C,m,ad,u⟩;have aj:=MS C;have al:=MS m;have am:=MS ad;have ai:=MS u;clear C m ad u))
  refine bodyPost_ret (results_none Z _ _ _) Z ?_;refine⟨Z,aq,ar,an,ao,ab,aj.o,fun j hj=>(al.o j (by omega)).trans (av.o j hj),ax.trans am.o fun _ _ e=>e,ai.to (fun o=>?_) ?_⟩
  ·rw[J.lC regs o hi K.o];exact⟨fun k=>⟨-1,(f.o _).2 Z,k⟩,fun⟨x,hx,k⟩=>by rw[(f.o x).1 hx]at k;exact k⟩
  ·rw[J.lN hi K.o];exact⟨fun k=>⟨-1,(f.o _).2 Z,k⟩,fun⟨x,hx,k⟩=>by rw[(f.o x).1 hx]at k;exact k⟩
 ·have f:MT (∀x,J.Legal es i x↔∃k,k<V es/\x=(k:Int)/\J.cT es i k=Y):=fun x=>by unfold J.Legal;rw[z];simp
  have q1:=BJ z;simp only[J.kR]at z q1;go_enter func77,ntmps77;go_wp2;generalize w.setCell ⟨gf,i,I⟩ (M N (-1))=W at*;clear c2 c5 lg le lf ff az ik;go_loopw[6] (fun q wr=>∃(k:Nat) (af:Value) (aa:List (List Int)) (T:Bool) (r E:List Int),k<=V es/\q=M N k/\MT (JR wr D g ge ce gf cf ga ca es r E base regs pv rv bv af L aa T)/\MT (∀j,j<i->r.getD j 0=fr.getD j 0)/\MT (JX (fun k=>k=g\/k=gf\/k=ga) w wr)/\MT (J.Grew L rs aa c T (fun o=>∃x:Nat,x<k/\J.cT es i x=Y/\J.pK es base regs (i+1) (fr.set i (x:Int)) o) (∃x:Nat,x<k/\J.cT es i x=Y/\J.RdC es base (i+1) (fr.set i (x:Int))))) fun q _=>V es-(intOf q).toNat
  case atStart =>
   refine⟨0,ov,rs,c,fr.set i (-1),aE,Nat.zero_le _,Z,HS,av,ax,(J.Grew.refl H.rise H.ok).to (fun o=>?_) ?_⟩
   ·exact⟨False.elim,fun⟨x,hx,_⟩=>by omega⟩
   ·exact⟨False.elim,fun⟨x,hx,_⟩=>by omega⟩
  case round =>
   obtain⟨k,af,aa,T,r,E,hk,rfl,HJ,HO,HX,HG⟩:=hrel;have c2:=HJ.blk.cell (i:=2) (v:=MU ge (V es) ce) Z;have lg:=HJ.blk.lt;have le:=HJ.le;by_cases hkt:k<V es
   ·have aF:(k:Int)<(V es:Int):=by omega
    obtain⟨_,_,_,il,iv,_,_,ih,_⟩:=HJ.ev i hi;obtain⟨_,_,kk,kl,kv,_,_,_,_⟩:=HJ.ev k hkt;have HM:MT (J.cT es i k=((J.ev es k).B.toList==J.kW&&((J.ev es k).loc==(J.ev es i).loc&&((J.ev es k).val==(J.ev es i).val&&!((J.ev es i).half&&(k:Int)==(i:Int)+1))))):=Z;have ak:MT (J.cT es i k=G->J.Grew L rs aa c T (fun o=>∃x:Nat,x<k+1/\J.cT es i x=Y/\J.pK es base regs (i+1) (fr.set i (x:Int)) o) (∃x:Nat,x<k+1/\J.cT es i x=Y/\J.RdC es base (i+1) (fr.set i (x:Int)))):=fun hp=>by
     refine HG.to (fun o=>⟨fun⟨x,h1,d⟩=>⟨x,by omega,d⟩,fun⟨x,h1,d,t⟩=>⟨x,?_,d,t⟩⟩) ⟨fun⟨x,h1,d⟩=>⟨x,by omega,d⟩,fun⟨x,h1,d,t⟩=>⟨x,?_,d,t⟩⟩
     ·by_cases e:x=k
      ·subst e;rw[hp]at d;cases d
      ·omega
     ·by_cases e:x=k
      ·subst e;rw[hp]at d;cases d
      ·omega
    have aJ:(i:Int)+1<2000:=by omega
    go_upto_region 12 with fail
    go_cut[8]from 49 to 115 fun s wx=>∃b,s=F b/\MT (b=((J.ev es i).half&&(k:Int)==(i:Int)+1))/\wx=wr
    case first =>
     cases y1:(J.ev es i).half<;>cases y2:(k:Int)==(i:Int)+1
     all_goals
      rw[y1]at ih;go_wp2;go_meet
      case rel=>exact⟨_,Z,by unfold MT;rw[y1,y2];rfl,Z⟩
    obtain⟨ow,rfl,aw,rfl⟩:=hcut;rw[<- aw.o]at HM;clear ih;go_upto_region 13 with fail
    go_cut[104]from 49 to 115 fun s wx=>∃b,s=F b/\MT (J.cT es i k=b)/\∃nq,wx=wc.drewN nq
    case first =>
     clear ak
     cases ow<;>rcases R5 ((J.ev es k).B.toList==J.kW) ((J.ev es k).loc==(J.ev es i).loc) ((J.ev es k).val==(J.ev es i).val) Y Y with p1|⟨p1,p2⟩|⟨p1,p2,p3⟩|⟨p1,p2,p3,p4⟩|⟨p1,p2,p3,p4,p5⟩|⟨p1,p2,p3,p4,p5⟩
     all_goals(first|(exfalso;cases p4;done)|(exfalso;cases p5;done)|skip)
     all_goals
      have HW:=HM.o;simp only[*,Bool.and_true,Bool.true_and,Bool.and_false,Bool.false_and,Bool.not_true,Bool.not_false]at HW;have aC:=MS HW;clear HW HM;simp only[J.kW]at p1;go_quiet (fail);go_wp2;go_meet
      case rel=>exact⟨_,Z,aC.o,nq,Z⟩
    obtain⟨mb,rfl,ae,ap,rfl⟩:=hcut;clear HM aw c2 lg le il iv kk kl kv;have p:=MS (HJ.X (PZ _ _ ap));have ay:=MS (HX.X (PZ _ _ ap));generalize wc.drewN ap=W2 at*;cases mb
    ·have HN:=MS (ak.o ae.o);clear ak;go_wp2;go_roundw
     case rel=>exact⟨k+1,af,aa,T,r,E,by omega,by go_num,p,HO,ay,HN⟩
     case measure=>simp[intOf];omega
    ·have c5:=p.blk.cell (i:=5) (v:=MU gf (V es) cf) Z;have lg:=p.blk.lt;have lf:=p.fb.lt;have ff:=p.fb.free i;have az:=p.fb.cell (qQ (l:=r) (i:=i) (by rw[p.fl];exact hi));have aB:=MS (p.set i (k:Int));have aD:MT (JX (fun k=>k=g\/k=gf\/k=ga) w (W2.setCell ⟨gf,i,I⟩ (M N (k:Int)))):=JX.set (P:=fun k=>k=g\/k=gf\/k=ga) ay.o (xF (xR (xF Z))) _ _;have aA:∀j,j<i+1->(r.set i (k:Int)).getD j 0=(fr.set i (k:Int)).getD j 0:=fun j hj=>by
      by_cases e:j=i
      ·subst e;rw[J.dO (by rw[p.fl];exact hi),J.dO (by rw[K.o];exact hi)]
      ·rw[J.cE _ fun k=>e k.symm,J.cE _ fun k=>e k.symm];exact HO.o j (by omega)
     have ac:∀j,j<i+1->J.Legal es j ((r.set i (k:Int)).getD j 0):=fun j hj=>by
      by_cases e:j=i
      ·subst e;rw[J.dO (by rw[p.fl];exact hi)];exact(f.o _).2 ⟨k,hkt,Z,ae.o⟩
      ·rw[J.cE _ fun k=>e k.symm,HO.o j (by omega)];exact HL.o j (by omega)
     have a:=au.o _ _ _ _ _ _ aB.o ac;rw[show(((i+1:Nat):Nat):Int)=(i:Int)+1 by omega]at a;have HC:=MS a;have ah:=MS aA;clear a ac aA;go_wp2_with(first
      |(go_at_call 77;refine HC.mono ?_;rintro e w5 ⟨rfl,aq,ar,an,ao,ab,C,m,ad,u⟩;have aj:=MS C;have al:=MS m;have am:=MS ad;have ai:=MS u;clear C m ad u))
     go_roundw
     case rel =>
      refine⟨k+1,aq,ar,an,ao,ab,by omega,by go_num,aj,fun j hj=>?_,aD.trans am.o fun _ _ e=>e,(HG.trans ai.o).to (fun o=>?_) ?_⟩
      ·rw[al.o j (by omega),ah.o j (by omega),J.cE _ (by omega)]
      ·rw[J.gE regs o fun j hj=>(ah.o j hj).symm];constructor
       ·rintro(⟨x,h1,d⟩|h1)
        ·exact⟨x,by omega,d⟩
        ·exact⟨k,by omega,ae.o,h1⟩
       ·rintro⟨x,h1,d,t⟩;by_cases e:x=k
        ·subst e;exact xR t
        ·exact xF ⟨x,by omega,d,t⟩
      ·rw[J.gL fun j hj=>(ah.o j hj).symm];constructor
       ·rintro(⟨x,h1,d⟩|h1)
        ·exact⟨x,by omega,d⟩
        ·exact⟨k,by omega,ae.o,h1⟩
       ·rintro⟨x,h1,d,t⟩;by_cases e:x=k
        ·subst e;exact xR t
        ·exact xF ⟨x,by omega,d,t⟩
     case measure=>simp[intOf];omega
   ·have aF:¬(k:Int)<(V es:Int):=by omega
    go_wp2;go_end0;refine⟨Z,af,aa,T,r,E,HJ.o,HO.o,HX.o,HG.to (fun o=>?_) ?_⟩
    ·rw[J.lC regs o hi K.o];constructor
     ·rintro⟨x,aG,d,t⟩;exact⟨x,(f.o _).2 ⟨x,by omega,Z,d⟩,t⟩
     ·rintro⟨x,hx,t⟩;obtain⟨y,h1,rfl,d⟩:=(f.o x).1 hx;exact⟨y,by omega,d,t⟩
    ·rw[J.lN hi K.o];constructor
     ·rintro⟨x,aG,d,t⟩;exact⟨x,(f.o _).2 ⟨x,by omega,Z,d⟩,t⟩
     ·rintro⟨x,hx,t⟩;obtain⟨y,h1,rfl,d⟩:=(f.o x).1 hx;exact⟨y,by omega,d,t⟩
def Ar:∀(m i:Nat),i+m=V es->BY g ge ce gf cf ga ca es base regs pv rv bv L D i
 |0,i,h=>by
  have:i=V es:=by omega
  rw[this];exact R4
 |m+1,i,h=>R7 (by omega) (Ar m (i+1) (by omega))
end
def SlC(w:World)(v:Value)(k:Nat)(cs:List Value)(sz:Nat):Prop :=
 v=O I 0 0/\k=0/\cs=[]\/∃b cap,v=MU b k cap/\(∀j u,cs[j]?=U u->w.cell? ⟨b,j,I⟩=U u)/\b<w.heap.size/\k<=cap/\V cs=k*sz/\0<k
section
variable {w w':World}{v:Value}{k sz:Nat}{cs:List Value}
def SlC.keep(h:SlC w v k cs sz)(e:∀b,v.ownBlock=U b->w'.heap[b]?=w.heap[b]?)(hs:w.heap.size<=w'.heap.size):SlC w' v k cs sz:=by
 rcases h with h|⟨b,a,rfl,c,d,f⟩
 ·exact xF h
 ·exact xR ⟨b,a,Z,fun j u l=>(gD (e b Z)).trans (c j u l),x4 d hs,f⟩
def SlC.lt(h:SlC w v k cs sz):∀b,v.ownBlock=U b->b<w.heap.size:=fun b a=>by
 rcases h with⟨rfl,_⟩|⟨e,c,rfl,f,d,j⟩
 ·cases a
 ·cases a;exact d
def SlC.form(h:SlC w v k cs sz):∃a c,v=O a k c/\k<=c:=by
 rcases h with⟨rfl,rfl,_⟩|⟨b,d,rfl,_,_,e,_⟩
 ·exact⟨I,0,Z,xW _⟩
 ·exact⟨_,d,Z,e⟩
def SlC.own{B:Nat}{e:TypeId}(h:w.ownsRow B e sz v k cs)(q:0<k):SlC w v k cs sz:=by
 obtain⟨c,h⟩:=h
 rcases h with⟨_,m⟩|⟨g,b,a,l,m,d,n,r,s,o⟩
 ·omega
 ·refine xR ⟨g,b,l,fun j u f=>?_,(Array.getElem?_eq_some_iff.1 d).1,n,c,q⟩;have p:=(List.getElem?_eq_some_iff.1 f).1;have e2:(a.toList.take (k*sz))[j]?=a.toList[j]?:=by rw[List.getElem?_take,if_pos (by rw[<- c];exact p)]
  rw[o,f]at e2;have e3:a[j]?=U u:=by rw[<- Array.getElem?_toList,<- e2]
  simp[World.cell?,d,e3]
end
def rG(w:World)(a:Option Addr)(k:Nat)(cs:List Value)(sz:Nat):Prop:=a=I/\k=0/\cs=[]\/∃b,a=U ⟨b,0,I⟩/\(∀j u,cs[j]?=U u->w.cell? ⟨b,j,I⟩=U u)/\b<w.heap.size/\V cs=k*sz
def SlQ(w:World)(v:Value)(k:Nat)(cs:List Value)(sz:Nat):Prop:=∃a c,v=O a k c/\k<=c/\rG w a k cs sz
section
variable {w w':World}{v:Value}{k sz:Nat}{cs:List Value}
def SlQ.lt(h:SlQ w v k cs sz):∀b,v.ownBlock=U b->b<w.heap.size:=fun b d=>by
 obtain⟨a,c,rfl,_,h⟩:=h
 rcases h with⟨rfl,_⟩|⟨f,rfl,_,e,_⟩
 ·cases d
 ·cases d;exact e
def SlQ.keep(h:SlQ w v k cs sz)(e:∀b,v.ownBlock=U b->w'.heap[b]?=w.heap[b]?)(hs:w.heap.size<=w'.heap.size):SlQ w' v k cs sz:=by
 obtain⟨a,c,rfl,m,h⟩:=h;refine⟨a,c,Z,m,h.imp id fun⟨b,e1,d,f,l⟩=>?_⟩;subst e1;exact⟨b,Z,fun j u n=>(gD (e b Z)).trans (d j u n),x4 f hs,l⟩
def SlC.q(h:SlC w v k cs sz):SlQ w v k cs sz:=by
 rcases h with⟨rfl,rfl,rfl⟩|⟨b,a,rfl,c,d,e,f,_⟩
 ·exact⟨I,0,Z,xW _,xF ⟨Z,Z,Z⟩⟩
 ·exact⟨_,a,Z,e,xR ⟨b,Z,c,d,f⟩⟩
def SlQ.c(h:SlQ w v k cs sz)(m:0<k):SlC w v k cs sz:=by
 obtain⟨a,c,rfl,l,h⟩:=h
 rcases h with⟨_,e,_⟩|⟨b,rfl,d,f,j⟩
 ·omega
 ·exact xR ⟨b,c,Z,d,f,l,j,m⟩
def rG.head{a:Option Addr}{m:Nat}{cs':List Value}(h:rG w a m (cs++cs') sz)(f:V cs=k*sz)(n:k<=m):rG w a k cs sz:=by
 rcases h with⟨rfl,d,c⟩|⟨b,rfl,d,c,l⟩
 ·exact xF ⟨Z,by omega,(List.append_eq_nil_iff.1 c).1⟩
 ·exact xR ⟨b,Z,fun j u e=>d j u (by rw[List.getElem?_append_left (List.getElem?_eq_some_iff.1 e).1];exact e),c,f⟩
end
def R8(w:World)(t L e:TypeId)(i:TypeInfo)(z:Value)(d f:Nat)(K:prog.underlying t=U (.slice e))(X:prog.info? e=U i)(h3:i.zero=U z)(h4:i.size=d)(h5:i.bytes=f)(h6:z.cells.size=d)(h7:0<d)(a:Option Addr)(n m:Nat)(x:Value)(l k:List Value)(hs:rG w a n l d)(hx:SlC w x m k d)(W:∀u∈k,u.oneCell'=Y)(h0:0<n+m)(hn:n+m<100000)(aa:f<=1000):
  ∃o p w',(Builtin.append_ #[t,t] L #[O a n n,x]).run prog w=.ok (O o (n+m) p) w'/\SlC w' (O o (n+m) p) (n+m) (l++k) d/\Below w.heap.size w w'/\∀b,x3 (O o (n+m) p)=U b->x3 (O a n n)=U b\/w.heap.size<=b:=by
 have s:(n+m)*f<=140737488355328:=by
  have:(n+m)*f<=100000*1000:=Nat.mul_le_mul (by omega) aa;omega
 have fin:∀r w',w'.ownsRow w.heap.size e d r (n+m) (l++k)->w.grownBy w' I->0<n+m->∃o p,r=O o (n+m) p/\SlC w' (O o (n+m) p) (n+m) (l++k) d/\Below w.heap.size w w'/\∀b,x3 (O o (n+m) p)=U b->x3 (O a n n)=U b\/w.heap.size<=b:=fun r w' C hg hk=>by
  obtain⟨o,p,rfl⟩:=RL C;exact⟨o,p,Z,SlC.own C hk,Ge hg,fun b s=>xR (C.lt b s).1⟩
 rcases hx with⟨rfl,rfl,rfl⟩|⟨T,cx,rfl,hc,lx,ac,J,hm⟩
 ·refine⟨a,n,w,?_,?_,x5 _ _,fun b s=>xF (by simpa using s)⟩
  rotate_left
  ·rcases hs with⟨_,y,_⟩|⟨b,rfl,y,E,H⟩
   ·omega
   ·exact xR ⟨b,n,by simp,by simpa using y,E,by simp,by simpa using H,by omega⟩
  have:=run_append_nothing (P:=prog) w t t L e i K X a n n (xW _) (O I 0 0) (Src.ofNil w K 0);simpa using this
 ·have B:∀j u,k[j]?=U u->w.cell? ((⟨T,0,I⟩:Addr).add j)=U u:=fun j u hu=>by rw[RK,x7];exact hc j u hu
  rcases hs with⟨rfl,rfl,rfl⟩|⟨bs,rfl,C,ls,ab⟩
  ·skip
   obtain⟨r,w',q,r1,r2,_⟩:=run_append_own (P:=prog) w w.heap.size t L e i z d f K X h3 h4 h5 h6 h7 (O I 0 0) 0 [] (World.ownsRow_nil w _ e d) ⟨T,0,I⟩ m cx k J B W (by unfold maxLen;omega) (by simpa using s) (xW _);obtain⟨o,p,rfl,y,E,H⟩:=fin r w' r1 r2 (by omega);exact⟨o,p,w',q,y,E,H⟩
  ·obtain⟨r,w',q,r1,r2⟩:=run_append_arg_grows (P:=prog) w t L e i z d f K X h3 h4 h5 h6 h7 ⟨bs,0,I⟩ n n l ab (fun j u hu=>by rw[RK,x7];exact C j u hu) ⟨T,0,I⟩ m cx k J B (by omega) (by unfold maxLen;omega) s;obtain⟨o,p,rfl,y,E,H⟩:=fin r w' r1 r2 (by omega);exact⟨o,p,w',q,y,E,H⟩
def As{v:Array Oper}{o:Oper}{l:Act}{K:Act->World->Prop}{Q:Exit->Act->World->Prop}{E:Prop}(H:o.guard=I)(s y:Operand)(t:TypeId)(ho:o.op=.call {callee:=.builtin .append,args:=#[s,y],argTypes:=#[t,t]})(e:TypeId)(i:TypeInfo)(z:Value)(d f:Nat)(W:prog.underlying t=U (.slice e))(X:prog.info? e=U i)(h3:i.zero=U z)(h4:i.size=d)(h5:i.bytes=f)(h6:z.cells.size=d)(h7:0<d)(a:Option Addr)(n m:Nat)(x:Value)(k j:List Value)(J:l.eval s=O a n n)(hs:rG w a n k d)(L:l.eval y=x)(hx:SlC w x m j d)(B:∀u∈j,u.oneCell'=Y)(T:0<n+m)(hn:n+m<100000)(C:f<=1000)(hK:∀p q w',SlC w' (O p (n+m) q) (n+m) (k++j) d->Below w.heap.size w w'->(∀b,x3 (O p (n+m) q)=U b->x3 (O a n n)=U b\/w.heap.size<=b)->K (l.put o.dst (O p (n+m) q)) w'):
  if Region.wanted o (yielded v l.tmps)=Y then Oper.wp prog o l w K Q else E:=by
 have hw:Region.wanted o (yielded v l.tmps)=Y:=by simp[Region.wanted,H]
 rw[if_pos hw];obtain⟨p,q,w',r,k1,k2,k3⟩:=R8 w t o.type e i z d f W X h3 h4 h5 h6 h7 a n m x k j hs hx B T hn C;unfold Oper.wp;simp[execOp,ho,resolve,invoke,builtin,J,L,r,Result.andThen];exact hK p q w' k1 k2 k3
