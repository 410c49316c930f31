import Derived.Test.YtehclbpoabdpoaaGreatDoorO18
import Derived.Test.YtehclbpoabdpoaaGreatDoorO33
set_option linter.all false
set_option maxHeartbeats 0
namespace Go.Proofs.YtehclbpoabdpoaaGreatDoor
open Go Go.RowKit Go.Proofs.Tryz P Q
open scoped Classical
set_option maxRecDepth 1000000
variable {w:World}{B b i n sz:Nat}{e t:TypeId}{v:Value}{xs:List Value}{rs:List (List Int)}{ats l:List Int}{es:List J.E}{seq':List Nat}{P':List Int->Prop}{C C':Prop}
open List renaming length->V
open Option renaming none->Y,some->G
open Bool renaming false->O,true->T
open Go.Value renaming bool->I,int->M,slice->F
open Go.IntKind renaming i64->U
open Or renaming inl->xF,inr->x5
open Nat renaming lt_of_lt_of_le->xR,le_refl->xW,le_trans->x4,zero_le->x7,mul_le_mul_right->xh
open List renaming range->x3,mem_cons_of_mem->x6,getElem?_eq_getElem->xa,length_cons->xb,append_nil->xc,idxOf_append->xd,take_succ_eq_append_getElem->xe,range_succ->xi,getElem_cons_zero->xj,filter_append->xl,length_append->xm,getD_eq_getElem?_getD->xn
open Go.RowKit.Below renaming refl->x8
open Go.Value renaming oneCell'->x9
open Go.World renaming ownsRow_nil->xg
namespace J
def dQ(rs:List (List Int))(o:List Int)(i:Nat)(b:Bool)(A:List (List Int)):Prop :=
 (b=O/\A=rs.take i/\∀j (h:j<V rs),j<i->cmp rs[j] o<0)\/b=T/\∃(p:Nat) (hp:p<V rs),p<i/\(∀j (h:j<V rs),j<p->cmp rs[j] o<0)/\0<cmp rs[p] o/\A=rs.take p++o::(rs.drop p).take (i-p)
section
variable {rs:List (List Int)}{o:List Int}{i:Nat}{A:List (List Int)}
def dQ.LJ(h:dQ rs o i O A)(d:i<V rs)(a:cmp rs[i] o<0):dQ rs o (i+1) O (A++[rs[i]]):=by
 rcases h with⟨_,rfl,h⟩|⟨h,_⟩
 ·refine xF ⟨Z,by rw[xe d],fun j f g=>?_⟩;by_cases c:j=i
  ·subst c;exact a
  ·exact h j f (by omega)
 ·cases h
def dQ.mF(h:dQ rs o i O A)(c:i<V rs)(d:0<cmp rs[i] o):dQ rs o (i+1) T (A++[o]++[rs[i]]):=by
 rcases h with⟨_,rfl,h⟩|⟨h,_⟩
 ·refine x5 ⟨Z,i,c,by omega,fun j f a=>h j f a,d,?_⟩;have e:(rs.drop i).take 1=[rs[i]]:=by rw[List.drop_eq_getElem_cons c];rfl
  rw[show i+1-i=1 by omega,e];simp
 ·cases h
def dQ.on(h:dQ rs o i T A)(g:i<V rs):dQ rs o (i+1) T (A++[rs[i]]):=by
 rcases h with⟨h,_⟩|⟨_,p,d,f,a,c,rfl⟩
 ·cases h
 ·refine x5 ⟨Z,p,d,by omega,a,c,?_⟩;rw[show i+1-p=i-p+1 by omega,xe (l:=rs.drop p) (by simp;omega)];have e:(rs.drop p)[i-p]'(by simp;omega)=rs[i]:=by rw[List.getElem_drop];congr 1;omega
  rw[e];simp
def dQ.ne(h:dQ rs o i T A)(c:i<V rs)(a:QB rs):cmp rs[i] o≠0:=by
 rcases h with⟨h,_⟩|⟨_,p,d,f,g,j,_⟩
 ·cases h
 ·intro e;have:=YM a o i p d c (by omega) (by omega);have l:=List.pairwise_iff_getElem.1 a p i d c f;rw[GC e]at l;omega
def dQ.same(h:dQ rs o i O A)(c:i<V rs)(e:rs[i]=o):eY rs o=rs:=by
 rcases h with⟨_,rfl,h⟩|⟨h,_⟩
 ·have a:aM rs o=i:=zK (by omega) h (fun _=>by rw[e,tE];omega);rw[AJ];rw[dif_pos (by rw[a];exact c)];simp only[a];rw[if_pos (by rw[e,tE])]
 ·cases h
def dQ.GN(h:dQ rs o (V rs) O A):A++[o]=eY rs o:=by
 rcases h with⟨_,rfl,h⟩|⟨h,_⟩
 ·have c:aM rs o=V rs:=zK (by omega) (fun j a _=>h j a a) fun h=>absurd h (by omega);rw[AJ,dif_neg (by rw[c];omega),List.take_length]
 ·cases h
def dQ.LI(h:dQ rs o (V rs) T A):A=eY rs o:=by
 rcases h with⟨h,_⟩|⟨_,p,g,k,d,m,rfl⟩
 ·cases h
 ·have c:aM rs o=p:=zK (by omega) (fun j f a=>d j f a) (fun _=>by omega);rw[AJ,dif_pos (by rw[c];exact g)];simp only[c];rw[if_neg (by omega),List.take_of_length_le (l:=rs.drop p) (by simp)]
end
end J
def RO{a:World}(h:w.ownsRow B e sz v n xs)(c:Below w.heap.size w a):a.ownsRow B e sz v n xs:=h.kept (mR c Y) (Classical.em _)
def wG(h:w.ownsRow B e sz v n xs):∀k,v.ownBlock=G k->B<=k:=fun k a=>(h.lt k a).1
def pT{f g:World}{r:Option Nat}(a:Below w.heap.size w f)(c:f.grownBy g r)(j:∀k,r=G k->w.heap.size<=k):Below w.heap.size w g :=
 ⟨c.os.trans a.os,c.tape.trans a.tape,c.output.trans a.output,x4 a.size c.size,fun k d=>(c.block k (xR d a.size) fun e=>absurd (j k e.symm) (by omega)).trans (a.block k d)⟩
def Ro(w w':World)(D:Nat->Prop)(g:Nat)(pv ev rv bv fv av:Value)(c:Bool)(rs':List (List Int))(e:Ending):Prop :=
 e=.returned (.tuple #[])/\∃ov',Blk w' g (jw O pv ev rv bv fv av ov' c) 109/\QP w' D ov' rs'/\JX (fun k=>k=g) w w'
def Tryz.infoIs:(prog.info? 37).map (fun i=>(i.zero,i.size,i.bytes))=G (G (F Y 0 0),1,24):=by kernel_rfl
def RW{z:Value}{a:Nat}(h:(prog.info? t).map (fun i=>(i.zero,i.size,i.bytes))=G (G z,a,b)):∃i0,prog.info? t=G i0/\i0.zero=G z/\i0.size=a/\i0.bytes=b:=by
 cases e:prog.info? t with
 |none=>rw[e]at h;cases h
 |some i0=>rw[e]at h;simp at h;exact⟨i0,Z,h.1,h.2.1,h.2.2⟩
def Rp(g:Nat)(pv ev rv bv fv av ov:Value)(c:Bool)(rs:List (List Int))(vo:Value)(o:List Int)(D:Nat->Prop)(w:World)(hW:Blk w g (jw O pv ev rv bv fv av ov c) 109)(hD:∀x,D x->x<w.heap.size)(hg:D g)(hR:QP w D ov rs)(hO:QQ w D vo o)(hS:QB rs)(hL:∀r∈rs,V r=V o)(hn:V rs<1000000000000)(bE:V o<1000):
  Calls prog 194 #[.pointer (G ⟨g,0,Y⟩),vo] w fun e w'=>Ro w w' D g pv ev rv bv fv av c (eY rs o) e:=by
 obtain⟨i0,hi,aC,aD,aE⟩:=RW Tryz.infoIs;have HJ:=MS hR;obtain⟨bj,bh,be⟩:=hR;have aS:=MS bh;have HW:=MS hW;have HS:=MS hS;have HL:=MS hL;have HD:=MS hD;have HG:=MS hg;have bb:=hW.cell (i:=7) (v:=ov) Z;have lg:=hW.lt;have fz:=hW.free 7;clear bh hW hS hL hD;have bf:∃(oa:Option Addr) (aA:Nat),ov=F oa (V rs) aA/\∀i,i<V rs->∃b u,oa=G ⟨b,0,Y⟩/\bj[i]?=G u/\w.cell? ⟨b,i,Y⟩=G u/\b<w.heap.size:=by
  rcases be with⟨rfl,rfl⟩|⟨b,aA,rfl,h1,h2,h3⟩
  ·exact⟨Y,0,Z,fun i hi=>absurd hi (by simp)⟩
  ·exact⟨_,aA,Z,fun i hi=>⟨b,bj[i]'(by rw[aS.1];exact hi),Z,xa _,h1 _ _ (xa _),h2⟩⟩
 clear be;obtain⟨oa,bC,rfl,bd⟩:=bf;have bn:=MS bd;have HO:=MS hO;obtain⟨bo,co,rfl,aX,aF,_⟩:=hO;have bl:=MS aX;clear bd aX;go_enter func194,ntmps194;go_wp2;go_loopw[4,5,6] (fun u4 u5 u6 wr=>∃(i:Nat) (b:Bool) (K:List Value) (A:List (List Int)),i<=V rs/\u6=M U i/\u5=I b/\MT (wr.ownsRow w.heap.size 37 1 u4 (V K) K)/\MT (qT w D K A)/\MT (V K<=i+1)/\MT (b=O->V K<=i)/\MT (J.dQ rs o i b A)/\MT (Below w.heap.size w wr)) fun _ _ u6 _=>V rs-(intOf u6).toNat
 case atStart=>exact⟨0,O,[],[],x7 _,Z,Z,xg _ _ _ _,⟨Z,fun i u a h=>by simp at h⟩,by unfold MT;simp,fun _=>xW _,xF ⟨Z,by simp,fun j _ h=>absurd h (by omega)⟩,x8 _ _⟩
 case round =>
  obtain⟨i,b,K,A,bD,rfl,rfl,ac,aq,ag,aQ,y,HB⟩:=hrel;obtain⟨ua,uc,rfl⟩:=RL ac.o;have g7:=MZ HB.o lg bb;have f7:=(HB.frozen (p:=⟨g,7,Y⟩) lg).trans fz;have bz:=xR lg HB.size;by_cases hlt:i<V rs
  ·have bt:(i:Int)<(V rs:Int):=by omega
   obtain⟨bq,u,rfl,hu,aZ,aG⟩:=bn.o i hlt;have aV:=MZ HB.o aG aZ;have bi:=xR aG HB.size;have bg:=aS.2 i u rs[i] hu (xa hlt);have HX:=MS bg;obtain⟨bx,ai,rfl,ba,aH,_⟩:=bg;have aB:rs[i].length=V o:=HL.o _ (List.getElem_mem hlt);have aa:=MS aB;have bm:=MS ba;clear aZ hu ba aG f7;have an:=xR aH HB.size;have am:=xR aF HB.size;rw[aB]at aV HX;clear aB;go_wp2;go_loopw[8] (fun q wx=>∃k:Nat,k<=V o/\q=M U k/\MT (∀j,j<k->rs[i].getD j 0=o.getD j 0)/\MT (Below w.heap.size w wx)/\MT (Below wr.heap.size wr wx)) fun q _=>V o-(intOf q).toNat
   case atStart=>exact⟨0,x7 _,Z,fun j h=>absurd h (Nat.not_lt_zero _),HB,x8 _ _⟩
   case round =>
    obtain⟨k,hk,rfl,HE,L,aK⟩:=hrel;have an:=xR aH L.size;have am:=xR aF L.size;have aM:=MS (RO ac.o aK.o);by_cases hkt:k<V o
    ·have bw:(k:Int)<(V o:Int):=by omega
     have bF:((k:Int)==(V o:Int))=O:=by simp;omega
     have ck:=(L.cell (p:=⟨bo,k,Y⟩) aF).trans (bl.o k hkt);have cx:=(L.cell (p:=⟨bx,k,Y⟩) aH).trans (bm.o k (by rw[aa.o];exact hkt));have ap:MT (o.getD k 0=o[k]):=by unfold MT;simp[hkt]
     have ar:MT (rs[i].getD k 0=rs[i][k]'(by rw[aa.o];exact hkt)):=by unfold MT;simp[show k<rs[i].length by rw[aa.o];exact hkt]
     generalize o[k]=ok at*;generalize rs[i][k]'(by rw[aa.o];exact hkt)=xk at*
     cases z:ok==xk
     ·have aW:cmp rs[i] o=xk-ok:=by
       rw[M8 k aa.o HE.o hkt (by rw[ap.o,ar.o];intro c;rw[c]at z;simp at z),ar.o,ap.o]
      have aL:=MS aW;have hz:ok≠xk:=by intro c;rw[c]at z;simp at z
      have HZ:=MS hz;clear aW hz ap ar;go_wp2;go_quiet (fail);go_wp2;generalize ab:wr.drewN nq=W at*;have ay:MT (Below w.heap.size w W):=by unfold MT;rw[<- ab];exact dA L.o (xW _) (PZ _ _ _)
      have ad:MT (W.ownsRow w.heap.size 37 1 (F ua (V K) uc) (V K) K):=by unfold MT;rw[<- ab];exact RO aM.o (PZ _ _ _)
      have bp:W.cell? ⟨bo,k,Y⟩=G (M U ok):=by rw[<- ab];exact ck
      have br:W.cell? ⟨bx,k,Y⟩=G (M U xk):=by rw[<- ab];exact cx
      have lw:bo<W.heap.size/\bx<W.heap.size:=by rw[<- ab];exact⟨am,an⟩
      obtain⟨bA,bB⟩:=lw;clear ab ck cx an am g7 bz aV bi;go_cut[61]from 12 to 71 fun s wx=>∃t,s=I t/\MT (t=(!b&&decide (ok<xk)))/\MT (wx.ownsRow w.heap.size 37 1 (F ua (V K) uc) (V K) K)/\MT (Below w.heap.size w wx)
      case first =>
       cases b
       ·by_cases hlt2:ok<xk
        ·go_quiet (fail);go_wp2;go_meet
         case rel=>exact⟨_,Z,by unfold MT;simp[hlt2],RO ad.o (PZ _ _ _),dA ay.o (xW _) (PZ _ _ _)⟩
        ·go_quiet (fail);go_wp2;go_meet
         case rel=>exact⟨_,Z,by unfold MT;simp[hlt2],RO ad.o (PZ _ _ _),dA ay.o (xW _) (PZ _ _ _)⟩
       ·go_quiet (fail);go_wp2;go_meet
        case rel=>exact⟨_,Z,by unfold MT;simp,RO ad.o (PZ _ _ _),dA ay.o (xW _) (PZ _ _ _)⟩
      obtain⟨tb,rfl,az,ae,ao⟩:=hcut;clear bp br bA bB;go_upto_if 61 with fail
      go_cut[4,5]from 12 to 71 fun u4 u5 wx=>∃(b2:Bool) (aI:Option Addr) (aJ:Nat) (E:List Value) (A2:List (List Int)),u5=I b2/\u4=F aI (V E) aJ/\MT (wx.ownsRow w.heap.size 37 1 (F aI (V E) aJ) (V E) E)/\MT (qT w D E A2)/\MT (V E<=i+1)/\MT (b2=O->V E<=i)/\MT (J.dQ rs o (i+1) b2 (A2++[rs[i]]))/\MT (Below w.heap.size w wx)
      case first =>
       cases tb
       ·go_wp2;go_meet
        case rel =>
         refine⟨b,_,_,K,A,Z,Z,ae,aq,ag,aQ,?_,ao⟩;cases b
         ·exact y.LJ hlt (by have:=az.o;have:=HZ.o;rw[aL.o];simp at*;omega)
         ·exact y.on hlt
       ·have bs:b=O:=by have:=az.o;cases b;rfl;simp at this
        subst bs;go_wp2_with(first|(at_builtin;refine wpList_append_lies _ Z (.tmp 62) (.tmp 64) 23 Z w.heap.size 37 i0 (F Y 0 0) 1 24 underlying23 hi aC aD aE Z (by decide) _ _ _ Z (ae.alloc _) ⟨wc.heap.size,0,Y⟩ 1 1 [MU bo (V o) co] Z Z ?c1 ?c2 (by decide) ?c3 ?c4 ?c5 _ Z ?_))
        try(case c1=>exact fun j u hu=>by cases j with|zero=>(simp at hu;subst hu;(try rw[RK]);exact(Blk.new wc [MU bo (V o) co] 37).cell Z)|succ j=>simp at hu)
        try(case c2=>simp[x9])
        case c3=>have:=ag.o;unfold maxLen;omega
        case c4=>have:=ag.o;omega
        case c5=>exact x4 ao.size (by simp)
        intro g5 c5 w5 m f aj ak;have af:=MS m;have H:MT (Below w.heap.size w w5):=pT (ao.alloc ao.size _) f (wG ae.o);clear m f aj ak;go_wp2;go_meet
        case rel=>exact⟨T,G ⟨g5,0,Y⟩,c5,K++[MU bo (V o) co],A++[o],Z,by simp,by simpa using af,aq.aY HO.o,by unfold MT;have:=aQ.o (by trivial);simp;omega,fun c=>Bool.noConfusion c,y.mF hlt (by have:=az.o;rw[aL.o];simp at this;omega),H⟩
      obtain⟨b2,aI,aJ,E,A2,rfl,rfl,aw,aP,ah,aR,aO,ax⟩:=hcut;go_wp2_with(first|(at_builtin;refine wpList_append_lies _ Z (.tmp 67) (.tmp 69) 23 Z w.heap.size 37 i0 (F Y 0 0) 1 24 underlying23 hi aC aD aE Z (by decide) _ _ _ Z (aw.alloc _) ⟨wc.heap.size,0,Y⟩ 1 1 [MU bx (V o) ai] Z Z ?d1 ?d2 (by decide) ?d3 ?d4 ?d5 _ Z ?_))
      try(case d1=>exact fun j u hu=>by cases j with|zero=>(simp at hu;subst hu;(try rw[RK]);exact(Blk.new wc [MU bx (V o) ai] 37).cell Z)|succ j=>simp at hu)
      try(case d2=>simp[x9])
      case d3=>have:=ah.o;unfold maxLen;omega
      case d4=>have:=ah.o;omega
      case d5=>exact x4 ax.size (by simp)
      intro g7 c7 w7 al S aT bc;have aN:=MS al;have bk:MT (Below w.heap.size w w7):=pT (ax.alloc ax.size _) S (wG aw.o);clear al S aT bc;go_wp2;go_roundw
      case rel=>exact⟨i+1,b2,E++[MU bx (V o) ai],A2++[rs[i]],by omega,by go_num,Z,by simpa using aN,aP.aY HX.o,by unfold MT;have:=ah.o;simp;omega,fun c=>by have:=aR.o c;simp;omega,aO,bk⟩
      case measure=>simp[intOf];omega
     ·go_wp2;go_quiet (fail);go_wp2;go_roundw
      case rel =>
       refine⟨k+1,by omega,by go_num,fun j hj=>?_,dA L.o (xW _) (PZ _ _ _),dA aK.o (xW _) (PZ _ _ _)⟩;by_cases d:j=k
       ·rw[d,ap.o,ar.o];exact(by simpa using z:ok=xk).symm
       ·exact HE.o j (by omega)
      case measure=>simp[intOf];omega
    ·have bw:¬(k:Int)<(V o:Int):=by omega
     have bu:k=V o:=by omega
     have N:rs[i]=o:=M9 aa.o fun j hj=>HE.o j (by omega)
     have aU:b=O:=by
      cases b
      ·rfl
      ·exact absurd (by rw[N];exact tE o) (y.ne hlt HS.o)
     have HF:MT (eY rs o=rs):=by rw[aU]at y;exact y.same hlt N
     clear N aU;subst bu;go_wp2;go_quiet (fail);go_wp2;refine bodyPost_ret (results_none Z _ _ _) Z ?_;have B9:=dA L.o (xW _) (PZ _ _ nq);refine⟨Z,_,HW.X B9,?_,JX.of B9⟩;rw[HF.o];exact HJ.x (JX.of (P:=fun _=>False) B9) fun _ _ e=>e.elim
  ·have bt:¬(i:Int)<(V rs:Int):=by omega
   have au:i=V rs:=by omega
   cases b
   ·have HF:MT (A++[o]=eY rs o):=by rw[au]at y;exact y.GN
    clear au;go_wp2_with(first|(at_builtin;refine wpList_append_lies _ Z (.tmp 74) (.tmp 76) 23 Z w.heap.size 37 i0 (F Y 0 0) 1 24 underlying23 hi aC aD aE Z (by decide) _ _ _ Z (ac.alloc _) ⟨wr.heap.size,0,Y⟩ 1 1 [MU bo (V o) co] Z Z ?e1 ?e2 (by decide) ?e3 ?e4 ?e5 _ Z ?_))
    try(case e1=>exact fun j u hu=>by cases j with|zero=>(simp at hu;subst hu;(try rw[RK]);exact(Blk.new wr [MU bo (V o) co] 37).cell Z)|succ j=>simp at hu)
    try(case e2=>simp[x9])
    case e3=>have:=ag.o;unfold maxLen;omega
    case e4=>have:=ag.o;omega
    case e5=>exact x4 HB.size (by simp)
    intro g5 c5 w5 m f aj ak;have af:=MS m;have H:MT (Below w.heap.size w w5):=pT (HB.alloc HB.size _) f (wG ac.o);clear m f aj ak;have q7:=MZ H.o lg bb;have q8:=(H.frozen (p:=⟨g,7,Y⟩) lg).trans fz;have q9:=xR lg H.size;go_wp2;go_end0;have hr:=QP.own (us:=K++[MU bo (V o) co]) (D:=D) (by simpa using af.o) ((aq.aY HO.o).x (JX.of (P:=fun _=>False) H.o) fun _ _ e=>e.elim) HD.o;rw[HF.o]at hr;refine⟨Z,_,(HW.X H.o).set 7 _,hr.x (JX.set (P:=fun k=>k=g) (JX.refl _ _) (xF Z) _ _) fun x _ e=>by rw[e];exact HG.o,JX.set (P:=fun k=>k=g) (JX.of H.o) (xF Z) _ _⟩
   ·have HF:MT (A=eY rs o):=by rw[au]at y;exact y.LI
    clear au;go_wp2;go_end0;have hr:=QP.own (D:=D) ac.o (aq.x (JX.of (P:=fun _=>False) HB.o) fun _ _ e=>e.elim) HD.o;rw[HF.o]at hr;refine⟨Z,_,(HW.X HB.o).set 7 _,hr.x (JX.set (P:=fun k=>k=g) (JX.refl _ _) (xF Z) _ _) fun x _ e=>by rw[e];exact HG.o,JX.set (P:=fun k=>k=g) (JX.of HB.o) (xF Z) _ _⟩
namespace J
def OD(es:List E)(v:Int)(i:Nat):Bool:=(ev es i).B.toList==kW&&(ev es i).loc==v
def lastTo(es:List E)(ats:List Int)(v:Nat):Nat->Nat
 |0=>v
 |k+1=>if decide (3<=k)&&(OD es v k&&decide (ats.getD (lastTo es ats v k) 0<ats.getD k 0))then k else lastTo es ats v k
def gM(es:List E)(ats regs:List Int):List Int:=regs++[(ev es (lastTo es ats 0 (V es))).val,(ev es (lastTo es ats 1 (V es))).val,(ev es (lastTo es ats 2 (V es))).val]
def kG(es:List E)(ats:List Int)(v:Nat)(a:v<3):∀k,lastTo es ats v k<max k 3
 |0=>by simp[lastTo];omega
 |k+1=>by
  have:=kG es ats v a k;unfold lastTo
  split<;>omega
def fF(es:List E)(ats:List Int)(v:Nat):∀k,k<=3->lastTo es ats v k=v
 |0,_=>Z
 |k+1,h=>by
  unfold lastTo;rw[fF es ats v k (by omega),decide_eq_false (by omega)];simp
def Ok(L:Nat)(r:List Int):Prop:=V r=L/\∀x∈r,0<=x/\x<4
def jI:List Int->Nat
 |[]=>0
 |x::r=>x.toNat*4^V r+jI r
def GA:∀{r:List Int},(∀x∈r,0<=x/\x<4)->jI r<4^V r
 |[],_=>by simp[jI]
 |x::r,h=>by
  have c:=GA (r:=r) fun y a=>h y (x6 _ a);have d:=h x (by simp);have f:x.toNat*4^V r<=3*4^V r:=xh _ (by omega);simp only[jI,xb,Nat.pow_succ];omega
def Ak:∀{a b:List Int} {L:Nat},Ok L a->Ok L b->cmp a b<0->jI a<jI b
 |[],[],_,_,_,h=>by simp[cmp]at h
 |[],b::y,_,h1,h2,_=>by have:=h1.1;have:=h2.1;simp at*;omega
 |a::x,[],_,h1,h2,_=>by have:=h1.1;have:=h2.1;simp at*;omega
 |a::x,b::y,L,h1,h2,h=>by
  have j:=h1.1;have k:=h2.1;simp only[xb]at j k;have f:V x=V y:=by omega
  have o:=h1.2 a (by simp);have p:=h2.2 b (by simp);unfold cmp at h;simp only[jI];by_cases c:a=b
  ·subst c;simp at h;have:=Ak (L:=V x) ⟨Z,fun z d=>h1.2 z (x6 _ d)⟩ ⟨f.symm,fun z d=>h2.2 z (x6 _ d)⟩ h;rw[f];omega
  ·simp[c]at h;have m:=GA (r:=x) fun z d=>h1.2 z (x6 _ d);have g:(a.toNat+1)*4^V x<=b.toNat*4^V x:=xh _ (by omega);rw[Nat.add_mul,Nat.one_mul]at g;rw[<- f];omega
def Al:∀{l:List Nat} {k N:Nat},l.Pairwise (·<·)->(∀x∈l,k<=x/\x<N)->k<=N->V l<=N-k
 |[],_,_,_,_,_=>by simp
 |x::l,k,N,h,hb,_=>by
  have c:=hb x (by simp);rw[List.pairwise_cons]at h;have:=Al (l:=l) (k:=x+1) (N:=N) h.2 (fun y a=>⟨h.1 y a,(hb y (x6 _ a)).2⟩) (by omega);simp only[xb];omega
def few{L:Nat}(f:QB rs)(h:∀r∈rs,Ok L r):V rs<=4^L:=by
 have d:(rs.map jI).Pairwise (·<·):=by
  rw[List.pairwise_map];exact List.Pairwise.imp_of_mem (fun g j c=>Ak (h _ g) (h _ j) c) f
 have:=Al (k:=0) (N:=4^L) d (fun x m=>by
  obtain⟨r,a,rfl⟩:=List.mem_map.1 m;have:=GA (h r a).2;rw[(h r a).1]at this;exact⟨x7 _,this⟩) (x7 _)
 simpa using this
structure Grew(L:Nat)(rs rs':List (List Int))(c c':Bool)(P:List Int->Prop)(C:Prop):Prop where
 rise:QB rs'
 ok:∀r∈rs',Ok L r
 mem:∀r,r∈rs'↔r∈rs\/P r
 cl:c'=T↔c=T\/C
end J
def Am(w w':World)(S D:Nat->Prop)(g:Nat)(pv ev rv bv fv av:Value)(L:Nat)(rs:List (List Int))(c:Bool)(P:List Int->Prop)(C:Prop):Prop :=
 ∃ov' rs' c',Blk w' g (jw O pv ev rv bv fv av ov' c') 109/\QP w' D ov' rs'/\JX S w w'/\J.Grew L rs rs' c c' P C
structure JJ(w:World)(D:Nat->Prop)(g ge ce gf cf ga ca:Nat)(es:List J.E)(fr ats regs:List Int)(pv rv bv ov:Value)(L:Nat)(rs:List (List Int))(c:Bool):Prop where
 blk:Blk w g (jw O pv (MU ge (V es) ce) rv bv (MU gf (V es) cf) (MU ga (V es) ca) ov c) 109
 jin:QG w g ge ce gf cf ga ca es fr ats
 rg:QQ w (fun _=>False) rv regs
 y:QP w D ov rs
 rise:QB rs
 ok:∀r∈rs,J.Ok L r
 len:V regs+3=L
 small:L<=19
 pos:0<V regs
 rng:∀x∈regs,0<=x/\x<4
 vals:∀i,i<V es->0<=(J.ev es i).val/\(J.ev es i).val<4
 full:J.Full es fr
 frl:∀i,i<V es->fr.getD i 0<(V es:Int)
 half:∀i,i<V es->J.isStep (J.ev es i)=T->i+1<V es
 three:3<=V es
 low:∀x,D x->x<w.heap.size
 dg:D g
def Rq(p q:Bool)(r:Prop):p=O\/p=T/\q=O\/p=T/\q=T/\¬r\/p=T/\q=T/\r:=by
 cases p<;>cases q<;>simp[Classical.em,Classical.or_iff_not_imp_left]
def NT(l:List Int):List Value:=l.map (Value.int U)
def J.kJ(es:List J.E)(ats:List Int)(k:Nat):List Int:=(x3 k).map fun v=>(J.ev es (J.lastTo es ats v (V es))).val
section
variable {w w':World}{D:Nat->Prop}{g ge ce gf cf ga ca:Nat}{es:List J.E}{fr ats regs:List Int}{pv rv bv ov ov':Value}{L:Nat}{rs rs':List (List Int)}{c c':Bool}
def QG.off(h:QG w g ge ce gf cf ga ca es fr ats)(c:3<=V es){v:Value}(a:w.cell? ⟨g,0,Y⟩=G (I O)):ge≠g/\gf≠g/\ga≠g:=by
 refine⟨fun e=>?_,fun e=>?_,fun e=>?_⟩
 ·subst e;have:=(h.ev 0 (by omega)).t;simp only[Nat.zero_mul]at this;rw[a]at this;cases this
 ·subst e;have:=h.fr 0 (by omega);rw[a]at this;cases this
 ·subst e;have:=h.at_ 0 (by omega);rw[a]at this;cases this
def QQ.off{b:Bool}(h:QQ w D rv regs)(j:0<V regs)(f:w.cell? ⟨g,0,Y⟩=G (I b)):∀a,rv.ownBlock=G a->a≠g:=by
 obtain⟨b,c,rfl,d,k,m⟩:=h;intro a e1 e2;cases e1;simp only at e2;subst e2;have:=d 0 j;rw[f]at this;cases this
def JJ.eI(h:JJ w D g ge ce gf cf ga ca es fr ats regs pv rv bv ov L rs c)(a:JX (fun k=>k=g) w w')(f:Blk w' g (jw O pv (MU ge (V es) ce) rv bv (MU gf (V es) cf) (MU ga (V es) ca) ov' c') 109)(K:QP w' D ov' rs')(A:QB rs')(z:∀r∈rs',J.Ok L r):JJ w' D g ge ce gf cf ga ca es fr ats regs pv rv bv ov' L rs' c':=by
 have p:=h.blk.cell (i:=0) (v:=I O) Z;obtain⟨N,S,W⟩:=h.jin.off h.three (v:=ov) p;have E:Blk w' g _ _:=f;refine⟨f,⟨f.cell Z,f.cell Z,f.cell Z,fun i d=>?_,fun i d=>?_,fun i d=>?_,f.lt,xR h.jin.le a.size,xR h.jin.lf a.size,xR h.jin.la a.size,h.jin.n⟩,?_,K,A,z,h.len,h.small,h.pos,h.rng,h.vals,h.full,h.frl,h.half,h.three,fun x o=>xR (h.low x o) a.size,h.dg⟩
 ·have e:∀j,w'.cell? ⟨ge,j,Y⟩=w.cell? ⟨ge,j,Y⟩:=fun j=>gD (a.block ge h.jin.le N)
  have k:=h.jin.ev i d;exact⟨(e _).trans k.t,(e _).trans k.b,(e _).trans k.k,(e _).trans k.l,(e _).trans k.v,(e _).trans k.r,(e _).trans k.s,(e _).trans k.h,(e _).trans k.n⟩
 ·exact(gD (a.block gf h.jin.lf S)).trans (h.jin.fr i d)
 ·exact(gD (a.block ga h.jin.la W)).trans (h.jin.at_ i d)
 ·have H:=QQ.off h.rg h.pos p;obtain⟨b,m,rfl,u,q,y⟩:=h.rg;exact⟨b,m,Z,fun i d=>(gD (a.block b q (H b Z))).trans (u i d),xR q a.size,y⟩
def JJ.X(h:JJ w D g ge ce gf cf ga ca es fr ats regs pv rv bv ov L rs c)(a:Below w.heap.size w w'):JJ w' D g ge ce gf cf ga ca es fr ats regs pv rv bv ov L rs c :=
 h.eI (JX.of a) (h.blk.X a) (h.y.x (JX.of (P:=fun _=>False) a) fun _ _ e=>e.elim) h.rise h.ok
def JJ.clash(h:JJ w D g ge ce gf cf ga ca es fr ats regs pv rv bv ov L rs c)(a:Below w.heap.size w w'):JJ (w'.setCell ⟨g,8,Y⟩ (I c')) D g ge ce gf cf ga ca es fr ats regs pv rv bv ov L rs c' :=
 have d:JX (fun k=>k=g) w (w'.setCell ⟨g,8,Y⟩ (I c')):=JX.set (P:=fun k=>k=g) (JX.of a) (xF Z) _ _
 h.eI d ((h.blk.X a).set 8 _) (h.y.x d fun x _ e=>by rw[e];exact h.dg) h.rise h.ok
end
def DL(h:∀i (f:i<V l),w.cell? ⟨b,i,Y⟩=G (M U l[i])):∀j u,(NT l)[j]?=G u->w.cell? ((⟨b,0,Y⟩:Addr).add j)=G u:=fun j u a=>by
 unfold NT at a;rw[List.getElem?_map]at a;obtain⟨x,d,rfl⟩:=Option.map_eq_some_iff.1 a;obtain⟨c,rfl⟩:=List.getElem?_eq_some_iff.1 d;rw[RK,Nat.zero_add];exact h j c
def xP(l:List Int):∀u∈NT l,u.oneCell'=T:=fun u a=>by
 obtain⟨x,_,rfl⟩:=List.mem_map.1 a;rfl
def J.nT(es:List J.E)(ats:List Int)(k:Nat):J.kJ es ats (k+1)=J.kJ es ats k++[(J.ev es (J.lastTo es ats k (V es))).val]:=by
 unfold J.kJ;rw[xi,List.map_append];rfl
def An{D:Nat->Prop}(h:w.ownsRow B 3 1 v (V l) (NT l))(u:0<V l)(o:∀x,D x->x<B):QQ w D v l:=by
 rcases h.2 with⟨_,k⟩|⟨g,d,a,j,k,f,q,r,s,m⟩
 ·omega
 ·refine⟨g,d,j,fun i p=>?_,(Array.getElem?_eq_some_iff.1 f).1,fun c=>absurd (o g c) (by omega)⟩;have e2:(a.toList.take (V l*1))[i]?=a.toList[i]?:=by rw[List.getElem?_take,if_pos (by omega)]
  rw[m]at e2;have e3:a[i]?=G (M U l[i]):=by rw[<- Array.getElem?_toList,<- e2];simp[NT,p]
  simp[World.cell?,f,e3]
def Rr{L:Nat}(c:QB rs)(h:∀r∈rs,J.Ok L r)(a:L<=19):V rs<1000000000000 :=
 Nat.lt_of_le_of_lt (x4 (J.few c h) (Nat.pow_le_pow_right (by omega) a)) (by decide)
def Rs(g ge ce gf cf ga ca:Nat)(es:List J.E)(S ats regs:List Int)(pv rv bv ov:Value)(L:Nat)(rs:List (List Int))(c:Bool)(D:Nat->Prop)(w:World)(h:JJ w D g ge ce gf cf ga ca es S ats regs pv rv bv ov L rs c):
  Calls prog 166 #[.pointer (G ⟨g,0,Y⟩)] w fun e w'=>e=.returned (.tuple #[])/\Am w w' (fun k=>k=g) D g pv (MU ge (V es) ce) rv bv (MU gf (V es) cf) (MU ga (V es) ca) L rs c (fun o=>J.May es S ats/\o=J.gM es ats regs) (J.May es S ats/\J.cG es (J.bef es S)):=by
 have H:=MS h;have c0:=h.blk.cell (i:=0) (v:=I O) Z;have c8:=h.blk.cell (i:=8) (v:=I c) Z;have f8:=h.blk.free 8;have lg:=h.blk.lt;clear h;have ak:=MS c8;have al:=MS f8;clear c8 f8;by_cases hm:J.May es S ats
 ·have aX:=H.rg;obtain⟨br,cr,rfl,_,_,_⟩:=aX;obtain⟨i0,hi,ag,ah,ai⟩:∃i0,prog.info? 3=G i0/\i0.zero=G (M U 0)/\i0.size=1/\i0.bytes=8:=RW Tryz.OC;have aF:=H.pos;have af:=H.len;have aH:=H.small;have h3:=H.three;have hn:=H.jin.n;go_enter func166,ntmps166;go_wp2_with(first
   |(go_at_call 193;refine(YO g ge ce gf cf ga ca es S ats _ c H.jin H.full H.frl H.half H.three ak.o al.o).mono ?_;rintro e w1 ⟨w2,z,f⟩;have f:=f.resolve_right fun h=>h.1 hm;obtain⟨_,rfl,rfl⟩:=f;have s:=MS (H.clash z (c':=c||J.yes (J.cG es (J.bef es S))));have HX:=MS (JX.set (P:=fun k=>k=g) (JX.of z) (xF Z) 8 (I (c||J.yes (J.cG es (J.bef es S)))));clear z;generalize w2.setCell ⟨g,8,Y⟩ (I (c||J.yes (J.cG es (J.bef es S))))=W at*;have c3:=s.blk.cell (i:=3) (v:=MU br (V regs) cr) Z;have bb:=s.blk.lt;have aQ:MT (∀i (hi:i<V regs),W.cell? ⟨br,i,Y⟩=G (M U regs[i])):=by obtain⟨b,be,e1,h1,_⟩:=s.rg;cases e1;exact h1)
   |(at_builtin;refine wpList_append_lies _ Z (.const (F Y 0 0)) (.tmp 20) 37 Z W.heap.size 3 i0 (M U 0) 1 8 underlying37 hi ag ah ai Z (by decide) _ _ _ Z (xg _ _ _ _) ⟨br,0,Y⟩ (V regs) cr (NT regs) Z (by simp[NT]) (DL aQ.o) (xP regs) aF (by unfold maxLen;omega) (by omega) (xW _) _ Z ?_;intro g5 c5 w5 ab p aw aA;have aJ:MT (Below W.heap.size W w5):=pT (x8 _ _) p (fun k e=>by cases e);have aq:MT (w5.ownsRow W.heap.size 3 1 (F (G ⟨g5,0,Y⟩) (V regs) c5) (V regs) (NT (regs++J.kJ es ats 0))):=(by unfold MT;simpa[J.kJ]using ab);clear ab p aw aA))
  generalize av:(c||J.yes (J.cG es (J.bef es S)))=c2 at*;go_loopw[3,4] (fun u3 u4 wr=>∃(v m:Nat) (oa:Option Addr) (oc:Nat),v<=3/\u4=M U v/\u3=F oa m oc/\MT (m=V regs+v)/\MT (wr.ownsRow W.heap.size 3 1 (F oa m oc) m (NT (regs++J.kJ es ats v)))/\MT (Below W.heap.size W wr)) fun _ u4 _=>3-(intOf u4).toNat
  case atStart=>exact⟨0,V regs,G ⟨g5,0,Y⟩,c5,by omega,Z,by simp,Z,aq,aJ⟩
  case round =>
   obtain⟨v,m,oa,oc,hv,rfl,rfl,HM,ad,HB⟩:=hrel;have d:=MS (s.X HB.o);by_cases hvt:v<3
   ·have aZ:(v:Int)<3:=by omega
    go_wp2;go_loopw[5,6] (fun u5 u6 wx=>∃i:Nat,3<=i/\i<=V es/\u6=M U i/\u5=M U (J.lastTo es ats v i:Nat)/\MT (Below W.heap.size W wx)/\MT (Below wr.heap.size wr wx)) fun _ u6 _=>V es-(intOf u6).toNat
    case atStart=>exact⟨3,xW _,h3,Z,by rw[J.fF es ats v 3 (xW _)],HB,x8 _ _⟩
    case round =>
     obtain⟨i,aT,bf,rfl,rfl,N,aj⟩:=hrel;have K:=(s.X N.o).jin;have he:=K.e;have aS:=K.a;have bi:=K.lg;have bh:=K.le;have ba:=K.la;have aa:J.lastTo es ats v i<V es:=by have:=J.kG es ats v hvt i;omega
     by_cases hit:i<V es
     ·have aV:(i:Int)<(V es:Int):=by omega
      have az:((J.lastTo es ats v i:Nat):Int)<(V es:Int):=by omega
      obtain⟨_,_,ik,il,_,_,_,_,_⟩:=K.ev i hit;have a1:=K.at_ i hit;have a2:=K.at_ _ aa;clear K;have HL:MT (J.lastTo es ats v (i+1)=if (J.ev es i).B.toList==J.kW&&(J.ev es i).loc==(v:Int)&&decide (ats.getD (J.lastTo es ats v i) 0<ats.getD i 0)then i else J.lastTo es ats v i):=by
       unfold MT;rw[J.lastTo,decide_eq_true aT];simp[J.OD,Bool.and_assoc]
      generalize J.lastTo es ats v i=la at*;generalize ats.getD la 0=x1 at*;generalize ats.getD i 0=x2 at*;generalize J.ev es i=ee at*
      rcases Rq (ee.B.toList==J.kW) (ee.loc==(v:Int)) (x1<x2)with p1|⟨p1,p2⟩|⟨p1,p2,p3⟩|⟨p1,p2,p3⟩
      all_goals
       simp only[J.kW]at p1 HL;go_wp2;go_quiet (fail);go_wp2;go_roundw
       case rel=>exact⟨i+1,by omega,by omega,by go_num,by rw[HL.o];simp[*];try(split<;>omega),dA N.o (xW _) (PZ _ _ _),dA aj.o (xW _) (PZ _ _ _)⟩
       case measure=>simp[intOf];omega
     ·have aV:¬(i:Int)<(V es:Int):=by omega
      have aU:i=V es:=by omega
      subst aU;have az:((J.lastTo es ats v (V es):Nat):Int)<(V es:Int):=by omega
      have bg:=(K.ev _ aa).v;clear K aS ba;have ae:=MS (RO ad.o aj.o);have HO:=MS (J.nT es ats v);generalize(J.ev es (J.lastTo es ats v (V es))).val=x at*;go_wp2_with(first
       |(at_builtin;refine wpList_append_lies _ Z (.tmp 75) (.tmp 84) 37 Z W.heap.size 3 i0 (M U 0) 1 8 underlying37 hi ag ah ai Z (by decide) _ _ _ Z (ae.alloc _) ⟨wr.heap.size,0,Y⟩ 1 1 [M U x] Z Z ?q1 ?q2 (by decide) ?q3 ?q4 ?q5 _ Z ?_))
      try(case q1=>exact fun j u hu=>by cases j with|zero=>(simp at hu;subst hu;(try rw[RK]);exact(Blk.new wr [M U x] 3).cell Z)|succ j=>simp at hu)
      try(case q2=>simp[x9])
      case q3=>have:=HM.o;unfold maxLen;omega
      case q4=>have:=HM.o;omega
      case q5=>exact x4 N.size (by simp)
      intro g6 c6 w6 ac q ax aB;have aK:MT (Below W.heap.size W w6):=pT (N.alloc N.size _) q (wG ae.o);have ar:MT (w6.ownsRow W.heap.size 3 1 (MU g6 (m+1) c6) (m+1) (NT (regs++J.kJ es ats (v+1)))):=by
       unfold MT;rw[HO.o,<- List.append_assoc];simpa[NT]using ac
      clear ac q ax aB;go_wp2;go_roundw
      case rel=>exact⟨v+1,m+1,G ⟨g6,0,Y⟩,c6,by omega,by go_num,Z,by unfold MT;have:=HM.o;omega,ar,aK⟩
      case measure=>simp[intOf];omega
   ·have aZ:¬(v:Int)<3:=by omega
    have aY:v=3:=by omega
    subst aY;have e3:regs++J.kJ es ats 3=J.gM es ats regs:=by simp[J.kJ,J.gM,x3,List.range.loop]
    rw[e3]at ad;have A:(J.gM es ats regs).length=L:=by rw[<- af];simp[J.gM]
    have aD:J.Ok L (J.gM es ats regs):=by
     refine⟨A,fun x hx=>?_⟩;have hv:=H.vals;unfold J.gM at hx
     rcases List.mem_append.1 hx with k|k
     ·exact H.rng x k
     ·simp only[List.mem_cons,List.mem_nil_iff,or_false]at k;have:=fun u hu=>J.kG es ats u hu (V es)
      rcases k with rfl|rfl|rfl
      ·exact hv _ (by have:=this 0 (by omega);omega)
      ·exact hv _ (by have:=this 1 (by omega);omega)
      ·exact hv _ (by have:=this 2 (by omega);omega)
    have aO:=MS aD;have aC:m=(J.gM es ats regs).length:=by rw[A,HM.o,<- af]
    rw[aC]at ad⊢;have au:=MS (An ad.o (by rw[A];omega) fun x hx=>s.low x hx);clear aD e3;generalize aE:J.gM es ats regs=o at*;have ap:=MS aE;clear aE;have aW:V o<1000:=by omega
    have an:=MS fun x hx=>d.low x hx;have aN:MT (∀r∈rs,V r=V o):=fun r hr=>by rw[(d.ok r hr).1,A]
    have am:=MS (Rr d.rise d.ok aH);have bd:=MS A;have aM:=MS av;have ao:=MS hm;clear aC A af aH aF h3 hn av hm lg c0 bb c3 ag ah ai hi;go_wp2_with(first
     |(go_at_call 194;refine(Rp g pv (MU ge (V es) ce) (MU br (V regs) cr) bv (MU gf (V es) cf) (MU ga (V es) ca) ov c2 rs (F oa (V o) oc) o D _ d.blk an.o d.dg d.y au.o d.rise aN.o am.o aW).mono ?_;rintro e w7 ⟨rfl,bc,ay,aG,aI⟩;have aL:=MS ay;have aP:=MS aG;have aR:=MS aI;clear ay aG aI))
    go_end0;refine⟨Z,bc,eY rs o,c2,aL.o,aP.o,(HX.X HB.o).trans aR.o fun _ _ e=>e,CQ d.rise,fun r hr=>?_,fun r=>?_,?_⟩
    ·rcases FC.1 hr with k|k
     ·rw[k];exact aO.o
     ·exact d.ok r k
    ·rw[FC];exact⟨fun k=>k.elim (fun e=>x5 ⟨ao.o,e.trans ap.symm⟩) xF,fun k=>k.elim x5 fun e=>xF (e.2.trans ap.o)⟩
    ·rw[<- aM.o,Bool.or_eq_true,J.bJ];exact⟨fun k=>k.imp id fun e=>⟨ao.o,e⟩,fun k=>k.imp id fun e=>e.2⟩
 ·go_enter func166,ntmps166;go_wp2_with(first
   |(go_at_call 193;refine(YO g ge ce gf cf ga ca es S ats _ c H.jin H.full H.frl H.half H.three ak.o al.o).mono ?_;rintro e w1 ⟨w2,z,f⟩;have f:=f.resolve_left fun h=>hm h.1;obtain⟨_,rfl,rfl⟩:=f;have B2:=MS z;clear z))
  refine bodyPost_ret (results_none Z _ _ _) Z ?_;refine⟨Z,ov,rs,c,H.blk.X B2.o,H.y.x (JX.of (P:=fun _=>False) B2.o) fun _ _ e=>e.elim,JX.of B2.o,H.rise,H.ok,fun r=>?_,?_⟩
  ·exact⟨xF,fun k=>k.elim id fun e=>absurd e.1 hm⟩
  ·exact⟨xF,fun k=>k.elim id fun e=>absurd e.1 hm⟩
namespace J
def wr(es:List E)(i:Nat):Prop:=3<=i/\i<V es/\((ev es i).B.toList==kW)=T
structure Nxt(es:List E)(seq:List Nat)(j:Nat):Prop where
 w:wr es j
 new:j∉seq
 first:∀i,i<j->wr es i->i∈seq
structure Pick(es:List E)(seq:List Nat)(i:Nat):Prop where
 w:wr es i
 new:i∉seq
 loc:∃j,Nxt es seq j/\(ev es i).loc=(ev es j).loc
def kK(es:List E)(seq:List Nat):Prop:=∀i,wr es i->i∈seq
def nP(es:List E)(seq seq':List Nat):Prop:=∃l,seq'=seq++l/\(∀t (h:t<V l),Pick es (seq++l.take t) l[t])/\kK es seq'
def dW(es:List E)(seq:List Nat):Nat:=((x3 (V es)).filter fun i=>decide (3<=i)&&(ev es i).B.toList==kW&&!decide (i∈seq)).length
def dK{seq:List Nat}(h:kK es seq):nP es seq seq'↔seq'=seq:=by
 constructor
 ·rintro⟨l,rfl,a,_⟩
  cases l with
  |nil=>simp
  |cons x l =>
   have:=a 0 (by simp);simp only[List.take_zero,xc,xj]at this;exact absurd (h x this.w) this.new
 ·rintro rfl;exact⟨[],by simp,fun t c=>by simp at c,h⟩
def eQ{seq:List Nat}(h:¬kK es seq):nP es seq seq'↔∃i,Pick es seq i/\nP es (seq++[i]) seq':=by
 constructor
 ·rintro⟨l,rfl,c,a⟩
  cases l with
  |nil=>rw[xc]at a;exact absurd a h
  |cons x l =>
   have f:=c 0 (by simp);simp only[List.take_zero,xc,xj]at f;refine⟨x,f,l,by simp,fun t d=>?_,a⟩;have:=c (t+1) (by simpa using d);simpa using this
 ·rintro⟨i,g,l,rfl,c,a⟩;refine⟨i::l,by simp,fun t d=>?_,a⟩
  cases t with
  |zero=>simpa using g
  |succ t=>simpa using c t (by simpa using d)
def eR{seq:List Nat}(h:wr es i)(m:i∉seq):dW es (seq++[i])+1=dW es seq:=by
 have f:∀(n:Nat) (p q:Nat->Bool),i<n->p i=T->q i=O->(∀j,j≠i->q j=p j)->((x3 n).filter q).length+1=((x3 n).filter p).length:=by
  intro n p q
  induction n with
  |zero=>intro h;omega
  |succ n ih =>
   intro o g k a;rw[xi,xl,xl,xm,xm];by_cases c:i=n
   ·subst c;have e:(x3 i).filter q=(x3 i).filter p:=List.filter_congr fun j d=>a j (by have:=List.mem_range.1 d;omega);simp[e,g,k]
   ·have:=ih (by omega) g k a;simp only[List.filter_cons,List.filter_nil,a n fun e=>c e.symm];omega
 unfold dW;refine f (V es) _ _ h.2.1 ?_ ?_ fun j d=>?_
 ·simp[h.1,h.2.2,m]
 ·simp
 ·simp[d]
def hZ(n:Nat)(seq:List Nat):List Int:=(x3 n).map fun i=>if i∈seq then(seq.idxOf i:Int)+1 else 0
structure AtOk(es:List E)(seq:List Nat)(ats:List Int):Prop where
 len:V ats=V es
 seq:∀i,i∈seq->ats.getD i 0=(seq.idxOf i:Int)+1
 no:∀i,i<V es->¬wr es i->ats.getD i 0=0
def AtOk.full{seq:List Nat}(h:AtOk es seq ats)(d:kK es seq):ats=hZ (V es) seq:=by
 apply List.ext_getElem
 ·simp[hZ,h.len]
 ·intro i a f;have e:ats.getD i 0=ats[i]:=by simp[a]
  have e2:(hZ (V es) seq)[i]=if i∈seq then(seq.idxOf i:Int)+1 else 0:=by simp[hZ]
  rw[e2,<- e];by_cases c:i∈seq
  ·rw[if_pos c,h.seq i c]
  ·rw[if_neg c];exact h.no i (by rw[<- h.len];exact a) fun k=>c (d i k)
def cE{j:Nat}(x:Int)(h:i≠j):(l.set i x).getD j 0=l.getD j 0:=by
 rw[xn,xn,List.getElem?_set_ne h]
def AtOk.aY{seq:List Nat}(h:AtOk es seq ats)(f:wr es i)(m:i∉seq):AtOk es (seq++[i]) (ats.set i ((V seq:Int)+1)):=by
 have k:i<V ats:=by rw[h.len];exact f.2.1
 refine⟨by simp[h.len],fun j d=>?_,fun j d g=>?_⟩
 ·by_cases c:j=i
  ·subst c;have:(seq++[j]).idxOf j=V seq:=by rw[xd,if_neg m];simp
   rw[this];simp[k]
  ·have a:j∈seq:=by simpa[c]using d
   have:(seq++[i]).idxOf j=seq.idxOf j:=by rw[xd,if_pos a]
   rw[this,<- h.seq j a];exact cE _ fun e=>c e.symm
 ·have c:i≠j:=fun e=>g (e▸f)
  exact(cE _ c).trans (h.no j d g)
def AtOk.drop{seq:List Nat}(h:AtOk es (seq++[i]) ats):AtOk es seq ats :=
 ⟨h.len,fun j a=>by rw[h.seq j (by simp[a]),xd,if_pos a],h.no⟩
def AtOk.start(es:List E):AtOk es [] (List.replicate (V es) 0):=⟨by simp,fun i a=>by simp at a,fun i a _=>by simp[a]⟩
def pX(es:List E)(fr regs:List Int)(seq:List Nat)(o:List Int):Prop:=May es fr (hZ (V es) seq)/\o=gM es (hZ (V es) seq) regs
def qA(es:List E)(fr:List Int)(seq:List Nat):Prop:=May es fr (hZ (V es) seq)/\cG es (bef es fr)
def OrdP(es:List E)(fr regs:List Int)(seq:List Nat)(o:List Int):Prop:=∃s,nP es seq s/\pX es fr regs s o
def kY(es:List E)(fr:List Int)(seq:List Nat):Prop:=∃s,nP es seq s/\qA es fr s
def Grew.to{L:Nat}{a:List (List Int)}{c d:Bool}{P:List Int->Prop}(h:Grew L rs a c d P C)(g:∀o,P o↔P' o)(f:C↔C'):Grew L rs a c d P' C' :=
 ⟨h.rise,h.ok,fun r=>by rw[h.mem,g],by rw[h.cl,f]⟩
def Grew.trans{L:Nat}{a d:List (List Int)}{c f g:Bool}{P:List Int->Prop}(h:Grew L rs a c f P C)(k:Grew L a d f g P' C'):Grew L rs d c g (fun o=>P o\/P' o) (C\/C'):=
 ⟨k.rise,k.ok,fun r=>by rw[k.mem,h.mem,or_assoc],by rw[k.cl,h.cl,or_assoc]⟩
def Grew.refl{L:Nat}{c:Bool}(a:QB rs)(d:∀r∈rs,Ok L r):Grew L rs rs c c (fun _=>False) False:=⟨a,d,fun r=>by simp,by simp⟩
end J
def RZ(n:Nat)(p:Nat->Bool):List Value:=(x3 n).map fun i=>I (p i)
def qQ(h:i<V l):(NT l)[i]?=G (M U (l.getD i 0)):=by simp[NT,h]
section
variable {w w':World}{D S:Nat->Prop}{g ge ce gf cf ga ca gd:Nat}{es:List J.E}{fr ats ats' regs:List Int}{pv rv bv ov ov':Value}{L:Nat}{rs rs':List (List Int)}{c c':Bool}{seq:List Nat}
def JJ.move(h:JJ w D g ge ce gf cf ga ca es fr ats regs pv rv bv ov L rs c)(a:JX S w w')(o:∀k,S k->D k)(E:QQ w D rv regs)(z:¬S g)(q:¬S ge)(u:¬S gf)(p:Blk w' ga (NT ats') 3)(A:V ats'=V es):JJ w' D g ge ce gf cf ga ca es fr ats' regs pv rv bv ov L rs c:=by
 have d:=h.blk.x a z;refine⟨d,⟨d.cell Z,d.cell Z,d.cell Z,fun i f=>?_,fun i f=>?_,fun i f=>p.cell (qQ (by rw[A];exact f)),d.lt,xR h.jin.le a.size,xR h.jin.lf a.size,p.lt,h.jin.n⟩,?_,h.y.x a fun x _ k=>o x k,h.rise,h.ok,h.len,h.small,h.pos,h.rng,h.vals,h.full,h.frl,h.half,h.three,fun x m=>xR (h.low x m) a.size,h.dg⟩
 ·have e:∀j,w'.cell? ⟨ge,j,Y⟩=w.cell? ⟨ge,j,Y⟩:=fun j=>gD (a.block ge h.jin.le q)
  have k:=h.jin.ev i f;exact⟨(e _).trans k.t,(e _).trans k.b,(e _).trans k.k,(e _).trans k.l,(e _).trans k.v,(e _).trans k.r,(e _).trans k.s,(e _).trans k.h,(e _).trans k.n⟩
 ·exact(gD (a.block gf h.jin.lf u)).trans (h.jin.fr i f)
 ·exact(E.x a fun x _ k=>o x k).of fun _ _ e=>e.elim
end
structure JO(w:World)(D:Nat->Prop)(g ge ce gf cf ga ca gd:Nat)(es:List J.E)(fr regs:List Int)(pv rv bv ov:Value)(L:Nat)(rs:List (List Int))(c:Bool)(seq:List Nat)(ats:List Int):Prop where
 jj:JJ w D g ge ce gf cf ga ca es fr ats regs pv rv bv ov L rs c
 ab:Blk w ga (NT ats) 3
 ok:J.AtOk es seq ats
 db:Blk w gd (RZ (V es) fun i=>decide (i∈seq)) 4
 rg:QQ w D rv regs
 ne:ga≠gf
 da:D ga
 dd:D gd
section
variable {w w':World}{D:Nat->Prop}{g ge ce gf cf ga ca gd:Nat}{es:List J.E}{fr ats regs:List Int}{pv rv bv ov ov':Value}{L:Nat}{rs rs':List (List Int)}{c c':Bool}{seq:List Nat}
def Blk.wS{g:Nat}{l:List Value}{u:Value}(h:Blk w g l t)(c:l[i]?=G u)(a:w.cell? ⟨b,i,Y⟩=G v)(d:u≠v):b≠g:=fun e=>by
 subst e;have:=h.cell c;rw[a]at this;exact d (Option.some.inj this).symm
def JO.gR(h:JO w D g ge ce gf cf ga ca gd es fr regs pv rv bv ov L rs c seq ats):g≠ga/\g≠gd/\ge≠ga/\ge≠gd/\gf≠gd/\ga≠gd:=by
 have j:=h.jj.three;have k:=h.jj.jin.ev 0 (by omega);have a:=k.k;have d:=k.t;have f:=h.jj.jin.fr 0 (by omega);simp only[Nat.zero_mul,Nat.zero_add]at a d;have m:=h.ok.len;refine⟨h.jj.blk.ne h.ab (by decide),h.jj.blk.ne h.db (by decide),h.ab.wS (i:=2) (qQ (by omega)) a (by simp),h.db.wS (i:=0) (u:=I (decide (0∈seq))) (by unfold RZ;rw[qI _ (by omega)]) d (by simp),h.db.wS (i:=0) (u:=I (decide (0∈seq))) (by unfold RZ;rw[qI _ (by omega)]) f (by simp),h.ab.ne h.db (by decide)⟩
def JO.eI(h:JO w D g ge ce gf cf ga ca gd es fr regs pv rv bv ov L rs c seq ats)(a:JX (fun k=>k=g) w w')(j:Blk w' g (jw O pv (MU ge (V es) ce) rv bv (MU gf (V es) cf) (MU ga (V es) ca) ov' c') 109)(m:QP w' D ov' rs')(f:QB rs')(d:∀r∈rs',J.Ok L r):JO w' D g ge ce gf cf ga ca gd es fr regs pv rv bv ov' L rs' c' seq ats:=by
 obtain⟨o,p,_⟩:=h.gR;exact⟨h.jj.eI a j m f d,h.ab.x a fun e=>o e.symm,h.ok,h.db.x a fun e=>p e.symm,h.rg.x a fun x _ e=>by rw[e];exact h.jj.dg,h.ne,h.da,h.dd⟩
def Ao(n:Nat)(p:Nat->Bool)(i:Nat)(b:Bool):(RZ n p).set i (I b)=RZ n fun j=>if j=i then b else p j:=by
 unfold RZ;rw[GH];apply List.map_congr_left;intro x _;by_cases c:x=i<;>simp[c]
def JO.mark(h:JO w D g ge ce gf cf ga ca gd es fr regs pv rv bv ov L rs c seq ats)(o:J.wr es i)(p:i∉seq):JO ((w.setCell ⟨gd,i,Y⟩ (I T)).setCell ⟨ga,i,Y⟩ (M U ((V seq:Int)+1))) D g ge ce gf cf ga ca gd es fr regs pv rv bv ov L rs c (seq++[i]) (ats.set i ((V seq:Int)+1)):=by
 obtain⟨q,r,s,u,y,m⟩:=h.gR;have f:JX (fun k=>k=ga\/k=gd) w ((w.setCell ⟨gd,i,Y⟩ (I T)).setCell ⟨ga,i,Y⟩ (M U ((V seq:Int)+1))):=JX.set (P:=fun k=>k=ga\/k=gd) (JX.set (P:=fun k=>k=ga\/k=gd) (JX.refl _ _) (xF (x5 Z)) _ _) (xF (xF Z)) _ _;have a:∀k,k=ga\/k=gd->D k:=fun k e=>by rcases e with rfl|rfl;exact h.da;exact h.dd
 have d:Blk ((w.setCell ⟨gd,i,Y⟩ (I T)).setCell ⟨ga,i,Y⟩ (M U ((V seq:Int)+1))) ga (NT (ats.set i ((V seq:Int)+1))) 3:=by
  have:=(h.ab.bR i (I T) m).set i (M U ((V seq:Int)+1));unfold NT at*;rw[List.map_set];exact this
 refine⟨h.jj.move f a h.rg (by rintro(e|e);exact q e;exact r e) (by rintro(e|e);exact s e;exact u e) (by rintro(e|e);exact h.ne e.symm;exact y e) d (by simp[h.ok.len]),d,h.ok.aY o p,?_,h.rg.x f fun x _ k=>a x k,h.ne,h.da,h.dd⟩;have:=(h.db.set i (I T)).bR (k:=ga) i (M U ((V seq:Int)+1)) fun e=>m e.symm;rw[Ao]at this;refine Eq.mp ?_ this
 congr 2
 funext j
 by_cases c:j=i<;>simp[c]
def JO.tN(h:JO w D g ge ce gf cf ga ca gd es fr regs pv rv bv ov L rs c (seq++[i]) ats)(m:i∉seq):JO (w.setCell ⟨gd,i,Y⟩ (I O)) D g ge ce gf cf ga ca gd es fr regs pv rv bv ov L rs c seq ats:=by
 obtain⟨s,o,u,p,q,r⟩:=h.gR;have f:JX (fun k=>k=gd) w (w.setCell ⟨gd,i,Y⟩ (I O)):=JX.set (P:=fun k=>k=gd) (JX.refl _ _) (xF Z) _ _;have a:∀k,k=gd->D k:=fun k e=>by rw[e];exact h.dd
 have d:=h.ab.bR (k:=gd) i (I O) r;refine⟨h.jj.move f a h.rg o p q d h.ok.len,d,h.ok.drop,?_,h.rg.x f fun x _ k=>a x k,h.ne,h.da,h.dd⟩;have:=h.db.set i (I O);rw[Ao]at this;refine Eq.mp ?_ this
 congr 2
 funext j
 by_cases c:j=i
 ·simp[c,m]
 ·simp[c]
end
def Rt(g j f u r s q:Nat)(es:List J.E)(a ats regs:List Int)(x y p z A:Value)(L:Nat)(rs:List (List Int))(c:Bool)(D:Nat->Prop)(w:World)(h:JJ w D g j f u r s q es a ats regs x y p z L rs c):
  Calls prog 145 #[.pointer (G ⟨g,0,Y⟩),M U 0,A] w fun e S=>e=.returned (.tuple #[])/\Am w S (fun k=>k=g) D g x (MU j (V es) f) y p (MU u (V es) r) (MU s (V es) q) L rs c (fun o=>J.May es a ats/\o=J.gM es ats regs) (J.May es a ats/\J.cG es (J.bef es a)):=by
 have H:=MS h;have W:=h.blk.cell (i:=0) (v:=I O) Z;have X:=h.blk.cell (i:=2) (v:=MU j (V es) f) Z;have lg:=h.blk.lt;have K:=h.three;have N:(0:Int)<(V es:Int):=by omega
 clear h K;go_enter func145,ntmps145;go_wp2;go_loopw[6,7] (fun l i wr=>l=I O/\i=M U 0/\wr=w) fun _ _ _=>0
 case atStart=>exact⟨Z,Z,Z⟩
 case round =>
  obtain⟨rfl,rfl,rfl⟩:=hrel;go_wp2_with(first
   |(go_at_call 166;refine(Rs g j f u r s q es a ats regs x y p z L rs c D _ H.o).mono ?_;rintro e w7 ⟨rfl,d⟩;have m:=MS d;clear d))
  go_end0;exact⟨Z,m.o⟩
