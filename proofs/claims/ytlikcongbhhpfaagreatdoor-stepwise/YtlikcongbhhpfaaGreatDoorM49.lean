import Derived.Test.YtlikcongbhhpfaaGreatDoorM48
set_option linter.unusedVariables false
set_option linter.unusedSimpArgs false
set_option maxHeartbeats 12800000
namespace Go.Proofs.YtlikcongbhhpfaaGreatDoor
open Go Go.RowKit Go.Proofs.Tryz P Q
set_option maxRecDepth 1000000
variable {α:Type}{bl rg vr:List Int}{b v:Int}{k k0:Nat}{ps:List Nat}{st:JR}
open List renaming length->E
open Bool renaming false->Y,true->C
open Option renaming none->O
open Go.Value renaming bool->G
open List renaming range->xF,getD_eq_getElem?_getD->xR,getElem?_eq_getElem->xW,ext_getElem->x2,getElem_map->x4,getElem_range->x5,map_congr_left->x6,range_succ->x7,getElem_mem->x8,map_append->x9,sum_append->xa
open Or renaming inr->x0,inl->x1
open Nat renaming le_refl->x3
open Bool renaming false_eq_true->xc
def kW(bl:List Int)(b:Int)(JT:List Bool)(j:Nat):Bool:=bl.getD j 0==b&&JT.getD j Y
def gJ(bl:List Int)(b:Int)(JT:List Bool)(k:Nat):Bool:=(xF k).all fun j=>!(bl.getD j 0==b)||JT.getD j Y
def iJ(bl:List Int)(b:Int)(JT:List Bool)(k:Nat)(ps:List Nat):List Nat:=(xF (E ps)).map fun j=>if decide (j<k)&&kW bl b JT j then ps.getD j 0+1 else ps.getD j 0
def jB(bl:List Int)(b:Int)(k:Nat)(JT:List Bool):List Bool:=(xF JT.length).map fun j=>if decide (j<k)&&kW bl b JT j then Y else JT.getD j Y
theorem Gt(l:List α)(d:α):(xF (E l)).map (fun j=>l.getD j d)=l:=by
 refine x2 (by simp) fun i c a=>?_
 simp only[x4,x5];rw[xR,xW a];rfl
theorem Vg(bl:List Int)(b:Int)(JT:List Bool)(ps:List Nat):iJ bl b JT 0 ps=ps:=by
 have:=Gt ps 0;unfold iJ;simpa using this
theorem Vh(bl:List Int)(b:Int)(JT:List Bool):jB bl b 0 JT=JT:=by
 have:=Gt JT Y;unfold jB;simpa using this
theorem map_set(n k:Nat)(f g:Nat->α)(l:k<n)(h:∀j,j≠k->g j=f j):(xF n).map g=((xF n).map f).set k (g k):=by
 refine x2 (by simp) fun i a d=>?_
 rw[List.getElem_set];simp only[x4,x5];by_cases c:k=i
 ·subst c;rw[if_pos rfl]
 ·rw[if_neg c,h i fun e=>c e.symm]
theorem Vi{JT:List Bool}(ps:List Nat)(h:kW bl b JT k=Y):iJ bl b JT (k+1) ps=iJ bl b JT k ps:=by
 unfold iJ;refine x6 fun j _=>?_
 by_cases c:j=k
 ·subst c;rw[h];simp
 ·rw[show decide (j<k+1)=decide (j<k)by simp;omega]
theorem Vj{JT:List Bool}(h:kW bl b JT k=Y):jB bl b (k+1) JT=jB bl b k JT:=by
 unfold jB;refine x6 fun j _=>?_
 by_cases c:j=k
 ·subst c;rw[h];simp
 ·rw[show decide (j<k+1)=decide (j<k)by simp;omega]
theorem Vk{JT:List Bool}(a:k<E ps)(h:kW bl b JT k=C):iJ bl b JT (k+1) ps=(iJ bl b JT k ps).set k (ps.getD k 0+1):=by
 unfold iJ;rw[map_set (E ps) k (fun j=>if decide (j<k)&&kW bl b JT j then ps.getD j 0+1 else ps.getD j 0) (fun j=>if decide (j<k+1)&&kW bl b JT j then ps.getD j 0+1 else ps.getD j 0) a fun j c=>by rw[show decide (j<k+1)=decide (j<k)by simp;omega]];simp[h]
theorem Vl{JT:List Bool}(a:k<JT.length)(h:kW bl b JT k=C):jB bl b (k+1) JT=(jB bl b k JT).set k Y:=by
 unfold jB;rw[map_set JT.length k (fun j=>if decide (j<k)&&kW bl b JT j then Y else JT.getD j Y) (fun j=>if decide (j<k+1)&&kW bl b JT j then Y else JT.getD j Y) a fun j c=>by rw[show decide (j<k+1)=decide (j<k)by simp;omega]];simp[h]
theorem Vm{JT:List Bool}(a:k<E ps)(c:k<JT.length):(iJ bl b JT k ps).getD k 0=ps.getD k 0/\(jB bl b k JT).getD k Y=JT.getD k Y:=by
 unfold iJ jB;constructor
 ·rw[xR];simp[a]
 ·rw[xR];simp[c]
theorem Vn(bl:List Int)(b:Int)(JT:List Bool)(k:Nat):gJ bl b JT (k+1)=(gJ bl b JT k&&(!(bl.getD k 0==b)||JT.getD k Y)):=by
 unfold gJ;rw[x7,List.all_append];simp
def dR(bl:List Int)(b:Int)(JT:List Bool)(ps:List Nat):List Nat:=if gJ bl b JT (E ps)then iJ bl b JT (E ps) ps else ps
def cO(bl:List Int)(b:Int)(JT:List Bool):List Bool:=if gJ bl b JT JT.length then jB bl b JT.length JT else JT
structure BlAt(w:World)(Wr:Nat->Prop)(g:Nat)(bl:List Int):Prop where
 cell:∀i,i<E bl->w.cell? ⟨g,i,O⟩=some (.int .u8 (48+bl.getD i 0))
 lt:g<w.heap.size
 no:¬Wr g
theorem BlAt.xf{w d:World}{Wr:Nat->Prop}{g:Nat}(h:BlAt w Wr g bl)(c:XF Wr w d):BlAt d Wr g bl :=
 ⟨fun i e=>(World.cell?_of_block (w:=w) (a:=⟨g,i,O⟩) (c.block g h.lt h.no)).trans (h.cell i e),Nat.lt_of_lt_of_le h.lt c.size,h.no⟩
theorem Gu(x b:Int):(48+x==48+b)=(x==b):=by
 rw[Bool.eq_iff_iff];simp
theorem Vo(K:Sk)(f:List (List ByteArray))(ps:List Nat)(d:List (List Int))(g:List Int)(JT:List Bool)(gb cb:Nat)(bl:List Int)(w:World)(h:MK w K f ps d g JT)(hb:BlAt w K.W gb bl)(aa:E bl=K.n)(hn:K.n<1000)(an:∀x∈ps,x<100000):
  Calls prog 12 #[.pointer (some ⟨K.gm,0,O⟩),JQ gb K.n cb] w fun e w'=>e=.returned (.tuple #[])/\MK w' K f (dR bl 1 (cO bl 0 JT) (dR bl 0 JT ps)) d g (cO bl 1 (cO bl 0 JT))/\XF K.W w w':=by
 have HM:=JO h;have M:=JO hb;have HP:=JO an;go_enter func12,ntmps12;go_upto_region 1 with fail
 go_loopw[4] (fun bv wr=>∃(b:Nat) (c:List Nat) (a:List Bool),b<=2/\bv=.int .u8 (48+(b:Int))/\JP (MK wr K f c d g a)/\JP (XF K.W w wr)/\JP (∀x∈c,x<100000+b)/\JP ((b=0->c=ps/\a=JT)/\(b=1->c=dR bl 0 JT ps/\a=cO bl 0 JT)/\(b=2->c=dR bl 1 (cO bl 0 JT) (dR bl 0 JT ps)/\a=cO bl 1 (cO bl 0 JT)))) fun bv _=>50-(intOf bv).toNat
 case atStart=>exact⟨0,ps,JT,by omega,Z,HM,XF.refl _ _,HP,⟨fun _=>⟨Z,Z⟩,fun e=>by omega,fun e=>by omega⟩⟩
 case round =>
  obtain⟨b,c,a,ap,rfl,l,V,s,I⟩:=hrel;by_cases hbb:b=2
  ·subst hbb;have B:JP (MK wr K f (dR bl 1 (cO bl 0 JT) (dR bl 0 JT ps)) d g (cO bl 1 (cO bl 0 JT))):=by
    obtain⟨e1,e2⟩:=I.o.2.2 Z;unfold JP;rw[<- e1,<- e2];exact l.o
   clear I l s;go_wp2_with fail;go_end0;exact⟨Z,B.o,V.o⟩
  ·have aq:(48:Int)+(b:Int)<50:=by omega
   have ai:=JO (M.o.xf V.o);obtain⟨f0,f1,f2,f3,f4,f5⟩:=l.o.MF;have ad:E c=K.n:=l.o.na;have ae:E a=K.n:=l.o.nw;have r:=JO ad;have z:=JO ae;clear ad ae;go_upto_region 5 with fail
   go_loopw[5,6] (fun av A q=>∃k:Nat,k<=K.n/\A=.int .i64 (k:Int)/\av=G (gJ bl (b:Int) a k)/\q=wr) fun _ A _=>K.n-(intOf A).toNat
   case atStart=>exact⟨0,by omega,Z,Z,Z⟩
   case round =>
    obtain⟨k,hk,rfl,rfl,rfl⟩:=hrel;by_cases hkn:k<K.n
    ·have am:(k:Int)<(K.n:Int):=by omega
     have X:=ai.o.cell k (by rw[aa];exact hkn);obtain⟨c2,_,c3⟩:=l.o.gY hkn;have F:=Gu (bl.getD k 0) (b:Int);have U:=JO (Vn bl (b:Int) a k);generalize bl.getD k 0=xb at X F U;generalize a.getD k Y=xw at c2 U;generalize(48:Int)+xb=yb at X F
     cases h1:xb==(b:Int)<;>cases xw<;>rw[h1]at F U
     all_goals
      generalize gJ bl (b:Int) a k=al at U;clear h1;go_wp2_with fail;go_roundw
      case rel=>exact⟨k+1,by omega,by go_num,by rw[U.o];cases al<;>rfl,by first|rfl|trivial⟩
      case measure=>simp[intOf];omega
    ·have H:k=K.n:=by omega
     subst H;have am:¬(K.n:Int)<(K.n:Int):=by omega
     have ab:(48:Int)+(b:Int)+1=48+((b+1:Nat):Int):=by omega
     have y:=JO ab;clear ab;have HX:JP (∀(t:List Nat) (u:List Bool),t=dR bl (b:Int) a c->u=cO bl (b:Int) a->(b+1=0->t=ps/\u=JT)/\(b+1=1->t=dR bl 0 JT ps/\u=cO bl 0 JT)/\(b+1=2->t=dR bl 1 (cO bl 0 JT) (dR bl 0 JT ps)/\u=cO bl 1 (cO bl 0 JT))):=fun t u e1 e2=>by
      refine⟨fun e=>by omega,fun e=>?_,fun e=>?_⟩
      ·have aj:b=0:=by omega
       subst aj;obtain⟨q1,q2⟩:=I.o.1 Z;rw[e1,e2,q1,q2];exact⟨Z,Z⟩
      ·have ak:b=1:=by omega
       subst ak;obtain⟨q1,q2⟩:=I.o.2.1 Z;rw[e1,e2,q1,q2];exact⟨Z,Z⟩
     cases hal:gJ bl (b:Int) a K.n
     ·have T:=JO (HX.o c a (by unfold dR;rw[r.o,hal];rfl) (by unfold cO;rw[z.o,hal];rfl));clear HX I;go_upto_region 10 with fail
      go_loopw[7] (fun A q=>A=.int .i64 0/\q=wr) fun _ _=>0
      case atStart=>exact⟨Z,Z⟩
      case round =>
       obtain⟨rfl,rfl⟩:=hrel;go_wp2_with fail
       try go_roundw
       all_goals first
        |exact⟨⟨b+1,c,a,by omega,by rw[y.o],l,V,fun x L=>by have:=s.o x L;omega,T⟩,by simp[intOf];omega⟩
        |exact⟨b+1,c,a,by omega,by rw[y.o],l,V,fun x L=>by have:=s.o x L;omega,T⟩
        |(simp[intOf];omega)
     ·have T:=JO (HX.o (iJ bl (b:Int) a K.n c) (jB bl (b:Int) K.n a) (by unfold dR;rw[r.o,hal];rfl) (by unfold cO;rw[z.o,hal];rfl));clear HX I;go_upto_region 10 with fail
      go_loopw[7] (fun A q=>∃k:Nat,k<=K.n/\A=.int .i64 (k:Int)/\JP (MK q K f (iJ bl (b:Int) a k c) d g (jB bl (b:Int) k a))/\JP (XF K.W w q)) fun A _=>K.n-(intOf A).toNat
      case atStart=>exact⟨0,by omega,Z,by unfold JP;rw[Vg,Vh];exact l.o,V⟩
      case round =>
       obtain⟨k,hk,rfl,i,J⟩:=hrel;by_cases hkn:k<K.n
       ·have ao:(k:Int)<(K.n:Int):=by omega
        have ag:=JO (M.o.xf J.o);have X:=ag.o.cell k (by rw[aa];exact hkn);obtain⟨c2,c4,c3⟩:=i.o.gY hkn;obtain⟨d1,d2,d3⟩:=i.o.jX hkn;obtain⟨g0,g1,g2,g3,g4,g5⟩:=i.o.MF;obtain⟨q1,q2⟩:=Vm (bl:=bl) (b:=(b:Int)) (JT:=a) (k:=k) (ps:=c) (by rw[r.o];exact hkn) (by rw[z.o];exact hkn);rw[q1]at d1;rw[q2]at c2;have F:=Gu (bl.getD k 0) (b:Int);have af:c.getD k 0<200000:=by
         have ac:k<E c:=by rw[r.o];exact hkn
         have e:c.getD k 0=c[k]:=by rw[xR,xW ac];rfl
         have:=s.o _ (x8 ac);rw[e];omega
        have p:JP (kW bl (b:Int) a k=(bl.getD k 0==(b:Int)&&a.getD k Y)):=Z;have HY:JP (kW bl (b:Int) a k=C->MK ((wr.setCell ⟨K.gw,k,O⟩ (G Y)).setCell ⟨K.ga,k,O⟩ (.int .i64 ((c.getD k 0+1:Nat):Int))) K f (iJ bl (b:Int) a (k+1) c) d g (jB bl (b:Int) (k+1) a)):=fun hh=>by
         rw[Vk (by rw[r.o];exact hkn) hh,Vl (by rw[z.o];exact hkn) hh];exact(i.o.wS hkn Y).fM hkn _
        have N:JP (kW bl (b:Int) a k=Y->MK wr K f (iJ bl (b:Int) a (k+1) c) d g (jB bl (b:Int) (k+1) a)):=fun hh=>by
         rw[Vi c hh,Vj hh];exact i.o
        have D:JP (XF K.W w ((wr.setCell ⟨K.gw,k,O⟩ (G Y)).setCell ⟨K.ga,k,O⟩ (.int .i64 ((c.getD k 0+1:Nat):Int)))):=(J.o.trans (XF.aR wr K.gw k _) fun j _ e=>x0 (x0 (x1 e))).trans (XF.aR _ K.ga k _) fun j _ e=>x1 e;have na:K.ga≠K.gw:=i.o.ok.aw;have nm:K.gm≠K.gw:=fun e=>i.o.ok.m (x0 (x0 (x1 e)))
        generalize c.getD k 0=pk at d1 af HY D;generalize bl.getD k 0=xb at X F p;generalize a.getD k Y=xw at c2 p;generalize(48:Int)+xb=yb at X F;have ah:JP (pk<200000):=af
        cases h1:xb==(b:Int)<;>rw[h1]at F p
        ·have B:=JO (N.o (by rw[p.o];rfl));go_wp2_with fail;go_roundw
         case rel=>exact⟨k+1,by omega,by go_num,B,J⟩
         case measure=>simp[intOf];omega
        ·cases xw
         ·have B:=JO (N.o (by rw[p.o];rfl));go_wp2_with fail;go_roundw
          case rel=>exact⟨k+1,by omega,by go_num,B,J⟩
          case measure=>simp[intOf];omega
         ·have B:=JO (HY.o (by rw[p.o];rfl));go_upto_region 14 with fail
          have k1:(wr.setCell ⟨K.gw,k,O⟩ (G Y)).cell? ⟨K.gm,1,O⟩=some (JQ K.ga K.n K.ca):=(aV nm).trans g1;have k2:(wr.setCell ⟨K.gw,k,O⟩ (G Y)).cell? ⟨K.ga,k,O⟩=some (.int .i64 (pk:Int)):=(aV na).trans d1;have k3:(wr.setCell ⟨K.gw,k,O⟩ (G Y)).frozen? ⟨K.ga,k,O⟩=Y:=by rw[World.frozen?_setCell];exact d2
          have k4:K.ga<(wr.setCell ⟨K.gw,k,O⟩ (G Y)).heap.size:=by simpa using d3
          have k5:K.gm<(wr.setCell ⟨K.gw,k,O⟩ (G Y)).heap.size:=by simpa using g5
          generalize wr.setCell ⟨K.gw,k,O⟩ (G Y)=W2 at*;have ar:(pk:Int)<200000:=by have:=ah.o;omega
          have ep:((pk+1:Nat):Int)=(pk:Int)+1:=by omega
          rw[ep]at B D;go_wp2_with fail;go_roundw
          case rel=>exact⟨k+1,by omega,by go_num,B,D⟩
          case measure=>simp[intOf];omega
       ·have H:k=K.n:=by omega
        subst H;have S:JP (∀x∈iJ bl (b:Int) a K.n c,x<100000+(b+1)):=fun x L=>by
         unfold iJ at L;obtain⟨j,hj,rfl⟩:=List.mem_map.1 L;have hj:=List.mem_range.1 hj;have:c.getD j 0<100000+b:=by
          rw[xR,xW hj];exact s.o _ (x8 hj)
         split<;>omega
        obtain⟨g0,g1,g2,g3,g4,g5⟩:=i.o.MF;go_wp2_with fail
        try go_roundw
        all_goals first
         |exact⟨⟨b+1,_,_,by omega,by rw[y.o],i,J,S,T⟩,by simp[intOf];omega⟩
         |exact⟨b+1,_,_,by omega,by rw[y.o],i,J,S,T⟩
         |(simp[intOf];omega)
namespace Q
section
variable {ts us:List P.JV}{di:Int->Bool}{ps:List Nat}{regs:List (List Int)}{vars:List Int}{JT:List Bool}
def LQ(ts:List JV):List Int:=ts.map fun t=>t.block
theorem tU(h:k<E ts):(LQ ts).getD k 0=(ts.getD k JZ).block:=by
 unfold LQ;rw[xR,xR,List.getElem?_map,xW h];rfl
theorem zF{JT:List Bool}{n:Nat}:gJ bl b JT n=C↔∀k,k<n->bl.getD k 0=b->JT.getD k Y=C:=by
 unfold gJ;rw[List.all_eq_true];constructor
 ·intro h k a e;have:=h k (List.mem_range.2 a);rw[e]at this;simpa using this
 ·intro h k a;by_cases c:bl.getD k 0=b
  ·rw[h k (List.mem_range.1 a) c];simp
  ·have:(bl.getD k 0==b)=Y:=by rw[beq_eq_false_iff_ne];exact c
   rw[this];rfl
theorem nC(h:Lk ts us di ps regs vars JT)(b:Int)(a:k<E ts):
  (dR (LQ ts) b JT ps).getD k 0=ps.getD k 0+(if gJ (LQ ts) b JT (E ts)=C/\(ts.getD k JZ).block=b then 1 else 0)/\(cO (LQ ts) b JT).getD k Y=if gJ (LQ ts) b JT (E ts)=C/\(ts.getD k JZ).block=b then Y else JT.getD k Y:=by
 unfold dR cO;rw[h.np,h.nw];by_cases c:gJ (LQ ts) b JT (E ts)=C
 ·rw[if_pos c,if_pos c];unfold iJ jB;rw[h.np,h.nw,pE _ a,pE _ a];unfold kW;rw[tU a];by_cases e:(ts.getD k JZ).block=b
  ·have i:=zF.1 c k a (by rw[tU a];exact e);have d:(if gJ (LQ ts) b JT (E ts)=C/\(ts.getD k JZ).block=b then(1:Nat)else 0)=1:=if_pos ⟨c,e⟩;have f:(if gJ (LQ ts) b JT (E ts)=C/\(ts.getD k JZ).block=b then Y else JT.getD k Y)=Y:=if_pos ⟨c,e⟩;rw[d,f,i,e];simp[a]
  ·have g:((ts.getD k JZ).block==b)=Y:=by rw[beq_eq_false_iff_ne];exact e
   have d:(if gJ (LQ ts) b JT (E ts)=C/\(ts.getD k JZ).block=b then(1:Nat)else 0)=0:=if_neg fun q=>e q.2;have f:(if gJ (LQ ts) b JT (E ts)=C/\(ts.getD k JZ).block=b then Y else JT.getD k Y)=JT.getD k Y:=if_neg fun q=>e q.2;rw[d,f,g];simp
 ·rw[if_neg c,if_neg c,if_neg fun q=>c q.1,if_neg fun q=>c q.1];exact⟨Z,Z⟩
theorem Lk.GU(h:Lk ts us di ps regs vars JT)(r:Both ts us di)(b:Int):Lk ts us di (dR (LQ ts) b JT ps) regs vars (cO (LQ ts) b JT):=by
 have o:(dR (LQ ts) b JT ps).length=E ts:=by unfold dR;split<;>simp[iJ,h.np]
 have p:(cO (LQ ts) b JT).length=E ts:=by unfold cO;split<;>simp[jB,h.nw]
 by_cases c:gJ (LQ ts) b JT (E ts)=C
 ·have s:=h.rel r b fun k a e=>zF.1 c k a (by rw[tU a];exact e);have f:dR (LQ ts) b JT ps=nD ts b ps:=by
   refine x2 (by rw[o];simp[nD]) fun k d l=>?_
   have a:k<E ts:=by rw[o]at d;exact d
   have i:=(nC h b a).1;have j:(nD ts b ps).getD k 0=if(ts.getD k JZ).block=b then ps.getD k 0+1 else ps.getD k 0:=by unfold nD;rw[pE _ a]
   have m:(dR (LQ ts) b JT ps).getD k 0=(dR (LQ ts) b JT ps)[k]:=by rw[xR,xW d];rfl
   have n:(nD ts b ps).getD k 0=(nD ts b ps)[k]:=by rw[xR,xW l];rfl
   rw[<- m,<- n,i,j];by_cases e:(ts.getD k JZ).block=b
   ·rw[if_pos ⟨c,e⟩,if_pos e]
   ·rw[if_neg fun q=>e q.2,if_neg e];rfl
  have g:cO (LQ ts) b JT=nV ts b JT:=by
   refine x2 (by rw[p];simp[nV]) fun k d l=>?_
   have a:k<E ts:=by rw[p]at d;exact d
   have i:=(nC h b a).2;have j:(nV ts b JT).getD k Y=if(ts.getD k JZ).block=b then Y else JT.getD k Y:=by unfold nV;rw[pE _ a]
   have m:(cO (LQ ts) b JT).getD k Y=(cO (LQ ts) b JT)[k]:=by rw[xR,xW d];rfl
   have n:(nV ts b JT).getD k Y=(nV ts b JT)[k]:=by rw[xR,xW l];rfl
   rw[<- m,<- n,i,j];by_cases e:(ts.getD k JZ).block=b
   ·rw[if_pos ⟨c,e⟩,if_pos e]
   ·rw[if_neg fun q=>e q.2,if_neg e]
  rw[f,g];exact s
 ·have f:dR (LQ ts) b JT ps=ps:=by unfold dR;rw[h.np,if_neg c]
  have g:cO (LQ ts) b JT=JT:=by unfold cO;rw[h.nw,if_neg c]
  rw[f,g];exact h
theorem Lk.free(h:Lk ts us di ps regs vars JT)(i:Both ts us di)(j:∀k,k<E ts->(ts.getD k JZ).block=0\/(ts.getD k JZ).block=1)(o:∀k k',k<E ts->k'<E ts->(ts.getD k JZ).block=(ts.getD k' JZ).block->LF (ts.getD k JZ).S=LF (ts.getD k' JZ).S)(p:∀k,k<E ts->JT.getD k Y=C\/ps.getD k 0=(ts.getD k JZ).S.length)(d:k0<E ts)(l:JT.getD k0 Y=C):
  Lk ts us di (dR (LQ ts) 1 (cO (LQ ts) 0 JT) (dR (LQ ts) 0 JT ps)) regs vars (cO (LQ ts) 1 (cO (LQ ts) 0 JT))/\(∀k,k<E ts->ps.getD k 0<=(dR (LQ ts) 1 (cO (LQ ts) 0 JT) (dR (LQ ts) 0 JT ps)).getD k 0)/\ps.getD k0 0<(dR (LQ ts) 1 (cO (LQ ts) 0 JT) (dR (LQ ts) 0 JT ps)).getD k0 0:=by
 have g:=h.GU i 0;have m:=g.GU i 1;have all:=h.stuck i o p d l;refine⟨m,fun k c=>?_,?_⟩
 ·rw[(nC g 1 c).1,(nC h 0 c).1];omega
 ·rw[(nC g 1 d).1,(nC h 0 d).1]
  rcases j k0 d with e|e
  ·have a:gJ (LQ ts) 0 JT (E ts)=C:=zF.2 fun k c f=>all k c (by rw[tU c]at f;rw[f,e])
   rw[if_pos ⟨a,e⟩];omega
  ·have a:gJ (LQ ts) 1 (cO (LQ ts) 0 JT) (E ts)=C:=zF.2 fun k c f=>by
    rw[tU c]at f;rw[(nC h 0 c).2,if_neg (by rw[f];simp)];exact all k c (by rw[f,e])
   have n:(if gJ (LQ ts) 1 (cO (LQ ts) 0 JT) (E ts)=C/\(ts.getD k0 JZ).block=1 then(1:Nat)else 0)=1:=if_pos ⟨a,e⟩;omega
end
end Q
namespace P
theorem Vp{s:List UInt8}(h:(KM s).2.1=0):((KD 10 s).dropLast.foldl ptS []).length=(KM s).1.length/\∀k,k<(KM s).1.length->(((KD 10 s).dropLast.foldl ptS []).getD k []).length<=2000/\∃x a,(KD 10 (((KD 10 s).dropLast.foldl ptS []).getD k [])).dropLast=x::a/\E x=8/\((x.getD 7 0).toNat:Int)=48+((KM s).1.getD k JZ).block/\gH qT a ((KM s).1.getD k JZ).S:=by
 obtain⟨M,K,z,i,_,B,_⟩:=Dh h;obtain⟨F,o,H,q⟩:=Dv z B;obtain⟨j,p,_⟩:=RE h;have A:=Tc i;rw[q,List.length_map];generalize(KD 10 s).dropLast.foldl kI []=d at*;have y:=wX p;refine⟨y.symm,fun k J=>?_⟩;have g:k<E d:=by omega
 rw[Cr fS d k [] [] g];have f:d.getD k []∈d:=QA _ _ _ g;have m:∀x∈d.getD k [],(10:UInt8)∉x:=fun x l=>zV 10 s x (by
  have:x∈d.flatten:=List.mem_flatten.2 ⟨_,f,l⟩;rw[o]at this;exact List.dropLast_subset _ this)
 have n:∀L:List (List Row),d.getD k []∈L->(fS (d.getD k [])).length<=(fS L.flatten).length:=fun L=>by
  induction L with
  |nil=>intro e;cases e
  |cons b L ih =>
   intro e;rw[List.flatten_cons,CB,List.length_append]
   rcases List.mem_cons.1 e with e|e
   ·rw[e];omega
   ·have:=ih e;omega
 have r:=n d f;rw[o,<- A]at r;rw[FH m,List.dropLast_concat];obtain⟨x,a,c,e,D,I,u,t⟩:=DB [] JZ p k g;refine⟨by omega,x,a,e,?_⟩;have l:=yB 32 x;rw[D]at l;rw[<- l];refine⟨Z,?_,t⟩;rw[u];show (c.toNat:Int)=48+((c.toNat:Int)-48);omega
end P
namespace Q
def V4(x:Int):Prop:=0<=x/\x<4
theorem FK(h:∀x∈rg,V4 x){a:MR}(c:OW a):V4 (cJ rg a):=by
 unfold cJ
 split
 ·split
  ·exact⟨by omega,by omega⟩
  ·exact AS _ h _
 ·exact c
theorem yK{l:List Int}(h:∀x∈l,V4 x)(i:Nat)(a:V4 v):∀x∈l.set i v,V4 x:=fun x c=>by
 rcases List.mem_or_eq_of_mem_set c with e|e
 ·exact h x e
 ·rw[e];exact a
theorem CO(h:∀x∈vr,V4 x)(v:Int):V4 (OC vr v):=by
 unfold OC
 split
 ·exact⟨by omega,by omega⟩
 ·exact AS _ h _
theorem FV(x:Int):V4 (x%4):=⟨by omega,by omega⟩
theorem Vq(h:∀x∈rg,V4 x)(d:Int)(a:V4 v):∀x∈iM rg d v,V4 x:=by
 unfold iM
 split
 ·exact h
 ·exact yK h _ a
theorem Vr(c:∀x∈rg,V4 x)(a:∀x∈vr,V4 x)(d:NZ st):V4 (fC st rg vr).1/\∀x∈(fC st rg vr).2,V4 x:=by
 unfold fC
 split
 ·exact⟨CO a _,a⟩
 split
 ·exact⟨CO a _,yK a _ (FV _)⟩
 split
 ·exact⟨CO a _,yK a _ (FK c d.1)⟩
 ·refine⟨?_,a⟩;unfold tM
  split
  ·exact FV _
  split
  ·exact FV _
  split
  ·split
   ·exact⟨by omega,by omega⟩
   ·exact⟨by omega,by omega⟩
  ·exact FK c d.1
theorem Vt(d:NZ st)(more:List Int)(p:Nat)(e:Bool)(a:∀x∈rg,V4 x)(c:∀x∈vr,V4 x):(∀x∈(dJ st more p rg vr e).rg,V4 x)/\∀x∈(dJ st more p rg vr e).vr,V4 x:=by
 unfold dJ
 split
 ·exact⟨a,c⟩
 split
 ·exact⟨a,yK c _ (FK a d.1)⟩
 split
 ·exact⟨a,c⟩
 split
 ·exact⟨a,c⟩
 ·have:=Vr a c d;exact⟨Vq a _ this.1,this.2⟩
def jI(ts:List JV)(ps:List Nat)(JT:List Bool):Nat:=((xF (E ts)).map fun k=>2*((ts.getD k JZ).S.length-ps.getD k 0)+if JT.getD k Y then 0 else 1).sum
theorem GP{f g:Nat->Nat}:∀{n:Nat},(∀k,k<n->f k<=g k)->((xF n).map f).sum<=((xF n).map g).sum/\((∃k,k<n/\f k<g k)->((xF n).map f).sum<((xF n).map g).sum)
 |0,_=>⟨x3 _,fun⟨k,h,_⟩=>by omega⟩
 |n+1,h=>by
  have⟨h1,h2⟩:=GP (n:=n) fun k d=>h k (by omega);have e:=h n (by omega);rw[x7,x9,x9,xa,xa];simp only[List.map_cons,List.map_nil,List.sum_cons,List.sum_nil];refine⟨by omega,fun⟨k,d,a⟩=>?_⟩;by_cases c:k=n
  ·subst c;omega
  ·have:=h2 ⟨k,by omega,a⟩;omega
section
variable {ts us:List P.JV}{di:Int->Bool}{ps:List Nat}{regs:List (List Int)}{vars:List Int}{JT:List Bool}
structure Vs(regs:List (List Int))(vars:List Int):Prop where
 r:∀k,∀x∈regs.getD k [],V4 x
 v:∀x∈vars,V4 x
theorem Lk.go(h:Lk ts us di ps regs vars JT)(m:Both ts us di)(o:Vs regs vars){t:Nat}(d:t<E ts)(j:ps.getD t 0<(ts.getD t JZ).S.length)(g:JT.getD t Y=Y)(a:(ts.getD t JZ).S.getD (ps.getD t 0) JR.zero=st)(x:0<=st.k/\st.k<=11){D:DoS}(i:dJ st (((ts.getD t JZ).S.map fun s=>s.k).drop (ps.getD t 0+1)) (ps.getD t 0) (regs.getD t []) vars (JT.getD t Y)=D):
  Lk ts us di (ps.set t D.p) (regs.set t D.rg) D.vr (JT.set t D.wt)/\Vs (regs.set t D.rg) D.vr/\jI ts (ps.set t D.p) (JT.set t D.wt)<jI ts ps JT:=by
 have f:st∈(ts.getD t JZ).S:=by rw[<- a];exact QA _ _ _ j
 have q:=Vt ((m.wf t d).ok st f) (((ts.getD t JZ).S.map fun s=>s.k).drop (ps.getD t 0+1)) (ps.getD t 0) (JT.getD t Y) (o.r t) o.v;rw[i]at q;have A:t<E regs:=by rw[h.nr];exact d
 have u:t<E ps:=by rw[h.np];exact d
 have y:t<JT.length:=by rw[h.nw];exact d
 have KP:Lk ts us di (ps.set t D.p) (regs.set t D.rg) D.vr (JT.set t D.wt)/\(ps.getD t 0<D.p\/D.p=ps.getD t 0/\D.wt=C):=by
  by_cases h5:st.k=5
  ·have:=h.bar d j a h5 _ i;exact⟨this.1,x0 this.2⟩
  by_cases h10:st.k=10
  ·have:=h.I m d j a h10 g i;exact⟨this.1,x1 this.2⟩
  ·have:=h.step m d j a x h5 h10 g _ i;exact⟨this.1,x1 (by rw[this.2];omega)⟩
 refine⟨KP.1,⟨fun k=>?_,q.2⟩,?_⟩
 ·by_cases c:k=t
  ·subst c;rw[lG A];exact q.1
  ·rw[mA c];exact o.r k
 ·have n:=KP.1.le t d;rw[lG u]at n;have z:JT.getD t Y=Y:=g;refine(GP fun k x=>?_).2 ⟨t,d,?_⟩
  ·by_cases c:k=t
   ·subst c;rw[lG u,lG y,g]
    rcases KP.2 with e|⟨e,l⟩
    ·have:(if D.wt=C then(0:Nat)else 1)<=1:=by split<;>omega
     simp only[xc,if_false];omega
    ·rw[e,l];simp
   ·rw[mA c,mA c];exact x3 _
  ·rw[lG u,lG y,g]
   rcases KP.2 with e|⟨e,l⟩
   ·have:(if D.wt=C then(0:Nat)else 1)<=1:=by split<;>omega
    simp only[xc,if_false];omega
   ·rw[e,l];simp
theorem Vu(h:Lk ts us di ps regs vars JT)(m:Both ts us di)(i:∀k,k<E ts->(ts.getD k JZ).block=0\/(ts.getD k JZ).block=1)(p:∀k k',k<E ts->k'<E ts->(ts.getD k JZ).block=(ts.getD k' JZ).block->LF (ts.getD k JZ).S=LF (ts.getD k' JZ).S)(s:∀k,k<E ts->JT.getD k Y=C\/ps.getD k 0=(ts.getD k JZ).S.length)(d:k0<E ts)(f:JT.getD k0 Y=C):
  jI ts (dR (LQ ts) 1 (cO (LQ ts) 0 JT) (dR (LQ ts) 0 JT ps)) (cO (LQ ts) 1 (cO (LQ ts) 0 JT))<jI ts ps JT:=by
 have j:=h.GU m 0;obtain⟨l,q,r⟩:=h.free m i p s d f;have g:∀k,k<E ts->ps.getD k 0<(dR (LQ ts) 1 (cO (LQ ts) 0 JT) (dR (LQ ts) 0 JT ps)).getD k 0\/(dR (LQ ts) 1 (cO (LQ ts) 0 JT) (dR (LQ ts) 0 JT ps)).getD k 0=ps.getD k 0/\(cO (LQ ts) 1 (cO (LQ ts) 0 JT)).getD k Y=JT.getD k Y:=fun k c=>by
  rw[(nC j 1 c).1,(nC h 0 c).1,(nC j 1 c).2,(nC h 0 c).2]
  split
  ·left;omega
  ·split
   ·left;omega
   ·right;exact⟨by omega,Z⟩
 have n:∀b:Bool,(if b=C then(0:Nat)else 1)<=1:=fun b=>by split<;>omega
 refine(GP fun k c=>?_).2 ⟨k0,d,?_⟩
 ·have a:=n ((cO (LQ ts) 1 (cO (LQ ts) 0 JT)).getD k Y);have b:=l.le k c
  rcases g k c with e|⟨e,o⟩
  ·omega
  ·rw[e,o];exact x3 _
 ·have a:=n ((cO (LQ ts) 1 (cO (LQ ts) 0 JT)).getD k0 Y);have b:=l.le k0 d;rw[f];simp only[if_true];omega
end
end Q
end Go.Proofs.YtlikcongbhhpfaaGreatDoor
