import Derived.Test.YtehclbpoabdpoaaGreatDoorO26
set_option linter.all false
set_option maxHeartbeats 0
namespace Go.Proofs.YtehclbpoabdpoaaGreatDoor
open Go Go.RowKit Go.Proofs.Tryz P Q
open scoped Classical
set_option maxRecDepth 1000000
variable {w w':World}{B g n:Nat}{u v:Value}{rs:List Run}{vs:List Value}{es:List Ev}
open List renaming length->z
open _root_.Array renaming size->M
open Go.World renaming heap->H
open Go.Value renaming int->C,slice->I
open Go.IntKind renaming i64->O
open Go.Obj renaming cells->G
open Option renaming none->U,some->N
open Nat renaming le_refl->xF,zero_le->x4,lt_of_lt_of_le->x6
open Go.Value renaming ownBlock->xR,oneCell'->x7
open Go.RowKit.Below renaming refl->xW
open Go.World renaming ownsRow_nil->x5
def QZ:List Run->List Value->List Value
 |r::rs,v::vs=>v::C O (r.g.getD 0 0)::C O (r.g.getD 1 0)::C O (r.g.getD 2 0)::C O (r.g.getD 3 0)::QZ rs vs
 |_,_=>[]
def ZQ:∀(rs:List Run) (vs:List Value) (r:Run) (v:Value),z vs=z rs->QZ (rs++[r]) (vs++[v])=QZ rs vs++[v,C O (r.g.getD 0 0),C O (r.g.getD 1 0),C O (r.g.getD 2 0),C O (r.g.getD 3 0)]
 |[],[],_,_,_=>Z
 |[],_::_,_,_,h=>by simp at h
 |_::_,[],_,_,h=>by simp at h
 |a::rs,u::vs,r,v,h=>by
  simp only[List.cons_append,QZ];rw[ZQ rs vs r v (by simpa using h)]
structure El(w:World)(B:Nat)(v:Value)(rs:List Run)(vs:List Value):Prop where
 own:w.ownsRow B 209 5 v (z rs) (QZ rs vs)
 len:z vs=z rs
 K:∀i (h:i<z rs) (u:Value),vs[i]?=N u->PH w u rs[i].E
def El.X(h:El w B v rs vs)(a:Below (M (H w)) w w'):El w' B v rs vs :=
 ⟨bE h.own fun k e=>a.block k (h.own.lt k e).2,h.len,fun i b u c=>(h.K i b u c).X a⟩
def El.nil(w:World)(B:Nat):El w B (I U 0 0) [] []:=⟨by simpa[QZ]using x5 w B 209 5,Z,fun i h=>by simp at h⟩
def El.form(h:El w B v rs vs):∃a c,v=I a (z rs) c:=by
 rcases h.own.2 with⟨e,d⟩|⟨k,c,b,e,_⟩
 ·exact⟨U,0,by rw[e,d]⟩
 ·exact⟨_,c,e⟩
def PH.cK{p:Nat}{t:TypeId}{q:List Value}(h:PH w v es)(m:w.ownsRow B t p u n q)(o:t≠180)(j:w.grownBy w' u.ownBlock):PH w' v es:=by
 refine bE h fun k e=>j.block k (h.lt k e).2 ?_;intro b
 rcases h.2 with⟨e1,_⟩|⟨r,f,i,e1,_,l,_⟩
 ·rw[e1]at e;simp[xR]at e
 ·rw[e1]at e;simp[xR]at e;subst e
  rcases m.2 with⟨e2,_⟩|⟨s,c,d,e2,_,a,_⟩
  ·rw[e2]at b;simp[xR]at b
  ·rw[e2]at b;simp[xR]at b;subst b;rw[l]at a;simp at a;exact o a.2.symm
def El.aY{d:World}{f e:Nat}{r:Run}(h:El w B v rs vs)(l:PH w u r.E)(a:d.ownsRow B 209 5 (MU f (z rs+1) e) (z rs+1) (QZ rs vs++[u,C O (r.g.getD 0 0),C O (r.g.getD 1 0),C O (r.g.getD 2 0),C O (r.g.getD 3 0)]))(j:w.grownBy d v.ownBlock):
  El d B (MU f (z rs+1) e) (rs++[r]) (vs++[u]):=by
 refine⟨?_,by simp[h.len],fun i k x b=>?_⟩
 ·rw[ZQ _ _ _ _ h.len];simpa using a
 ·by_cases hlt:i<z rs
  ·rw[List.getElem?_append_left (by rw[h.len];exact hlt)]at b;rw[List.getElem_append_left hlt];exact(h.K i hlt x b).cK h.own (by decide) j
  ·simp at k;have c:i=z rs:=by omega
   subst c;rw[List.getElem?_append_right (by rw[h.len];exact xF _),h.len]at b;simp at b;subst b;simp;exact l.cK h.own (by decide) j
namespace Q
def Pj(b:List MV):∀(c:Nat) (k:Nat),(b.take k).foldl (fun c a=>if P.aX a.B then c*4 else c) c<=b.foldl (fun c a=>if P.aX a.B then c*4 else c) c:=by
 have mono:∀(l:List MV) (c:Nat),c<=l.foldl (fun c a=>if P.aX a.B then c*4 else c) c:=by
  intro l
  induction l with
  |nil=>intro c;exact xF _
  |cons s r ih =>
   intro c;have d:c<=if P.aX s.B then c*4 else c:=by split<;>omega
   exact Nat.le_trans d (ih _)
 induction b with
 |nil=>intro c k;simp
 |cons s r ih =>
  intro c k
  cases k with
  |zero=>exact mono _ _
  |succ k=>exact ih _ k
def Pk(t:NB)(i k:Nat):iS t i (k+1)=iS t i k++if(kC t i k).Y==0 then[(kC t i k).run]else[]:=by
 unfold iS;rw[List.range_succ,List.filter_append,List.map_append]
 congr 1
 cases h:(kC t i k).Y==0<;>simp[List.filter,h]
def ZR(t:NB)(i k:Nat):(iS t i k).length<=k:=by
 unfold iS;rw[List.length_map];have:=List.length_filter_le (fun c=>(kC t i c).Y==0) (List.range k);simpa using this
end Q
def Tryz.infoRun:(prog.info? 209).map (fun i=>(i.zero,i.size,i.bytes))=N (N (.agg #[I U 0 0,C O 0,C O 0,C O 0,C O 0]),5,56):=by kernel_rfl
def Eg.yK{m:Et}{ev:Value}(h:Eg w B g m ev):PH w ev m.E:=by
 refine⟨h.K.1,?_⟩
 rcases h.K.2 with d|⟨c,a,b,e,_,r⟩
 ·exact Or.inl d
 ·exact Or.inr ⟨c,a,b,e,x4 _,r⟩
def Pl(i:Nat)(t:NB)(sv:Value)(w:World)(D:w.ownsRow 0 137 11 sv (z t.S) (kQ t.S))(hi:i<100)(aM:∀s∈t.S,QK s)(hn:z t.S<900)(hc:QX t.S<100000):
  Calls prog 91 #[.agg #[C O t.block,C O t.i,sv],C O (i:Int)] w fun e w'=>∃v vs,e=.returned v/\El w' (M (H w)) v (gY t i) vs/\Below (M (H w)) w w':=by
 have aN:∃a c,sv=I a (z t.S) c/\(0<z t.S->∃b,a=N ⟨b,0,U⟩/\b<M (H w)):=by
  rcases D.2 with⟨e,h0⟩|⟨k,c,al,e,_⟩
  ·exact⟨U,0,by rw[e,h0],fun h=>by omega⟩
  ·exact⟨_,c,e,fun _=>⟨k,Z,(D.lt k (by rw[e];rfl)).2⟩⟩
 obtain⟨sa,sc,rfl,ao⟩:=aN;have aj:=MS D;obtain⟨V,ap,am⟩:∃V,(0<z t.S->sa=N ⟨V,0,U⟩)/\(0<z t.S->V<M (H w)):=by
  by_cases h0:0<z t.S
  ·obtain⟨b,W,h2⟩:=ao h0;exact⟨b,fun _=>W,fun _=>h2⟩
  ·exact⟨0,fun h=>absurd h h0,fun h=>absurd h h0⟩
 have aB:MT (∀q (hq:q<z t.S),w.rangeAt V (q*11) (aV t.S[q]).toList):=fun q hq=>by
  have W:=aj.o;rw[ap (by omega)]at W;exact AS W Z q hq
 obtain⟨i0,aJ,aS,aT,aU⟩:=info_parts Tryz.infoRun;have ah:MT (QX t.S=t.S.foldl (fun c J=>if P.aX J.B then c*4 else c) 1):=Z;obtain⟨k0,bu,aF⟩:=lW w #[C O t.block,C O t.i,I sa (z t.S) sc] 132;have ab:=MS aF;go_enter func91,ntmps91;go_upto_region 1 with fail
 generalize hE:w.alloc (G #[C O t.block,C O t.i,I sa (z t.S) sc] 132)=W0 at*;have c0:=jP k0 0 _ Z;have c2:=jP k0 2 _ Z;have l0:M (H w)<M (H W0):=by omega
 go_wp2;go_loopw[5,14] (fun c j wr=>∃(k n:Nat),k<=z t.S/\j=C O k/\c=C O (n:Nat)/\MT (n=(t.S.take k).foldl (fun c J=>if P.aX J.B then c*4 else c) 1)/\MT (Below (M (H W0)) W0 wr)) fun _ j _=>z t.S-(intOf j).toNat
 case atStart=>exact⟨0,1,x4 _,Z,Z,by simp[MT],xW _ _⟩
 case round =>
  obtain⟨k,n,hk,rfl,rfl,HN,HB⟩:=hrel;by_cases hlt:k<z t.S
  ·have bn:(k:Int)<(z t.S:Int):=by omega
   obtain⟨b,rfl,hb⟩:=ao (by omega);have HR:=MS (jM (AS aj.o Z k hlt) ((HB.block b (by omega)).trans (ab.block b hb)));have T:MT ((t.S.take (k+1)).foldl (fun c J=>if P.aX J.B then c*4 else c) 1=if P.aX t.S[k].B then n*4 else n):=by
    unfold MT;rw[List.take_succ_eq_append_getElem hlt,List.foldl_append,<- HN.o];rfl
   have bp:n<100000:=by have:=Pj t.S 1 k;rw[<- HN.o,<- ah.o]at this;omega
   generalize t.S[k]=J at*;have ag:MT (Below (M (H W0)) W0 (wr.alloc (G (aV J) 137))):=HB.alloc HB.size _
   cases hz:P.aX J.B
   ·rw[hz]at T;go_wp2_with(first|(refine mD (.tmp 16) Z Z b (k*11) J Z HR.o ?_)|(go_at_call 52;refine(LN _ _).mono ?_;rintro e w' ⟨rfl,l⟩;have l:=l.symm;subst l;rw[hz]));go_roundw
    case rel=>exact⟨k+1,n,by omega,by go_num,Z,T.symm,ag⟩
    case measure=>simp[intOf];omega
   ·rw[hz]at T;go_wp2_with(first|(refine mD (.tmp 16) Z Z b (k*11) J Z HR.o ?_)|(go_at_call 52;refine(LN _ _).mono ?_;rintro e w' ⟨rfl,l⟩;have l:=l.symm;subst l;rw[hz]));go_roundw
    case rel=>exact⟨k+1,n*4,by omega,by go_num,by first|rfl|go_num|(congr 1),T.symm,ag⟩
    case measure=>simp[intOf];omega
  ·have an:k=z t.S:=by omega
   have ac:MT (n=QX t.S):=by unfold MT;rw[ah.o,HN.o,an,List.take_length]
   have bq:n<100000:=by rw[ac.o];exact hc
   have ay:MT (gY t i=iS t i n):=by unfold MT gY;rw[ac.o]
   clear HN ac an;go_wp2;clear hlt hk;go_loopw[8,9] (fun a j wq=>∃(q:Nat) (v:Value) (vs:List Value),q<=n/\j=C O q/\a=v/\MT (El wq (M (H W0)) v (iS t i q) vs)/\MT (Below (M (H W0)) W0 wq)) fun _ j _=>n-(intOf j).toNat
   case atStart=>exact⟨0,_,[],x4 _,Z,Z,El.nil _ _,HB⟩
   case round =>
    clear HB;obtain⟨q,v,vs,hq,rfl,ad,A,HB⟩:=hrel;have ad:=ad.symm;subst ad;obtain⟨ra,rc,aL⟩:=A.form;subst aL;by_cases hql:q<n
    ·have br:(q:Int)<(n:Int):=by omega
     have d0:=MZ HB.o l0 c0;have d2:=MZ HB.o l0 c2;have lw:=x6 l0 HB.size;have ai:MT (Eg (wr.alloc (G #[C O (i:Int),C O t.block,C O (q:Int),C O 0,C O 0,C O 0,C O 0,C .u64 0,C .u64 0,C .u64 0,C .u64 0,C .u64 0,C O 0,I U 0 0] 206)) (M (H wr)) (M (H wr)) (Et.start i t.block q) (I U 0 0)):=⟨heap_alloc_new wr _,by simpa[Et.start,PB]using x5 _ _ _ _,xF _,Z,Z⟩;have BX:Below (M (H wr)) wr (wr.alloc (G #[C O (i:Int),C O t.block,C O (q:Int),C O 0,C O 0,C O 0,C O 0,C .u64 0,C .u64 0,C .u64 0,C .u64 0,C .u64 0,C O 0,I U 0 0] 206)):=(xW _ _).alloc (xF _) _;have BM:=MS BX;have bo:=MZ BX lw d2;have bv:=x6 lw BX.size;have aZ:M (H wr)<=(wr.alloc (G #[C O (i:Int),C O t.block,C O (q:Int),C O 0,C O 0,C O 0,C O 0,C .u64 0,C .u64 0,C .u64 0,C .u64 0,C .u64 0,C O 0,I U 0 0] 206)).heap.size:=BX.size;have aE:M (H W0)<=M (H wr):=HB.size;have az:MT (∀x (hx:x<z t.S),(wr.alloc (G #[C O (i:Int),C O t.block,C O (q:Int),C O 0,C O 0,C O 0,C O 0,C .u64 0,C .u64 0,C .u64 0,C .u64 0,C .u64 0,C O 0,I U 0 0] 206)).rangeAt V (x*11) (aV t.S[x]).toList):=fun x hx=>by
      have hb:=am (by omega);exact jM (aB.o x hx) ((BX.block V (by omega)).trans ((HB.block V (by omega)).trans (ab.block V hb)))
     have aA:MT (rV (Et.start i t.block q) t.S=kC t i q):=Z;have aC:=MS (ZP i t.block q (by omega));have ak:=MS (Pk t i q);go_upto_region 13 with fail
     generalize bi:wr.alloc (G #[C O (i:Int),C O t.block,C O (q:Int),C O 0,C O 0,C O 0,C O 0,C .u64 0,C .u64 0,C .u64 0,C .u64 0,C .u64 0,C O 0,I U 0 0] 206)=M1 at*;generalize aI:M (H wr)=gm at*;go_upto_region 14 with(first|(go_at_call 134;refine(Pi gm gm V sc (Et.start i t.block q) (I U 0 0) t.S sa _ ai.o aC.o aM hn (by omega) ap fun h=>by have:=am h;omega az.o).mono ?_;rintro e p ⟨rfl,bh,m,aH⟩))
     rw[aA.o]at m;have B3:MT (Below gm wr p):=BM.trans (aH.X ai.o (by omega));have bt:(kC t i q).g.length=4:=m.lr;have aa:MT (El p (M (H W0)) (I ra (iS t i q).length rc) (iS t i q) vs):=A.X (by rw[aI];exact B3.o);have L:MT (Below (M (H W0)) W0 p):=HB.trans (B3.mono aE);obtain⟨e0,e1,e2,e3,e4,e5,e6,e7,e8,e9,bd,be,bf,bg,ef⟩:=m.F;have av:=MS m.yK;have bl:=m.lt;obtain⟨ea,ec,aG,_⟩:=m.form;have bc:MT ((kC t i q).run=⟨(kC t i q).E,(kC t i q).g⟩):=Z;generalize bj:kC t i q=d at*
     cases hz:(d.Y:Int)==0
     ·have af:(d.Y==0)=false:=by have W:¬(d.Y:Int)=0:=(by simpa using hz);have h2:¬d.Y=0:=(by omega);simpa using h2
      have HN:MT (iS t i (q+1)=iS t i q):=by unfold MT;rw[ak.o,af];simp
      go_wp2;go_roundw
      case rel=>exact⟨q+1,_,vs,by omega,by go_num,Z,by rw[HN.o];exact aa,L⟩
      case measure=>simp[intOf];omega
     ·have af:(d.Y==0)=true:=by have W:(d.Y:Int)=0:=(by simpa using hz);have h2:d.Y=0:=(by omega);simpa using h2
      have HN:MT (iS t i (q+1)=iS t i q++[⟨d.E,d.g⟩]):=by unfold MT;rw[ak.o,af];rfl
      have ba:=ZR t i q;generalize aO:d.g.getD 0 0=x0 at*;generalize aP:d.g.getD 1 0=x1 at*;generalize aQ:d.g.getD 2 0=x2 at*;generalize aR:d.g.getD 3 0=x3 at*;subst aG;have BA:Below (M (H p)) p (p.alloc (G #[I ea (z d.E) ec,C O x0,C O x1,C O x2,C O x3] 209)):=(xW _ _).alloc (xF _) _;have HO:=MS (aa.X BA);have au:=MS (av.X BA);have ax:MT (∀j u,[Value.slice ea (z d.E) ec,C O x0,C O x1,C O x2,C O x3][j]?=N u->(p.alloc (G #[I ea (z d.E) ec,C O x0,C O x1,C O x2,C O x3] 209)).cell? ((⟨M (H p),0,U⟩:Addr).add j)=N u):=
       World.news_of_block (cs:=#[I ea (z d.E) ec,C O x0,C O x1,C O x2,C O x3]) (t:=209) (fr:=(0,0)) (heap_alloc_new p _)
      have ar:MT (Below (M (H W0)) W0 (p.alloc (G #[I ea (z d.E) ec,C O x0,C O x1,C O x2,C O x3] 209))):=L.alloc L.size _;have bk:M (H W0)<=M (H p):=L.size;have HX:MT (x0=d.g.getD 0 0/\x1=d.g.getD 1 0/\x2=d.g.getD 2 0/\x3=d.g.getD 3 0):=⟨aO.symm,aP.symm,aQ.symm,aR.symm⟩;go_wp2_with(first|(at_builtin;(refine wpList_append_lies _ Z (.tmp 40) (.tmp 46) 168 Z (M (H W0)) 209 i0 (.agg #[I U 0 0,C O 0,C O 0,C O 0,C O 0]) 5 56 underlying168 aJ aS aT aU Z (by decide) _ (iS t i q).length (QZ (iS t i q) vs) Z (by exact HO.own) ⟨M (H p),0,U⟩ 1 1 [I ea (z d.E) ec,C O x0,C O x1,C O x2,C O x3] Z Z (by exact ax.o) (by simp[x7]) (by decide) (by unfold maxLen;omega) (by omega) (by simp;omega) _ Z ?_;intro gn cn w5 ae f aW bb)));have aw:MT (El w5 (M (H W0)) (MU gn ((iS t i q).length+1) cn) (iS t i q++[⟨d.E,d.g⟩]) (vs++[I ea (z d.E) ec])):=by
       obtain⟨y0,y1,y2,y3⟩:=HX.o;subst y0 y1 y2 y3;exact HO.aY (r:=⟨d.E,d.g⟩) au.o ae f
      have aq:MT (Below (M (H W0)) W0 w5):=ar.trans ⟨f.os,f.tape,f.output,f.size,fun y hy=>f.block y (by simp;omega) fun e=>by have:=(HO.own.lt y e.symm).1;omega⟩;go_roundw
      case rel=>exact⟨q+1,_,_,by omega,by go_num,Z,by rw[HN.o];exact aw,aq⟩
      case measure=>simp[intOf];omega
    ·have aK:q=n:=by omega
     go_wp2;go_ret;refine⟨_,vs,Z,?_,NE ab.o (xF _) HB.o⟩;rw[ay.o,<- aK];refine⟨?_,A.len,A.K⟩;have W:=A.own;refine⟨W.1,?_⟩
     rcases W.2 with h0|⟨g',aD,al,e,bm,r⟩
     ·exact Or.inl h0
     ·exact Or.inr ⟨g',aD,al,e,by omega,r⟩
def Pm{c:Nat}(h:w.heap[g]?=N (G (PB es).toArray 180 (0,0)))(a:B<=g)(b:n=z es)(d:z es<100000):w.ownsRow B 180 10 (MU g n n) n (PB es):=by
 subst b;refine⟨by rw[nW],Or.inr ⟨g,z es,_,Z,a,h,xF _,by unfold maxLen;omega,by simp[nW],by simp only[List.toList_toArray];exact List.take_of_length_le (by rw[nW];exact xF _)⟩⟩
def KM{c:Array Oper}{rest:List Oper}{b:Oper}{a:Act}{R:Exit->Act->World->Prop}(x y:Operand)(d:b.guard=U)(f:b.op=.store 180 x y)(g o:Nat)(e:Ev)(j:a.eval x=.pointer (N ⟨g,o,U⟩))(k:a.eval y=.agg (aG e))(i:w.there g o 10)(h:wpList prog c R rest (a.put b.dst undef) (w.setCells g o (aG e).toList)):wpList prog c R (b::rest) a w :=
 wpList_store_mid d _ x y f g o (aG e) j k i (by kernel_rfl) (by simp[aG,x7]) h
def vK:Nat->List Ev
 |0=>[Ev.zero,Ev.zero,Ev.zero]
 |1=>[PU 0,Ev.zero,Ev.zero]
 |2=>[PU 0,PU 1,Ev.zero]
 |_=>[PU 0,PU 1,PU 2]
def wD{o:Nat}{cs:Array Value}{e:TypeId}(a:w.heap[g]?=N (G cs e (0,0)))(c:o+n<=cs.size):w.there g o n:=by
 intro j b;simp[World.cell?,World.frozen?,a];omega
def Pn(w:World):
  Calls prog 135 #[] w fun e w'=>∃g,e=.returned (MU g 3 3)/\w'.ownsRow (M (H w)) 180 10 (MU g 3 3) 3 (PB QF)/\Below (M (H w)) w w':=by
 obtain⟨y,t,p,l,q⟩:=info_parts Tryz.infoEvM;have x:∀w,(Instr.makeSlice 78 (C O 3) (C O 3)).run prog w=.ok (MU (M (H w)) 3 3) (w.alloc (G (PB [Ev.zero,Ev.zero,Ev.zero]).toArray 180)):=fun w=>by
  have h:=run_makeSlice (P:=prog) w 78 180 y (.agg (aG Ev.zero)) underlying78 t p O O 3 3 (by omega) (Int.le_refl _) (by rw[l];decide) (by rw[q];decide) (by omega);rw[l]at h;have e:madeCells (Value.agg (aG Ev.zero)).cells (Int.toNat 3*10)=(PB [Ev.zero,Ev.zero,Ev.zero]).toArray:=by kernel_rfl
  rw[e]at h;exact h
 have s:MT (∀W:World,(W.alloc (G (PB [Ev.zero,Ev.zero,Ev.zero]).toArray 180)).heap[M (H W)]?=N (G (PB [Ev.zero,Ev.zero,Ev.zero]).toArray 180 (0,0))):=fun W=>heap_alloc_new W _
 go_enter func135,ntmps135;go_wp2;go_loopw[6] (fun j wr=>∃(k:Nat),k<=3/\j=C O k/\MT (wr.heap[M (H w)]?=N (G (PB (vK k)).toArray 180 (0,0)))/\MT (Below (M (H w)) w wr)) fun j _=>3-(intOf j).toNat
 case atStart=>exact⟨0,by omega,Z,s.o w,(xW _ _).alloc (xF _) _⟩
 case round =>
  obtain⟨k,A,rfl,d,HB⟩:=hrel;have m:k=0\/k=1\/k=2\/k=3:=by omega
  rcases m with rfl|rfl|rfl|rfl
  ·have f:MT (wr.there (M (H w)) 0 10):=wD d.o (by simp[nW,vK]);have b:=MS (wP (M (H w)) 180 (0,0) (aG (PU 0)).toList (PB (vK 0)) 0 wr d.o);have a:MT (Below (M (H w)) w (wr.setCells (M (H w)) 0 (aG (PU 0)).toList)):=Below.setCells (xF _) _ _ _ HB.o;go_wp2_with(first|(refine KM (.tmp 13) (.tmp 12) Z Z (M (H w)) 0 (PU 0) Z Z f.o ?_;generalize i:wr.setCells (M (H w)) 0 (aG (PU 0)).toList=r at*));go_roundw
   case rel=>exact⟨1,by omega,by go_num,b,a⟩
   case measure=>simp[intOf]
  ·have f:MT (wr.there (M (H w)) 10 10):=wD d.o (by simp[nW,vK]);have b:=MS (wP (M (H w)) 180 (0,0) (aG (PU 1)).toList (PB (vK 1)) 10 wr d.o);have a:MT (Below (M (H w)) w (wr.setCells (M (H w)) 10 (aG (PU 1)).toList)):=Below.setCells (xF _) _ _ _ HB.o;go_wp2_with(first|(refine KM (.tmp 13) (.tmp 12) Z Z (M (H w)) 10 (PU 1) Z Z f.o ?_;generalize i:wr.setCells (M (H w)) 10 (aG (PU 1)).toList=r at*));go_roundw
   case rel=>exact⟨2,by omega,by go_num,b,a⟩
   case measure=>simp[intOf]
  ·have f:MT (wr.there (M (H w)) 20 10):=wD d.o (by simp[nW,vK]);have b:=MS (wP (M (H w)) 180 (0,0) (aG (PU 2)).toList (PB (vK 2)) 20 wr d.o);have a:MT (Below (M (H w)) w (wr.setCells (M (H w)) 20 (aG (PU 2)).toList)):=Below.setCells (xF _) _ _ _ HB.o;go_wp2_with(first|(refine KM (.tmp 13) (.tmp 12) Z Z (M (H w)) 20 (PU 2) Z Z f.o ?_;generalize i:wr.setCells (M (H w)) 20 (aG (PU 2)).toList=r at*));go_roundw
   case rel=>exact⟨3,by omega,by go_num,b,a⟩
   case measure=>simp[intOf]
  ·go_wp2;go_ret;exact⟨M (H w),Z,Pm (es:=QF) (c:=0) d.o (xF _) Z (by decide),HB.o⟩
