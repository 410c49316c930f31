import Derived.Test.YtehclbpoabdpoaaGreatDoorO33
set_option linter.all false
set_option maxHeartbeats 0
namespace Go.Proofs.YtehclbpoabdpoaaGreatDoor
open Go Go.RowKit Go.Proofs.Tryz P Q
open scoped Classical
set_option maxRecDepth 1000000
variable {N b cap cn gn gw i j l:Nat}{t u0:Value}{W1 w w3:World}{rs:List (List Int)}{vs:List Value}
open List renaming length->z
open _root_.Array renaming size->M
open Go.World renaming heap->L
open Option renaming none->Y,some->O
open Go.Value renaming slice->C,int->G
open Go.Obj renaming cells->I
open Go.IntKind renaming i64->E
open Bool renaming false->U
open Go.RowKit.Below renaming heap_alloc->xF,heap_setCell->x1
open List renaming replicate->xR,getElem?_eq_getElem->x4,getElem?_take->xd
open Go.World renaming cell?->xW,frozen?->x3,frozen?_of_block->x6,ownsRow_nil->x7,cell?_of_block->x9,news_of_block->xb
open Go.Value renaming ownBlock->x2,slice->x8,oneCell'->xc
open Nat renaming lt_of_lt_of_le->x5,zero_le->xa
structure M1(w wr:World)(gw:Nat)(vs:List Value)(i:Nat)(xi:Option Addr)(ci:Nat):Prop where
 gb:∃t,wr.heap[gw]?=O (I #[t,C xi i ci,C Y 0 0] 26 (0,0))
 own:wr.ownsRow (M (L w)) 37 1 (C xi i ci) i (vs.take i)
 done:∀j,j<i->∃k l,vs[j]?=O (MU k l l)/\l<1000/\NM wr k (xR l (-1-(j:Int)))
 rest:∀k,k<M (L w)->k≠gw->(∀j u,j<i->vs[j]?=O u->u.ownBlock≠O k)->wr.heap[k]?=w.heap[k]?
 size:M (L w)<=M (L wr)
 os:wr.os=w.os
 tape:wr.tape=w.tape
 output:wr.output=w.output
structure M0(w:World)(gw:Nat)(rs:List (List Int))(vs:List Value):Prop where
 gb:∃t,w.heap[gw]?=O (I #[t,C Y 0 0,C Y 0 0] 26 (0,0))
 row:∀i (h:i<z rs),∃k,vs[i]?=O (MU k rs[i].length rs[i].length)/\NM w k rs[i]
 len:z vs=z rs
 nd:vs.Pairwise fun a b=>a.ownBlock≠b.ownBlock
 few:z rs<100000000
 small:∀r∈rs,z r<1000
section
variable {w wr wy w3:World}{gw:Nat}{rs:List (List Int)}{vs:List Value}{i:Nat}{xi:Option Addr}{ci:Nat}
def M0.lt(h:M0 w gw rs vs):gw<M (L w):=by
 obtain⟨t,h⟩:=h.gb;exact(Array.getElem?_eq_some_iff.1 h).1
def M0.ne(h:M0 w gw rs vs){k:Nat}(f:vs[j]?=O (MU k l l)):k<M (L w)/\k≠gw:=by
 have d:j<z rs:=by rw[<- h.len];exact(List.getElem?_eq_some_iff.1 f).1
 obtain⟨m,c,a⟩:=h.row j d;rw[f]at c;simp only[Option.some.injEq,Value.slice.injEq,Addr.mk.injEq]at c;obtain⟨⟨rfl,_⟩,_⟩:=c;refine⟨a.lt,fun e=>?_⟩;obtain⟨t,g⟩:=h.gb;unfold NM at a;rw[e,g]at a;simp at a
def M0.dis(h:M0 w gw rs vs){d:Nat}{u e:Value}(k:vs[j]?=O u)(a:vs[d]?=O e)(c:j<d):u.ownBlock≠e.ownBlock:=by
 obtain⟨f,rfl⟩:=List.getElem?_eq_some_iff.1 k;obtain⟨g,rfl⟩:=List.getElem?_eq_some_iff.1 a;exact List.pairwise_iff_getElem.1 h.nd j d f g c
def M1.start(h:M0 w gw rs vs):M1 w w gw vs 0 Y 0 :=
 ⟨h.gb,by rw[List.take_zero];exact x7 _ _ _ _,fun j a=>by omega,fun _ _ _ _=>Z,Nat.le_refl _,Z,Z,Z⟩
def M1.mW(h:M1 w wr gw vs i xi ci)(k:Nat)(a:k<M (L w)):O k≠(x8 xi i ci).ownBlock:=fun e=>by
 have:=(h.own.lt k e.symm).1;omega
def M1.next(H:M0 w gw rs vs)(h:M1 w wr gw vs i xi ci){c:Nat}(f:vs[i]?=O (MU c l l))(S:l<1000)(g:wr.grownBy wy (O c))(J:NM wy c (xR l (-1-(i:Int))))(d:w3.ownsRow (M (L w)) 37 1 (MU gn (i+1) cn) (i+1) (vs.take i++[MU c l l]))(a:(wy.alloc (I #[u0] 37)).grownBy w3 (x8 xi i ci).ownBlock):
  M1 w (w3.setCell ⟨gw,1,Y⟩ (MU gn (i+1) cn)) gw vs (i+1) (O ⟨gn,0,Y⟩) cn:=by
 have s:=H.lt;obtain⟨r,m⟩:=H.ne f;have F:M (L w)<=gn:=(d.lt gn Z).1;have W:=h.size;have X:=g.size;have V:=a.size;simp at V;have keep:∀k,k<M (L w)->k≠c->k≠gw->(w3.setCell ⟨gw,1,Y⟩ (MU gn (i+1) cn)).heap[k]?=wr.heap[k]?:=fun k n o p=>by
  rw[x1 _ _ _ _ p,a.block k (by simp;omega) (h.mW k n),xF _ _ _ (by omega),g.block k (by omega) (by simpa using o)]
 refine⟨?_,?_,fun j K=>?_,fun k n o p=>?_,?_,?_,?_,?_⟩
 ·obtain⟨t,B⟩:=h.gb;have D:w3.heap[gw]?=O (I #[t,C xi i ci,C Y 0 0] 26 (0,0)):=by
   rw[a.block gw (by simp;omega) (h.mW gw s),xF _ _ _ (by omega),g.block gw (by omega) (by simp;exact fun e=>m e.symm),B]
  exact⟨t,bX D 1 _⟩
 ·have e1:vs.take (i+1)=vs.take i++[MU c l l]:=by rw[List.take_add_one,f];rfl
  rw[e1];exact bE d fun k e=>x1 _ _ _ _ (by simp[x2]at e;simp;omega)
 ·by_cases hji:j=i
  ·subst hji;refine⟨c,l,f,S,J.aC ?_⟩;rw[x1 _ _ _ _ m,a.block c (by simp;omega) (h.mW c r),xF _ _ _ (by omega)]
  ·obtain⟨k,T,q,v,x⟩:=h.done j (by omega);obtain⟨y,A⟩:=H.ne q;refine⟨k,T,q,v,x.aC (keep k y (fun e=>H.dis q f (by omega) (by rw[e];rfl)) A)⟩
 ·rw[keep k n (fun e=>p i _ (by omega) f (by rw[e];rfl)) o];exact h.rest k n o fun j u K f=>p j u (by omega) f
 ·simp;omega
 ·exact(a.os.trans g.os).trans h.os
 ·exact(a.tape.trans g.tape).trans h.tape
 ·exact(a.output.trans g.output).trans h.output
end
def Rg(k:Nat)(m:Int)(r:List Int)(a:k<z r):(xR k m++r.drop k).set k m=xR (k+1) m++r.drop (k+1):=by
 have e:k-(xR k m).length=0:=by simp
 rw[List.set_append_right _ _ (by simp),e,List.drop_eq_getElem_cons a,List.set_cons_zero,List.replicate_succ',List.append_assoc];rfl
structure M3(W1 wr:World)(b cap i:Nat):Prop where
 grow:W1.grownBy wr (O b)
 ob:∃cur:Array Value,wr.heap[b]?=O (I cur 37 (0,0))/\cur.size=cap/\∀j,j<i->∃f,cur[j]?=O (MU f 2 2)/\M (L W1)<=f/\NM wr f [0,(j:Int)]
def M3.next{wr:World}(h:M3 W1 wr b cap i)(q:i<cap)(r:b<M (L W1)):M3 W1 ((wr.setCell ⟨b,i,Y⟩ (MU (M (L wr)) 2 2)).alloc (I #[G E 0,G E (i:Int)] 3)) b cap (i+1):=by
 obtain⟨d,o,m,p⟩:=h.ob;have hs:=h.grow.size;have keep:∀k,k<M (L wr)->k≠b->((wr.setCell ⟨b,i,Y⟩ (MU (M (L wr)) 2 2)).alloc (I #[G E 0,G E (i:Int)] 3)).heap[k]?=wr.heap[k]?:=fun k c a=>by
  rw[xF _ _ _ (by simpa using c),x1 _ _ _ _ a]
 refine⟨⟨h.grow.os,h.grow.tape,h.grow.output,by simp;omega,fun k c a=>?_⟩,d.setIfInBounds i (MU (M (L wr)) 2 2),?_,by simp[m],fun j s=>?_⟩
 ·rw[keep k (by omega) (by simpa using a)];exact h.grow.block k c a
 ·rw[xF _ _ _ (by simp;omega)];exact bX o i _
 ·by_cases hji:j=i
  ·subst hji;refine⟨M (L wr),by simp[m,q],hs,?_⟩;have n:=heap_alloc_new (wr.setCell ⟨b,j,Y⟩ (MU (M (L wr)) 2 2)) (I #[G E 0,G E (j:Int)] 3);rw[show(wr.setCell ⟨b,j,Y⟩ (MU (M (L wr)) 2 2)).heap.size=M (L wr)by simp]at n;exact n
  ·obtain⟨f,c,a,g⟩:=p j (by omega);refine⟨f,?_,a,g.aC (keep f g.lt (by omega))⟩;rw[Array.getElem?_setIfInBounds_ne fun e=>hji e.symm];exact c
def M3.cell{wr:World}(h:M3 W1 wr b cap i)(j:Nat)(e:j<cap):∃u,wr.cell? ⟨b,j,Y⟩=O u:=by
 obtain⟨a,c,d,f⟩:=h.ob;exact⟨a[j]'(by omega),by simp[xW,c,d,e]⟩
def M3.free{wr:World}(h:M3 W1 wr b cap i)(j:Nat):wr.frozen? ⟨b,j,Y⟩=U:=by
 obtain⟨a,c,d,e⟩:=h.ob;simp[x3,c]
def RJ(N:Nat)(w w':World)(gw:Nat):Prop:=∃o1 n1 c1 o2 n2 c2,w'.cell? ⟨gw,1,Y⟩=O (C o1 n1 c1)/\w'.cell? ⟨gw,2,Y⟩=O (C o2 n2 c2)/\InP w' o1 n1/\ZD w' o2 n2/\n1<100000000/\n2<100000000/\gw<M (L w')/\Below N w w'
def Rh{n:Nat}{wr:World}{S:Option Addr}{A:Nat}(H:M0 w gw rs vs)(g:M1 w W1 gw vs n S A)(hn:n=z rs)(o:M3 W1 wr b cap cap)(q:cap<=maxLen)(hb:b<M (L w))(p:b≠gw)(K:∀(j:Nat) (u:Value),vs[j]?=O u->u.ownBlock≠O b)(ac:N<=gw)(ab:N<=b)(D:∀u∈vs,∀k,u.ownBlock=O k->N<=k)(m:w3.ownsRow (M (L wr)) 23 1 (MU gn 1 cn) 1 [MU b cap cap])(d:(wr.alloc (I #[u0] 23)).grownBy w3 Y):
  RJ N w (w3.setCell ⟨gw,2,Y⟩ (MU gn 1 cn)) gw:=by
 have ae:=H.lt;have s1:=g.size;have s2:=o.grow.size;have s3:=d.size;simp at s3;have ad:=m.lt gn Z;have keep:∀k,k<M (L wr)->k≠gw->(w3.setCell ⟨gw,2,Y⟩ (MU gn 1 cn)).heap[k]?=wr.heap[k]?:=fun k s v=>by
  rw[x1 _ _ _ _ v,d.block k (by simp;omega) (by simp),xF _ _ _ s]
 have lQ:∀k,k<M (L W1)->k≠gw->k≠b->(w3.setCell ⟨gw,2,Y⟩ (MU gn 1 cn)).heap[k]?=W1.heap[k]?:=fun k s v X=>by
  rw[keep k (by omega) v,o.grow.block k s (by simpa using X)]
 obtain⟨t,hg⟩:=g.gb;have F:w3.heap[gw]?=O (I #[t,C S n A,C Y 0 0] 26 (0,0)):=by
  rw[d.block gw (by simp;omega) (by simp),xF _ _ _ (by omega),o.grow.block gw (by omega) (by simp;exact fun e=>p e.symm),hg]
 have r:=bX F 2 (MU gn 1 cn);refine⟨S,n,A,O ⟨gn,0,Y⟩,1,cn,by simp[xW,r],by simp[xW,r],fun h0=>?_,fun _=>?_,by rw[hn];exact H.few,by omega,by simp;omega,?_⟩
 ·rcases g.own.2 with⟨_,e⟩|⟨x,c,cu,e,q1,q2,q3,q4,q5,q6⟩
  ·omega
  ·simp only[Value.slice.injEq]at e;obtain⟨rfl,_,rfl⟩:=e;have q7:=(Array.getElem?_eq_some_iff.1 q2).1;refine⟨x,Z,by simp;omega,fun i J=>?_⟩;obtain⟨k,l,B,d2,d3⟩:=g.done i J;obtain⟨e1,e2⟩:=H.ne B;have V:=d3.aC (lQ k (by omega) e2 fun e=>K i _ B (by rw[e];rfl));refine⟨k,l,l,?_,d2,V.lt,fun j hj=>by rw[V.cell j (by simpa using hj)];simp⟩;rw[x9 (w:=W1) (a:=⟨x,i,Y⟩) (lQ x q7 (by omega) (by omega)),g.own.cellAt i (by simpa using J)];rw[xd,if_pos (by omega)];exact B
 ·refine⟨gn,Z,by simp;omega,fun i J=>?_⟩;obtain rfl:i=0:=by omega
  refine⟨O ⟨b,0,Y⟩,cap,cap,?_,by unfold maxLen at q;omega,fun hc=>⟨b,Z,by simp;omega,fun k W=>?_⟩⟩
  ·rw[cY (by omega),m.cellAt 0 (by omega)];rfl
  ·obtain⟨aa,b1,b2,b3⟩:=o.ob;obtain⟨f,c1,c2,T⟩:=b3 k W;have y:=T.aC (keep f T.lt (by omega));refine⟨f,?_,y.lt,y.cell 0 (by simp),y.cell 1 (by simp)⟩;rw[x9 (w:=wr) (a:=⟨b,k,Y⟩) (keep b (by omega) p)];simp[xW,b1,c1]
 ·refine⟨(d.os.trans o.grow.os).trans g.os,(d.tape.trans o.grow.tape).trans g.tape,(d.output.trans o.grow.output).trans g.output,by simp;omega,fun k W=>?_⟩;rw[lQ k (by omega) (by omega) (by omega)];exact g.rest k (by omega) (by omega) fun j u _ hu e=>by have:=D u (List.mem_of_getElem? hu) k e;omega
def Tryz.infoRows:(prog.info? 23).map (fun i=>(i.zero,i.size,i.bytes))=O (O (C Y 0 0),1,24):=by kernel_rfl
def Ri(w:World)(r:Option Nat)(n:Nat):w.grownBy (w.drewN n) r :=
 have h:=QA (M (L w)) w n
 ⟨h.os,h.tape,h.output,h.size,fun k a _=>h.block k a⟩
def Rj(N gw b cap:Nat)(rs:List (List Int))(vs:List Value)(g:Array Value)(w:World)(h:M0 w gw rs vs)(hb:w.heap[b]?=O (I g 37 (0,0)))(aD:g.size=cap)(ai:z rs<=cap)(ac:cap<=maxLen)(aQ:g.toList.take (z rs)=vs)(aA:N<=gw)(az:N<=b)(aB:∀u∈vs,∀k,u.ownBlock=O k->N<=k):
  Calls prog 24 #[.pointer (O ⟨gw,0,Y⟩),MU b (z rs) cap] w fun e w'=>e=.returned (.tuple #[])/\RJ N w w' gw:=by
 obtain⟨i0,aE,aU,aV,aW⟩:=info_parts Tryz.infoRow;obtain⟨j0,aI,aR,aS,aT⟩:=info_parts Tryz.infoRows;have aw:=MS aB;have H:=MS h;have aM:=h.lt;have S:b<M (L w):=(Array.getElem?_eq_some_iff.1 hb).1;have v:b≠gw:=fun e=>by
  obtain⟨t,m⟩:=h.gb;rw[e,m]at hb;simp at hb
 have aN:∀(j:Nat) (u:Value),vs[j]?=O u->u.ownBlock≠O b:=fun j u n e=>by
  have aJ:j<z rs:=by rw[<- h.len];exact(List.getElem?_eq_some_iff.1 n).1
  obtain⟨k,m,h2⟩:=h.row j aJ;rw[n]at m;simp only[Option.some.injEq]at m;rw[m]at e;simp only[x2,Option.some.injEq]at e;unfold NM at h2;rw[e,hb]at h2;simp at h2
 have K:=MS aN;have V:∀i (hi:i<z vs),w.cell? ⟨b,i,Y⟩=O vs[i]:=fun i hi=>by
  have m:g.toList[i]?=vs[i]?:=by
   rw[<- aQ,xd,if_pos (by have:=h.len;omega)]
  simp only[xW,hb];rw[x4 hi]at m;simpa using m
 have A:=MS V;have aY:=h.few;have HB:=MS hb;have an:=MS aD;have af:=MS ac;have aX:=MS ai;go_enter func24,ntmps24;go_wp2;go_loopw[4] (fun j wr=>∃(i:Nat) (xi:Option Addr) (ci:Nat),i<=z rs/\j=G E i/\MT (M1 w wr gw vs i xi ci)) fun j _=>z rs-(intOf j).toNat
 case atStart=>exact⟨0,_,_,xa _,Z,M1.start H.o⟩
 case round =>
  obtain⟨i,xi,ci,hi,rfl,p⟩:=hrel;by_cases hlt:i<z rs
  ·have aG:(i:Int)<(z rs:Int):=by omega
   obtain⟨f,n,aH⟩:=H.row i hlt;obtain⟨aK,ak⟩:=H.ne n;have aO:=H.small rs[i] (List.getElem_mem hlt);have T:wr.heap[b]?=w.heap[b]?:=p.rest b S v fun j u _ n=>K.o j u n;have aL:wr.heap[f]?=w.heap[f]?:=p.rest f aK ak fun j u hj hv e=>H.dis hv n hj (by rw[e];rfl);have aq:=MS (aH.aC aL);have HU:=MS n;have d0:wr.cell? ⟨b,i,Y⟩=O (MU f rs[i].length rs[i].length):=by
    have aj:i<z vs:=by rw[H.len];exact hlt
    rw[x9 (w:=w) (a:=⟨b,i,Y⟩) T,A.o i aj];rw[x4 aj]at n;exact n
   have aP:=p.size;generalize rs[i]=r at*;have aZ:(0:Int)<=(z r:Int):=by omega
   go_wp2;go_quiet (fail)
   all_goals
    go_wp2;have ao:=MS (Ri wr (O f));obtain⟨tx,W⟩:=p.gb;have D:=MS W;have ag:=MS p.own;have q:gw<M (L wr):=by omega
    have aa:O gw≠O f:=by simpa using fun e=>ak e.symm
    have au:=MS fun k hk=>p.mW k hk;have ax:=MS fun wy w3 hg hi u0 gn cn m h2=>M1.next (wy:=wy) (w3:=w3) H.o p.o HU.o aO hg hi (u0:=u0) (gn:=gn) (cn:=cn) m h2;go_loopw[6] (fun j wy=>∃k:Nat,k<=z r/\j=G E k/\MT (wr.grownBy wy (O f))/\MT (NM wy f (xR k (-1-(i:Int))++r.drop k))) fun j _=>z r-(intOf j).toNat
    case atStart=>exact⟨0,xa _,Z,ao.o _,aq.X (QA _ _ _)⟩
    case round =>
     obtain⟨k,hk,rfl,B,HI⟩:=hrel;have s:wr.heap[gw]?=O (I #[tx,C xi i ci,C Y 0 0] 26 (0,0)):=(B.block gw q aa).trans D.o;have c1:=jP s 1 _ Z;have f1:wr.frozen? ⟨gw,1,Y⟩=U:=by simp[x3,s]
     have lg:=x5 q B.size;by_cases hkk:k<z r
     ·have ab:(k:Int)<(z r:Int):=by omega
      have hw:IntKind.i64.wrap (-1-(i:Int))=-1-(i:Int):=IntWalk.i64_in _ ⟨by omega,by omega⟩;have c2:=HI.cell k (by simp;omega);have f2:=HI.free k;have ae:=MS (HI.set k (-1-(i:Int)));rw[Rg k _ r hkk]at ae;have ap:=MS (dG B.o k (G E (-1-(i:Int))));generalize(xR k (-1-(i:Int))++r.drop k)[k]'_=y at*;go_wp2;go_roundw
      case rel=>exact⟨k+1,by omega,by go_num,ap,ae⟩
      case measure=>simp[intOf];omega
     ·have ab:decide ((k:Int)<(z r:Int))=U:=decide_eq_false (by omega);obtain rfl:k=z r:=by omega
      rw[List.drop_eq_nil_of_le (Nat.le_refl _),List.append_nil]at HI;have ay:MT ((wr.alloc (I #[MU f (z r) (z r)] 37)).ownsRow (M (L w)) 37 1 (C xi i ci) i (vs.take i)):=bE ag.o fun k e=>by
       have m:=ag.lt k e;have h2:=B.size;rw[xF _ _ _ (by omega)];exact B.block k m.2 (by simp;omega)
      have J:MT (∀j u,[MU f (z r) (z r)][j]?=O u->(wr.alloc (I #[MU f (z r) (z r)] 37)).cell? ((⟨M (L wr),0,Y⟩:Addr).add j)=O u):=xb (cs:=#[MU f (z r) (z r)]) (t:=37) (fr:=(0,0)) (heap_alloc_new wr _);have am:=au.o gw aM;have e1:(wr.alloc (I #[MU f (z r) (z r)] 37)).cell? ⟨gw,1,Y⟩=O (C xi i ci):=(mP lg).trans c1;have g1:(wr.alloc (I #[MU f (z r) (z r)] 37)).frozen? ⟨gw,1,Y⟩=U:=by rw[x6 (w:=wr) (a:=⟨gw,1,Y⟩) (xF _ _ _ lg)];exact f1
      have bb:M (L w)<=M (L wr):=by have:=B.size;omega
      go_wp2_with(first|(at_builtin;refine wpList_append_lies _ Z (.tmp 45) (.tmp 47) 23 Z (M (L w)) 37 i0 (C Y 0 0) 1 24 underlying23 aE aU aV aW Z (by decide) _ i (vs.take i) Z (by exact ay.o) ⟨M (L wr),0,Y⟩ 1 1 [MU f (z r) (z r)] Z Z (by exact J.o) (by simp[xc]) (by decide) (by unfold maxLen;omega) (by omega) (by simp;omega) _ Z ?_;intro gn cn w3 d c ah al;have d3:=(c.cell_far ⟨gw,1,Y⟩ (by simp;omega) am).trans e1;have f3:=(c.frozen_far ⟨gw,1,Y⟩ (by simp;omega) am).trans g1));go_roundw
      case rel=>exact⟨i+1,_,_,by omega,by go_num,ax.o _ _ B.o HI.o _ _ _ d c⟩
      case measure=>simp[intOf];omega
  ·have aG:decide ((i:Int)<(z rs:Int))=U:=decide_eq_false (by omega);have aP:=p.size;have T:wr.heap[b]?=O (I g 37 (0,0)):=(p.rest b S v fun j u _ n=>K.o j u n).trans HB.o;have ac:=af.o;have av:MT (M3 wr wr b cap 0):=⟨fH _ _,g,T,an.o,fun j hj=>by omega⟩;obtain⟨tx,W⟩:=p.gb;have D:=MS W;have q:gw<M (L wr):=by omega
   have x:b<M (L wr):=by omega
   have aa:O gw≠O b:=by simpa using fun e=>v e.symm
   have aF:i=z rs:=by omega
   have ad:=MS fun wx w3 gn cn u0 h3 h4 h5=>Rh (N:=N) (b:=b) (cap:=cap) (wr:=wx) (w3:=w3) (gn:=gn) (cn:=cn) (u0:=u0) H.o p.o aF h3 af.o S v K.o aA az aw.o h4 h5;have ba:cap<=9223372036854775807:=by unfold maxLen at ac;omega
   go_wp2;go_loopw[9] (fun j wy=>∃k:Nat,k<=cap/\j=G E k/\MT (M3 wr wy b cap k)) fun j _=>cap-(intOf j).toNat
   case atStart=>exact⟨0,xa _,Z,av⟩
   case round =>
    obtain⟨k,hk,rfl,F⟩:=hrel;have s:wr.heap[gw]?=O (I #[tx,C xi i ci,C Y 0 0] 26 (0,0)):=(F.grow.block gw q aa).trans D.o;have c1:=jP s 2 _ Z;have f1:wr.frozen? ⟨gw,2,Y⟩=U:=by simp[x3,s]
    have lg:=x5 q F.grow.size;have lb:=x5 x F.grow.size;by_cases hkk:k<cap
    ·have ab:(k:Int)<(cap:Int):=by omega
     have ar:=MS (F.next hkk x);obtain⟨y,c2⟩:=F.cell k hkk;have f2:=F.free k;have e2:(wr.alloc (I #[G E 0,G E (k:Int)] 3)).cell? ⟨b,k,Y⟩=O y:=(mP lb).trans c2;have g2:(wr.alloc (I #[G E 0,G E (k:Int)] 3)).frozen? ⟨b,k,Y⟩=U:=by rw[x6 (w:=wr) (a:=⟨b,k,Y⟩) (xF _ _ _ lb)];exact f2
     go_wp2;go_roundw
     case rel=>exact⟨k+1,by omega,by go_num,ar⟩
     case measure=>simp[intOf];omega
    ·have ab:decide ((k:Int)<(cap:Int))=U:=decide_eq_false (by omega);have J:MT (∀j u,[MU b cap cap][j]?=O u->(wr.alloc (I #[MU b cap cap] 23)).cell? ((⟨M (L wr),0,Y⟩:Addr).add j)=O u):=xb (cs:=#[MU b cap cap]) (t:=23) (fr:=(0,0)) (heap_alloc_new wr _);have e1:(wr.alloc (I #[MU b cap cap] 23)).cell? ⟨gw,2,Y⟩=O (C Y 0 0):=(mP lg).trans c1;have g1:(wr.alloc (I #[MU b cap cap] 23)).frozen? ⟨gw,2,Y⟩=U:=by rw[x6 (w:=wr) (a:=⟨gw,2,Y⟩) (xF _ _ _ lg)];exact f1
     obtain rfl:k=cap:=by omega
     go_wp2_with(first|(at_builtin;refine wpList_append_lies _ Z (.tmp 76) (.tmp 78) 24 Z (M (L wr)) 23 j0 (C Y 0 0) 1 24 underlying24 aI aR aS aT Z (by decide) (C Y 0 0) 0 [] Z (x7 _ _ _ _) ⟨M (L wr),0,Y⟩ 1 1 [MU b k k] Z Z (by exact J.o) (by simp[xc]) (by decide) (by unfold maxLen;omega) (by omega) (by simp) _ Z ?_;intro gn cn w3 d c ah al;have d3:=(c.cell_far ⟨gw,2,Y⟩ (by simp;omega) (by simp[x2])).trans e1;have f3:=(c.frozen_far ⟨gw,2,Y⟩ (by simp;omega) (by simp[x2])).trans g1));go_end0;exact⟨Z,ad.o _ _ _ _ _ F.o d c⟩
def Rk(g:w.heap[gw]?=O (I #[t,C Y 0 0,C Y 0 0] 26 (0,0)))(o:N<=gw)(d:Below (M (L w)) w W1)(c:w3.ownsRow (M (L W1)) 23 1 (MU gn 1 cn) 1 [C Y 0 0])(a:(W1.alloc (I #[u0] 23)).grownBy w3 Y):
  RJ N w (w3.setCell ⟨gw,2,Y⟩ (MU gn 1 cn)) gw:=by
 have f:=(Array.getElem?_eq_some_iff.1 g).1;have u:=d.size;have q:=a.size;simp at q;have p:=c.lt gn Z;have keep:∀k,k<M (L w)->w3.heap[k]?=w.heap[k]?:=fun k m=>by
  rw[a.block k (by simp;omega) (by simp),xF _ _ _ (by omega),d.block k m]
 have e:=bX ((keep gw f).trans g) 2 (MU gn 1 cn);refine⟨Y,0,0,O ⟨gn,0,Y⟩,1,cn,by simp[xW,e],by simp[xW,e],fun n=>absurd n (by omega),fun _=>⟨gn,Z,by simp;omega,fun i r=>?_⟩,by omega,by omega,by simp;omega,⟨a.os.trans d.os,a.tape.trans d.tape,a.output.trans d.output,by simp;omega,fun k s=>?_⟩⟩
 ·obtain rfl:i=0:=by omega
  refine⟨Y,0,0,?_,by omega,fun h=>absurd h (by omega)⟩;rw[cY (by omega),c.cellAt 0 (by omega)];rfl
 ·rw[x1 _ _ _ _ (by simp;omega)];exact keep k (by omega)
def Rl(N gw:Nat)(t:Value)(w:World)(x:w.heap[gw]?=O (I #[t,C Y 0 0,C Y 0 0] 26 (0,0)))(n:N<=gw):
  Calls prog 24 #[.pointer (O ⟨gw,0,Y⟩),C Y 0 0] w fun e J=>e=.returned (.tuple #[])/\RJ N w J gw:=by
 obtain⟨H,p,q,r,s⟩:=info_parts Tryz.infoRows;have k:gw<M (L w):=(Array.getElem?_eq_some_iff.1 x).1;have f:=MS x;go_enter func24,ntmps24;go_wp2;go_loopw[4] (fun j wr=>j=G E 0/\MT (Below (M (L w)) w wr)) fun _ _=>0
 case atStart=>exact⟨Z,Below.refl _ _⟩
 case round =>
  obtain⟨rfl,HB⟩:=hrel;go_wp2;go_loopw[9] (fun j wr=>j=G E 0/\MT (Below (M (L w)) w wr)) fun _ _=>0
  case atStart=>exact⟨Z,HB⟩
  case round =>
   obtain⟨rfl,HB⟩:=hrel;have g:=(HB.block gw k).trans f.o;have B:=jP g 2 _ Z;have D:wr.frozen? ⟨gw,2,Y⟩=U:=by simp[x3,g]
   have A:=x5 k HB.size;have m:MT (∀j u,[x8 Y 0 0][j]?=O u->(wr.alloc (I #[C Y 0 0] 23)).cell? ((⟨M (L wr),0,Y⟩:Addr).add j)=O u):=xb (cs:=#[C Y 0 0]) (t:=23) (fr:=(0,0)) (heap_alloc_new wr _);have F:(wr.alloc (I #[C Y 0 0] 23)).frozen? ⟨gw,2,Y⟩=U:=by rw[x6 (w:=wr) (a:=⟨gw,2,Y⟩) (xF _ _ _ A)];exact D
   go_wp2_with(first|(at_builtin;refine wpList_append_lies _ Z (.tmp 76) (.tmp 78) 24 Z (M (L wr)) 23 H (C Y 0 0) 1 24 underlying24 p q r s Z (by decide) (C Y 0 0) 0 [] Z (x7 _ _ _ _) ⟨M (L wr),0,Y⟩ 1 1 [C Y 0 0] Z Z (by exact m.o) (by simp[xc]) (by decide) (by unfold maxLen;omega) (by omega) (by simp) _ Z ?_;intro gn cn w3 d c v y;have K:=(c.cell_far ⟨gw,2,Y⟩ (by simp;omega) (by simp[x2])).trans ((mP A).trans B);have f3:=(c.frozen_far ⟨gw,2,Y⟩ (by simp;omega) (by simp[x2])).trans F));go_end0;exact⟨Z,Rk f.o n HB.o d c⟩
def Rm{m:Value}(f:w.heap[gw]?=O (I #[t,C Y 0 0,C Y 0 0] 26 (0,0)))(a:N<=gw)(h:HandO N w m rs vs)(s:z rs<100000000)(hs:∀r∈rs,z r<1000):
  Calls prog 24 #[.pointer (O ⟨gw,0,Y⟩),m] w fun e u=>e=.returned (.tuple #[])/\RJ N w u gw:=by
 rcases h.y.own.2 with⟨e,_⟩|⟨b,cap,d,rfl,_,n,o,p,v,q⟩
 ·rw[e];exact Rl N gw t w f a
 ·refine Rj N gw b cap rs vs d w ⟨⟨t,f⟩,fun i g=>?_,h.y.len,h.hand.nd,s,hs⟩ n (by omega) o p (by simpa using q) a (h.lo b Z) h.lr;have c:i<z vs:=by rw[h.y.len];exact g
  obtain⟨k,e1,e2⟩:=h.hand.ex i g vs[i] (x4 c);exact⟨k,by rw[x4 c,e1],e2⟩
