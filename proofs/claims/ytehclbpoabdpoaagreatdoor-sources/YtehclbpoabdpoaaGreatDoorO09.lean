import Derived.Laws.IdiomCopy
import Derived.Test.YtehclbpoabdpoaaGreatDoorO08
set_option linter.all false
set_option maxHeartbeats 0
namespace Go.Proofs.YtehclbpoabdpoaaGreatDoor
open Go Go.RowKit Go.Proofs.Tryz P Q
set_option maxRecDepth 1000000
variable {w w':World}{g:Nat}{l:List Int}
open Go.IntKind renaming i64->O
open Go.Obj renaming cells->I
open Go.Value renaming int->U
open Option renaming none->H,some->K
open Bool renaming false->T
open List renaming range->xF,replicate->xR,drop_eq_getElem_cons->x3,drop_eq_nil_of_le->x6,set_append_right->x7,replicate_succ'->x8,append_assoc->x9,flatMap_cons->xb
open Go.Value renaming int->xW
open Nat renaming le_refl->x1
open Go.World renaming cell?->x2,setCells->x4,cell?_setCell_other->xa
open Go.RowKit.Below renaming heap_setCell->x5
open _root_.Array renaming getElem?_eq_none->xc
open Go.Instr renaming makeSlice->xd
namespace Q
def iD(b:List Int):Bool:=b.all fun x=>decide (1<=x)
def eO:List Int->List Int->List Int×Bool
 |b::bs,d::ds=>if d+1<b then((d+1)::ds,true)else(0::(eO bs ds).1,(eO bs ds).2)
 |_,ds=>(ds,T)
end Q
def oJ(l:List Int):Array Value:=(l.map (xW O)).toArray
def NM(w:World)(g:Nat)(l:List Int):Prop:=w.heap[g]?=K (I (oJ l) 3 (0,0))
def NM.lt(h:NM w g l):g<w.heap.size:=(Array.getElem?_eq_some_iff.1 h).1
def NM.aC(h:NM w g l)(e:w'.heap[g]?=w.heap[g]?):NM w' g l:=by unfold NM at*;rw[e];exact h
def NM.X(h:NM w g l)(a:Below w.heap.size w w'):NM w' g l:=h.aC (a.block g h.lt)
def NM.cell(h:NM w g l)(i:Nat)(a:i<l.length):w.cell? ⟨g,i,H⟩=K (U O l[i]):=by
 unfold NM at h;simp[x2,h,oJ,a]
def NM.free(h:NM w g l)(i:Nat):w.frozen? ⟨g,i,H⟩=T:=by
 unfold NM at h;simp[World.frozen?,h]
def NM.set(h:NM w g l)(i:Nat)(x:Int):NM (w.setCell ⟨g,i,H⟩ (U O x)) g (l.set i x):=by
 unfold NM at*;rw[bX h];simp[oJ,List.map_set]
structure PT(w:World)(gc o gb gd:Nat)(bs ds:List Int)(begun:Bool):Prop where
 c0:w.cell? ⟨gc,o,H⟩=K (MU gb bs.length bs.length)
 c1:w.cell? ⟨gc,o+1,H⟩=K (MU gd ds.length ds.length)
 c2:w.cell? ⟨gc,o+2,H⟩=K (.bool begun)
 free:∀j,w.frozen? ⟨gc,j,H⟩=T
 lt:gc<w.heap.size
 bases:NM w gb bs
 digits:NM w gd ds
 cd:gc≠gd
 cb:gc≠gb
 bd:gb≠gd
 len:ds.length=bs.length
def Ka(m o q gd:Nat)(a p:List Int)(c:Bool)(w:World)(h:PT w m o q gd a p c)(z:a.length<10000):
  Calls prog 141 #[.pointer (K ⟨m,o,H⟩)] w fun e w'=>e=.returned (.bool (iD a))/\w'=w:=by
 obtain⟨s,t,u,v,cl,_,_,_,_,_,_⟩:=id h;have HB:=MS h.bases;go_enter func141,ntmps141;go_wp2;go_loop [10] (fun i=>∃k:Nat,k<=a.length/\i=U O k/\MT (iD a=iD (a.drop k))) fun i=>a.length-(intOf i).toNat
 case atStart=>exact⟨0,Nat.zero_le _,Z,Z⟩
 case round =>
  obtain⟨k,y,rfl,f⟩:=hrel;by_cases hlt:k<a.length
  ·have r:(k:Int)<(a.length:Int):=by omega
   have x:=HB.cell k hlt;have j:MT (iD (a.drop k)=(decide (1<=a[k])&&iD (a.drop (k+1)))):=by
    unfold MT;rw[x3 hlt];rfl
   generalize a[k]=b at*;by_cases hb:b<1
   ·have d:MT (iD a=T):=by unfold MT;rw[f.o,j.o,decide_eq_false (by omega)];rfl
    go_wp2;go_ret;rw[d.o];exact⟨Z,Z⟩
   ·have n:MT (iD a=iD (a.drop (k+1))):=by unfold MT;rw[f.o,j.o,decide_eq_true (by omega)];rfl
    go_wp2;go_round
    case rel=>exact⟨k+1,by omega,by go_num,n⟩
    case measure=>simp[intOf];omega
  ·have d:MT (iD a=true):=by unfold MT;rw[f.o,x6 (by omega)];rfl
   go_wp2;go_ret;rw[d.o];exact⟨Z,Z⟩
def Kb(b a:List Int)(k:Nat)(c:k<b.length)(d:k<a.length):eO (b.drop k) (a.drop k)=if a[k]+1<b[k]then((a[k]+1)::a.drop (k+1),true)else(0::(eO (b.drop (k+1)) (a.drop (k+1))).1,(eO (b.drop (k+1)) (a.drop (k+1))).2):=by
 rw[x3 c,x3 d,eO]
def VM(a:List Int)(k:Nat)(b:k<a.length)(x:Int):(xR k 0++a.drop k).set k x=xR k 0++x::a.drop (k+1):=by
 have e:k-(xR k (0:Int)).length=0:=by simp
 rw[x7 _ _ (by simp),e,x3 b];rfl
def Kc(a:List Int)(k:Nat)(b:k<a.length):(xR k 0++a.drop k).set k 0=xR (k+1) 0++a.drop (k+1):=by
 rw[VM a k b,x8,x9];rfl
def Kd(a:List Int)(k:Nat)(b:k<=a.length):(xR k (0:Int)++a.drop k).length=a.length:=by simp;omega
def Ke(a:List Int)(k:Nat)(b:k<a.length)(h:k<(xR k (0:Int)++a.drop k).length):(xR k (0:Int)++a.drop k)[k]=a[k]:=by
 rw[List.getElem_append_right (by simp)];simp
def Kf(b o f gd:Nat)(c d:List Int)(w:World)(h:PT w b o f gd c d T)(p:c.length<10000):
  Calls prog 107 #[.pointer (K ⟨b,o,H⟩)] w fun e w'=>e=.returned (.bool (iD c))/\w'=w.setCell ⟨b,o+2,H⟩ (.bool true):=by
 have i:MT (PT (w.setCell ⟨b,o+2,H⟩ (.bool true)) b o f gd c d true):=
  ⟨(xa _ _ _ _ (by simp)).trans h.c0,(xa _ _ _ _ (by simp)).trans h.c1,World.cell?_setCell_same _ _ _ h.c2,fun j=>by rw[World.frozen?_setCell];exact h.free j,by simpa using h.lt,
   h.bases.aC (x5 _ _ _ _ fun e=>h.cb e.symm),h.digits.aC (x5 _ _ _ _ fun e=>h.cd e.symm),h.cd,h.cb,h.bd,h.len⟩
 obtain⟨k,m,n,q,cl,_,_,_,_,_,_⟩:=id h;go_enter func107,ntmps107;go_wp2_with(first|(go_at_call 141;refine(Ka b o f gd c d true _ i.o p).mono ?_;rintro e w' ⟨rfl,a⟩;have a:=a.symm;subst a));go_ret;exact⟨Z,Z⟩
def Kg(n o D gd:Nat)(c a:List Int)(w:World)(h:PT w n o D gd c a true)(hn:c.length<10000)(V:∀d∈a,0<=d/\d<1000000000):
  Calls prog 107 #[.pointer (K ⟨n,o,H⟩)] w fun e w'=>e=.returned (.bool (eO c a).2)/\NM w' gd (eO c a).1/\w.grownBy w' (K gd)/\w'.heap.size=w.heap.size:=by
 obtain⟨c0,N,c2,cf,cl,F,J,G,S,E,aa⟩:=h;have p:=MS F;have x:=MS V;go_enter func107,ntmps107;go_wp2;go_loopw[20] (fun i wr=>∃k:Nat,k<=c.length/\i=U O k/\MT (eO c a=(xR k 0++(eO (c.drop k) (a.drop k)).1,(eO (c.drop k) (a.drop k)).2))/\MT (NM wr gd (xR k 0++a.drop k))/\w.grownBy wr (K gd)/\wr.heap.size=w.heap.size) fun i _=>c.length-(intOf i).toNat
 case atStart=>exact⟨0,Nat.zero_le _,Z,by simp[MT],by simpa[MT]using J,fH _ _,Z⟩
 case round =>
  obtain⟨k,hk,rfl,z,q,v,m⟩:=hrel;have C:wr.heap[n]?=w.heap[n]?:=v.block n cl (by simp;exact G);have d1:wr.cell? ⟨n,o+1,H⟩=K (MU gd a.length a.length):=by rw[<- N];simp only[x2,C]
  have HB:MT (NM wr D c):=p.aC (v.block D p.lt (by simp;exact E));have W:∀j,wr.frozen? ⟨gd,j,H⟩=T:=fun j=>q.free j
  by_cases hlt:k<c.length
  ·have f:k<a.length:=by omega
   have X:(k:Int)<(c.length:Int):=by omega
   have L:=HB.cell k hlt;have u:=q.cell k (by rw[Kd a k (by omega)];exact f);rw[Ke a k f]at u;have ab:=x.o a[k] (List.getElem_mem f);have t:=MS (Kb c a k hlt f);have s:=MS (q.set k (a[k]+1));have r:=MS ((q.set k (a[k]+1)).set k 0);have B:(xR k (0:Int)++a.drop k).set k (a[k]+1)=xR k 0++(a[k]+1)::a.drop (k+1):=VM a k f _;have A:((xR k (0:Int)++a.drop k).set k (a[k]+1)).set k 0=xR (k+1) 0++a.drop (k+1):=by rw[List.set_set];exact Kc a k f
   rw[B]at s;rw[A]at r;generalize a[k]=d at*;generalize c[k]=b at*;by_cases hb:d+1<b
   ·have y:MT (eO c a=(xR k 0++(d+1)::a.drop (k+1),true)):=by unfold MT;rw[z.o,t.o,if_pos hb]
    go_wp2;go_ret;rw[y.o];exact⟨Z,s.o,dG v _ _,by simpa using m⟩
   ·have M:MT (eO c a=(xR (k+1) 0++(eO (c.drop (k+1)) (a.drop (k+1))).1,(eO (c.drop (k+1)) (a.drop (k+1))).2)):=by
     unfold MT;rw[z.o,t.o,if_neg hb,x8,x9];rfl
    go_wp2;go_roundw
    case rel=>exact⟨k+1,by omega,by go_num,M,r,dG (dG v _ _) _ _,by simpa using m⟩
    case measure=>simp[intOf];omega
  ·have Y:k=c.length:=by omega
   have y:MT (eO c a=(xR k 0++a.drop k,T)):=by
    unfold MT;rw[z.o,x6 (by omega)];simp[eO]
   go_wp2;go_ret;rw[y.o];exact⟨Z,q.o,v,m⟩
namespace Q
structure Et where
 j:Int
 block:Int
 Y:Nat
 g:List Int
 made:List Nat
 A:Nat
 u:Nat
 E:List Ev
def Et.start(t b:Int)(u:Nat):Et:=⟨t,b,u,[0,0,0,0],[0,0,0,0],0,0,[]⟩
def Et.value(m:Et)(a:QR):Int:=if a.MW then(if a.n<0\/4<=a.n then 0 else m.g.getD a.n.toNat 0)else a.n
def Et.Ea(m:Et)(a:QR):Nat:=if a.MW then(if a.n<0\/4<=a.n then 0 else m.made.getD a.n.toNat 0)else 0
def Et.aU(m:Et)(i:Nat):Int:=(m.E.getD i Ev.zero).value
def Et.aJ(m:Et)(d v:Int)(s:Nat):Et:=if d<0\/4<=d then m else{m with g:=m.g.set d.toNat v,made:=m.made.set d.toNat s}
def Et.aZ(m:Et)(d:Int)(r:Nat):Et:=m.aJ d (m.aU r) (bW r)
def Et.put(m:Et)(e:Ev):Et:={m with E:=m.E++[e]}
def Et.V(m:Et)(kind:Int)(st:MV):Ev :=
 ⟨kind,m.j,m.block,st.z,0,st.q,st.scope,if kind==3||kind==4 then m.u else 0,(kind==0||kind==1)&&(st.B==2||st.B==3),if kind==0||kind==1 then m.A else 0⟩
def Et.read(m:Et)(st:MV):Et:={m with Y:=m.Y/4,E:=m.E++[{m.V 0 st with value:=(m.Y%4:Nat)}]}
def Et.bL(m:Et)(st:MV)(v:Int)(s:Nat):Et:=m.put {m.V 1 st with value:=v,h:=m.A|||s}
def Et.store(m:Et)(st:MV):Et:=m.bL st (m.value st.a) (m.Ea st.a)
def Et.cX(m:Et)(st:MV):Et:={m with E:=m.E++[m.V 3 st,m.V 4 st],u:=m.u+1}
def Et.step(m:Et)(st:MV):Et :=
 (if st.B==2 then(m.read st).bL st ((m.value st.a+(m.read st).aU m.E.length)%4) (m.Ea st.a|||bW (m.E.length:Nat))else(m.read st).bL st (m.value st.a) (m.Ea st.a)).aZ st.dest m.E.length
def Et.bD(m:Et)(st:MV):Int :=
 if st.B==7 then(m.value st.a+m.value st.b)%4 else if st.B==8 then(m.value st.a+4-m.value st.b)%4 else if st.B==9 then(if m.value st.a==m.value st.b then 1 else 0)else m.value st.a
def Et.bO(m:Et)(st:MV):Et :=
 if st.B==0 then(m.read st).aZ st.dest m.E.length
 else if st.B==1 then m.store st
 else if st.B==2||st.B==3 then m.step st
 else if st.B==4 then m.put (m.V 2 st)
 else if st.B==5 then m.cX st
 else if st.B==6||st.B==7||st.B==8||st.B==9 then m.aJ st.dest (m.bD st) (m.Ea st.a|||m.Ea st.b)
 else m
def Et.bY(m:Et)(st:MV):Et:={m with A:=m.A|||m.Ea st.a}
def aK(p:Et×Nat)(st:MV):Et×Nat :=
 if p.2==0 then if st.B==10 then(p.1.bY st,if p.1.value st.a==0 then 1 else 0)else(p.1.bO st,0)
 else if st.B==10 then(p.1,p.2+1)else if st.B==11 then(p.1,p.2-1)else p
def rV(m:Et)(ss:List MV):Et:=(ss.foldl aK (m,0)).1
structure Run where
 E:List Ev
 g:List Int
def Et.run(m:Et):Run:=⟨m.E,m.g⟩
def QX(ss:List MV):Nat:=ss.foldl (fun c st=>if P.aX st.B then c*4 else c) 1
def kC(t:NB)(i:Nat)(jI:Nat):Et:=rV (Et.start i t.block jI) t.S
def iS(t:NB)(i:Nat)(k:Nat):List Run:=((xF k).filter fun c=>(kC t i c).Y==0).map fun c=>(kC t i c).run
def gY(t:NB)(i:Nat):List Run:=iS t i (QX t.S)
def eF(i:Nat):List NB->List (List Run)
 |[]=>[]
 |t::ts=>gY t i::eF (i+1) ts
def NJ(ts:List NB):List (List Run):=eF 0 ts
structure Wd where
 E:List Ev
 g:List Int
def QT(n:Nat)(e:Ev):Ev:={e with h:=QS e.h n}
def Wd.join(w:Wd)(r:Run):Wd:=⟨w.E++r.E.map (QT w.E.length),w.g++r.g⟩
def PU(v:Int):Ev:=⟨1, -1,0,v,0,0,0,0,T,0⟩
def QF:List Ev:=[PU 0,PU 1,PU 2]
def iL:Wd->List (List Run)->List Int->Wd
 |w,rs::rest,d::ds=>iL (if h:d.toNat<rs.length then w.join rs[d.toNat]else w) rest ds
 |w,_,_=>w
def NV(rss:List (List Run))(ds:List Int):Wd:=iL ⟨QF,[]⟩ rss ds
def OJ:List Int->List (List Int)
 |[]=>[[]]
 |b::bs=>(OJ bs).flatMap fun r=>(xF b.toNat).map fun d:Nat=>(d:Int)::r
def ev(es:List Ev)(i:Nat):Ev:=es.getD i Ev.zero
def cT(es:List Ev)(i k:Nat):Bool:=(ev es k).B==1&&(ev es k).z==(ev es i).z&&(ev es k).value==(ev es i).value&&!((ev es i).step&&k==i+1)
def mA(es:List Ev)(i:Nat):List Int:=if(ev es i).B==0 then((xF es.length).filter (cT es i)).map fun k:Nat=>(k:Int)else[-1]
def NC(es:List Ev):List (List Int):=(xF es.length).map (mA es)
def PN(cs:List (List Int)):List Int:=cs.map fun c=>(c.length:Int)
def eW(cs:List (List Int))(ds:List Int):List Int:=(xF cs.length).map fun i=>(cs.getD i []).getD (ds.getD i 0).toNat (-1)
def aN(es:List Ev):List Int:=es.map fun e=>if e.B==1 then e.z else -1
def RY(es:List Ev):List Int:=es.map fun e=>if OY e then 0 else -1
def jL(es:List Ev)(rs:List Int)(i k:Nat):Bool:=rs.getD i (-1) != -1&&rs.getD k (-1)==rs.getD i (-1)&&(ev es k).j != -1
def lX(es:List Ev)(rs:List Int)(i:Nat):Int:=1+(((xF i).filter (jL es rs i)).length:Nat)
def OR(es:List Ev)(rs:List Int):List Int:=(xF rs.length).map (lX es rs)
def lD(rs:List Int)(i:Nat):Int:=(((xF i).filter fun k=>rs.getD k (-1)==rs.getD i (-1)).length:Nat)
def nD(rs:List Int)(i:Nat)(p:List Int)(k:Nat):List Int:=if rs.getD k (-1)==rs.getD i (-1)&&decide (p.getD i 0<=p.getD k 0)then p.set k (p.getD k 0+1)else p
def jH(rs ds:List Int)(p:List Int)(i:Nat):List Int:=if rs.getD i (-1) == -1 then p.set i (-1)else(xF i).foldl (nD rs i) (p.set i (lD rs i-ds.getD i 0))
def eA(rs ds:List Int):List Int:=(xF rs.length).foldl (jH rs ds) (xR rs.length 0)
def oB(v:Int)(ps:List Int)(es:List Ev)(a:Int×Int)(i:Nat):Int×Int:=if(ev es i).B==1&&(ev es i).z==v&&decide (a.2<ps.getD i 0)then((ev es i).value,ps.getD i 0)else a
def mB(es:List Ev)(v:Int)(ps:List Int):Int:=((xF es.length).foldl (oB v ps es) (0, -1)).1
def RE(w:Wd)(ps:List Int):List Int:=w.g++[mB w.E 0 ps,mB w.E 1 ps,mB w.E 2 ps]
def cmp:List Int->List Int->Int
 |[],b=>- (b.length:Int)
 |_::_,[]=>1
 |a::x,b::y=>if a != b then a-b else cmp x y
def eY:List (List Int)->List Int->List (List Int)
 |[],r=>[r]
 |x::xs,r=>if cmp x r<0 then x::eY xs r else if cmp x r==0 then x::xs else r::x::xs
structure Eu where
 E:List Ev
 C:List Nat
 G:List Nat
 J:List Nat
 N:List Nat
 y:List Nat
 h:List Nat
 L:List Nat
 sends:List Nat
 M:List Nat
def dJ(c:Bool)(r:List Nat)(i k:Nat):List Nat:=if c then dE r (i:Int) (k:Int)else r
def isRow(i:Nat)(a:Ev)(k:Nat)(b:Ev):Bool:=QI i a k b&&QH a&&QH b&&a.z==b.z
def SB(i:Nat)(a:Ev)(k:Nat)(b:Ev):Bool:=i != k&&aD a b
def RQ(i:Nat)(a:Ev)(k:Nat)(b:Ev):Bool:=i != k&&aD a b&&OY a&&OY b
def SD(i:Nat)(a:Ev)(k:Nat):Bool:=a.B==1&&a.step&&k+1==i
def SE(i:Nat)(a:Ev)(k:Nat)(b:Ev):Bool:=i==k&&(a.B==1&&P.rel a.q)||QI i a k b&&a.B==2&&b.B==1
def SF(i:Nat)(a:Ev)(k:Nat)(b:Ev):Bool:=i==k&&(a.B==0&&acq a.q)||QI i a k b&&a.B==0&&b.B==2
def Eu.jK(f:Eu)(i:Nat)(a:Ev)(k:Nat)(b:Ev):Eu :=
 {f with C:=dJ (QI i a k b) f.C i k,y:=dJ (isRow i a k b) f.y i k,G:=dJ (SB i a k b) f.G i k,N:=dJ (RQ i a k b) f.N i k,J:=dJ (RX a b) f.J i k,h:=dJ (PD a.h (k:Nat)) f.h i k,L:=dJ (SD i a k) f.L i k,sends:=dJ (SE i a k b) f.sends i k,M:=dJ (SF i a k b) f.M i k}
def Eu.new(es:List Ev):Eu:=⟨es,NU es.length,NU es.length,NU es.length,NU es.length,NU es.length,NU es.length,NU es.length,NU es.length,NU es.length⟩
def rB(es:List Ev)(f:Eu)(i:Nat):Eu:=(xF es.length).foldl (fun f k=>f.jK i (ev es i) k (ev es k)) f
def NH(es:List Ev):Eu:=(xF es.length).foldl (rB es) (Eu.new es)
def Eu.D(f:Eu)(rs:List Int):List Nat:=(xF rs.length).foldl (fun(r:List Nat) (i:Nat)=>dE r (i:Int) (rs.getD i (-1))) (NU f.E.length)
def Eu.cH(f:Eu)(rd:List Nat):Bool:=vJ (gV f.h rd)
def Eu.bK(f:Eu)(rd:List Nat):List Nat:=kU rd f.G
def Eu.aP(f:Eu)(rd:List Nat):List Nat:=gV (f.bK rd) (dZ (lK (dZ (f.bK rd) f.L)) (f.bK rd))
def yJ(es:List Ev)(aP:List Nat)(r:Nat)(h:List Nat)(w:Nat):List Nat:=if cC aP r w&&(ev es r).q != 0&&(ev es w).q != 0 then dE h w r else h
def sR(es:List Ev)(aP:List Nat)(h:List Nat)(r:Nat):List Nat:=(xF es.length).foldl (yJ es aP r) h
def eB(es:List Ev)(aP:List Nat):List Nat:=(xF es.length).foldl (sR es aP) (NU es.length)
def Eu.bS(f:Eu)(aP:List Nat):List Nat:=kU (dZ (dZ f.sends (eB f.E aP)) f.M) f.G
def QY(es:List Ev)(ps:List Int)(i k:Nat):Bool:=(ev es i).B==1&&(ev es k).B==1&&(ev es i).z==(ev es k).z&&decide (ps.getD i 0<ps.getD k 0)
def rX(es:List Ev)(ps:List Int)(i:Nat)(b:List Nat)(k:Nat):List Nat:=dJ (QY es ps i k) b i k
def wH(es:List Ev)(ps:List Int)(b:List Nat)(i:Nat):List Nat:=(xF es.length).foldl (rX es ps i) b
def hY(es:List Ev)(ps:List Int):List Nat:=(xF es.length).foldl (wH es ps) (NU es.length)
def JM(rd bh ms:List Nat):List Nat:=gV (gV (oN rd) bh) ms
def Eu.kB(f:Eu)(ms bh:List Nat):Bool:=lI (dZ (dZ f.L ms) bh)
def Eu.bV(f:Eu)(i:Nat)(a:Ev)(k:Nat)(b:Ev):Bool:=a.B==1&&i != k&&!cC f.G i k&&a.z==b.z&&QH b
def Eu.cP(f:Eu)(bf:List Nat)(i k:Nat):Bool:=f.bV i (ev f.E i) k (ev f.E k)&&!cC bf i k&&!cC bf k i
def Eu.bU(f:Eu)(bf:List Nat):Bool:=(xF f.E.length).any fun i=>(xF f.E.length).any fun k=>f.cP bf i k
def Eu.MY(f:Eu)(rd:List Nat):List Nat:=lK (gV (gV f.C (f.bS (f.aP rd))) f.J)
def Eu.dP(f:Eu)(bf lk:List Nat):Bool:=vJ (kU (gV bf (dZ (dZ bf lk) bf)) f.N)
def OF(rd bh:List Nat):List Nat:=lK (JM rd bh (dZ rd bh))
def Eu.fX(f:Eu)(rd bf:List Nat)(ps:List Int):Bool :=
 if lI bf then T else if f.kB (dZ rd (hY f.E ps)) (hY f.E ps)then T else if lI (dZ bf (OF rd (hY f.E ps)))then T else !f.dP bf (OF rd (hY f.E ps))
structure PA where
 y:List (List Int)
 clash:Bool
def kP(w:Wd)(f:Eu)(rd bf:List Nat)(a:PA)(ds:List Int):PA :=
 if f.fX rd bf (eA (aN w.E) ds)then⟨eY a.y (RE w (eA (aN w.E) ds)),if a.clash then true else f.bU bf⟩else a
def uX(w:Wd)(f:Eu)(rd bf:List Nat)(a:PA):PA:=(OJ (OR w.E (aN w.E))).foldl (kP w f rd bf) a
structure Cand where
 wd:Wd
 F:Eu
 D:List Nat
def zC(w:Wd)(f:Eu):List Cand :=
 ((OJ (PN (NC w.E))).map fun ds=>Cand.mk w f (f.D (eW (NC w.E) ds))).filter fun c=>!c.F.cH c.D
def wR(ts:List NB):List Cand:=(OJ ((NJ ts).map fun r=>(r.length:Int))).flatMap fun ds=>zC (NV (NJ ts) ds) (NH (NV (NJ ts) ds).E)
def mM(a:PA)(c:Cand):PA:=uX c.wd c.F c.D (c.F.MY c.D) a
def QJ(ts:List NB):PA:=(wR ts).foldl mM ⟨[],T⟩
def qF:List Int->List Int->List (List Int)
 |b::bs,d::ds=>((xF (b.toNat-(d.toNat+1))).map fun x:Nat=>((d.toNat+1+x:Nat):Int)::ds)++(qF bs ds).flatMap fun r=>(xF b.toNat).map fun x:Nat=>(x:Int)::r
 |_,_=>[]
def fJ(n:Nat):List Int:=xR n 0
def PE:List Int->List Int->Prop
 |[],[]=>True
 |b::bs,d::ds=>0<=d/\d<b/\PE bs ds
 |_,_=>False
def PE.len:∀{a c:List Int},PE a c->c.length=a.length
 |[],[],_=>Z
 |[],_::_,h=>h.elim
 |_::_,[],h=>h.elim
 |b::a,d::c,h=>by simp[PE.len h.2.2]
def PE.rng:∀{c a:List Int},PE c a->∀i (h:i<a.length),0<=a[i]/\a[i]<c.getD i 0
 |[],[],_,i,hi=>by simp at hi
 |[],_::_,h,_,_=>h.elim
 |_::_,[],h,_,_=>h.elim
 |b::c,d::a,h,0,_=>⟨h.1,h.2.1⟩
 |b::c,d::a,h,i+1,hi=>by
  have:=PE.rng h.2.2 i (by simpa using hi);simpa using this
def VN:∀{a:List Int},iD a=true->PE a (fJ a.length)
 |[],_=>trivial
 |b::a,h=>by
  simp[iD]at h;have c:iD a=true:=by simp[iD];exact h.2
  exact⟨Int.le_refl _,by omega,VN c⟩
def VO:∀{a c:List Int},PE a c->(eO a c).2=true->PE a (eO a c).1
 |[],[],_,h=>by simp[eO]at h
 |[],_::_,h,_=>h.elim
 |_::_,[],h,_=>h.elim
 |b::a,d::c,h,k=>by
  have f:=h.1;have i:=h.2.1;rw[eO]at k⊢
  split
  ·exact⟨by omega,by omega,h.2.2⟩
  ·rename_i e;rw[if_neg e]at k;exact⟨Int.le_refl _,by omega,VO h.2.2 k⟩
def VP(n:Nat)(h:0<n):xF n=0::(xF (n-1)).map fun x=>1+x:=by
 obtain⟨k,rfl⟩:∃k,n=k+1:=⟨n-1,by omega⟩;rw[List.range_succ_eq_map];simp[Nat.add_comm]
def VQ(n:Nat)(h:0<n)(r:List Int):(xF n).map (fun x:Nat=>(x:Int)::r)=(0::r)::(xF (n-1)).map fun x:Nat=>((0+1+x:Nat):Int)::r:=by
 rw[VP n h];simp
def VR:∀{a:List Int},iD a=true->OJ a=fJ a.length::qF a (fJ a.length)
 |[],_=>Z
 |b::a,h=>by
  simp[iD]at h;have c:iD a=true:=by simp[iD];exact h.2
  rw[OJ,VR c,xb,VQ _ (by omega)];simp[fJ,List.replicate_succ,qF]
def VS:∀{a:List Int},iD a=T->OJ a=[]
 |[],h=>by simp[iD]at h
 |b::a,h=>by
  rw[OJ];by_cases hb:1<=b
  ·have c:iD a=T:=by
    have:iD (b::a)=(decide (1<=b)&&iD a):=Z;rw[this,decide_eq_true hb]at h;simpa using h
   rw[VS c];rfl
  ·have:b.toNat=0:=by omega
   rw[this];simp
def VT:∀{a c:List Int},PE a c->(eO a c).2=true->qF a c=(eO a c).1::qF a (eO a c).1
 |[],[],_,h=>by simp[eO]at h
 |[],_::_,h,_=>h.elim
 |_::_,[],h,_=>h.elim
 |b::a,d::c,h,k=>by
  have i:=h.1;have j:=h.2.1;by_cases hlt:d+1<b
  ·have e:eO (b::a) (d::c)=((d+1)::c,true):=by rw[eO,if_pos hlt]
   rw[e];simp only[qF];rw[VP (b.toNat-(d.toNat+1)) (by omega)];have e1:(d+1).toNat=d.toNat+1:=by omega
   simp only[List.map_cons,List.map_map,List.cons_append,e1];have e2:((d.toNat+1+0:Nat):Int)=d+1:=by omega
   rw[e2]
   congr 2
   rw[show b.toNat-(d.toNat+1+1)=b.toNat-(d.toNat+1)-1 by omega];apply List.map_congr_left;intro x _;simp only[Function.comp];rw[show d.toNat+1+(1+x)=d.toNat+1+1+x by omega]
  ·have e:eO (b::a) (d::c)=(0::(eO a c).1,(eO a c).2):=by rw[eO,if_neg hlt]
   rw[e]at k⊢;have ih:=VT h.2.2 k;have f:b.toNat-(d.toNat+1)=0:=by omega
   simp only[qF,f,ih,xb];rw[VQ b.toNat (by omega)];simp
def VU:∀{a c:List Int},PE a c->(eO a c).2=T->qF a c=[]
 |[],[],_,_=>Z
 |[],_::_,h,_=>h.elim
 |_::_,[],h,_=>h.elim
 |b::a,d::c,h,k=>by
  have f:=h.1;have i:=h.2.1;by_cases hlt:d+1<b
  ·rw[eO,if_pos hlt]at k;simp at k
  ·rw[eO,if_neg hlt]at k;have ih:=VU h.2.2 k;have e:b.toNat-(d.toNat+1)=0:=by omega
   simp[qF,e,ih]
end Q
def EJ(l:List Value)(o:Nat):List Value->List Value
 |[]=>l
 |v::vs=>EJ (l.set o v) (o+1) vs
def wP(b:Nat)(e:TypeId)(c:Nat×Nat):∀(a l:List Value) (o:Nat) (w:World),w.heap[b]?=K (I l.toArray e c)->(w.setCells b o a).heap[b]?=K (I (EJ l o a).toArray e c)
 |[],l,o,w,h=>h
 |v::a,l,o,w,h=>by
  have d:=bX h o v;rw[x4];exact wP b e c a (l.set o v) (o+1) _ (by rw[d];simp)
def FQ:∀(b a rest:List Value),rest.length=b.length->EJ (a++rest) a.length b=a++b
 |[],a,rest,h=>by have:rest=[]:=List.eq_nil_of_length_eq_zero h;rw[this];rfl
 |v::b,a,[],h=>by simp at h
 |v::b,a,r::rest,h=>by
  have e:(a++r::rest).set a.length v=a++[v]++rest:=by rw[x7 _ _ (x1 _),Nat.sub_self];simp
  have:=FQ b (a++[v]) rest (by simpa using h);rw[EJ,e,show a.length+1=(a++[v]).length by simp,this];simp
def yW(b:Nat):∀(a:List Value) (o:Nat) (w:World) (k:Nat),k≠b->(w.setCells b o a).heap[k]?=w.heap[k]?
 |[],_,_,_,_=>Z
 |v::a,o,w,k,h=>by rw[x4,yW b a (o+1) _ k h,x5 _ _ _ _ h]
def xN(n:Nat):madeCells #[U O 0] n=oJ (xR n 0):=by
 apply Array.ext_getElem?;intro i;by_cases h:i<n
 ·simp[madeCells,oJ,h,Nat.mod_one]
 ·rw[xc (by simpa[madeCells]using h),xc (by simpa[oJ]using h)]
def rD(b:Nat):∀(a:List Value) (o:Nat) (w:World),(w.setCells b o a).heap.size=w.heap.size
 |[],_,_=>Z
 |v::a,o,w=>by rw[x4,rD b a (o+1)];simp
def Below.setCells{B b:Nat}{a:World}(d:B<=b):∀(c:List Value) (o:Nat) (w:World),Below B a w->Below B a (w.setCells b o c)
 |[],_,_,h=>h
 |v::c,o,w,h=>by rw[x4];exact Below.setCells d c (o+1) _ (h.setCell d v)
def PC(w:World)(v:Value)(l:List Int):Prop:=v=.slice H 0 0/\l=[]\/∃g cap,v=MU g l.length cap/\(∀i (h:i<l.length),w.cell? ⟨g,i,H⟩=K (U O l[i]))/\g<w.heap.size/\l.length<=cap
def CD(v:Value)(l:List Int)(w:World)(h:PC w v l)(z:l.length<10000):
  Calls prog 115 #[v] w fun e w'=>∃g,e=.returned (MU g l.length l.length)/\NM w' g l/\w.heap.size<=g/\Below w.heap.size w w':=by
 have k:∀w,(xd 37 (U O (l.length:Int)) (U O (l.length:Int))).run prog w=.ok (MU w.heap.size l.length l.length) (w.alloc (I (madeCells #[U O 0] l.length) 3)):=
  fun w=>run_make_row' 37 3 (U O 0) 8 underlying37 Tryz.OC Z O O l.length (by omega) (by omega) w
 have a:(w.alloc (I (madeCells #[U O 0] l.length) 3)).heap[w.heap.size]?=K (I (oJ (xR l.length 0)) 3 (0,0)):=by rw[xN];exact heap_alloc_new w _
 have d:(prog.info? 3).map (·.size)=K 1:=by kernel_rfl
 rcases h with⟨rfl,rfl⟩|⟨g,f,rfl,t,u,_⟩
 ·have p:=MS a;have m:∀w,(xd 37 (U O 0) (U O 0)).run prog w=.ok (MU w.heap.size 0 0) (w.alloc (I (madeCells #[U O 0] 0) 3)):=k;have i:∀W:World,(Builtin.copy_ #[37,37] 3 #[MU w.heap.size 0 0,.slice H 0 0]).run prog W=.ok (goInt 0) W:=fun W=>run_copy_none W _ _ _ 3 _ _ 0 0 0 0 underlying37 d Z
  go_enter func115,ntmps115;go_wp2;go_ret;refine⟨w.heap.size,Z,?_,x1 _,(Below.refl _ _).alloc (x1 _) _⟩;exact p.o
 ·have s:∀j (b:j<l.length),(w.alloc (I (madeCells #[U O 0] l.length) 3)).cell? ⟨g,j,H⟩=K (U O l[j]):=fun j b=>by
   rw[<- t j b];simp only[x2,Below.heap_alloc _ _ _ u]
  have i:(Builtin.copy_ #[37,37] 3 #[MU w.heap.size l.length l.length,MU g l.length f]).run prog (w.alloc (I (madeCells #[U O 0] l.length) 3))=.ok (goInt (l.map (xW O)).length) ((w.alloc (I (madeCells #[U O 0] l.length) 3)).setCells w.heap.size 0 (l.map (xW O))):=by
   refine run_copy_cells _ _ _ _ 3 _ _ _ _ _ _ _ _ underlying37 d (by simp) ?_ ?_ ?_ ?_
   ·intro j v c;rw[List.getElem?_map]at c;obtain⟨x,y,rfl⟩:=Option.map_eq_some_iff.1 c;obtain⟨b,rfl⟩:=List.getElem?_eq_some_iff.1 y;have q:(⟨g,0,H⟩:Addr).add j=⟨g,j,H⟩:=by unfold Addr.add;split<;>simp_all
    rw[q];exact s j b
   ·intro j b;simp only[x2,a];simp at b;simp[oJ,b]
   ·intro j b;have r:NM (w.alloc (I (madeCells #[U O 0] l.length) 3)) w.heap.size (xR l.length 0):=a;exact r.free _
   ·intro v c;simp at c;obtain⟨x,_,rfl⟩:=c;rfl
  have n:MT (NM ((w.alloc (I (madeCells #[U O 0] l.length) 3)).setCells w.heap.size 0 (l.map (xW O))) w.heap.size l):=by
   unfold MT NM;have:=wP w.heap.size 3 (0,0) (l.map (xW O)) ((xR l.length 0).map (xW O)) 0 _ a;rw[this];have e:=FQ (l.map (xW O)) [] ((xR l.length 0).map (xW O)) (by simp);simp only[List.nil_append,List.length_nil]at e;rw[e];rfl
  have HB:MT (Below w.heap.size w ((w.alloc (I (madeCells #[U O 0] l.length) 3)).setCells w.heap.size 0 (l.map (xW O)))):=Below.setCells (x1 _) _ _ _ ((Below.refl _ _).alloc (x1 _) _);go_enter func115,ntmps115;go_wp2;go_ret;exact⟨w.heap.size,Z,n.o,x1 _,HB.o⟩
