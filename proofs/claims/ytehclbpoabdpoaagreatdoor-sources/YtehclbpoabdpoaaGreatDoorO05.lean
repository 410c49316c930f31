import Derived.Deep.RegionHeld3
import Derived.Test.YtehclbpoabdpoaaGreatDoorO03
set_option linter.all false
set_option maxHeartbeats 0
namespace Go.Proofs.YtehclbpoabdpoaaGreatDoor
open Go Go.RowKit Go.Proofs.Tryz P Q
set_option maxRecDepth 1000000
variable {fn:Func}{p:Tmp}{a:Act}{w w' w1:World}{ops:Array Oper}{op:Oper}{b3 b5 gn n:Nat}{vo vr:Value}{l:List Nat}
open _root_.Array renaming size->z
open Go.World renaming heap->M
open List renaming length->H
open Go.Obj renaming cells->Y
open Option renaming none->C,some->O
open Go.Value renaming int->I,agg->G,slice->N
open Go.Ending renaming returned->E
open Go.IntKind renaming i64->U
open List renaming range->xF,ext_getElem->xb,length_set->xc
open Go.RowKit.Below renaming refl->xR,heap_alloc->x6,heap_setCell->x9
open Nat renaming zero_le->xW,le_refl->x7
open Go.Exit renaming inBlock->x8
open _root_.Array renaming getElem?_eq_none->xa
def Hx(n:Nat):madeCells #[I .u64 0] n=tK (NU n):=by
 apply Array.ext_getElem?;intro i;by_cases h:i<n
 ·rw[UI _ _ (by simpa[NU]using h)];simp[madeCells,NU,h,Nat.mod_one]
 ·rw[xa (by simpa[madeCells]using h),xa (by simpa[tK,NU]using h)]
def qX(w w':World)(n:Nat)(l:List Nat)(e:Ending):Prop:=∃g,e=E (G #[MU g n n])/\OB w' g l/\z (M w)<=g/\H l=n/\NI l/\Below (z (M w)) w w'
def UT{d:TypeId}(h:fn.results=#[.cell p d])(b:Array Value)(c:Program)(w:World):
  (results fn b).run c w=((asAddr (b.getD p undef)).run c w).andThen fun a e=>(loadVar d a).run c e:=by
 simp only[results,h];simp[Sem.run_bind,Result.andThen]
def nL{R:Ending->World->Prop}(g:Nat)(v:Value)(b:fn.results=#[.cell p 83])(e:a.tmps.getD p undef=.pointer (O ⟨g,0,C⟩))(h:w.heap[g]?=O (Y #[v] 83 (0,0)))(d:a.defers=[])(c:R (E (G #[v])) w):bodyPost prog fn R .ret a w:=by
 refine bodyPost_ret (v:=G #[v]) ?_ d c;rw[UT b,e];have:(asAddr (.pointer (O ⟨g,0,C⟩))).run prog w=.ok ⟨g,0,C⟩ w:=Z;rw[this,Result.andThen_ok,vW w g _ _ _ h _ underlying83 rfl (by kernel_rfl)]
def cQ{g:Nat}{v:Value}{t:TypeId}(h:w.heap[g]?=O (Y #[v] t (0,0))):w.cell? ⟨g,0,C⟩=O v/\w.frozen? ⟨g,0,C⟩=false/\g<z (M w):=by
 refine⟨?_,?_,(Array.getElem?_eq_some_iff.1 h).1⟩<;>simp[World.cell?,World.frozen?,h]
def lP{rest:List Oper}{Q:Exit->Act->World->Prop}(x:Operand)(b:op.guard=C)(d:op.op=.load 83 x)(g:Nat)(v:Value)(e:a.eval x=.pointer (O ⟨g,0,C⟩))(c:w.heap[g]?=O (Y #[v] 83 (0,0)))(h:wpList prog ops Q rest (a.put op.dst (G #[v])) w):wpList prog ops Q (op::rest) a w :=
 KZ b _ x d g e _ _ c _ underlying83 Z (by kernel_rfl) h
def lS(n:Nat)(w:World)(c:n<=64):
  Calls prog 98 #[I U (n:Int)] w fun e w'=>qX w w' n (NU n) e:=by
 have b:∀w,(Instr.makeSlice 81 (I U (n:Int)) (I U (n:Int))).run prog w=.ok (MU (z (M w)) n n) (w.alloc (Y (madeCells #[I .u64 0] n) 178)):=fun w =>
  run_make_row' 81 178 (I .u64 0) 8 underlying81 Tryz.infoSet Z U U n (by omega) (by omega) w
 have d:¬(n:Int)<0:=by omega
 have f:¬(64:Int)<(n:Int):=by omega
 go_enter func98,ntmps98;go_wp2;refine nL (p:=2) (z (M w)) _ (by kernel_rfl) Z ?_ Z ⟨z (M w)+1,Z,?_,by omega,by simp[NU],UD n c,((xR _ _).alloc (x7 _) _).alloc (by simp) _⟩
 ·rw[x6 _ _ _ (by simp)];exact heap_alloc_new w _
 ·unfold OB;rw[<- Hx];have:=heap_alloc_new (w.alloc (Y #[MU (z (M w)+1) n n] 83)) (Y (madeCells #[I .u64 0] n) 178);simpa using this
def yY(w:World)(b o g n:Nat)(l:List Nat):Prop:=w.cell? ⟨b,o,C⟩=O (MU g n n)/\OB w g l/\H l=n/\b<z (M w)/\b≠g
def nU(b o g n:Nat)(l:List Nat)(x y:Int)(w:World)(h:yY w b o g n l)(t:NI l):
  Calls prog 99 #[.pointer (O ⟨b,o,C⟩),I U x,I U y] w fun e w'=>e=E (.tuple #[])/\OB w' g (dE l x y)/\w.grownBy w' (O g):=by
 obtain⟨D,hs,F,m,q⟩:=h;by_cases h0:x<0
 ·have d:MT (dE l x y=l):=by unfold MT dE;rw[if_pos (Or.inl h0)]
  have j:=MS hs;go_enter func99,ntmps99;go_wp2
  (try simp only[x8,Exit.then]);refine bodyPost_ret (results_none Z _ _ _) Z ?_
  rw[d.o];exact⟨Z,j.o,fH _ _⟩
 have r:decide (x<0)=false:=by simpa using h0
 by_cases h1:(n:Int)<=x
 ·have d:MT (dE l x y=l):=by unfold MT dE;rw[if_pos (Or.inr (Or.inl (by omega)))]
  have j:=MS hs;go_enter func99,ntmps99;go_wp2
  (try simp only[x8,Exit.then]);refine bodyPost_ret (results_none Z _ _ _) Z ?_
  rw[d.o];exact⟨Z,j.o,fH _ _⟩
 have s:decide ((n:Int)<=x)=false:=by simpa using h1
 by_cases h2:(n:Int)<=y
 ·have d:MT (dE l x y=l):=by unfold MT dE;rw[if_pos (Or.inr (Or.inr (by omega)))]
  have j:=MS hs;go_enter func99,ntmps99;go_wp2
  (try simp only[x8,Exit.then]);refine bodyPost_ret (results_none Z _ _ _) Z ?_
  rw[d.o];exact⟨Z,j.o,fH _ _⟩
 obtain⟨i,rfl⟩:=Int.eq_ofNat_of_zero_le (by omega:0<=x);have u:i<H l:=by omega
 have A:(i:Int)<(n:Int):=by omega
 have c:=hs.iI i u;have f:=hs.free i;have B:=bits_or_u64_nat (cO l (i:Int)) (Q.bW y) (kV t _) (sU y);have d:MT (dE l (i:Int) y=l.set i (cO l (i:Int)|||Q.bW y)):=by unfold MT dE;rw[if_neg (by omega)];rfl
 have j:=MS (hs.set i (cO l (i:Int)|||Q.bW y));generalize cO l (i:Int)=v at*;go_enter func99,ntmps99;go_wp2;go_region_with(go_at_call 139;refine(DW _ _).mono ?_;rintro e w1 ⟨rfl,k⟩;subst k)
 all_goals
  go_end0;rw[d.o];exact⟨Z,j.o,zB (dG (fH _ _) _ _)⟩
namespace Q
def Hy(r:List Nat):lI r=(xF (H r)).any fun i:Nat=>cC r (i:Int) (i:Int):=rfl
def LC(p:Nat->Bool)(k:Nat):(xF (k+1)).any p=((xF k).any p||p k):=by
 rw[List.range_succ,List.any_append];simp
def JU(p:Nat->Bool)(k n:Nat)(h:k<=n)(b:(xF k).any p=true):(xF n).any p=true:=by
 rw[List.any_eq_true]at b⊢;obtain⟨x,d,c⟩:=b;exact⟨x,by simp at d⊢;omega,c⟩
def jC(f:Nat->Nat)(n k:Nat)(t:List Nat):List Nat:=(xF n).map fun i=>if i<k then f i else t.getD i 0
def EV(f:Nat->Nat)(t:List Nat):jC f (H t) 0 t=t:=by
 unfold jC;apply xb
 ·simp
 ·intro i b c;simp at b;simp[List.getElem?_eq_getElem b]
def FK(f:Nat->Nat)(n:Nat)(t:List Nat):jC f n n t=(xF n).map f:=by
 unfold jC;apply List.map_congr_left;intro i b;simp at b;simp[b]
def xU(f:Nat->Nat)(n k:Nat)(t:List Nat):(jC f n k t).length=n:=by simp[jC]
def FH(f:Nat->Nat)(n k:Nat)(t:List Nat)(h:k<n):(jC f n k t).set k (f k)=jC f n (k+1) t:=by
 unfold jC;apply xb
 ·simp
 ·intro i c b;simp at b;rw[List.getElem_set];by_cases hk:k=i
  ·subst hk;simp
  ·by_cases hlt:i<k
   ·simp[hk,hlt,show i<k+1 by omega]
   ·simp[hk,hlt,show ¬i<k+1 by omega]
end Q
def UU(g n:Nat)(l:List Nat)(w:World)(h:OB w g l)(y:H l=n)(v:NI l):
  Calls prog 111 #[G #[MU g n n]] w fun e w'=>e=E (.bool (lI l))/\Below (z (M w)) w w':=by
 have x:=v.len;have d:=h.lt;have B:=MS h;have r:=MS v;have t:=MS y;have A:n<=64:=by omega
 have q:MT (lI l=(xF n).any fun i:Nat=>cC l (i:Int) (i:Int)):=by unfold MT;rw[Hy,y]
 go_enter func111,ntmps111;go_wp2;go_loopw[7] (fun i wr=>∃k:Nat,k<=n/\i=I U k/\MT ((xF k).any (fun i:Nat=>cC l (i:Int) (i:Int))=false)/\MT (wr.heap[z (M w)]?=O (Y #[MU g n n] 83 (0,0)))/\Below (z (M w)) w wr) fun i _=>n-(intOf i).toNat
 case atStart=>exact⟨0,xW _,Z,by unfold MT;simp,heap_alloc_new w _,(xR _ _).alloc (x7 _) _⟩
 case round =>
  obtain⟨k,J,rfl,s,HB,b⟩:=hrel;obtain⟨z0,K,F⟩:=cQ HB.o;by_cases hlt:k<n
  ·have D:(k:Int)<(n:Int):=by omega
   have u:=MS (B.aC (b.block g d));have HR:=MS (LC (fun i:Nat=>cC l (i:Int) (i:Int)) k);have f:=b.size
   cases hz:cC l (k:Int) (k:Int)
   ·have j:MT ((xF (k+1)).any (fun i:Nat=>cC l (i:Int) (i:Int))=false):=by unfold MT;rw[HR.o,s.o,hz];rfl
    go_wp2_with(first|(refine lP (.tmp 1) Z Z (z (M w)) _ Z HB.o ?_)|(go_at_call 103;refine(sF g n l _ _ _ u.o t.symm r.o).mono ?_;rintro e w1 ⟨rfl,c⟩;rw[hz]));go_roundw
    case rel=>exact⟨k+1,by omega,by go_num,j,(c.block _ F).trans HB.o,b.trans (c.mono f)⟩
    case measure=>simp[intOf];omega
   ·have m:MT (lI l=true):=by unfold MT;rw[q.o];exact JU _ (k+1) n hlt (by rw[HR.o,hz];simp)
    go_wp2_with(first|(refine lP (.tmp 1) Z Z (z (M w)) _ Z HB.o ?_)|(go_at_call 103;refine(sF g n l _ _ _ u.o t.symm r.o).mono ?_;rintro e w1 ⟨rfl,c⟩;rw[hz]));go_ret;rw[m.o];exact⟨Z,b.trans (c.mono f)⟩
  ·have m:MT (lI l=false):=by
    unfold MT;rw[q.o,show n=k by omega];exact s.o
   go_wp2;go_ret;rw[m.o];exact⟨Z,b⟩
structure Eo(w wr:World)(b5 gn n:Nat)(vr vo:Value)(l:List Nat):Prop where
 c2:wr.heap[z (M w)]?=O (Y #[vr] 83 (0,0))
 c3:wr.heap[z (M w)+1]?=O (Y #[vo] 83 (0,0))
 c4:wr.heap[z (M w)+2]?=O (Y #[N C 0 0] 83 (0,0))
 c5:wr.heap[b5]?=O (Y #[MU gn n n] 83 (0,0))
 st:OB wr gn l
 bl:Below (z (M w)) w wr
 gl:z (M w)+3<=gn
 gb:gn<b5
def Eo.next{wr:World}(h:Eo w wr b5 gn n vr vo l)(e:Below (z (M wr)) wr w')(k x:Nat):Eo w (w'.setCell ⟨gn,k,C⟩ (I .u64 (x:Nat))) b5 gn n vr vo (l.set k x):=by
 have i:=h.gl;have f:=h.gb;have d:∀{b:Nat} {o:Obj},wr.heap[b]?=O o->b≠gn->(w'.setCell ⟨gn,k,C⟩ (I .u64 (x:Nat))).heap[b]?=O o:=fun c g=>by
  rw[x9 _ _ _ _ g,e.block _ ((fun h=>(Array.getElem?_eq_some_iff.1 h).1) c)];exact c
 exact⟨d h.c2 (by omega),d h.c3 (by omega),d h.c4 (by omega),d h.c5 (by omega),(h.st.X e).set k x,(h.bl.trans (e.mono h.bl.size)).setCell (p:=⟨gn,k,C⟩) (by simp;omega) _,i,f⟩
def Eo.keep{wr:World}(h:Eo w wr b5 gn n vr vo l)(e:Below (z (M wr)) wr w'):Eo w w' b5 gn n vr vo l:=by
 have d:∀{b:Nat} {o:Obj},wr.heap[b]?=O o->w'.heap[b]?=O o:=fun c=>by rw[e.block _ ((fun h=>(Array.getElem?_eq_some_iff.1 h).1) c)];exact c
 exact⟨d h.c2,d h.c3,d h.c4,d h.c5,h.st.X e,h.bl.trans (e.mono h.bl.size),h.gl,h.gb⟩
def Eo.start(d:OB w1 gn l)(e:z (M w)+3<=gn)(c:Below (z (M w)+3) (((w.alloc (Y #[vr] 83)).alloc (Y #[vo] 83)).alloc (Y #[N C 0 0] 83)) w1):
  Eo w (w1.alloc (Y #[MU gn n n] 83)) (z (M w1)) gn n vr vo l:=by
 have g:=c.size;simp at g;have A:∀b,b<z (M w)+3->(w1.alloc (Y #[MU gn n n] 83)).heap[b]?=(((w.alloc (Y #[vr] 83)).alloc (Y #[vo] 83)).alloc (Y #[N C 0 0] 83)).heap[b]?:=fun b f=>by
  rw[x6 _ _ _ (by omega),c.block b f]
 refine⟨?_,?_,?_,heap_alloc_new w1 _,d.alloc _,?_,e,d.lt⟩
 ·rw[A _ (by omega),x6 _ _ _ (by simp;omega),x6 _ _ _ (by simp)];exact heap_alloc_new w _
 ·rw[A _ (by omega),x6 _ _ _ (by simp)];have:=heap_alloc_new (w.alloc (Y #[vr] 83)) (Y #[vo] 83);simpa using this
 ·rw[A _ (by omega)];have:=heap_alloc_new ((w.alloc (Y #[vr] 83)).alloc (Y #[vo] 83)) (Y #[N C 0 0] 83);simpa using this
 ·exact(((((xR (z (M w)) w).alloc (x7 _) _).alloc (by simp) _).alloc (by simp;omega) _).trans (c.mono (by omega))).alloc (by omega) _
def Eo.o{wr:World}(h:Eo w wr b5 gn n vr vo l)(c:H l=n)(b:NI l):qX w (wr.setCell ⟨z (M w)+2,0,C⟩ (MU gn n n)) n l (E (G #[MU gn n n]))/\(wr.setCell ⟨z (M w)+2,0,C⟩ (MU gn n n)).heap[z (M w)+2]?=O (Y #[MU gn n n] 83 (0,0)):=by
 have d:=h.gl;refine⟨⟨gn,Z,h.st.aC (x9 _ _ _ _ (by simp;omega)),by omega,c,b,h.bl.setCell (p:=⟨z (M w)+2,0,C⟩) (by simp) _⟩,?_⟩;rw[bX h.c4];rfl
def uW{rest:List Oper}{Q:Exit->Act->World->Prop}(x y:Operand)(b:op.guard=C)(d:op.op=.store 83 x y)(g:Nat)(v u:Value)(f:a.eval x=.pointer (O ⟨g,0,C⟩))(i:a.eval y=G #[u])(c:w.heap[g]?=O (Y #[v] 83 (0,0)))(e:u.oneCell'=true)(h:wpList prog ops Q rest (a.put op.dst undef) (w.setCell ⟨g,0,C⟩ u)):wpList prog ops Q (op::rest) a w:=by
 refine wpList_store_mid b _ x y d g 0 #[u] f i (TY c 1 (by simp)) (by kernel_rfl) (by simpa using e) ?_;simpa[World.setCells]using h
def UV(f d n:Nat)(r o:List Nat)(w:World)(hr:OB w f r)(ho:OB w d o)(hn:H r=n)(hm:H o=n)(hf:NI r)(hk:NI o):
  Calls prog 61 #[G #[MU f n n],G #[MU d n n]] w fun e w'=>qX w w' n (gV r o) e:=by
 have c:n<=64:=by have:=hf.len;omega
 have HR:=MS hr;have HO:=MS ho;have x:=MS hn;have HM:=MS hm;have J:=hr.lt;have F:=ho.lt;have m:=MS hf;have j:=MS hk;go_enter func61,ntmps61;go_wp2_with(first|(go_at_call 98;refine(lS n _ c).mono ?_;rintro e w1 ⟨gn,rfl,S,D,L,ac,s⟩;have T:=s.size;have HS:=MS (Eo.start (n:=n) S (by simpa using D) (by simpa using s));simp at T));have ab:=HS.gb;go_loopw[14] (fun i wr=>∃k:Nat,k<=n/\i=I U k/\MT (Eo w wr (z (M w1)) gn n (MU f n n) (MU d n n) (jC (fun i=>cO r (i:Int)|||cO o (i:Int)) n k (NU n)))) fun i _=>n-(intOf i).toNat
 case atStart=>exact⟨0,xW _,Z,by unfold MT;have q:=EV (fun i=>cO r (i:Int)|||cO o (i:Int)) (NU n);rw[L]at q;rw[q];exact HS.o⟩
 case round =>
  obtain⟨k,hk,rfl,b⟩:=hrel;obtain⟨V,y2,l2⟩:=cQ b.c2;obtain⟨x3,y3,l3⟩:=cQ b.c3;obtain⟨x4,y4,l4⟩:=cQ b.c4;obtain⟨x5,y5,l5⟩:=cQ b.c5;have ad:=b.gl;have v:=b.st.lt;by_cases hlt:k<n
  ·have ae:(k:Int)<(n:Int):=by omega
   have A:MT (∀W:World,Below (z (M wr)) wr W->OB W f r):=fun W B=>(HR.aC (b.bl.block f J)).X B
   have y:MT (∀W:World,Below (z (M wr)) wr W->OB W d o):=fun W B=>(HO.aC (b.bl.block d F)).X B
   have aa:=bits_or_u64_nat (cO r (k:Int)) (cO o (k:Int)) (kV m.o _) (kV j.o _);have HX:=MS (FH (fun i=>cO r (i:Int)|||cO o (i:Int)) n k (NU n) hlt);go_wp2;go_region_held3 (fun w'=>w'.cell? ⟨z (M w),0,C⟩=O (MU f n n)/\w'.cell? ⟨z (M w)+1,0,C⟩=O (MU d n n)/\w'.cell? ⟨z (M w1),0,C⟩=O (MU gn n n)) (first|exact⟨V,x3,x5⟩|exact⟨p2,p3,p5⟩|exact⟨s2,s3,s5⟩|exact⟨(cY (by omega)).trans s2,(cY (by omega)).trans s3,(cY (by omega)).trans s5⟩|exact⟨(cY (by omega)).trans p2,(cY (by omega)).trans p3,(cY (by omega)).trans p5⟩) (first
    |(go_at_call_of 104 (MU f n n);refine(tF f n r (k:Int) _ (A.o _ (by first|exact BO.o|exact(xR _ _).drew)) x.symm c).mono ?_;rintro e wa ⟨rfl,t⟩;have g:MT (Below (z (M wr)) wr wa):=(by first|exact BO.trans (t.mono BO.size)|exact((xR (z (M wr)) wr).drew).trans (t.mono (by simp)));have p2:=MZ g.o l2 V;have p3:=MZ g.o l3 x3;have p5:=MZ g.o l5 x5)
    |(go_at_call_of 104 (MU d n n);refine(tF d n o (k:Int) _ (y.o _ (by first|exact g.o|exact(xR _ _).drew)) HM.symm c).mono ?_;rintro e wb ⟨rfl,u⟩;have BO:MT (Below (z (M wr)) wr wb):=(by first|exact g.trans (u.mono g.size)|exact((xR (z (M wr)) wr).drew).trans (u.mono (by simp)));have s2:=MZ BO.o l2 V;have s3:=MZ BO.o l3 x3;have s5:=MZ BO.o l5 x5;have sg:=(BO.cell (p:=⟨gn,k,C⟩) v).trans (b.st.cell k (by rw[xU];exact hlt));have tg:=(BO.frozen (p:=⟨gn,k,C⟩) v).trans (b.st.free k)))
   all_goals
    go_wp2;go_roundw
    case rel=>exact⟨k+1,by omega,by go_num,by unfold MT;rw[<- HX.o];first|exact b.next BO.o k _|exact b.next g.o k _⟩
    case measure=>simp[intOf];omega
  ·have K:k=n:=by omega
   subst K;have HF:MT (Eo w wr (z (M w1)) gn k (MU f k k) (MU d k k) (gV r o)):=by
    have q:=b.o;rw[FK]at q;unfold MT gV;rw[x.o];exact q
   obtain⟨q1,q2⟩:=HF.o.o (by rw[EF,x.o]) (UE m.o j.o);have Q1:=MS q1;have Q2:=MS q2;go_wp2_with(first|(refine lP (.tmp 5) Z Z (z (M w1)) _ Z b.c5 ?_)|(refine uW (.tmp 4) (.tmp 29) Z Z (z (M w)+2) _ _ Z Z b.c4 Z ?_));refine nL (p:=4) (z (M w)+2) _ (by kernel_rfl) Z Q2.o Z Q1.o
def Hz(f d n:Nat)(r o:List Nat)(w:World)(hr:OB w f r)(ho:OB w d o)(hn:H r=n)(hm:H o=n)(hf:NI r)(hk:NI o):
  Calls prog 101 #[G #[MU f n n],G #[MU d n n]] w fun e w'=>qX w w' n (kU r o) e:=by
 have c:n<=64:=by have:=hf.len;omega
 have HR:=MS hr;have HO:=MS ho;have x:=MS hn;have HM:=MS hm;have J:=hr.lt;have F:=ho.lt;have m:=MS hf;have j:=MS hk;go_enter func101,ntmps101;go_wp2_with(first|(go_at_call 98;refine(lS n _ c).mono ?_;rintro e w1 ⟨gn,rfl,S,D,L,ac,s⟩;have T:=s.size;have HS:=MS (Eo.start (n:=n) S (by simpa using D) (by simpa using s));simp at T));have ab:=HS.gb;go_loopw[14] (fun i wr=>∃k:Nat,k<=n/\i=I U k/\MT (Eo w wr (z (M w1)) gn n (MU f n n) (MU d n n) (jC (fun i=>cO r (i:Int) &&& cO o (i:Int)) n k (NU n)))) fun i _=>n-(intOf i).toNat
 case atStart=>exact⟨0,xW _,Z,by unfold MT;have q:=EV (fun i=>cO r (i:Int) &&& cO o (i:Int)) (NU n);rw[L]at q;rw[q];exact HS.o⟩
 case round =>
  obtain⟨k,hk,rfl,b⟩:=hrel;obtain⟨V,y2,l2⟩:=cQ b.c2;obtain⟨x3,y3,l3⟩:=cQ b.c3;obtain⟨x4,y4,l4⟩:=cQ b.c4;obtain⟨x5,y5,l5⟩:=cQ b.c5;have ad:=b.gl;have v:=b.st.lt;by_cases hlt:k<n
  ·have ae:(k:Int)<(n:Int):=by omega
   have A:MT (∀W:World,Below (z (M wr)) wr W->OB W f r):=fun W B=>(HR.aC (b.bl.block f J)).X B
   have y:MT (∀W:World,Below (z (M wr)) wr W->OB W d o):=fun W B=>(HO.aC (b.bl.block d F)).X B
   have aa:=bits_and_u64_nat (cO r (k:Int)) (cO o (k:Int)) (kV m.o _) (kV j.o _);have HX:=MS (FH (fun i=>cO r (i:Int) &&& cO o (i:Int)) n k (NU n) hlt);go_wp2;go_region_held3 (fun w'=>w'.cell? ⟨z (M w),0,C⟩=O (MU f n n)/\w'.cell? ⟨z (M w)+1,0,C⟩=O (MU d n n)/\w'.cell? ⟨z (M w1),0,C⟩=O (MU gn n n)) (first|exact⟨V,x3,x5⟩|exact⟨p2,p3,p5⟩|exact⟨s2,s3,s5⟩|exact⟨(cY (by omega)).trans s2,(cY (by omega)).trans s3,(cY (by omega)).trans s5⟩|exact⟨(cY (by omega)).trans p2,(cY (by omega)).trans p3,(cY (by omega)).trans p5⟩) (first
    |(go_at_call_of 104 (MU f n n);refine(tF f n r (k:Int) _ (A.o _ (by first|exact BO.o|exact(xR _ _).drew)) x.symm c).mono ?_;rintro e wa ⟨rfl,t⟩;have g:MT (Below (z (M wr)) wr wa):=(by first|exact BO.trans (t.mono BO.size)|exact((xR (z (M wr)) wr).drew).trans (t.mono (by simp)));have p2:=MZ g.o l2 V;have p3:=MZ g.o l3 x3;have p5:=MZ g.o l5 x5)
    |(go_at_call_of 104 (MU d n n);refine(tF d n o (k:Int) _ (y.o _ (by first|exact g.o|exact(xR _ _).drew)) HM.symm c).mono ?_;rintro e wb ⟨rfl,u⟩;have BO:MT (Below (z (M wr)) wr wb):=(by first|exact g.trans (u.mono g.size)|exact((xR (z (M wr)) wr).drew).trans (u.mono (by simp)));have s2:=MZ BO.o l2 V;have s3:=MZ BO.o l3 x3;have s5:=MZ BO.o l5 x5;have sg:=(BO.cell (p:=⟨gn,k,C⟩) v).trans (b.st.cell k (by rw[xU];exact hlt));have tg:=(BO.frozen (p:=⟨gn,k,C⟩) v).trans (b.st.free k)))
   all_goals
    go_wp2;go_roundw
    case rel=>exact⟨k+1,by omega,by go_num,by unfold MT;rw[<- HX.o];first|exact b.next BO.o k _|exact b.next g.o k _⟩
    case measure=>simp[intOf];omega
  ·have K:k=n:=by omega
   subst K;have HF:MT (Eo w wr (z (M w1)) gn k (MU f k k) (MU d k k) (kU r o)):=by
    have q:=b.o;rw[FK]at q;unfold MT kU;rw[x.o];exact q
   obtain⟨q1,q2⟩:=HF.o.o (by rw[IW,x.o]) (G0 m.o j.o);have Q1:=MS q1;have Q2:=MS q2;go_wp2_with(first|(refine lP (.tmp 5) Z Z (z (M w1)) _ Z b.c5 ?_)|(refine uW (.tmp 4) (.tmp 29) Z Z (z (M w)+2) _ _ Z Z b.c4 Z ?_));refine nL (p:=4) (z (M w)+2) _ (by kernel_rfl) Z Q2.o Z Q1.o
namespace Q
def H6(b:Int):PD 0 b=false:=by simp[PD]
def H7(r o:List Nat)(a:Nat)(h:cO r (a:Int)=0):lT r o a=0:=by
 unfold lT;have:∀(l:List Nat),l.foldl (lM r o a) 0=0:=by
  intro l
  induction l with
  |nil=>rfl
  |cons b q ih =>
   have e:lM r o a 0 b=0:=by unfold lM cC;rw[h,H6];rfl
   simp only[List.foldl_cons,e];exact ih
 exact this _
def H8(f:Nat->Nat)(n k:Nat)(h:k<n):(jC f n k (NU n)).getD k 0=0:=by
 rw[rQ _ _ (by rw[xU];exact h)];simp only[jC,List.getElem_map,List.getElem_range,Nat.lt_irrefl,if_false];rw[rQ _ _ (by simpa[NU]using h)];simp[NU]
def H9(f:Nat->Nat)(n k:Nat)(h:k<n):(jC f n k (NU n)).set k 0=jC f n k (NU n):=by
 have b:=H8 f n k h;have c:k<(jC f n k (NU n)).length:=by rw[xU];exact h
 rw[rQ _ _ c]at b;rw[<- b];exact List.set_getElem_self c
def Ia(l:List Nat)(k x:Nat)(h:k<H l):cO (l.set k x) (k:Int)=x:=by
 rw[GM _ _ (by simpa using h)];simp
end Q
def Ib(d t n:Nat)(r o:List Nat)(w:World)(hr:OB w d r)(ho:OB w t o)(hn:H r=n)(hm:H o=n)(hf:NI r)(hk:NI o):
  Calls prog 102 #[G #[MU d n n],G #[MU t n n]] w fun e w'=>qX w w' n (dZ r o) e:=by
 have f:n<=64:=by have:=hf.len;omega
 have HR:=MS hr;have HO:=MS ho;have y:=MS hn;have HM:=MS hm;have T:=hr.lt;have ad:=ho.lt;have x:=MS hf;have v:=MS hk;clear hr ho hn hm hf hk;go_enter func102,ntmps102;go_wp2_with(first|(go_at_call 98;refine(lS n _ f).mono ?_;rintro e w1 ⟨gn,rfl,V,ac,ag,ak,B⟩;have ai:=B.size;have HS:=MS (Eo.start (n:=n) V (by simpa using ac) (by simpa using B));simp at ai;clear V B));go_loopw[15] (fun i wr=>∃k:Nat,k<=n/\i=I U k/\MT (Eo w wr (z (M w1)) gn n (MU d n n) (MU t n n) (jC (lT r o) n k (NU n)))) fun i _=>n-(intOf i).toNat
 case atStart=>exact⟨0,xW _,Z,by unfold MT;have s:=EV (lT r o) (NU n);rw[ag]at s;rw[s];exact HS.o⟩
 case round =>
  obtain⟨k,hk,rfl,m⟩:=hrel;obtain⟨x2,y2,l2⟩:=cQ m.c2;obtain⟨x3,y3,l3⟩:=cQ m.c3;obtain⟨x4,y4,l4⟩:=cQ m.c4;obtain⟨x5,y5,l5⟩:=cQ m.c5;by_cases hlt:k<n
  ·have al:(k:Int)<(n:Int):=by omega
   have L:MT (OB wr d r):=HR.aC (m.bl.block d T);have HX:=MS (FH (lT r o) n k (NU n) hlt);have HZ:=MS (H9 (lT r o) n k hlt)
   cases hz:(cO r (k:Int):Int)==0
   rotate_left
   ·have HT:MT (jC (lT r o) n (k+1) (NU n)=jC (lT r o) n k (NU n)):=by
     unfold MT;rw[<- HX.o,H7 r o k (by have:=hz;simp at this;exact_mod_cast this),HZ.o]
    go_wp2_with(first|(refine lP (.tmp 2) Z Z (z (M w)) _ Z m.c2 ?_)|(go_at_call 104;refine(tF d n r (k:Int) _ L.o y.symm f).mono ?_;rintro e wa ⟨rfl,D⟩));go_roundw
    case rel=>exact⟨k+1,by omega,by go_num,by unfold MT;rw[HT.o];exact m.keep D⟩
    case measure=>simp[intOf];omega
   ·go_wp2_with(first|(refine lP (.tmp 2) Z Z (z (M w)) _ Z m.c2 ?_)|(go_at_call 104;refine(tF d n r (k:Int) _ L.o y.symm f).mono ?_;rintro e wa ⟨rfl,D⟩;have g:=MS (m.keep D);obtain⟨x2,y2,l2⟩:=cQ g.c2;obtain⟨x3,y3,l3⟩:=cQ g.c3;obtain⟨x4,y4,l4⟩:=cQ g.c4;obtain⟨x5,y5,l5⟩:=cQ g.c5));go_loopw[25] (fun j wq=>∃q:Nat,q<=n/\j=I U q/\MT (Eo w wq (z (M w1)) gn n (MU d n n) (MU t n n) ((jC (lT r o) n k (NU n)).set k ((xF q).foldl (lM r o k) 0)))) fun j _=>n-(intOf j).toNat
    case atStart=>exact⟨0,xW _,Z,by unfold MT;simp only[List.range_zero,List.foldl_nil];rw[HZ.o];exact g.o⟩
    case round =>
     clear x2 y2 l2 x3 y3 l3 x4 y4 l4 x5 y5 l5 g;obtain⟨q,hq,rfl,c⟩:=hrel;obtain⟨x2,y2,l2⟩:=cQ c.c2;obtain⟨x3,y3,l3⟩:=cQ c.c3;obtain⟨x4,y4,l4⟩:=cQ c.c4;obtain⟨x5,y5,l5⟩:=cQ c.c5;have F:=c.st.lt;by_cases hql:q<n
     ·have am:(q:Int)<(n:Int):=by omega
      have u:MT (OB wr d r):=HR.aC (c.bl.block d T);have K:MT (∀W:World,Below (z (M wr)) wr W->OB W t o):=fun W hb=>(HO.aC (c.bl.block t ad)).X hb
      have J:=MS (jJ (lM r o k) 0 q);have S:(xF q).foldl (lM r o k) 0<OW:=UF v.o k _ _ (by decide);generalize hA:(xF q).foldl (lM r o k) 0=A at*
      cases hh:cC r (k:Int) (q:Int)
      ·have HB:MT ((xF (q+1)).foldl (lM r o k) 0=A):=by unfold MT;rw[J.o];unfold lM;rw[hh];rfl
       go_wp2_with(first|(refine lP (.tmp 2) Z Z (z (M w)) _ Z c.c2 ?_)|(go_at_call 103;refine(sF d n r _ _ _ u.o y.symm x.o).mono ?_;rintro e wb ⟨rfl,b⟩;rw[hh]));go_roundw
       case rel=>exact⟨q+1,by omega,by go_num,by unfold MT;rw[HB.o];exact c.keep b⟩
       case measure=>simp[intOf];omega
      ·have HB:MT ((xF (q+1)).foldl (lM r o k) 0=A|||cO o (q:Int)):=by unfold MT;rw[J.o];unfold lM;rw[hh];rfl
       have aj:=bits_or_u64_nat A (cO o (q:Int)) S (kV v.o _);have ae:k<((jC (lT r o) n k (NU n)).set k A).length:=by rw[xc,xU];exact hlt
       have cg:=c.st.iI k ae;rw[Ia _ _ _ (by rw[xU];exact hlt)]at cg;go_wp2_with(first|(refine lP (.tmp 2) Z Z (z (M w)) _ Z c.c2 ?_)|(go_at_call 103;refine(sF d n r _ _ _ u.o y.symm x.o).mono ?_;rintro e wb ⟨rfl,b⟩;rw[hh];have d3:=MZ b l3 x3;have d5:=MZ b l5 x5;have dg:=MZ b F cg));go_region_with(first
        |(go_at_call 104;refine(tF t n o (q:Int) _ (K.o _ b.drew) HM.symm f).mono ?_;rintro e wc ⟨rfl,ab⟩;have BC:MT (Below (z (M wr)) wr wc):=(b.drew).trans (ab.mono (by have:=b.size;simp;omega));have p5:=MZ BC.o l5 x5;have pg:=MZ BC.o F cg;have qg:=(BC.frozen (p:=⟨gn,k,C⟩) F).trans (c.st.free k)))
       all_goals
        go_wp2;go_roundw
        case rel=>exact⟨q+1,by omega,by go_num,by unfold MT;rw[HB.o];have s:=c.next BC.o k (A|||cO o (q:Int));rw[List.set_set]at s;exact s⟩
        case measure=>simp[intOf];omega
     ·have ah:q=n:=by omega
      have aa:MT (Eo w wr (z (M w1)) gn n (MU d n n) (MU t n n) (jC (lT r o) n (k+1) (NU n))):=by
       have s:=c.o;have h2:lT r o k=(xF n).foldl (lM r o k) 0:=by unfold lT;rw[y.o]
       rw[ah,<- h2]at s;unfold MT;rw[<- HX.o];exact s
      go_wp2;go_roundw
      case rel=>exact⟨k+1,by omega,by go_num,aa⟩
      case measure=>simp[intOf];omega
  ·have af:k=n:=by omega
   subst af;have HF:MT (Eo w wr (z (M w1)) gn k (MU d k k) (MU t k k) (dZ r o)):=by
    have s:=m.o;rw[FK]at s;unfold MT dZ;rw[y.o];exact s
   obtain⟨q1,q2⟩:=HF.o.o (by rw[KN,y.o]) (G6 x.o v.o);have Q1:=MS q1;have Q2:=MS q2;clear q1 q2;go_wp2_with(first|(refine lP (.tmp 5) Z Z (z (M w1)) _ Z m.c5 ?_)|(refine uW (.tmp 4) (.tmp 44) Z Z (z (M w)+2) _ _ Z Z m.c4 Z ?_));refine nL (p:=4) (z (M w)+2) _ (by kernel_rfl) Z Q2.o Z Q1.o
structure Ep(w wr:World)(b3 gn n:Nat)(vr:Value)(l:List Nat):Prop where
 c1:wr.heap[z (M w)]?=O (Y #[vr] 83 (0,0))
 c2:wr.heap[z (M w)+1]?=O (Y #[N C 0 0] 83 (0,0))
 c3:wr.heap[b3]?=O (Y #[MU gn n n] 83 (0,0))
 st:OB wr gn l
 bl:Below (z (M w)) w wr
 gl:z (M w)+2<=gn
 gb:gn<b3
def Ep.keep{wr:World}(h:Ep w wr b3 gn n vr l)(e:Below (z (M wr)) wr w'):Ep w w' b3 gn n vr l:=by
 have d:∀{b:Nat} {o:Obj},wr.heap[b]?=O o->w'.heap[b]?=O o:=fun c=>by rw[e.block _ ((fun h=>(Array.getElem?_eq_some_iff.1 h).1) c)];exact c
 exact⟨d h.c1,d h.c2,d h.c3,h.st.X e,h.bl.trans (e.mono h.bl.size),h.gl,h.gb⟩
def Ep.grown{wr:World}{g:List Nat}(h:Ep w wr b3 gn n vr l)(c:wr.grownBy w' (O gn))(hs:OB w' gn g):Ep w w' b3 gn n vr g:=by
 have j:=h.gl;have k:=h.gb;have e:∀{b:Nat} {o:Obj},wr.heap[b]?=O o->b≠gn->w'.heap[b]?=O o:=fun d f=>by rw[c.block _ ((fun h=>(Array.getElem?_eq_some_iff.1 h).1) d) (by simpa using f)];exact d
 refine⟨e h.c1 (by omega),e h.c2 (by omega),e h.c3 (by omega),hs,?_,h.gl,h.gb⟩;exact h.bl.trans ⟨c.os,c.tape,c.output,c.size,fun i m=>c.block i (by have:=h.bl.size;omega) (by simp;omega)⟩
def Ep.start(d:OB w1 gn l)(e:z (M w)+2<=gn)(c:Below (z (M w)+2) ((w.alloc (Y #[vr] 83)).alloc (Y #[N C 0 0] 83)) w1):
  Ep w (w1.alloc (Y #[MU gn n n] 83)) (z (M w1)) gn n vr l:=by
 have g:=c.size;simp at g;have A:∀b,b<z (M w)+2->(w1.alloc (Y #[MU gn n n] 83)).heap[b]?=((w.alloc (Y #[vr] 83)).alloc (Y #[N C 0 0] 83)).heap[b]?:=fun b f=>by
  rw[x6 _ _ _ (by omega),c.block b f]
 refine⟨?_,?_,heap_alloc_new w1 _,d.alloc _,?_,e,d.lt⟩
 ·rw[A _ (by omega),x6 _ _ _ (by simp)];exact heap_alloc_new w _
 ·rw[A _ (by omega)];have:=heap_alloc_new (w.alloc (Y #[vr] 83)) (Y #[N C 0 0] 83);simpa using this
 ·exact((((xR (z (M w)) w).alloc (x7 _) _).alloc (by simp) _).trans (c.mono (by omega))).alloc (by omega) _
def Ep.o{wr:World}(h:Ep w wr b3 gn n vr l)(c:H l=n)(b:NI l):qX w (wr.setCell ⟨z (M w)+1,0,C⟩ (MU gn n n)) n l (E (G #[MU gn n n]))/\(wr.setCell ⟨z (M w)+1,0,C⟩ (MU gn n n)).heap[z (M w)+1]?=O (Y #[MU gn n n] 83 (0,0)):=by
 have d:=h.gl;refine⟨⟨gn,Z,h.st.aC (x9 _ _ _ _ (by simp;omega)),by omega,c,b,h.bl.setCell (p:=⟨z (M w)+1,0,C⟩) (by simp) _⟩,?_⟩;rw[bX h.c2];rfl
def Ep.rel{wr:World}(h:Ep w wr b3 gn n vr l)(b:H l=n):yY wr b3 0 gn n l:=by
 obtain⟨z0,_,c⟩:=cQ h.c3;exact⟨z0,h.st,b,c,by have:=h.gb;omega⟩
def Ic(b n:Nat)(r:List Nat)(w:World)(hr:OB w b r)(hn:H r=n)(L:NI r):
  Calls prog 110 #[G #[MU b n n]] w fun e w'=>qX w w' n (oN r) e:=by
 have B:n<=64:=by have:=L.len;omega
 have HR:=MS hr;have D:=MS hn;have W:=hr.lt;have m:=MS L;have K:MT (oN r=(xF n).foldl (sH r) (NU n)):=by unfold MT oN;rw[hn]
 have y:=MS (Hb (r:=r) L.len);go_enter func110,ntmps110;go_wp2_with(first|(go_at_call 98;refine(lS n _ B).mono ?_;rintro e w1 ⟨gn,rfl,ad,V,aa,S,A⟩;have ae:=A.size;have HS:=MS (Ep.start (n:=n) ad (by simpa using V) (by simpa using A));simp at ae;obtain⟨x1,y1,l1⟩:=cQ HS.c1));go_loopw[13] (fun i wr=>∃k:Nat,∃t:List Nat,k<=n/\i=I U k/\MT (t=(xF k).foldl (sH r) (NU n))/\MT (NI t/\H t=n)/\MT (Ep w wr (z (M w1)) gn n (MU b n n) t)) fun i _=>n-(intOf i).toNat
 case atStart=>exact⟨0,_,xW _,Z,Z,⟨S,aa⟩,HS⟩
 case round =>
  obtain⟨k,t,hk,rfl,HT,HO,c⟩:=hrel;obtain⟨x1,y1,l1⟩:=cQ c.c1;obtain⟨x2,y2,l2⟩:=cQ c.c2;by_cases hlt:k<n
  ·have af:(k:Int)<(n:Int):=by omega
   go_wp2;go_loopw[19] (fun j wq=>∃q:Nat,∃u:List Nat,q<=n/\j=I U q/\MT (u=(xF q).foldl (qP r k) t)/\MT (NI u/\H u=n)/\MT (Ep w wq (z (M w1)) gn n (MU b n n) u)) fun j _=>n-(intOf j).toNat
   case atStart=>exact⟨0,t,xW _,Z,Z,HO,c⟩
   case round =>
    obtain⟨q,u,hq,rfl,HU,g,d⟩:=hrel;obtain⟨x1,y1,l1⟩:=cQ d.c1;by_cases hql:q<n
    ·have ag:(q:Int)<(n:Int):=by omega
     have x:MT (OB wr b r):=HR.aC (d.bl.block b W);have s:MT ((xF (q+1)).foldl (qP r k) t=qP r k u q):=by unfold MT;rw[jJ,HU.o]
     cases hh:cC r (k:Int) (q:Int)
     ·have HB:MT (u=(xF (q+1)).foldl (qP r k) t):=by unfold MT;rw[s.o];unfold qP;rw[hh];rfl
      go_wp2_with(first|(refine lP (.tmp 1) Z Z (z (M w)) _ Z d.c1 ?_)|(go_at_call 103;refine(sF b n r _ _ _ x.o D.symm m.o).mono ?_;rintro e wb ⟨rfl,f⟩;rw[hh]));go_roundw
      case rel=>exact⟨q+1,u,by omega,by go_num,HB,g,d.keep f⟩
      case measure=>simp[intOf];omega
     ·have HB:MT (dE u (q:Int) (k:Int)=(xF (q+1)).foldl (qP r k) t):=by unfold MT;rw[s.o];unfold qP;rw[hh];rfl
      go_wp2_with(first|(refine lP (.tmp 1) Z Z (z (M w)) _ Z d.c1 ?_)|(go_at_call 103;refine(sF b n r _ _ _ x.o D.symm m.o).mono ?_;rintro e wb ⟨rfl,f⟩;rw[hh];have v:=MS (d.keep f))|(go_at_call 99;refine(nU (z (M w1)) 0 gn n u (q:Int) (k:Int) _ (v.rel g.2) g.1).mono ?_;rintro e wc ⟨rfl,ac,T⟩;have F:=MS (v.grown T ac)));go_roundw
      case rel=>exact⟨q+1,_,by omega,by go_num,HB,⟨CU g.1 _ _,by rw[wA];exact g.2⟩,F⟩
      case measure=>simp[intOf];omega
    ·have ab:q=n:=by omega
     have J:MT (u=(xF (k+1)).foldl (sH r) (NU n)):=by
      unfold MT;rw[jJ,<- HT.o,HU.o,ab];unfold sH;rw[D.o]
     go_wp2;go_roundw
     case rel=>exact⟨k+1,u,by omega,by go_num,J,g,d⟩
     case measure=>simp[intOf];omega
  ·have X:k=n:=by omega
   have HE:MT (t=oN r):=by unfold MT;rw[K.o,HT.o,X]
   rw[HE.o]at c;obtain⟨q1,q2⟩:=c.o.o (by rw[y.2,D.o]) y.1;have Q1:=MS q1;have Q2:=MS q2;go_wp2_with(first|(refine lP (.tmp 3) Z Z (z (M w1)) _ Z c.c3 ?_)|(refine uW (.tmp 2) (.tmp 31) Z Z (z (M w)+1) _ _ Z Z c.c2 Z ?_));refine nL (p:=2) (z (M w)+1) _ (by kernel_rfl) Z Q2.o Z Q1.o
def UW(f n:Nat)(r:List Nat)(w:World)(hr:OB w f r)(hn:H r=n)(J:NI r):
  Calls prog 80 #[G #[MU f n n]] w fun e w'=>qX w w' n (lK r) e:=by
 have af:n<=64:=by have:=J.len;omega
 have HR:MT (OB ((w.alloc (Y #[MU f n n] 83)).alloc (Y #[N C 0 0] 83)) f r):=(hr.alloc _).alloc _;have B:=MS hn;have v:=MS J;have F:MT (lK r=(xF n).foldl (lZ n) (gV r r)):=by unfold MT lK;rw[hn]
 have y:=MS (G9 J);go_enter func80,ntmps80;go_wp2_with(first|(go_at_call 61;refine(UV f f n r r _ HR.o HR.o B.o B.o v.o v.o).mono ?_;rintro e w1 ⟨gn,rfl,ac,L,V,K,A⟩;have ad:=A.size;have HS:=MS (Ep.start (n:=n) ac (by simpa using L) (by simpa using A));simp at ad;obtain⟨x3,y3,l3⟩:=cQ HS.c3));go_loopw[12] (fun i wr=>∃k:Nat,∃t:List Nat,k<=n/\i=I U k/\MT (t=(xF k).foldl (lZ n) (gV r r))/\MT (NI t/\H t=n)/\MT (Ep w wr (z (M w1)) gn n (MU f n n) t)) fun i _=>n-(intOf i).toNat
 case atStart=>exact⟨0,_,xW _,Z,Z,⟨K,V⟩,HS⟩
 case round =>
  obtain⟨k,t,hk,rfl,HT,HO,g⟩:=hrel;obtain⟨x3,y3,l3⟩:=cQ g.c3;obtain⟨x2,y2,l2⟩:=cQ g.c2;by_cases hlt:k<n
  ·have ag:(k:Int)<(n:Int):=by omega
   go_wp2;go_loopw[18] (fun j wq=>∃q:Nat,∃u:List Nat,q<=n/\j=I U q/\MT (u=(xF q).foldl (kZ k) t)/\MT (NI u/\H u=n)/\MT (Ep w wq (z (M w1)) gn n (MU f n n) u)) fun j _=>n-(intOf j).toNat
   case atStart=>exact⟨0,t,xW _,Z,Z,HO,g⟩
   case round =>
    obtain⟨q,u,hq,rfl,HU,b,d⟩:=hrel;obtain⟨x3,y3,l3⟩:=cQ d.c3;by_cases hql:q<n
    ·have ah:(q:Int)<(n:Int):=by omega
     have x:MT ((xF (q+1)).foldl (kZ k) t=kZ k u q):=by unfold MT;rw[jJ,HU.o]
     have T:k<H u:=by rw[b.2];exact hlt
     have ab:q<H u:=by rw[b.2];exact hql
     cases hh:cC u (q:Int) (k:Int)
     ·have HB:MT (u=(xF (q+1)).foldl (kZ k) t):=by unfold MT;rw[x.o];unfold kZ;rw[hh];rfl
      go_wp2_with(first|(refine lP (.tmp 3) Z Z (z (M w1)) _ Z d.c3 ?_)|(go_at_call 103;refine(sF gn n u _ _ _ d.st b.2.symm b.1).mono ?_;rintro e wb ⟨rfl,c⟩;rw[hh]));go_roundw
      case rel=>exact⟨q+1,u,by omega,by go_num,HB,b,d.keep c⟩
      case measure=>simp[intOf];omega
     ·have HB:MT (u.set q (cO u (q:Int)|||cO u (k:Int))=(xF (q+1)).foldl (kZ k) t):=by unfold MT;rw[x.o];unfold kZ;rw[hh];rfl
      have ae:=bits_or_u64_nat (cO u (q:Int)) (cO u (k:Int)) (kV b.1 _) (kV b.1 _);have s:MT (∀W:World,Below (z (M wr)) wr W->Ep w (W.setCell ⟨gn,q,C⟩ (I .u64 ((cO u (q:Int)|||cO u (k:Int):Nat)))) (z (M w1)) gn n (MU f n n) (u.set q (cO u (q:Int)|||cO u (k:Int)))):=fun W hb =>
       (d.keep hb).grown (dG (fH _ _) _ _) ((d.st.X hb).set q _)
      go_wp2_with(first|(refine lP (.tmp 3) Z Z (z (M w1)) _ Z d.c3 ?_)|(go_at_call 103;refine(sF gn n u _ _ _ d.st b.2.symm b.1).mono ?_;rintro e wb ⟨rfl,c⟩;rw[hh];have m:=MS (d.keep c);have ai:=MZ c l3 x3;have cq:=m.st.iI q ab;have ck:=m.st.iI k T;have fq:=m.st.free q));go_region
      all_goals
       go_wp2;go_roundw
       case rel=>exact⟨q+1,_,by omega,by go_num,HB,⟨GY b.1 _ _ (rA (kV b.1 _) (kV b.1 _)),by rw[xc];exact b.2⟩,by first|exact s.o _ c.drew|exact s.o _ c⟩
       case measure=>simp[intOf];omega
    ·have aa:q=n:=by omega
     have D:MT (u=(xF (k+1)).foldl (lZ n) (gV r r)):=by
      unfold MT;rw[jJ,<- HT.o,HU.o,aa];rfl
     go_wp2;go_roundw
     case rel=>exact⟨k+1,u,by omega,by go_num,D,b,d⟩
     case measure=>simp[intOf];omega
  ·have S:k=n:=by omega
   have HE:MT (t=lK r):=by unfold MT;rw[F.o,HT.o,S]
   rw[HE.o]at g;obtain⟨q1,q2⟩:=g.o.o (by rw[y.2,B.o]) y.1;have Q1:=MS q1;have Q2:=MS q2;go_wp2_with(first|(refine lP (.tmp 3) Z Z (z (M w1)) _ Z g.c3 ?_)|(refine uW (.tmp 2) (.tmp 39) Z Z (z (M w)+1) _ _ Z Z g.c2 Z ?_));refine nL (p:=2) (z (M w)+1) _ (by kernel_rfl) Z Q2.o Z Q1.o
def Ie(c n:Nat)(r:List Nat)(w:World)(t:OB w c r)(s:H r=n)(m:NI r):
  Calls prog 100 #[G #[MU c n n]] w fun e w'=>e=E (.bool (vJ r))/\Below (z (M w)) w w':=by
 have HR:=MS (t.alloc (Y #[MU c n n] 83));have k:=MS s;have d:=MS m;go_enter func100,ntmps100;go_wp2_with(first|(go_at_call 80;refine(UW c n r _ HR.o k.o d.o).mono ?_;rintro e w1 ⟨gn,rfl,j,q,i,g,b⟩)|(go_at_call 111;refine(UU gn n _ _ j i g).mono ?_;rintro e u ⟨rfl,f⟩));go_ret;exact⟨Z,((xR (z (M w)) w).alloc (x7 _) _).trans ((b.mono (by simp)).trans (f.mono (by have:=b.size;simp at this;omega)))⟩
