import Derived.Deep.RegionHeld3
import Derived.Test.YtlikcongbhhpfaaGreatDoorM03
set_option linter.unusedVariables false
set_option linter.unusedSimpArgs false
set_option maxHeartbeats 12800000
namespace Go.Proofs.YtlikcongbhhpfaaGreatDoor
open Go Go.RowKit Go.Proofs.Tryz P Q
set_option maxRecDepth 1000000
variable {fn:Func}{p:Tmp}{a:Act}{w w':World}{ops:Array Oper}{op:Oper}{b5 gn n:Nat}{vo vr:Value}{l:List Nat}
open _root_.Array renaming size->N
open Go.World renaming heap->z
open List renaming length->M
open Go.Obj renaming cells->Y
open Option renaming none->C,some->O
open Go.Value renaming int->I,agg->E
open Go.Ending renaming returned->G
open Go.IntKind renaming i64->U
open List renaming range->xF,any_append->x8,any_eq_true->x9,ext_getElem->xa
open Go.RowKit.Below renaming refl->xR,heap_alloc->x1,heap_setCell->xb
open Nat renaming zero_le->xW,le_refl->x0
open Go.Exit renaming inBlock->x6
open _root_.Array renaming getElem?_eq_none->x7
theorem Iq(n:Nat):madeCells #[I .u64 0] n=pU (LH n):=by
 apply Array.ext_getElem?;intro i;by_cases h:i<n
 ·rw[TT _ _ (by simpa[LH]using h)];simp[madeCells,LH,h,Nat.mod_one]
 ·rw[x7 (by simpa[madeCells]using h),x7 (by simpa[pU,LH]using h)]
def nI(w w':World)(n:Nat)(l:List Nat)(e:Ending):Prop:=∃g,e=G (E #[JQ g n n])/\LJ w' g l/\N (z w)<=g/\M l=n/\KX l/\Below (N (z w)) w w'
theorem TX{d:TypeId}(h:fn.results=#[.cell p d])(b:Array Value)(c:Program)(w:World):
  (results fn b).run c w=((asAddr (b.getD p undef)).run c w).andThen fun a e=>(loadVar d a).run c e:=by
 simp only[results,h];simp[Sem.run_bind,Result.andThen]
theorem jL{R:Ending->World->Prop}(g:Nat)(v:Value)(b:fn.results=#[.cell p 76])(e:a.tmps.getD p undef=.pointer (O ⟨g,0,C⟩))(h:w.heap[g]?=O (Y #[v] 76 (0,0)))(d:a.defers=[])(c:R (G (E #[v])) w):bodyPost prog fn R .ret a w:=by
 refine bodyPost_ret (v:=E #[v]) ?_ d c;rw[TX b,e];have:(asAddr (.pointer (O ⟨g,0,C⟩))).run prog w=.ok ⟨g,0,C⟩ w:=Z;rw[this,Result.andThen_ok,rQ w g _ _ _ h _ underlying76 rfl (by kernel_rfl)]
theorem bF{g:Nat}{v:Value}{t:TypeId}(h:w.heap[g]?=O (Y #[v] t (0,0))):w.cell? ⟨g,0,C⟩=O v/\w.frozen? ⟨g,0,C⟩=false/\g<N (z w):=by
 refine⟨?_,?_,(Array.getElem?_eq_some_iff.1 h).1⟩<;>simp[World.cell?,World.frozen?,h]
theorem iS{rest:List Oper}{Q:Exit->Act->World->Prop}(x:Operand)(b:op.guard=C)(d:op.op=.load 76 x)(g:Nat)(v:Value)(e:a.eval x=.pointer (O ⟨g,0,C⟩))(c:w.heap[g]?=O (Y #[v] 76 (0,0)))(h:wpList prog ops Q rest (a.put op.dst (E #[v])) w):wpList prog ops Q (op::rest) a w :=
 AX b _ x d g e _ _ c _ underlying76 Z (by kernel_rfl) h
theorem jA(n:Nat)(w:World)(c:n<=64):
  Calls prog 109 #[I U (n:Int)] w fun e w'=>nI w w' n (LH n) e:=by
 have b:∀w,(Instr.makeSlice 74 (I U (n:Int)) (I U (n:Int))).run prog w=.ok (JQ (N (z w)) n n) (w.alloc (Y (madeCells #[I .u64 0] n) 164)):=fun w =>
  run_make_row' 74 164 (I .u64 0) 8 underlying74 Tryz.infoSet Z U U n (by omega) (by omega) w
 have d:¬(n:Int)<0:=by omega
 have f:¬(64:Int)<(n:Int):=by omega
 go_enter func109,ntmps109;go_wp2;refine jL (p:=2) (N (z w)) _ (by kernel_rfl) Z ?_ Z ⟨N (z w)+1,Z,?_,by omega,by simp[LH],TM n c,((xR _ _).alloc (x0 _) _).alloc (by simp) _⟩
 ·rw[x1 _ _ _ (by simp)];exact heap_alloc_new w _
 ·unfold LJ;rw[<- Iq];have:=heap_alloc_new (w.alloc (Y #[JQ (N (z w)+1) n n] 76)) (Y (madeCells #[I .u64 0] n) 164);simpa using this
def vH(w:World)(b o g n:Nat)(l:List Nat):Prop:=w.cell? ⟨b,o,C⟩=O (JQ g n n)/\LJ w g l/\M l=n/\b<N (z w)/\b≠g
theorem jM(b o g n:Nat)(l:List Nat)(x y:Int)(w:World)(h:vH w b o g n l)(u:KX l):
  Calls prog 110 #[.pointer (O ⟨b,o,C⟩),I U x,I U y] w fun e w'=>e=G (.tuple #[])/\LJ w' g (cL l x y)/\w.grownBy w' (O g):=by
 obtain⟨F,k,H,q,r⟩:=h;by_cases h0:x<0
 ·have d:JP (cL l x y=l):=by unfold JP cL;rw[if_pos (Or.inl h0)]
  have j:=JO k;go_enter func110,ntmps110;go_wp2
  (try simp only[x6,Exit.then]);refine bodyPost_ret (results_none Z _ _ _) Z ?_
  rw[d.o];exact⟨Z,j.o,eA _ _⟩
 have s:decide (x<0)=false:=by simpa using h0
 by_cases h1:(n:Int)<=x
 ·have d:JP (cL l x y=l):=by unfold JP cL;rw[if_pos (Or.inr (Or.inl (by omega)))]
  have j:=JO k;go_enter func110,ntmps110;go_wp2
  (try simp only[x6,Exit.then]);refine bodyPost_ret (results_none Z _ _ _) Z ?_
  rw[d.o];exact⟨Z,j.o,eA _ _⟩
 have t:decide ((n:Int)<=x)=false:=by simpa using h1
 by_cases h2:(n:Int)<=y
 ·have d:JP (cL l x y=l):=by unfold JP cL;rw[if_pos (Or.inr (Or.inr (by omega)))]
  have j:=JO k;go_enter func110,ntmps110;go_wp2
  (try simp only[x6,Exit.then]);refine bodyPost_ret (results_none Z _ _ _) Z ?_
  rw[d.o];exact⟨Z,j.o,eA _ _⟩
 obtain⟨i,rfl⟩:=Int.eq_ofNat_of_zero_le (by omega:0<=x);have A:i<M l:=by omega
 have B:(i:Int)<(n:Int):=by omega
 have c:=k.fR i A;have f:=k.free i;have D:=bits_or_u64_nat (cD l (i:Int)) (one y) (iN u _) (pN y);have d:JP (cL l (i:Int) y=l.set i (cD l (i:Int)|||one y)):=by unfold JP cL;rw[if_neg (by omega)];rfl
 have j:=JO (k.set i (cD l (i:Int)|||one y));generalize cD l (i:Int)=v at*;go_enter func110,ntmps110;go_wp2;go_region_with(go_at_call 159;refine(AG _ _).mono ?_;rintro e J ⟨rfl,m⟩;subst m)
 all_goals
  go_end0;rw[d.o];exact⟨Z,j.o,uQ (dB (eA _ _) _ _)⟩
namespace Q
theorem Ir{α:Type}(p:α->Bool)(l:List α)(k:Nat)(h:k<M l):(l.take (k+1)).any p=((l.take k).any p||p l[k]):=by
 rw[List.take_succ_eq_append_getElem h,x8];simp
theorem It(r:List Nat):aL r=(xF (M r)).any fun i:Nat=>bB r (i:Int) (i:Int):=rfl
theorem CM(p:Nat->Bool)(k:Nat):(xF (k+1)).any p=((xF k).any p||p k):=by
 rw[List.range_succ,x8];simp
theorem CI(p:Nat->Bool)(k n:Nat)(h:k<=n)(b:(xF k).any p=true):(xF n).any p=true:=by
 rw[x9]at b⊢;obtain⟨x,d,c⟩:=b;exact⟨x,by simp at d⊢;omega,c⟩
def gC(f:Nat->Nat)(n k:Nat)(t:List Nat):List Nat:=(xF n).map fun i=>if i<k then f i else t.getD i 0
theorem JG(f:Nat->Nat)(t:List Nat):gC f (M t) 0 t=t:=by
 unfold gC;apply xa
 ·simp
 ·intro i b c;simp at b;simp[List.getElem?_eq_getElem b]
theorem GV(f:Nat->Nat)(n:Nat)(t:List Nat):gC f n n t=(xF n).map f:=by
 unfold gC;apply List.map_congr_left;intro i b;simp at b;simp[b]
theorem tK(f:Nat->Nat)(n k:Nat)(t:List Nat):(gC f n k t).length=n:=by simp[gC]
theorem FO(f:Nat->Nat)(n k:Nat)(t:List Nat)(h:k<n):(gC f n k t).set k (f k)=gC f n (k+1) t:=by
 unfold gC;apply xa
 ·simp
 ·intro i c b;simp at b;rw[List.getElem_set];by_cases hk:k=i
  ·subst hk;simp
  ·by_cases hlt:i<k
   ·simp[hk,hlt,show i<k+1 by omega]
   ·simp[hk,hlt,show ¬i<k+1 by omega]
end Q
theorem Iu(g n:Nat)(l:List Nat)(w:World)(h:LJ w g l)(B:M l=n)(u:KX l):
  Calls prog 145 #[E #[JQ g n n]] w fun e w'=>e=G (.bool (cU l))/\Below (N (z w)) w w':=by
 have r:=u.len;have s:=JO h;have j:JP (l.any fun x=>x != 0=cU l):=Z;go_enter func145,ntmps145;go_wp2;go_loop [7] (fun i=>∃k:Nat,k<=n/\i=I U k/\JP ((l.take k).any fun x=>x != 0=false)) fun i=>n-(intOf i).toNat
 case atStart=>exact⟨0,xW _,Z,by unfold JP;simp⟩
 case round =>
  obtain⟨k,A,rfl,m⟩:=hrel;by_cases hlt:k<n
  ·have v:(k:Int)<(n:Int):=by omega
   have b:k<M l:=by omega
   have c:=(s.o.alloc (Y #[JQ g n n] 76)).cell k b;have t:=JO (Ir (fun x=>x != 0) l k b);generalize y:l[k]=x at*;have d:JP ((x != 0)=((x:Int) != 0)):=by unfold JP;cases x<;>rfl
   cases hz:(x:Int) != 0
   ·go_wp2;go_round
    case rel=>exact⟨k+1,by omega,by go_num,by unfold JP;rw[t.o,m.o,d.o,hz];rfl⟩
    case measure=>simp[intOf];omega
   ·have f:JP (cU l=true):=by
     unfold JP;rw[<- j.o,x9];exact⟨x,by rw[<- y];exact List.getElem_mem b,by rw[d.o,hz]⟩
    go_wp2;go_ret;rw[f.o];exact⟨Z,(xR _ _).alloc (x0 _) _⟩
  ·have f:JP (cU l=false):=by
    have q:=m.o;rw[List.take_of_length_le (by omega)]at q;unfold JP;rw[<- j.o];exact q
   go_wp2;go_ret;rw[f.o];exact⟨Z,(xR _ _).alloc (x0 _) _⟩
theorem TY(g n:Nat)(l:List Nat)(w:World)(h:LJ w g l)(A:M l=n)(x:KX l):
  Calls prog 119 #[E #[JQ g n n]] w fun e w'=>e=G (.bool (aL l))/\Below (N (z w)) w w':=by
 have y:=x.len;have d:=h.lt;have D:=JO h;have r:=JO x;have t:=JO A;have B:n<=64:=by omega
 have q:JP (aL l=(xF n).any fun i:Nat=>bB l (i:Int) (i:Int)):=by unfold JP;rw[It,A]
 go_enter func119,ntmps119;go_wp2;go_loopw[7] (fun i wr=>∃k:Nat,k<=n/\i=I U k/\JP ((xF k).any (fun i:Nat=>bB l (i:Int) (i:Int))=false)/\JP (wr.heap[N (z w)]?=O (Y #[JQ g n n] 76 (0,0)))/\Below (N (z w)) w wr) fun i _=>n-(intOf i).toNat
 case atStart=>exact⟨0,xW _,Z,by unfold JP;simp,heap_alloc_new w _,(xR _ _).alloc (x0 _) _⟩
 case round =>
  obtain⟨k,K,rfl,s,HB,b⟩:=hrel;obtain⟨L,S,J⟩:=bF HB.o;by_cases hlt:k<n
  ·have F:(k:Int)<(n:Int):=by omega
   have v:=JO (D.o.aA (b.block g d));have u:=JO (CM (fun i:Nat=>bB l (i:Int) (i:Int)) k);have f:=b.size
   cases hz:bB l (k:Int) (k:Int)
   ·have j:JP ((xF (k+1)).any (fun i:Nat=>bB l (i:Int) (i:Int))=false):=by unfold JP;rw[u.o,s.o,hz];rfl
    go_wp2_with(first|(refine iS (.tmp 1) Z Z (N (z w)) _ Z HB.o ?_)|(go_at_call 112;refine(oH g n l _ _ _ v.o t.o.symm r.o).mono ?_;rintro e H ⟨rfl,c⟩;rw[hz]));go_roundw
    case rel=>exact⟨k+1,by omega,by go_num,j,(c.block _ J).trans HB.o,b.trans (c.mono f)⟩
    case measure=>simp[intOf];omega
   ·have m:JP (aL l=true):=by unfold JP;rw[q.o];exact CI _ (k+1) n hlt (by rw[u.o,hz];simp)
    go_wp2_with(first|(refine iS (.tmp 1) Z Z (N (z w)) _ Z HB.o ?_)|(go_at_call 112;refine(oH g n l _ _ _ v.o t.o.symm r.o).mono ?_;rintro e H ⟨rfl,c⟩;rw[hz]));go_ret;rw[m.o];exact⟨Z,b.trans (c.mono f)⟩
  ·have m:JP (aL l=false):=by
    unfold JP;rw[q.o,show n=k by omega];exact s.o
   go_wp2;go_ret;rw[m.o];exact⟨Z,b⟩
structure Er(w wr:World)(b5 gn n:Nat)(vr vo:Value)(l:List Nat):Prop where
 c2:wr.heap[N (z w)]?=O (Y #[vr] 76 (0,0))
 c3:wr.heap[N (z w)+1]?=O (Y #[vo] 76 (0,0))
 c4:wr.heap[N (z w)+2]?=O (Y #[.slice C 0 0] 76 (0,0))
 c5:wr.heap[b5]?=O (Y #[JQ gn n n] 76 (0,0))
 st:LJ wr gn l
 bl:Below (N (z w)) w wr
 gl:N (z w)+3<=gn
 gb:gn<b5
theorem Er.next{wr:World}(h:Er w wr b5 gn n vr vo l)(e:Below (N (z wr)) wr w')(k x:Nat):Er w (w'.setCell ⟨gn,k,C⟩ (I .u64 (x:Nat))) b5 gn n vr vo (l.set k x):=by
 have i:=h.gl;have f:=h.gb;have d:∀{b:Nat} {o:Obj},wr.heap[b]?=O o->b≠gn->(w'.setCell ⟨gn,k,C⟩ (I .u64 (x:Nat))).heap[b]?=O o:=fun c g=>by
  rw[xb _ _ _ _ g,e.block _ ((fun h=>(Array.getElem?_eq_some_iff.1 h).1) c)];exact c
 exact⟨d h.c2 (by omega),d h.c3 (by omega),d h.c4 (by omega),d h.c5 (by omega),(h.st.X e).set k x,(h.bl.trans (e.mono h.bl.size)).setCell (p:=⟨gn,k,C⟩) (by simp;omega) _,i,f⟩
theorem Er.keep{wr:World}(h:Er w wr b5 gn n vr vo l)(e:Below (N (z wr)) wr w'):Er w w' b5 gn n vr vo l:=by
 have d:∀{b:Nat} {o:Obj},wr.heap[b]?=O o->w'.heap[b]?=O o:=fun c=>by rw[e.block _ ((fun h=>(Array.getElem?_eq_some_iff.1 h).1) c)];exact c
 exact⟨d h.c2,d h.c3,d h.c4,d h.c5,h.st.X e,h.bl.trans (e.mono h.bl.size),h.gl,h.gb⟩
theorem Er.start{d:World}(e:LJ d gn l)(f:N (z w)+3<=gn)(c:Below (N (z w)+3) (((w.alloc (Y #[vr] 76)).alloc (Y #[vo] 76)).alloc (Y #[.slice C 0 0] 76)) d):
  Er w (d.alloc (Y #[JQ gn n n] 76)) (N (z d)) gn n vr vo l:=by
 have i:=c.size;simp at i;have A:∀b,b<N (z w)+3->(d.alloc (Y #[JQ gn n n] 76)).heap[b]?=(((w.alloc (Y #[vr] 76)).alloc (Y #[vo] 76)).alloc (Y #[.slice C 0 0] 76)).heap[b]?:=fun b g=>by
  rw[x1 _ _ _ (by omega),c.block b g]
 refine⟨?_,?_,?_,heap_alloc_new d _,e.alloc _,?_,f,e.lt⟩
 ·rw[A _ (by omega),x1 _ _ _ (by simp;omega),x1 _ _ _ (by simp)];exact heap_alloc_new w _
 ·rw[A _ (by omega),x1 _ _ _ (by simp)];have:=heap_alloc_new (w.alloc (Y #[vr] 76)) (Y #[vo] 76);simpa using this
 ·rw[A _ (by omega)];have:=heap_alloc_new ((w.alloc (Y #[vr] 76)).alloc (Y #[vo] 76)) (Y #[.slice C 0 0] 76);simpa using this
 ·exact(((((xR (N (z w)) w).alloc (x0 _) _).alloc (by simp) _).alloc (by simp;omega) _).trans (c.mono (by omega))).alloc (by omega) _
theorem Er.o{wr:World}(h:Er w wr b5 gn n vr vo l)(c:M l=n)(b:KX l):nI w (wr.setCell ⟨N (z w)+2,0,C⟩ (JQ gn n n)) n l (G (E #[JQ gn n n]))/\(wr.setCell ⟨N (z w)+2,0,C⟩ (JQ gn n n)).heap[N (z w)+2]?=O (Y #[JQ gn n n] 76 (0,0)):=by
 have d:=h.gl;refine⟨⟨gn,Z,h.st.aA (xb _ _ _ _ (by simp;omega)),by omega,c,b,h.bl.setCell (p:=⟨N (z w)+2,0,C⟩) (by simp) _⟩,?_⟩;rw[bC h.c4];rfl
theorem pG{rest:List Oper}{Q:Exit->Act->World->Prop}(x y:Operand)(b:op.guard=C)(d:op.op=.store 76 x y)(g:Nat)(v u:Value)(f:a.eval x=.pointer (O ⟨g,0,C⟩))(i:a.eval y=E #[u])(c:w.heap[g]?=O (Y #[v] 76 (0,0)))(e:u.oneCell'=true)(h:wpList prog ops Q rest (a.put op.dst undef) (w.setCell ⟨g,0,C⟩ u)):wpList prog ops Q (op::rest) a w:=by
 refine wpList_store_mid b _ x y d g 0 #[u] f i (TG c 1 (by simp)) (by kernel_rfl) (by simpa using e) ?_;simpa[World.setCells]using h
theorem TZ(f go n:Nat)(r o:List Nat)(w:World)(hr:LJ w f r)(V:LJ w go o)(hn:M r=n)(hm:M o=n)(F:KX r)(L:KX o):
  Calls prog 67 #[E #[JQ f n n],E #[JQ go n n]] w fun e w'=>nI w w' n (cE r o) e:=by
 have c:n<=64:=by have:=F.len;omega
 have HR:=JO hr;have HO:=JO V;have y:=JO hn;have HM:=JO hm;have K:=hr.lt;have J:=V.lt;have m:=JO F;have j:=JO L;clear hr V hn hm F L;go_enter func67,ntmps67;go_wp2_with(first|(go_at_call 109;refine(jA n _ c).mono ?_;rintro e x ⟨gn,rfl,aa,H,T,ae,s⟩;have ab:=s.size;have HS:=JO (Er.start (n:=n) aa (by simpa using H) (by simpa using s));simp at ab));have ad:=HS.o.gb;go_loopw[14] (fun i wr=>∃k:Nat,k<=n/\i=I U k/\JP (Er w wr (N (z x)) gn n (JQ f n n) (JQ go n n) (gC (fun i=>cD r (i:Int)|||cD o (i:Int)) n k (LH n)))) fun i _=>n-(intOf i).toNat
 case atStart=>exact⟨0,xW _,Z,by unfold JP;have q:=JG (fun i=>cD r (i:Int)|||cD o (i:Int)) (LH n);rw[T]at q;rw[q];exact HS.o⟩
 case round =>
  obtain⟨k,L,rfl,b⟩:=hrel;obtain⟨x2,y2,l2⟩:=bF b.o.c2;obtain⟨x3,y3,l3⟩:=bF b.o.c3;obtain⟨x4,y4,l4⟩:=bF b.o.c4;obtain⟨x5,y5,l5⟩:=bF b.o.c5;have af:=b.o.gl;have v:=b.o.st.lt;by_cases hlt:k<n
  ·have ag:(k:Int)<(n:Int):=by omega
   have B:JP (∀W:World,Below (N (z wr)) wr W->LJ W f r):=fun W D=>(HR.o.aA (b.o.bl.block f K)).X D
   have A:JP (∀W:World,Below (N (z wr)) wr W->LJ W go o):=fun W D=>(HO.o.aA (b.o.bl.block go J)).X D
   have ac:=bits_or_u64_nat (cD r (k:Int)) (cD o (k:Int)) (iN m.o _) (iN j.o _);have HX:=JO (FO (fun i=>cD r (i:Int)|||cD o (i:Int)) n k (LH n) hlt);go_wp2;go_region_held3 (fun w'=>w'.cell? ⟨N (z w),0,C⟩=O (JQ f n n)/\w'.cell? ⟨N (z w)+1,0,C⟩=O (JQ go n n)/\w'.cell? ⟨N (z x),0,C⟩=O (JQ gn n n)) (first|exact⟨x2,x3,x5⟩|exact⟨p2,p3,p5⟩|exact⟨s2,s3,s5⟩|exact⟨(aV (by omega)).trans s2,(aV (by omega)).trans s3,(aV (by omega)).trans s5⟩|exact⟨(aV (by omega)).trans p2,(aV (by omega)).trans p3,(aV (by omega)).trans p5⟩) (first
    |(go_at_call_of 115 (JQ f n n);refine(pS f n r (k:Int) _ (B.o _ (by first|exact d.o|exact(xR _ _).drew)) y.o.symm c).mono ?_;rintro e wa ⟨rfl,t⟩;have g:JP (Below (N (z wr)) wr wa):=(by first|exact d.o.trans (t.mono d.o.size)|exact((xR (N (z wr)) wr).drew).trans (t.mono (by simp)));have p2:=JS g.o l2 x2;have p3:=JS g.o l3 x3;have p5:=JS g.o l5 x5)
    |(go_at_call_of 115 (JQ go n n);refine(pS go n o (k:Int) _ (A.o _ (by first|exact g.o|exact(xR _ _).drew)) HM.o.symm c).mono ?_;rintro e wb ⟨rfl,u⟩;have d:JP (Below (N (z wr)) wr wb):=(by first|exact g.o.trans (u.mono g.o.size)|exact((xR (N (z wr)) wr).drew).trans (u.mono (by simp)));have s2:=JS d.o l2 x2;have s3:=JS d.o l3 x3;have s5:=JS d.o l5 x5;have sg:=(d.o.cell (p:=⟨gn,k,C⟩) v).trans (b.o.st.cell k (by rw[tK];exact hlt));have tg:=(d.o.frozen (p:=⟨gn,k,C⟩) v).trans (b.o.st.free k)))
   all_goals
    go_wp2;go_roundw
    case rel=>exact⟨k+1,by omega,by go_num,by unfold JP;rw[<- HX.o];first|exact b.o.next d.o k _|exact b.o.next g.o k _⟩
    case measure=>simp[intOf];omega
  ·have S:k=n:=by omega
   subst S;have HF:JP (Er w wr (N (z x)) gn k (JQ f k k) (JQ go k k) (cE r o)):=by
    have q:=b.o;rw[GV]at q;unfold JP cE;rw[y.o];exact q
   obtain⟨q1,q2⟩:=HF.o.o (by rw[BK,y.o]) (TN m.o j.o);have Q1:=JO q1;have Q2:=JO q2;go_wp2_with(first|(refine iS (.tmp 5) Z Z (N (z x)) _ Z b.o.c5 ?_)|(refine pG (.tmp 4) (.tmp 29) Z Z (N (z w)+2) _ _ Z Z b.o.c4 Z ?_));refine jL (p:=4) (N (z w)+2) _ (by kernel_rfl) Z Q2.o Z Q1.o
theorem Iv(f go n:Nat)(r o:List Nat)(w:World)(hr:LJ w f r)(ho:LJ w go o)(hn:M r=n)(hm:M o=n)(hf:KX r)(hk:KX o):
  Calls prog 114 #[E #[JQ f n n],E #[JQ go n n]] w fun e w'=>nI w w' n (fY r o) e:=by
 have c:n<=64:=by have:=hf.len;omega
 have HR:=JO hr;have HO:=JO ho;have y:=JO hn;have HM:=JO hm;have J:=hr.lt;have H:=ho.lt;have m:=JO hf;have j:=JO hk;go_enter func114,ntmps114;go_wp2_with(first|(go_at_call 109;refine(jA n _ c).mono ?_;rintro e x ⟨gn,rfl,S,F,L,ac,s⟩;have T:=s.size;have HS:=JO (Er.start (n:=n) S (by simpa using F) (by simpa using s));simp at T));have ab:=HS.o.gb;go_loopw[14] (fun i wr=>∃k:Nat,k<=n/\i=I U k/\JP (Er w wr (N (z x)) gn n (JQ f n n) (JQ go n n) (gC (fun i=>cD r (i:Int) &&& cD o (i:Int)) n k (LH n)))) fun i _=>n-(intOf i).toNat
 case atStart=>exact⟨0,xW _,Z,by unfold JP;have q:=JG (fun i=>cD r (i:Int) &&& cD o (i:Int)) (LH n);rw[L]at q;rw[q];exact HS.o⟩
 case round =>
  obtain⟨k,hk,rfl,b⟩:=hrel;obtain⟨V,y2,l2⟩:=bF b.o.c2;obtain⟨x3,y3,l3⟩:=bF b.o.c3;obtain⟨x4,y4,l4⟩:=bF b.o.c4;obtain⟨x5,y5,l5⟩:=bF b.o.c5;have ad:=b.o.gl;have v:=b.o.st.lt;by_cases hlt:k<n
  ·have ae:(k:Int)<(n:Int):=by omega
   have B:JP (∀W:World,Below (N (z wr)) wr W->LJ W f r):=fun W D=>(HR.o.aA (b.o.bl.block f J)).X D
   have A:JP (∀W:World,Below (N (z wr)) wr W->LJ W go o):=fun W D=>(HO.o.aA (b.o.bl.block go H)).X D
   have aa:=bits_and_u64_nat (cD r (k:Int)) (cD o (k:Int)) (iN m.o _) (iN j.o _);have HX:=JO (FO (fun i=>cD r (i:Int) &&& cD o (i:Int)) n k (LH n) hlt);go_wp2;go_region_held3 (fun w'=>w'.cell? ⟨N (z w),0,C⟩=O (JQ f n n)/\w'.cell? ⟨N (z w)+1,0,C⟩=O (JQ go n n)/\w'.cell? ⟨N (z x),0,C⟩=O (JQ gn n n)) (first|exact⟨V,x3,x5⟩|exact⟨p2,p3,p5⟩|exact⟨s2,s3,s5⟩|exact⟨(aV (by omega)).trans s2,(aV (by omega)).trans s3,(aV (by omega)).trans s5⟩|exact⟨(aV (by omega)).trans p2,(aV (by omega)).trans p3,(aV (by omega)).trans p5⟩) (first
    |(go_at_call_of 115 (JQ f n n);refine(pS f n r (k:Int) _ (B.o _ (by first|exact d.o|exact(xR _ _).drew)) y.o.symm c).mono ?_;rintro e wa ⟨rfl,t⟩;have g:JP (Below (N (z wr)) wr wa):=(by first|exact d.o.trans (t.mono d.o.size)|exact((xR (N (z wr)) wr).drew).trans (t.mono (by simp)));have p2:=JS g.o l2 V;have p3:=JS g.o l3 x3;have p5:=JS g.o l5 x5)
    |(go_at_call_of 115 (JQ go n n);refine(pS go n o (k:Int) _ (A.o _ (by first|exact g.o|exact(xR _ _).drew)) HM.o.symm c).mono ?_;rintro e wb ⟨rfl,u⟩;have d:JP (Below (N (z wr)) wr wb):=(by first|exact g.o.trans (u.mono g.o.size)|exact((xR (N (z wr)) wr).drew).trans (u.mono (by simp)));have s2:=JS d.o l2 V;have s3:=JS d.o l3 x3;have s5:=JS d.o l5 x5;have sg:=(d.o.cell (p:=⟨gn,k,C⟩) v).trans (b.o.st.cell k (by rw[tK];exact hlt));have tg:=(d.o.frozen (p:=⟨gn,k,C⟩) v).trans (b.o.st.free k)))
   all_goals
    go_wp2;go_roundw
    case rel=>exact⟨k+1,by omega,by go_num,by unfold JP;rw[<- HX.o];first|exact b.o.next d.o k _|exact b.o.next g.o k _⟩
    case measure=>simp[intOf];omega
  ·have K:k=n:=by omega
   subst K;have HF:JP (Er w wr (N (z x)) gn k (JQ f k k) (JQ go k k) (fY r o)):=by
    have q:=b.o;rw[GV]at q;unfold JP fY;rw[y.o];exact q
   obtain⟨q1,q2⟩:=HF.o.o (by rw[JD,y.o]) (Hr m.o j.o);have Q1:=JO q1;have Q2:=JO q2;go_wp2_with(first|(refine iS (.tmp 5) Z Z (N (z x)) _ Z b.o.c5 ?_)|(refine pG (.tmp 4) (.tmp 29) Z Z (N (z w)+2) _ _ Z Z b.o.c4 Z ?_));refine jL (p:=4) (N (z w)+2) _ (by kernel_rfl) Z Q2.o Z Q1.o
namespace Q
theorem Iw(b:Int):OG 0 b=false:=by simp[OG]
theorem Ix(r o:List Nat)(a:Nat)(h:cD r (a:Int)=0):jN r o a=0:=by
 unfold jN;have:∀(l:List Nat),l.foldl (jG r o a) 0=0:=by
  intro l
  induction l with
  |nil=>rfl
  |cons b q ih =>
   have e:jG r o a 0 b=0:=by unfold jG bB;rw[h,Iw];rfl
   simp only[List.foldl_cons,e];exact ih
 exact this _
theorem Iy(f:Nat->Nat)(n k:Nat)(h:k<n):(gC f n k (LH n)).getD k 0=0:=by
 rw[mX _ _ (by rw[tK];exact h)];simp only[gC,List.getElem_map,List.getElem_range,Nat.lt_irrefl,if_false];rw[mX _ _ (by simpa[LH]using h)];simp[LH]
theorem Iz(f:Nat->Nat)(n k:Nat)(h:k<n):(gC f n k (LH n)).set k 0=gC f n k (LH n):=by
 have b:=Iy f n k h;have c:k<(gC f n k (LH n)).length:=by rw[tK];exact h
 rw[mX _ _ c]at b;rw[<- b];exact List.set_getElem_self c
theorem I0(l:List Nat)(k x:Nat)(h:k<M l):cD (l.set k x) (k:Int)=x:=by
 rw[FQ _ _ (by simpa using h)];simp
end Q
theorem I1(d go n:Nat)(r o:List Nat)(w:World)(hr:LJ w d r)(ho:LJ w go o)(hn:M r=n)(hm:M o=n)(hf:KX r)(hk:KX o):
  Calls prog 113 #[E #[JQ d n n],E #[JQ go n n]] w fun e w'=>nI w w' n (LR r o) e:=by
 have f:n<=64:=by have:=hf.len;omega
 have HR:=JO hr;have HO:=JO ho;have x:=JO hn;have HM:=JO hm;have L:=hr.lt;have ad:=ho.lt;have v:=JO hf;have u:=JO hk;clear hr ho hn hm hf hk;go_enter func113,ntmps113;go_wp2_with(first|(go_at_call 109;refine(jA n _ f).mono ?_;rintro e V ⟨gn,rfl,S,ac,ag,ak,y⟩;have ai:=y.size;have HS:=JO (Er.start (n:=n) S (by simpa using ac) (by simpa using y));simp at ai;clear S y));go_loopw[15] (fun i wr=>∃k:Nat,k<=n/\i=I U k/\JP (Er w wr (N (z V)) gn n (JQ d n n) (JQ go n n) (gC (jN r o) n k (LH n)))) fun i _=>n-(intOf i).toNat
 case atStart=>exact⟨0,xW _,Z,by unfold JP;have s:=JG (jN r o) (LH n);rw[ag]at s;rw[s];exact HS.o⟩
 case round =>
  obtain⟨k,hk,rfl,m⟩:=hrel;obtain⟨x2,y2,l2⟩:=bF m.o.c2;obtain⟨x3,y3,l3⟩:=bF m.o.c3;obtain⟨x4,y4,l4⟩:=bF m.o.c4;obtain⟨x5,y5,T⟩:=bF m.o.c5;by_cases hlt:k<n
  ·have al:(k:Int)<(n:Int):=by omega
   have J:JP (LJ wr d r):=HR.o.aA (m.o.bl.block d L);have HX:=JO (FO (jN r o) n k (LH n) hlt);have HZ:=JO (Iz (jN r o) n k hlt)
   cases hz:(cD r (k:Int):Int)==0
   rotate_left
   ·have HT:JP (gC (jN r o) n (k+1) (LH n)=gC (jN r o) n k (LH n)):=by
     unfold JP;rw[<- HX.o,Ix r o k (by have:=hz;simp at this;exact_mod_cast this),HZ.o]
    go_wp2_with(first|(refine iS (.tmp 2) Z Z (N (z w)) _ Z m.o.c2 ?_)|(go_at_call 115;refine(pS d n r (k:Int) _ J.o x.o.symm f).mono ?_;rintro e wa ⟨rfl,B⟩));go_roundw
    case rel=>exact⟨k+1,by omega,by go_num,by unfold JP;rw[HT.o];exact m.o.keep B⟩
    case measure=>simp[intOf];omega
   ·go_wp2_with(first|(refine iS (.tmp 2) Z Z (N (z w)) _ Z m.o.c2 ?_)|(go_at_call 115;refine(pS d n r (k:Int) _ J.o x.o.symm f).mono ?_;rintro e wa ⟨rfl,B⟩;have g:=JO (m.o.keep B);obtain⟨x2,y2,l2⟩:=bF g.o.c2;obtain⟨x3,y3,l3⟩:=bF g.o.c3;obtain⟨x4,y4,l4⟩:=bF g.o.c4;obtain⟨x5,y5,T⟩:=bF g.o.c5));go_loopw[25] (fun j wq=>∃q:Nat,q<=n/\j=I U q/\JP (Er w wq (N (z V)) gn n (JQ d n n) (JQ go n n) ((gC (jN r o) n k (LH n)).set k ((xF q).foldl (jG r o k) 0)))) fun j _=>n-(intOf j).toNat
    case atStart=>exact⟨0,xW _,Z,by unfold JP;simp only[List.range_zero,List.foldl_nil];rw[HZ.o];exact g.o⟩
    case round =>
     clear x2 y2 l2 x3 y3 l3 x4 y4 l4 x5 y5 T g;obtain⟨q,hq,rfl,c⟩:=hrel;obtain⟨x2,y2,l2⟩:=bF c.o.c2;obtain⟨x3,y3,l3⟩:=bF c.o.c3;obtain⟨x4,y4,l4⟩:=bF c.o.c4;obtain⟨x5,y5,T⟩:=bF c.o.c5;have D:=c.o.st.lt;by_cases hql:q<n
     ·have am:(q:Int)<(n:Int):=by omega
      have t:JP (LJ wr d r):=HR.o.aA (c.o.bl.block d L);have H:JP (∀W:World,Below (N (z wr)) wr W->LJ W go o):=fun W hb=>(HO.o.aA (c.o.bl.block go ad)).X hb
      have F:=JO (fP (jG r o k) 0 q);have K:(xF q).foldl (jG r o k) 0<MU:=TO u.o k _ _ (by decide);generalize hA:(xF q).foldl (jG r o k) 0=A at*
      cases hh:bB r (k:Int) (q:Int)
      ·have HB:JP ((xF (q+1)).foldl (jG r o k) 0=A):=by unfold JP;rw[F.o];unfold jG;rw[hh];rfl
       go_wp2_with(first|(refine iS (.tmp 2) Z Z (N (z w)) _ Z c.o.c2 ?_)|(go_at_call 112;refine(oH d n r _ _ _ t.o x.o.symm v.o).mono ?_;rintro e wb ⟨rfl,b⟩;rw[hh]));go_roundw
       case rel=>exact⟨q+1,by omega,by go_num,by unfold JP;rw[HB.o];exact c.o.keep b⟩
       case measure=>simp[intOf];omega
      ·have HB:JP ((xF (q+1)).foldl (jG r o k) 0=A|||cD o (q:Int)):=by unfold JP;rw[F.o];unfold jG;rw[hh];rfl
       have aj:=bits_or_u64_nat A (cD o (q:Int)) K (iN u.o _);have ae:k<((gC (jN r o) n k (LH n)).set k A).length:=by rw[List.length_set,tK];exact hlt
       have cg:=c.o.st.fR k ae;rw[I0 _ _ _ (by rw[tK];exact hlt)]at cg;go_wp2_with(first|(refine iS (.tmp 2) Z Z (N (z w)) _ Z c.o.c2 ?_)|(go_at_call 112;refine(oH d n r _ _ _ t.o x.o.symm v.o).mono ?_;rintro e wb ⟨rfl,b⟩;rw[hh];have d3:=JS b l3 x3;have d5:=JS b T x5;have dg:=JS b D cg));go_region_with(first
        |(go_at_call 115;refine(pS go n o (q:Int) _ (H.o _ b.drew) HM.o.symm f).mono ?_;rintro e wc ⟨rfl,ab⟩;have BC:JP (Below (N (z wr)) wr wc):=(b.drew).trans (ab.mono (by have:=b.size;simp;omega));have p5:=JS BC.o T x5;have pg:=JS BC.o D cg;have qg:=(BC.o.frozen (p:=⟨gn,k,C⟩) D).trans (c.o.st.free k)))
       all_goals
        go_wp2;go_roundw
        case rel=>exact⟨q+1,by omega,by go_num,by unfold JP;rw[HB.o];have s:=c.o.next BC.o k (A|||cD o (q:Int));rw[List.set_set]at s;exact s⟩
        case measure=>simp[intOf];omega
     ·have ah:q=n:=by omega
      have aa:JP (Er w wr (N (z V)) gn n (JQ d n n) (JQ go n n) (gC (jN r o) n (k+1) (LH n))):=by
       have s:=c.o;have h2:jN r o k=(xF n).foldl (jG r o k) 0:=by unfold jN;rw[x.o]
       rw[ah,<- h2]at s;unfold JP;rw[<- HX.o];exact s
      go_wp2;go_roundw
      case rel=>exact⟨k+1,by omega,by go_num,aa⟩
      case measure=>simp[intOf];omega
  ·have af:k=n:=by omega
   subst af;have HF:JP (Er w wr (N (z V)) gn k (JQ d k k) (JQ go k k) (LR r o)):=by
    have s:=m.o;rw[GV]at s;unfold JP LR;rw[x.o];exact s
   obtain⟨q1,q2⟩:=HF.o.o (by rw[CU,x.o]) (Hs v.o u.o);have Q1:=JO q1;have Q2:=JO q2;clear q1 q2;go_wp2_with(first|(refine iS (.tmp 5) Z Z (N (z V)) _ Z m.o.c5 ?_)|(refine pG (.tmp 4) (.tmp 44) Z Z (N (z w)+2) _ _ Z Z m.o.c4 Z ?_));refine jL (p:=4) (N (z w)+2) _ (by kernel_rfl) Z Q2.o Z Q1.o
end Go.Proofs.YtlikcongbhhpfaaGreatDoor
