import Derived.Test.YtehclbpoabdpoaaGreatDoorO29
set_option linter.all false
set_option maxHeartbeats 0
namespace Go.Proofs.YtehclbpoabdpoaaGreatDoor
open Go Go.RowKit Go.Proofs.Tryz P Q
open scoped Classical
set_option maxRecDepth 1000000
variable {W w w' w1 w2:World}{B g:Nat}{rs:List (List Int)}{ov ov' ov1:Value}{vs:List Value}{fp fp' fp1:List Nat}{P':Nat->Prop}{a:PA}
open _root_.Array renaming size->G
open Go.World renaming heap->E
open List renaming length->U
open Option renaming none->Y,some->C
open Go.Value renaming slice->O
open Go.Obj renaming cells->I
open Or renaming inl->xF,inr->xR
open Nat renaming le_refl->xW,lt_of_lt_of_le->xc
open Go.Value renaming ownBlock->xa
open Go.RowKit.Below renaming heap_setCell->xb
open Go.World renaming cell?_of_block->xd,frozen?_of_block->xh
open List renaming range->xe,foldl_cons->xg,mem_of_getElem?->xi
def OU.off(h:OU w B g rs ov vs fp)(d:w'.heap[g]?=w.heap[g]?)(n:∀k,ov.ownBlock=C k->w'.heap[k]?=w.heap[k]?)(j:∀k∈fp,w'.heap[k]?=w.heap[k]?)(hs:G (E w)<=G (E w')):OU w' B g rs ov vs fp:=by
 obtain⟨c,b⟩:=h.ty;refine⟨(xd (w:=w) (a:=⟨g,0,Y⟩) d).trans h.cell,xc h.lt hs,(xh (w:=w) (a:=⟨g,0,Y⟩) d).trans h.free,⟨bE h.y.own n,h.y.len,fun i l u f=>(h.y.y i l u f).own _ (fun k e=>j k (h.fps u (xi f) k e)) hs⟩,⟨c,?_⟩,h.fps,fun k m=>xc (h.fpl k m) hs,h.dis,h.hand.own fun u f k e=>j k (h.fps u f k e)⟩
 rcases b with b|b
 ·exact xF (d.trans b)
 ·exact xR (d.trans b)
def OU.fU(h:OU w B g rs ov vs fp)(k:Nat)(e:ov.ownBlock=C k):k<G (E w):=(h.y.own.lt k e).2
def OU.X(h:OU w B g rs ov vs fp)(b:Below (G (E w)) w w'):OU w' B g rs ov vs fp :=
 h.off (b.block g h.lt) (fun k e=>b.block k (h.fU k e)) (fun k c=>b.block k (h.fpl k c)) b.size
def OU.in_(h:OU w B g rs ov vs fp):OutIn w B g rs :=
 ⟨⟨ov,vs,h.cell,h.y⟩,h.lt,h.free,fun c t f e=>by
  obtain⟨d,b⟩:=h.ty
  rcases b with b|b<;>(rw[b]at e;simp at e;obtain⟨_,rfl,_⟩:=e;exact⟨by decide,by decide⟩)⟩
def PF.eN(b:Below (G (E w)) w w')(d:g<G (E w)):PF w w' g ov ov fp fp :=
 ⟨b.os,b.tape,b.output,b.size,fun k c _ _=>b.block k c,xF Z,fun k c=>xF c,b.cell d⟩
def Qf(B g:Nat)(f ov:Value)(rs:List (List Int))(vs:List Value)(fp:List Nat)(r:List Int)(w:World)(h:OU w B g rs ov vs fp)(m:PC w f r)(c:QB rs)(hs:∀x∈rs,Q.QN x/\U x<1000)(d:Q.QN r/\U r<1000)(l:U rs<100000000)(n:B<=G (E w))(i:∀k,f.ownBlock=C k->k≠g/\ov.ownBlock≠C k):
  Calls prog 82 #[.pointer (C ⟨g,0,Y⟩),f] w fun e w'=>e=.returned (.tuple #[])/\∃ov' vs' fp',OU w' B g (eY rs r) ov' vs' fp'/\PF w w' g ov ov' fp fp':=by
 have b:=AJ (r:=r) rs;by_cases h1:aM rs r<U rs
 ·rw[dif_pos h1]at b;have e1:rs.getD (aM rs r) []=rs[aM rs r]:=by simp[h1]
  by_cases h2:cmp rs[aM rs r] r=0
  ·rw[if_pos h2]at b;rw[b];refine(N7 B g f rs r w h.in_ m c hs d l h1 (by rw[e1];exact h2)).mono ?_;rintro e w' ⟨rfl,o⟩;exact⟨Z,ov,vs,fp,h.X o,PF.eN o h.lt⟩
  ·rw[if_neg h2]at b;rw[b];exact ZC B g f ov rs vs fp r w h m c hs d l n (fun _=>by rw[e1];exact h2) i
 ·rw[dif_neg h1]at b;have p:aM rs r=U rs:=by have:=YK rs r;omega
  have j:eY rs r=rs.take (aM rs r)++r::rs.drop (aM rs r):=by rw[b,p];simp
  rw[j];exact ZC B g f ov rs vs fp r w h m c hs d l n (fun h=>absurd h h1) i
namespace Q
def nX(es:List Ev)(k:Nat):Int:=if(ev es k).B==1 then(ev es k).z else -1
def Qg(b:List Ev):aN b=(xe (U b)).map (nX b):=by
 unfold aN;apply List.ext_getElem
 ·simp
 ·intro i c d;simp at c;simp[nX,ev,c]
end Q
def Qh(ev rg:Value)(b:List Ev)(w:World)(he:PH w ev b)(ai:∃a n c,rg=O a n c)(hn:U b<=64):
  Calls prog 68 #[.agg #[ev,rg]] w fun e w'=>ZE w w' (aN b) (OR b (aN b)) e:=by
 have ap:∀w,(Instr.makeSlice 37 (.int .i64 (U b:Int)) (.int .i64 (U b:Int))).run prog w=.ok (MU (G (E w)) (U b) (U b)) (w.alloc (I (madeCells #[.int .i64 0] (U b)) 3)):=
  fun w=>run_make_row' 37 3 (.int .i64 0) 8 underlying37 Tryz.OC Z .i64 .i64 (U b) (by omega) (by omega) w
 obtain⟨ea,ec,rfl,A⟩:=he.form;obtain⟨ra,rn,rc,rfl⟩:=ai;obtain⟨k0,k1,aj,ac⟩:=mZ w #[O ea (U b) ec,O ra rn rc] #[O Y 0 0,O Y 0 0,O Y 0 0,.bool false] 80 146;have s:=MS he;have l:=MS ac;have S:MT (aN b=(xe (U b)).map (nX b)):=Qg b;have i:MT ((aN b).length=U b):=by simp[MT,aN]
 go_enter func68,ntmps68;go_upto_region 1 with fail
 generalize hE:(w.alloc (I #[O ea (U b) ec,O ra rn rc] 80)).alloc (I #[O Y 0 0,O Y 0 0,O Y 0 0,.bool false] 146)=W0 at*;have T:=jP k0 0 _ Z;have V:=jP k0 1 _ Z;have l0:G (E w)<G (E W0):=by omega
 have l1:G (E w)+1<G (E W0):=by omega
 have K1:=MS k1;have M:MT (NM (W0.alloc (I (madeCells #[.int .i64 0] (U b)) 3)) (G (E W0)) (gW (nX b) (U b) 0)):=by
  unfold MT NM;rw[LK,<- xN];exact heap_alloc_new W0 _
 clear hE k0 k1 aj;go_wp2;go_loopw[13] (fun j wr=>∃(k:Nat),k<=U b/\j=.int .i64 k/\MT (NM wr (G (E W0)) (gW (nX b) (U b) k))/\MT (Below (G (E W0)) W0 wr)) fun j _=>U b-(intOf j).toNat
 case atStart=>exact⟨0,Nat.zero_le _,Z,M,(Below.refl _ _).alloc (xW _) _⟩
 case round =>
  obtain⟨k,hk,rfl,J,d⟩:=hrel;by_cases hlt:k<U b
  ·have ao:(k:Int)<(U b:Int):=by omega
   obtain⟨m,rfl,ab⟩:=A (by omega);have y:m<G (E W0):=by omega
   have v:MT (wr.rangeAt m (k*10) (aG (Q.ev b k)).toList):=jM (s.o.cN Z k (by omega)) ((d.o.block m y).trans (l.o.block m ab));have t:=MS (GT (nX b) (U b) k hlt);have u:MT (nX b k=if(Q.ev b k).B==1 then(Q.ev b k).z else -1):=Z;generalize Q.ev b k=e1 at*;have f:=MS (J.o.X ((Below.refl _ _).alloc (xW _) (I (aG e1) 180)));have r:MT (Below (G (E W0)) W0 (wr.alloc (I (aG e1) 180))):=d.o.alloc d.o.size _;have D:k<(gW (nX b) (U b) k).length:=by rw[CL];exact hlt
   have t0:=f.o.eC k D;have ff:=f.o.free k;have tl:=f.o.lt;have JX:=MS (f.o.set k (-1));have BX:MT (Below (G (E W0)) W0 ((wr.alloc (I (aG e1) 180)).setCell ⟨G (E W0),k,Y⟩ (.int .i64 (-1)))):=r.o.setCell (p:=⟨G (E W0),k,Y⟩) (xW _) _;have EA:MT (NK ((wr.alloc (I (aG e1) 180)).setCell ⟨G (E W0),k,Y⟩ (.int .i64 (-1))) (G (E wr)) e1):=by
    have h2:=J.o.lt;unfold MT NK at*;rw[xb _ _ _ _ (by simp;omega)];exact NK.new wr e1
   obtain⟨x0,x1,x2,x3,x4,x5,x6,x7,x8,x9,xf,xl⟩:=EA.o.F;simp only[aG]at t0 ff tl x0 x1 x2 x3 x4 x5 x6 x7 x8 x9 xf xl;generalize am:(gW (nX b) (U b) k).getD k 0=gm at*
   cases z1:e1.B==1
   ·have N:MT ((gW (nX b) (U b) k).set k (-1)=gW (nX b) (U b) (k+1)):=by unfold MT;rw[<- t.o,u.o,z1];rfl
    rw[N.o]at JX;go_wp2_with(first|(refine fY (.tmp 16) Z Z m (k*10) e1 Z v.o ?_));go_roundw
    case rel=>exact⟨k+1,by omega,by go_num,JX,BX⟩
    case measure=>simp[intOf];omega
   ·have N:MT (((gW (nX b) (U b) k).set k (-1)).set k (e1.z)=gW (nX b) (U b) (k+1)):=by unfold MT;rw[List.set_set,<- t.o,u.o,z1];rfl
    have JY:=MS (JX.o.set k (e1.z));have t5:=JX.o.eC k (by rw[List.length_set];exact D);simp only[aG]at t5;go_wp2_with(first|(refine fY (.tmp 16) Z Z m (k*10) e1 Z v.o ?_));go_roundw
    case rel=>exact⟨k+1,by omega,by go_num,by rw[<- N.o];exact JY,BX.o.setCell (p:=⟨G (E W0),k,Y⟩) (xW _) _⟩
    case measure=>simp[intOf];omega
  ·have ag:k=U b:=by omega
   have HF:MT (NM wr (G (E W0)) (aN b)):=by
    have x:=J.o;rw[ag,LZ,<- S.o]at x;exact x
   have L:MT (PH wr (O ea (U b) ec) b):=s.o.keep fun q hq=>(d.o.block q (by omega)).trans (l.o.block q hq)
   have d0:=MZ d.o l0 T;have d1:=MZ d.o l0 V;have ar:=xc l0 d.o.size;clear J A;go_wp2_with(first|(go_at_call 106;refine(Of _ _ _ b (aN b) _ L.o ⟨_,_,_,Z⟩ (by have x:=HF.o.qB (U b) (by rw[i.o];exact xW _);rw[i.o]at x;exact x) (by rw[i.o]) (by rw[i.o];exact hn)).mono ?_;rintro e w2 ⟨gr,gb,gd,rfl,af,ad,ae,an,ak,al,ah,H,aa⟩;have B2:MT (Below (G (E W0)) W0 w2):=NE d.o (xW _) aa;have K2:=MS ((B2.o.block _ l1).trans K1.o);obtain⟨t0,t1,t2,t3,tf,tl⟩:=yI K2.o;have IB:=MS ad;have ID:=MS ae;have IR:=MS af));obtain⟨s0,K,s2⟩:=DI (s0:=MU gr (aN b).length (aN b).length) (s1:=MU gb (OR b (aN b)).length (OR b (aN b)).length) (s2:=MU gd (OR b (aN b)).length (OR b (aN b)).length) (s3:=.bool false) K2.o;have aq:=d.o.size;refine qW (p:=2) (G (E w)+1) _ (by kernel_rfl) underlying146 Z (by kernel_rfl) Z (by exact s0) Z ⟨gr,gb,gd,Z,IR.o.aC (K _ (by omega)),IB.o.aC (K _ (by omega)),ID.o.aC (K _ (by omega)),by omega,by omega,by omega,ah,H,s2 _ _ (by omega) (NE l.o (xW _) B2.o)⟩
def FB{v:Value}{l:List Int}(h:PC w v l)(k:Nat)(e:v.ownBlock=C k):k<G (E w):=by
 rcases h with⟨e1,_⟩|⟨b,c,e1,_,d,_⟩
 ·rw[e1]at e;simp[xa]at e
 ·rw[e1]at e;simp[xa]at e;omega
structure XF(P:Nat->Prop)(w w':World):Prop where
 os:w'.os=w.os
 tape:w'.tape=w.tape
 output:w'.output=w.output
 size:G (E w)<=G (E w')
 block:∀k,k<G (E w)->¬P k->w'.heap[k]?=w.heap[k]?
def XF.refl(P:Nat->Prop)(w:World):XF P w w:=⟨Z,Z,Z,xW _,fun _ _ _=>Z⟩
def XF.eN{P:Nat->Prop}(b:Below (G (E w)) w w'):XF P w w':=⟨b.os,b.tape,b.output,b.size,fun k c _=>b.block k c⟩
def XF.trans{P:Nat->Prop}(h:XF P w w1)(b:XF P' w1 w2)(f:∀k,k<G (E w)->P' k->P k):XF P w w2 :=
 ⟨b.os.trans h.os,b.tape.trans h.tape,b.output.trans h.output,Nat.le_trans h.size b.size,fun k c d=>(b.block k (xc c h.size) fun e=>d (f k c e)).trans (h.block k c d)⟩
def XF.eX{c o gd:Nat}(b:En w w' c o gd):XF (fun k=>k=c\/k=gd) w w' :=
 ⟨b.os,b.tape,b.output,by rw[b.size];exact xW _,fun k _ d=>b.block k (fun e=>d (xF e)) fun e=>d (xR e)⟩
def XF.mC(w:World)(g o:Nat)(v:Value):XF (fun k=>k=g) w (w.setCell ⟨g,o,Y⟩ v):=
 ⟨Z,Z,Z,by simp,fun k _ b=>xb _ _ _ _ b⟩
def PF.xf(h:PF w w' g ov ov' fp fp'):XF (fun k=>k=g\/ov.ownBlock=C k) w w' :=
 ⟨h.os,h.tape,h.output,h.size,fun k c b=>h.block k c (fun e=>b (xF e)) fun e=>b (xR e)⟩
namespace Q
def Qi(l:List (List Int))(r:List Int):U l<=(eY l r).length:=by
 induction l with
 |nil=>simp
 |cons x q ih =>
  rw[eY]
  split
  ·simp;omega
  ·split<;>simp
structure AnsOk(a:PA):Prop where
 rise:QB a.y
 small:∀x∈a.y,QN x/\U x<1000
def AnsOk.eY(h:AnsOk a)(r:List Int)(d:QN r/\U r<1000)(b:Bool):AnsOk ⟨Q.eY a.y r,b⟩:=
 ⟨CQ h.rise,fun x c=>by
  rcases ED c with rfl|c
  ·exact d
  ·exact h.small x c⟩
def Ae(b:List Ev)(v:Int)(ps:List Int)(h:∀e∈b,0<=e.value/\e.value<4):0<=mB b v ps/\mB b v ps<4:=by
 unfold mB;have d:∀(l:List Nat) (a:Int×Int),0<=a.1/\a.1<4->0<=(l.foldl (oB v ps b) a).1/\(l.foldl (oB v ps b) a).1<4:=by
  intro l
  induction l with
  |nil=>intro a c;exact c
  |cons i l ih =>
   intro a c;rw[xg];apply ih;unfold oB
   split
   ·by_cases hi:i<U b
    ·rw[eJ b i hi];exact h _ (List.getElem_mem hi)
    ·simp[ev,hi,Ev.zero]
   ·exact c
 exact d _ _ (by simp)
def Af{c:Wd}(h:WdOk c)(ps:List Int):QN (RE c ps)/\(RE c ps).length<1000:=by
 refine⟨fun x b=>?_,by have:=h.g;simp[RE];omega⟩
 rcases List.mem_append.1 b with b|b
 ·exact h.vals x b
 ·simp at b
  rcases b with rfl|rfl|rfl<;>exact Ae _ _ _ h.evals
def Qj(c:List Ev)(rs:List Int)(f:U rs<=64):∀b∈OR c rs,b<1000000000:=by
 intro b d;simp only[OR,List.mem_map,List.mem_range]at d;obtain⟨i,e,rfl⟩:=d;unfold lX;have:=List.length_filter_le (jL c rs i) (xe i);simp at this;omega
def Qk(b:List Ev)(rs:List Int):(OR b rs).length=U rs:=by simp[OR]
def Ql(b:List Ev):(aN b).length=U b:=by simp[aN]
def JB(rs b:List Int):(eA rs b).length=U rs:=by
 unfold eA;have c:∀(i:Nat) (l:List Nat) (p:List Int),(l.foldl (nD rs i) p).length=U p:=by
  intro i l
  induction l with
  |nil=>intro p;rfl
  |cons k l ih=>intro p;rw[xg,ih,Nu]
 have d:∀(l:List Nat) (p:List Int),(l.foldl (jH rs b) p).length=U p:=by
  intro l
  induction l with
  |nil=>intro p;rfl
  |cons i l ih =>
   intro p;rw[xg,ih];unfold jH
   split
   ·simp
   ·rw[c];simp
 rw[d];simp
end Q
structure Eh(w:World)(g:Nat)(a:PA)(ov:Value)(vs:List Value)(fp:List Nat):Prop where
 o:OU w 0 g a.y ov vs fp
 clash:w.cell? ⟨g,1,Y⟩=C (.bool a.clash)
 ok:AnsOk a
def Eh.off(h:Eh w g a ov vs fp)(b:w'.heap[g]?=w.heap[g]?)(d:∀k,ov.ownBlock=C k->w'.heap[k]?=w.heap[k]?)(c:∀k∈fp,w'.heap[k]?=w.heap[k]?)(hs:G (E w)<=G (E w')):Eh w' g a ov vs fp :=
 ⟨h.o.off b d c hs,(xd (w:=w) (a:=⟨g,1,Y⟩) b).trans h.clash,h.ok⟩
def Eh.xf{P:Nat->Prop}(h:Eh w g a ov vs fp)(b:XF P w w')(f:¬P g)(i:∀k,ov.ownBlock=C k->¬P k)(d:∀k∈fp,¬P k):Eh w' g a ov vs fp :=
 h.off (b.block g h.o.lt f) (fun k e=>b.block k (h.o.fU k e) (i k e)) (fun k c=>b.block k (h.o.fpl k c) (d k c)) b.size
def Eh.X(h:Eh w g a ov vs fp)(b:Below (G (E w)) w w'):Eh w' g a ov vs fp:=h.xf (XF.eN (P:=fun _=>False) b) (fun e=>e) (fun _ _ e=>e) fun _ _ e=>e
def Eh.ne(h:Eh w g a ov vs fp){k:Nat}{c:Array Value}{t:TypeId}(i:w.heap[k]?=C (I c t (0,0)))(d:119≠t)(f:77≠t):g≠k:=fun e=>by
 obtain⟨j,b⟩:=h.o.ty;rw[e,i]at b
 rcases b with b|b
 ·simp at b;exact d b.2.symm
 ·simp at b;exact f b.2.symm
def Eh.zV(h:Eh w g a ov vs fp):w.frozen? ⟨g,1,Y⟩=false:=by
 obtain⟨c,b⟩:=h.o.ty
 rcases b with b|b<;>simp[World.frozen?,b]
def Eh.iP(h:Eh w g a ov vs fp):ov.ownBlock≠C g:=by
 obtain⟨d,b⟩:=h.o.ty
 rcases b with b|b
 ·exact gB h.o.y.own b (by decide)
 ·exact gB h.o.y.own b (by decide)
def Eh.iV(h:Eh w g a ov vs fp)(b:Bool):Eh (w.setCell ⟨g,1,Y⟩ (.bool b)) g ⟨a.y,b⟩ ov vs fp:=by
 have j:=h.iP;obtain⟨c,d⟩:=h.o.ty;refine⟨⟨(World.cell?_setCell_other _ _ _ _ (by simp)).trans h.o.cell,by simpa using h.o.lt,by rw[World.frozen?_setCell];exact h.o.free,⟨bE h.o.y.own fun k e=>xb _ _ _ _ fun e2=>j (by rw[e,e2]),h.o.y.len,fun i l u f=>(h.o.y.y i l u f).own _ (fun k e=>xb _ _ _ _ (h.o.dis k (h.o.fps u (xi f) k e)).1) (by simp)⟩,⟨c.setIfInBounds 1 (.bool b),?_⟩,h.o.fps,by simpa using h.o.fpl,h.o.dis,h.o.hand.own fun u f k e=>xb _ _ _ _ (h.o.dis k (h.o.fps u f k e)).1⟩,World.cell?_setCell_same _ _ _ h.clash,⟨h.ok.rise,h.ok.small⟩⟩
 rcases d with d|d
 ·exact xF (bX d 1 _)
 ·exact xR (bX d 1 _)
structure Ej(P:Nat->Prop)(w w':World)(ov ov':Value)(fp fp':List Nat):Prop where
 xf:XF P w w'
 own:ov'.ownBlock=ov.ownBlock\/∃b,ov'.ownBlock=C b/\G (E w)<=b
 fpn:∀k∈fp',k∈fp\/G (E w)<=k
def Ej.refl(P:Nat->Prop)(w:World)(ov:Value)(fp:List Nat):Ej P w w ov ov fp fp:=⟨XF.refl _ _,xF Z,fun _ h=>xF h⟩
def Ej.trans{P:Nat->Prop}{d:Value}{c:List Nat}(h:Ej P w w1 ov ov1 fp fp1)(f:Ej P' w1 w2 ov1 d fp1 c)(m:∀k,k<G (E w)->P' k->P k):Ej P w w2 ov d fp c :=
 ⟨h.xf.trans f.xf m,by
  have hs:=h.xf.size
  rcases f.own with e|⟨b,e,j⟩
  ·rcases h.own with e1|⟨b,e1,j⟩
   ·exact xF (e.trans e1)
   ·exact xR ⟨b,e.trans e1,j⟩
  ·exact xR ⟨b,e,by omega⟩,fun k l=>by
  have hs:=h.xf.size
  rcases f.fpn k l with i|i
  ·exact h.fpn k i
  ·exact xR (by omega)⟩
def Ej.x{P:Nat->Prop}(h:Ej P w w1 ov ov1 fp fp1)(b:XF P' w1 w2)(c:∀k,k<G (E w)->P' k->P k):Ej P w w2 ov ov1 fp fp1 :=
 h.trans ⟨b,xF Z,fun _ h=>xF h⟩ c
def Ej.X{P:Nat->Prop}(h:Ej P w w1 ov ov1 fp fp1)(b:Below (G (E w1)) w1 w2):Ej P w w2 ov ov1 fp fp1 :=
 h.x (XF.eN (P:=fun _=>False) b) fun _ _ e=>e.elim
def PF.af(h:PF w w' g ov ov' fp fp'):Ej (fun k=>k=g\/ov.ownBlock=C k) w w' ov ov' fp fp':=⟨h.xf,h.own,h.fpn⟩
def Wr(g:Nat)(ov:Value)(k:Nat):Prop:=k=g\/ov.ownBlock=C k
structure OrdBase(w W1:World)(g go gr gb gd:Nat)(ov0:Value)(fp0:List Nat):Prop where
 lg:g<G (E w)
 lo:∀k,ov0.ownBlock=C k->k<G (E w)
 lf:∀k∈fp0,k<G (E w)
 go1:G (E w)<=go/\go<G (E W1)
 gr1:G (E w)<=gr/\gr<G (E W1)
 gb1:G (E w)<=gb/\gb<G (E W1)
 gd1:G (E w)<=gd/\gd<G (E W1)
def OrdP(g go gd:Nat)(ov0:Value)(k:Nat):Prop:=k=g\/k=go\/k=gd\/ov0.ownBlock=C k
structure Er(w W1 wr:World)(g go gr gb gd:Nat)(ov0:Value)(fp0:List Nat)(rs bs ds:List Int)(rest:List (List Int))(a:PA)(ov:Value)(vs:List Value)(fp:List Nat):Prop where
 base:OrdBase w W1 g go gr gb gd ov0 fp0
 fr:Ej (OrdP g go gd ov0) W1 wr ov0 ov fp0 fp
 ord:PJ wr go gr gb gd rs bs ds rest
 ans:Eh wr g a ov vs fp
section
variable {w W1 wr:World}{g go gr gb gd:Nat}{ov0:Value}{fp0:List Nat}{rs bs ds:List Int}{rest:List (List Int)}{a:Q.PA}{ov:Value}{vs:List Value}{fp:List Nat}
def Er.X(h:Er w W1 wr g go gr gb gd ov0 fp0 rs bs ds rest a ov vs fp)(b:Below (G (E wr)) wr w2):Er w W1 w2 g go gr gb gd ov0 fp0 rs bs ds rest a ov vs fp :=
 ⟨h.base,h.fr.X b,h.ord.X b,h.ans.X b⟩
def Er.pZ(h:Er w W1 wr g go gr gb gd ov0 fp0 rs bs ds rest a ov vs fp)(k:Nat)(c:G (E w)<=k)(d:k<G (E W1)):ov.ownBlock≠C k:=fun e=>by
 rcases h.fr.own with e1|⟨b,e1,f⟩
 ·have:=h.base.lo k (e1.symm.trans e);omega
 ·rw[e1]at e;simp at e;omega
def Er.BQ(h:Er w W1 wr g go gr gb gd ov0 fp0 rs bs ds rest a ov vs fp)(k:Nat)(b:G (E w)<=k)(c:k<G (E W1)):k∉fp:=fun e=>by
 rcases h.fr.fpn k e with e1|e1
 ·have:=h.base.lf k e1;omega
 ·omega
def Er.LR(h:Er w W1 wr g go gr gb gd ov0 fp0 rs bs ds rest a ov vs fp){d:List Int}{c:List (List Int)}(f:En wr w2 go 1 gd)(j:PJ w2 go gr gb gd rs bs d c):Er w W1 w2 g go gr gb gd ov0 fp0 rs bs d c a ov vs fp:=by
 have b:=h.base;refine⟨b,h.fr.x (XF.eX f) fun k _ e=>?_,j,h.ans.xf (XF.eX f) (fun e=>?_) (fun k e e2=>?_) fun k i e=>?_⟩
 ·rcases e with e|e
  ·exact xR (xF e)
  ·exact xR (xR (xF e))
 ·have:=b.lg;have:=b.go1.1;have:=b.gd1.1
  rcases e with e|e<;>omega
 ·rcases e2 with e2|e2<;>subst e2
  ·exact h.pZ _ b.go1.1 b.go1.2 e
  ·exact h.pZ _ b.gd1.1 b.gd1.2 e
 ·rcases e with e|e<;>subst e
  ·exact h.BQ _ b.go1.1 b.go1.2 i
  ·exact h.BQ _ b.gd1.1 b.gd1.2 i
def Er.yA(h:Er w W1 wr g go gr gb gd ov0 fp0 rs bs ds rest a ov vs fp)(d:En wr w2 go 1 gd)(f:Below (G (E w)) w W1):Eh w2 g a ov vs fp/\Ej (Wr g ov0) w w2 ov0 ov fp0 fp:=by
 have b:=h.base;refine⟨h.ans.xf (XF.eX d) (fun e=>?_) (fun k e e2=>?_) fun k c e=>?_,(Ej.mk (XF.eN (P:=Wr g ov0) f) (xF Z) fun _ h=>xF h:Ej (Wr g ov0) w W1 ov0 ov0 fp0 fp0).trans (h.fr.x (XF.eX d) fun k _ e=>?_) fun k c e=>?_⟩
 ·have:=b.lg;have:=b.go1.1;have:=b.gd1.1
  rcases e with e|e<;>omega
 ·rcases e2 with e2|e2<;>subst e2
  ·exact h.pZ _ b.go1.1 b.go1.2 e
  ·exact h.pZ _ b.gd1.1 b.gd1.2 e
 ·rcases e with e|e<;>subst e
  ·exact h.BQ _ b.go1.1 b.go1.2 c
  ·exact h.BQ _ b.gd1.1 b.gd1.2 c
 ·rcases e with e|e
  ·exact xR (xF e)
  ·exact xR (xR (xF e))
 ·have:=b.go1.1;have:=b.gd1.1
  rcases e with e|e|e|e
  ·exact xF e
  ·omega
  ·omega
  ·exact xR e
def PJ.off(h:PJ wr go gr gb gd rs bs ds rest)(c:w'.heap[go]?=wr.heap[go]?)(e:w'.heap[gr]?=wr.heap[gr]?)(f:w'.heap[gb]?=wr.heap[gb]?)(i:w'.heap[gd]?=wr.heap[gd]?)(hs:G (E wr)<=G (E w')):PJ w' go gr gb gd rs bs ds rest:=by
 obtain⟨b,d,k⟩:=h.OS;exact⟨(xd (w:=wr) (a:=⟨go,0,Y⟩) c).trans h.r0,h.y.aC e,⟨b,d.of (fun j=>xd (w:=wr) (a:=⟨go,j,Y⟩) c) (fun j=>xh (w:=wr) (a:=⟨go,j,Y⟩) c) (xc d.lt hs) f i,k⟩,h.len,h.ne,h.neg⟩
def Er.AP(h:Er w W1 wr g go gr gb gd ov0 fp0 rs bs ds rest a ov vs fp)(c:XF (Wr g ov) wr w2):PJ w2 go gr gb gd rs bs ds rest:=by
 have b:=h.base;have hs:=h.fr.xf.size;have K:∀k,G (E w)<=k->k<G (E W1)->w2.heap[k]?=wr.heap[k]?:=fun k d f=>c.block k (by omega) fun e=>by
  rcases e with e|e
  ·have:=b.lg;omega
  ·exact h.pZ k d f e
 exact h.ord.off (K _ b.go1.1 b.go1.2) (K _ b.gr1.1 b.gr1.2) (K _ b.gb1.1 b.gb1.2) (K _ b.gd1.1 b.gd1.2) c.size
def Er.add(h:Er w W1 wr g go gr gb gd ov0 fp0 rs bs ds rest a ov vs fp){r:List Int}{c:List Value}(i:Q.QN r/\U r<1000)(f:OU w2 0 g (eY a.y r) ov' c fp')(d:PF wr w2 g ov ov' fp fp'):Er w W1 w2 g go gr gb gd ov0 fp0 rs bs ds rest ⟨eY a.y r,a.clash⟩ ov' c fp' :=
 ⟨h.base,h.fr.trans d.af fun k l e=>by
  rcases e with e|e
  ·exact xF e
  ·rcases h.fr.own with e1|⟨b,e1,j⟩
   ·exact xR (xR (xR (e1.symm.trans e)))
   ·rw[e1]at e;simp at e;omega,h.AP d.xf,⟨f,d.c1.trans h.ans.clash,h.ans.ok.eY r i _⟩⟩
def Er.iV(h:Er w W1 wr g go gr gb gd ov0 fp0 rs bs ds rest a ov vs fp)(b:Bool):Er w W1 (wr.setCell ⟨g,1,Y⟩ (.bool b)) g go gr gb gd ov0 fp0 rs bs ds rest ⟨a.y,b⟩ ov vs fp :=
 ⟨h.base,h.fr.x (XF.mC _ _ _ _) fun k _ e=>xF e,h.AP ⟨Z,Z,Z,by simp,fun k _ c=>xb _ _ _ _ fun e=>c (xF e)⟩,h.ans.iV b⟩
def Er.box(h:Er w W1 wr g go gr gb gd ov0 fp0 rs bs ds rest a ov vs fp)(k:Nat)(f:G (E w)<=k)(b:k<G (E W1))(c:k≠go)(d:k≠gd):wr.heap[k]?=W1.heap[k]? :=
 h.fr.xf.block k b fun e=>by
  rcases e with e|e|e|e
  ·have:=h.base.lg;omega
  ·exact c e
  ·exact d e
  ·have:=h.base.lo k e;omega
def Er.GJ(h:Er w W1 wr g go gr gb gd ov0 fp0 rs bs ds rest a ov vs fp)(d:G (E w)<=G (E W1))(k:Nat)(c:k<G (E w))(b:¬Wr g ov0 k):wr.heap[k]?=W1.heap[k]? :=
 h.fr.xf.block k (by omega) fun e=>by
  have:=h.base.go1.1;have:=h.base.gd1.1
  rcases e with e|e|e|e
  ·exact b (xF e)
  ·omega
  ·omega
  ·exact b (xR e)
def Er.done(h:Er w W1 wr g go gr gb gd ov0 fp0 rs bs ds rest a ov vs fp)(c:Below (G (E w)) w W1):Ej (Wr g ov0) w wr ov0 ov fp0 fp :=
 ⟨⟨h.fr.xf.os.trans c.os,h.fr.xf.tape.trans c.tape,h.fr.xf.output.trans c.output,Nat.le_trans c.size h.fr.xf.size,fun k d f=>(h.GJ c.size k d f).trans (c.block k d)⟩,by
  have:=c.size
  rcases h.fr.own with e|⟨b,e,i⟩
  ·exact xF e
  ·exact xR ⟨b,e,by omega⟩,fun k d=>by
  have:=c.size
  rcases h.fr.fpn k d with e|e
  ·exact xF e
  ·exact xR (by omega)⟩
end
def Ed.wr{m:FA}{f:Eu}(h:Ed w m f)(n:Eh w g a ov vs fp)(p:∀k,k<G (E w)->¬Wr g ov k->W.heap[k]?=w.heap[k]?):Ed W m f:=by
 obtain⟨c,d⟩:=n.o.ty;have hs:∀i l,OB w i l->¬Wr g ov i:=fun i l j e=>by
  rcases e with e|e
  ·rcases d with d|d<;>exact vR j d (by decide) e
  ·unfold OB at j;exact gB n.o.y.own j (by decide) e
 have s:∀k,m.ev.ownBlock=C k->¬Wr g ov k:=fun k e e2=>by
  rcases e2 with e2|e2
  ·subst e2
   rcases d with d|d<;>exact gB h.ev d (by decide) e
  ·rcases n.o.y.own.2 with⟨e3,_⟩|⟨b,t,q,e3,_,r,_⟩
   ·rw[e3]at e2;simp[xa]at e2
   ·rw[e3]at e2;simp[xa]at e2;subst e2;exact gB h.ev r (by decide) e
 exact h.off (fun i l j=>p i j.lt (hs i l j)) (bE h.ev fun k e=>p k (h.ev.lt k e).2 (s k e))
def Eb.wr{d n:Nat}{l:List Nat}(h:Eb w d n l)(i:Eh w g a ov vs fp)(j:∀k,k<G (E w)->¬Wr g ov k->W.heap[k]?=w.heap[k]?):Eb W d n l:=by
 obtain⟨c,b⟩:=i.o.ty;refine⟨h.at_.aC (j d h.lt fun e=>?_),h.len,h.fits⟩;have f:=h.at_
 rcases e with e|e
 ·rcases b with b|b<;>exact vR f b (by decide) e
 ·unfold OB at f;exact gB i.o.y.own f (by decide) e
def PY.wr{ev f:Value}{l:Q.Wd}(h:PY w ev f l)(i:Eh w g a ov vs fp)(p:∀k,f.ownBlock=C k->¬Wr g ov k)(j:∀k,k<G (E w)->¬Wr g ov k->W.heap[k]?=w.heap[k]?)(hs:G (E w)<=G (E W)):PY W ev f l:=by
 obtain⟨c,d⟩:=i.o.ty;refine⟨bE h.K fun k e=>j k (h.K.lt k e).2 fun e2=>?_,h.g.own _ (fun k e=>j k ?_ (p k e)) hs⟩
 ·rcases e2 with e2|e2
  ·subst e2
   rcases d with d|d<;>exact gB h.K d (by decide) e
  ·rcases i.o.y.own.2 with⟨e3,_⟩|⟨b,q,m,e3,_,n,_⟩
   ·rw[e3]at e2;simp[xa]at e2
   ·rw[e3]at e2;simp[xa]at e2;subst e2;exact gB h.K n (by decide) e
 ·rcases h.g with⟨e1,_⟩|⟨r,c,e1,_,s,_⟩
  ·rw[e1]at e;simp[xa]at e
  ·rw[e1]at e;simp[xa]at e;omega
