import Derived.Test.YtlikcongbhhpfaaGreatDoorM31
set_option linter.unusedVariables false
set_option linter.unusedSimpArgs false
set_option maxHeartbeats 12800000
namespace Go.Proofs.YtlikcongbhhpfaaGreatDoor
open Go Go.RowKit Go.Proofs.Tryz P Q
set_option maxRecDepth 1000000
variable {w w' w1 w2:World}{P':Nat->Prop}{g:Nat}{ov ov' ov1:Value}{fp fp' fp1:List Nat}{a:MA}{wd:Wd}{vs vs':List Value}
open _root_.Array renaming size->E
open Go.World renaming heap->U
open List renaming length->N
open Go.Value renaming slice->Y,bool->G
open Option renaming none->C,some->I
open Go.Obj renaming cells->O
open Or renaming inl->xF,inr->xR
open Nat renaming le_refl->xW,zero_le->xd,lt_of_lt_of_le->xe
open Go.Value renaming ownBlock->xa
open Go.RowKit.Below renaming heap_setCell->xb
open List renaming range->xc,foldl_cons->xg
open Go.World renaming cell?_of_block->xh
namespace Q
def lO(es:List Ev)(k:Nat):Int:=if(ev es k).k==1 then(ev es k).z else -1
theorem Pm(es:List Ev):aE es=(xc (N es)).map (lO es):=by
 unfold aE;apply List.ext_getElem
 ·simp
 ·intro i b c;simp at b;simp[lO,ev,b]
end Q
theorem ZX(ev rg:Value)(es:List Ev)(w:World)(he:NC w ev es)(aj:∃a n c,rg=Y a n c)(hn:N es<=64):
  Calls prog 69 #[.agg #[ev,rg]] w fun e w'=>IF w w' (aE es) (KY es (aE es)) e:=by
 have aq:∀w,(Instr.makeSlice 31 (.int .i64 (N es:Int)) (.int .i64 (N es:Int))).run prog w=.ok (JQ (E (U w)) (N es) (N es)) (w.alloc (O (madeCells #[.int .i64 0] (N es)) 3)):=
  fun w=>run_make_row' 31 3 (.int .i64 0) 8 underlying31 Tryz.MZ Z .i64 .i64 (N es) (by omega) (by omega) w
 obtain⟨ea,ec,rfl,ad⟩:=he.form;obtain⟨ra,rn,rc,rfl⟩:=aj;obtain⟨k0,k1,ak,ac⟩:=hJ w #[Y ea (N es) ec,Y ra rn rc] #[Y C 0 0,Y C 0 0,Y C 0 0,G false] 73 132;have t:=JO he;have m:=JO ac;have T:JP (aE es=(xc (N es)).map (lO es)):=Pm es;have l:JP ((aE es).length=N es):=by simp[JP,aE]
 go_enter func69,ntmps69;go_upto_region 1 with fail
 generalize hE:(w.alloc (O #[Y ea (N es) ec,Y ra rn rc] 73)).alloc (O #[Y C 0 0,Y C 0 0,Y C 0 0,G false] 132)=d at*;have V:=aB k0 0 _ Z;have W:=aB k0 1 _ Z;have l0:E (U w)<E (U d):=by omega
 have l1:E (U w)+1<E (U d):=by omega
 have K1:=JO k1;have M:JP (LE (d.alloc (O (madeCells #[.int .i64 0] (N es)) 3)) (E (U d)) (dU (lO es) (N es) 0)):=by
  unfold JP LE;rw[yM,<- rE];exact heap_alloc_new d _
 clear hE k0 k1 ak;go_wp2;go_loopw[13] (fun j wr=>∃(k:Nat),k<=N es/\j=.int .i64 k/\JP (LE wr (E (U d)) (dU (lO es) (N es) k))/\JP (Below (E (U d)) d wr)) fun j _=>N es-(intOf j).toNat
 case atStart=>exact⟨0,xd _,Z,M,(Below.refl _ _).alloc (xW _) _⟩
 case round =>
  obtain⟨k,hk,rfl,L,b⟩:=hrel;by_cases hlt:k<N es
  ·have ap:(k:Int)<(N es:Int):=by omega
   obtain⟨r,rfl,ab⟩:=ad (by omega);have A:r<E (U d):=by omega
   have x:JP (wr.rangeAt r (k*10) (aD (Q.ev es k)).toList):=eH (t.o.bV Z k (by omega)) ((b.o.block r A).trans (m.o.block r ab));have u:=JO (AL (lO es) (N es) k hlt);have v:JP (lO es k=if(Q.ev es k).k==1 then(Q.ev es k).z else -1):=Z;generalize Q.ev es k=f at*;have i:=JO (L.o.X ((Below.refl _ _).alloc (xW _) (O (aD f) 166)));have s:JP (Below (E (U d)) d (wr.alloc (O (aD f) 166))):=b.o.alloc b.o.size _;have B:k<(dU (lO es) (N es) k).length:=by rw[uL];exact hlt
   have t0:=i.o.cQ k B;have ff:=i.o.free k;have tl:=i.o.lt;have H:=JO (i.o.set k (-1));have BX:JP (Below (E (U d)) d ((wr.alloc (O (aD f) 166)).setCell ⟨E (U d),k,C⟩ (.int .i64 (-1)))):=s.o.setCell (p:=⟨E (U d),k,C⟩) (xW _) _;have EA:JP (KO ((wr.alloc (O (aD f) 166)).setCell ⟨E (U d),k,C⟩ (.int .i64 (-1))) (E (U wr)) f):=by
    have h2:=L.o.lt;unfold JP KO at*;rw[xb _ _ _ _ (by simp;omega)];exact KO.bA wr f
   obtain⟨x0,x1,x2,x3,x4,x5,x6,x7,x8,x9,xf,xl⟩:=EA.o.F;simp only[aD]at t0 ff tl x0 x1 x2 x3 x4 x5 x6 x7 x8 x9 xf xl;generalize an:(dU (lO es) (N es) k).getD k 0=gm at*
   cases z1:f.k==1
   ·have S:JP ((dU (lO es) (N es) k).set k (-1)=dU (lO es) (N es) (k+1)):=by unfold JP;rw[<- u.o,v.o,z1];rfl
    rw[S.o]at H;go_wp2_with(first|(refine cA (.tmp 16) Z Z r (k*10) f Z x.o ?_));go_roundw
    case rel=>exact⟨k+1,by omega,by go_num,H,BX⟩
    case measure=>simp[intOf];omega
   ·have S:JP (((dU (lO es) (N es) k).set k (-1)).set k (f.z)=dU (lO es) (N es) (k+1)):=by unfold JP;rw[List.set_set,<- u.o,v.o,z1];rfl
    have JY:=JO (H.o.set k (f.z));have t5:=H.o.cQ k (by rw[List.length_set];exact B);simp only[aD]at t5;go_wp2_with(first|(refine cA (.tmp 16) Z Z r (k*10) f Z x.o ?_));go_roundw
    case rel=>exact⟨k+1,by omega,by go_num,by rw[<- S.o];exact JY,BX.o.setCell (p:=⟨E (U d),k,C⟩) (xW _) _⟩
    case measure=>simp[intOf];omega
  ·have ah:k=N es:=by omega
   have HF:JP (LE wr (E (U d)) (aE es)):=by
    have y:=L.o;rw[ah,yS,<- T.o]at y;exact y
   have K:JP (NC wr (Y ea (N es) ec) es):=t.o.keep fun q hq=>(b.o.block q (by omega)).trans (m.o.block q hq)
   have d0:=JS b.o l0 V;have d1:=JS b.o l0 W;have au:=xe l0 b.o.size;go_wp2_with(first|(go_at_call 116;refine(ZE _ _ _ es (aE es) _ K.o ⟨_,_,_,Z⟩ (by have y:=HF.o.gN (N es) (by rw[l.o];exact xW _);rw[l.o]at y;exact y) (by rw[l.o]) (by rw[l.o];exact hn)).mono ?_;rintro e w2 ⟨gr,gb,gd,rfl,ag,ae,af,ao,al,am,ai,D,aa⟩;have B2:JP (Below (E (U d)) d w2):=JW b.o (xW _) aa;have K2:=JO ((B2.o.block _ l1).trans K1.o);obtain⟨t0,t1,t2,t3,tf,tl⟩:=uD K2.o;have IB:=JO ae;have ID:=JO af;have IR:=JO ag));obtain⟨s0,J,s2⟩:=vC (s0:=JQ gr (aE es).length (aE es).length) (s1:=JQ gb (KY es (aE es)).length (KY es (aE es)).length) (s2:=JQ gd (KY es (aE es)).length (KY es (aE es)).length) (s3:=G false) K2.o;have ar:=b.o.size;refine gF (p:=2) (E (U w)+1) _ (by kernel_rfl) underlying132 Z (by kernel_rfl) Z (by exact s0) Z ⟨gr,gb,gd,Z,IR.o.aA (J _ (by omega)),IB.o.aA (J _ (by omega)),ID.o.aA (J _ (by omega)),by omega,by omega,by omega,ai,D,s2 _ _ (by omega) (JW m.o (xW _) B2.o)⟩
theorem xJ{v:Value}{l:List Int}(h:ME w v l)(k:Nat)(e:v.ownBlock=I k):k<E (U w):=by
 rcases h with⟨b,_⟩|⟨d,c,b,_,f,_⟩
 ·rw[b]at e;simp[xa]at e
 ·rw[b]at e;simp[xa]at e;omega
structure XF(P:Nat->Prop)(w w':World):Prop where
 os:w'.os=w.os
 tape:w'.tape=w.tape
 output:w'.output=w.output
 size:E (U w)<=E (U w')
 block:∀k,k<E (U w)->¬P k->w'.heap[k]?=w.heap[k]?
theorem XF.refl(P:Nat->Prop)(w:World):XF P w w:=⟨Z,Z,Z,xW _,fun _ _ _=>Z⟩
theorem XF.aX{P:Nat->Prop}(b:Below (E (U w)) w w'):XF P w w':=⟨b.os,b.tape,b.output,b.size,fun k c _=>b.block k c⟩
theorem XF.trans{P:Nat->Prop}(h:XF P w w1)(b:XF P' w1 w2)(f:∀k,k<E (U w)->P' k->P k):XF P w w2 :=
 ⟨b.os.trans h.os,b.tape.trans h.tape,b.output.trans h.output,Nat.le_trans h.size b.size,fun k c d=>(b.block k (xe c h.size) fun e=>d (f k c e)).trans (h.block k c d)⟩
theorem XF.X{P:Nat->Prop}(h:XF P w w1)(b:Below (E (U w1)) w1 w2):XF P w w2:=h.trans (XF.aX (P:=fun _=>False) b) fun _ _ e=>e.elim
theorem XF.dW{c o d:Nat}(b:Ep w w' c o d):XF (fun k=>k=c\/k=d) w w' :=
 ⟨b.os,b.tape,b.output,by rw[b.size];exact xW _,fun k _ f=>b.block k (fun e=>f (xF e)) fun e=>f (xR e)⟩
theorem XF.aR(w:World)(g o:Nat)(v:Value):XF (fun k=>k=g) w (w.setCell ⟨g,o,C⟩ v):=
 ⟨Z,Z,Z,by simp,fun k _ b=>xb _ _ _ _ b⟩
theorem ND.xf(h:ND w w' g ov ov' fp fp'):XF (fun k=>k=g\/ov.ownBlock=I k) w w' :=
 ⟨h.os,h.tape,h.output,h.size,fun k c b=>h.block k c (fun e=>b (xF e)) fun e=>b (xR e)⟩
namespace Q
theorem ZY(l:List (List Int))(r:List Int):N l<=(dZ l r).length:=by
 induction l with
 |nil=>simp
 |cons x q ih =>
  rw[dZ]
  split
  ·simp;omega
  ·split<;>simp
structure AnsOk(a:MA):Prop where
 rise:OX a.y
 small:∀x∈a.y,NY x/\N x<1000
theorem AnsOk.dZ(h:AnsOk a)(r:List Int)(d:NY r/\N r<1000)(b:Bool):AnsOk ⟨dZ a.y r,b⟩:=
 ⟨BH h.rise,fun x c=>by
  rcases GJ c with rfl|c
  ·exact d
  ·exact h.small x c⟩
theorem EQ(es:List Ev)(v:Int)(b:List Int)(h:∀e∈es,0<=e.value/\e.value<4):0<=jU es v b/\jU es v b<4:=by
 unfold jU;have KP:∀(l:List Nat) (a:Int×Int),0<=a.1/\a.1<4->0<=(l.foldl (lK v b es) a).1/\(l.foldl (lK v b es) a).1<4:=by
  intro l
  induction l with
  |nil=>intro a c;exact c
  |cons i l ih =>
   intro a c;rw[xg];apply ih;unfold lK
   split
   ·by_cases hi:i<N es
    ·rw[sX es i hi];exact h _ (List.getElem_mem hi)
    ·simp[ev,hi,Ev.zero]
   ·exact c
 exact KP _ _ (by simp)
theorem uR(h:WdOk wd)(c:List Int):NY (OH wd c)/\(OH wd c).length<1000:=by
 refine⟨fun x b=>?_,by have:=h.g;simp[OH];omega⟩
 rcases List.mem_append.1 b with b|b
 ·exact h.vals x b
 ·simp at b
  rcases b with rfl|rfl|rfl<;>exact EQ _ _ _ h.evals
theorem EN(es:List Ev)(c:List Int)(f:N c<=64):∀b∈KY es c,b<1000000000:=by
 intro b d;simp only[KY,List.mem_map,List.mem_range]at d;obtain⟨i,e,rfl⟩:=d;unfold jT;have:=List.length_filter_le (iY es c i) (xc i);simp at this;omega
theorem JL(es:List Ev)(b:List Int):(KY es b).length=N b:=by simp[KY]
theorem ZZ(es:List Ev):(aE es).length=N es:=by simp[aE]
theorem lL(b c:List Int):(LK b c).length=N b:=by
 unfold LK;have d:∀(i:Nat) (l:List Nat) (p:List Int),(l.foldl (lD b i) p).length=N p:=by
  intro i l
  induction l with
  |nil=>intro p;rfl
  |cons k l ih=>intro p;rw[xg,ih,N5]
 have e:∀(l:List Nat) (p:List Int),(l.foldl (fZ b c) p).length=N p:=by
  intro l
  induction l with
  |nil=>intro p;rfl
  |cons i l ih =>
   intro p;rw[xg,ih];unfold fZ
   split
   ·simp
   ·rw[d];simp
 rw[e];simp
end Q
structure Ej(w:World)(g:Nat)(a:MA)(ov:Value)(vs:List Value)(fp:List Nat):Prop where
 o:MT w 0 g a.y ov vs fp
 clash:w.cell? ⟨g,1,C⟩=I (G a.clash)
 ok:AnsOk a
theorem Ej.off(h:Ej w g a ov vs fp)(b:w'.heap[g]?=w.heap[g]?)(d:∀k,ov.ownBlock=I k->w'.heap[k]?=w.heap[k]?)(c:∀k∈fp,w'.heap[k]?=w.heap[k]?)(e:E (U w)<=E (U w')):Ej w' g a ov vs fp :=
 ⟨h.o.off b d c e,(xh (w:=w) (a:=⟨g,1,C⟩) b).trans h.clash,h.ok⟩
theorem Ej.xf{P:Nat->Prop}(h:Ej w g a ov vs fp)(b:XF P w w')(f:¬P g)(i:∀k,ov.ownBlock=I k->¬P k)(d:∀k∈fp,¬P k):Ej w' g a ov vs fp :=
 h.off (b.block g h.o.lt f) (fun k e=>b.block k (h.o.dE k e) (i k e)) (fun k c=>b.block k (h.o.fpl k c) (d k c)) b.size
theorem Ej.X(h:Ej w g a ov vs fp)(b:Below (E (U w)) w w'):Ej w' g a ov vs fp:=h.xf (XF.aX (P:=fun _=>False) b) (fun e=>e) (fun _ _ e=>e) fun _ _ e=>e
theorem Ej.ne(h:Ej w g a ov vs fp){k:Nat}{c:Array Value}{t:TypeId}(i:w.heap[k]?=I (O c t (0,0)))(d:70≠t)(f:107≠t):g≠k:=fun e=>by
 obtain⟨j,b⟩:=h.o.ty;rw[e,i]at b
 rcases b with b|b
 ·simp at b;exact d b.2.symm
 ·simp at b;exact f b.2.symm
theorem Ej.pC(h:Ej w g a ov vs fp):w.frozen? ⟨g,1,C⟩=false:=by
 obtain⟨c,b⟩:=h.o.ty
 rcases b with b|b<;>simp[World.frozen?,b]
theorem Ej.eX(h:Ej w g a ov vs fp):ov.ownBlock≠I g:=by
 obtain⟨d,b⟩:=h.o.ty
 rcases b with b|b
 ·exact eD h.o.y.ow b (by decide)
 ·exact eD h.o.y.ow b (by decide)
theorem Ej.eS(h:Ej w g a ov vs fp)(b:Bool):Ej (w.setCell ⟨g,1,C⟩ (G b)) g ⟨a.y,b⟩ ov vs fp:=by
 have f:=h.eX;obtain⟨c,d⟩:=h.o.ty;refine⟨⟨(World.cell?_setCell_other _ _ _ _ (by simp)).trans h.o.cell,by simpa using h.o.lt,by rw[World.frozen?_setCell];exact h.o.free,⟨aU h.o.y.ow fun k e=>xb _ _ _ _ fun l=>f (by rw[e,l]),h.o.y.len,fun i m u j=>(h.o.y.y i m u j).ow _ (fun k e=>xb _ _ _ _ (h.o.dis k (h.o.fps u (List.mem_of_getElem? j) k e)).1) (by simp)⟩,⟨c.setIfInBounds 1 (G b),?_⟩,h.o.fps,by simpa using h.o.fpl,h.o.dis⟩,World.cell?_setCell_same _ _ _ h.clash,⟨h.ok.rise,h.ok.small⟩⟩
 rcases d with d|d
 ·exact xF (bC d 1 _)
 ·exact xR (bC d 1 _)
structure El(P:Nat->Prop)(w w':World)(ov ov':Value)(fp fp':List Nat):Prop where
 xf:XF P w w'
 ow:ov'.ownBlock=ov.ownBlock\/∃b,ov'.ownBlock=I b/\E (U w)<=b
 fpn:∀k∈fp',k∈fp\/E (U w)<=k
theorem El.refl(P:Nat->Prop)(w:World)(ov:Value)(fp:List Nat):El P w w ov ov fp fp:=⟨XF.refl _ _,xF Z,fun _ h=>xF h⟩
theorem El.trans{P:Nat->Prop}{d:Value}{c:List Nat}(h:El P w w1 ov ov1 fp fp1)(i:El P' w1 w2 ov1 d fp1 c)(n:∀k,k<E (U w)->P' k->P k):El P w w2 ov d fp c :=
 ⟨h.xf.trans i.xf n,by
  have o:=h.xf.size
  rcases i.ow with e|⟨b,e,l⟩
  ·rcases h.ow with f|⟨b,f,l⟩
   ·exact xF (e.trans f)
   ·exact xR ⟨b,e.trans f,l⟩
  ·exact xR ⟨b,e,by omega⟩,fun k m=>by
  have o:=h.xf.size
  rcases i.fpn k m with j|j
  ·exact h.fpn k j
  ·exact xR (by omega)⟩
theorem El.x{P:Nat->Prop}(h:El P w w1 ov ov1 fp fp1)(b:XF P' w1 w2)(c:∀k,k<E (U w)->P' k->P k):El P w w2 ov ov1 fp fp1 :=
 h.trans ⟨b,xF Z,fun _ h=>xF h⟩ c
theorem El.X{P:Nat->Prop}(h:El P w w1 ov ov1 fp fp1)(b:Below (E (U w1)) w1 w2):El P w w2 ov ov1 fp fp1 :=
 h.x (XF.aX (P:=fun _=>False) b) fun _ _ e=>e.elim
theorem ND.af(h:ND w w' g ov ov' fp fp'):El (fun k=>k=g\/ov.ownBlock=I k) w w' ov ov' fp fp':=⟨h.xf,h.ow,h.fpn⟩
def Wr(g:Nat)(ov:Value)(k:Nat):Prop:=k=g\/ov.ownBlock=I k
structure OrdBase(w W1:World)(g go gr gb gd:Nat)(ov0:Value)(fp0:List Nat):Prop where
 lg:g<E (U w)
 lo:∀k,ov0.ownBlock=I k->k<E (U w)
 lf:∀k∈fp0,k<E (U w)
 go1:E (U w)<=go/\go<E (U W1)
 gr1:E (U w)<=gr/\gr<E (U W1)
 gb1:E (U w)<=gb/\gb<E (U W1)
 gd1:E (U w)<=gd/\gd<E (U W1)
def Pn(g go gd:Nat)(ov0:Value)(k:Nat):Prop:=k=g\/k=go\/k=gd\/ov0.ownBlock=I k
structure Eu(w W1 wr:World)(g go gr gb gd:Nat)(ov0:Value)(fp0:List Nat)(rs bs ds:List Int)(rest:List (List Int))(a:MA)(ov:Value)(vs:List Value)(fp:List Nat):Prop where
 base:OrdBase w W1 g go gr gb gd ov0 fp0
 fr:El (Pn g go gd ov0) W1 wr ov0 ov fp0 fp
 ord:NA wr go gr gb gd rs bs ds rest
 ans:Ej wr g a ov vs fp
section
variable {w W1 wr:World}{g go gr gb gd:Nat}{ov0:Value}{fp0:List Nat}{rs bs ds:List Int}{rest:List (List Int)}{a:Q.MA}{ov:Value}{vs:List Value}{fp:List Nat}
theorem Eu.X(h:Eu w W1 wr g go gr gb gd ov0 fp0 rs bs ds rest a ov vs fp)(b:Below (E (U wr)) wr w2):Eu w W1 w2 g go gr gb gd ov0 fp0 rs bs ds rest a ov vs fp :=
 ⟨h.base,h.fr.X b,h.ord.X b,h.ans.X b⟩
theorem Eu.mY(h:Eu w W1 wr g go gr gb gd ov0 fp0 rs bs ds rest a ov vs fp)(k:Nat)(d:E (U w)<=k)(f:k<E (U W1)):ov.ownBlock≠I k:=fun e=>by
 rcases h.fr.ow with c|⟨b,c,i⟩
 ·have:=h.base.lo k (c.symm.trans e);omega
 ·rw[c]at e;simp at e;omega
theorem Eu.xV(h:Eu w W1 wr g go gr gb gd ov0 fp0 rs bs ds rest a ov vs fp)(k:Nat)(c:E (U w)<=k)(d:k<E (U W1)):k∉fp:=fun e=>by
 rcases h.fr.fpn k e with b|b
 ·have:=h.base.lf k b;omega
 ·omega
theorem Eu.mS(h:Eu w W1 wr g go gr gb gd ov0 fp0 rs bs ds rest a ov vs fp){d:List Int}{c:List (List Int)}(i:Ep wr w2 go 1 gd)(l:NA w2 go gr gb gd rs bs d c):Eu w W1 w2 g go gr gb gd ov0 fp0 rs bs d c a ov vs fp:=by
 have b:=h.base;refine⟨b,h.fr.x (XF.dW i) fun k _ e=>?_,l,h.ans.xf (XF.dW i) (fun e=>?_) (fun k e f=>?_) fun k j e=>?_⟩
 ·rcases e with e|e
  ·exact xR (xF e)
  ·exact xR (xR (xF e))
 ·have:=b.lg;have:=b.go1.1;have:=b.gd1.1
  rcases e with e|e<;>omega
 ·rcases f with f|f<;>subst f
  ·exact h.mY _ b.go1.1 b.go1.2 e
  ·exact h.mY _ b.gd1.1 b.gd1.2 e
 ·rcases e with e|e<;>subst e
  ·exact h.xV _ b.go1.1 b.go1.2 j
  ·exact h.xV _ b.gd1.1 b.gd1.2 j
theorem Eu.oZ(h:Eu w W1 wr g go gr gb gd ov0 fp0 rs bs ds rest a ov vs fp)(f:Ep wr w2 go 1 gd)(i:Below (E (U w)) w W1):Ej w2 g a ov vs fp/\El (Wr g ov0) w w2 ov0 ov fp0 fp:=by
 have b:=h.base;refine⟨h.ans.xf (XF.dW f) (fun e=>?_) (fun k e c=>?_) fun k d e=>?_,(El.mk (XF.aX (P:=Wr g ov0) i) (xF Z) fun _ h=>xF h:El (Wr g ov0) w W1 ov0 ov0 fp0 fp0).trans (h.fr.x (XF.dW f) fun k _ e=>?_) fun k d e=>?_⟩
 ·have:=b.lg;have:=b.go1.1;have:=b.gd1.1
  rcases e with e|e<;>omega
 ·rcases c with c|c<;>subst c
  ·exact h.mY _ b.go1.1 b.go1.2 e
  ·exact h.mY _ b.gd1.1 b.gd1.2 e
 ·rcases e with e|e<;>subst e
  ·exact h.xV _ b.go1.1 b.go1.2 d
  ·exact h.xV _ b.gd1.1 b.gd1.2 d
 ·rcases e with e|e
  ·exact xR (xF e)
  ·exact xR (xR (xF e))
 ·have:=b.go1.1;have:=b.gd1.1
  rcases e with e|e|e|e
  ·exact xF e
  ·omega
  ·omega
  ·exact xR e
theorem NA.off(h:NA wr go gr gb gd rs bs ds rest)(c:w'.heap[go]?=wr.heap[go]?)(e:w'.heap[gr]?=wr.heap[gr]?)(f:w'.heap[gb]?=wr.heap[gb]?)(i:w'.heap[gd]?=wr.heap[gd]?)(l:E (U wr)<=E (U w')):NA w' go gr gb gd rs bs ds rest:=by
 obtain⟨b,d,k⟩:=h.ML;exact⟨(xh (w:=wr) (a:=⟨go,0,C⟩) c).trans h.r0,h.y.aA e,⟨b,d.of (fun j=>xh (w:=wr) (a:=⟨go,j,C⟩) c) (fun j=>World.frozen?_of_block (w:=wr) (a:=⟨go,j,C⟩) c) (xe d.lt l) f i,k⟩,h.len,h.ne,h.neg⟩
theorem Eu.rM(h:Eu w W1 wr g go gr gb gd ov0 fp0 rs bs ds rest a ov vs fp)(c:XF (Wr g ov) wr w2):NA w2 go gr gb gd rs bs ds rest:=by
 have b:=h.base;have i:=h.fr.xf.size;have K:∀k,E (U w)<=k->k<E (U W1)->w2.heap[k]?=wr.heap[k]?:=fun k d f=>c.block k (by omega) fun e=>by
  rcases e with e|e
  ·have:=b.lg;omega
  ·exact h.mY k d f e
 exact h.ord.off (K _ b.go1.1 b.go1.2) (K _ b.gr1.1 b.gr1.2) (K _ b.gb1.1 b.gb1.2) (K _ b.gd1.1 b.gd1.2) c.size
theorem Eu.add(h:Eu w W1 wr g go gr gb gd ov0 fp0 rs bs ds rest a ov vs fp){r:List Int}(i:Q.NY r/\N r<1000)(f:MT w2 0 g (dZ a.y r) ov' vs' fp')(d:ND wr w2 g ov ov' fp fp'):Eu w W1 w2 g go gr gb gd ov0 fp0 rs bs ds rest ⟨dZ a.y r,a.clash⟩ ov' vs' fp' :=
 ⟨h.base,h.fr.trans d.af fun k l e=>by
  rcases e with e|e
  ·exact xF e
  ·rcases h.fr.ow with c|⟨b,c,j⟩
   ·exact xR (xR (xR (c.symm.trans e)))
   ·rw[c]at e;simp at e;omega,h.rM d.xf,⟨f,d.c1.trans h.ans.clash,h.ans.ok.dZ r i _⟩⟩
theorem Eu.step(h:Eu w W1 wr g go gr gb gd ov0 fp0 rs bs ds rest a ov vs fp){d:MA}(i:Ej w2 g d ov' vs' fp')(f:El (Wr g ov) wr w2 ov ov' fp fp'):Eu w W1 w2 g go gr gb gd ov0 fp0 rs bs ds rest d ov' vs' fp' :=
 ⟨h.base,h.fr.trans f fun k l e=>by
  rcases e with e|e
  ·exact xF e
  ·rcases h.fr.ow with c|⟨b,c,j⟩
   ·exact xR (xR (xR (c.symm.trans e)))
   ·rw[c]at e;simp at e;omega,h.rM f.xf,i⟩
theorem Eu.eS(h:Eu w W1 wr g go gr gb gd ov0 fp0 rs bs ds rest a ov vs fp)(b:Bool):Eu w W1 (wr.setCell ⟨g,1,C⟩ (G b)) g go gr gb gd ov0 fp0 rs bs ds rest ⟨a.y,b⟩ ov vs fp :=
 ⟨h.base,h.fr.x (XF.aR _ _ _ _) fun k _ e=>xF e,h.rM ⟨Z,Z,Z,by simp,fun k _ c=>xb _ _ _ _ fun e=>c (xF e)⟩,h.ans.eS b⟩
theorem Eu.box(h:Eu w W1 wr g go gr gb gd ov0 fp0 rs bs ds rest a ov vs fp)(k:Nat)(f:E (U w)<=k)(b:k<E (U W1))(c:k≠go)(d:k≠gd):wr.heap[k]?=W1.heap[k]? :=
 h.fr.xf.block k b fun e=>by
  rcases e with e|e|e|e
  ·have:=h.base.lg;omega
  ·exact c e
  ·exact d e
  ·have:=h.base.lo k e;omega
theorem Eu.FU(h:Eu w W1 wr g go gr gb gd ov0 fp0 rs bs ds rest a ov vs fp)(d:E (U w)<=E (U W1))(k:Nat)(c:k<E (U w))(b:¬Wr g ov0 k):wr.heap[k]?=W1.heap[k]? :=
 h.fr.xf.block k (by omega) fun e=>by
  have:=h.base.go1.1;have:=h.base.gd1.1
  rcases e with e|e|e|e
  ·exact b (xF e)
  ·omega
  ·omega
  ·exact b (xR e)
theorem Eu.done(h:Eu w W1 wr g go gr gb gd ov0 fp0 rs bs ds rest a ov vs fp)(c:Below (E (U w)) w W1):El (Wr g ov0) w wr ov0 ov fp0 fp :=
 ⟨⟨h.fr.xf.os.trans c.os,h.fr.xf.tape.trans c.tape,h.fr.xf.output.trans c.output,Nat.le_trans c.size h.fr.xf.size,fun k d f=>(h.FU c.size k d f).trans (c.block k d)⟩,by
  have:=c.size
  rcases h.fr.ow with e|⟨b,e,i⟩
  ·exact xF e
  ·exact xR ⟨b,e,by omega⟩,fun k d=>by
  have:=c.size
  rcases h.fr.fpn k d with e|e
  ·exact xF e
  ·exact xR (by omega)⟩
end
theorem Ef.wr{W:World}{p:FA}{f:Ey}(h:Ef w p f)(q:Ej w g a ov vs fp)(r:∀k,k<E (U w)->¬Wr g ov k->W.heap[k]?=w.heap[k]?):Ef W p f:=by
 obtain⟨c,d⟩:=q.o.ty;have v:∀j l,LJ w j l->¬Wr g ov j:=fun j l m e=>by
  rcases e with e|e
  ·rcases d with d|d<;>exact pQ m d (by decide) e
  ·unfold LJ at m;exact eD q.o.y.ow m (by decide) e
 have u:∀k,p.ev.ownBlock=I k->¬Wr g ov k:=fun k e i=>by
  rcases i with i|i
  ·subst i
   rcases d with d|d<;>exact eD h.ev d (by decide) e
  ·rcases q.o.y.ow.2 with⟨n,_⟩|⟨b,x,s,n,_,t,_⟩
   ·rw[n]at i;simp[xa]at i
   ·rw[n]at i;simp[xa]at i;subst i;exact eD h.ev t (by decide) e
 exact h.off (fun j l m=>r j m.lt (v j l m)) (aU h.ev fun k e=>r k (h.ev.lt k e).2 (u k e))
theorem Ed.wr{W:World}{d n:Nat}{l:List Nat}(h:Ed w d n l)(i:Ej w g a ov vs fp)(j:∀k,k<E (U w)->¬Wr g ov k->W.heap[k]?=w.heap[k]?):Ed W d n l:=by
 obtain⟨c,b⟩:=i.o.ty;refine⟨h.at_.aA (j d h.lt fun e=>?_),h.len,h.fits⟩;have f:=h.at_
 rcases e with e|e
 ·rcases b with b|b<;>exact pQ f b (by decide) e
 ·unfold LJ at f;exact eD i.o.y.ow f (by decide) e
theorem NO.wr{W:World}{ev l:Value}(h:NO w ev l wd)(m:Ej w g a ov vs fp)(r:∀k,l.ownBlock=I k->¬Wr g ov k)(n:∀k,k<E (U w)->¬Wr g ov k->W.heap[k]?=w.heap[k]?)(s:E (U w)<=E (U W)):NO W ev l wd:=by
 obtain⟨c,f⟩:=m.o.ty;refine⟨aU h.K fun k e=>n k (h.K.lt k e).2 fun d=>?_,h.g.ow _ (fun k e=>n k ?_ (r k e)) s⟩
 ·rcases d with d|d
  ·subst d
   rcases f with f|f<;>exact eD h.K f (by decide) e
  ·rcases m.o.y.ow.2 with⟨j,_⟩|⟨b,t,p,j,_,q,_⟩
   ·rw[j]at d;simp[xa]at d
   ·rw[j]at d;simp[xa]at d;subst d;exact eD h.K q (by decide) e
 ·rcases h.g with⟨i,_⟩|⟨u,c,i,_,v,_⟩
  ·rw[i]at e;simp[xa]at e
  ·rw[i]at e;simp[xa]at e;omega
theorem Po(g:Nat)(j:MA)(ov:Value)(vs:List Value)(fp:List Nat)(vr:Value)(r:List Int)(s:FA)(f:Ey)(gr t:Nat)(D:List Nat)(w:World)(hA:Ej w g j ov vs fp)(hr:ME w vr r)(p:Q.NY r/\N r<1000)(ae:∀k,vr.ownBlock=I k->¬Wr g ov k)(hf:Ef w s f)(hc:Ed w t s.n D)(hn:N j.y<100000000):
  Calls prog 98 #[.pointer (I ⟨g,0,C⟩),vr,.agg (gV s gr),.agg #[JQ t s.n s.n]] w fun e w'=>e=.returned (.tuple #[])/\∃ov' vs' fp',Ej w' g ⟨dZ j.y r,if j.clash then true else f.bE D⟩ ov' vs' fp'/\El (Wr g ov) w w' ov ov' fp fp':=by
 obtain⟨x,c,F,_⟩:=hf.form;obtain⟨n,ev,L,M,S,T,V,W,g7,g8,g9⟩:=s;obtain⟨ya,yc,rfl,_⟩:=hr.form;simp only at F hc;subst F;simp only[gV];obtain⟨k0,k1,aj,l⟩:=hJ w #[Y x n c,JQ L n n,JQ M n n,JQ S n n,JQ T n n,JQ V n n,JQ W n n,JQ g7 n n,JQ g8 n n,JQ g9 n n,JQ gr n n] #[JQ t n n] 109 76;have i:=JO (hA.X l);have HR:=JO (hr.X l);have HF:=JO (hf.X l);have HC:=JO (hc.X l);have A:=JO l;have m:=JO ae;generalize ad:(⟨dZ j.y r,if j.clash then true else f.bE D⟩:MA)=ai;have B:=JO ad;have lg:=hA.o.lt;have H:=JO hA.o.dE;go_enter func98,ntmps98;go_upto_region 1 with fail
 generalize hE:(w.alloc (O #[Y x n c,JQ L n n,JQ M n n,JQ S n n,JQ T n n,JQ V n n,JQ W n n,JQ g7 n n,JQ g8 n n,JQ g9 n n,JQ gr n n] 109)).alloc (O #[JQ t n n] 76)=K at*;have l0:E (U w)<E (U K):=by omega
 have l1:E (U w)+1<E (U K):=by omega
 have K0:=JO k0;have K1:=JO k1
 cases z:j.clash
 ·go_wp2_with(first
   |(go_at_call 74;refine(yW 0 g _ ov j.y vs fp r _ i.o.o HR.o i.o.ok.rise i.o.ok.small p hn (xd _) fun k e=>⟨fun q=>m.o k e (xF q),fun q=>m.o k e (xR q)⟩).mono ?_;rintro e w1 ⟨rfl,ov',vs',fp',ho,d⟩;have HO:=JO ho;have OF:=JO d;have u:w1.cell? ⟨g,1,C⟩=I (G j.clash):=d.c1.trans i.o.clash;rw[z]at u;have ah:g<E (U w1):=ho.lt;have KE:JP (∀k,k<E (U K)->¬Wr g ov k->w1.heap[k]?=K.heap[k]?):=fun k h1 h2=>d.block k h1 (fun e=>h2 (xF e)) fun e=>h2 (xR e);have b:w1.heap[E (U w)]?=I (O #[Y x n c,JQ L n n,JQ M n n,JQ S n n,JQ T n n,JQ V n n,JQ W n n,JQ g7 n n,JQ g8 n n,JQ g9 n n,JQ gr n n] 109 (0,0)):=(d.block _ l0 (by omega) fun e=>by have:=H.o _ e;omega).trans K0.o;have ag:w1.heap[E (U w)+1]?=I (O #[JQ t n n] 76 (0,0)):=(d.block _ l1 (by omega) fun e=>by have:=H.o _ e;omega).trans K1.o;have d0:=aB b 0 _ Z;have d1:=aB b 1 _ Z;have d2:=aB b 2 _ Z;have d3:=aB b 3 _ Z;have d4:=aB b 4 _ Z;have d5:=aB b 5 _ Z;have d6:=aB b 6 _ Z;have d7:=aB b 7 _ Z;have d8:=aB b 8 _ Z;have d9:=aB b 9 _ Z;have e0:=aB ag 0 _ Z;have ab:=JO (HF.o.wr i.o KE.o);have aa:=JO (HC.o.wr i.o KE.o);have v:JP (Ej w1 g ⟨dZ j.y r,false⟩ ov' vs' fp'):=⟨HO.o,u,i.o.ok.dZ r p _⟩)
   |(go_at_call 75;refine(XN (FA.mk n (Y x n c) L M S T V W g7 g8 g9) f t D _ ab.o aa.o).mono ?_;rintro e w2 ⟨rfl,ac⟩;have J:=JO ac;have q1:=JS J.o ah u;have fz:=(v.o.X J.o).pC))
  go_end0;refine⟨Z,ov',vs',fp',?_,?_⟩
  ·have h5:=(v.o.X J.o).eS (f.bE D);rw[<- B.o,z];exact h5
  ·exact(((El.refl (Wr g ov) w ov fp).X A.o).trans OF.o.af fun k _ e=>e).X J.o|>.x (XF.aR _ _ _ _) fun k _ e=>xF e
 ·go_wp2_with(first
   |(go_at_call 74;refine(yW 0 g _ ov j.y vs fp r _ i.o.o HR.o i.o.ok.rise i.o.ok.small p hn (xd _) fun k e=>⟨fun q=>m.o k e (xF q),fun q=>m.o k e (xR q)⟩).mono ?_;rintro e w1 ⟨rfl,ov',vs',fp',ho,d⟩;have HO:=JO ho;have OF:=JO d;have u:w1.cell? ⟨g,1,C⟩=I (G j.clash):=d.c1.trans i.o.clash;rw[z]at u))
  go_end0;refine⟨Z,ov',vs',fp',?_,?_⟩
  ·rw[<- B.o,z];exact⟨HO.o,u,i.o.ok.dZ r p _⟩
  exact((El.refl (Wr g ov) w ov fp).X A.o).trans OF.o.af fun k _ e=>e
end Go.Proofs.YtlikcongbhhpfaaGreatDoor
