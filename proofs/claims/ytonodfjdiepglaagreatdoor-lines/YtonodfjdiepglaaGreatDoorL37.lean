import Derived.Test.YtonodfjdiepglaaGreatDoorL35
set_option linter.unusedVariables false
set_option linter.unusedSimpArgs false
set_option maxHeartbeats 12800000
namespace Go.Proofs.YtonodfjdiepglaaGreatDoor
open Go Go.RowKit Go.Proofs.Tryz P Q R
set_option maxRecDepth 1000000
variable {W w w' w1 w2:World} {P':Nat->Prop} {g:Nat} {ov ov' ov1:Value} {fp fp' fp1:List Nat} {a:Ans} {wd:Wd} {vs:List Value}
open Or renaming inl→xF,inr→xR
open Nat renaming le_refl→xW,lt_of_lt_of_le→xa,zero_le→xe
open Go.Value renaming ownBlock→xb
open Go.RowKit.Below renaming heap_setCell→xc
open List renaming range→xd,foldl_cons→xg
open Go.World renaming cell?_of_block→xh
namespace Q
def kK (es:List Ev) (k:Nat):Int:=if (ev es k).kind==1 then (ev es k).var else -1
theorem kEJ (es:List Ev):aM es=(xd es.length).map (kK es):=by
 unfold aM;apply List.ext_getElem
 ·simp
 ·intro i b c;simp at b;simp[kK,ev,b]
end Q
theorem zEC (ev rg:Value) (es:List Ev) (w:World) (V:zAV w ev es) (ac:∃ a n c,rg=.slice a n c) (hn:es.length<=64) :
  Calls prog 52 #[.agg #[ev,rg]] w fun e w'=>DK w w' (aM es) (zMh es (aM es)) e:=by
 have ak:∀ w,(Instr.makeSlice 68 (.int .i64 (es.length:Int)) (.int .i64 (es.length:Int))).run prog w=.ok (.slice (some ⟨w.heap.size,0,none⟩) es.length es.length) (w.alloc (.cells (madeCells #[.int .i64 0] es.length) 3)) :=
  fun w=>run_make_row' 68 3 (.int .i64 0) 8 underlying68 Tryz.infoInt rfl .i64 .i64 es.length (by omega) (by omega) w
 obtain⟨O,S,rfl,A⟩:=V.form;obtain⟨ra,rn,rc,rfl⟩:=ac;obtain⟨k0,k1,ad,z⟩:=iM w #[.slice O es.length S,.slice ra rn rc] #[.slice none 0 0,.slice none 0 0,.slice none 0 0,.bool false] 70 118;have t:=zAa V;have m:=zAa z;have L:Hid (aM es=(xd es.length).map (kK es)):=kEJ es;have l:Hid ((aM es).length=es.length):=by simp[Hid,aM]
 clear z V;go_enter func52,ntmps52;go_upto_region 1 with fail
 generalize hE:(w.alloc (.cells #[.slice O es.length S,.slice ra rn rc] 70)).alloc (.cells #[.slice none 0 0,.slice none 0 0,.slice none 0 0,.bool false] 118)=d at *;have M:=aD k0 0 _ rfl;have N:=aD k0 1 _ rfl;have l0:w.heap.size<d.heap.size:=by omega
 have l1:w.heap.size+1<d.heap.size:=by omega
 have ae:w.heap.size+2<=d.heap.size:=by omega
 have K1:=zAa k1;have J:Hid (zAt (d.alloc (.cells (madeCells #[.int .i64 0] es.length) 3)) d.heap.size (dN (kK es) es.length 0)):=by
  unfold Hid zAt;rw[xG,<- rE];exact heap_alloc_new d _
 have H:Hid (Below d.heap.size d (d.alloc (.cells (madeCells #[.int .i64 0] es.length) 3))):=(Below.refl _ _).alloc (xW _) _;clear hE k0 k1 ad;go_wp2;go_loopw [13] (fun j wr=>∃ (k:Nat),k<=es.length/\j=.int .i64 k/\Hid (zAt wr d.heap.size (dN (kK es) es.length k))/\Hid (Below d.heap.size d wr)) (fun j _=>es.length-(intOf j).toNat)
 case atStart=>exact⟨0,xe _,rfl,J,H⟩
 case round =>
  obtain⟨k,hk,rfl,E,b⟩:=hrel;by_cases hlt:k<es.length
  ·have aj:(k:Int)<(es.length:Int):=by omega
   obtain⟨r,rfl,U⟩:=A (by omega);have y:r<d.heap.size:=by omega
   have x:Hid (wr.rangeAt r (k*10) (aI (Q.ev es k)).toList):=fY (t.out.cM rfl k (by omega)) ((b.out.block r y).trans (m.out.block r U));have u:=zAa (zB (kK es) es.length k hlt);have v:Hid (kK es k=if (Q.ev es k).kind==1 then (Q.ev es k).var else -1):=rfl;generalize Q.ev es k=f at *;have i:=zAa (E.out.below ((Below.refl _ _).alloc (xW _) (.cells (aI f) 146)));have s:Hid (Below d.heap.size d (wr.alloc (.cells (aI f) 146))):=b.out.alloc b.out.size _;have B:k<(dN (kK es) es.length k).length:=by rw[tU];exact hlt
   have C:k<((dN (kK es) es.length k).set k (-1)).length:=by rw[List.length_set];exact B
   have t0:=i.out.dA k B;have ff:=i.out.free k;have tl:=i.out.lt;have F:=zAa (i.out.set k (-1));have BX:Hid (Below d.heap.size d ((wr.alloc (.cells (aI f) 146)).setCell ⟨d.heap.size,k,none⟩ (.int .i64 (-1)))):=s.out.setCell (p:=⟨d.heap.size,k,none⟩) (xW _) _;have EA:Hid (zAP ((wr.alloc (.cells (aI f) 146)).setCell ⟨d.heap.size,k,none⟩ (.int .i64 (-1))) wr.heap.size f):=by
    have o:=zAP.bT wr f;have h2:=E.out.lt;unfold Hid zAP at *;rw[xc _ _ _ _ (by simp;omega)];exact o
   obtain⟨x0,x1,x2,x3,x4,x5,x6,x7,x8,x9,xf,xl⟩:=EA.out.facts;simp only[aI] at t0 ff tl x0 x1 x2 x3 x4 x5 x6 x7 x8 x9 xf xl;generalize ah:(dN (kK es) es.length k).getD k 0=gm at *
   cases z1:(f.kind==1)
   ·have K:Hid ((dN (kK es) es.length k).set k (-1)=dN (kK es) es.length (k+1)):=by unfold Hid;rw[<- u.out,v.out,z1];rfl
    rw[K.out] at F;go_wp2_with (first | (refine cQ (.tmp 16) rfl rfl r (k*10) f rfl x.out ?_));go_roundw
    case rel=>exact⟨k+1,by omega,by go_num,F,BX⟩
    case measure=>simp[intOf];omega
   ·have K:Hid (((dN (kK es) es.length k).set k (-1)).set k (f.var)=dN (kK es) es.length (k+1)):=by unfold Hid;rw[List.set_set,<- u.out,v.out,z1];rfl
    have JY:=zAa (F.out.set k (f.var));have t5:=F.out.dA k C;simp only[aI] at t5;go_wp2_with (first | (refine cQ (.tmp 16) rfl rfl r (k*10) f rfl x.out ?_));go_roundw
    case rel=>exact⟨k+1,by omega,by go_num,by rw[<- K.out];exact JY,BX.out.setCell (p:=⟨d.heap.size,k,none⟩) (xW _) _⟩
    case measure=>simp[intOf];omega
  ·have aa:k=es.length:=by omega
   have HF:Hid (zAt wr d.heap.size (aM es)):=by
    have o:=E.out;rw[aa,zE,<- L.out] at o;exact o
   have I:Hid (zAV wr (.slice O es.length S) es):=t.out.keep fun q hq=>(b.out.block q (by omega)).trans (m.out.block q hq)
   have d0:=aC b.out l0 M;have d1:=aC b.out l0 N;have am:=xa l0 b.out.size;clear E A;go_wp2_with (first | (go_at_call 83;refine (zFb _ _ _ es (aM es) _ I.out ⟨_,_,_,rfl⟩ (by have o:=HF.out.jK es.length (by rw[l.out];exact xW _);rw[l.out] at o;exact o) (by rw[l.out]) (by rw[l.out];exact hn)).mono ?_;rintro e w2 ⟨gr,gb,gd,rfl,Z,X,Y,ai,af,ag,ab,D,T⟩;have B2:Hid (Below d.heap.size d w2):=aK b.out (xW _) T;have K2:=zAa ((B2.out.block _ l1).trans K1.out);obtain⟨t0,t1,t2,t3,tf,tl⟩:=rQ K2.out;have IB:=zAa X;have ID:=zAa Y;have IR:=zAa Z));obtain⟨s0,G,s2⟩:=uM (s0:=.slice (some ⟨gr,0,none⟩) (aM es).length (aM es).length) (s1:=.slice (some ⟨gb,0,none⟩) (zMh es (aM es)).length (zMh es (aM es)).length) (s2:=.slice (some ⟨gd,0,none⟩) (zMh es (aM es)).length (zMh es (aM es)).length) (s3:=.bool false) K2.out;have al:=b.out.size;refine gI (p:=2) (w.heap.size+1) _ (by kernel_rfl) underlying118 rfl (by kernel_rfl) rfl (by exact s0) rfl ⟨gr,gb,gd,rfl,IR.out.aA (G _ (by omega)),IB.out.aA (G _ (by omega)),ID.out.aA (G _ (by omega)),by omega,by omega,by omega,ab,D,s2 _ _ (by omega) (aK m.out (xW _) B2.out)⟩
theorem wO {v:Value} {l:List Int} (h:zCj w v l) (k:Nat) (e:v.ownBlock=some k):k<w.heap.size:=by
 rcases h with ⟨b,_⟩ | ⟨d,c,b,_,f,_⟩
 ·rw[b] at e;simp[xb] at e
 ·rw[b] at e;simp[xb] at e;omega
structure XF (P:Nat->Prop) (w w':World):Prop where
 os:w'.os=w.os
 tape:w'.tape=w.tape
 output:w'.output=w.output
 size:w.heap.size<=w'.heap.size
 block:∀ k,k<w.heap.size->¬ P k->w'.heap[k]?=w.heap[k]?
theorem XF.refl (P:Nat->Prop) (w:World):XF P w w:=⟨rfl,rfl,rfl,xW _,fun _ _ _=>rfl⟩
theorem XF.dS {P:Nat->Prop} (b:Below w.heap.size w w'):XF P w w':=⟨b.os,b.tape,b.output,b.size,fun k c _=>b.block k c⟩
theorem XF.trans {P:Nat->Prop} (h:XF P w w1) (b:XF P' w1 w2) (f:∀ k,k<w.heap.size->P' k->P k):XF P w w2 :=
 ⟨b.os.trans h.os,b.tape.trans h.tape,b.output.trans h.output,Nat.le_trans h.size b.size,fun k c d=>(b.block k (xa c h.size) (fun e=>d (f k c e))).trans (h.block k c d)⟩
theorem XF.eA {c o d:Nat} (b:Eu w w' c o d):XF (fun k=>k=c\/k=d) w w' :=
 ⟨b.os,b.tape,b.output,by rw[b.size];exact xW _,fun k _ f=>b.block k (fun e=>f (xF e)) (fun e=>f (xR e))⟩
theorem XF.jQ (w:World) (g o:Nat) (v:Value):XF (fun k=>k=g) w (w.setCell ⟨g,o,none⟩ v) :=
 ⟨rfl,rfl,rfl,by simp,fun k _ b=>xc _ _ _ _ b⟩
theorem OFrame.xf (h:OFrame w w' g ov ov' fp fp'):XF (fun k=>k=g\/ov.ownBlock=some k) w w' :=
 ⟨h.os,h.tape,h.output,h.size,fun k c b=>h.block k c (fun e=>b (xF e)) (fun e=>b (xR e))⟩
namespace Q
theorem kLt (l:List (List Int)) (r:List Int):l.length<=(eW l r).length:=by
 induction l with
 | nil=>simp
 | cons x q ih =>
  rw[eW]
  split
  ·simp;omega
  ·split<;>simp
structure AnsOk (a:Ans):Prop where
 rise:zPb a.rows
 small:∀ x∈a.rows,kCs x/\x.length<1000
theorem AnsOk.eW (h:AnsOk a) (r:List Int) (d:kCs r/\r.length<1000) (b:Bool):AnsOk ⟨eW a.rows r,b⟩ :=
 ⟨zZ h.rise,fun x c=>by
  rcases BU c with rfl | c
  ·exact d
  ·exact h.small x c⟩
theorem kGo (es:List Ev) (v:Int) (b:List Int) (h:∀ e∈es,0<=e.value/\e.value<4):0<=jA es v b/\jA es v b<4:=by
 unfold jA;have d:∀ (l:List Nat) (a:Int × Int),(0<=a.1/\a.1<4)->0<=(l.foldl (kR v b es) a).1/\(l.foldl (kR v b es) a).1<4:=by
  intro l
  induction l with
  | nil=>intro a c;exact c
  | cons i l ih =>
   intro a c;rw[xg];apply ih;unfold kR
   split
   ·by_cases hi:i<es.length
    ·rw[tE es i hi];exact h _ (List.getElem_mem hi)
    ·simp[ev,hi,Ev.zero]
   ·exact c
 exact d _ _ (by simp)
theorem kFL (h:WdOk wd) (c:List Int):kCs (gK wd c)/\(gK wd c).length<1000:=by
 refine⟨fun x b=>?_,by have:=h.regs;simp[gK];omega⟩
 rcases List.mem_append.1 b with b | b
 ·exact h.vals x b
 ·simp at b
  rcases b with rfl | rfl | rfl<;>exact kGo _ _ _ h.evals
theorem zOi (es:List Ev) (c:List Int) (f:c.length<=64):∀ b∈zMh es c,b<1000000000:=by
 intro b d;simp only[zMh,List.mem_map,List.mem_range] at d;obtain⟨i,e,rfl⟩:=d;unfold iP;have:=List.length_filter_le (iC es c i) (xd i);simp at this;omega
theorem zOj (es:List Ev) (b:List Int):(zMh es b).length=b.length:=by simp[zMh]
theorem kFP (es:List Ev):(aM es).length=es.length:=by simp[aM]
theorem tA (b c:List Int):(zMm b c).length=b.length:=by
 unfold zMm;have d:∀ (i:Nat) (l:List Nat) (p:List Int),(l.foldl (jJ b i) p).length=p.length:=by
  intro i l
  induction l with
  | nil=>intro p;rfl
  | cons k l ih=>intro p;rw[xg,ih,kIC]
 have e:∀ (l:List Nat) (p:List Int),(l.foldl (fN b c) p).length=p.length:=by
  intro l
  induction l with
  | nil=>intro p;rfl
  | cons i l ih =>
   intro p;rw[xg,ih];unfold fN
   split
   ·simp
   ·rw[d];simp
 rw[e];simp
end Q
structure En (w:World) (g:Nat) (a:Ans) (ov:Value) (vs:List Value) (fp:List Nat):Prop where
 out:OutAt w 0 g a.rows ov vs fp
 clash:w.cell? ⟨g,1,none⟩=some (.bool a.clash)
 ok:AnsOk a
theorem En.off (h:En w g a ov vs fp) (b:w'.heap[g]?=w.heap[g]?) (d:∀ k,ov.ownBlock=some k->w'.heap[k]?=w.heap[k]?) (c:∀ k∈fp,w'.heap[k]?=w.heap[k]?) (e:w.heap.size<=w'.heap.size):En w' g a ov vs fp :=
 ⟨h.out.off b d c e,(xh (w:=w) (a:=⟨g,1,none⟩) b).trans h.clash,h.ok⟩
theorem En.xf {P:Nat->Prop} (h:En w g a ov vs fp) (b:XF P w w') (f:¬ P g) (i:∀ k,ov.ownBlock=some k->¬ P k) (d:∀ k∈fp,¬ P k):En w' g a ov vs fp :=
 h.off (b.block g h.out.lt f) (fun k e=>b.block k (h.out.eB k e) (i k e)) (fun k c=>b.block k (h.out.fpl k c) (d k c)) b.size
theorem En.below (h:En w g a ov vs fp) (b:Below w.heap.size w w'):En w' g a ov vs fp:=h.xf (XF.dS (P:=fun _=>False) b) (fun e=>e) (fun _ _ e=>e) (fun _ _ e=>e)
theorem En.ne (h:En w g a ov vs fp) {k:Nat} {c:Array Value} {t:TypeId} (i:w.heap[k]?=some (.cells c t (0,0))) (d:66≠t) (f:66≠t):g≠k:=fun e=>by
 obtain⟨j,b⟩:=h.out.ty;rw[e,i] at b
 rcases b with b | b
 ·simp at b;exact d b.2.symm
 ·simp at b;exact f b.2.symm
theorem En.wC (h:En w g a ov vs fp):w.frozen? ⟨g,1,none⟩=false:=by
 obtain⟨c,b⟩:=h.out.ty
 rcases b with b | b<;>simp[World.frozen?,b]
theorem En.fP (h:En w g a ov vs fp):ov.ownBlock≠some g:=by
 obtain⟨d,b⟩:=h.out.ty
 rcases b with b | b
 ·exact eD h.out.rows.own b (by decide)
 ·exact eD h.out.rows.own b (by decide)
theorem En.mL (h:En w g a ov vs fp) (b:Bool):En (w.setCell ⟨g,1,none⟩ (.bool b)) g ⟨a.rows,b⟩ ov vs fp:=by
 have f:=h.fP;obtain⟨c,d⟩:=h.out.ty;refine⟨⟨(World.cell?_setCell_other _ _ _ _ (by simp)).trans h.out.cell,by simpa using h.out.lt,by rw[World.frozen?_setCell];exact h.out.free,⟨aX h.out.rows.own (fun k e=>xc _ _ _ _ (fun l=>f (by rw[e,l]))),h.out.rows.len,fun i m u j=>(h.out.rows.rows i m u j).own _ (fun k e=>xc _ _ _ _ (h.out.dis k (h.out.fps u (List.mem_of_getElem? j) k e)).1) (by simp)⟩,⟨c.setIfInBounds 1 (.bool b),?_⟩,h.out.fps,by simpa using h.out.fpl,h.out.dis⟩,World.cell?_setCell_same _ _ _ h.clash,⟨h.ok.rise,h.ok.small⟩⟩
 rcases d with d | d
 ·exact xF (bH d 1 _)
 ·exact xR (bH d 1 _)
structure Ep (P:Nat->Prop) (w w':World) (ov ov':Value) (fp fp':List Nat):Prop where
 xf:XF P w w'
 own:ov'.ownBlock=ov.ownBlock\/∃ b,ov'.ownBlock=some b/\w.heap.size<=b
 fpn:∀ k∈fp',k∈fp\/w.heap.size<=k
theorem Ep.refl (P:Nat->Prop) (w:World) (ov:Value) (fp:List Nat):Ep P w w ov ov fp fp:=⟨XF.refl _ _,xF rfl,fun _ h=>xF h⟩
theorem Ep.trans {P:Nat->Prop} {d:Value} {c:List Nat} (h:Ep P w w1 ov ov1 fp fp1) (i:Ep P' w1 w2 ov1 d fp1 c) (n:∀ k,k<w.heap.size->P' k->P k):Ep P w w2 ov d fp c :=
 ⟨h.xf.trans i.xf n,by
  have o:=h.xf.size
  rcases i.own with e | ⟨b,e,l⟩
  ·rcases h.own with f | ⟨b,f,l⟩
   ·exact xF (e.trans f)
   ·exact xR ⟨b,e.trans f,l⟩
  ·exact xR ⟨b,e,by omega⟩,fun k m=>by
  have o:=h.xf.size
  rcases i.fpn k m with j | j
  ·exact h.fpn k j
  ·exact xR (by omega)⟩
theorem Ep.x {P:Nat->Prop} (h:Ep P w w1 ov ov1 fp fp1) (b:XF P' w1 w2) (c:∀ k,k<w.heap.size->P' k->P k):Ep P w w2 ov ov1 fp fp1 :=
 h.trans ⟨b,xF rfl,fun _ h=>xF h⟩ c
theorem Ep.below {P:Nat->Prop} (h:Ep P w w1 ov ov1 fp fp1) (b:Below w1.heap.size w1 w2):Ep P w w2 ov ov1 fp fp1 :=
 h.x (XF.dS (P:=fun _=>False) b) (fun _ _ e=>e.elim)
theorem OFrame.af (h:OFrame w w' g ov ov' fp fp'):Ep (fun k=>k=g\/ov.ownBlock=some k) w w' ov ov' fp fp':=⟨h.xf,h.own,h.fpn⟩
def Wr (g:Nat) (ov:Value) (k:Nat):Prop:=k=g\/ov.ownBlock=some k
structure OrdBase (w W1:World) (g go gr gb gd:Nat) (ov0:Value) (fp0:List Nat):Prop where
 lg:g<w.heap.size
 lo:∀ k,ov0.ownBlock=some k->k<w.heap.size
 lf:∀ k∈fp0,k<w.heap.size
 go1:w.heap.size<=go/\go<W1.heap.size
 gr1:w.heap.size<=gr/\gr<W1.heap.size
 gb1:w.heap.size<=gb/\gb<W1.heap.size
 gd1:w.heap.size<=gd/\gd<W1.heap.size
def zMd (g go gd:Nat) (ov0:Value) (k:Nat):Prop:=k=g\/k=go\/k=gd\/ov0.ownBlock=some k
structure Ez (w W1 wr:World) (g go gr gb gd:Nat) (ov0:Value) (fp0:List Nat) (rs bs ds:List Int) (rest:List (List Int)) (a:Ans) (ov:Value) (vs:List Value) (fp:List Nat):Prop where
 base:OrdBase w W1 g go gr gb gd ov0 fp0
 fr:Ep (zMd g go gd ov0) W1 wr ov0 ov fp0 fp
 ord:OrdOn wr go gr gb gd rs bs ds rest
 ans:En wr g a ov vs fp
section
variable {w W1 wr:World} {g go gr gb gd:Nat} {ov0:Value} {fp0:List Nat} {rs bs ds:List Int} {rest:List (List Int)} {a:Q.Ans} {ov:Value} {vs:List Value} {fp:List Nat}
theorem Ez.below (h:Ez w W1 wr g go gr gb gd ov0 fp0 rs bs ds rest a ov vs fp) (b:Below wr.heap.size wr w2):Ez w W1 w2 g go gr gb gd ov0 fp0 rs bs ds rest a ov vs fp :=
 ⟨h.base,h.fr.below b,h.ord.below b,h.ans.below b⟩
theorem Ez.lU (h:Ez w W1 wr g go gr gb gd ov0 fp0 rs bs ds rest a ov vs fp) (k:Nat) (d:w.heap.size<=k) (f:k<W1.heap.size):ov.ownBlock≠some k:=fun e=>by
 rcases h.fr.own with c | ⟨b,c,i⟩
 ·have:=h.base.lo k (c.symm.trans e);omega
 ·rw[c] at e;simp at e;omega
theorem Ez.wU (h:Ez w W1 wr g go gr gb gd ov0 fp0 rs bs ds rest a ov vs fp) (k:Nat) (c:w.heap.size<=k) (d:k<W1.heap.size):k ∉ fp:=fun e=>by
 rcases h.fr.fpn k e with b | b
 ·have:=h.base.lf k b;omega
 ·omega
theorem Ez.nQ (h:Ez w W1 wr g go gr gb gd ov0 fp0 rs bs ds rest a ov vs fp) {d:List Int} {c:List (List Int)} (i:Eu wr w2 go 1 gd) (l:OrdOn w2 go gr gb gd rs bs d c):Ez w W1 w2 g go gr gb gd ov0 fp0 rs bs d c a ov vs fp:=by
 have b:=h.base;refine⟨b,h.fr.x (XF.eA i) (fun k _ e=>?_),l,h.ans.xf (XF.eA i) (fun e=>?_) (fun k e f=>?_) (fun k j e=>?_)⟩
 ·rcases e with e | e
  ·exact xR (xF e)
  ·exact xR (xR (xF e))
 ·have:=b.lg;have:=b.go1.1;have:=b.gd1.1
  rcases e with e | e<;>omega
 ·rcases f with f | f<;>subst f
  ·exact h.lU _ b.go1.1 b.go1.2 e
  ·exact h.lU _ b.gd1.1 b.gd1.2 e
 ·rcases e with e | e<;>subst e
  ·exact h.wU _ b.go1.1 b.go1.2 j
  ·exact h.wU _ b.gd1.1 b.gd1.2 j
theorem Ez.tQ (h:Ez w W1 wr g go gr gb gd ov0 fp0 rs bs ds rest a ov vs fp) (f:Eu wr w2 go 1 gd) (i:Below w.heap.size w W1):En w2 g a ov vs fp/\Ep (Wr g ov0) w w2 ov0 ov fp0 fp:=by
 have b:=h.base;refine⟨h.ans.xf (XF.eA f) (fun e=>?_) (fun k e c=>?_) (fun k d e=>?_),(Ep.mk (XF.dS (P:=Wr g ov0) i) (xF rfl) (fun _ h=>xF h):Ep (Wr g ov0) w W1 ov0 ov0 fp0 fp0).trans (h.fr.x (XF.eA f) (fun k _ e=>?_)) (fun k d e=>?_)⟩
 ·have:=b.lg;have:=b.go1.1;have:=b.gd1.1
  rcases e with e | e<;>omega
 ·rcases c with c | c<;>subst c
  ·exact h.lU _ b.go1.1 b.go1.2 e
  ·exact h.lU _ b.gd1.1 b.gd1.2 e
 ·rcases e with e | e<;>subst e
  ·exact h.wU _ b.go1.1 b.go1.2 d
  ·exact h.wU _ b.gd1.1 b.gd1.2 d
 ·rcases e with e | e
  ·exact xR (xF e)
  ·exact xR (xR (xF e))
 ·have:=b.go1.1;have:=b.gd1.1
  rcases e with e | e | e | e
  ·exact xF e
  ·omega
  ·omega
  ·exact xR e
theorem OrdOn.off (h:OrdOn wr go gr gb gd rs bs ds rest) (c:w'.heap[go]?=wr.heap[go]?) (e:w'.heap[gr]?=wr.heap[gr]?) (f:w'.heap[gb]?=wr.heap[gb]?) (i:w'.heap[gd]?=wr.heap[gd]?) (l:wr.heap.size<=w'.heap.size):OrdOn w' go gr gb gd rs bs ds rest:=by
 obtain⟨b,d,k⟩:=h.ctr;exact⟨(xh (w:=wr) (a:=⟨go,0,none⟩) c).trans h.r0,h.rows.aA e,⟨b,d.of (fun j=>xh (w:=wr) (a:=⟨go,j,none⟩) c) (fun j=>World.frozen?_of_block (w:=wr) (a:=⟨go,j,none⟩) c) (xa d.lt l) f i,k⟩,h.len,h.ne,h.neg⟩
theorem Ez.zO (h:Ez w W1 wr g go gr gb gd ov0 fp0 rs bs ds rest a ov vs fp) (c:XF (Wr g ov) wr w2):OrdOn w2 go gr gb gd rs bs ds rest:=by
 have b:=h.base;have i:=h.fr.xf.size;have K:∀ k,w.heap.size<=k->k<W1.heap.size->w2.heap[k]?=wr.heap[k]?:=fun k d f=>c.block k (by omega) (fun e=>by
  rcases e with e | e
  ·have:=b.lg;omega
  ·exact h.lU k d f e)
 exact h.ord.off (K _ b.go1.1 b.go1.2) (K _ b.gr1.1 b.gr1.2) (K _ b.gb1.1 b.gb1.2) (K _ b.gd1.1 b.gd1.2) c.size
theorem Ez.step (h:Ez w W1 wr g go gr gb gd ov0 fp0 rs bs ds rest a ov vs fp) {f:Ans} {c:List Value} (j:En w2 g f ov' c fp') (i:Ep (Wr g ov) wr w2 ov ov' fp fp'):Ez w W1 w2 g go gr gb gd ov0 fp0 rs bs ds rest f ov' c fp' :=
 ⟨h.base,h.fr.trans i (fun k m e=>by
  rcases e with e | e
  ·exact xF e
  ·rcases h.fr.own with d | ⟨b,d,l⟩
   ·exact xR (xR (xR (d.symm.trans e)))
   ·rw[d] at e;simp at e;omega),h.zO i.xf,j⟩
theorem Ez.box (h:Ez w W1 wr g go gr gb gd ov0 fp0 rs bs ds rest a ov vs fp) (k:Nat) (f:w.heap.size<=k) (b:k<W1.heap.size) (c:k≠go) (d:k≠gd):wr.heap[k]?=W1.heap[k]? :=
 h.fr.xf.block k b (fun e=>by
  rcases e with e | e | e | e
  ·have:=h.base.lg;omega
  ·exact c e
  ·exact d e
  ·have:=h.base.lo k e;omega)
theorem Ez.DE (h:Ez w W1 wr g go gr gb gd ov0 fp0 rs bs ds rest a ov vs fp) (d:w.heap.size<=W1.heap.size) (k:Nat) (c:k<w.heap.size) (b:¬ Wr g ov0 k):wr.heap[k]?=W1.heap[k]? :=
 h.fr.xf.block k (by omega) (fun e=>by
  have:=h.base.go1.1;have:=h.base.gd1.1
  rcases e with e | e | e | e
  ·exact b (xF e)
  ·omega
  ·omega
  ·exact b (xR e))
theorem Ez.done (h:Ez w W1 wr g go gr gb gd ov0 fp0 rs bs ds rest a ov vs fp) (c:Below w.heap.size w W1):Ep (Wr g ov0) w wr ov0 ov fp0 fp :=
 ⟨⟨h.fr.xf.os.trans c.os,h.fr.xf.tape.trans c.tape,h.fr.xf.output.trans c.output,Nat.le_trans c.size h.fr.xf.size,fun k d f=>(h.DE c.size k d f).trans (c.block k d)⟩,by
  have:=c.size
  rcases h.fr.own with e | ⟨b,e,i⟩
  ·exact xF e
  ·exact xR ⟨b,e,by omega⟩,fun k d=>by
  have:=c.size
  rcases h.fr.fpn k d with e | e
  ·exact xF e
  ·exact xR (by omega)⟩
end
theorem Ej.wr {o:FA} {f:EE} (h:Ej w o f) (p:En w g a ov vs fp) (q:∀ k,k<w.heap.size->¬ Wr g ov k->W.heap[k]?=w.heap[k]?):Ej W o f:=by
 obtain⟨c,d⟩:=p.out.ty;have u:∀ j l,zAo w j l->¬ Wr g ov j:=fun j l m e=>by
  rcases e with e | e
  ·rcases d with d | d<;>exact oY m d (by decide) e
  ·unfold zAo at m;exact eD p.out.rows.own m (by decide) e
 have t:∀ k,o.ev.ownBlock=some k->¬ Wr g ov k:=fun k e i=>by
  rcases i with i | i
  ·subst i
   rcases d with d | d<;>exact eD h.ev d (by decide) e
  ·rcases p.out.rows.own.2 with ⟨n,_⟩ | ⟨b,v,r,n,_,s,_⟩
   ·rw[n] at i;simp[xb] at i
   ·rw[n] at i;simp[xb] at i;subst i;exact eD h.ev s (by decide) e
 exact h.off (fun j l m=>q j m.lt (u j l m)) (aX h.ev (fun k e=>q k (h.ev.lt k e).2 (t k e)))
theorem Eh.wr {d n:Nat} {l:List Nat} (h:Eh w d n l) (i:En w g a ov vs fp) (j:∀ k,k<w.heap.size->¬ Wr g ov k->W.heap[k]?=w.heap[k]?):Eh W d n l:=by
 obtain⟨c,b⟩:=i.out.ty;refine⟨h.at_.aA (j d h.lt (fun e=>?_)),h.len,h.fits⟩;have f:=h.at_
 rcases e with e | e
 ·rcases b with b | b<;>exact oY f b (by decide) e
 ·unfold zAo at f;exact eD i.out.rows.own f (by decide) e
theorem WdIn.wr {ev l:Value} (h:WdIn w ev l wd) (m:En w g a ov vs fp) (q:∀ k,l.ownBlock=some k->¬ Wr g ov k) (n:∀ k,k<w.heap.size->¬ Wr g ov k->W.heap[k]?=w.heap[k]?) (r:w.heap.size<=W.heap.size):WdIn W ev l wd:=by
 obtain⟨c,f⟩:=m.out.ty;refine⟨aX h.evs (fun k e=>n k (h.evs.lt k e).2 (fun d=>?_)),h.regs.own _ (fun k e=>n k ?_ (q k e)) r⟩
 ·rcases d with d | d
  ·subst d
   rcases f with f | f<;>exact eD h.evs f (by decide) e
  ·rcases m.out.rows.own.2 with ⟨j,_⟩ | ⟨b,s,o,j,_,p,_⟩
   ·rw[j] at d;simp[xb] at d
   ·rw[j] at d;simp[xb] at d;subst d;exact eD h.evs p (by decide) e
 ·rcases h.regs with ⟨i,_⟩ | ⟨t,c,i,_,u,_⟩
  ·rw[i] at e;simp[xb] at e
  ·rw[i] at e;simp[xb] at e;omega
theorem zKD (g:Nat) (m:Ans) (ov:Value) (vs:List Value) (fp:List Nat) (vr:Value) (r:List Int) (B:FA) (f:EE) (T t:Nat) (cs:List Nat) (w:World) (V:En w g m ov vs fp) (hr:zCj w vr r) (q:kCs r/\r.length<1000) (aa:∀ k,vr.ownBlock=some k->¬ Wr g ov k) (hf:Ej w B f) (hc:Eh w t B.n cs) (hn:m.rows.length<100000000) :
  Calls prog 58 #[.pointer (some ⟨g,0,none⟩),vr,.agg (gL B T),.agg #[.slice (some ⟨t,0,none⟩) B.n B.n]] w fun e w'=>e=.returned (.tuple #[])/\∃ ov' j fp',En w' g ⟨eW m.rows r,if m.clash then true else f.cL cs⟩ ov' j fp'/\Ep (Wr g ov) w w' ov ov' fp fp':=by
 obtain⟨x,c,Y,_⟩:=hf.form;obtain⟨n,ev,H,I,J,K,L,M,N,O,S⟩:=B;obtain⟨ya,yc,rfl,_⟩:=hr.form;simp only at Y hc;subst Y;simp only[gL];obtain⟨k0,k1,ad,i⟩:=iM w #[.slice x n c,.slice (some ⟨H,0,none⟩) n n,.slice (some ⟨I,0,none⟩) n n,.slice (some ⟨J,0,none⟩) n n,.slice (some ⟨K,0,none⟩) n n,.slice (some ⟨L,0,none⟩) n n,.slice (some ⟨M,0,none⟩) n n,.slice (some ⟨N,0,none⟩) n n,.slice (some ⟨O,0,none⟩) n n,.slice (some ⟨S,0,none⟩) n n,.slice (some ⟨T,0,none⟩) n n] #[.slice (some ⟨t,0,none⟩) n n] 87 73;have ai:=zAa V;have l:=zAa (V.below i);have HR:=zAa (hr.below i);have HF:=zAa (hf.below i);have HC:=zAa (hc.below i);have F:=zAa i;have o:=zAa aa;generalize Z:(⟨eW m.rows r,if m.clash then true else f.cL cs⟩:Ans)=aj;have G:=zAa Z;clear Z;have lg:=V.out.lt;have p:=zAa V.out.eB;have ae:w.heap.size+2<=0+w.heap.size+2:=by omega
 clear ae i hf hc hr V aa;go_enter func58,ntmps58;go_upto_region 1 with fail
 generalize hE:(w.alloc (.cells #[.slice x n c,.slice (some ⟨H,0,none⟩) n n,.slice (some ⟨I,0,none⟩) n n,.slice (some ⟨J,0,none⟩) n n,.slice (some ⟨K,0,none⟩) n n,.slice (some ⟨L,0,none⟩) n n,.slice (some ⟨M,0,none⟩) n n,.slice (some ⟨N,0,none⟩) n n,.slice (some ⟨O,0,none⟩) n n,.slice (some ⟨S,0,none⟩) n n,.slice (some ⟨T,0,none⟩) n n] 87)).alloc (.cells #[.slice (some ⟨t,0,none⟩) n n] 73)=A at *;have l0:w.heap.size<A.heap.size:=by omega
 have l1:w.heap.size+1<A.heap.size:=by omega
 have K0:=zAa k0;have K1:=zAa k1;clear hE ad k0 k1
 cases z:m.clash
 ·go_wp2_with (first
   | (go_at_call 94;refine (zFa 0 g _ ov m.rows vs fp r _ l.out.out HR.out l.out.ok.rise l.out.ok.small q hn (xe _) (fun k e=>⟨fun s=>o.out k e (xF s),fun s=>o.out k e (xR s)⟩)).mono ?_;rintro e w1 ⟨rfl,ov',j,fp',u,b⟩;have HO:=zAa u;have OF:=zAa b;have C:w1.cell? ⟨g,1,none⟩=some (.bool m.clash):=b.c1.trans l.out.clash;rw[z] at C;have y:g<w1.heap.size:=u.lt;have KE:Hid (∀ k,k<A.heap.size->¬ Wr g ov k->w1.heap[k]?=A.heap[k]?):=(fun k h1 U=>b.block k h1 (fun e=>U (xF e)) (fun e=>U (xR e)));have d:w1.heap[w.heap.size]?=some (.cells #[.slice x n c,.slice (some ⟨H,0,none⟩) n n,.slice (some ⟨I,0,none⟩) n n,.slice (some ⟨J,0,none⟩) n n,.slice (some ⟨K,0,none⟩) n n,.slice (some ⟨L,0,none⟩) n n,.slice (some ⟨M,0,none⟩) n n,.slice (some ⟨N,0,none⟩) n n,.slice (some ⟨O,0,none⟩) n n,.slice (some ⟨S,0,none⟩) n n,.slice (some ⟨T,0,none⟩) n n] 87 (0,0)):=(b.block _ l0 (by omega) (fun e=>by have:=p.out _ e;omega)).trans K0.out;have v:w1.heap[w.heap.size+1]?=some (.cells #[.slice (some ⟨t,0,none⟩) n n] 73 (0,0)):=(b.block _ l1 (by omega) (fun e=>by have:=p.out _ e;omega)).trans K1.out;have ag:w.heap.size<w1.heap.size:=xa l0 b.size;have ah:w.heap.size+1<w1.heap.size:=xa l1 b.size;clear u b;have d0:=aD d 0 _ rfl;have d1:=aD d 1 _ rfl;have d2:=aD d 2 _ rfl;have d3:=aD d 3 _ rfl;have d4:=aD d 4 _ rfl;have d5:=aD d 5 _ rfl;have d6:=aD d 6 _ rfl;have d7:=aD d 7 _ rfl;have d8:=aD d 8 _ rfl;have d9:=aD d 9 _ rfl;have e0:=aD v 0 _ rfl;clear d v;have ac:=zAa (HF.out.wr l.out KE.out);have ab:=zAa (HC.out.wr l.out KE.out);have D:Hid (En w1 g ⟨eW m.rows r,false⟩ ov' j fp'):=⟨HO.out,C,l.out.ok.eW r q _⟩)
   | (go_at_call 95;refine (zGT (FA.mk n (.slice x n c) H I J K L M N O S) f t cs _ ac.out ab.out).mono ?_;rintro e w2 ⟨rfl,X⟩;have E:=zAa X;have q1:=aC E.out y C;have ak:=xa y E.out.size;have fz:=(D.out.below E.out).wC;clear X))
  go_end0;refine⟨rfl,ov',j,fp',?_,?_⟩
  ·have h5:=(D.out.below E.out).mL (f.cL cs);rw[<- G.out,z];exact h5
  ·exact (((Ep.refl (Wr g ov) w ov fp).below F.out).trans OF.out.af (fun k _ e=>e)).below E.out |>.x (XF.jQ _ _ _ _) (fun k _ e=>xF e)
 ·go_wp2_with (first
   | (go_at_call 94;refine (zFa 0 g _ ov m.rows vs fp r _ l.out.out HR.out l.out.ok.rise l.out.ok.small q hn (xe _) (fun k e=>⟨fun s=>o.out k e (xF s),fun s=>o.out k e (xR s)⟩)).mono ?_;rintro e w1 ⟨rfl,ov',j,fp',u,b⟩;have HO:=zAa u;have OF:=zAa b;have C:w1.cell? ⟨g,1,none⟩=some (.bool m.clash):=b.c1.trans l.out.clash;rw[z] at C;have y:g<w1.heap.size:=u.lt;have KE:Hid (∀ k,k<A.heap.size->¬ Wr g ov k->w1.heap[k]?=A.heap[k]?):=(fun k h1 U=>b.block k h1 (fun e=>U (xF e)) (fun e=>U (xR e)));have d:w1.heap[w.heap.size]?=some (.cells #[.slice x n c,.slice (some ⟨H,0,none⟩) n n,.slice (some ⟨I,0,none⟩) n n,.slice (some ⟨J,0,none⟩) n n,.slice (some ⟨K,0,none⟩) n n,.slice (some ⟨L,0,none⟩) n n,.slice (some ⟨M,0,none⟩) n n,.slice (some ⟨N,0,none⟩) n n,.slice (some ⟨O,0,none⟩) n n,.slice (some ⟨S,0,none⟩) n n,.slice (some ⟨T,0,none⟩) n n] 87 (0,0)):=(b.block _ l0 (by omega) (fun e=>by have:=p.out _ e;omega)).trans K0.out;have v:w1.heap[w.heap.size+1]?=some (.cells #[.slice (some ⟨t,0,none⟩) n n] 73 (0,0)):=(b.block _ l1 (by omega) (fun e=>by have:=p.out _ e;omega)).trans K1.out;have ag:w.heap.size<w1.heap.size:=xa l0 b.size;have ah:w.heap.size+1<w1.heap.size:=xa l1 b.size;clear u b))
  go_end0;refine⟨rfl,ov',j,fp',?_,?_⟩
  ·rw[<- G.out,z];exact⟨HO.out,C,l.out.ok.eW r q _⟩
  exact ((Ep.refl (Wr g ov) w ov fp).below F.out).trans OF.out.af (fun k _ e=>e)
end Go.Proofs.YtonodfjdiepglaaGreatDoor
