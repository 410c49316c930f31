import Derived.Test.YtonodfjdiepglaaGreatDoorL46
set_option linter.unusedVariables false
set_option linter.unusedSimpArgs false
set_option maxHeartbeats 12800000
namespace Go.Proofs.YtonodfjdiepglaaGreatDoor
open Go Go.RowKit Go.Proofs.Tryz P Q R
set_option maxRecDepth 1000000
variable {w w1:World} {B capr gr gx k n nc oc ol tc tl:Nat} {bv nv ov tv:Value} {A A2:AS} {xl:Lh} {b:List Tree} {ovs tvs:List Value} {F G:List Nat} {nms:List ByteArray} {a:Act} {K0 K8 P9:Act->World->Prop} {R0:Ending->World->Prop} {na oa ta:Option Addr} {s:ByteArray}
open Go.Exit renaming inBlock→xF
open _root_.ByteArray renaming toList→xR
open Go.RowKit.Below renaming heap_alloc→xW,heap_setCell→xe
open Go.Act renaming eval→x1
open List renaming length_map→x2,length_append→x3,length_cons→x4,length_nil→x5,getElem_mem→x7,map_append→x8,getElem?_append_right→x9,append_assoc→xg,take_succ_eq_append_getElem→xh
open Nat renaming zero_add→x6
open Go.World renaming news_of_block→xa,cell?_of_block→xb,frozen?_of_block→xc
open Go.Value renaming ownBlock→xd
theorem zMb {x:ByteArray} (m:AP w1 w a gr n capr tv ov nv A2 k gx xl bv b tvs ovs G F nms) (hN:Hid (tH w1 gr n capr A k x K0)) (HR:Hid (dG A ((k:Int)+1) x.toList=some { A2 with s:=R.put A2.s (.mk xl b) })) (hz:SzA (R.put A2.s (.mk xl b))) (al:A2.s.ts≠[]) (ho:A2.s.opn=[]) :
  dK prog ((aL f5).drop 9) (xF 1 (Exit.then K0 (Exit.then P9 (xF 0 (Exit.then K8 (bodyPost prog f5 R0)))))) a w:=by
 obtain⟨i0,hi,am,an,ao⟩:=info_parts Tryz.infoLn;obtain⟨g,t,L⟩:=iD A2.s.ts al;have aA:=m.ln.lt;have q3:=m.bel.size;have d:=m.mem;rw[L,ho] at d;obtain⟨au,ut,rfl⟩:=iD tvs (by intro e;have:=d.lt;rw[e] at this;simp at this);have J:au.length=g.length:=by simpa using d.lt
 have y:=d.th;simp only[x3,x4,x5,x6] at y;obtain⟨i,tc,rfl,U,V⟩:=y.form (by omega);have I:=d.kids;have ak:ovs=[]:=List.length_eq_zero_iff.1 d.lo;subst ak;simp only[List.append_nil,x8,List.map_cons,List.map_nil] at I;have D:=d.fr;obtain⟨oa,oc,rfl⟩:∃ a c,ov=.slice a 0 c:=by
  rcases D.2 with ⟨e,_⟩ | ⟨j,N,O,e,_⟩
  ·exact⟨none,0,e⟩
  ·exact⟨_,N,e⟩
 have l:=y;have T:=V;have ai:w.cell? ⟨i,g.length*3+1,none⟩=some ut:=by
  rw[l.cellAt _ (by omega),BE _ _ _ _ J,x9 (by rw[xH _ _ J];omega),xH _ _ J,show g.length*3+1-g.length*3=1 by omega];rfl
 have aj:=l.frozenAt (g.length*3+1);obtain⟨_,Fu,_,_,aa,_⟩:=zBW.last I;obtain⟨xs,q⟩:=aa.pS;obtain⟨ua,uc,rfl⟩:∃ a N,ut=.slice a t.body.length N:=by
  rcases q.2 with ⟨e,h0⟩ | ⟨j,N,O,e,_⟩
  ·exact⟨none,0,by rw[e,h0]⟩
  ·exact⟨_,N,e⟩
 have v:R.put A2.s (.mk xl b)={ A2.s with ts:=g++[{ t with body:=t.body++[.mk xl b] }] }:=by
  simp only[R.put,ho,List.isEmpty_nil,if_true];rw[L,zF]
 have ax:g.length<4:=by have:=hz.nth;rw[v] at this;simp at this;omega
 have az:kAs t.body<=40:=by
  have h8:=hz.all;rw[v] at h8;have h9:=h8 _ (List.mem_append_right _ (List.mem_singleton.2 rfl));simp only[] at h9;rw[vQ] at h9;have:=uB b;omega
 have z:=zAa d;have ag:bv.oneCell'=true:=m.kids.cY;have HO:Hid ((w.drew.alloc (.cells (bV xl bv) 44)).ownsRow w1.heap.size 44 9 (.slice ua t.body.length uc) t.body.length xs):=(q.drew).alloc _;have ad:Hid (∀ j u,(bV xl bv).toList[j]?=some u->(w.drew.alloc (.cells (bV xl bv) 44)).cell? ((⟨w.heap.size,0,none⟩:Addr).add j)=some u):=xa (t:=44) (fr:=(0,0)) (by have:=heap_alloc_new w.drew (.cells (bV xl bv) 44);simpa using this);have eb:(w.drew.alloc (.cells (bV xl bv) 44)).heap[i]?=w.heap[i]?:=xW _ _ _ T;have HC:Hid ((w.drew.alloc (.cells (bV xl bv) 44)).cell? ⟨i,g.length*3+1,none⟩=some (.slice ua t.body.length uc)):=(xb (w:=w) (a:=⟨i,g.length*3+1,none⟩) eb).trans ai;have HF:Hid ((w.drew.alloc (.cells (bV xl bv) 44)).frozen? ⟨i,g.length*3+1,none⟩=false):=(xc (w:=w) (a:=⟨i,g.length*3+1,none⟩) eb).trans aj;obtain⟨O,C⟩:=eC l (k:=i) rfl;have Z:some i≠(Value.slice ua t.body.length uc).ownBlock:=Ne.symm (mJ q C (by decide));obtain⟨_,_,l0,l1,l2,l3,l4,l5,l6,l7,l8⟩:=m.ln.facts;have ay:t.body.length<10000:=by have:=CR t.body;omega
 have E:=zAa q;clear eb C q l;have aw:(g.length:Int)<(g.length:Int)+1:=by omega
 have HZ:=zAa hz;clear d I aa hz L y D;obtain⟨sz,df,s5,s6,s7,s8,s9,ap,aq,ar⟩:=m.fr;have ab:=m.s16;refine aR 9 (by rw[eV];decide) (fun K o=>?_);have r:=zAa o;clear o;rw[hD sz df];simp only[gF,s5,s6,s7,s8,s9,ap,aq,ar,ab];generalize gA a=ff
 conv=>arg 2;whnf
 go_wp2_with fail;refine r.out _ _ ?_;clear r;refine aR 10 (by rw[eV];decide) (fun K o=>?_);have r:=zAa o;clear o
 conv=>arg 2;whnf
 go_wp2_with fail;refine r.out _ _ ?_;clear r;refine aR 11 (by rw[eV];decide) (fun K o=>?_);have r:=zAa o;clear o
 conv=>arg 2;whnf
 go_wp2_with fail;refine r.out _ _ ?_;clear r;refine aR 12 (by rw[eV];decide) (fun K o=>?_);have r:Hid (∀ a w,K0 a w->K a w):=fun a w h=>o a w h
 clear o
 conv=>arg 2;whnf
 go_wp2_with fail;go_region_law (refine step_append_lies _ rfl (.tmp 262) (.tmp 264) 40 rfl w1.heap.size 44 i0 (.agg (bV z0 (.slice none 0 0))) 9 120 underlying40 hi am an ao rfl (by decide) (.slice ua t.body.length uc) t.body.length xs (by simp[x1]) (by exact HO.out) ⟨w.heap.size,0,none⟩ 1 1 (bV xl bv).toList (by simp[x1]) rfl (by exact ad.out) (by exact zEu xl bv ag) (by decide) (by unfold maxLen;omega) (by omega) (by simp;omega) (w.heap.size+1) (by simp) ?_;intro g1 M w5 p f S av;have c1:=(f.cell_far ⟨i,g.length*3+1,none⟩ (by simp;omega) Z).trans HC.out;have f1:=(f.frozen_far ⟨i,g.length*3+1,none⟩ (by simp;omega) Z).trans HF.out)
 all_goals
  obtain⟨G3,W⟩:=RdM.ER (x:=xl) (W0:=w.drew.alloc (.cells (bV xl bv) 44)) z.out rfl m.kids m.dis (fun j H=>xW _ _ _ H) (by simp) E.out p f (by rcases S with ha | ha;exact .inl ha.symm;exact .inr (fun j H=>by simp[xd] at H;omega));have ac:=zAa W;have af:Below w1.heap.size w1 w5:=Below.grown ((m.bel.drew).alloc q3 _) f (by simp;omega) (fun j H=>(E.out.lt j H).1);have X:=xX m.nm E.out (W0:=w.drew.alloc (.cells (bV xl bv) 44)) (fun j H=>xW _ _ _ H) (by simp) f (by decide);have Y:(w5.setCell ⟨i,g.length*3+1,none⟩ (.slice (some ⟨g1,0,none⟩) (t.body.length+1) M)).ownsRow w1.heap.size 9 1 nv nms.length (nms.map Value.string):=aX X (fun j e=>xe _ _ _ _ (fun e'=>by
   have e2:j=i:=by simp at e';omega
   obtain⟨c,hc⟩:=eC m.nm e;obtain⟨c2,ah⟩:=eC z.out.th (k:=i) rfl;rw[e2,ah] at hc;simp at hc))
  have ae:=zAa Y;clear W p f S X Y;go_wp2_with fail;refine r.out _ _ ?_;exact hN.out _ _ _ _ _ _ _ _ _ nms HR.out (by rw[v];show RdM _ _ _ _ _ A2.s.opn _ _ _;rw[ho];exact ac.out) ae.out m.eq (af.setCell U _) ⟨rfl,rfl,rfl,rfl,rfl,rfl,rfl,rfl,by rw[v];rfl,rfl⟩
theorem zMc {x:ByteArray} (p:AP w1 w a gr n capr tv ov nv A2 k gx xl bv b tvs ovs G F nms) (hN:Hid (tH w1 gr n capr A k x K0)) (HR:Hid (dG A ((k:Int)+1) x.toList=some { A2 with s:=R.put A2.s (.mk xl b) })) (O:SzA (R.put A2.s (.mk xl b))) (ao:A2.s.ts≠[]) (ho:A2.s.opn≠[]) :
  dK prog ((aL f5).drop 9) (xF 1 (Exit.then K0 (Exit.then P9 (xF 0 (Exit.then K8 (bodyPost prog f5 R0)))))) a w:=by
 obtain⟨i0,hi,ap,aq,ar⟩:=info_parts Tryz.infoLn;obtain⟨us,t,D⟩:=iD A2.s.ts ao;have aI:=p.ln.lt;have q3:=p.bel.size;have d:=p.mem;rw[D] at d;obtain⟨ax,ut,rfl⟩:=iD tvs (by intro e;have:=d.lt;rw[e] at this;simp at this);have aE:ax.length=us.length:=by simpa using d.lt
 have N:=d.th;simp only[x3,x4,x5,x6] at N;obtain⟨bt,tc,rfl,ay,az⟩:=N.form (by omega);obtain⟨m,f,J⟩:=iD A2.s.opn ho;rw[J] at d;obtain⟨ac,u,rfl⟩:=iD ovs (by intro e;have:=d.lo;rw[e] at this;simp at this);have M:ac.length=m.length:=by simpa using d.lo
 have i:=d.fr;simp only[x3,x4,x5,x6] at i;obtain⟨o,oc,rfl,V,U⟩:=i.form (by omega);have am:w.cell? ⟨o,m.length*10,none⟩=some u:=by
  rw[i.cellAt _ (by omega),vR _ _ _ _ M,x9 (by rw[pZ _ _ M];omega),pZ _ _ M,show m.length*10-m.length*10=0 by omega];rfl
 have an:=i.frozenAt (m.length*10);have C:=d.kids;rw[x8 (l₁:=m),<- xg,<- xg] at C;simp only[List.map_cons,List.map_nil] at C;obtain⟨_,Fu,_,_,ab,_⟩:=zBW.last C;obtain⟨xs,y⟩:=ab.pS;obtain⟨ua,uc,rfl⟩:∃ a cc,u=.slice a f.l.length cc:=by
  rcases y.2 with ⟨e,h0⟩ | ⟨j,cc,ai,e,_⟩
  ·exact⟨none,0,by rw[e,h0]⟩
  ·exact⟨_,cc,e⟩
 have aa:A2.s.opn.isEmpty=false:=by rw[J];cases m<;>rfl
 have v:R.put A2.s (.mk xl b)={ A2.s with opn:=m++[{ f with l:=f.l++[.mk xl b] }] }:=by
  simp only[R.put,aa,Bool.false_eq_true,if_false];rw[J,xA]
 have aB:m.length<2:=by have:=O.nop;rw[v] at this;simp at this;omega
 have aF:us.length<4:=by have:=O.nth;rw[v] at this;simp only[] at this;rw[D] at this;simp at this;omega
 have aH:kAs f.l<=40:=by
  have h8:=O.sum;have h9:=O.cnt;rw[v] at h8 h9;simp only[] at h8 h9;rw[tO,vQ] at h8;have:=uB b;have:=AN m;have:=AO A2.s.ts;omega
 have E:=zAa d;have ak:bv.oneCell'=true:=p.kids.cY;have HO:Hid ((w.drew.alloc (.cells (bV xl bv) 44)).ownsRow w1.heap.size 44 9 (.slice ua f.l.length uc) f.l.length xs):=(y.drew).alloc _;have af:Hid (∀ j u,(bV xl bv).toList[j]?=some u->(w.drew.alloc (.cells (bV xl bv) 44)).cell? ((⟨w.heap.size,0,none⟩:Addr).add j)=some u):=xa (t:=44) (fr:=(0,0)) (by have:=heap_alloc_new w.drew (.cells (bV xl bv) 44);simpa using this);have eb:(w.drew.alloc (.cells (bV xl bv) 44)).heap[o]?=w.heap[o]?:=xW _ _ _ U;have HC:Hid ((w.drew.alloc (.cells (bV xl bv) 44)).cell? ⟨o,m.length*10,none⟩=some (.slice ua f.l.length uc)):=(xb (w:=w) (a:=⟨o,m.length*10,none⟩) eb).trans am;have HF:Hid ((w.drew.alloc (.cells (bV xl bv) 44)).frozen? ⟨o,m.length*10,none⟩=false):=(xc (w:=w) (a:=⟨o,m.length*10,none⟩) eb).trans an;obtain⟨ai,H⟩:=eC i (k:=o) rfl;have Z:some o≠(Value.slice ua f.l.length uc).ownBlock:=Ne.symm (mJ y H (by decide));obtain⟨_,_,l0,l1,l2,l3,l4,l5,l6,l7,l8⟩:=p.ln.facts;have aG:f.l.length<10000:=by have:=CR f.l;omega
 have I:=zAa y;clear eb H y i;have aC:(us.length:Int)<(us.length:Int)+1:=by omega
 have aD:(m.length:Int)<(m.length:Int)+1:=by omega
 have HZ:=zAa O;have ah:=zAa D;clear d C ab O D N;obtain⟨sz,df,s5,s6,s7,s8,s9,au,av,aw⟩:=p.fr;have ad:=p.s16;refine aR 9 (by rw[eV];decide) (fun K q=>?_);have z:=zAa q;clear q;rw[hD sz df];simp only[gF,s5,s6,s7,s8,s9,au,av,aw,ad];generalize gA a=ff
 conv=>arg 2;whnf
 go_wp2_with fail;refine z.out _ _ ?_;clear z;refine aR 10 (by rw[eV];decide) (fun K q=>?_);have z:=zAa q;clear q
 conv=>arg 2;whnf
 go_wp2_with fail;refine z.out _ _ ?_;clear z;refine aR 11 (by rw[eV];decide) (fun K q=>?_);have z:=zAa q;clear q
 conv=>arg 2;whnf
 go_wp2_with fail;refine z.out _ _ ?_;clear z;refine aR 12 (by rw[eV];decide) (fun K q=>?_);have z:Hid (∀ a w,K0 a w->K a w):=fun a w h=>q a w h
 clear q
 conv=>arg 2;whnf
 go_wp2_with fail;go_region_law (refine step_append_lies _ rfl (.tmp 250) (.tmp 252) 40 rfl w1.heap.size 44 i0 (.agg (bV z0 (.slice none 0 0))) 9 120 underlying40 hi ap aq ar rfl (by decide) (.slice ua f.l.length uc) f.l.length xs (by simp[x1]) (by exact HO.out) ⟨w.heap.size,0,none⟩ 1 1 (bV xl bv).toList (by simp[x1]) rfl (by exact af.out) (by exact zEu xl bv ak) (by decide) (by unfold maxLen;omega) (by omega) (by simp;omega) (w.heap.size+1) (by simp) ?_;intro g1 S w5 r g T aA;have c1:=(g.cell_far ⟨o,m.length*10,none⟩ (by simp;omega) Z).trans HC.out;have f1:=(g.frozen_far ⟨o,m.length*10,none⟩ (by simp;omega) Z).trans HF.out)
 all_goals
  obtain⟨G3,W⟩:=RdM.AH (x:=xl) (W0:=w.drew.alloc (.cells (bV xl bv) 44)) E.out rfl p.kids p.dis (fun j L=>xW _ _ _ L) (by simp) I.out r g (by rcases T with ha | ha;exact .inl ha.symm;exact .inr (fun j L=>by simp[xd] at L;omega));have ae:=zAa W;have aj:Below w1.heap.size w1 w5:=Below.grown ((p.bel.drew).alloc q3 _) g (by simp;omega) (fun j L=>(I.out.lt j L).1);have X:=xX p.nm I.out (W0:=w.drew.alloc (.cells (bV xl bv) 44)) (fun j L=>xW _ _ _ L) (by simp) g (by decide);have Y:(w5.setCell ⟨o,m.length*10,none⟩ (.slice (some ⟨g1,0,none⟩) (f.l.length+1) S)).ownsRow w1.heap.size 9 1 nv nms.length (nms.map Value.string):=aX X (fun j e=>xe _ _ _ _ (fun e'=>by
   have e2:j=o:=by simp at e';omega
   obtain⟨c,hc⟩:=eC p.nm e;obtain⟨c2,al⟩:=eC E.out.fr (k:=o) rfl;rw[e2,al] at hc;simp at hc))
  have ag:=zAa Y;clear W r g T X Y;go_wp2_with fail;refine z.out _ _ ?_;exact hN.out _ _ _ _ _ _ _ _ _ nms HR.out (by rw[v];show RdM _ _ _ _ A2.s.ts _ _ _ _;rw[ah.out];exact ae.out) ag.out p.eq (aj.setCell V _) ⟨rfl,rfl,rfl,rfl,rfl,rfl,rfl,rfl,by rw[v];rfl,rfl⟩
theorem agR {x:ByteArray} (c:AC w1 w gr n ta oa na tl tc ol oc nc A k x tvs ovs G nms) (f:AFr a gr n capr (.slice ta tl tc) (.slice oa ol oc) (.slice na ol nc) A k) (p:Hid (qT w1 A k x (Exit.then P9 (xF 0 (Exit.then K8 (bodyPost prog f5 R0)))))) (r:Hid (tH w1 gr n capr A k x K0)) :
  dK prog ((aL f5).drop 0) (xF 1 (Exit.then K0 (Exit.then P9 (xF 0 (Exit.then K8 (bodyPost prog f5 R0)))))) a w:=by
 have E:=c.lt;have H:=c.nn;refine agA c f ?_;intro a f d i
 cases hb:thB x.toList with
 | some b=>rw[hb] at i;exact agT c f p r d i hb
 | none =>
  rw[hb] at i;refine agN c f p d i hb ?_;intro a J l I q z f d v g e;have y:Hid (yL w1 gr n capr A k x (fun a w=>dK prog ((aL f5).drop 9) (xF 1 (Exit.then K0 (Exit.then P9 (xF 0 (Exit.then K8 (bodyPost prog f5 R0)))))) a w)):=fun A2 xl b a w tv ov nv gx bv tvs ovs G F nms o j t=>by
   have m:=(zPt c.mem.sz c.nm (by omega) o).1;by_cases ho:A2.s.opn=[]
   ·exact zMb t r o m (by rw[j];exact l) ho
   ·exact zMc t r o m (by rw[j];exact l) ho
  cases hl:lH A x.toList
  ·rw[hl] at e;have u:Hid (dG A ((k:Int)+1) x.toList=fO A x.toList):=zPa hb l hl;refine agE c f p u q d g e ?_;intro a K C f d g;exact⟨fun m=>agZ c f p r u C m q d,fun m D=>agS c f p (fun A2 xl b a w tv ov nv gx bv tvs ovs G F nms o j t=>D.out _ _ (y.out A2 xl b a w tv ov nv gx bv tvs ovs G F nms o j t)) u C m q z d g⟩
  ·rw[hl] at e;exact agL c f y hb l q z d v g e hl
def zLT (w1:World) (gr n capr:Nat) (L:List (List UInt8)) (last:Option (List UInt8)) (r:List R.Th × Int × Int) (a:Act) (w:World):Prop :=
 ∃ (k:Nat) (A:AS) (ta oa na:Option Addr) (tl tc ol oc nc:Nat) (tvs ovs:List Value) (G:List Nat) (nms:List ByteArray),k<=n/\tl=A.s.ts.length/\ol=A.s.opn.length/\AsM w w1.heap.size A (.slice ta tl tc) (.slice oa ol oc) (.slice na ol nc) tvs ovs G nms/\NmA A k/\Below w1.heap.size w1 w/\AFr a gr n capr (.slice ta tl tc) (.slice oa ol oc) (.slice na ol nc) A k/\(0<k->A.s.ts≠[])/\r=nR last (fZ A k (L.drop k))
def AQ (n:Nat) (a:Act) (_:World):Nat:=n-(intOf (gA a 12)).toNat
theorem aB2:(aB f5).getD 2 .skip=.block 1 (sG ((aB f5).getD 2 .skip)):=by kernel_rfl
theorem AW {i:Nat} {e:TypeId} {v:Value} {l:List Value} (h:w.ownsRow B e i v n l):∃ a c,v=.slice a n c:=by
 rcases h.2 with ⟨e,g⟩ | ⟨j,d,f,e,_⟩
 ·exact⟨none,0,by rw[e,g]⟩
 ·exact⟨_,d,e⟩
theorem zLB {xs:List ByteArray} {last:Option (List UInt8)} {r:List R.Th × Int × Int} (O:Hid (∀ (i:Nat) (y:ByteArray),xs[i]?=some y->w1.cell? ⟨gr,i,none⟩=some (.string y))) (ap:n<xs.length) (ag:Hid (∀ y∈xs,y.size<=2000)) (hn:n<2001) (ae:gr<w1.heap.size) (hI:zLT w1 gr n capr ((xs.map xR).take n) last r a w)
  (hX:Hid (∀ (a:Act) (w:World) (A:AS) (ta oa na:Option Addr) (tl tc ol oc nc:Nat) (tvs ovs:List Value) (G:List Nat) (nms:List ByteArray),tl=A.s.ts.length->ol=A.s.opn.length->AsM w w1.heap.size A (.slice ta tl tc) (.slice oa ol oc) (.slice na ol nc) tvs ovs G nms->Below w1.heap.size w1 w->AFr a gr n capr (.slice ta tl tc) (.slice oa ol oc) (.slice na ol nc) A n->(0<n->A.s.ts≠[])->r=nR last (some A,(n:Int))->K8 a w))
  (hE:Hid (∀ (a:Act) (w:World) (k:Nat),a.tmps.size=324->a.defers=[]->gA a 2=.slice none 0 0->gA a 3=.int .i64 2->gA a 4=.int .i64 ((k:Int)+1)->r.2=(2,(k:Int)+1)->Below w1.heap.size w1 w->bodyPost prog f5 R0 .ret a w)) :
  Code.wp prog (Code.loop (AE f5)) (xF 0 (Exit.then K8 (bodyPost prog f5 R0))) a w:=by
 refine wp_loop (zLT w1 gr n capr ((xs.map xR).take n) last r) (AQ n) hI (fun a w hL=>?_);clear hI;obtain⟨k,A,ta,oa,na,tl,tc,ol,oc,nc,tvs,ovs,G,nms,hk,e,d,Z,L,E,hf,M,hr⟩:=hL;refine pQ _ _ _ _ ?_;show dK prog ((aB f5).drop 0) _ a w;have af:AQ n a w=n-k:=by unfold AQ;rw[hf.s12];simp[intOf]
 have HF:=zAa hf;obtain⟨sz,df,s5,s6,s7,s8,s9,v,z,p⟩:=hf;refine aR 0 (by rw[uO];decide) (fun K g=>?_);have j:=zAa g;clear g;rw[hD sz df];simp only[gF,s5,s6,s7,s8,s9,v,z,p];generalize gA a=f
 conv=>arg 2;whnf
 by_cases hlt:k<n
 ·have J:(k:Int)<(n:Int):=by omega
  have I:k<xs.length:=by omega
  have D:=zAa (O.out k xs[k] (List.getElem?_eq_getElem I));have U:=ag.out xs[k] (x7 I);have HD:Hid (((xs.map xR).take n).drop k=xs[k].toList::((xs.map xR).take n).drop (k+1)):=by
   unfold Hid;rw[List.drop_eq_getElem_cons (by simp;omega)];simp
  generalize xs[k]=x at *;have c:AC w1 w gr n ta oa na tl tc ol oc nc A k x tvs ovs G nms:=⟨e,d,Z,L,E,hlt,hn,D.out,ae,U⟩;have C:=zAa c;have Y:=zAa hr;clear e d Z L E D U c hr;go_wp2_with fail;refine j.out _ _ ?_;clear j;refine aR 1 (by rw[uO];decide) (fun K g=>?_);have j:=zAa g;clear g
  conv=>arg 2;whnf
  go_wp2_with fail;refine j.out _ _ ?_;clear j;refine aR 2 (by rw[uO];decide) (fun K g=>?_);rw[aB2];refine wp_block (pQ _ _ _ _ ?_);refine agR C.out ⟨rfl,rfl,rfl,rfl,rfl,rfl,rfl,rfl,rfl,rfl⟩ ?_ ?_
  ·intro a w z1 z2 g2 g3 g4 S E;refine hE.out a w k z1 z2 g2 g3 g4 ?_ E;rw[Y.out,HD.out,fZ,S];rfl
  ·intro a2 w2 A2 tv ov nv X W G2 V S m o H ac ad;refine g _ _ ?_;clear g;obtain⟨T,q⟩:=zPt C.out.mem.sz C.out.nm (by omega) S;have l:=congrArg List.length H;rw[x2,q.len] at l;rw[l] at o;obtain⟨am,an,rfl⟩:=AW m.th;obtain⟨aj,ak,rfl⟩:=AW m.fr;obtain⟨ah,ai,rfl⟩:=AW o;have HM:=zAa (AsM.mk m (by rw[l];exact o) H T);have ab:Hid (r=nR last (fZ A2 ((k+1:Nat):Int) (((xs.map xR).take n).drop (k+1)))):=by
    unfold Hid;rw[Y.out,HD.out,fZ,S];rfl
   have aa:=zAa (kHp S);clear m o T l;obtain⟨sz,df,s5,s6,s7,s8,s9,v,z,p⟩:=ad;refine aR 3 (by rw[uO];decide) (fun K g=>?_);have j:=zAa g;clear g;rw[hD sz df];generalize e:A2.s.ts.length=ao at *;generalize d:A2.s.opn.length=al at *;have u:=zAa e;have t:=zAa d;clear e d;simp only[gF,s5,s6,s7,s8,s9,v,z,p];generalize gA a2=f2
   conv=>arg 2;whnf
   go_wp2_with fail;refine j.out _ _ ?_;refine⟨⟨k+1,A2,am,aj,ah,ao,an,al,ak,ai,X,W,G2,V,hlt,u.out.symm,t.out.symm,HM.out,by exact_mod_cast q,ac,⟨rfl,rfl,rfl,rfl,rfl,rfl,rfl,rfl,rfl,by push_cast;rfl⟩,fun _=>aa.out,ab.out⟩,?_⟩;rw[af];show n-((k:Int)+1).toNat<n-k;omega
 ·obtain rfl:k=n:=by omega
  have J:¬ (k:Int)<(k:Int):=by omega
  have N:r=nR last (some A,(k:Int)):=by
   rw[hr,List.drop_eq_nil_of_le (by simp;omega)];rfl
  have Y:=zAa N;have HM:=zAa Z;have u:=zAa e;have t:=zAa d;clear hr N Z e d;go_wp2_with fail;refine j.out _ _ ?_;clear j;refine aR 1 (by rw[uO];decide) (fun K g=>?_);clear g
  conv=>arg 2;whnf
  go_wp2_with fail;exact hX.out _ _ A ta oa na tl tc ol oc nc tvs ovs G nms u.out t.out HM.out E ⟨rfl,rfl,rfl,rfl,rfl,rfl,rfl,rfl,rfl,rfl⟩ M Y.out
namespace R
theorem kHV (l:List Th) (t:Th):jF (l++[t])=jF l+(bM nG t.body+2*bM isB t.body):=by
 induction l with
 | nil=>simp[jF]
 | cons a r ih=>simp only[List.cons_append,jF,ih];omega
theorem kKJ:nG=dQ [102,101,110,99,101] []:=by
 funext x
 unfold nG dQ;rw[show kAe.toList=[102,101,110,99,101] from aP _];simp
theorem zPu (c:List Th) (g:∀ t∈c,kAs t.body<=40) (k:Nat) (f:k<=c.length):0<=jF (c.take k)/\jF (c.take k)<=120*k:=by
 induction k with
 | zero=>simp[jF]
 | succ k ih =>
  have d:k<c.length:=f;rw[xh d,kHV];have i:=ih (by omega);have e:=g _ (x7 d);have j:=iR nG c[k].body;have l:=iR isB c[k].body;unfold kAs at e;omega
end R
structure BFr (a:Act) (bt tl tc:Nat) (wi:Bool) (ev:Int) (k:Nat):Prop where
 sz:a.tmps.size=324
 df:a.defers=[]
 s6:gA a 6=.int .i64 ev
 s7:gA a 7=.slice (some ⟨bt,0,none⟩) tl tc
 s33:gA a 33=.bool wi
 s34:gA a 34=.int .i64 (k:Int)
theorem zLN {wr w4:World} {x:Nat} {Y:Bool} {g:List R.Th} {Fs:List (List Nat)} (E:BFr a x tl tc Y 0 0) (hT:Hid (ThsAt wr B (.slice (some ⟨x,0,none⟩) tl tc) g tvs Fs)) (m:Hid (tl=g.length)) (h4:tl<=4) (v:Hid (∀ t∈g,kAs t.body<=40)) (o:Below wr.heap.size wr w4) {Q:Exit->Act->World->Prop} (h:Hid (∀ (a:Act) (w:World),BFr a x tl tc Y (jF g) tl->Below wr.heap.size wr w->dK prog ((aF f5).drop 21) Q a w)) :
  dK prog ((aF f5).drop 20) Q a w4:=by
 refine aR 20 (by rw[dL];decide) (fun K c=>?_);have J:=zAa c;clear c;rw[zLX];refine wp_block (wp_loop (fun a w=>∃ k:Nat,k<=tl/\BFr a x tl tc Y (jF (g.take k)) k/\Below wr.heap.size wr w) (fun a _=>tl-(intOf (gA a 34)).toNat) ⟨0,Nat.zero_le _,E,o⟩ (fun a w hL=>?_));clear E o;obtain⟨k,hk,E,o⟩:=hL;refine pQ _ _ _ _ ?_;show dK prog ((aG f5).drop 0) _ a w;have V:tl-(intOf (gA a 34)).toNat=tl-k:=by rw[E.s34];simp[intOf]
 have U:=zPu g v.out k (by rw[<- m.out];exact hk);obtain⟨sz,df,s6,s7,W,I⟩:=E;refine aR 0 (by rw[vA];decide) (fun K c=>?_);have d:=zAa c;clear c;rw[hD sz df];simp only[gF,s6,s7,W,I];generalize gA a=f
 conv=>arg 2;whnf
 by_cases hlt:k<tl
 ·have H:(k:Int)<(tl:Int):=by omega
  have l:k<g.length:=by rw[<- m.out];exact hlt
  obtain⟨C,u,c0,Z,c2,p⟩:=hT.out.get m.out (fun t ht=>by have:=v.out t ht;omega) k l;have r:=kHV (g.take k) g[k];rw[<- xh l] at r;have L:=zAa r;have hz:=v.out g[k] (x7 l);have e1:=iR isB g[k].body;have e2:=iR nG g[k].body;unfold kAs at hz;have C1:Hid (∀ i:World,Below wr.heap.size wr i->Calls prog 16 #[u,.string ⟨#[98,97,114,114,105,101,114]⟩,.string ⟨#[]⟩] i fun e X=>e=.returned (.int .i64 (bM isB g[k].body))/\Below i.heap.size i X):=fun i N=>by
   have:=p.out ⟨#[98,97,114,114,105,101,114]⟩ ⟨#[]⟩ i N;rw[aP,aP] at this;rw[zPM];exact this
  have C2:Hid (∀ i:World,Below wr.heap.size wr i->Calls prog 16 #[u,.string ⟨#[102,101,110,99,101]⟩,.string ⟨#[]⟩] i fun e X=>e=.returned (.int .i64 (bM nG g[k].body))/\Below i.heap.size i X):=fun i N=>by
   have:=p.out ⟨#[102,101,110,99,101]⟩ ⟨#[]⟩ i N;rw[aP,aP] at this;rw[kKJ];exact this
  generalize bM isB g[k].body=nb at *;generalize bM nG g[k].body=nf at *;generalize jF (g.take k)=ev at *;have d1:=aC o C Z;have ab:0<=nb/\nb<=40:=by omega
  have ac:0<=nf/\nf<=40:=by omega
  have aa:0<=ev/\ev<=1000:=by omega
  have S:=o.size;have D:x<w.heap.size:=by omega
  clear c0 Z c2 p r e1 e2 hz U l;go_wp2_with fail;refine d.out _ _ ?_;clear d;refine aR 1 (by rw[vA];decide) (fun K c=>?_);have d:=zAa c;clear c
  conv=>arg 2;whnf
  go_wp2_with fail;refine d.out _ _ ?_;clear d;refine aR 2 (by rw[vA];decide) (fun K c=>?_);have y:=zAa c;clear c;rw[aG2];refine wp_block (pQ _ _ _ _ ?_);show dK prog ((aH f5).drop 0) _ _ w;refine aR 0 (by rw[FF];decide) (fun K c=>?_);have d:=zAa c;clear c
  conv=>arg 2;whnf
  go_wp2_with (first | (go_at_call 16;refine (C2.out _ o).mono ?_;rintro e w5 ⟨rfl,q⟩;have d2:=aC q D d1;have j:=o.trans (q.mono S);have T:x<w5.heap.size:=(by have:=q.size;omega);dsimp only));refine d.out _ _ ?_;clear d;refine aR 1 (by rw[FF];decide) (fun K c=>?_);have d:=zAa c;clear c
  conv=>arg 2;whnf
  go_wp2_with (first | (go_at_call 16;refine (C1.out _ j).mono ?_;rintro e i ⟨rfl,O⟩;have z:=j.trans (O.mono j.size);dsimp only));refine d.out _ _ ?_;clear d;refine aR 2 (by rw[FF];decide) (fun K c=>?_);have d:=zAa c;clear c
  conv=>arg 2;whnf
  go_wp2_with fail;refine d.out _ _ ?_;clear d;refine y.out _ _ ?_;clear y;refine aR 3 (by rw[vA];decide) (fun K c=>?_);have d:=zAa c;clear c
  conv=>arg 2;whnf
  go_wp2_with fail;refine d.out _ _ ?_;clear d;refine⟨⟨k+1,hlt,⟨rfl,rfl,?_,rfl,rfl,by push_cast;rfl⟩,z⟩,?_⟩
  ·rw[L.out];show Value.int IntKind.i64 _=_
   congr 1;omega
  ·rw[V];show tl-((k:Int)+1).toNat<tl-k;omega
 ·obtain rfl:k=tl:=by omega
  have H:¬ (k:Int)<(k:Int):=by omega
  have M:Hid (g.take k=g):=by unfold Hid;rw[m.out];exact List.take_length
  go_wp2_with fail;refine d.out _ _ ?_;clear d;refine aR 1 (by rw[vA];decide) (fun K c=>?_);clear c
  conv=>arg 2;whnf
  go_wp2_with fail;refine J.out _ _ ?_;exact h.out _ _ ⟨rfl,rfl,by rw[M.out];rfl,rfl,rfl,rfl⟩ o
theorem R.kEq (l:Option (List UInt8)) (A:AS) (n:Int):nR l (some A,n)=if l≠some []\/n=0\/A.s.opn≠[] then ([],2,n+1) else qV A.s.ts:=rfl
theorem nO {g:World} {d:Value} {e f:Int} (r:a.tmps.size=324) (i:a.defers=[]) (j:gA a 2=d) (l:gA a 3=.int .i64 e) (m:gA a 4=.int .i64 f) (o:∃ b q c,d=.slice b q c) (p:Below w.heap.size w g) (h:(kCZ s.toList).2=(e,f)):bodyPost prog f5 (zFs s w) .ret a g:=by
 rw[hD r i];simp only[gF,j,l,m];exact bodyPost_ret (results_tmp3 (t:=2) (u:=3) (v:=4) rfl _ _ _) rfl ⟨d,by rw[h];rfl,o,p⟩
theorem zLC {wr:World} {y:ByteArray} (l:Hid (tl=A.s.ts.length)) (o:Hid (ol=A.s.opn.length)) (N:Hid (AsM wr w1.heap.size A (.slice ta tl tc) (.slice oa ol oc) (.slice na ol nc) tvs ovs G nms)) (u:Below w.heap.size w wr) (hf:AFr a gr n capr (.slice ta tl tc) (.slice oa ol oc) (.slice na ol nc) A n) (q:Hid (0<n->A.s.ts≠[])) (ag:wr.cell? ⟨gr,n,none⟩=some (.string y)) (hg:gr<wr.heap.size) (hn:n<2001) (O:Hid (kCZ s.toList=nR (some y.toList) (some A,(n:Int)))) :
  dK prog ((aF f5).drop 12) (bodyPost prog f5 (zFs s w)) a wr:=by
 have E:=N.out.sz;have q1:=E.nth;have q2:=E.nop;rw[<- l.out] at q1;rw[<- o.out] at q2;have D:=zAa E;clear E;have aj:(n:Int)<(n:Int)+1:=by omega
 have g:Hid (some y.toList≠some []\/(n:Int)=0\/A.s.opn≠[]->(kCZ s.toList).2=(2,(n:Int)+1)):=fun h=>by rw[O.out,kEq,if_pos h]
 obtain⟨J,U,s5,H,I,s8,s9,ab,ac,ad⟩:=hf;rw[hD J U];simp only[gF,s5,H,I,s8,s9,ab,ac,ad];generalize gA a=f
 cases hyb:(y.toList==[])
 ·have HB:=zAa (g.out (.inl (by intro e;injection e with e;rw[e] at hyb;simp at hyb)));refine aR 12 (by rw[dL];decide) (fun K c=>?_);have d:=zAa c;clear c
  conv=>arg 2;whnf
  go_wp2_with fail;refine d.out _ _ ?_;clear d;refine aR 13 (by rw[dL];decide) (fun K c=>?_);clear c
  conv=>arg 2;whnf
  go_wp2_with fail;exact nO rfl rfl rfl rfl rfl ⟨none,0,0,rfl⟩ u HB.out
 by_cases hn0:n=0
 ·subst hn0;have HB:=zAa (g.out (.inr (.inl rfl)));refine aR 12 (by rw[dL];decide) (fun K c=>?_);have d:=zAa c;clear c
  conv=>arg 2;whnf
  go_wp2_with fail;refine d.out _ _ ?_;clear d;refine aR 13 (by rw[dL];decide) (fun K c=>?_);clear c
  conv=>arg 2;whnf
  go_wp2_with fail;exact nO rfl rfl rfl rfl rfl ⟨none,0,0,rfl⟩ u HB.out
 have ai:((n:Int)==0)=false:=by simp;omega
 by_cases ho:ol=0
 rotate_left
 ·have HB:=zAa (g.out (.inr (.inr (fun e=>ho (by rw[o.out,e];rfl)))));have ak:(0:Int)<(ol:Int):=by omega
  clear ho;refine aR 12 (by rw[dL];decide) (fun K c=>?_);have d:=zAa c;clear c
  conv=>arg 2;whnf
  go_wp2_with fail;refine d.out _ _ ?_;clear d;refine aR 13 (by rw[dL];decide) (fun K c=>?_);clear c
  conv=>arg 2;whnf
  go_wp2_with fail;exact nO rfl rfl rfl rfl rfl ⟨none,0,0,rfl⟩ u HB.out
 have x:A.s.opn=[]:=List.length_eq_zero_iff.1 (by rw[<- o.out];exact ho);have z:=q.out (by omega);have L:Hid (kCZ s.toList=qV A.s.ts):=by
  unfold Hid;rw[O.out,kEq,if_neg (by rw[x];simp[show y.toList=[] by simpa using hyb,hn0])]
 have i:=N.out.mem;rw[x] at i;obtain⟨Fs,X⟩:=i.done;obtain⟨T,ae,he,_,af⟩:=X.own.form (List.length_pos_iff.2 z);simp only[Value.slice.injEq] at he;obtain⟨rfl,aa,rfl⟩:=he;clear aa;have S:=zAa X;subst ho;have HS:Hid (∀ t∈A.s.ts,kAs t.body<10000):=fun t ht=>by have:=D.out.all t ht;omega
 clear i X x z O N g q o;have UN:Hid (Calls prog 14 #[.slice (some ⟨T,0,none⟩) tl tc] wr fun e w'=>e=.returned (.int .i64 (fK A.s.ts))/\Below wr.heap.size wr w'):=zGG w1.heap.size T tl tc A.s.ts tvs Fs wr S.out l.out (by omega) HS.out D.out.blk;refine aR 12 (by rw[dL];decide) (fun K c=>?_);have d:=zAa c;clear c
 conv=>arg 2;whnf
 go_wp2_with fail;refine d.out _ _ ?_;clear d;refine aR 13 (by rw[dL];decide) (fun K c=>?_);have d:=zAa c;clear c
 conv=>arg 2;whnf
 go_wp2_with fail;refine d.out _ _ ?_;clear d;refine aR 14 (by rw[dL];decide) (fun K c=>?_);have d:=zAa c;clear c
 conv=>arg 2;whnf
 go_wp2_with (first | (go_at_call 14;refine UN.out.mono ?_;rintro e w3 ⟨rfl,m⟩;have V:Below w.heap.size w w3:=u.trans (m.mono u.size);dsimp only));refine d.out _ _ ?_;clear d;by_cases hu:0<fK A.s.ts
 ·refine aR 15 (by rw[dL];decide) (fun K c=>?_);have d:=zAa c;clear c
  conv=>arg 2;whnf
  go_wp2_with fail;refine d.out _ _ ?_;clear d;refine aR 16 (by rw[dL];decide) (fun K c=>?_);clear c
  conv=>arg 2;whnf
  go_wp2_with fail;exact nO rfl rfl rfl rfl rfl ⟨none,0,0,rfl⟩ V (by rw[L.out,qV,if_pos hu])
 refine aR 15 (by rw[dL];decide) (fun K c=>?_);have d:=zAa c;clear c
 conv=>arg 2;whnf
 go_wp2_with fail;refine d.out _ _ ?_;clear d;refine aR 16 (by rw[dL];decide) (fun K c=>?_);have d:=zAa c;clear c
 conv=>arg 2;whnf
 go_wp2_with fail;refine d.out _ _ ?_;clear d;refine aR 17 (by rw[dL];decide) (fun K c=>?_);have d:=zAa c;clear c
 conv=>arg 2;whnf
 go_wp2_with (first | (go_at_call 15;refine (zIl w1.heap.size T tl tc A.s.ts tvs Fs _ (S.out.keep (fun j hj=>m.block j hj)) l.out (by omega) HS.out).mono ?_;rintro e w4 ⟨rfl,Y⟩;have W:=m.trans (Y.mono m.size);dsimp only));refine d.out _ _ ?_;clear d;refine aR 18 (by rw[dL];decide) (fun K c=>?_);have d:=zAa c;clear c
 conv=>arg 2;whnf
 go_wp2_with fail;refine d.out _ _ ?_;clear d;refine aR 19 (by rw[dL];decide) (fun K c=>?_);have d:=zAa c;clear c
 conv=>arg 2;whnf
 go_wp2_with fail;refine d.out _ _ ?_;clear d;refine zLN ⟨rfl,rfl,rfl,rfl,rfl,rfl⟩ S l q1 D.out.all W ?_;intro a w5 hf Z;have v:=u.trans (Z.mono u.size);have M:=L.out;rw[qV,if_neg (by omega)] at M;have r:=zAa M;have ah:=zPu A.s.ts D.out.all tl (by rw[l.out];exact Nat.le_refl _);clear M L UN;obtain⟨J,U,H,I,p,C⟩:=hf;rw[hD J U];generalize jF A.s.ts=ev at *
 cases hw:uP A.s.ts
 ·rw[hw] at p;simp only[gF,H,I,p,C];generalize gA a=f2;refine aR 21 (by rw[dL];decide) (fun K c=>?_);have d:=zAa c;clear c
  conv=>arg 2;whnf
  go_wp2_with fail;refine d.out _ _ ?_;clear d;refine aR 22 (by rw[dL];decide) (fun K c=>?_);clear c
  conv=>arg 2;whnf
  go_wp2_with fail;exact nO rfl rfl rfl rfl rfl ⟨none,0,0,rfl⟩ v (by rw[r.out,hw];rfl)
 ·rw[hw] at p;simp only[gF,H,I,p,C];generalize gA a=f2;by_cases h5:50<ev
  ·refine aR 21 (by rw[dL];decide) (fun K c=>?_);have d:=zAa c;clear c
   conv=>arg 2;whnf
   go_wp2_with fail;refine d.out _ _ ?_;clear d;refine aR 22 (by rw[dL];decide) (fun K c=>?_);clear c
   conv=>arg 2;whnf
   go_wp2_with fail;exact nO rfl rfl rfl rfl rfl ⟨none,0,0,rfl⟩ v (by rw[r.out,hw,decide_eq_true (by omega)];rfl)
  ·refine aR 21 (by rw[dL];decide) (fun K c=>?_);have d:=zAa c;clear c
   conv=>arg 2;whnf
   go_wp2_with fail;refine d.out _ _ ?_;clear d;refine aR 22 (by rw[dL];decide) (fun K c=>?_);have d:=zAa c;clear c
   conv=>arg 2;whnf
   go_wp2_with fail;refine d.out _ _ ?_;clear d;refine aR 23 (by rw[dL];decide) (fun K c=>?_);have d:=zAa c;clear c
   conv=>arg 2;whnf
   go_wp2_with fail;refine d.out _ _ ?_;clear d;refine aR 24 (by rw[dL];decide) (fun K c=>?_);clear c
   conv=>arg 2;whnf
   go_wp2_with fail;exact nO rfl rfl rfl rfl rfl ⟨_,_,_,rfl⟩ v (by rw[r.out,hw,decide_eq_false (by omega)];rfl)
theorem zLm (s:ByteArray) (w:World) (hs:s.size<=8192):Calls prog 5 #[.string s] w (zFs s w):=by
 go_enter func5,ntmps5;refine pQ _ _ _ _ ?_;show dK prog ((aF f5).drop 0) _ _ w;refine aR 0 (by rw[dL];decide) (fun K c=>?_);have f:=zAa c;clear c
 conv=>arg 2;whnf
 go_wp2_with fail;refine f.out _ _ ?_;clear f;by_cases h2:2000<s.size
 ·have U:Hid (kCZ s.toList=([],1,0)):=by unfold Hid kCZ;rw[if_pos (by rw[bS];exact h2)]
  have h':(2000:Int)<(s.size:Int):=by omega
  refine aR 1 (by rw[dL];decide) (fun K c=>?_);have f:=zAa c;clear c
  conv=>arg 2;whnf
  go_wp2_with fail;refine f.out _ _ ?_;clear f;refine aR 2 (by rw[dL];decide) (fun K c=>?_);clear c
  conv=>arg 2;whnf
  go_wp2_with fail;exact nO rfl rfl rfl rfl rfl ⟨none,0,0,rfl⟩ (Below.refl _ _) (by rw[U.out])
 have aa:¬ (2000:Int)<(s.size:Int):=by omega
 refine aR 1 (by rw[dL];decide) (fun K c=>?_);have f:=zAa c;clear c
 conv=>arg 2;whnf
 go_wp2_with fail;refine f.out _ _ ?_;clear f;refine aR 2 (by rw[dL];decide) (fun K c=>?_);have f:=zAa c;clear c
 conv=>arg 2;whnf
 go_wp2_with fail;refine f.out _ _ ?_;clear f;refine aR 3 (by rw[dL];decide) (fun K c=>?_);have f:=zAa c;clear c
 conv=>arg 2;whnf
 go_wp2_with (first | (go_at_call 8;refine (uR s 10 _ hs).mono ?_;rintro e w1 ⟨gr,capr,T,d,m,rfl,V,how,L,h1,ab,D⟩;obtain⟨n,rfl⟩:∃ n,T=n+1:=⟨T-1,(by omega)⟩;have H:=zAa how;clear how;have ac:((n+1:Nat):Int)-1=(n:Int):=(by omega);dsimp only));refine f.out _ _ ?_;clear f;have j:m.length=n:=by omega
 obtain⟨q,O,z⟩:=nI H.out (by simpa using j);have o:Hid (∀ (i:Nat) (y:ByteArray),(d::m)[i]?=some y->w1.cell? ⟨gr,i,none⟩=some (.string y)):=fun i y u=>by have:=q i y u;simpa using this
 have g:(d::m).map xR=zMi 10 s.toList:=by rw[<- V.out];rfl
 have l:(d::m).length=n+1:=by simp[j]
 have S:n<2001:=by
  have h9:=pY 10 s.toList;rw[<- g,bS,x2,l] at h9;omega
 have I:Hid (∀ y∈d::m,y.size<=2000):=fun x hx=>by
  have h3:=sU 10 s.toList x.toList (by rw[<- g];exact List.mem_map_of_mem hx);rw[bS,bS] at h3;omega
 have t:Hid (∀ y,(d::m)[n]?=some y->(zMi 10 s.toList).getLast?=some y.toList):=fun y u=>by
  rw[<- g,List.getLast?_eq_getElem?,x2,l,List.getElem?_map];simp only[Nat.add_sub_cancel];rw[u];rfl
 have W:Hid (kCZ s.toList=nR (zMi 10 s.toList).getLast? (fZ AS.zero ((0:Nat):Int) ((((d::m).map xR).take n).drop 0))):=by
  unfold Hid;rw[kID (by rw[bS];exact h2),List.drop_zero,g,List.dropLast_eq_take,<- g,x2,l];rfl
 have u:(d::m)[n]?=some (d::m)[n]:=by simp[j]
 have N:=zAa u;clear q g u L j;refine aR 4 (by rw[dL];decide) (fun K c=>?_);have f:=zAa c;clear c
 conv=>arg 2;whnf
 go_wp2_with fail;refine f.out _ _ ?_;clear f;refine aR 5 (by rw[dL];decide) (fun K c=>?_);have f:=zAa c;clear c
 conv=>arg 2;whnf
 go_wp2_with fail;refine f.out _ _ ?_;clear f;refine aR 6 (by rw[dL];decide) (fun K c=>?_);have f:=zAa c;clear c
 conv=>arg 2;whnf
 go_wp2_with fail;refine f.out _ _ ?_;clear f;refine aR 7 (by rw[dL];decide) (fun K c=>?_);have f:=zAa c;clear c
 conv=>arg 2;whnf
 go_wp2_with fail;refine f.out _ _ ?_;clear f;refine aR 8 (by rw[dL];decide) (fun K c=>?_);have f:=zAa c;clear c
 conv=>arg 2;whnf
 go_wp2_with fail;refine f.out _ _ ?_;clear f;refine aR 9 (by rw[dL];decide) (fun K c=>?_);have f:=zAa c;clear c
 conv=>arg 2;whnf
 go_wp2_with fail;refine f.out _ _ ?_;clear f;refine aR 10 (by rw[dL];decide) (fun K c=>?_);have f:=zAa c;clear c
 conv=>arg 2;whnf
 go_wp2_with fail;refine f.out _ _ ?_;clear f;refine aR 11 (by rw[dL];decide) (fun K c=>?_);rw[zLW];refine wp_block (zLB (capr:=capr) (xs:=d::m) (last:=(zMi 10 s.toList).getLast?) (r:=kCZ s.toList) o (by omega) I S z ?hI ?hX ?hE)
 case hI=>exact⟨0,AS.zero,none,none,none,0,0,0,0,0,[],[],[],[],Nat.zero_le _,rfl,rfl,AsM.zero _ _,NmA.zero,Below.refl _ _,⟨rfl,rfl,rfl,rfl,rfl,rfl,rfl,rfl,rfl,rfl⟩,fun h=>absurd h (by omega),W.out⟩
 case hE =>
  intro a w3 k sz X Y Z g4 E v;exact nO sz X Y Z g4 ⟨none,0,0,rfl⟩ (D.trans (v.mono D.size)) E
 case hX =>
  intro a wr A ta oa na tl tc ol oc nc tvs ovs G nms M J hm v hf C E;rw[t.out _ N.out] at E;exact c _ _ (zLC M J hm (D.trans (v.mono D.size)) hf C ((v.cell (p:=⟨gr,n,none⟩) z).trans (o.out n _ N.out)) (by have:=v.size;omega) S E)
end Go.Proofs.YtonodfjdiepglaaGreatDoor
