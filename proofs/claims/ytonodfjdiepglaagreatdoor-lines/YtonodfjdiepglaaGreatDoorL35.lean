import Derived.Test.YtonodfjdiepglaaGreatDoorL33
import Derived.Test.YtonodfjdiepglaaGreatDoorL26
set_option linter.unusedVariables false
set_option linter.unusedSimpArgs false
set_option maxHeartbeats 12800000
namespace Go.Proofs.YtonodfjdiepglaaGreatDoor
open Go Go.RowKit Go.Proofs.Tryz P Q R
set_option maxRecDepth 1000000
variable {w w' w0 w1 w2:World} {B B' g gb gc gd n' o sz':Nat} {rg u v:Value} {rs:List Run} {l vs xs':List Value} {t':TypeId} {rss:List (List Run)} {wss:List (List Value)} {d ds:List Int} {cc cd:Array Value} {wd:Wd} {a fa:FA} {f:EE}
open Nat renaming le_refl→xF,zero_le→x1,lt_of_lt_of_le→x4,le_trans→x7
open Or renaming inl→xR,inr→xW
open Go.Value renaming int→x2,slice→x6,oneCell'→xi
open Go.RowKit.Below renaming heap_alloc→x3,refl→x5
open Go.World renaming ownsRow_nil→x8,cell?→xa,news_of_block→xh
open List renaming getElem_mem→x9,drop_eq_getElem_cons→xb,getElem?_eq_getElem→xc,drop_eq_nil_of_le→xd,getElem?_append_left→xe,getElem?_append_right→xg,map_append→xj,take_of_length_le→xk
namespace Q
theorem kGQ (wd:Wd) (rss:List (List Run)) (ds:List Int) (k:Nat) (c:k<rss.length) (b:k<ds.length) (h:(ds.getD k 0).toNat<rss[k].length):zPf wd (rss.drop k) (ds.drop k)=zPf (wd.join (rss[k][(ds.getD k 0).toNat]'h)) (rss.drop (k+1)) (ds.drop (k+1)):=by
 rw[xb c,xb b];rw[zPf];have e:ds[k]=ds.getD k 0:=(eT ds k b 0).symm;rw[dif_pos (by rw[e];exact h)]
 congr 2
 simp only[e]
theorem kEE:∀ (wd:Wd) (rss:List (List Run)) (ds:List Int),wd.Ea.length<=(zPf wd rss ds).Ea.length
 | wd,rs::rest,d::ds=>by
  rw[zPf];refine x7 ?_ (kEE _ rest ds)
  split
  ·simp[Wd.join]
  ·exact xF _
 | wd,[],_=>xF _
 | wd,_::_,[]=>xF _
end Q
theorem zDM:∀ (rs:List Run) (b:List Value),b.length=rs.length->∀ (d:Nat) (h:d<rs.length),∃ u,b[d]?=some u/\(zBc rs b)[d*5]?=some u/\(zBc rs b)[d*5+1]?=some (.int .i64 (rs[d].regs.getD 0 0))/\(zBc rs b)[d*5+2]?=some (.int .i64 (rs[d].regs.getD 1 0))/\(zBc rs b)[d*5+3]?=some (.int .i64 (rs[d].regs.getD 2 0))/\(zBc rs b)[d*5+4]?=some (.int .i64 (rs[d].regs.getD 3 0))
 | [],b,_,d,h=>by simp at h
 | r::rs,[],hl,d,h=>by simp at hl
 | r::rs,u::b,hl,0,h=>⟨u,rfl,rfl,rfl,rfl,rfl,rfl⟩
 | r::rs,u::b,hl,d+1,h=>by
  obtain⟨x,c,e,i,j,k,m⟩:=zDM rs b (by simpa using hl) d (by simpa using h);refine⟨x,by simpa using c,?_,?_,?_,?_,?_⟩
  ·rw[show (d+1)*5=d*5+5 by omega];simpa [zBc] using e
  ·rw[show (d+1)*5+1=d*5+1+5 by omega];simpa [zBc] using i
  ·rw[show (d+1)*5+2=d*5+2+5 by omega];simpa [zBc] using j
  ·rw[show (d+1)*5+3=d*5+3+5 by omega];simpa [zBc] using k
  ·rw[show (d+1)*5+4=d*5+4+5 by omega];simpa [zBc] using m
theorem zGa (g o:Nat) (rv:Value) (vs:List Value) (wss:List (List Value)) (gb gd:Nat) (rss:List (List Run)) (ds:List Int) (rest:List (List Int)) (w:World) (h:WsOn w g o rv vs wss gb gd rss ds rest) (hd:kAy (rss.map fun r=>(r.length:Int)) ds) (hn:rss.length<20) (K:(zMj rss ds).Ea.length<=64) (ah:∀ rs∈rss,∀ r∈rs,r.regs.length=4/\∀ e∈r.Ea,e.Ef<M64) :
  Calls prog 71 #[.pointer (some ⟨g,o,none⟩)] w fun e w'=>∃ ev rg,e=.returned (.agg #[ev,rg])/\WdIn w' ev rg (zMj rss ds)/\(∀ k,rg.ownBlock=some k->w.heap.size<=k)/\Below w.heap.size w w':=by
 obtain⟨bg,S⟩:=h.ctr.ctr;have af:ds.length=rss.length:=by rw[S.len];simp
 have G:=S.lt;have c0:=h.c0;have c2:=S.c1;have ap:=zAa S.digits;have aJ:=S.digits.lt;have x:=zAa h.runs;have ar:=zAa ah;have aq:Hid (∀ i (hi:i<rss.length),0<=ds.getD i 0/\ds.getD i 0<(rss[i].length:Int)):=fun i hi=>by
  have A:=hd.uA i (by omega);rw[eT _ _ (by simpa using hi)] at A;simp at A;rw[eT ds i (by omega)];exact A
 obtain⟨ra,rc,aQ⟩:∃ a c,rv=.slice a rss.length c:=by
  rcases h.runs.own.2 with ⟨e,h0⟩ | ⟨k,c,F,e,_⟩
  ·exact⟨none,0,by rw[e,h0]⟩
  ·exact⟨_,c,e⟩
 have s:(rss.map fun r=>(r.length:Int)).length=rss.length:=by simp
 have aB:Hid (zMj rss ds=zPf ⟨zNn,[]⟩ (rss.drop 0) (ds.drop 0)):=rfl;have V:=zAa K;rw[af] at c2;obtain⟨k0,aR,ac⟩:=jE w #[.slice none 0 0,.slice none 0 0] 70;have T:=zAa ac;have aY:ds.length<=rss.length:=by omega
 have aZ:rss.length<=ds.length:=by omega
 have aa:w.cell? ⟨g,o+2,none⟩=some (.slice (some ⟨gd,0,none⟩) rss.length rss.length):=c2;clear h S hd s ac af c2 ah K;subst aQ;go_enter func71,ntmps71;go_upto_region 1 with fail
 generalize hE:w.alloc (.cells #[.slice none 0 0,.slice none 0 0] 70)=z at *;have K0:=zAa k0;have ba:w.heap.size+1<=z.heap.size:=by omega
 clear hE k0 aR;go_upto_region 2 with (first | (go_at_call 105;refine (zEz _).mono ?_;rintro e w1 ⟨g1,rfl,N,s⟩))
 have Y:Hid (WM (w1.alloc (.cells #[.slice (some ⟨g1,0,none⟩) 3 3,.slice none 0 0] 70)) z.heap.size w1.heap.size ⟨zNn,[]⟩ (.slice (some ⟨g1,0,none⟩) 3 3) (.slice none 0 0)) :=
  ⟨heap_alloc_new w1 _,aX N (fun k e=>x3 _ _ _ (N.lt k e).2),by simpa using x8 _ _ _ _,s.size⟩
 have U:Hid (Below z.heap.size z (w1.alloc (.cells #[.slice (some ⟨g1,0,none⟩) 3 3,.slice none 0 0] 70))):=s.alloc s.size _;have bc:z.heap.size<=w1.heap.size:=s.size;generalize aF:w1.alloc (.cells #[.slice (some ⟨g1,0,none⟩) 3 3,.slice none 0 0] 70)=W1 at *;generalize aL:w1.heap.size=g3 at *;have aW:=Y.out.lt;have J:Hid (Below w.heap.size w W1):=aK T.out (xF _) U.out;clear aF N s aL;have d2:=(J.out.cell (p:=⟨g,o+2,none⟩) G).trans aa;have aU:=x4 G J.out.size;go_wp2;go_loopw [14] (fun j wr=>∃ (k:Nat) (wd:Wd) (ev rg:Value),k<=rss.length/\j=.int .i64 k/\Hid (zMj rss ds=zPf wd (rss.drop k) (ds.drop k))/\Hid (wd.regs.length=4*k)/\Hid (WM wr z.heap.size g3 wd ev rg)/\Hid (Below z.heap.size z wr)) (fun j _=>rss.length-(intOf j).toNat)
 case atStart=>exact⟨0,_,_,_,x1 _,rfl,aB,rfl,Y,U⟩
 case round =>
  clear d2 aU;obtain⟨k,wd,ev,rg,hk,rfl,HJ,au,E,HB⟩:=hrel;have m:Hid (Below w.heap.size w wr):=aK T.out (xF _) HB.out;by_cases hlt:k<rss.length
  ·have bf:(k:Int)<(rss.length:Int):=by omega
   have aH:=aq.out k hlt;obtain⟨d,M⟩:∃ d:Nat,ds.getD k 0=(d:Int):=⟨(ds.getD k 0).toNat,by omega⟩;have C:d<rss[k].length:=by omega
   have W:Hid (zMj rss ds=zPf (wd.join rss[k][d]) (rss.drop (k+1)) (ds.drop (k+1))):=by
    unfold Hid;rw[HJ.out,kGQ wd rss ds k hlt (by omega) (by omega)]
    congr 2
    simp only[M,Int.toNat_natCast]
   have ad:(wd.join rss[k][d]).Ea.length<=64:=by
    have A:=kEE (wd.join rss[k][d]) (rss.drop (k+1)) (ds.drop (k+1));rw[<- W.out] at A;have:=V.out;omega
   have ae:wd.Ea.length+rss[k][d].Ea.length<=64:=by simpa [Wd.join] using ad
   have D:=ar.out rss[k] (x9 hlt) rss[k][d] (x9 C);have ag:k<vs.length:=by rw[x.out.lv];exact hlt
   have aM:k<wss.length:=by rw[x.out.lw];exact hlt
   have b:=x.out.runs k hlt vs[k] wss[k] (xc ag) (xc aM);obtain⟨u,an,q0,q1,q2,q3,q4⟩:=zDM rss[k] wss[k] b.len d C;have I:=b.evs d C u an;obtain⟨gk,ck,ao,n⟩:∃ gk ck,vs[k]=.slice (some ⟨gk,0,none⟩) rss[k].length ck/\gk<w.heap.size:=by
    rcases b.own.2 with ⟨e,h0⟩ | ⟨k',c,F,e,_⟩
    ·omega
    ·exact⟨k',c,e,(b.own.lt k' (by rw[e];rfl)).2⟩
   obtain⟨Z,aO,ab,L⟩:∃ Z,ra=some ⟨Z,0,none⟩/\Z<w.heap.size/\w.cell? ⟨Z,k,none⟩=some vs[k]:=by
    rcases x.out.own.2 with ⟨e,h0⟩ | ⟨k',c,F,e,_⟩
    ·omega
    ·simp only[Value.slice.injEq] at e;refine⟨k',e.1,(x.out.own.lt k' (by rw[e.1];rfl)).2,?_⟩;have A:=x.out.own;rw[e.1] at A;exact wY A ag
   have t:=b.own;rw[ao] at t L;have z0:wr.cell? ⟨gk,d*5,none⟩=some u:=(m.out.cell (p:=⟨gk,d*5,none⟩) n).trans ((t.cellAt _ (by omega)).trans q0);have z1:wr.cell? ⟨gk,d*5+1,none⟩=some (.int .i64 (rss[k][d].regs.getD 0 0)):=(m.out.cell (p:=⟨gk,d*5+1,none⟩) n).trans ((t.cellAt _ (by omega)).trans q1);have z2:wr.cell? ⟨gk,d*5+2,none⟩=some (.int .i64 (rss[k][d].regs.getD 1 0)):=(m.out.cell (p:=⟨gk,d*5+2,none⟩) n).trans ((t.cellAt _ (by omega)).trans q2);have z3:wr.cell? ⟨gk,d*5+3,none⟩=some (.int .i64 (rss[k][d].regs.getD 2 0)):=(m.out.cell (p:=⟨gk,d*5+3,none⟩) n).trans ((t.cellAt _ (by omega)).trans q3);have z4:wr.cell? ⟨gk,d*5+4,none⟩=some (.int .i64 (rss[k][d].regs.getD 3 0)):=(m.out.cell (p:=⟨gk,d*5+4,none⟩) n).trans ((t.cellAt _ (by omega)).trans q4);have y0:=aC m.out G c0;have y2:=(m.out.cell (p:=⟨g,o+2,none⟩) G).trans aa;have yr:=aC m.out ab L;have yd:wr.cell? ⟨gd,k,none⟩=some (.int .i64 (d:Int)):=by rw[<- M];exact (m.out.cell (p:=⟨gd,k,none⟩) aJ).trans (ap.out.dA k (by omega))
   have aA:Hid (zAV wr u rss[k][d].Ea):=I.below m.out;have az:Hid (∀ y,u.ownBlock=some y->y<z.heap.size):=fun y e=>by have:=(I.lt y e).2;omega
   obtain⟨ua,uc,aS,_⟩:=I.form;have bj:=m.out.size;have l1:g<wr.heap.size:=by omega
   have l2:Z<wr.heap.size:=by omega
   have l3:gk<wr.heap.size:=by omega
   have l4:gd<wr.heap.size:=by omega
   have bb:(d:Int)<(rss[k].length:Int):=by omega
   have aT:z.heap.size<=wr.heap.size:=HB.out.size;have ai:=au.out;have H:wd.regs.length<100:=by omega
   have X:Hid ((wd.join rss[k][d]).regs.length=4*(k+1)):=by unfold Hid Wd.join;simp[D.1];omega
   clear b t L I q0 q1 q2 q3 q4 an ao M aH HJ ad ai;generalize rss[k][d]=O at *;generalize rss[k].length=nk at *;subst aO aS;generalize aj:O.regs.getD 0 0=t0 at *;generalize ak:O.regs.getD 1 0=t1 at *;generalize al:O.regs.getD 2 0=t2 at *;generalize am:O.regs.getD 3 0=t3 at *;have av:=zAa aj;have aw:=zAa ak;have ax:=zAa al;have ay:=zAa am;clear aj ak al am;go_wp2_with (first | (go_at_call 106;have hj:=zKv z.heap.size g3 wd ev rg (.slice ua O.Ea.length uc) O wr E.out aA.out az.out aT D.1 ae H D.2;rw[av.out,aw.out,ax.out,ay.out] at hj;refine hj.mono ?_;rintro e w2 ⟨rfl,⟨aE,aV,aN⟩,aG⟩));go_roundw
   case rel=>exact⟨k+1,wd.join O,aE,aV,by omega,by go_num,W,X,aN,HB.out.trans aG⟩
   case measure=>simp[intOf];omega
  ·have bh:k=rss.length:=by omega
   have HE:Hid (wd=zMj rss ds):=by
    have A:=HJ.out;rw[xd (by omega),xd (by omega)] at A;unfold Hid;rw[A];rfl
   obtain⟨⟨ea,ec,aI⟩,⟨qa,qc,aP⟩⟩:=E.out.form;obtain⟨m0,m1,mf⟩:=E.out.facts;have be:=E.out.lt;have KR:=zAa ((HB.out.block w.heap.size (by omega)).trans K0.out);have lw:w.heap.size<wr.heap.size:=by have:=HB.out.size;omega
   have r0:wr.cell? ⟨w.heap.size,0,none⟩=some (.slice none 0 0):=by simp[xa,KR.out]
   have r1:wr.cell? ⟨w.heap.size,1,none⟩=some (.slice none 0 0):=by simp[xa,KR.out]
   have rf:∀ j,wr.frozen? ⟨w.heap.size,j,none⟩=false:=fun j=>by simp[World.frozen?,KR.out]
   subst aI aP;have bi:¬ (k:Int)<(rss.length:Int):=by omega
   go_wp2;obtain⟨s0,s1,s2⟩:=wS [.slice ea wd.Ea.length ec,.slice qa wd.regs.length qc] KR.out rfl;refine gI (p:=2) w.heap.size _ (by kernel_rfl) underlying70 rfl (by kernel_rfl) rfl (by exact s0) rfl ⟨_,_,rfl,?_,fun y e=>by have:=(E.out.rgs.lt y e).1;omega,s2 _ _ (xF _) m.out⟩;rw[<- HE.out];have e1:=aX E.out.evs (fun y e=>s1 y (by have:=(E.out.evs.lt y e).1;omega));have e2:=aX E.out.rgs (fun y e=>s1 y (by have:=(E.out.rgs.lt y e).1;omega));refine⟨⟨e1.1,?_⟩,vS e2 rfl⟩
   rcases e1.2 with h0 | ⟨g',aD,F,e,bd,q⟩
   ·exact xR h0
   ·exact xW ⟨g',aD,F,e,x1 _,q⟩
theorem Tryz.infoRuns:(prog.info? 133).map (fun i=>(i.zero,i.size,i.bytes))=some (some (.slice none 0 0),1,24):=by kernel_rfl
namespace Q
theorem kDY:∀ (i:Nat) (b:List Thr),(kAi i b).length=b.length
 | _,[]=>rfl
 | i,t::b=>by simp[kAi,kDY (i+1) b]
theorem kDs:∀ (i:Nat) (b:List Thr) (k:Nat) (h:k<b.length),(kAi i b).take (k+1)=(kAi i b).take k++[zOD b[k] (i+k)]
 | _,[],k,h=>by simp at h
 | i,t::b,0,h=>by simp[kAi]
 | i,t::b,k+1,h=>by
  simp only[kAi,List.take_succ_cons,List.cons_append,List.getElem_cons_succ];rw[kDs (i+1) b k (by simpa using h),show i+1+k=i+(k+1) by omega]
theorem kJM (b:List Thr) (k:Nat) (h:k<b.length):(runs b).take (k+1)=(runs b).take k++[zOD b[k] k]:=by
 have:=kDs 0 b k h;simpa [runs] using this
theorem yI (b:List Thr):(runs b).length=b.length:=kDY 0 b
end Q
theorem Es.bZ (h:Es w B v rs vs) (c:w.ownsRow B' t' sz' u n' xs') (e:167≠t') (j:146≠t') (b:w.grownBy w' u.ownBlock):Es w' B v rs vs :=
 ⟨(qA h.own c e b).1,h.len,fun i k x m=>(qA (h.evs i k x m) c j b).1⟩
theorem Er.bD {n:Value} {m:List Value} (h:Er w B v rss vs wss) (q:Es w 0 u rs m) (c:w1.ownsRow B 133 1 n (rss.length+1) (vs++[u])) (k:w.grownBy w1 v.ownBlock):Er w1 B n (rss++[rs]) (vs++[u]) (wss++[m]):=by
 refine⟨by simpa using c,by simp[h.lv],by simp[h.lw],fun i p x r e b=>?_⟩;by_cases hlt:i<rss.length
 ·rw[xe (by rw[h.lv];exact hlt)] at e;rw[xe (by rw[h.lw];exact hlt)] at b;rw[List.getElem_append_left hlt];exact (h.runs i hlt x r e b).bZ h.own (by decide) (by decide) k
 ·simp at p;have j:i=rss.length:=by omega
  subst j;rw[xg (by rw[h.lv];exact xF _),h.lv] at e;rw[xg (by rw[h.lw];exact xF _),h.lw] at b;simp at e b;subst e b;simp;exact q.bZ h.own (by decide) (by decide) k
theorem Er.bZ (h:Er w B v rss vs wss) (e:w.ownsRow B' t' sz' u n' xs') (j:133≠t') (k:167≠t') (m:146≠t') (c:w.grownBy w' u.ownBlock):Er w' B v rss vs wss :=
 ⟨(qA h.own e j c).1,h.lv,h.lw,fun i p x r q b=>(h.runs i p x r q b).bZ e k m c⟩
theorem Es.base (h:Es w B v rs vs):Es w 0 v rs vs:=by
 refine⟨⟨h.own.1,?_⟩,h.len,h.evs⟩
 rcases h.own.2 with j | ⟨i,b,c,e,k,q⟩
 ·exact xR j
 ·exact xW ⟨i,b,c,e,x1 _,q⟩
def zBh (rss:List (List Run)):List Int:=rss.map fun r=>(r.length:Int)
def zLP (w w':World) (rss:List (List Run)) (e:Ending):Prop:=∃ rv vs wss gb gd,e=.returned (.agg #[rv,.slice (some ⟨gb,0,none⟩) rss.length rss.length,.slice (some ⟨gd,0,none⟩) rss.length rss.length,.bool false])/\Er w' 0 rv rss vs wss/\zAt w' gb (zBh rss)/\zAt w' gd (eI rss.length)/\w.heap.size<=gb/\w.heap.size<=gd/\gb≠gd/\Below w.heap.size w w'
theorem zGb (B bt N:Nat) (r:List Thr) (w:World) (h:eF w B (.slice (some ⟨bt,0,none⟩) r.length N) r) (hn:r.length<20) (ao:∀ t∈r,(∀ s∈t.Eb,kCY s)/\t.Eb.length<900/\kBm t.Eb<100000) :
  Calls prog 38 #[.agg #[.slice (some ⟨bt,0,none⟩) r.length N]] w fun e w'=>zLP w w' (runs r) e:=by
 obtain⟨i0,az,aO,aP,aQ⟩:=info_parts Tryz.infoIntM;obtain⟨j0,aF,aL,aM,aN⟩:=info_parts Tryz.infoRuns;obtain⟨k0,k1,aI,am⟩:=iM w #[.slice (some ⟨bt,0,none⟩) r.length N] #[.slice none 0 0,.slice none 0 0,.slice none 0 0,.bool false] 32 80;have HT:=zAa h;have av:=zAa ao;have ag:=zAa am;clear am h ao;go_enter func38,ntmps38;go_upto_region 1 with fail
 generalize hE:(w.alloc (.cells #[.slice (some ⟨bt,0,none⟩) r.length N] 32)).alloc (.cells #[.slice none 0 0,.slice none 0 0,.slice none 0 0,.bool false] 80)=A at *;have aU:=aD k0 0 _ rfl;have l0:w.heap.size<A.heap.size:=by omega
 have l1:w.heap.size+1<A.heap.size:=by omega
 have aT:w.heap.size+2<=A.heap.size:=by omega
 have K1:=zAa k1;clear hE k0 k1 aI;go_wp2;go_loopw [3,4,11] (fun a b j wr=>∃ (k:Nat) (X bv:Value) (vs:List Value) (wss:List (List Value)),k<=r.length/\j=.int .i64 k/\a=X/\b=bv/\Hid (Er wr A.heap.size X ((runs r).take k) vs wss)/\Hid (wr.ownsRow A.heap.size 3 1 bv k ((zBh ((runs r).take k)).map (x2 .i64)))/\Hid (Below A.heap.size A wr)) (fun _ _ j _=>r.length-(intOf j).toNat)
 case atStart=>exact⟨0,_,_,[],[],x1 _,rfl,rfl,rfl,⟨by simpa using x8 _ _ _ _,rfl,rfl,fun i h=>by simp at h⟩,by simpa [Hid,zBh] using x8 _ _ _ _,x5 _ _⟩
 case round =>
  obtain⟨k,X,bv,vs,wss,hk,rfl,ab,Z,HC,HO,HB⟩:=hrel;have ab:=ab.symm;subst ab;have Z:=Z.symm;subst Z;by_cases hlt:k<r.length
  ·have aZ:(k:Int)<(r.length:Int):=by omega
   obtain⟨S,sa,sc,t0,t1,t2,ae⟩:=uE HT.out rfl k hlt;have F:Hid (Below w.heap.size w wr):=aK ag.out (xF _) HB.out;have d0:=aC F.out S t0;have d1:=aC F.out S t1;have d2:=aC F.out S t2;have bf:=x4 S F.out.size;have HS:=zAa (kJM r k hlt);have V:Hid (w.ownsRow 0 109 11 (.slice sa r[k].Eb.length sc) r[k].Eb.length (iF r[k].Eb)):=by
    refine⟨ae.1,?_⟩
    rcases ae.2 with O | ⟨g',I,G,e,ay,q⟩
    ·exact xR O
    ·exact xW ⟨g',I,G,e,x1 _,q⟩
   have J:=av.out r[k] (x9 hlt);have C:((runs r).take k).length=k:=by simp[yI];omega
   clear t0 t1 t2 ae;generalize r[k]=t at *;have aw:Hid ((wr.alloc (.cells #[.int .i64 t.block,.int .i64 t.line,.slice sa t.Eb.length sc] 104)).ownsRow 0 109 11 (.slice sa t.Eb.length sc) t.Eb.length (iF t.Eb)):=aX V.out (fun y e=>(x3 _ _ _ (by have:=(V.out.lt y e).2;have:=F.out.size;omega)).trans (F.out.block y (V.out.lt y e).2));go_upto_region 7 with (first | (go_at_call 67;refine (zIq k t (.slice sa t.Eb.length sc) _ aw.out (by omega) J.1 J.2.1 J.2.2).mono ?_;rintro e w1 ⟨mv,us,rfl,ac,ak⟩))
   obtain⟨ma,mc,aG⟩:=ac.form;have af:Below wr.heap.size wr (wr.alloc (.cells #[.int .i64 t.block,.int .i64 t.line,.slice sa t.Eb.length sc] 104)):=(x5 _ _).alloc (xF _) _;have E:Below wr.heap.size wr w1:=aK af (xF _) ak;have bd:(zOD t k).length<100000:=by have:=zOJ t k (kBm t.Eb);unfold zOD;omega
   generalize bb:zOD t k=H at *;subst aG;have M1:=zAa ac.base;have B1:Hid (Below A.heap.size A w1):=aK HB.out (xF _) E;have C1:=zAa (HC.out.below E);have O1:Hid (w1.ownsRow A.heap.size 3 1 bv k ((zBh ((runs r).take k)).map (x2 .i64))):=aX HO.out (fun y e=>E.block y (HO.out.lt y e).2);have ax:A.heap.size<=w1.heap.size:=B1.out.size;have aq:Hid (((runs r).take k).length=k):=C;obtain⟨ca,cc,aa⟩:∃ a c,X=.slice a k c:=by
    have D:=HC.out.own;rw[C] at D
    rcases D.2 with ⟨e,O⟩ | ⟨g',c,G,e,_⟩
    ·exact⟨none,0,by rw[e,O]⟩
    ·exact⟨_,c,e⟩
   obtain⟨ba,bc,Y⟩:∃ a c,bv=.slice a k c:=by
    rcases HO.out.2 with ⟨e,O⟩ | ⟨g',c,G,e,_⟩
    ·exact⟨none,0,by rw[e,O]⟩
    ·exact⟨_,c,e⟩
   have T:Hid ((w1.alloc (.cells #[.slice ma H.length mc] 133)).ownsRow A.heap.size 133 1 X k vs):=by
    have D:=C1.out.own;rw[C] at D;exact aX D (fun y e=>x3 _ _ _ (D.lt y e).2)
   have ar:Hid (∀ j u,[x6 ma H.length mc][j]?=some u->(w1.alloc (.cells #[.slice ma H.length mc] 133)).cell? ((⟨w1.heap.size,0,none⟩:Addr).add j)=some u):=xh (cs:=#[.slice ma H.length mc]) (t:=133) (fr:=(0,0)) (heap_alloc_new w1 _);clear C ac ak E af;subst aa Y;go_upto_region 8 with (first | (at_builtin;refine wpList_append_lies _ rfl (.tmp 19) (.tmp 21) 76 rfl A.heap.size 133 j0 (.slice none 0 0) 1 24 underlying76 aF aL aM aN rfl (by decide) (.slice ca k cc) k vs rfl (by exact T.out) ⟨w1.heap.size,0,none⟩ 1 1 [.slice ma H.length mc] rfl rfl (by exact ar.out) (by simp[xi]) (by decide) (by unfold maxLen;omega) (by omega) (by simp;omega) _ rfl ?_;intro gn cn w2 K m ai aR))
   have BA:Below w1.heap.size w1 (w1.alloc (.cells #[.slice ma H.length mc] 133)):=(x5 _ _).alloc (xF _) _;have U:Hid (Er w2 A.heap.size (.slice (some ⟨gn,0,none⟩) (k+1) cn) ((runs r).take (k+1)) (vs++[.slice ma H.length mc]) (wss++[us])):=by
    unfold Hid;rw[HS.out];exact (C1.out.below BA).bD (M1.out.below BA) (by rw[aq.out];exact K) m
   have O2:=qA (aX O1.out (fun y e=>BA.block y (O1.out.lt y e).2)) T.out (by decide) m;have aV:w1.heap.size+1<=w2.heap.size:=by have:=m.size;simp at this;omega
   have B2:Hid (Below A.heap.size A w2):=(B1.out.alloc ax _).trans ⟨m.os,m.tape,m.output,m.size,fun y hy=>m.block y (by simp;omega) (fun e=>by have:=(T.out.lt y e.symm).1;omega)⟩;have W:Hid ((w2.alloc (.cells #[.int .i64 (H.length:Int)] 3)).ownsRow A.heap.size 3 1 (.slice ba k bc) k ((zBh ((runs r).take k)).map (x2 .i64))):=aX O2.1 (fun y e=>x3 _ _ _ (O2.1.lt y e).2);have au:Hid (∀ j u,[x2 .i64 (H.length:Int)][j]?=some u->(w2.alloc (.cells #[.int .i64 (H.length:Int)] 3)).cell? ((⟨w2.heap.size,0,none⟩:Addr).add j)=some u):=xh (cs:=#[.int .i64 (H.length:Int)]) (t:=3) (fr:=(0,0)) (heap_alloc_new w2 _);clear K m ai O2 BA;go_wp2_with (first | (at_builtin;refine wpList_append_lies _ rfl (.tmp 23) (.tmp 26) 68 rfl A.heap.size 3 i0 (.int .i64 0) 1 8 underlying68 az aO aP aQ rfl (by decide) (.slice ba k bc) k ((zBh ((runs r).take k)).map (x2 .i64)) rfl (by exact W.out) ⟨w2.heap.size,0,none⟩ 1 1 [.int .i64 (H.length:Int)] rfl rfl (by exact au.out) (by simp[xi]) (by decide) (by unfold maxLen;omega) (by omega) (by simp;omega) _ rfl ?_;intro g3 c3 w3 L z aj aS));have ap:Below w2.heap.size w2 (w2.alloc (.cells #[.int .i64 (H.length:Int)] 3)):=(x5 _ _).alloc (xF _) _;have C3:=zAa ((U.out.below ap).bZ W.out (by decide) (by decide) (by decide) z);have O3:Hid (w3.ownsRow A.heap.size 3 1 (.slice (some ⟨g3,0,none⟩) (k+1) c3) (k+1) ((zBh ((runs r).take (k+1))).map (x2 .i64))):=by
    unfold Hid;rw[HS.out];unfold zBh;rw[xj,xj];exact L
   have B3:Hid (Below A.heap.size A w3):=(B2.out.alloc (by omega) _).trans ⟨z.os,z.tape,z.output,z.size,fun y hy=>z.block y (by simp;omega) (fun e=>by have:=(W.out.lt y e.symm).1;omega)⟩;clear L z aj;go_roundw
   case rel=>exact⟨k+1,_,_,_,_,by omega,by go_num,rfl,rfl,C3,O3,B3⟩
   case measure=>simp[intOf];omega
  ·have an:k=r.length:=by omega
   have HL:Hid ((zBh (runs r)).length=(runs r).length):=by simp[Hid,zBh]
   have M:=zAa (yI r);have C0:Hid (Er wr A.heap.size X (runs r) vs wss):=by have D:=HC.out;rw[an,xk (by rw[M.out];exact xF _)] at D;exact D
   have O0:Hid (zCj wr bv (zBh (runs r))):=by
    have D:=HO.out;rw[an,xk (by rw[M.out];exact xF _)] at D;exact vS D (by rw[HL.out,M.out])
   obtain⟨ca,cc,aa⟩:∃ a c,X=.slice a (runs r).length c:=by
    rcases C0.out.own.2 with ⟨e,O⟩ | ⟨g',c,G,e,_⟩
    ·exact⟨none,0,by rw[e,O]⟩
    ·exact⟨_,c,e⟩
   obtain⟨ba,bc,Y,_⟩:=O0.out.form;clear HC HO;subst aa Y;go_wp2_with (first | (go_at_call 68;refine (CG _ (zBh (runs r)) _ O0.out (by rw[HL.out,M.out];omega)).mono ?_;rintro e w2 ⟨v1,v2,v3,rfl,⟨gb,gd,rfl,rfl,rfl,aB,aE,aW,aY,aH⟩,al⟩;have B2:Hid (Below A.heap.size A w2):=aK HB.out (xF _) al;have K2:=zAa ((B2.out.block _ l1).trans K1.out);obtain⟨t0,t1,t2,t3,tf,tl⟩:=rQ K2.out;have IB:=zAa aB;have ID:=zAa aE;have U:=zAa (C0.out.below al);rw[HL.out]));obtain⟨s0,s1,s2⟩:=uM (s0:=.slice ca (runs r).length cc) (s1:=.slice (some ⟨gb,0,none⟩) (runs r).length (runs r).length) (s2:=.slice (some ⟨gd,0,none⟩) (runs r).length (runs r).length) (s3:=.bool false) K2.out;have be:=HB.out.size;have ah:=ID.out;rw[HL.out] at ah;have ad:∀ {B n sz:Nat} {t:TypeId} {v:Value} {xs:List Value},w2.ownsRow B t sz v n xs->t≠80->∀ k,v.ownBlock=some k->k≠w.heap.size+1:=fun h ht k e e2=>eD h K2.out ht (by rw[e,e2])
   refine gI (p:=2) (w.heap.size+1) _ (by kernel_rfl) underlying80 rfl (by kernel_rfl) rfl (by exact s0) rfl ⟨_,vs,wss,gb,gd,rfl,⟨?_,U.out.lv,U.out.lw,fun i hi x xs hx aJ=>?_⟩,IB.out.aA (s1 _ (by omega)),ah.aA (s1 _ (by omega)),by omega,by omega,aH,s2 _ _ (by omega) (aK ag.out (xF _) B2.out)⟩
   ·have D:=aX U.out.own (fun k e=>s1 k (ad U.out.own (by decide) k e));refine⟨D.1,?_⟩
    rcases D.2 with O | ⟨g',I,G,e,ay,q⟩
    ·exact xR O
    ·exact xW ⟨g',I,G,e,x1 _,q⟩
   ·have hr:=U.out.runs i hi x xs hx aJ;exact⟨aX hr.own (fun k e=>s1 k (ad hr.own (by decide) k e)),hr.len,fun j hj y hy=>aX (hr.evs j hj y hy) (fun k e=>s1 k (ad (hr.evs j hj y hy) (by decide) k e))⟩
def Box (w:World) (gc:Nat):Prop:=∃ c,w.heap[gc]?=some (.cells c 84 (0,0))/\c.size=22
theorem Box.lt (h:Box w gc):gc<w.heap.size:=by
 obtain⟨c,b,_⟩:=h;exact (Array.getElem?_eq_some_iff.1 b).1
theorem Box.of (h:Box w gc) (e:w'.heap[gc]?=w.heap[gc]?):Box w' gc:=by
 obtain⟨c,b,i⟩:=h;exact⟨c,e.trans b,i⟩
theorem Box.below (h:Box w gc) (b:Below w.heap.size w w'):Box w' gc:=h.of (b.block _ h.lt)
theorem Box.cG (h:Box w gc) (j:Eu w w' gc o gd):Box w' gc:=by
 obtain⟨c,e,k⟩:=h;obtain⟨b,i,m⟩:=j.shape _ _ _ e;exact⟨b,i,by omega⟩
theorem Box.free (h:Box w gc) (j:Nat):w.frozen? ⟨gc,j,none⟩=false:=by
 obtain⟨c,b,_⟩:=h;simp[World.frozen?,b]
theorem Box.there (h:Box w gc) (o n:Nat) (i:o+n<=22):w.there gc o n:=by
 obtain⟨c,b,e⟩:=h;exact sX b (by omega)
theorem Box.set (h:Box w gc) (o:Nat) (vs:List Value) (p:o+vs.length<=22) :
  Box (w.setCells gc o vs) gc/\(w.setCells gc o vs).rangeAt gc o vs/\(∀ j,j<o\/o+vs.length<=j->(w.setCells gc o vs).cell? ⟨gc,j,none⟩=w.cell? ⟨gc,j,none⟩)/\(∀ k,k≠gc->(w.setCells gc o vs).heap[k]?=w.heap[k]?):=by
 refine⟨?_,World.rangeAt_setCells_same w gc o vs (h.there o vs.length p),fun j q=>?_,fun k n=>vP gc vs o w k n⟩
 ·obtain⟨c,b,i⟩:=h;exact⟨_,uQ vs o w c b,by rw[zFf];exact i⟩
 ·obtain⟨c,b,i⟩:=h;have m:=uQ vs o w c b;simp only[xa,b,m];rw[zDG vs o c j (by omega)];have e:¬ (o<=j/\j<o+vs.length):=by omega
  simp[e]
theorem WsOn.FH {C:Value} {rest:List (List Int)} {c:TypeId} (h:WsOn w g o C vs wss gb gd rss ds rest) (O:w.heap[g]?=some (.cells cc c (0,0))) (J:133≠c) (K:167≠c) (L:146≠c)
  (m:∀ j,o<=j->j<o+4->w'.cell? ⟨g,j,none⟩=w.cell? ⟨g,j,none⟩) (N:∀ j,w'.frozen? ⟨g,j,none⟩=false) (p:∀ k,k≠g->w'.heap[k]?=w.heap[k]?) (hs:w.heap.size<=w'.heap.size):WsOn w' g o C vs wss gb gd rss ds rest:=by
 obtain⟨b,⟨y,F,G,cf,cl,H,cd,z,A,X,Y⟩,M⟩:=h.ctr;have r:∀ {B n D:Nat} {t:TypeId} {v:Value} {E:List Value},w.ownsRow B t D v n E->t≠c->w'.ownsRow B t D v n E:=fun h U=>aX h (fun k e=>p k (fun I=>eD h O U (by rw[e,I])))
 refine⟨(m o (by omega) (by omega)).trans h.c0,⟨r h.runs.own J,h.runs.lv,h.runs.lw,fun i S u Z V s=>?_⟩,b,⟨(m _ (by omega) (by omega)).trans y,(m _ (by omega) (by omega)).trans F,(m _ (by omega) (by omega)).trans G,N,by omega,H.aA (p _ (fun e=>A e.symm)),cd.aA (p _ (fun e=>z e.symm)),z,A,X,Y⟩,M⟩;have q:=h.runs.runs i S u Z V s;exact⟨r q.own K,q.len,fun j T x W=>r (q.evs j T x W) L⟩
structure WA where
 rv:Value
 vs:List Value
 wss:List (List Value)
 gb:Nat
 gd:Nat
structure RA where
 ev:Value
 rg:Value
 fa:FA
 cv:Value
 cvs:List Value
 gb:Nat
 gd:Nat
def WA.on (A:WA) (w:World) (gc:Nat) (rss:List (List Run)) (ds:List Int) (rest:List (List Int)):Prop:=WsOn w gc 13 A.rv A.vs A.wss A.gb A.gd rss ds rest
structure RA.on (R:RA) (w:World) (gc:Nat) (A:WA) (wd:Wd) (ds:List Int) (rest:List (List Int)):Prop where
 c0:w.cell? ⟨gc,0,none⟩=some R.ev
 c1:w.cell? ⟨gc,1,none⟩=some R.rg
 wdi:WdIn w R.ev R.rg wd
 fc:w.rangeAt gc 2 (zAn R.fa).toList
 fin:Ej w R.fa (zMv wd.Ea)
 rd:RdOn w gc 17 R.cv R.cvs R.gb R.gd (zMf wd.Ea) ds rest
 n1:A.gb≠R.gd
 n2:A.gd≠R.gd
 n3:R.rg.ownBlock≠some R.gd/\R.rg.ownBlock≠some gc
def RA.nb (R:RA) (k:Nat):Prop:=R.rg.ownBlock=some k\/R.cv.ownBlock=some k\/(∃ u∈R.cvs,u.ownBlock=some k)\/k=R.gb\/k=R.gd
namespace Q
structure WdOk (wd:Wd):Prop where
 pos:0<wd.Ea.length
 le:wd.Ea.length<=64
 Ef:kEO wd.Ea
 regs:wd.regs.length<100
 vals:∀ x∈wd.regs,0<=x/\x<4
 evals:∀ e∈wd.Ea,0<=e.value/\e.value<4
 fo:(zMH (zMh wd.Ea (zMg wd.Ea))).length<100000000
def sS (wd:Wd):List (Wd × List Int):=(zMH (kBl (zMf wd.Ea))).map fun r=>(wd,r)
theorem zOB (es:List Ev):(zMf es).length=es.length:=by simp[zMf]
theorem kHN (es:List Ev) (i:Nat) (h:es.length<=64):(kE es i).length<=64:=by
 unfold kE
 split
 ·rw[List.length_map];have:=List.length_filter_le (oI es i) (List.range es.length);simp at this;omega
 ·simp
theorem kEs (es:List Ev) (h:es.length<=64):∀ c∈zMf es,c.length<=64:=by
 intro c b;simp only[zMf,List.mem_map] at b;obtain⟨i,_,rfl⟩:=b;exact kHN es i h
theorem kKq (es:List Ev) (h:es.length<=64):∀ b∈kBl (zMf es),b<1000000000:=by
 intro b e;simp only[kBl,List.mem_map] at e;obtain⟨c,i,rfl⟩:=e;have:=kEs es h c i;omega
end Q
structure RS where
 R:RA
 wd:Wd
 ds:List Int
 rest:List (List Int)
def dP (rss:List (List Run)) (st:Option RS) (rest:List (List Int)):List (Wd × List Int) :=
 (match st with | none=>[] | some s=>s.rest.map fun r=>(s.wd,r))++rest.flatMap fun d=>sS (zMj rss d)
def nbS (st:Option RS) (k:Nat):Prop:=∃ s,st=some s/\s.R.nb k
def gdS (st:Option RS) (k:Nat):Prop:=∃ s,st=some s/\k=s.R.gd
structure Eo (w w':World) (gc:Nat) (A:WA) (st:Option RS):Prop where
 os:w'.os=w.os
 tape:w'.tape=w.tape
 output:w'.output=w.output
 size:w.heap.size<=w'.heap.size
 block:∀ k,k<w.heap.size->k≠gc->k≠A.gd->¬ gdS st k->w'.heap[k]?=w.heap[k]?
theorem Eo.refl (w:World) (gc:Nat) (A:WA) (b:Option RS):Eo w w gc A b:=⟨rfl,rfl,rfl,xF _,fun _ _ _ _ _=>rfl⟩
theorem Eo.below {A:WA} {e:Option RS} (h:Eo w w1 gc A e) (b:Below w1.heap.size w1 w2):Eo w w2 gc A e :=
 ⟨b.os.trans h.os,b.tape.trans h.tape,b.output.trans h.output,x7 h.size b.size,fun k c i j m=>(b.block k (x4 c h.size)).trans (h.block k c i j m)⟩
theorem Eo.cG {A:WA} {i:Option RS} (h:Eo w w1 gc A i) (b:Eu w1 w2 gc o gd) (q:gd=A.gd\/gdS i gd\/w.heap.size<=gd):Eo w w2 gc A i :=
 ⟨b.os.trans h.os,b.tape.trans h.tape,b.output.trans h.output,by rw[b.size];exact h.size,fun k p j m n=>(b.block k j (fun e=>by
  subst e
  rcases q with c | c | c
  ·exact m c
  ·exact n c
  ·omega)).trans (h.block k p j m n)⟩
theorem Eo.set {A:WA} {e:Option RS} (h:Eo w w1 gc A e) (o:Nat) (vs:List Value):Eo w (w1.setCells gc o vs) gc A e:=by
 have b:=DT (g:=gc) vs o w1;exact⟨b.os.trans h.os,b.tape.trans h.tape,b.output.trans h.output,by rw[mY];exact h.size,fun k i c j m=>(vP gc vs o w1 k c).trans (h.block k i c j m)⟩
theorem Eo.trans {A:WA} {i c:Option RS} (h:Eo w w1 gc A i) (b:Eo w1 w2 gc A c) (r:∀ k,gdS c k->gdS i k\/w.heap.size<=k):Eo w w2 gc A i :=
 ⟨b.os.trans h.os,b.tape.trans h.tape,b.output.trans h.output,x7 h.size b.size,fun k m n p q=>(b.block k (x4 m h.size) n p (fun e=>by
  rcases r k e with j | j
  ·exact q j
  ·omega)).trans (h.block k m n p q)⟩
structure Et (w:World) (gc:Nat) (A:WA) (rss:List (List Run)) (st:Option RS) (ds:List Int) (rest:List (List Int)):Prop where
 box:Box w gc
 ws:A.on w gc rss ds rest
 beg:w.cell? ⟨gc,21,none⟩=some (.bool st.isSome)
 rs:∀ s,st=some s->s.R.on w gc A s.wd s.ds s.rest/\WdOk s.wd
theorem WA.on.below {A:WA} {rest:List (List Int)} (h:A.on w gc rss ds rest) (b:Below w.heap.size w w'):A.on w' gc rss ds rest:=WsOn.below h b
theorem zEB (h:w.rangeAt g o l) (b:Below w.heap.size w w') (c:g<w.heap.size):w'.rangeAt g o l:=fY h (b.block g c)
theorem RA.on.below {R:RA} {A:WA} {rest:List (List Int)} (h:R.on w gc A wd ds rest) (c:Below w.heap.size w w'):R.on w' gc A wd ds rest:=by
 obtain⟨b,i⟩:=h.rd.ctr.ctr;have e:=i.lt;exact⟨(c.cell e).trans h.c0,(c.cell e).trans h.c1,h.wdi.below c,zEB h.fc c e,h.fin.below c,h.rd.below c,h.n1,h.n2,h.n3⟩
theorem Et.below {A:WA} {e:Option RS} {rest:List (List Int)} (h:Et w gc A rss e ds rest) (b:Below w.heap.size w w'):Et w' gc A rss e ds rest :=
 ⟨h.box.below b,h.ws.below b,(b.cell h.box.lt).trans h.beg,fun s c=>⟨(h.rs s c).1.below b,(h.rs s c).2⟩⟩
theorem xT (I:World->Nat->Prop):∃ μ:World->Nat,∀ w,(∃ n,I w n)->I w (μ w)/\∀ m,I w m->μ w<=m:=by
 have i:∀ P:Nat->Prop,(∃ n,P n)->∃ n,P n/\∀ m,P m->n<=m:=by
  intro P k;obtain⟨n,c⟩:=k
  induction n using Nat.strongRecOn with
  | ind n ih =>
   by_cases h:∃ m,m<n/\P m
   ·obtain⟨m,b,p⟩:=h;exact ih m b p
   ·exact⟨n,c,fun m b=>by
     by_cases hl:m<n
     ·exact absurd ⟨m,hl,b⟩ h
     ·omega⟩
 have j:∀ w,∃ n,(∃ n,I w n)->I w n/\∀ m,I w m->n<=m:=fun w=>by
  by_cases h:∃ n,I w n
  ·obtain⟨n,c⟩:=i (I w) h;exact⟨n,fun _=>c⟩
  ·exact⟨0,fun e=>absurd e h⟩
 exact⟨fun w=>Classical.choose (j w),fun w=>Classical.choose_spec (j w)⟩
structure CandW (w:World) (gc:Nat) (A:WA) (rss:List (List Run)) (ds:List Int) (rest:List (List Int)):Prop where
 box:Box w gc
 ws:A.on w gc rss ds rest
 beg:∃ b,w.cell? ⟨gc,21,none⟩=some (.bool b)
def zKL (w w':World) (gc:Nat) (A:WA) (rss:List (List Run)) (st:Option RS) (rem:List (Wd × List Int)) (b:Bool):Prop :=
 Eo w w' gc A st/\((b=false/\rem=[])\/(b=true/\∃ s ds rest,Et w' gc A rss (some s) ds rest/\rem=(s.wd,s.ds)::dP rss (some s) rest/\kAy (kBl (zMf s.wd.Ea)) s.ds/\(∀ k,s.R.nb k->nbS st k\/w.heap.size<=k)/\(gdS st s.R.gd\/w.heap.size<=s.R.gd)))
theorem zJB {A:WA} {rest:List (List Int)} (h:A.on w gc rss ds rest) (c:Eu w w' gc 18 gd) (C:Box w gc) (x:A.gb≠gd) (y:A.gd≠gd) (D:w.heap[gd]?=some (.cells cd 3 (0,0))):A.on w' gc rss ds rest:=by
 obtain⟨b,⟨m,q,r,t,cl,s,i,n,p,E,F⟩,z⟩:=h.ctr;obtain⟨cc,k,_⟩:=C;exact⟨(c.cell _ (by omega)).trans h.c0,Er.cG h.runs c k (by decide) (by decide) (by decide) D,b,⟨(c.cell _ (by omega)).trans m,(c.cell _ (by omega)).trans q,(c.cell _ (by omega)).trans r,fun j=>(c.froz j).trans (t j),by rw[c.size];exact cl,s.aA (c.block _ (fun e=>p e.symm) x),i.aA (c.block _ (fun e=>n e.symm) y),n,p,E,F⟩,z⟩
theorem zLq {ev:Value} (h:WdIn w ev rg wd) (c:Eu w w' gc o gd) (i:w.heap[gc]?=some (.cells cc 84 (0,0))) (m:w.heap[gd]?=some (.cells cd 3 (0,0))) (j:rg.ownBlock≠some gd/\rg.ownBlock≠some gc):WdIn w' ev rg wd :=
 ⟨uG h.evs c i (by decide) m (by decide),h.regs.own w' (fun k e=>c.block k (fun b=>j.2 (by rw[e,b])) (fun b=>j.1 (by rw[e,b]))) (by rw[c.size];exact xF _)⟩
theorem oY {k:Nat} {l:List Nat} {c:Array Value} {t:TypeId} (h:zAo w g l) (b:w.heap[k]?=some (.cells c t (0,0))) (i:144≠t):g≠k:=fun e=>by
 unfold zAo at h;rw[e,b] at h;simp at h;exact i h.2.symm
theorem Ej.off (h:Ej w a f) (c:∀ g l,zAo w g l->w'.heap[g]?=w.heap[g]?) (b:zAV w' a.ev f.Ea):Ej w' a f :=
 have K:∀ {g n l},Eh w g n l->Eh w' g n l:=fun {g n l} h=>⟨h.at_.aA (c g l h.at_),h.len,h.fits⟩
 ⟨b,h.len,h.n64,K h.r1,K h.r2,K h.r3,K h.r4,K h.r5,K h.r6,K h.r7,K h.r8,K h.r9⟩
theorem zKy (h:Ej w a f) (c:Eu w w' gc o gd) (b:w.heap[gc]?=some (.cells cc 84 (0,0))) (e:w.heap[gd]?=some (.cells cd 3 (0,0))):Ej w' a f :=
 h.off (fun g l i=>c.block g (oY i b (by decide)) (oY i e (by decide))) (uG h.ev c b (by decide) e (by decide))
theorem zIr {p:Nat} (h:w.rangeAt gc p l) (c:Eu w w' gc o gd) (i:p+l.length<=o+2):w'.rangeAt gc p l:=fun j u b=>by
 have e:j<l.length:=(List.getElem?_eq_some_iff.1 b).1;rw[<- h j u b];exact c.cell _ (by simp;omega)
def qW (w:World) (gc:Nat) (A:WA) (rss:List (List Run)) (st:Option RS) (R0:List (Wd × List Int)) (wr:World) (n:Nat):Prop :=
 ∃ st1 ds1 rest1,Et wr gc A rss st1 ds1 rest1/\dP rss st1 rest1=R0/\rest1.length=n/\Eo w wr gc A st/\(∀ k,nbS st1 k->nbS st k\/w.heap.size<=k)/\∀ k,gdS st1 k->gdS st k\/w.heap.size<=k
theorem qW.some {wr:World} {A:WA} {t:Option RS} {D:List (Wd × List Int)} {s:RS} {m:List Int} {e:List (List Int)} (j:Et wr gc A rss (some s) m e) (F:dP rss (some s) e=D) (J:Eo w wr gc A t) (E:(∀ k,nbS (some s) k->nbS t k\/w.heap.size<=k)/\∀ k,gdS (some s) k->gdS t k\/w.heap.size<=k)
  {r:List Int} {q:List (List Int)} (i:Eu wr w2 gc 18 s.R.gd) (I:s.rest=r::q) (C:RdOn w2 gc 17 s.R.cv s.R.cvs s.R.gb s.R.gd (zMf s.wd.Ea) r q) (G:kAy (kBl (zMf s.wd.Ea)) r) (x:Eo w w2 gc A t):zKL w w2 gc A rss t D true:=by
 obtain⟨c,z⟩:=j.rs s rfl;obtain⟨cc,n,_⟩:=id j.box;obtain⟨b,y⟩:=c.rd.ctr.ctr;refine⟨x,xW ⟨rfl,⟨s.R,s.wd,r,q⟩,m,e,⟨j.box.cG i,zJB j.ws i j.box c.n1 c.n2 y.digits,(i.cell _ (by omega)).trans j.beg,?_⟩,?_,G,fun k H=>E.1 k ⟨s,rfl,H⟩,E.2 _ ⟨s,rfl,rfl⟩⟩⟩
 ·intro K p;simp only[Option.some.injEq] at p;subst p;exact⟨⟨(i.cell _ (by omega)).trans c.c0,(i.cell _ (by omega)).trans c.c1,zLq c.wdi i n y.digits c.n3,zIr c.fc i (by simp[zAn]),zKy c.fin i n y.digits,C,c.n1,c.n2,c.n3⟩,z⟩
 ·rw[<- F];simp[dP,I]
structure CW (w0 w:World) (gc:Nat) (A:WA) (rss:List (List Run)) (st:Option RS) (d:List Int) (q:List (List Int)):Prop where
 box:Box w gc
 ws:A.on w gc rss d q
 beg:w.cell? ⟨gc,21,none⟩=some (.bool true)
 fr:Eo w0 w gc A st
theorem CW.below {A:WA} {c:Option RS} {q:List (List Int)} (h:CW w0 w gc A rss c d q) (b:Below w.heap.size w w'):CW w0 w' gc A rss c d q :=
 ⟨h.box.below b,h.ws.below b,(b.cell h.box.lt).trans h.beg,h.fr.below b⟩
theorem CW.set {A:WA} {i:Option RS} {q:List (List Int)} (h:CW w0 w gc A rss i d q) (o:Nat) (vs:List Value) (p:o+vs.length<=13\/(17<=o/\o+vs.length<=21)):CW w0 (w.setCells gc o vs) gc A rss i d q:=by
 obtain⟨c,r,e,k⟩:=h.box.set o vs (by omega);obtain⟨cc,b,_⟩:=id h.box;exact⟨c,WsOn.FH h.ws b (by decide) (by decide) (by decide) (fun j m n=>e j (by omega)) (fun j=>c.free j) k (by rw[mY];exact xF _),(e 21 (by omega)).trans h.beg,h.fr.set o vs⟩
theorem CW.start {A:WA} {i:Option RS} {q:List (List Int)} (e:Box w gc) (m:A.on w gc rss d q) (k:Eo w0 w gc A i):CW w0 (w.setCell ⟨gc,21,none⟩ (.bool true)) gc A rss i d q:=by
 obtain⟨c,r,p,n⟩:=e.set 21 [.bool true] (by decide);obtain⟨cc,b,_⟩:=id e;exact⟨c,WsOn.FH m b (by decide) (by decide) (by decide) (fun j s t=>p j (xR (by omega))) (fun j=>c.free j) n (by simp),r 0 _ rfl,k.set 21 [.bool true]⟩
structure CW1 (w:World) (gc:Nat) (ev rg:Value) (wd:Wd):Prop where
 c0:w.cell? ⟨gc,0,none⟩=some ev
 c1:w.cell? ⟨gc,1,none⟩=some rg
 wdi:WdIn w ev rg wd
 ne:rg.ownBlock≠some gc
theorem CW1.below {ev:Value} (h:CW1 w gc ev rg wd) (c:Box w gc) (b:Below w.heap.size w w'):CW1 w' gc ev rg wd :=
 ⟨(b.cell c.lt).trans h.c0,(b.cell c.lt).trans h.c1,h.wdi.below b,h.ne⟩
theorem DY {ev:Value} (h:WdIn w ev rg wd) (ne:rg.ownBlock≠some gc) (i:Box w gc) (o:Nat) (vs:List Value) (m:o+vs.length<=22):WdIn (w.setCells gc o vs) ev rg wd:=by
 obtain⟨n,q,p,j⟩:=i.set o vs m;obtain⟨cc,c,_⟩:=id i;exact⟨aX h.evs (fun k e=>j k (fun b=>eD h.evs c (by decide) (by rw[e,b]))),h.regs.own _ (fun k e=>j k (fun b=>ne (by rw[e,b]))) (by rw[mY];exact xF _)⟩
theorem CW1.set {ev:Value} (h:CW1 w gc ev rg wd) (b:Box w gc) (o:Nat) (vs:List Value) (c:o+vs.length<=22) (j:2<=o):CW1 (w.setCells gc o vs) gc ev rg wd:=by
 obtain⟨i,m,e,k⟩:=b.set o vs c;exact⟨(e 0 (xR (by omega))).trans h.c0,(e 1 (xR (by omega))).trans h.c1,DY h.wdi h.ne b o vs c,h.ne⟩
theorem CW1.start {ev:Value} (h:WdIn w ev rg wd) (ne:rg.ownBlock≠some gc) (b:Box w gc):CW1 (w.setCells gc 0 [ev,rg]) gc ev rg wd:=by
 obtain⟨e,c,j,i⟩:=b.set 0 [ev,rg] (by simp);exact⟨c 0 _ rfl,c 1 _ rfl,DY h ne b 0 [ev,rg] (by simp),ne⟩
structure CW2 (w:World) (gc:Nat) (fa:FA) (es:List Ev):Prop where
 fc:w.rangeAt gc 2 (zAn fa).toList
 fin:Ej w fa (zMv es)
theorem CW2.below {es:List Ev} (h:CW2 w gc fa es) (c:Box w gc) (b:Below w.heap.size w w'):CW2 w' gc fa es:=⟨zEB h.fc b c.lt,h.fin.below b⟩
theorem DH (h:Ej w fa f) (c:Box w gc) (o:Nat) (vs:List Value) (m:o+vs.length<=22):Ej (w.setCells gc o vs) fa f:=by
 obtain⟨n,q,p,i⟩:=c.set o vs m;obtain⟨cc,b,_⟩:=id c;exact h.off (fun g l c=>i g (oY c b (by decide))) (aX h.ev (fun k e=>i k (fun j=>eD h.ev b (by decide) (by rw[e,j]))))
theorem CW2.start {es:List Ev} (h:Ej w fa (zMv es)) (b:Box w gc):CW2 (w.setCells gc 2 (zAn fa).toList) gc fa es:=by
 obtain⟨e,c,j,i⟩:=b.set 2 (zAn fa).toList (by simp[zAn]);exact⟨c,DH h b 2 _ (by simp[zAn])⟩
theorem CW2.set {es:List Ev} (h:CW2 w gc fa es) (b:Box w gc) (o:Nat) (vs:List Value) (c:o+vs.length<=22) (e:12<=o):CW2 (w.setCells gc o vs) gc fa es :=
 ⟨World.rangeAt_setCells_apart h.fc gc o vs (xW (xR (by simp[zAn];omega))),DH h.fin b o vs c⟩
theorem zHv {A:WA} {st:Option RS} {q:List (List Int)} {ev:Value} {b:Option Addr} {c:Nat} {n:List Value} {m:Nat} (h:CW w0 w gc A rss st d q) (T:CW1 w gc ev rg wd) (U:CW2 w gc fa wd.Ea)
  (j:RowsI w m (.slice b (zMf wd.Ea).length c) (zMf wd.Ea) n) (G:zAt w gb (kBl (zMf wd.Ea))) (H:zAt w gd (eI (zMf wd.Ea).length)) (V:m<=gb) (W:m<=gd) (E:gb≠gd) (F:(x6 b (zMf wd.Ea).length c).ownBlock≠some gd) (r:∀ u∈n,∀ k,u.ownBlock=some k->m<=k/\k≠gd)
  (Z:gc<m) (hA:A.gb<m/\A.gd<m) (I:∀ k,rg.ownBlock=some k->k<m) (J:WdOk wd) :
  Et (w.setCells gc 17 [.slice b (zMf wd.Ea).length c,.slice (some ⟨gb,0,none⟩) (zMf wd.Ea).length (zMf wd.Ea).length,.slice (some ⟨gd,0,none⟩) (zMf wd.Ea).length (zMf wd.Ea).length,.bool false]) gc A rss (some ⟨⟨ev,rg,fa,.slice b (zMf wd.Ea).length c,n,gb,gd⟩,wd,eI (zMf wd.Ea).length,zMH (kBl (zMf wd.Ea))⟩) d q:=by
 have g:=h.set 17 [.slice b (zMf wd.Ea).length c,.slice (some ⟨gb,0,none⟩) (zMf wd.Ea).length (zMf wd.Ea).length,.slice (some ⟨gd,0,none⟩) (zMf wd.Ea).length (zMf wd.Ea).length,.bool false] (xW (by simp));have y:=T.set h.box 17 [.slice b (zMf wd.Ea).length c,.slice (some ⟨gb,0,none⟩) (zMf wd.Ea).length (zMf wd.Ea).length,.slice (some ⟨gd,0,none⟩) (zMf wd.Ea).length (zMf wd.Ea).length,.bool false] (by simp) (by decide);have K:=U.set h.box 17 [.slice b (zMf wd.Ea).length c,.slice (some ⟨gb,0,none⟩) (zMf wd.Ea).length (zMf wd.Ea).length,.slice (some ⟨gd,0,none⟩) (zMf wd.Ea).length (zMf wd.Ea).length,.bool false] (by simp) (by decide);obtain⟨b6,C,o6,z⟩:=h.box.set 17 [.slice b (zMf wd.Ea).length c,.slice (some ⟨gb,0,none⟩) (zMf wd.Ea).length (zMf wd.Ea).length,.slice (some ⟨gd,0,none⟩) (zMf wd.Ea).length (zMf wd.Ea).length,.bool false] (by simp);have t:∀ k,(x6 b (zMf wd.Ea).length c).ownBlock=some k->m<=k:=fun k e=>(j.own.lt k e).1
 refine⟨g.box,g.ws,g.beg,fun s M=>?_⟩;simp only[Option.some.injEq] at M;subst M;refine⟨⟨y.c0,y.c1,y.wdi,K.fc,K.fin,⟨C 0 _ rfl,⟨?_,j.len,fun i Y x N=>(j.rows i Y x N).own _ (fun k e=>z k (by have:=(r x (List.mem_of_getElem? N) k e).1;omega)) (by rw[mY];exact xF _)⟩,⟨false,⟨?_,?_,C 3 _ rfl,g.box.free,g.box.lt,G.aA (z _ (by omega)),?_,by show gc≠gd;omega,by show gc≠gb;omega,E,?_⟩,xR ⟨rfl,?_,rfl⟩⟩,⟨F,fun e=>?_⟩,fun u hu k e=>?_⟩,?_,?_,⟨fun e=>?_,y.ne⟩⟩,J⟩
 ·have L:=aX j.own (fun k e=>z k (by have:=t k e;omega));refine⟨L.1,?_⟩
  rcases L.2 with S | ⟨O,p,D,e,X,q⟩
  ·exact xR S
  ·exact xW ⟨O,p,D,e,x1 _,q⟩
 ·rw[rI];exact C 1 _ rfl
 ·have hz:(eI (zMf wd.Ea).length).length=(zMf wd.Ea).length:=by simp[eI]
  show _=some (x6 (some ⟨gd,0,none⟩) (eI (zMf wd.Ea).length).length (eI (zMf wd.Ea).length).length);rw[hz];exact C 2 _ rfl
 ·exact H.aA (z _ (by omega))
 ·show (eI (zMf wd.Ea).length).length=_;rw[rI];simp[eI]
 ·show eI (zMf wd.Ea).length=_;rw[rI]
 ·have:=t gc e;omega
 ·have:=r u hu k e;exact⟨this.2,by omega⟩
 ·show A.gb≠gd;omega
 ·show A.gd≠gd;omega
 ·have:=I gd e;omega
end Go.Proofs.YtonodfjdiepglaaGreatDoor
