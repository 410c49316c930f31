import Derived.Test.YtonodfjdiepglaaGreatDoorL15
set_option linter.unusedVariables false
set_option linter.unusedSimpArgs false
set_option maxHeartbeats 12800000
namespace Go.Proofs.YtonodfjdiepglaaGreatDoor
open Go Go.RowKit Go.Proofs.Tryz P Q R
set_option maxRecDepth 1000000
variable {W w w':World} {t:TypeId} {g n:Nat} {l:List Nat}
open Go.RowKit.Below renaming refl→xF,heap_setCell→xd
open Nat renaming le_refl→xR,lt_of_lt_of_le→xW
open List renaming range→xa
open Go.Value renaming slice→xb
open Go.World renaming frozen?→xc
theorem aT {o:Obj} {p:Addr} (h:p.block<w.heap.size):(w.alloc o).cell? p=w.cell? p:=by simp only[World.cell?,Below.heap_alloc _ _ _ h]
theorem iX (a:Below (w.alloc (.cells #[.slice none 0 0] t)).heap.size (w.alloc (.cells #[.slice none 0 0] t)) w'):w'.cell? ⟨w.heap.size,0,none⟩=some (.slice none 0 0)/\w'.frozen? ⟨w.heap.size,0,none⟩=false/\w'.heap[w.heap.size]?=some (.cells #[.slice none 0 0] t (0,0)):=by
 have h:=heap_alloc_new w (.cells #[.slice none 0 0] t);obtain⟨c,f,l⟩:=cE h;exact⟨(a.cell (p:=⟨w.heap.size,0,none⟩) l).trans c,(a.frozen (p:=⟨w.heap.size,0,none⟩) l).trans f,(a.block _ l).trans h⟩
theorem wM (a:Below w.heap.size w w') (h:w.cell? ⟨g,0,none⟩=some (.slice none 0 0)/\w.frozen? ⟨g,0,none⟩=false/\w.heap[g]?=some (.cells #[.slice none 0 0] t (0,0))):w'.cell? ⟨g,0,none⟩=some (.slice none 0 0)/\w'.frozen? ⟨g,0,none⟩=false/\w'.heap[g]?=some (.cells #[.slice none 0 0] t (0,0)):=by
 have l:=World.block_lt_of_cell? w _ h.1;exact⟨(a.cell (p:=⟨g,0,none⟩) l).trans h.1,(a.frozen (p:=⟨g,0,none⟩) l).trans h.2.1,(a.block g l).trans h.2.2⟩
theorem xZ {q:Nat} (a:Below W.heap.size W w) (b:Eh w q n l):∃ gx qx,Value.pointer (some ⟨w.heap.size,0,none⟩)=.pointer (some ⟨gx,0,none⟩)/\(w.alloc (.cells #[.slice (some ⟨q,0,none⟩) n n] 73)).heap[gx]?=some (.cells #[.slice (some ⟨qx,0,none⟩) n n] 73 (0,0))/\Eh (w.alloc (.cells #[.slice (some ⟨q,0,none⟩) n n] 73)) qx n l/\Below W.heap.size W (w.alloc (.cells #[.slice (some ⟨q,0,none⟩) n n] 73))/\W.heap.size<=gx :=
 ⟨w.heap.size,q,rfl,heap_alloc_new w _,b.below ((xF _ _).alloc (xR _) _),a.alloc a.size _,a.size⟩
theorem pC {q:Nat} (f:Below W.heap.size W w) (a:W.heap.size<=g) (b:Eh w q n l) (d:w.heap[g]?=some (.cells #[.slice none 0 0] 73 (0,0))):∃ gx qx,Value.pointer (some ⟨g,0,none⟩)=.pointer (some ⟨gx,0,none⟩)/\(w.setCell ⟨g,0,none⟩ (.slice (some ⟨q,0,none⟩) n n)).heap[gx]?=some (.cells #[.slice (some ⟨qx,0,none⟩) n n] 73 (0,0))/\Eh (w.setCell ⟨g,0,none⟩ (.slice (some ⟨q,0,none⟩) n n)) qx n l/\Below W.heap.size W (w.setCell ⟨g,0,none⟩ (.slice (some ⟨q,0,none⟩) n n))/\W.heap.size<=gx:=by
 have c:q≠g:=fun e=>by
  have:=b.at_;unfold zAo at this;rw[e,d] at this;simp at this
 refine⟨g,q,rfl,?_,⟨b.at_.aA (xd _ _ _ _ c),b.len,b.fits⟩,f.setCell (p:=⟨g,0,none⟩) a _,a⟩;rw[bH d];rfl
def gL (a:FA) (gr:Nat):Array Value:=#[a.ev,.slice (some ⟨a.g1,0,none⟩) a.n a.n,.slice (some ⟨a.g2,0,none⟩) a.n a.n,.slice (some ⟨a.g3,0,none⟩) a.n a.n,.slice (some ⟨a.g4,0,none⟩) a.n a.n,.slice (some ⟨a.g5,0,none⟩) a.n a.n,.slice (some ⟨a.g6,0,none⟩) a.n a.n,.slice (some ⟨a.g7,0,none⟩) a.n a.n,.slice (some ⟨a.g8,0,none⟩) a.n a.n,.slice (some ⟨a.g9,0,none⟩) a.n a.n,.slice (some ⟨gr,0,none⟩) a.n a.n]
theorem zIu (a:FA) (f:EE) (v:Value) (b:List Int) (w:World) (M:Ej w a f) (hv:zCj w v b) (ae:b.length=a.n) :
  Calls prog 53 #[.agg (zAn a),v] w fun e w'=>jC w w' a.n (zMT f.Ea b) e:=by
 have S:Hid (zMT f.Ea b=(xa a.n).foldl (tB f.Ea b) (aS a.n)):=by unfold Hid zMT;rw[M.len]
 obtain⟨va,vc,rfl,ah⟩:=hv.form;have ai:0<a.n->∃ g,va=some ⟨g,0,none⟩/\g<w.heap.size/\∀ i,i<a.n->w.cell? ⟨g,i,none⟩=some (.int .i64 (b.getD i 0)):=fun h0=>by
  obtain⟨g,C,y,e3⟩:=ah (by omega);exact⟨g,C,y,fun i hi=>by rw[eT b i (by omega)];exact e3 i (by omega)⟩
 clear ah;rw[ae];obtain⟨x,c,Z,hx⟩:=M.form;have G:=M.n64;have D:=M.len;obtain⟨n,ev,g1,g2,g3,g4,g5,g6,g7,g8,g9⟩:=a;simp only at Z G D hx;subst Z;simp only[zAn];simp only at S ae ai;have O:=zAa M.ev;obtain⟨k0,k1,aH,Y⟩:=iM w #[.slice x n c,.slice (some ⟨g1,0,none⟩) n n,.slice (some ⟨g2,0,none⟩) n n,.slice (some ⟨g3,0,none⟩) n n,.slice (some ⟨g4,0,none⟩) n n,.slice (some ⟨g5,0,none⟩) n n,.slice (some ⟨g6,0,none⟩) n n,.slice (some ⟨g7,0,none⟩) n n,.slice (some ⟨g8,0,none⟩) n n,.slice (some ⟨g9,0,none⟩) n n] #[.slice none 0 0] 75 73;have z:=zAa Y;clear Y M hv;go_enter func53,ntmps53;go_upto_region 1 with fail
 generalize hE:(w.alloc (.cells #[.slice x n c,.slice (some ⟨g1,0,none⟩) n n,.slice (some ⟨g2,0,none⟩) n n,.slice (some ⟨g3,0,none⟩) n n,.slice (some ⟨g4,0,none⟩) n n,.slice (some ⟨g5,0,none⟩) n n,.slice (some ⟨g6,0,none⟩) n n,.slice (some ⟨g7,0,none⟩) n n,.slice (some ⟨g8,0,none⟩) n n,.slice (some ⟨g9,0,none⟩) n n] 75)).alloc (.cells #[.slice none 0 0] 73)=I at *;have J:=aD k0 0 _ rfl;obtain⟨c1,f1,l1⟩:=cE k1;have l0:w.heap.size<I.heap.size:=by omega
 have K1:=zAa k1;clear hE k0 k1 c1 f1;go_wp2_with (first | (go_at_call 74;refine (iT n _ G).mono ?_;rintro e w1 ⟨gn,rfl,ag,ax,ad,aa,L⟩;have HS:=zAa (Fill.start ⟨ag,ad,aa⟩ ax L);have aK:=L.size;have U:=HS.out.cell (p:=⟨w.heap.size,0,none⟩) l0 J;clear ag L ad aa));go_loopw [17] (fun i wr=>∃ (k:Nat) (t:List Nat),k<=n/\i=.int .i64 k/\Hid (t=(xa k).foldl (tB f.Ea b) (aS n))/\Hid (Fill I wr w1.heap.size gn n t)) (fun i _=>n-(intOf i).toNat)
 case atStart=>exact⟨0,_,Nat.zero_le _,rfl,rfl,HS⟩
 case round =>
  clear U;obtain⟨k,t,hk,rfl,HT,E⟩:=hrel;obtain⟨b0,b1,b2⟩:=cE E.out.box;have aw:=E.out.cell (p:=⟨w.heap.size,0,none⟩) l0 J;have aC:=xW l0 E.out.bel.size;by_cases hlt:k<n
  ·have aF:(k:Int)<(n:Int):=by omega
   obtain⟨s,rfl,X⟩:=hx (by omega);obtain⟨K,rfl,ac,af⟩:=ai (by omega);have F:s<I.heap.size:=by omega
   have B:K<I.heap.size:=by omega
   have T:Hid (wr.rangeAt s (k*10) (aI (Q.ev f.Ea k)).toList):=fY (O.out.cM D.symm k (by omega)) ((E.out.bel.block s F).trans (z.out.block s X));have ap:Hid (I.cell? ⟨K,k,none⟩=some (.int .i64 (b.getD k 0))):=(z.out.cell (p:=⟨K,k,none⟩) ac).trans (af k (by omega));have ar:Hid ((xa (k+1)).foldl (tB f.Ea b) (aS n)=(xa n).foldl (nT f.Ea b k) t):=by unfold Hid;rw[fI,<- HT.out];unfold tB;rw[D]
   have al:Hid (∀ q,zPE f.Ea b k q=((Q.ev f.Ea k).kind==1&&(Q.ev f.Ea q).kind==1&&(Q.ev f.Ea k).var==(Q.ev f.Ea q).var&&decide (b.getD k 0<b.getD q 0))):=fun q=>rfl
   generalize Q.ev f.Ea k=C at *;generalize az:b.getD k 0=pk at *;clear az;have N:Hid (zAP (wr.alloc (.cells (aI C) 146)) wr.heap.size C):=zAP.bT wr C;have H:=zAa (E.out.alloc (.cells (aI C) 146));have V:=H.out.cell (p:=⟨w.heap.size,0,none⟩) l0 J;go_wp2_with (first | (refine cQ (.tmp 20) rfl rfl s (k*10) C rfl T.out ?_));go_loopw [25] (fun j wq=>∃ (q:Nat) (u:List Nat),q<=n/\j=.int .i64 q/\Hid (u=(xa q).foldl (nT f.Ea b k) t)/\Hid (Fill I wq w1.heap.size gn n u)/\Hid (zAP wq wr.heap.size C)) (fun j _=>n-(intOf j).toNat)
   case atStart=>exact⟨0,t,Nat.zero_le _,rfl,rfl,H,N⟩
   case round =>
    clear V aw H N b0 b1 b2 T aC;obtain⟨q,u,hq,rfl,HU,HJ,HA⟩:=hrel;by_cases hql:q<n
    ·have aG:(q:Int)<(n:Int):=by omega
     have A:Hid (wr.rangeAt s (q*10) (aI (Q.ev f.Ea q)).toList):=fY (O.out.cM D.symm q (by omega)) ((HJ.out.bel.block s F).trans (z.out.block s X));have aq:Hid (I.cell? ⟨K,q,none⟩=some (.int .i64 (b.getD q 0))):=(z.out.cell (p:=⟨K,q,none⟩) ac).trans (af q (by omega));have HB:=zAa (al.out q);have r:Hid ((xa (q+1)).foldl (nT f.Ea b k) t=aJ (zPE f.Ea b k q) u k q):=by unfold Hid;rw[fI,<- HU.out];rfl
     rw[HB.out] at r;generalize Q.ev f.Ea q=y at *;generalize aA:b.getD q 0=pq at *;clear aA;have d:=zAa (HJ.out.alloc (.cells (aI y) 146));have o:=zAa (HA.out.alloc (.cells (aI y) 146));have au:=d.out.cell (p:=⟨K,k,none⟩) B ap.out;have av:=d.out.cell (p:=⟨K,q,none⟩) B aq.out;have aE:=xW B d.out.bel.size;obtain⟨x0,x1,x2,x3,x4,x5,x6,x7,x8,x9,xf,xl⟩:=o.out.facts;clear x1 x2 x4 x5 x6 x7 x8 x9;have aj:=zAa (zAP.bT wr y);obtain⟨y0,y1,y2,y3,y4,y5,y6,y7,y8,y9,yf,yl⟩:=aj.out.facts;clear y1 y2 y4 y5 y6 y7 y8 y9;simp only[aI] at x0 x3 xf xl y0 y3 yf yl au av aE
     cases z1:(C.kind==1)
     ·have m:Hid (u=(xa (q+1)).foldl (nT f.Ea b k) t):=by unfold Hid;rw[r.out];simp[aJ,z1]
      go_wp2_with (first | (refine cQ (.tmp 28) rfl rfl s (q*10) y rfl A.out ?_));go_quiet (fail)
      all_goals
       go_wp2;go_roundw
       case rel=>exact⟨q+1,u,by omega,by go_num,m,d.out.keep (dZ _ _ _),o.out.below (dZ _ _ _)⟩
       case measure=>simp[intOf];omega
     cases z2:(y.kind==1)
     ·have m:Hid (u=(xa (q+1)).foldl (nT f.Ea b k) t):=by unfold Hid;rw[r.out];simp[aJ,z1,z2]
      go_wp2_with (first | (refine cQ (.tmp 28) rfl rfl s (q*10) y rfl A.out ?_));go_quiet (fail)
      all_goals
       go_wp2;go_roundw
       case rel=>exact⟨q+1,u,by omega,by go_num,m,d.out.keep (dZ _ _ _),o.out.below (dZ _ _ _)⟩
       case measure=>simp[intOf];omega
     cases z3:(C.var==y.var)
     ·have m:Hid (u=(xa (q+1)).foldl (nT f.Ea b k) t):=by unfold Hid;rw[r.out];simp[aJ,z1,z2,z3]
      go_wp2_with (first | (refine cQ (.tmp 28) rfl rfl s (q*10) y rfl A.out ?_));go_quiet (fail)
      all_goals
       go_wp2;go_roundw
       case rel=>exact⟨q+1,u,by omega,by go_num,m,d.out.keep (dZ _ _ _),o.out.below (dZ _ _ _)⟩
       case measure=>simp[intOf];omega
     by_cases hz4:pk<pq
     ·have z4:decide (pk<pq)=true:=decide_eq_true hz4;have m:Hid (bJ u (k:Int) (q:Int)=(xa (q+1)).foldl (nT f.Ea b k) t):=by unfold Hid;rw[r.out];simp[aJ,z1,z2,z3,z4]
      go_wp2_with (first | (refine cQ (.tmp 28) rfl rfl s (q*10) y rfl A.out ?_));go_quiet (fail)
      all_goals
       go_wp2_with (first | (go_at_call 75;refine (jH w1.heap.size 0 gn n u (k:Int) (q:Int) _ (d.out.keep (dZ _ _ _)).gP d.out.rel.fits).mono ?_;rintro e wc ⟨rfl,aB,ab⟩;have an:=zAa ((d.out.keep (dZ _ _ _)).grown ab aB);have ak:=zAa (zAP.grown (o.out.below (dZ _ _ _)) (d.out.keep (dZ _ _ _)).rel.at_ ab)));go_roundw
       case rel=>exact⟨q+1,_,by omega,by go_num,m,an,ak⟩
       case measure=>simp[intOf];omega
     ·have z4:decide (pk<pq)=false:=decide_eq_false hz4;have m:Hid (u=(xa (q+1)).foldl (nT f.Ea b k) t):=by unfold Hid;rw[r.out];simp[aJ,z1,z2,z3,z4]
      go_wp2_with (first | (refine cQ (.tmp 28) rfl rfl s (q*10) y rfl A.out ?_));go_quiet (fail)
      all_goals
       go_wp2;go_roundw
       case rel=>exact⟨q+1,u,by omega,by go_num,m,d.out.keep (dZ _ _ _),o.out.below (dZ _ _ _)⟩
       case measure=>simp[intOf];omega
    ·have ao:Hid (u=(xa (k+1)).foldl (tB f.Ea b) (aS n)):=by unfold Hid;rw[ar.out,HU.out,show q=n by omega]
     go_wp2;go_roundw
     case rel=>exact⟨k+1,u,by omega,by go_num,ao,HJ⟩
     case measure=>simp[intOf];omega
  ·have ay:k=n:=by omega
   have am:Hid (t=zMT f.Ea b):=by unfold Hid;rw[S.out,HT.out,ay]
   obtain⟨q1,q2⟩:=E.out.out z.out K1.out (by omega);rw[am.out] at q1;go_wp2_with (first | (refine gY (.tmp 5) rfl rfl w1.heap.size _ rfl E.out.box ?_) | (refine pD (.tmp 4) (.tmp 71) rfl rfl (w.heap.size+1) _ _ rfl rfl ((E.out.bel.block _ l1).trans K1.out) rfl ?_));refine jT (p:=4) (w.heap.size+1) _ (by kernel_rfl) rfl q2 rfl q1
theorem zIA (ga:Nat) (ah:List Nat) (gl:Nat) (lk:List Nat) (n:Nat) (w:World) (ha:Eh w ga n ah) (hl:Eh w gl n lk) :
  Calls prog 86 #[.agg #[.slice (some ⟨ga,0,none⟩) n n],.agg #[.slice (some ⟨gl,0,none⟩) n n]] w fun e w'=>jC w w' n (yC ah lk) e:=by
 obtain⟨k0,k1,k2,aZ,ag⟩:=lD w #[.slice (some ⟨ga,0,none⟩) n n] #[.slice (some ⟨gl,0,none⟩) n n] #[.slice none 0 0] 73 73 73;have Ra:=zAa (ha.below ag);have Rl:=zAa (hl.below ag);have aV:=zAa ag;clear ag ha hl;go_enter func86,ntmps86;go_upto_region 1 with fail
 generalize hE:(((w.alloc (.cells #[.slice (some ⟨ga,0,none⟩) n n] 73)).alloc (.cells #[.slice (some ⟨gl,0,none⟩) n n] 73)).alloc (.cells #[.slice none 0 0] 73))=k at *;have c:=aD k0 0 _ rfl;have f:w.heap.size<k.heap.size:=by omega
 have am:∀ j,k.frozen? ⟨w.heap.size,j,none⟩=false:=fun j=>by simp[xc,k0]
 have aE:=zAa k0;have d:=aD k1 0 _ rfl;have i:w.heap.size+1<k.heap.size:=by omega
 have an:∀ j,k.frozen? ⟨w.heap.size+1,j,none⟩=false:=fun j=>by simp[xc,k1]
 have aF:=zAa k1;have x:=aD k2 0 _ rfl;have J:w.heap.size+2<k.heap.size:=by omega
 have ao:∀ j,k.frozen? ⟨w.heap.size+2,j,none⟩=false:=fun j=>by simp[xc,k2]
 have aG:=zAa k2;have bg:w.heap.size+3<=k.heap.size:=by omega
 clear hE aZ k0 k1 k2;go_cut [5] from 6 to 10 (fun p wx=>∃ gx qx,p=.pointer (some ⟨gx,0,none⟩)/\wx.heap[gx]?=some (.cells #[.slice (some ⟨qx,0,none⟩) n n] 73 (0,0))/\Eh wx qx n (cS lk (kAg lk ah))/\Below k.heap.size k wx/\k.heap.size<=gx)
 case first =>
  clear x am an ao;have aO:=xR k.heap.size;go_region_held3 (fun w'=>w'.cell? ⟨w.heap.size,0,none⟩=some (.slice (some ⟨ga,0,none⟩) n n)/\w'.cell? ⟨w.heap.size+1,0,none⟩=some (.slice (some ⟨gl,0,none⟩) n n)) (first | exact⟨c,d⟩ | exact⟨(aT f).trans c,(aT i).trans d⟩ | exact⟨E,F⟩ | exact⟨(aT ac).trans E,(aT ad).trans F⟩ | exact⟨y,z⟩ | exact⟨(aT ae).trans y,(aT af).trans z⟩ | exact⟨(bI (by omega)).trans y,(bI (by omega)).trans z⟩) (first
   | (go_at_call_of 45 (xb (some ⟨gl,0,none⟩) n n);refine (jS gl aP n _ _ _ (Rl.out.below (by first | exact b.out | exact b.out.alloc b.out.size _)) (by first | exact ak.out | exact ak.out.below ((xF _ _).alloc (xR _) _))).mono ?_;rintro e u ⟨bi,rfl,O,s⟩;have q:Hid (Below k.heap.size k u):=(by first | exact aK b.out (xR _) s | exact aK (b.out.alloc b.out.size _) (xR _) s);have y:=aC q.out f c;have z:=aC q.out i d;have ae:=xW f q.out.size;have af:=xW i q.out.size;(try (have av:u.cell? ⟨o.heap.size,0,none⟩=some (.slice none 0 0)/\u.frozen? ⟨o.heap.size,0,none⟩=false/\u.heap[o.heap.size]?=some (.cells #[.slice none 0 0] 73 (0,0)):=(by first | exact iX s | exact iX (w:=o.drew) s)));(try (have C:u.cell? ⟨k.heap.size,0,none⟩=some (.slice none 0 0)/\u.frozen? ⟨k.heap.size,0,none⟩=false/\u.heap[k.heap.size]?=some (.cells #[.slice none 0 0] 73 (0,0)):=wM s au));(try have bc:=av.1);(try have bf:=av.2.1);(try have bc:=C.1);(try have bf:=C.2.1);have K:=zAa O;clear O)
   | (go_at_call_of 78 (xb (some ⟨gl,0,none⟩) n n);refine (jP gl ga n _ _ _ (Rl.out.below (by first | exact (xF _ _).drew | exact ((xF _ _).drew).alloc (by simp) _)) (Ra.out.below (by first | exact (xF _ _).drew | exact ((xF _ _).drew).alloc (by simp) _))).mono ?_;rintro e o ⟨aP,rfl,N,A⟩;have b:Hid (Below k.heap.size k o):=(by first | exact ((xF k.heap.size k).drew).trans (A.mono (by simp)) | exact (((xF k.heap.size k).drew).alloc (by simp) _).trans (A.mono (by simp)));have E:=aC b.out f c;have F:=aC b.out i d;have ac:=xW f b.out.size;have ad:=xW i b.out.size;(try (have au:o.cell? ⟨k.heap.size,0,none⟩=some (.slice none 0 0)/\o.frozen? ⟨k.heap.size,0,none⟩=false/\o.heap[k.heap.size]?=some (.cells #[.slice none 0 0] 73 (0,0)):=(by first | exact iX A | exact iX (w:=k.drew) A)));(try have bc:=au.1);(try have bf:=au.2.1);have ak:=zAa N;clear N))
  all_goals
   (try go_wp2)
   go_meet
   case rel=>first | exact xZ q.out K.out | exact pC q.out aO K.out C.2.2 | exact pC q.out b.out.size K.out av.2.2
 case rest =>
 obtain⟨aY,ai,rfl,az,ap,a,be⟩:=hcut;have aJ:=zAa (Ra.out.below a);have bd:=zAa (Rl.out.below a);have al:=zAa ap;have aW:=zAa (aK aV.out (xR _) a);have I:=aC a f c;have aL:=aC a i d;have L:=aC a J x;have aM:∀ j,wc.frozen? ⟨w.heap.size,j,none⟩=false:=fun j=>(a.frozen (p:=⟨w.heap.size,j,none⟩) f).trans (am j)
 have V:=xW f a.size;have ba:=zAa ((a.block _ f).trans aE.out);have aN:∀ j,wc.frozen? ⟨w.heap.size+1,j,none⟩=false:=fun j=>(a.frozen (p:=⟨w.heap.size+1,j,none⟩) i).trans (an j)
 have bh:=xW i a.size;have bb:=zAa ((a.block _ i).trans aF.out);have M:∀ j,wc.frozen? ⟨w.heap.size+2,j,none⟩=false:=fun j=>(a.frozen (p:=⟨w.heap.size+2,j,none⟩) J).trans (ao j)
 have m:=xW J a.size;have aj:=zAa ((a.block _ J).trans aG.out);obtain⟨ab,aX,aB⟩:=cE az;have bp:=zAa az;clear az ap a c d x;go_upto_region 2 with fail
 clear aL;clear aM aN aX;go_region_held3 (fun w'=>w'.cell? ⟨w.heap.size,0,none⟩=some (.slice (some ⟨ga,0,none⟩) n n)/\w'.cell? ⟨aY,0,none⟩=some (.slice (some ⟨ai,0,none⟩) n n)) (first | exact⟨I,ab⟩ | exact⟨X,Y⟩ | exact⟨Z,aa⟩ | exact⟨G,H⟩ | exact⟨(bI (by omega)).trans G,(bI (by omega)).trans H⟩) (first
  | (go_at_call_of 79 (xb (some ⟨aq,0,none⟩) n n);refine (zES aq n _ _ aI.out).mono ?_;rintro e aU ⟨ar,rfl,U,ay⟩;have r:Hid (Below wc.heap.size wc aU):=aK B.out (xR _) ay;have G:=aC r.out V I;have H:=aC r.out aB ab;have bo:=(r.out.frozen (p:=⟨w.heap.size+2,0,none⟩) m).trans (M 0);have bl:=aC r.out m L;have D:=zAa U;clear U)
  | (go_at_call_of 45 (xb (some ⟨ai,0,none⟩) n n);refine (jS ai aQ n _ _ _ (al.out.below v.out) aH.out).mono ?_;rintro e aS ⟨aq,rfl,T,ax⟩;have B:Hid (Below wc.heap.size wc aS):=aK v.out (xR _) ax;have Z:=aC B.out V I;have aa:=aC B.out aB ab;have bn:=(B.out.frozen (p:=⟨w.heap.size+2,0,none⟩) m).trans (M 0);have bk:=aC B.out m L;have aI:=zAa T;clear T)
  | (go_at_call_of 78 (xb (some ⟨ga,0,none⟩) n n);refine (jP ga ai n _ _ _ (aJ.out.below (xF _ _).drew) (al.out.below (xF _ _).drew)).mono ?_;rintro e aR ⟨aQ,rfl,S,aw⟩;have v:Hid (Below wc.heap.size wc aR):=((xF wc.heap.size wc).drew).trans (aw.mono (by simp));have X:=aC v.out V I;have Y:=aC v.out aB ab;have bm:=(v.out.frozen (p:=⟨w.heap.size+2,0,none⟩) m).trans (M 0);have bj:=aC v.out m L;have aH:=zAa S;clear S))
 all_goals
  (try go_wp2)
  have KR:=bH ((r.out.block _ m).trans aj.out) 0 (.slice (some ⟨ar,0,none⟩) n n);refine jT (p:=4) (w.heap.size+2) _ (by kernel_rfl) rfl (by exact KR) rfl ⟨ar,rfl,⟨(D.out).at_.aA (xd _ _ _ _ (by have:=D.out.at_;unfold zAo at this;intro e;rw[e] at this;rw[(r.out.block _ m).trans aj.out] at this;simp at this)),(D.out).len,(D.out).fits⟩,(aK aW.out (xR _) r.out).setCell (p:=⟨w.heap.size+2,0,none⟩) (by simp) _⟩
theorem zJH (a:FA) (f:EE) (gr:Nat) (rd:List Nat) (gs:Nat) (aN:List Nat) (gl:Nat) (lk:List Nat) (w:World) (hf:Ej w a f) (hr:Eh w gr a.n rd) (hs:Eh w gs a.n aN) (hl:Eh w gl a.n lk) :
  Calls prog 50 #[.agg (gL a gr),.agg #[.slice (some ⟨gs,0,none⟩) a.n a.n],.agg #[.slice (some ⟨gl,0,none⟩) a.n a.n]] w fun e w'=>jC w w' a.n (f.cause aN lk) e:=by
 obtain⟨x,c,bo,_⟩:=hf.form;obtain⟨n,ev,g1,g2,g3,g4,g5,g6,g7,g8,g9⟩:=a;simp only at bo hr hs hl;subst bo;simp only[zAn,gL];obtain⟨V,k1,k2,k3,bB,ad⟩:=zS w #[.slice x n c,.slice (some ⟨g1,0,none⟩) n n,.slice (some ⟨g2,0,none⟩) n n,.slice (some ⟨g3,0,none⟩) n n,.slice (some ⟨g4,0,none⟩) n n,.slice (some ⟨g5,0,none⟩) n n,.slice (some ⟨g6,0,none⟩) n n,.slice (some ⟨g7,0,none⟩) n n,.slice (some ⟨g8,0,none⟩) n n,.slice (some ⟨g9,0,none⟩) n n,.slice (some ⟨gr,0,none⟩) n n] #[.slice (some ⟨gs,0,none⟩) n n] #[.slice (some ⟨gl,0,none⟩) n n] #[.slice none 0 0] 87 73 73 73;have HF:=zAa (hf.below ad);have Rr:=zAa (hr.below ad);have Rs:=zAa (hs.below ad);have Rl:=zAa (hl.below ad);have bu:=zAa ad;clear ad hf hr hs hl;go_enter func50,ntmps50;go_upto_region 1 with fail
 generalize hE:((((w.alloc (.cells #[.slice x n c,.slice (some ⟨g1,0,none⟩) n n,.slice (some ⟨g2,0,none⟩) n n,.slice (some ⟨g3,0,none⟩) n n,.slice (some ⟨g4,0,none⟩) n n,.slice (some ⟨g5,0,none⟩) n n,.slice (some ⟨g6,0,none⟩) n n,.slice (some ⟨g7,0,none⟩) n n,.slice (some ⟨g8,0,none⟩) n n,.slice (some ⟨g9,0,none⟩) n n,.slice (some ⟨gr,0,none⟩) n n] 87)).alloc (.cells #[.slice (some ⟨gs,0,none⟩) n n] 73)).alloc (.cells #[.slice (some ⟨gl,0,none⟩) n n] 73)).alloc (.cells #[.slice none 0 0] 73))=W0 at *;have B:=aD V 0 _ rfl;have C:=aD V 1 _ rfl;have D:=aD V 2 _ rfl;have E:=aD V 3 _ rfl;have F:=aD V 4 _ rfl;have G:=aD V 5 _ rfl;have H:=aD V 6 _ rfl;have I:=aD V 7 _ rfl;have J:=aD V 8 _ rfl;have K:=aD V 9 _ rfl;have y:=aD V 10 _ rfl;have b:w.heap.size<W0.heap.size:=by omega
 have bh:∀ j,W0.frozen? ⟨w.heap.size,j,none⟩=false:=fun j=>by simp[xc,V]
 have aP:=zAa V;have L:=aD k1 0 _ rfl;have Y:w.heap.size+1<W0.heap.size:=by omega
 have bi:∀ j,W0.frozen? ⟨w.heap.size+1,j,none⟩=false:=fun j=>by simp[xc,k1]
 have aQ:=zAa k1;have M:=aD k2 0 _ rfl;have Z:w.heap.size+2<W0.heap.size:=by omega
 have bj:∀ j,W0.frozen? ⟨w.heap.size+2,j,none⟩=false:=fun j=>by simp[xc,k2]
 have aR:=zAa k2;have N:=aD k3 0 _ rfl;have aa:w.heap.size+3<W0.heap.size:=by omega
 have bk:∀ j,W0.frozen? ⟨w.heap.size+3,j,none⟩=false:=fun j=>by simp[xc,k3]
 have aS:=zAa k3;have bJ:w.heap.size+4<=W0.heap.size:=by omega
 clear hE bB V k1 k2 k3;go_upto_region 2 with (first
  | (go_at_call 86;refine (zIA g1 _ gl _ n _ (HF.out.r1.below (xF _ _)) (Rl.out.below (xF _ _))).mono ?_;rintro e i ⟨d,rfl,ai,aL⟩;have ae:Hid (Below W0.heap.size W0 i):=aL;have aT:=zAa ai;clear ai))
 have X:=heap_alloc_new i (.cells #[.slice (some ⟨d,0,none⟩) n n] 73);have m:Below W0.heap.size W0 (i.alloc (.cells #[.slice (some ⟨d,0,none⟩) n n] 73)):=ae.out.alloc ae.out.size _;have bK:=ae.out.size;have an:=m.size;have bw:=zAa (HF.out.below m);have bF:=zAa (Rr.out.below m);have aX:=zAa (Rs.out.below m);have bG:=zAa (Rl.out.below m);have aE:=zAa (aT.out.below ((xF _ _).alloc (xR _) (.cells #[.slice (some ⟨d,0,none⟩) n n] 73)));have bv:=zAa (aK bu.out (xR _) m);have aY:=aC m b B;have z:=aC m b C;have aZ:=aC m b D;have ba:=aC m b E;have bb:=aC m b F;have bc:=aC m b G;have bd:=aC m b H;have be:=aC m b I;have bf:=aC m b J;have bg:=aC m b K;have aI:=aC m b y;have s:=aC m Y L;have aJ:=aC m Z M;have v:=aC m aa N;have bl:∀ j,(i.alloc (.cells #[.slice (some ⟨d,0,none⟩) n n] 73)).frozen? ⟨w.heap.size,j,none⟩=false:=fun j=>(m.frozen (p:=⟨w.heap.size,j,none⟩) b).trans (bh j)
 have ab:=xW b an;have bC:=zAa ((m.block _ b).trans aP.out);have bm:∀ j,(i.alloc (.cells #[.slice (some ⟨d,0,none⟩) n n] 73)).frozen? ⟨w.heap.size+1,j,none⟩=false:=fun j=>(m.frozen (p:=⟨w.heap.size+1,j,none⟩) Y).trans (bi j)
 have ac:=xW Y an;have bD:=zAa ((m.block _ Y).trans aQ.out);have bn:∀ j,(i.alloc (.cells #[.slice (some ⟨d,0,none⟩) n n] 73)).frozen? ⟨w.heap.size+2,j,none⟩=false:=fun j=>(m.frozen (p:=⟨w.heap.size+2,j,none⟩) Z).trans (bj j)
 have bL:=xW Z an;have bE:=zAa ((m.block _ Z).trans aR.out);have U:∀ j,(i.alloc (.cells #[.slice (some ⟨d,0,none⟩) n n] 73)).frozen? ⟨w.heap.size+3,j,none⟩=false:=fun j=>(m.frozen (p:=⟨w.heap.size+3,j,none⟩) aa).trans (bk j)
 have k:=xW aa an;have aB:=zAa ((m.block _ aa).trans aS.out);have bA:i.heap.size<(i.alloc (.cells #[.slice (some ⟨d,0,none⟩) n n] 73)).heap.size:=by simp
 clear m an;generalize bz:i.alloc (.cells #[.slice (some ⟨d,0,none⟩) n n] 73)=W1 at *;obtain⟨af,bV,az⟩:=cE X;have bx:∀ j,W1.frozen? ⟨i.heap.size,j,none⟩=false:=fun j=>by simp[xc,X]
 have bU:=zAa X;clear X bz bA;clear B C D E F G H I J K y L M N;clear aY aZ ba bb bc bd be bf bg aI aJ;clear bl bm bn bx;go_region_held3 (fun w'=>w'.cell? ⟨w.heap.size,1,none⟩=some (.slice (some ⟨g1,0,none⟩) n n)/\w'.cell? ⟨w.heap.size+1,0,none⟩=some (.slice (some ⟨gs,0,none⟩) n n)/\w'.cell? ⟨i.heap.size,0,none⟩=some (.slice (some ⟨d,0,none⟩) n n)) (first | exact⟨z,s,af⟩ | exact⟨ao,ap,aq⟩ | exact⟨ar,au,av⟩ | exact⟨aw,ax,ay⟩ | exact⟨O,S,T⟩ | exact⟨(bI (by omega)).trans O,(bI (by omega)).trans S,(bI (by omega)).trans T⟩) (first
  | (go_at_call_of 45 (xb (some ⟨aF,0,none⟩) n n);refine (jS aF bp n _ _ _ ((aU.out.below ag).below ah) aW.out).mono ?_;rintro e bt ⟨aH,rfl,am,aO⟩;have o:Hid (Below W1.heap.size W1 bt):=aK u.out (xR _) aO;have O:=aC o.out ab z;have S:=aC o.out ac s;have T:=aC o.out az af;have bT:=(o.out.frozen (p:=⟨w.heap.size+3,0,none⟩) k).trans (U 0);have bP:=aC o.out k v;have A:=zAa am;clear am)
  | (go_at_call_of 78 (xb (some ⟨aG,0,none⟩) n n);refine (jP aG d n _ _ _ aV.out (aE.out.below r.out)).mono ?_;rintro e bs ⟨bp,rfl,al,ah⟩;have u:Hid (Below W1.heap.size W1 bs):=aK r.out (xR _) ah;have aw:=aC u.out ab z;have ax:=aC u.out ac s;have ay:=aC u.out az af;have bS:=(u.out.frozen (p:=⟨w.heap.size+3,0,none⟩) k).trans (U 0);have bO:=aC u.out k v;have aW:=zAa al;clear al)
  | (go_at_call_of 87 (xb (some ⟨gs,0,none⟩) n n);refine (zER gs n _ _ (aX.out.below q.out)).mono ?_;rintro e br ⟨aG,rfl,ak,ag⟩;have r:Hid (Below W1.heap.size W1 br):=aK q.out (xR _) ag;have ar:=aC r.out ab z;have au:=aC r.out ac s;have av:=aC r.out az af;have bR:=(r.out.frozen (p:=⟨w.heap.size+3,0,none⟩) k).trans (U 0);have bN:=aC r.out k v;have aV:=zAa ak;clear ak)
  | (go_at_call_of 45 (xb (some ⟨d,0,none⟩) n n);refine (jS d g1 n _ _ _ (aE.out.below (xF _ _).drew) (bw.out.r1.below (xF _ _).drew)).mono ?_;rintro e bq ⟨aF,rfl,aj,aM⟩;have q:Hid (Below W1.heap.size W1 bq):=((xF W1.heap.size W1).drew).trans (aM.mono (by simp));have ao:=aC q.out ab z;have ap:=aC q.out ac s;have aq:=aC q.out az af;have bQ:=(q.out.frozen (p:=⟨w.heap.size+3,0,none⟩) k).trans (U 0);have bM:=aC q.out k v;have aU:=zAa aj;clear aj))
 all_goals
  (try go_wp2)
  have KR:=bH ((o.out.block _ k).trans aB.out) 0 (.slice (some ⟨aH,0,none⟩) n n);refine jT (p:=6) (w.heap.size+3) _ (by kernel_rfl) rfl (by exact KR) rfl ⟨aH,rfl,⟨(A.out).at_.aA (xd _ _ _ _ (by have:=A.out.at_;unfold zAo at this;intro e;rw[e] at this;rw[(o.out.block _ k).trans aB.out] at this;simp at this)),(A.out).len,(A.out).fits⟩,(aK bv.out (xR _) o.out).setCell (p:=⟨w.heap.size+3,0,none⟩) (by simp) _⟩
end Go.Proofs.YtonodfjdiepglaaGreatDoor
