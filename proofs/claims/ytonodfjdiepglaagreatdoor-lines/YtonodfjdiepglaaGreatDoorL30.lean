import Derived.Test.YtonodfjdiepglaaGreatDoorL29
set_option linter.unusedVariables false
set_option linter.unusedSimpArgs false
set_option maxHeartbeats 12800000
namespace Go.Proofs.YtonodfjdiepglaaGreatDoor
open Go Go.RowKit Go.Proofs.Tryz P Q R
set_option maxRecDepth 1000000
variable {w w':World} {B g n:Nat} {u v:Value} {rs:List Run} {vs:List Value}
open Nat renaming le_refl→xF,zero_le→x4,lt_of_lt_of_le→x6
open Go.Value renaming ownBlock→xR,oneCell'→x7
open Go.RowKit.Below renaming refl→xW
open Go.World renaming ownsRow_nil→x5
def zBc:List Run->List Value->List Value
 | r::rs,v::vs=>v::.int .i64 (r.regs.getD 0 0)::.int .i64 (r.regs.getD 1 0)::.int .i64 (r.regs.getD 2 0)::.int .i64 (r.regs.getD 3 0)::zBc rs vs
 | _,_=>[]
theorem zDt:∀ (rs:List Run) (vs:List Value) (r:Run) (v:Value),vs.length=rs.length->zBc (rs++[r]) (vs++[v])=zBc rs vs++[v,.int .i64 (r.regs.getD 0 0),.int .i64 (r.regs.getD 1 0),.int .i64 (r.regs.getD 2 0),.int .i64 (r.regs.getD 3 0)]
 | [],[],_,_,_=>rfl
 | [],_::_,_,_,h=>by simp at h
 | _::_,[],_,_,h=>by simp at h
 | a::rs,u::vs,r,v,h=>by
  simp only[List.cons_append,zBc];rw[zDt rs vs r v (by simpa using h)]
structure Es (w:World) (B:Nat) (v:Value) (rs:List Run) (vs:List Value):Prop where
 own:w.ownsRow B 167 5 v rs.length (zBc rs vs)
 len:vs.length=rs.length
 evs:∀ i (h:i<rs.length) (u:Value),vs[i]?=some u->zAV w u rs[i].Ea
theorem Es.below (h:Es w B v rs vs) (a:Below w.heap.size w w'):Es w' B v rs vs :=
 ⟨aX h.own (fun k e=>a.block k (h.own.lt k e).2),h.len,fun i b u c=>(h.evs i b u c).below a⟩
theorem Es.nil (w:World) (B:Nat):Es w B (.slice none 0 0) [] []:=⟨by simpa [zBc] using x5 w B 167 5,rfl,fun i h=>by simp at h⟩
theorem Es.form (h:Es w B v rs vs):∃ a c,v=.slice a rs.length c:=by
 rcases h.own.2 with ⟨e,d⟩ | ⟨k,c,b,e,_⟩
 ·exact⟨none,0,by rw[e,d]⟩
 ·exact⟨_,c,e⟩
theorem zAV.bZ {es:List Ev} {r:Nat} {t:TypeId} {s:List Value} (h:zAV w v es) (p:w.ownsRow B t r u n s) (q:t≠146) (m:w.grownBy w' u.ownBlock):zAV w' v es:=by
 refine aX h (fun k e=>m.block k (h.lt k e).2 ?_);intro b
 rcases h.2 with ⟨c,_⟩ | ⟨x,j,l,c,_,o,_⟩
 ·rw[c] at e;simp[xR] at e
 ·rw[c] at e;simp[xR] at e;subst e
  rcases p.2 with ⟨d,_⟩ | ⟨y,f,i,d,_,a,_⟩
  ·rw[d] at b;simp[xR] at b
  ·rw[d] at b;simp[xR] at b;subst b;rw[o] at a;simp at a;exact q a.2.symm
theorem Es.bD {d:World} {f e:Nat} {r:Run} (h:Es w B v rs vs) (l:zAV w u r.Ea)
  (a:d.ownsRow B 167 5 (.slice (some ⟨f,0,none⟩) (rs.length+1) e) (rs.length+1) (zBc rs vs++[u,.int .i64 (r.regs.getD 0 0),.int .i64 (r.regs.getD 1 0),.int .i64 (r.regs.getD 2 0),.int .i64 (r.regs.getD 3 0)])) (j:w.grownBy d v.ownBlock) :
  Es d B (.slice (some ⟨f,0,none⟩) (rs.length+1) e) (rs++[r]) (vs++[u]):=by
 refine⟨?_,by simp[h.len],fun i k x b=>?_⟩
 ·rw[zDt _ _ _ _ h.len];simpa using a
 ·by_cases hlt:i<rs.length
  ·rw[List.getElem?_append_left (by rw[h.len];exact hlt)] at b;rw[List.getElem_append_left hlt];exact (h.evs i hlt x b).bZ h.own (by decide) j
  ·simp at k;have c:i=rs.length:=by omega
   subst c;rw[List.getElem?_append_right (by rw[h.len];exact xF _),h.len] at b;simp at b;subst b;simp;exact l.bZ h.own (by decide) j
namespace Q
theorem kIp (b:List Stm):∀ (c:Nat) (k:Nat),(b.take k).foldl (fun c a=>if reads a.kind then c*4 else c) c<=b.foldl (fun c a=>if reads a.kind then c*4 else c) c:=by
 have mono:∀ (l:List Stm) (c:Nat),c<=l.foldl (fun c a=>if reads a.kind then c*4 else c) c:=by
  intro l
  induction l with
  | nil=>intro c;exact xF _
  | cons s r ih =>
   intro c;have d:c<=(if reads s.kind then c*4 else c):=by split<;>omega
   exact Nat.le_trans d (ih _)
 induction b with
 | nil=>intro c k;simp
 | cons s r ih =>
  intro c k
  cases k with
  | zero=>exact mono _ _
  | succ k=>exact ih _ k
theorem kHr (t:Thr) (i k:Nat):zNs t i (k+1)=zNs t i k++if (kBs t i k).unread==0 then [(kBs t i k).run] else []:=by
 unfold zNs;rw[List.range_succ,List.filter_append,List.map_append]
 congr 1
 cases h:((kBs t i k).unread==0)<;>simp[List.filter,h]
theorem zOJ (t:Thr) (i k:Nat):(zNs t i k).length<=k:=by
 unfold zNs;rw[List.length_map];have:=List.length_filter_le (fun c=>(kBs t i c).unread==0) (List.range k);simpa using this
end Q
theorem Tryz.infoRun:(prog.info? 167).map (fun i=>(i.zero,i.size,i.bytes))=some (some (.agg #[.slice none 0 0,.int .i64 0,.int .i64 0,.int .i64 0,.int .i64 0]),5,56):=by kernel_rfl
theorem Em.vD {m:ED} {ev:Value} (h:Em w B g m ev):zAV w ev m.Ea:=by
 refine⟨h.evs.1,?_⟩
 rcases h.evs.2 with d | ⟨c,a,b,e,_,r⟩
 ·exact Or.inl d
 ·exact Or.inr ⟨c,a,b,e,x4 _,r⟩
theorem zIq (i:Nat) (t:Thr) (sv:Value) (w:World) (p:w.ownsRow 0 109 11 sv t.Eb.length (iF t.Eb)) (hi:i<100) (aR:∀ s∈t.Eb,kCY s) (hn:t.Eb.length<900) (hc:kBm t.Eb<100000) :
  Calls prog 67 #[.agg #[.int .i64 t.block,.int .i64 t.line,sv],.int .i64 (i:Int)] w fun e w'=>∃ v vs,e=.returned v/\Es w' w.heap.size v (zOD t i) vs/\Below w.heap.size w w':=by
 have aS:∃ a c,sv=.slice a t.Eb.length c/\(0<t.Eb.length->∃ b,a=some ⟨b,0,none⟩/\b<w.heap.size):=by
  rcases p.2 with ⟨e,S⟩ | ⟨k,c,af,e,_⟩
  ·exact⟨none,0,by rw[e,S],fun h=>by omega⟩
  ·exact⟨_,c,e,fun _=>⟨k,rfl,(p.lt k (by rw[e];rfl)).2⟩⟩
 obtain⟨sa,sc,rfl,ak⟩:=aS;have ab:=zAa p;obtain⟨G,al,ag⟩:∃ G,(0<t.Eb.length->sa=some ⟨G,0,none⟩)/\(0<t.Eb.length->G<w.heap.size):=by
  by_cases S:0<t.Eb.length
  ·obtain⟨b,H,h2⟩:=ak S;exact⟨b,fun _=>H,fun _=>h2⟩
  ·exact⟨0,fun h=>absurd h S,fun h=>absurd h S⟩
 have aA:Hid (∀ q (hq:q<t.Eb.length),w.rangeAt G (q*11) (aQ t.Eb[q]).toList):=fun q hq=>by
  have e:=al (by omega);have H:=ab.out;rw[e] at H;exact wA H rfl q hq
 obtain⟨i0,aM,aU,aV,aW⟩:=info_parts Tryz.infoRun;have aa:Hid (kBm t.Eb=t.Eb.foldl (fun c D=>if reads D.kind then c*4 else c) 1):=rfl;obtain⟨k0,aT,ah⟩:=jE w #[.int .i64 t.block,.int .i64 t.line,.slice sa t.Eb.length sc] 104;have K:=zAa ah;clear p ah;go_enter func67,ntmps67;go_upto_region 1 with fail
 generalize hE:w.alloc (.cells #[.int .i64 t.block,.int .i64 t.line,.slice sa t.Eb.length sc] 104)=l at *;have c0:=aD k0 0 _ rfl;have c2:=aD k0 2 _ rfl;have l0:w.heap.size<l.heap.size:=by omega
 clear hE k0 aT;go_wp2;go_loopw [5,14] (fun c j wr=>∃ (k n:Nat),k<=t.Eb.length/\j=.int .i64 k/\c=.int .i64 (n:Nat)/\Hid (n=(t.Eb.take k).foldl (fun c D=>if reads D.kind then c*4 else c) 1)/\Hid (Below l.heap.size l wr)) (fun _ j _=>t.Eb.length-(intOf j).toNat)
 case atStart=>exact⟨0,1,x4 _,rfl,rfl,by simp[Hid],xW _ _⟩
 case round =>
  obtain⟨k,n,hk,rfl,rfl,I,HB⟩:=hrel;by_cases hlt:k<t.Eb.length
  ·have bj:(k:Int)<(t.Eb.length:Int):=by omega
   obtain⟨b,rfl,hb⟩:=ak (by omega);have HR:=zAa (fY (wA ab.out rfl k hlt) ((HB.out.block b (by omega)).trans (K.out.block b hb)));have bk:b<wr.heap.size:=by have:=HB.out.size;omega
   have F:Hid ((t.Eb.take (k+1)).foldl (fun c D=>if reads D.kind then c*4 else c) 1=if reads t.Eb[k].kind then n*4 else n):=by
    unfold Hid;rw[List.take_succ_eq_append_getElem hlt,List.foldl_append,<- I.out];rfl
   have bl:n<100000:=by have:=kIp t.Eb 1 k;rw[<- I.out,<- aa.out] at this;omega
   generalize t.Eb[k]=D at *;have Z:Hid (Below l.heap.size l (wr.alloc (.cells (aQ D) 109))):=HB.out.alloc HB.out.size _
   cases hz:reads D.kind
   ·rw[hz] at F;go_wp2_with (first | (refine kW (.tmp 16) rfl rfl b (k*11) D rfl HR.out ?_) | (go_at_call 36;refine (CO _ _).mono ?_;rintro e w' ⟨rfl,o⟩;have o:=o.symm;subst o;rw[hz]));go_roundw
    case rel=>exact⟨k+1,n,by omega,by go_num,rfl,F.out.symm,Z⟩
    case measure=>simp[intOf];omega
   ·rw[hz] at F;go_wp2_with (first | (refine kW (.tmp 16) rfl rfl b (k*11) D rfl HR.out ?_) | (go_at_call 36;refine (CO _ _).mono ?_;rintro e w' ⟨rfl,o⟩;have o:=o.symm;subst o;rw[hz]));go_roundw
    case rel=>exact⟨k+1,n*4,by omega,by go_num,by first | rfl | go_num | (congr 1),F.out.symm,Z⟩
    case measure=>simp[intOf];omega
  ·have aj:k=t.Eb.length:=by omega
   have L:Hid (n=kBm t.Eb):=by unfold Hid;rw[aa.out,I.out,aj,List.take_length]
   have bm:n<100000:=by rw[L.out];exact hc
   have ay:Hid (zOD t i=zNs t i n):=by unfold Hid zOD;rw[L.out]
   clear I L aj;go_wp2;clear hlt hk;go_loopw [8,9] (fun a j wq=>∃ (q:Nat) (v:Value) (vs:List Value),q<=n/\j=.int .i64 q/\a=v/\Hid (Es wq l.heap.size v (zNs t i q) vs)/\Hid (Below l.heap.size l wq)) (fun _ j _=>n-(intOf j).toNat)
   case atStart=>exact⟨0,_,[],x4 _,rfl,rfl,Es.nil _ _,HB⟩
   case round =>
    clear HB;obtain⟨q,v,vs,hq,rfl,T,A,HB⟩:=hrel;have T:=T.symm;subst T;obtain⟨ra,rc,aP⟩:=A.out.form;subst aP;by_cases hql:q<n
    ·have bn:(q:Int)<(n:Int):=by omega
     have d0:=aC HB.out l0 c0;have d2:=aC HB.out l0 c2;have lw:=x6 l0 HB.out.size;have M:Hid (Em (wr.alloc (.cells #[.int .i64 (i:Int),.int .i64 t.block,.int .i64 (q:Int),.int .i64 0,.int .i64 0,.int .i64 0,.int .i64 0,.int .u64 0,.int .u64 0,.int .u64 0,.int .u64 0,.int .u64 0,.int .i64 0,.slice none 0 0] 164)) wr.heap.size wr.heap.size (ED.start i t.block q) (.slice none 0 0)):=⟨heap_alloc_new wr _,by simpa [ED.start,zAG] using x5 _ _ _ _,xF _,rfl,rfl⟩;have Y:Below wr.heap.size wr (wr.alloc (.cells #[.int .i64 (i:Int),.int .i64 t.block,.int .i64 (q:Int),.int .i64 0,.int .i64 0,.int .i64 0,.int .i64 0,.int .u64 0,.int .u64 0,.int .u64 0,.int .u64 0,.int .u64 0,.int .i64 0,.slice none 0 0] 164)):=(xW _ _).alloc (xF _) _;have BM:=zAa Y;have aN:=aC Y lw d2;have aX:=x6 lw Y.size;have aZ:wr.heap.size<=(wr.alloc (.cells #[.int .i64 (i:Int),.int .i64 t.block,.int .i64 (q:Int),.int .i64 0,.int .i64 0,.int .i64 0,.int .i64 0,.int .u64 0,.int .u64 0,.int .u64 0,.int .u64 0,.int .u64 0,.int .i64 0,.slice none 0 0] 164)).heap.size:=Y.size;have aI:l.heap.size<=wr.heap.size:=HB.out.size;have ac:Hid (∀ x (hx:x<t.Eb.length),(wr.alloc (.cells #[.int .i64 (i:Int),.int .i64 t.block,.int .i64 (q:Int),.int .i64 0,.int .i64 0,.int .i64 0,.int .i64 0,.int .u64 0,.int .u64 0,.int .u64 0,.int .u64 0,.int .u64 0,.int .i64 0,.slice none 0 0] 164)).rangeAt G (x*11) (aQ t.Eb[x]).toList):=fun x hx=>by
      have hb:=ag (by omega);exact fY (aA.out x hx) ((Y.block G (by omega)).trans ((HB.out.block G (by omega)).trans (K.out.block G hb)))
     have az:Hid (zOl (ED.start i t.block q) t.Eb=kBs t i q):=rfl;have ad:=zAa (CA i t.block q (by omega));have ae:=zAa (kHr t i q);clear Y;go_upto_region 13 with fail
     generalize aH:wr.alloc (.cells #[.int .i64 (i:Int),.int .i64 t.block,.int .i64 (q:Int),.int .i64 0,.int .i64 0,.int .i64 0,.int .i64 0,.int .u64 0,.int .u64 0,.int .u64 0,.int .u64 0,.int .u64 0,.int .i64 0,.slice none 0 0] 164)=M1 at *;generalize aL:wr.heap.size=gm at *;clear aH d0 d2;go_upto_region 14 with (first | (go_at_call 104;refine (zFZ gm gm G sc (ED.start i t.block q) (.slice none 0 0) t.Eb sa _ M.out ad.out aR hn (by omega) al (fun h=>by have:=ag h;omega) ac.out).mono ?_;rintro e z ⟨rfl,be,m,ai⟩))
     rw[az.out] at m;have B3:Hid (Below gm wr z):=BM.out.trans (ai.below M.out (by omega));have bo:(kBs t i q).regs.length=4:=m.lr;have J:Hid (Es z l.heap.size (.slice ra (zNs t i q).length rc) (zNs t i q) vs):=A.out.below (by rw[aL];exact B3.out);have E:Hid (Below l.heap.size l z):=HB.out.trans (B3.out.mono aI);obtain⟨e0,e1,e2,e3,e4,e5,e6,e7,e8,e9,aE,aF,aG,bd,ef⟩:=m.facts;have av:=zAa m.vD;have bh:=m.lt;obtain⟨N,O,aJ,_⟩:=m.form;clear m ai e0 e1 e7 e8 e9 aE aF aG ac ad M BM aN aX;have bc:Hid ((kBs t i q).run=⟨(kBs t i q).Ea,(kBs t i q).regs⟩):=rfl;generalize bf:kBs t i q=d at *
     cases hz:((d.unread:Int)==0)
     ·have U:(d.unread==0)=false:=by have H:¬ ((d.unread:Int)=0):=(by simpa using hz);have h2:¬ (d.unread=0):=(by omega);simpa using h2
      have I:Hid (zNs t i (q+1)=zNs t i q):=by unfold Hid;rw[ae.out,U];simp
      go_wp2;go_roundw
      case rel=>exact⟨q+1,_,vs,by omega,by go_num,rfl,by rw[I.out];exact J,E⟩
      case measure=>simp[intOf];omega
     ·have U:(d.unread==0)=true:=by have H:((d.unread:Int)=0):=(by simpa using hz);have h2:(d.unread=0):=(by omega);simpa using h2
      have I:Hid (zNs t i (q+1)=zNs t i q++[⟨d.Ea,d.regs⟩]):=by unfold Hid;rw[ae.out,U];rfl
      have ba:=zOJ t i q;generalize am:d.regs.getD 0 0=x0 at *;generalize an:d.regs.getD 1 0=V at *;generalize ao:d.regs.getD 2 0=W at *;generalize ap:d.regs.getD 3 0=X at *;subst aJ;have BA:Below z.heap.size z (z.alloc (.cells #[.slice N d.Ea.length O,.int .i64 x0,.int .i64 V,.int .i64 W,.int .i64 X] 167)):=(xW _ _).alloc (xF _) _;have HO:=zAa (J.out.below BA);have au:=zAa (av.out.below BA);have ax:Hid (∀ j u,[Value.slice N d.Ea.length O,.int .i64 x0,.int .i64 V,.int .i64 W,.int .i64 X][j]?=some u->(z.alloc (.cells #[.slice N d.Ea.length O,.int .i64 x0,.int .i64 V,.int .i64 W,.int .i64 X] 167)).cell? ((⟨z.heap.size,0,none⟩:Addr).add j)=some u) :=
       World.news_of_block (cs:=#[.slice N d.Ea.length O,.int .i64 x0,.int .i64 V,.int .i64 W,.int .i64 X]) (t:=167) (fr:=(0,0)) (heap_alloc_new z _)
      have ar:Hid (Below l.heap.size l (z.alloc (.cells #[.slice N d.Ea.length O,.int .i64 x0,.int .i64 V,.int .i64 W,.int .i64 X] 167))):=E.out.alloc E.out.size _;have bg:l.heap.size<=z.heap.size:=E.out.size;have HX:Hid (x0=d.regs.getD 0 0/\V=d.regs.getD 1 0/\W=d.regs.getD 2 0/\X=d.regs.getD 3 0):=⟨am.symm,an.symm,ao.symm,ap.symm⟩;clear am an ao ap BA;go_wp2_with (first | (at_builtin;(refine wpList_append_lies _ rfl (.tmp 40) (.tmp 46) 133 rfl l.heap.size 167 i0 (.agg #[.slice none 0 0,.int .i64 0,.int .i64 0,.int .i64 0,.int .i64 0]) 5 56 underlying133 aM aU aV aW rfl (by decide) _ (zNs t i q).length (zBc (zNs t i q) vs) rfl (by exact HO.out.own) ⟨z.heap.size,0,none⟩ 1 1 [.slice N d.Ea.length O,.int .i64 x0,.int .i64 V,.int .i64 W,.int .i64 X] rfl rfl (by exact ax.out) (by simp[x7]) (by decide) (by unfold maxLen;omega) (by omega) (by simp;omega) _ rfl ?_;intro gn cn w5 C f aY bb)));have aw:Hid (Es w5 l.heap.size (.slice (some ⟨gn,0,none⟩) ((zNs t i q).length+1) cn) (zNs t i q++[⟨d.Ea,d.regs⟩]) (vs++[.slice N d.Ea.length O])):=by
       obtain⟨y0,y1,y2,y3⟩:=HX.out;subst y0 y1 y2 y3;exact HO.out.bD (r:=⟨d.Ea,d.regs⟩) au.out C f
      have aq:Hid (Below l.heap.size l w5):=ar.out.trans ⟨f.os,f.tape,f.output,f.size,fun y hy=>f.block y (by simp;omega) (fun e=>by have:=(HO.out.own.lt y e.symm).1;omega)⟩;clear C f;go_roundw
      case rel=>exact⟨q+1,_,_,by omega,by go_num,rfl,by rw[I.out];exact aw,aq⟩
      case measure=>simp[intOf];omega
    ·have aO:q=n:=by omega
     go_wp2;go_ret;refine⟨_,vs,rfl,?_,aK K.out (xF _) HB.out⟩;rw[ay.out,<- aO];refine⟨?_,A.out.len,A.out.evs⟩;have H:=A.out.own;refine⟨H.1,?_⟩
     rcases H.2 with S | ⟨g',aB,af,e,bi,r⟩
     ·exact Or.inl S
     ·exact Or.inr ⟨g',aB,af,e,by omega,r⟩
theorem zLo {c:Nat} {es:List Ev} (h:w.heap[g]?=some (.cells (zAG es).toArray 146 (0,0))) (a:B<=g) (b:n=es.length) (d:es.length<100000):w.ownsRow B 146 10 (.slice (some ⟨g,0,none⟩) n n) n (zAG es):=by
 subst b;refine⟨by rw[kP],Or.inr ⟨g,es.length,_,rfl,a,h,xF _,by unfold maxLen;omega,by simp[kP],by simp only[List.toList_toArray];exact List.take_of_length_le (by rw[kP];exact xF _)⟩⟩
theorem CJ {c:Array Oper} {rest:List Oper} {b:Oper} {a:Act} {R:Exit->Act->World->Prop} (x y:Operand) (d:b.guard=none) (f:b.op=.store 146 x y)
  (g o:Nat) (e:Ev) (j:a.eval x=.pointer (some ⟨g,o,none⟩)) (k:a.eval y=.agg (aI e)) (i:w.there g o 10)
  (h:wpList prog c R rest (a.put b.dst undef) (w.setCells g o (aI e).toList)):wpList prog c R (b::rest) a w :=
 wpList_store_mid d _ x y f g o (aI e) j k i (by kernel_rfl) (by simp[aI,x7]) h
def rH:Nat->List Ev
 | 0=>[Ev.zero,Ev.zero,Ev.zero]
 | 1=>[zMN 0,Ev.zero,Ev.zero]
 | 2=>[zMN 0,zMN 1,Ev.zero]
 | _=>[zMN 0,zMN 1,zMN 2]
theorem sX {o:Nat} {cs:Array Value} {e:TypeId} (a:w.heap[g]?=some (.cells cs e (0,0))) (c:o+n<=cs.size):w.there g o n:=by
 intro j b;simp[World.cell?,World.frozen?,a];omega
theorem zEz (w:World) :
  Calls prog 105 #[] w fun e w'=>∃ g,e=.returned (.slice (some ⟨g,0,none⟩) 3 3)/\w'.ownsRow w.heap.size 146 10 (.slice (some ⟨g,0,none⟩) 3 3) 3 (zAG zNn)/\Below w.heap.size w w':=by
 obtain⟨y,r,m,f,o⟩:=info_parts Tryz.infoEvM;have x:∀ w,(Instr.makeSlice 67 (.int .i64 3) (.int .i64 3)).run prog w=.ok (.slice (some ⟨w.heap.size,0,none⟩) 3 3) (w.alloc (.cells (zAG [Ev.zero,Ev.zero,Ev.zero]).toArray 146)):=fun w=>by
  have h:=run_makeSlice (P:=prog) w 67 146 y (.agg (aI Ev.zero)) underlying67 r m .i64 .i64 3 3 (by omega) (Int.le_refl _) (by rw[f];decide) (by rw[o];decide) (by omega);rw[f] at h;have e:madeCells (Value.agg (aI Ev.zero)).cells (Int.toNat 3*10)=(zAG [Ev.zero,Ev.zero,Ev.zero]).toArray:=by kernel_rfl
  rw[e] at h;exact h
 have s:Hid (∀ W:World,(W.alloc (.cells (zAG [Ev.zero,Ev.zero,Ev.zero]).toArray 146)).heap[W.heap.size]?=some (.cells (zAG [Ev.zero,Ev.zero,Ev.zero]).toArray 146 (0,0))):=fun W=>heap_alloc_new W _
 clear r m f o;go_enter func105,ntmps105;go_wp2;go_loopw [6] (fun j wr=>∃ (k:Nat),k<=3/\j=.int .i64 k/\Hid (wr.heap[w.heap.size]?=some (.cells (zAG (rH k)).toArray 146 (0,0)))/\Hid (Below w.heap.size w wr)) (fun j _=>3-(intOf j).toNat)
 case atStart=>exact⟨0,by omega,rfl,s.out w,(xW _ _).alloc (xF _) _⟩
 case round =>
  obtain⟨k,z,rfl,d,HB⟩:=hrel;have p:k=0\/k=1\/k=2\/k=3:=by omega
  have t:=(Array.getElem?_eq_some_iff.1 d.out).1
  rcases p with rfl | rfl | rfl | rfl
  ·have i:Hid (wr.there w.heap.size 0 10):=sX d.out (by simp[kP,rH]);have b:=zAa (sE w.heap.size 146 (0,0) (aI (zMN 0)).toList (zAG (rH 0)) 0 wr d.out);have a:Hid (Below w.heap.size w (wr.setCells w.heap.size 0 (aI (zMN 0)).toList)):=Below.setCells (xF _) _ _ _ HB.out;go_wp2_with (first | (refine CJ (.tmp 13) (.tmp 12) rfl rfl w.heap.size 0 (zMN 0) rfl rfl i.out ?_;generalize l:wr.setCells w.heap.size 0 (aI (zMN 0)).toList=q at *));go_roundw
   case rel=>exact⟨1,by omega,by go_num,b,a⟩
   case measure=>simp[intOf]
  ·have i:Hid (wr.there w.heap.size 10 10):=sX d.out (by simp[kP,rH]);have b:=zAa (sE w.heap.size 146 (0,0) (aI (zMN 1)).toList (zAG (rH 1)) 10 wr d.out);have a:Hid (Below w.heap.size w (wr.setCells w.heap.size 10 (aI (zMN 1)).toList)):=Below.setCells (xF _) _ _ _ HB.out;go_wp2_with (first | (refine CJ (.tmp 13) (.tmp 12) rfl rfl w.heap.size 10 (zMN 1) rfl rfl i.out ?_;generalize l:wr.setCells w.heap.size 10 (aI (zMN 1)).toList=q at *));go_roundw
   case rel=>exact⟨2,by omega,by go_num,b,a⟩
   case measure=>simp[intOf]
  ·have i:Hid (wr.there w.heap.size 20 10):=sX d.out (by simp[kP,rH]);have b:=zAa (sE w.heap.size 146 (0,0) (aI (zMN 2)).toList (zAG (rH 2)) 20 wr d.out);have a:Hid (Below w.heap.size w (wr.setCells w.heap.size 20 (aI (zMN 2)).toList)):=Below.setCells (xF _) _ _ _ HB.out;go_wp2_with (first | (refine CJ (.tmp 13) (.tmp 12) rfl rfl w.heap.size 20 (zMN 2) rfl rfl i.out ?_;generalize l:wr.setCells w.heap.size 20 (aI (zMN 2)).toList=q at *));go_roundw
   case rel=>exact⟨3,by omega,by go_num,b,a⟩
   case measure=>simp[intOf]
  ·go_wp2;go_ret;exact⟨w.heap.size,rfl,zLo (es:=zNn) (c:=0) d.out (xF _) rfl (by decide),HB.out⟩
end Go.Proofs.YtonodfjdiepglaaGreatDoor
