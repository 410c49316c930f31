import Derived.Test.YtlikcongbhhpfaaGreatDoorM17
set_option linter.unusedVariables false
set_option linter.unusedSimpArgs false
set_option maxHeartbeats 12800000
namespace Go.Proofs.YtlikcongbhhpfaaGreatDoor
open Go Go.RowKit Go.Proofs.Tryz P Q
set_option maxRecDepth 1000000
variable {w w':World}{t:TypeId}{g n q:Nat}{l:List Nat}
open _root_.Array renaming size->E
open Go.World renaming heap->U,cell?->N,frozen?->z
open Option renaming none->Y,some->I
open Go.Obj renaming cells->C
open Go.Value renaming slice->O
open Bool renaming false->G
open Go.RowKit.Below renaming refl->xF,heap_setCell->x1
open Nat renaming le_refl->xR,lt_of_lt_of_le->xW
open Go.World renaming frozen?->x0
theorem aH{o:Obj}{p:Addr}(h:p.block<E (U w)):(w.alloc o).cell? p=N w p:=by simp only[World.cell?,Below.heap_alloc _ _ _ h]
theorem fH(a:Below (w.alloc (C #[O Y 0 0] t)).heap.size (w.alloc (C #[O Y 0 0] t)) w'):N w' ⟨E (U w),0,Y⟩=I (O Y 0 0)/\z w' ⟨E (U w),0,Y⟩=G/\w'.heap[E (U w)]?=I (C #[O Y 0 0] t (0,0)):=by
 have h:=heap_alloc_new w (C #[O Y 0 0] t);obtain⟨c,f,l⟩:=bF h;exact⟨(a.cell (p:=⟨E (U w),0,Y⟩) l).trans c,(a.frozen (p:=⟨E (U w),0,Y⟩) l).trans f,(a.block _ l).trans h⟩
theorem sQ(a:Below (E (U w)) w w')(h:N w ⟨g,0,Y⟩=I (O Y 0 0)/\z w ⟨g,0,Y⟩=G/\w.heap[g]?=I (C #[O Y 0 0] t (0,0))):N w' ⟨g,0,Y⟩=I (O Y 0 0)/\z w' ⟨g,0,Y⟩=G/\w'.heap[g]?=I (C #[O Y 0 0] t (0,0)):=by
 have l:=World.block_lt_of_cell? w _ h.1;exact⟨(a.cell (p:=⟨g,0,Y⟩) l).trans h.1,(a.frozen (p:=⟨g,0,Y⟩) l).trans h.2.1,(a.block g l).trans h.2.2⟩
theorem rY{W:World}(a:Below (E (U W)) W w)(b:Ed w q n l):∃gx qx,Value.pointer (I ⟨E (U w),0,Y⟩)=.pointer (I ⟨gx,0,Y⟩)/\(w.alloc (C #[JQ q n n] 76)).heap[gx]?=I (C #[JQ qx n n] 76 (0,0))/\Ed (w.alloc (C #[JQ q n n] 76)) qx n l/\Below (E (U W)) W (w.alloc (C #[JQ q n n] 76))/\E (U W)<=gx :=
 ⟨E (U w),q,Z,heap_alloc_new w _,b.X ((xF _ _).alloc (xR _) _),a.alloc a.size _,a.size⟩
theorem lV{W:World}(f:Below (E (U W)) W w)(a:E (U W)<=g)(b:Ed w q n l)(d:w.heap[g]?=I (C #[O Y 0 0] 76 (0,0))):∃gx qx,Value.pointer (I ⟨g,0,Y⟩)=.pointer (I ⟨gx,0,Y⟩)/\(w.setCell ⟨g,0,Y⟩ (JQ q n n)).heap[gx]?=I (C #[JQ qx n n] 76 (0,0))/\Ed (w.setCell ⟨g,0,Y⟩ (JQ q n n)) qx n l/\Below (E (U W)) W (w.setCell ⟨g,0,Y⟩ (JQ q n n))/\E (U W)<=gx:=by
 have c:q≠g:=fun e=>by
  have:=b.at_;unfold LJ at this;rw[e,d]at this;simp at this
 refine⟨g,q,Z,?_,⟨b.at_.aA (x1 _ _ _ _ c),b.len,b.fits⟩,f.setCell (p:=⟨g,0,Y⟩) a _,a⟩;rw[bC d];rfl
def gV(a:FA)(gr:Nat):Array Value:=#[a.ev,JQ a.g1 a.n a.n,JQ a.g2 a.n a.n,JQ a.g3 a.n a.n,JQ a.g4 a.n a.n,JQ a.g5 a.n a.n,JQ a.g6 a.n a.n,JQ a.g7 a.n a.n,JQ a.g8 a.n a.n,JQ a.g9 a.n a.n,JQ gr a.n a.n]
def kZ(a:FA)(gr gf:Nat):Array Value:=#[a.ev,JQ a.g1 a.n a.n,JQ a.g2 a.n a.n,JQ a.g3 a.n a.n,JQ a.g4 a.n a.n,JQ a.g5 a.n a.n,JQ a.g6 a.n a.n,JQ a.g7 a.n a.n,JQ a.g8 a.n a.n,JQ a.g9 a.n a.n,JQ gr a.n a.n,JQ gf a.n a.n]
theorem Mo(a:FA)(f:Ey)(gr:Nat)(rd:List Nat)(gf:Nat)(bf:List Nat)(gl:Nat)(lk:List Nat)(w:World)(hf:Ef w a f)(hr:Ed w gr a.n rd)(hb:Ed w gf a.n bf)(hl:Ed w gl a.n lk):
  Calls prog 122 #[.agg (kZ a gr gf),.agg #[JQ gl a.n a.n]] w fun e w'=>e=.returned (.bool (f.bW bf lk))/\Below (E (U w)) w w':=by
 obtain⟨x,c,aM,_⟩:=hf.form;obtain⟨n,ev,g1,g2,g3,g4,g5,g6,g7,g8,g9⟩:=a;simp only at aM hr hb hl;subst aM;simp only[LY,kZ];obtain⟨k0,k1,aZ,W⟩:=hJ w #[O x n c,JQ g1 n n,JQ g2 n n,JQ g3 n n,JQ g4 n n,JQ g5 n n,JQ g6 n n,JQ g7 n n,JQ g8 n n,JQ g9 n n,JQ gr n n,JQ gf n n] #[JQ gl n n] 92 76;have HF:=JO (hf.X W);have Rr:=JO (hr.X W);have Rb:=JO (hb.X W);have Rl:=JO (hl.X W);have aT:=JO W;clear W hf hr hb hl;go_enter func122,ntmps122;go_upto_region 1 with fail
 generalize hE:(w.alloc (C #[O x n c,JQ g1 n n,JQ g2 n n,JQ g3 n n,JQ g4 n n,JQ g5 n n,JQ g6 n n,JQ g7 n n,JQ g8 n n,JQ g9 n n,JQ gr n n,JQ gf n n] 92)).alloc (C #[JQ gl n n] 76)=u at*;have ad:=aB k0 4 _ Z;have d:=aB k0 11 _ Z;have i:E (U w)<E (U u):=by omega
 have k:=aB k1 0 _ Z;have J:E (U w)+1<E (U u):=by omega
 clear hE aZ k0 k1;go_cut[5]from 6 to 12 fun p wx=>∃gx qx,p=.pointer (I ⟨gx,0,Y⟩)/\wx.heap[gx]?=I (C #[JQ qx n n] 76 (0,0))/\Ed wx qx n (LR (LR bf lk) bf)/\Below (E (U u)) u wx/\E (U u)<=gx
 case first =>
  have aN:=xR (E (U u));go_region_held3 (fun w'=>N w' ⟨E (U w),11,Y⟩=I (JQ gf n n)/\N w' ⟨E (U w)+1,0,Y⟩=I (JQ gl n n)) (first|exact⟨d,k⟩|exact⟨(aH i).trans d,(aH J).trans k⟩|exact⟨S,T⟩|exact⟨(aH ao).trans S,(aH ap).trans T⟩|exact⟨A,B⟩|exact⟨(aH aq).trans A,(aH ar).trans B⟩|exact⟨(aV (by omega)).trans A,(aV (by omega)).trans B⟩) (first
   |(go_at_call_of 113 (JQ av n n);refine(iK av gf n _ _ _ (by first|exact au.o|exact au.o.X ((xF _ _).alloc (xR _) _)) (Rb.o.X (by first|exact b.o|exact b.o.alloc b.o.size _))).mono ?_;rintro e s ⟨bd,rfl,aF,r⟩;have m:JP (Below (E (U u)) u s):=(by first|exact JW b.o (xR _) r|exact JW (b.o.alloc b.o.size _) (xR _) r);have A:=JS m.o i d;have B:=JS m.o J k;have aq:=xW i m.o.size;have ar:=xW J m.o.size;(try(have az:N s ⟨E (U j),0,Y⟩=I (O Y 0 0)/\z s ⟨E (U j),0,Y⟩=G/\s.heap[E (U j)]?=I (C #[O Y 0 0] 76 (0,0)):=by first|exact fH r|exact fH (w:=j.drew) r));(try(have K:N s ⟨E (U u),0,Y⟩=I (O Y 0 0)/\z s ⟨E (U u),0,Y⟩=G/\s.heap[E (U u)]?=I (C #[O Y 0 0] 76 (0,0)):=sQ r ay));(try have bc:=az.1);(try have bf:=az.2.1);(try have bc:=K.1);(try have bf:=K.2.1);have aa:=JO aF)
   |(go_at_call_of 113 (JQ gf n n);refine(iK gf gl n _ _ _ (Rb.o.X (by first|exact(xF _ _).drew|exact((xF _ _).drew).alloc (by simp) _)) (Rl.o.X (by first|exact(xF _ _).drew|exact((xF _ _).drew).alloc (by simp) _))).mono ?_;rintro e j ⟨av,rfl,aE,F⟩;have b:JP (Below (E (U u)) u j):=(by first|exact((xF (E (U u)) u).drew).trans (F.mono (by simp))|exact(((xF (E (U u)) u).drew).alloc (by simp) _).trans (F.mono (by simp)));have S:=JS b.o i d;have T:=JS b.o J k;have ao:=xW i b.o.size;have ap:=xW J b.o.size;(try(have ay:N j ⟨E (U u),0,Y⟩=I (O Y 0 0)/\z j ⟨E (U u),0,Y⟩=G/\j.heap[E (U u)]?=I (C #[O Y 0 0] 76 (0,0)):=by first|exact fH F|exact fH (w:=u.drew) F));(try have bc:=ay.1);(try have bf:=ay.2.1);have au:=JO aE))
  all_goals
   (try go_wp2)
   go_meet
   case rel=>first|exact rY m.o aa.o|exact lV m.o aN aa.o K.2.2|exact lV m.o b.o.size aa.o az.2.2
 case rest =>
 obtain⟨aY,aP,rfl,ba,aO,v,bb⟩:=hcut;have aW:=JO (HF.o.X v);have aK:=JO (Rb.o.X v);have aL:=JO aO;have aU:=JO (JW aT.o (xR _) v);have V:=JS v i ad;have D:=JS v i d;have y:=xW i v.size;obtain⟨an,aX,aG⟩:=bF ba;go_upto_region 2 with fail
 clear aX;go_region_held3 (fun w'=>N w' ⟨E (U w),4,Y⟩=I (JQ g4 n n)/\N w' ⟨E (U w),11,Y⟩=I (JQ gf n n)/\N w' ⟨aY,0,Y⟩=I (JQ aP n n)) (first|exact⟨V,D,an⟩|exact⟨ae,af,ag⟩|exact⟨ah,ai,aj⟩|exact⟨ak,al,am⟩) (first
  |(go_at_call_of 111 (JQ ax n n);refine(DM ax n _ _ aJ.o).mono ?_;rintro e aS ⟨rfl,aD⟩;have M:JP (Below (E (U wc)) wc aS):=JW L.o (xR _) aD;have ak:=JS M.o y V;have al:=JS M.o y D;have am:=JS M.o aG an;skip)
  |(go_at_call_of 114 (JQ aw n n);refine(rD aw g4 n _ _ _ aI.o (aW.o.r4.X H.o)).mono ?_;rintro e aR ⟨ax,rfl,ac,aC⟩;have L:JP (Below (E (U wc)) wc aR):=JW H.o (xR _) aC;have ah:=JS L.o y V;have ai:=JS L.o y D;have aj:=JS L.o aG an;have aJ:=JO ac;clear ac)
  |(go_at_call_of 67 (JQ gf n n);refine(iQ gf aP n _ _ _ (aK.o.X (xF _ _).drew) (aL.o.X (xF _ _).drew)).mono ?_;rintro e aQ ⟨aw,rfl,ab,aA⟩;have H:JP (Below (E (U wc)) wc aQ):=((xF (E (U wc)) wc).drew).trans (aA.mono (by simp));have ae:=JS H.o y V;have af:=JS H.o y D;have ag:=JS H.o aG an;have aI:=JO ab;clear ab))
 all_goals
  go_wp2;go_ret;exact⟨Z,JW aU.o (xR _) M.o⟩
theorem Mp(ga:Nat)(ah:List Nat)(gl:Nat)(lk:List Nat)(n:Nat)(w:World)(ha:Ed w ga n ah)(hl:Ed w gl n lk):
  Calls prog 143 #[.agg #[JQ ga n n],.agg #[JQ gl n n]] w fun e w'=>jE w w' n (xQ ah lk) e:=by
 obtain⟨k0,k1,k2,bb,az⟩:=lP w #[JQ ga n n] #[JQ gl n n] #[O Y 0 0] 76 76 76;have Ra:=JO (ha.X az);have Rl:=JO (hl.X az);have aY:=JO az;go_enter func143,ntmps143;go_upto_region 1 with fail
 generalize hE:((w.alloc (C #[JQ ga n n] 76)).alloc (C #[JQ gl n n] 76)).alloc (C #[O Y 0 0] 76)=m at*;have b:=aB k0 0 _ Z;have s:E (U w)<E (U m):=by omega
 have f:=aB k1 0 _ Z;have A:E (U w)+1<E (U m):=by omega
 have ab:=aB k2 0 _ Z;have S:E (U w)+2<E (U m):=by omega
 have aO:∀j,z m ⟨E (U w)+2,j,Y⟩=G:=fun j=>by simp[x0,k2]
 have aJ:=JO k2;clear hE bb k0 k1 k2;go_cut[5]from 6 to 10 fun p wx=>∃gx qx,p=.pointer (I ⟨gx,0,Y⟩)/\wx.heap[gx]?=I (C #[JQ qx n n] 76 (0,0))/\Ed wx qx n (cE lk (LR lk ah))/\Below (E (U m)) m wx/\E (U m)<=gx
 case first =>
  have aQ:=xR (E (U m));go_region_held3 (fun w'=>N w' ⟨E (U w),0,Y⟩=I (JQ ga n n)/\N w' ⟨E (U w)+1,0,Y⟩=I (JQ gl n n)) (first|exact⟨b,f⟩|exact⟨(aH s).trans b,(aH A).trans f⟩|exact⟨H,J⟩|exact⟨(aH ai).trans H,(aH aj).trans J⟩|exact⟨v,x⟩|exact⟨(aH ak).trans v,(aH al).trans x⟩|exact⟨(aV (by omega)).trans v,(aV (by omega)).trans x⟩) (first
   |(go_at_call_of 67 (JQ gl n n);refine(iQ gl aS n _ _ _ (Rl.o.X (by first|exact a.o|exact a.o.alloc a.o.size _)) (by first|exact ao.o|exact ao.o.X ((xF _ _).alloc (xR _) _))).mono ?_;rintro e u ⟨bg,rfl,aD,r⟩;have i:JP (Below (E (U m)) m u):=(by first|exact JW a.o (xR _) r|exact JW (a.o.alloc a.o.size _) (xR _) r);have v:=JS i.o s b;have x:=JS i.o A f;have ak:=xW s i.o.size;have al:=xW A i.o.size;(try(have av:N u ⟨E (U d),0,Y⟩=I (O Y 0 0)/\z u ⟨E (U d),0,Y⟩=G/\u.heap[E (U d)]?=I (C #[O Y 0 0] 76 (0,0)):=by first|exact fH r|exact fH (w:=d.drew) r));(try(have B:N u ⟨E (U m),0,Y⟩=I (O Y 0 0)/\z u ⟨E (U m),0,Y⟩=G/\u.heap[E (U m)]?=I (C #[O Y 0 0] 76 (0,0)):=sQ r au));(try have bc:=av.1);(try have bf:=av.2.1);(try have bc:=B.1);(try have bf:=B.2.1);have W:=JO aD)
   |(go_at_call_of 113 (JQ gl n n);refine(iK gl ga n _ _ _ (Rl.o.X (by first|exact(xF _ _).drew|exact((xF _ _).drew).alloc (by simp) _)) (Ra.o.X (by first|exact(xF _ _).drew|exact((xF _ _).drew).alloc (by simp) _))).mono ?_;rintro e d ⟨aS,rfl,aC,y⟩;have a:JP (Below (E (U m)) m d):=(by first|exact((xF (E (U m)) m).drew).trans (y.mono (by simp))|exact(((xF (E (U m)) m).drew).alloc (by simp) _).trans (y.mono (by simp)));have H:=JS a.o s b;have J:=JS a.o A f;have ai:=xW s a.o.size;have aj:=xW A a.o.size;(try(have au:N d ⟨E (U m),0,Y⟩=I (O Y 0 0)/\z d ⟨E (U m),0,Y⟩=G/\d.heap[E (U m)]?=I (C #[O Y 0 0] 76 (0,0)):=by first|exact fH y|exact fH (w:=m.drew) y));(try have bc:=au.1);(try have bf:=au.2.1);have ao:=JO aC))
  all_goals
   (try go_wp2)
   go_meet
   case rel=>first|exact rY i.o W.o|exact lV i.o aQ W.o B.2.2|exact lV i.o a.o.size W.o av.2.2
 case rest =>
 obtain⟨ba,am,rfl,bd,aR,c,be⟩:=hcut;have aM:=JO (Ra.o.X c);have ap:=JO aR;have aZ:=JO (JW aY.o (xR _) c);have M:=JS c s b;have aN:=JS c S ab;have aa:=xW s c.size;have aP:∀j,z wc ⟨E (U w)+2,j,Y⟩=G:=fun j=>(c.frozen (p:=⟨E (U w)+2,j,Y⟩) S).trans (aO j)
 have T:=xW S c.size;have an:=JO ((c.block _ S).trans aJ.o);obtain⟨ag,bj,aI⟩:=bF bd;go_upto_region 2 with fail
 go_region_held3 (fun w'=>N w' ⟨E (U w),0,Y⟩=I (JQ ga n n)/\N w' ⟨ba,0,Y⟩=I (JQ am n n)) (first|exact⟨M,ag⟩|exact⟨ac,ad⟩|exact⟨ae,af⟩|exact⟨K,L⟩|exact⟨(aV (by omega)).trans K,(aV (by omega)).trans L⟩) (first
  |(go_at_call_of 68 (JQ aq n n);refine(wT aq n _ _ aL.o).mono ?_;rintro e aX ⟨ar,rfl,aG,ay⟩;have k:JP (Below (E (U wc)) wc aX):=JW V.o (xR _) ay;have K:=JS k.o aa M;have L:=JS k.o aI ag;have bi:=(k.o.frozen (p:=⟨E (U w)+2,0,Y⟩) T).trans (aP 0);have bh:=JS k.o T aN;have F:=JO aG)
  |(go_at_call_of 67 (JQ am n n);refine(iQ am aT n _ _ _ (ap.o.X D.o) aK.o).mono ?_;rintro e aW ⟨aq,rfl,aF,ax⟩;have V:JP (Below (E (U wc)) wc aW):=JW D.o (xR _) ax;have ae:=JS V.o aa M;have af:=JS V.o aI ag;have aL:=JO aF)
  |(go_at_call_of 113 (JQ ga n n);refine(iK ga am n _ _ _ (aM.o.X (xF _ _).drew) (ap.o.X (xF _ _).drew)).mono ?_;rintro e aU ⟨aT,rfl,aE,aw⟩;have D:JP (Below (E (U wc)) wc aU):=((xF (E (U wc)) wc).drew).trans (aw.mono (by simp));have ac:=JS D.o aa M;have ad:=JS D.o aI ag;have aK:=JO aE))
 all_goals
  (try go_wp2)
  refine jL (p:=4) (E (U w)+2) _ (by kernel_rfl) Z (by exact bC ((k.o.block _ T).trans an.o) 0 (JQ ar n n)) Z ⟨ar,Z,⟨(F.o).at_.aA (x1 _ _ _ _ (by have:=F.o.at_;unfold LJ at this;intro e;rw[e]at this;rw[(k.o.block _ T).trans an.o]at this;simp at this)),(F.o).len,(F.o).fits⟩,(JW aZ.o (xR _) k.o).setCell (p:=⟨E (U w)+2,0,Y⟩) (by simp) _⟩
theorem Mq(a:FA)(f:Ey)(gr:Nat)(rd:List Nat)(gs:Nat)(aJ:List Nat)(gl:Nat)(lk:List Nat)(w:World)(hf:Ef w a f)(hr:Ed w gr a.n rd)(hs:Ed w gs a.n aJ)(hl:Ed w gl a.n lk):
  Calls prog 92 #[.agg (gV a gr),.agg #[JQ gs a.n a.n],.agg #[JQ gl a.n a.n]] w fun e w'=>jE w w' a.n (f.cause aJ lk) e:=by
 obtain⟨x,c,bl,_⟩:=hf.form;obtain⟨n,ev,g1,g2,g3,g4,g5,g6,g7,g8,g9⟩:=a;simp only at bl hr hs hl;subst bl;simp only[LY,gV];obtain⟨T,k1,k2,k3,bY,ae⟩:=JN w #[O x n c,JQ g1 n n,JQ g2 n n,JQ g3 n n,JQ g4 n n,JQ g5 n n,JQ g6 n n,JQ g7 n n,JQ g8 n n,JQ g9 n n,JQ gr n n] #[JQ gs n n] #[JQ gl n n] #[O Y 0 0] 109 76 76 76;have HF:=JO (hf.X ae);have Rr:=JO (hr.X ae);have Rs:=JO (hs.X ae);have Rl:=JO (hl.X ae);have bs:=JO ae;go_enter func92,ntmps92;go_upto_region 1 with fail
 generalize hE:(((w.alloc (C #[O x n c,JQ g1 n n,JQ g2 n n,JQ g3 n n,JQ g4 n n,JQ g5 n n,JQ g6 n n,JQ g7 n n,JQ g8 n n,JQ g9 n n,JQ gr n n] 109)).alloc (C #[JQ gs n n] 76)).alloc (C #[JQ gl n n] 76)).alloc (C #[O Y 0 0] 76)=V at*;have af:=aB T 0 _ Z;have ag:=aB T 1 _ Z;have ah:=aB T 2 _ Z;have ai:=aB T 3 _ Z;have aj:=aB T 4 _ Z;have ak:=aB T 5 _ Z;have al:=aB T 6 _ Z;have am:=aB T 7 _ Z;have an:=aB T 8 _ Z;have ao:=aB T 9 _ Z;have aa:=aB T 10 _ Z;have b:E (U w)<E (U V):=by omega
 have bg:∀j,z V ⟨E (U w),j,Y⟩=G:=fun j=>by simp[x0,T]
 have aX:=JO T;have ap:=aB k1 0 _ Z;have H:E (U w)+1<E (U V):=by omega
 have bh:∀j,z V ⟨E (U w)+1,j,Y⟩=G:=fun j=>by simp[x0,k1]
 have aY:=JO k1;have aq:=aB k2 0 _ Z;have J:E (U w)+2<E (U V):=by omega
 have bi:∀j,z V ⟨E (U w)+2,j,Y⟩=G:=fun j=>by simp[x0,k2]
 have aZ:=JO k2;have ar:=aB k3 0 _ Z;have K:E (U w)+3<E (U V):=by omega
 have bj:∀j,z V ⟨E (U w)+3,j,Y⟩=G:=fun j=>by simp[x0,k3]
 have ba:=JO k3;go_upto_region 2 with(first
  |(go_at_call 143;refine(Mp g1 _ gl _ n _ (HF.o.r1.X (xF _ _)) (Rl.o.X (xF _ _))).mono ?_;rintro e i ⟨d,rfl,aR,aO⟩;have W:JP (Below (E (U V)) V i):=aO;have bb:=JO aR))
 have bm:=heap_alloc_new i (C #[JQ d n n] 76);have k:Below (E (U V)) V (i.alloc (C #[JQ d n n] 76)):=W.o.alloc W.o.size _;have bR:=W.o.size;have aF:=k.size;have bu:=JO (HF.o.X k);have bB:=JO (Rr.o.X k);have bf:=JO (Rs.o.X k);have bD:=JO (Rl.o.X k);have aI:=JO (bb.o.X ((xF _ _).alloc (xR _) (C #[JQ d n n] 76)));have bt:=JO (JW bs.o (xR _) k);have bE:=JS k b af;have v:=JS k b ag;have bG:=JS k b ah;have bH:=JS k b ai;have bI:=JS k b aj;have bJ:=JS k b ak;have bK:=JS k b al;have bL:=JS k b am;have bM:=JS k b an;have bN:=JS k b ao;have bv:=JS k b aa;have r:=JS k H ap;have bw:=JS k J aq;have aN:=JS k K ar;have bO:∀j,(i.alloc (C #[JQ d n n] 76)).frozen? ⟨E (U w),j,Y⟩=G:=fun j=>(k.frozen (p:=⟨E (U w),j,Y⟩) b).trans (bg j)
 have L:=xW b aF;have bx:=JO ((k.block _ b).trans aX.o);have bP:∀j,(i.alloc (C #[JQ d n n] 76)).frozen? ⟨E (U w)+1,j,Y⟩=G:=fun j=>(k.frozen (p:=⟨E (U w)+1,j,Y⟩) H).trans (bh j)
 have M:=xW H aF;have bz:=JO ((k.block _ H).trans aY.o);have bQ:∀j,(i.alloc (C #[JQ d n n] 76)).frozen? ⟨E (U w)+2,j,Y⟩=G:=fun j=>(k.frozen (p:=⟨E (U w)+2,j,Y⟩) J).trans (bi j)
 have bS:=xW J aF;have bA:=JO ((k.block _ J).trans aZ.o);have bk:∀j,(i.alloc (C #[JQ d n n] 76)).frozen? ⟨E (U w)+3,j,Y⟩=G:=fun j=>(k.frozen (p:=⟨E (U w)+3,j,Y⟩) K).trans (bj j)
 have S:=xW K aF;have aH:=JO ((k.block _ K).trans ba.o);have bX:E (U i)<(i.alloc (C #[JQ d n n] 76)).heap.size:=by simp
 generalize bW:i.alloc (C #[JQ d n n] 76)=W1 at*;obtain⟨ab,bV,aG⟩:=bF bm;go_region_held3 (fun w'=>N w' ⟨E (U w),1,Y⟩=I (JQ g1 n n)/\N w' ⟨E (U w)+1,0,Y⟩=I (JQ gs n n)/\N w' ⟨E (U i),0,Y⟩=I (JQ d n n)) (first|exact⟨v,r,ab⟩|exact⟨au,av,aw⟩|exact⟨ax,ay,az⟩|exact⟨aC,aD,aE⟩|exact⟨B,D,F⟩|exact⟨(aV (by omega)).trans B,(aV (by omega)).trans D,(aV (by omega)).trans F⟩) (first
  |(go_at_call_of 67 (JQ aK n n);refine(iQ aK bn n _ _ _ ((bc.o.X ac).X ad) be.o).mono ?_;rintro e br ⟨aM,rfl,aW,aQ⟩;have m:JP (Below (E (U W1)) W1 br):=JW y.o (xR _) aQ;have B:=JS m.o L v;have D:=JS m.o M r;have F:=JS m.o aG ab;have bU:=(m.o.frozen (p:=⟨E (U w)+3,0,Y⟩) S).trans (bk 0);have bT:=JS m.o S aN;have A:=JO aW)
  |(go_at_call_of 113 (JQ aL n n);refine(iK aL d n _ _ _ bd.o (aI.o.X u.o)).mono ?_;rintro e bq ⟨bn,rfl,aU,ad⟩;have y:JP (Below (E (U W1)) W1 bq):=JW u.o (xR _) ad;have aC:=JS y.o L v;have aD:=JS y.o M r;have aE:=JS y.o aG ab;have be:=JO aU)
  |(go_at_call_of 144 (JQ gs n n);refine(XI gs n _ _ (bf.o.X s.o)).mono ?_;rintro e bp ⟨aL,rfl,aT,ac⟩;have u:JP (Below (E (U W1)) W1 bp):=JW s.o (xR _) ac;have ax:=JS u.o L v;have ay:=JS u.o M r;have az:=JS u.o aG ab;have bd:=JO aT)
  |(go_at_call_of 67 (JQ d n n);refine(iQ d g1 n _ _ _ (aI.o.X (xF _ _).drew) (bu.o.r1.X (xF _ _).drew)).mono ?_;rintro e bo ⟨aK,rfl,aS,aP⟩;have s:JP (Below (E (U W1)) W1 bo):=((xF (E (U W1)) W1).drew).trans (aP.mono (by simp));have au:=JS s.o L v;have av:=JS s.o M r;have aw:=JS s.o aG ab;have bc:=JO aS))
 all_goals
  (try go_wp2)
  have KR:=bC ((m.o.block _ S).trans aH.o) 0 (JQ aM n n);refine jL (p:=6) (E (U w)+3) _ (by kernel_rfl) Z (by exact KR) Z ⟨aM,Z,⟨(A.o).at_.aA (x1 _ _ _ _ (by have:=A.o.at_;unfold LJ at this;intro e;rw[e]at this;rw[(m.o.block _ S).trans aH.o]at this;simp at this)),(A.o).len,(A.o).fits⟩,(JW bt.o (xR _) m.o).setCell (p:=⟨E (U w)+3,0,Y⟩) (by simp) _⟩
end Go.Proofs.YtlikcongbhhpfaaGreatDoor
