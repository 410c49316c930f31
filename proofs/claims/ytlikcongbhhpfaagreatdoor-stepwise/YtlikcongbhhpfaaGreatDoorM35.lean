import Derived.Test.YtlikcongbhhpfaaGreatDoorM34
import Derived.Test.YtlikcongbhhpfaaGreatDoorM33
import Derived.Test.YtlikcongbhhpfaaGreatDoorM19
set_option linter.unusedVariables false
set_option linter.unusedSimpArgs false
set_option maxHeartbeats 12800000
namespace Go.Proofs.YtlikcongbhhpfaaGreatDoor
open Go Go.RowKit Go.Proofs.Tryz P Q
set_option maxRecDepth 1000000
variable {w w':World}{v:Value}{n:Nat}{ls:List (List Nat)}{gs:List Nat}
open _root_.Array renaming size->N
open Go.World renaming heap->z,cell?->M,frozen?->H
open List renaming length->L
open Option renaming none->Y,some->C
open Go.Value renaming slice->O
open Go.Obj renaming cells->G
open Bool renaming false->U
open Nat renaming lt_of_lt_of_le->xF,le_refl->xR,lt_of_le_of_lt->x4,lt_of_lt_of_eq->x5,lt_succ_self->x6
open Go.RowKit.Below renaming refl->xW,heap_alloc->x2
open Go.World renaming frozen?->x0
open Go.Value renaming slice->x1,ownBlock->x3
theorem Tryz.infoRel1:(prog.info? 76).map (fun i=>(i.zero,i.size,i.bytes))=C (C (.agg #[O Y 0 0]),1,24):=by kernel_rfl
structure Et(w:World)(v:Value)(n:Nat)(ls:List (List Nat))(gs:List Nat):Prop where
 ow:w.ownsRow 0 76 1 v (L ls) (gs.map fun g=>JQ g n n)
 len:L gs=L ls
 rel:∀i (h:i<L ls) (g:Nat),gs[i]?=C g->Ed w g n ls[i]
namespace Q
theorem Qe(es:List Ev):(LC es).length=L es:=by simp[LC]
def kX(f:Ey)(rd:List Nat)(w:Wd)(l:List (List Int)):List (List Nat):=(l.filter fun ds=>PA rd (f.LL rd w ds) (f.Ec (LK (LC w.E) ds))).map (f.LL rd w)
theorem Qf(f:Ey)(a:List Nat)(w:Wd)(r:List Int)(q:List (List Int)):kX f a w (r::q)=if PA a (f.LL a w r) (f.Ec (LK (LC w.E) r))then f.LL a w r::kX f a w q else kX f a w q:=by
 unfold kX;rw[List.filter_cons]
 split<;>rfl
end Q
theorem Et.X(h:Et w v n ls gs)(a:Below (N (z w)) w w'):Et w' v n ls gs :=
 ⟨aU h.ow fun k e=>a.block k (h.ow.lt k e).2,h.len,fun i c g b=>(h.rel i c g b).X a⟩
theorem Et.push{f:Value}{q:Nat}{l:List Nat}{o:Obj}(h:Et w v n ls gs)(r:Ed w q n l)(p:w'.ownsRow 0 76 1 f (L ls+1) ((gs.map fun g=>JQ g n n)++[JQ q n n]))(k:(w.alloc o).grownBy w' v.ownBlock):Et w' f n (ls++[l]) (gs++[q]):=by
 have K:∀{g l},Ed w g n l->Ed w' g n l:=fun{g l} b=>by
  refine⟨b.at_.aA ((k.block g (by have:=b.lt;simp;omega) fun e=>?_).trans (x2 _ _ _ b.lt)),b.len,b.fits⟩;have d:=b.at_;unfold LJ at d;exact eD h.ow d (by decide) e.symm
 refine⟨by simpa using p,by simp[h.len],fun i m j a=>?_⟩;by_cases hlt:i<L ls
 ·rw[List.getElem?_append_left (by rw[h.len];exact hlt)]at a;rw[List.getElem_append_left hlt];exact K (h.rel i hlt j a)
 ·have c:i=L ls:=by simp at m;omega
  subst c;rw[List.getElem?_append_right (by rw[h.len];exact xR _)]at a;simp[h.len]at a;subst a;simpa using K r
theorem Al{k:Nat}(h:k<100000000):k+1<=maxLen/\(k+1)*24<=140737488355328:=by unfold maxLen;omega
theorem Et.nil(w:World)(n:Nat):Et w (O Y 0 0) n [] []:=⟨by simpa using World.ownsRow_nil w 0 76 1,Z,fun i h=>by simp at h⟩
theorem Et.mS{go o s a:Nat}{m r:List Int}{b:Bool}(h:Et w v n ls gs)(f:Ep w w' go o a)(j:∀k,v.ownBlock=C k->k≠go/\k≠a){l:TypeId}{p:Array Value}(u:NH w go o s a m r b)(x:w.heap[go]?=C (G p l (0,0)))(d:164≠l):Et w' v n ls gs :=
 ⟨aU h.ow fun k e=>f.block k (j k e).1 (j k e).2,h.len,fun i y g c=>by
  have q:=h.rel i y g c;exact⟨q.at_.aA (f.block g (pQ q.at_ x d) (pQ q.at_ (t:=3) u.digits (by decide))),q.len,q.fits⟩⟩
def vN(Wz:World)(go gro gb gd N1:Nat)(f:Ey)(rd:List Nat)(wd:Wd)(n:Nat)(fin:List (List Nat))(p:Value×World)(m:Nat):Prop :=
 ∃ds rest done gs,NA p.2 go gro gb gd (LC wd.E) (KY wd.E (LC wd.E)) ds rest/\Below (N (z Wz)) Wz p.2/\done++kX f rd wd rest=fin/\Et p.2 p.1 n done gs/\(∀k,p.1.ownBlock=C k->N1<=k)/\L rest=m/\N1<=N (z p.2)/\∃cg,p.2.heap[go]?=C (G cg 132 (0,0))
theorem Qg{α:Type}(I:α->Nat->Prop):∃ μ:α->Nat,∀w,(∃n,I w n)->I w (μ w)/\∀m,I w m->μ w<=m:=by
 have KP:∀P:Nat->Prop,(∃n,P n)->∃n,P n/\∀m,P m->n<=m:=by
  intro P d;obtain⟨n,b⟩:=d
  induction n using Nat.strongRecOn with
  |ind n ih =>
   by_cases h:∃m,m<n/\P m
   ·obtain⟨m,a,f⟩:=h;exact ih m a f
   ·exact⟨n,b,fun m a=>by
     by_cases hl:m<n
     ·exact absurd ⟨m,hl,a⟩ h
     ·omega⟩
 have c:∀w,∃n,(∃n,I w n)->I w n/\∀m,I w m->n<=m:=fun w=>by
  by_cases h:∃n,I w n
  ·obtain⟨n,b⟩:=KP (I w) h;exact⟨n,fun _=>b⟩
  ·exact⟨0,fun e=>absurd e h⟩
 exact⟨fun w=>Classical.choose (c w),fun w=>Classical.choose_spec (c w)⟩
theorem Am(a:FA)(f:Ey)(gr:Nat)(rd:List Nat)(ev rg:Value)(B:Wd)(w:World)(hf:Ef w a f)(hr:Ed w gr a.n rd)(hw:NO w ev rg B)(hG:f.E=B.E)(dO:L B.E<=64)(fw:(f.bH rd B).length<100000000):
  Calls prog 48 #[.agg (gV a gr),.agg #[ev,rg]] w fun e w'=>∃v gs,e=.returned v/\Et w' v a.n (f.bH rd B) gs/\Below (N (z w)) w w':=by
 have fW:a.n=L B.E:=by rw[<- hf.len,hG]
 obtain⟨ea,ec,rfl,_⟩:=hw.K.form;obtain⟨ra,rc,rfl,_⟩:=hw.g.form;obtain⟨i0,iR,jd,je,jf⟩:=info_parts Tryz.infoRel1;obtain⟨μ,hμ⟩:∃ μ:Nat->Nat,True:=⟨id,trivial⟩;clear hμ μ;obtain⟨x,c,hD,_⟩:=hf.form;obtain⟨n,ev,g1,g2,g3,g4,g5,g6,g7,g8,g9⟩:=a;simp only at hD hr fW;subst hD;simp only[LY,gV];obtain⟨k0,k1,jb,ff⟩:=hJ w #[O x n c,JQ g1 n n,JQ g2 n n,JQ g3 n n,JQ g4 n n,JQ g5 n n,JQ g6 n n,JQ g7 n n,JQ g8 n n,JQ g9 n n,JQ gr n n] #[O ea (L B.E) ec,O ra (L B.g) rc] 109 73;have HF:=JO (hf.X ff);have iw:=JO hw;have it:=JO fW;have fI:=JO (Qe B.E);have gm:=JO (JL B.E (LC B.E));have gq:=JO (EN B.E (LC B.E) (by rw[fI.o];exact dO));have ge:(LC B.E).length<=64:=by rw[fI.o];exact dO
 have fU:(KY B.E (LC B.E)).length<10000:=by rw[gm.o];omega
 have gB:=JO fw;have iq:JP (f.bH rd B=kX f rd B (LX (KY B.E (LC B.E)))):=Z;generalize f.bH rd B=cj at*;have Rr:=JO (hr.X ff);have ii:=JO ff;clear ff hf hr hw hG fW fw;go_enter func48,ntmps48;go_upto_region 1 with fail
 generalize hE:(w.alloc (G #[O x n c,JQ g1 n n,JQ g2 n n,JQ g3 n n,JQ g4 n n,JQ g5 n n,JQ g6 n n,JQ g7 n n,JQ g8 n n,JQ g9 n n,JQ gr n n] 109)).alloc (G #[O ea (L B.E) ec,O ra (L B.g) rc] 73)=W0 at*;have cw:=aB k0 0 _ Z;have cx:=aB k0 1 _ Z;have cy:=aB k0 2 _ Z;have cz:=aB k0 3 _ Z;have cA:=aB k0 4 _ Z;have cB:=aB k0 5 _ Z;have cC:=aB k0 6 _ Z;have cD:=aB k0 7 _ Z;have cF:=aB k0 8 _ Z;have cG:=aB k0 9 _ Z;have bG:=aB k0 10 _ Z;have ab:N (z w)<N (z W0):=by omega
 have hm:∀j,H W0 ⟨N (z w),j,Y⟩=U:=fun j=>by simp[x0,k0]
 have gF:=JO k0;have cH:=aB k1 0 _ Z;have cI:=aB k1 1 _ Z;have cl:N (z w)+1<N (z W0):=by omega
 have hn:∀j,H W0 ⟨N (z w)+1,j,Y⟩=U:=fun j=>by simp[x0,k1]
 have gG:=JO k1;clear hE jb k0 k1;go_upto_region 3 with(first
  |(go_at_call 66;refine(XK (FA.mk n (O x n c) g1 g2 g3 g4 g5 g6 g7 g8 g9) f gr _ _ (HF.o.X (xW _ _)) (Rr.o.X (xW _ _))).mono ?_;rintro e ac ⟨ad,rfl,dP,fT⟩;have ds:JP (Below (N (z W0)) W0 ac):=fT;have gQ:=JO dP;clear dP))
 have dn:=heap_alloc_new ac (G #[JQ ad n n] 76);have BX:Below (N (z W0)) W0 (ac.alloc (G #[JQ ad n n] 76)):=ds.o.alloc ds.o.size _;have jJ:=ds.o.size;have gf:=BX.size;have fF:=JO (HF.o.X BX);have gR:=JO (Rr.o.X BX);have fl:=JO (gQ.o.X ((xW _ _).alloc (xR _) (G #[JQ ad n n] 76)));have ij:=JO (JW ii.o (xR _) BX);have aE:=JS BX ab cw;have aF:=JS BX ab cx;have aG:=JS BX ab cy;have aI:=JS BX ab cz;have aK:=JS BX ab cA;have aL:=JS BX ab cB;have aM:=JS BX ab cC;have aN:=JS BX ab cD;have aO:=JS BX ab cF;have aP:=JS BX ab cG;have cq:=JS BX ab bG;have cr:=JS BX cl cH;have ct:=JS BX cl cI;have ft:∀j,(ac.alloc (G #[JQ ad n n] 76)).frozen? ⟨N (z w),j,Y⟩=U:=fun j=>(BX.frozen (p:=⟨N (z w),j,Y⟩) ab).trans (hm j)
 have i:=xF ab gf;have gH:=JO ((BX.block _ ab).trans gF.o);have fu:∀j,(ac.alloc (G #[JQ ad n n] 76)).frozen? ⟨N (z w)+1,j,Y⟩=U:=fun j=>(BX.frozen (p:=⟨N (z w)+1,j,Y⟩) cl).trans (hn j)
 have cm:=xF cl gf;have gI:=JO ((BX.block _ cl).trans gG.o);have fg:N (z ac)<(ac.alloc (G #[JQ ad n n] 76)).heap.size:=by simp
 clear BX gf;generalize iK:ac.alloc (G #[JQ ad n n] 76)=W1 at*;obtain⟨dr,jV,bC⟩:=bF dn;have hz:∀j,H W1 ⟨N (z ac),j,Y⟩=U:=fun j=>by simp[x0,dn]
 have iy:=JO dn;clear dn iK fg;clear cw cx cy cz cA cB cC cD cF cG bG cH cI;go_cut[7]from 16 to 23 fun p wx=>∃gx qx,p=.pointer (C ⟨gx,0,Y⟩)/\wx.heap[gx]?=C (G #[JQ qx n n] 76 (0,0))/\Ed wx qx n (cE (f.bT (f.aJ rd)) f.J)/\Below (N (z W1)) W1 wx/\N (z W1)<=gx
 case first =>
  clear cq cr ct ft fu hz;have ck:=xR (N (z W1));go_region_held3 (fun w'=>M w' ⟨N (z w),0,Y⟩=C (O x n c)/\M w' ⟨N (z w),1,Y⟩=C (JQ g1 n n)/\M w' ⟨N (z w),2,Y⟩=C (JQ g2 n n)/\M w' ⟨N (z w),3,Y⟩=C (JQ g3 n n)/\M w' ⟨N (z w),4,Y⟩=C (JQ g4 n n)/\M w' ⟨N (z w),5,Y⟩=C (JQ g5 n n)/\M w' ⟨N (z w),6,Y⟩=C (JQ g6 n n)/\M w' ⟨N (z w),7,Y⟩=C (JQ g7 n n)/\M w' ⟨N (z w),8,Y⟩=C (JQ g8 n n)/\M w' ⟨N (z w),9,Y⟩=C (JQ g9 n n)/\M w' ⟨N (z ac),0,Y⟩=C (JQ ad n n)) (first|exact⟨aE,aF,aG,aI,aK,aL,aM,aN,aO,aP,dr⟩|exact⟨(aH i).trans aE,(aH i).trans aF,(aH i).trans aG,(aH i).trans aI,(aH i).trans aK,(aH i).trans aL,(aH i).trans aM,(aH i).trans aN,(aH i).trans aO,(aH i).trans aP,(aH bC).trans dr⟩|exact⟨cJ,cK,cL,cM,cN,cO,cP,cQ,cR,cS,bI⟩|exact⟨(aH dS).trans cJ,(aH dT).trans cK,(aH dU).trans cL,(aH dV).trans cM,(aH dW).trans cN,(aH dX).trans cO,(aH dY).trans cP,(aH dZ).trans cQ,(aH eb).trans cR,(aH ed).trans cS,(aH dD).trans bI⟩|exact⟨aQ,aR,aS,aT,aW,aX,aY,aZ,ba,bb,an⟩|exact⟨(aH ee).trans aQ,(aH ef).trans aR,(aH eg).trans aS,(aH eh).trans aT,(aH ei).trans aW,(aH ej).trans aX,(aH ek).trans aY,(aH el).trans aZ,(aH em).trans ba,(aH en).trans bb,(aH dE).trans an⟩|exact⟨(aV (by omega)).trans aQ,(aV (by omega)).trans aR,(aV (by omega)).trans aS,(aV (by omega)).trans aT,(aV (by omega)).trans aW,(aV (by omega)).trans aX,(aV (by omega)).trans aY,(aV (by omega)).trans aZ,(aV (by omega)).trans ba,(aV (by omega)).trans bb,(aV (by omega)).trans an⟩) (first
   |(go_at_call_of 67 (JQ fE n n);refine(iQ fE g3 n _ _ _ (by first|exact fj.o|exact fj.o.X ((xW _ _).alloc (xR _) _)) (fF.o.r3.X (by first|exact D.o|exact D.o.alloc D.o.size _))).mono ?_;rintro e aA ⟨jQ,rfl,dR,ax⟩;have T:JP (Below (N (z W1)) W1 aA):=(by first|exact JW D.o (xR _) ax|exact JW (D.o.alloc D.o.size _) (xR _) ax);have aQ:=JS T.o i aE;have aR:=JS T.o i aF;have aS:=JS T.o i aG;have aT:=JS T.o i aI;have aW:=JS T.o i aK;have aX:=JS T.o i aL;have aY:=JS T.o i aM;have aZ:=JS T.o i aN;have ba:=JS T.o i aO;have bb:=JS T.o i aP;have an:=JS T.o bC dr;have ee:=xF i T.o.size;have ef:=xF i T.o.size;have eg:=xF i T.o.size;have eh:=xF i T.o.size;have ei:=xF i T.o.size;have ej:=xF i T.o.size;have ek:=xF i T.o.size;have el:=xF i T.o.size;have em:=xF i T.o.size;have en:=xF i T.o.size;have dE:=xF bC T.o.size;(try(have am:M aA ⟨N (z ai),0,Y⟩=C (O Y 0 0)/\H aA ⟨N (z ai),0,Y⟩=U/\aA.heap[N (z ai)]?=C (G #[O Y 0 0] 76 (0,0)):=by first|exact fH ax|exact fH (w:=ai.drew) ax));(try(have aa:M aA ⟨N (z W1),0,Y⟩=C (O Y 0 0)/\H aA ⟨N (z W1),0,Y⟩=U/\aA.heap[N (z W1)]?=C (G #[O Y 0 0] 76 (0,0)):=sQ ax al));(try have bc:=am.1);(try have bf:=am.2.1);(try have bc:=aa.1);(try have bf:=aa.2.1);have dy:=JO dR;clear dR)
   |(go_at_call 65;refine(XL (FA.mk n (O x n c) g1 g2 g3 g4 g5 g6 g7 g8 g9) f ad _ _ (fF.o.X (by first|exact(xW _ _).drew|exact((xW _ _).drew).alloc (by simp) _)) (fl.o.X (by first|exact(xW _ _).drew|exact((xW _ _).drew).alloc (by simp) _))).mono ?_;rintro e ai ⟨fE,rfl,dQ,bz⟩;have D:JP (Below (N (z W1)) W1 ai):=(by first|exact((xW (N (z W1)) W1).drew).trans (bz.mono (by simp))|exact(((xW (N (z W1)) W1).drew).alloc (by simp) _).trans (bz.mono (by simp)));have cJ:=JS D.o i aE;have cK:=JS D.o i aF;have cL:=JS D.o i aG;have cM:=JS D.o i aI;have cN:=JS D.o i aK;have cO:=JS D.o i aL;have cP:=JS D.o i aM;have cQ:=JS D.o i aN;have cR:=JS D.o i aO;have cS:=JS D.o i aP;have bI:=JS D.o bC dr;have dS:=xF i D.o.size;have dT:=xF i D.o.size;have dU:=xF i D.o.size;have dV:=xF i D.o.size;have dW:=xF i D.o.size;have dX:=xF i D.o.size;have dY:=xF i D.o.size;have dZ:=xF i D.o.size;have eb:=xF i D.o.size;have ed:=xF i D.o.size;have dD:=xF bC D.o.size;(try(have al:M ai ⟨N (z W1),0,Y⟩=C (O Y 0 0)/\H ai ⟨N (z W1),0,Y⟩=U/\ai.heap[N (z W1)]?=C (G #[O Y 0 0] 76 (0,0)):=by first|exact fH bz|exact fH (w:=W1.drew) bz));(try have bc:=al.1);(try have bf:=al.2.1);have fj:=JO dQ;clear dQ))
  all_goals
   (try go_wp2)
   go_meet
   case rel=>first|exact rY T.o dy.o|exact lV T.o ck dy.o aa.2.2|exact lV T.o D.o.size dy.o am.2.2
 case rest =>
 obtain⟨cu,fh,rfl,gg,fB,F,jE⟩:=hcut;have ip:=JO (fF.o.X F);have gS:=JO (gR.o.X F);have gT:=JO (fl.o.X F);have gU:=JO fB;have dt:=JO (JW ij.o (xR _) F);have ha:=JS F i aE;have hb:=JS F i aF;have hc:=JS F i aG;have hd:=JS F i aI;have he:=JS F i aK;have hg:=JS F i aL;have hh:=JS F i aM;have hi:=JS F i aN;have hj:=JS F i aO;have hl:=JS F i aP;have fM:=JS F i cq;have fN:=JS F cm cr;have fO:=JS F cm ct;have fP:=JS F bC dr;have ho:∀j,H wc ⟨N (z w),j,Y⟩=U:=fun j=>(F.frozen (p:=⟨N (z w),j,Y⟩) i).trans (ft j)
 have fC:=xF i F.size;have gJ:=JO ((F.block _ i).trans gH.o);have hp:∀j,H wc ⟨N (z w)+1,j,Y⟩=U:=fun j=>(F.frozen (p:=⟨N (z w)+1,j,Y⟩) cm).trans (fu j)
 have jL:=xF cm F.size;have jj:=JO ((F.block _ cm).trans gI.o);have hq:∀j,H wc ⟨N (z ac),j,Y⟩=U:=fun j=>(F.frozen (p:=⟨N (z ac),j,Y⟩) bC).trans (hz j)
 have fD:=xF bC F.size;have gK:=JO ((F.block _ bC).trans iy.o);obtain⟨iB,iJ,ie⟩:=bF gg;have iz:=JO gg;have ji:=JO F;clear gg fB F aE aF aG aI aK aL aM aN aO aP cq cr ct dr;go_upto_region 4 with fail
 generalize wc=Wz at*;have ix:=JO (iw.o.X dt.o);go_upto_region 5 with(first
  |(go_at_call 90;refine(Ol _ _ B.E _ ix.o.K ⟨_,_,_,Z⟩ dO).mono ?_;rintro e w1 ⟨ah,gb,gd,rfl,hS,hP,hQ,iP,iN,iO,fg,hV,hB⟩;have B1:=JO hB;have IR:=JO hS;have IB:=JO hP;have ID:=JO hQ;clear hS hP hQ hB))
 have S0:JP ((w1.alloc (G #[JQ ah (LC B.E).length (LC B.E).length,JQ gb (KY B.E (LC B.E)).length (KY B.E (LC B.E)).length,JQ gd (KY B.E (LC B.E)).length (KY B.E (LC B.E)).length,.bool U] 132)).heap[N (z w1)]?=C (G #[JQ ah (LC B.E).length (LC B.E).length,JQ gb (KY B.E (LC B.E)).length (KY B.E (LC B.E)).length,JQ gd (KY B.E (LC B.E)).length (KY B.E (LC B.E)).length,.bool U] 132 (0,0))):=heap_alloc_new w1 _;have BL:JP (Below (N (z w1)) w1 (w1.alloc (G #[JQ ah (LC B.E).length (LC B.E).length,JQ gb (KY B.E (LC B.E)).length (KY B.E (LC B.E)).length,JQ gd (KY B.E (LC B.E)).length (KY B.E (LC B.E)).length,.bool U] 132))):=(xW _ _).alloc (xR _) _;generalize w1.alloc (G #[JQ ah (LC B.E).length (LC B.E).length,JQ gb (KY B.E (LC B.E)).length (KY B.E (LC B.E)).length,JQ gd (KY B.E (LC B.E)).length (KY B.E (LC B.E)).length,.bool U] 132)=W1 at*;have iX:=B1.o.size;have iY:N (z w1)<N (z W1):=(Array.getElem?_eq_some_iff.1 S0.o).1;have iT:=IR.o.lt;have iU:=IB.o.lt;have iV:=ID.o.lt;have im:JP (Below (N (z Wz)) Wz W1):=JW B1.o (xR _) BL.o;have gE:JP (vN Wz (N (z w1)) ah gb gd (N (z W1)) f rd B n cj (O Y 0 0,W1) (LX (KY B.E (LC B.E))).length):=⟨_,_,[],[],CD IR.o IB.o ID.o fg hV gm.o S0.o BL.o,im.o,by rw[List.nil_append];exact iq.o.symm,Et.nil _ _,fun k e=>by simp[x3]at e,Z,xR _,_,S0.o⟩;have fx:N (z Wz)<=N (z w1)/\N (z w1)<N (z W1):=⟨by omega,by omega⟩;have hM:N (z Wz)<=ah/\ah<N (z W1):=⟨by omega,by omega⟩;have hH:N (z Wz)<=gb/\gb<N (z W1):=⟨by omega,by omega⟩;have hL:N (z Wz)<=gd/\gd<N (z W1):=⟨by omega,by omega⟩;clear BL B1 S0 IR IB ID iX iT iU iV iP iN iO iY fg hV;generalize(N (z w1))=go at*;generalize(N (z W1))=N1 at*;generalize ja:N (z ac)=sb at*;clear ja;obtain⟨μ,hμ⟩:=Qg (vN Wz go ah gb gd N1 f rd B n cj);have fJ:=JO hμ;clear hμ ha hb hc hd he hg hh hi hj hl fM fN fO fP iB ho hp hq iJ;go_loopw[5] (fun v wr=>∃v' m,v=v'/\JP (vN Wz go ah gb gd N1 f rd B n cj (v',wr) m)) fun v wr=>μ (v,wr)
 case atStart=>exact⟨_,_,Z,gE⟩
 case round =>
 obtain⟨vv,m0,gc,h0⟩:=hrel;have gc:=gc.symm;subst gc;obtain⟨hI,hU⟩:=fJ.o (vv,wr) ⟨m0,h0.o⟩;clear h0 hU gE;obtain⟨iH,gh,done,gs,fA,fv,hF,cv,hZ,fy,fz,cg,hY⟩:=hI;simp only at fA fv cv hZ fy fz hY;have fK:=JO hY;have fL:=JO fA;have gj:=JO fv;have FD:=JO hF;have gZ:=JO cv;have cp:=JO hZ;have HL:=JO fy;have hC:L done<100000000:=by
  have:=gB.o;rw[<- hF,List.length_append]at this;omega
 obtain⟨va,vc,jc⟩:=qV cv.ow;subst jc;have jg:go<N (z wr):=by omega
 go_upto_region 6 with(first|(go_at_call 70;refine(DE go ah gb gd _ _ iH gh _ fL.o fU gq.o).mono ?_;rintro e w2 ⟨h1,hT⟩;have HT:=JO hT;rcases h1 with⟨hr,rfl⟩|⟨r,q,hr,rfl,iW,iM⟩))
 ·go_wp2;go_ret;have h3:=FD.o;rw[hr]at h3;simp only[kX,List.filter_nil,List.map_nil,List.append_nil]at h3;rw[<- h3];obtain⟨b,fV⟩:=fL.o.ML.ML;exact⟨_,gs,Z,gZ.o.mS HT.o (fun k e=>⟨by have:=cp.o k e;omega,by have:=cp.o k e;omega⟩) fV fK.o (by decide),(JW dt.o (xR _) gj.o).trans (HT.o.X (by have:=dt.o.size;omega) (by have:=dt.o.size;omega))⟩
 ·have gl:JP (done++kX f rd B (r::q)=cj):=by
   have h3:=FD.o;rw[hr]at h3;exact h3
  have gC:JP (L q+1=μ (x1 va (L done) vc,wr)):=by
   have h3:=HL.o;rw[hr,List.length_cons]at h3;exact h3
  obtain⟨b,fV⟩:=fL.o.ML.ML;have bE:=JO (gZ.o.mS HT.o (fun k e=>⟨by have:=cp.o k e;omega,by have:=cp.o k e;omega⟩) fV fK.o (by decide));have W:JP (Below (N (z Wz)) Wz w2):=gj.o.trans (HT.o.X (by omega) (by omega));have gD:JP (∃cg,w2.heap[go]?=C (G cg 132 (0,0))):=by
   obtain⟨c',h5,_⟩:=HT.o.shape _ _ _ fK.o;exact⟨c',h5⟩
  have dx:=JO iW;have io:=JO iM;have jI:N1<=N (z w2):=by rw[HT.o.size];exact fz
  have iv:JP ((LK (LC B.E) r).length=n):=by unfold JP;rw[lL,fI.o,it.o]
  have ic:go<N (z w2):=by rw[HT.o.size];exact jg
  have gy:=JO (ip.o.X W.o);have gW:=JO (gS.o.X W.o);have gX:=JO (gT.o.X W.o);have gY:=JO (gU.o.X W.o);have ik:=JO (JW dt.o (xR _) W.o);have du:=JO ((W.o.block _ fC).trans gJ.o);have dv:=JO ((W.o.block _ fD).trans gK.o);have dw:=JO ((W.o.block _ ie).trans iz.o);have l:=xF fC W.o.size;have dp:=xF fD W.o.size;have dq:=xF ie W.o.size;have fR:M w2 ⟨sb,0,Y⟩=C (JQ ad n n):=by have h9:=dv.o;simp[World.cell?,h9]
  have fS:M w2 ⟨cu,0,Y⟩=C (JQ fh n n):=by have h9:=dw.o;simp[World.cell?,h9]
  have kk:=du.o;have bN:=aB kk 0 _ Z;have bO:=aB kk 1 _ Z;have bP:=aB kk 2 _ Z;have bQ:=aB kk 3 _ Z;have bR:=aB kk 4 _ Z;have bS:=aB kk 5 _ Z;have bU:=aB kk 6 _ Z;have bV:=aB kk 7 _ Z;have bW:=aB kk 8 _ Z;have bX:=aB kk 9 _ Z;have fQ:=aB kk 10 _ Z;have hs:∀j,H w2 ⟨N (z w),j,Y⟩=U:=fun j=>by have h9:=du.o;simp[x0,h9]
  have ht:∀j,H w2 ⟨sb,j,Y⟩=U:=fun j=>by have h9:=dv.o;simp[x0,h9]
  have hu:∀j,H w2 ⟨cu,j,Y⟩=U:=fun j=>by have h9:=dw.o;simp[x0,h9]
  go_cut[9]from 27 to 30 fun p wx=>∃gx qx,p=.pointer (C ⟨gx,0,Y⟩)/\wx.heap[gx]?=C (G #[JQ qx n n] 76 (0,0))/\Ed wx qx n (f.Ec (LK (LC B.E) r))/\Below (N (z w2)) w2 wx/\N (z w2)<=gx
  case first =>
   have ck:=xR (N (z w2));go_region_held3 (fun w'=>M w' ⟨N (z w),0,Y⟩=C (O x n c)/\M w' ⟨N (z w),1,Y⟩=C (JQ g1 n n)/\M w' ⟨N (z w),2,Y⟩=C (JQ g2 n n)/\M w' ⟨N (z w),3,Y⟩=C (JQ g3 n n)/\M w' ⟨N (z w),4,Y⟩=C (JQ g4 n n)/\M w' ⟨N (z w),5,Y⟩=C (JQ g5 n n)/\M w' ⟨N (z w),6,Y⟩=C (JQ g6 n n)/\M w' ⟨N (z w),7,Y⟩=C (JQ g7 n n)/\M w' ⟨N (z w),8,Y⟩=C (JQ g8 n n)/\M w' ⟨N (z w),9,Y⟩=C (JQ g9 n n)) (first|exact⟨bN,bO,bP,bQ,bR,bS,bU,bV,bW,bX⟩|exact⟨(aH l).trans bN,(aH l).trans bO,(aH l).trans bP,(aH l).trans bQ,(aH l).trans bR,(aH l).trans bS,(aH l).trans bU,(aH l).trans bV,(aH l).trans bW,(aH l).trans bX⟩|exact⟨cT,cU,cV,cW,cX,cY,cZ,da,db,dc⟩|exact⟨(aH eo).trans cT,(aH ep).trans cU,(aH eq).trans cV,(aH er).trans cW,(aH es).trans cX,(aH et).trans cY,(aH eu).trans cZ,(aH ew).trans da,(aH ex).trans db,(aH ey).trans dc⟩|exact⟨bd,be,bg,bh,bi,bj,bk,bl,bm,bn⟩|exact⟨(aH ez).trans bd,(aH eA).trans be,(aH eB).trans bg,(aH eC).trans bh,(aH eD).trans bi,(aH eE).trans bj,(aH eF).trans bk,(aH eG).trans bl,(aH eH).trans bm,(aH eI).trans bn⟩|exact⟨(aV (by omega)).trans bd,(aV (by omega)).trans be,(aV (by omega)).trans bg,(aV (by omega)).trans bh,(aV (by omega)).trans bi,(aV (by omega)).trans bj,(aV (by omega)).trans bk,(aV (by omega)).trans bl,(aV (by omega)).trans bm,(aV (by omega)).trans bn⟩) (first
    |(go_at_call 91;refine(Mn (FA.mk n (O x n c) g1 g2 g3 g4 g5 g6 g7 g8 g9) f _ (LK (LC B.E) r) _ (gy.o.X (by first|exact S.o|exact S.o.alloc S.o.size _)) (by first|exact PL.o|exact PL.o.X ((xW _ _).alloc (xR _) _)) iv.o).mono ?_;rintro e aC ⟨jR,rfl,fY,ay⟩;have V:JP (Below (N (z w2)) w2 aC):=(by first|exact JW S.o (xR _) ay|exact JW (S.o.alloc S.o.size _) (xR _) ay);have bd:=JS V.o l bN;have be:=JS V.o l bO;have bg:=JS V.o l bP;have bh:=JS V.o l bQ;have bi:=JS V.o l bR;have bj:=JS V.o l bS;have bk:=JS V.o l bU;have bl:=JS V.o l bV;have bm:=JS V.o l bW;have bn:=JS V.o l bX;have ez:=xF l V.o.size;have eA:=xF l V.o.size;have eB:=xF l V.o.size;have eC:=xF l V.o.size;have eD:=xF l V.o.size;have eE:=xF l V.o.size;have eF:=xF l V.o.size;have eG:=xF l V.o.size;have eH:=xF l V.o.size;have eI:=xF l V.o.size;(try(have am:M aC ⟨N (z aj),0,Y⟩=C (O Y 0 0)/\H aC ⟨N (z aj),0,Y⟩=U/\aC.heap[N (z aj)]?=C (G #[O Y 0 0] 76 (0,0)):=by first|exact fH ay|exact fH (w:=aj.drew) ay));(try(have aa:M aC ⟨N (z w2),0,Y⟩=C (O Y 0 0)/\H aC ⟨N (z w2),0,Y⟩=U/\aC.heap[N (z w2)]?=C (G #[O Y 0 0] 76 (0,0)):=sQ ay al));(try have bc:=am.1);(try have bf:=am.2.1);(try have bc:=aa.1);(try have bf:=aa.2.1);have dz:=JO fY)
    |(go_at_call 71;refine(uM go ah gb gd _ _ r q _ (dx.o.X (by first|exact(xW _ _).drew|exact((xW _ _).drew).alloc (by simp) _)) io.o gq.o ge).mono ?_;rintro e aj ⟨gp,rfl,iS,jZ,bA⟩;have S:JP (Below (N (z w2)) w2 aj):=(by first|exact((xW (N (z w2)) w2).drew).trans (bA.mono (by simp))|exact(((xW (N (z w2)) w2).drew).alloc (by simp) _).trans (bA.mono (by simp)));have cT:=JS S.o l bN;have cU:=JS S.o l bO;have cV:=JS S.o l bP;have cW:=JS S.o l bQ;have cX:=JS S.o l bR;have cY:=JS S.o l bS;have cZ:=JS S.o l bU;have da:=JS S.o l bV;have db:=JS S.o l bW;have dc:=JS S.o l bX;have eo:=xF l S.o.size;have ep:=xF l S.o.size;have eq:=xF l S.o.size;have er:=xF l S.o.size;have es:=xF l S.o.size;have et:=xF l S.o.size;have eu:=xF l S.o.size;have ew:=xF l S.o.size;have ex:=xF l S.o.size;have ey:=xF l S.o.size;(try(have al:M aj ⟨N (z w2),0,Y⟩=C (O Y 0 0)/\H aj ⟨N (z w2),0,Y⟩=U/\aj.heap[N (z w2)]?=C (G #[O Y 0 0] 76 (0,0)):=by first|exact fH bA|exact fH (w:=w2.drew) bA));(try have bc:=al.1);(try have bf:=al.2.1);have PL:=JO (show ME _ (JQ gp (LC B.E).length (LC B.E).length) (LK (LC B.E) r)from by have h9:=iS.gN (LC B.E).length (by rw[lL];exact xR _);rw[lL]at h9;exact h9)))
   all_goals
    (try go_wp2)
    go_meet
    case rel=>first|exact rY V.o dz.o|exact lV V.o ck dz.o aa.2.2|exact lV V.o S.o.size dz.o am.2.2
  case rest =>
  obtain⟨fe,fi,rfl,ia,hW,I,jF⟩:=hcut;have gz:=JO (gy.o.X I);have fm:=JO (gW.o.X I);have fn:=JO (gX.o.X I);have fo:=JO (gY.o.X I);have fp:=JO hW;have il:=JO (JW ik.o (xR _) I);have bY:=JS I l bN;have bZ:=JS I l bO;have ca:=JS I l bP;have cb:=JS I l bQ;have cc:=JS I l bR;have cd:=JS I l bS;have ce:=JS I l bU;have cf:=JS I l bV;have ch:=JS I l bW;have ci:=JS I l bX;have au:=JS I l fQ;have av:=JS I dp fR;have aw:=JS I dq fS;have hv:∀j,H wc ⟨N (z w),j,Y⟩=U:=fun j=>(I.frozen (p:=⟨N (z w),j,Y⟩) l).trans (hs j)
  have d:=xF l I.size;have gL:=JO ((I.block _ l).trans du.o);have hx:∀j,H wc ⟨sb,j,Y⟩=U:=fun j=>(I.frozen (p:=⟨sb,j,Y⟩) dp).trans (ht j)
  have af:=xF dp I.size;have gM:=JO ((I.block _ dp).trans dv.o);have hy:∀j,H wc ⟨cu,j,Y⟩=U:=fun j=>(I.frozen (p:=⟨cu,j,Y⟩) dq).trans (hu j)
  have ag:=xF dq I.size;have gO:=JO ((I.block _ dq).trans dw.o);obtain⟨dC,jW,bD⟩:=bF ia;have gP:=JO ia;have gt:=JO I;go_upto_region 7 with fail
  generalize wc=Wy at*;have iI:∀j,H Wy ⟨fe,j,Y⟩=U:=fun j=>by have h9:=gP.o;simp[x0,h9]
  go_cut[10]from 31 to 36 fun p wx=>∃gx qx,p=.pointer (C ⟨gx,0,Y⟩)/\wx.heap[gx]?=C (G #[JQ qx n n] 76 (0,0))/\Ed wx qx n (f.cause (f.aJ rd) (cE (cE (f.bT (f.aJ rd)) f.J) (f.Ec (LK (LC B.E) r))))/\Below (N (z Wy)) Wy wx/\N (z Wy)<=gx
  case first =>
   have ck:=xR (N (z Wy));go_region_held3 (fun w'=>M w' ⟨N (z w),0,Y⟩=C (O x n c)/\M w' ⟨N (z w),1,Y⟩=C (JQ g1 n n)/\M w' ⟨N (z w),2,Y⟩=C (JQ g2 n n)/\M w' ⟨N (z w),3,Y⟩=C (JQ g3 n n)/\M w' ⟨N (z w),4,Y⟩=C (JQ g4 n n)/\M w' ⟨N (z w),5,Y⟩=C (JQ g5 n n)/\M w' ⟨N (z w),6,Y⟩=C (JQ g6 n n)/\M w' ⟨N (z w),7,Y⟩=C (JQ g7 n n)/\M w' ⟨N (z w),8,Y⟩=C (JQ g8 n n)/\M w' ⟨N (z w),9,Y⟩=C (JQ g9 n n)/\M w' ⟨N (z w),10,Y⟩=C (JQ gr n n)/\M w' ⟨sb,0,Y⟩=C (JQ ad n n)/\M w' ⟨cu,0,Y⟩=C (JQ fh n n)/\M w' ⟨fe,0,Y⟩=C (JQ fi n n)) (first|exact⟨bY,bZ,ca,cb,cc,cd,ce,cf,ch,ci,au,av,aw,dC⟩|exact⟨(aH d).trans bY,(aH d).trans bZ,(aH d).trans ca,(aH d).trans cb,(aH d).trans cc,(aH d).trans cd,(aH d).trans ce,(aH d).trans cf,(aH d).trans ch,(aH d).trans ci,(aH d).trans au,(aH af).trans av,(aH ag).trans aw,(aH bD).trans dC⟩|exact⟨dd,de,df,dg,dh,di,dj,dk,dl,dm,bJ,bK,bL,bM⟩|exact⟨(aH eJ).trans dd,(aH eK).trans de,(aH eL).trans df,(aH eM).trans dg,(aH eN).trans dh,(aH eO).trans di,(aH eP).trans dj,(aH eQ).trans dk,(aH eR).trans dl,(aH eS).trans dm,(aH dF).trans bJ,(aH dG).trans bK,(aH dH).trans bL,(aH dI).trans bM⟩|exact⟨bo,bp,bq,br,bs,bt,bu,bv,bw,bx,ao,ap,aq,ar⟩|exact⟨(aH eT).trans bo,(aH eU).trans bp,(aH eV).trans bq,(aH eW).trans br,(aH eX).trans bs,(aH eY).trans bt,(aH eZ).trans bu,(aH fa).trans bv,(aH fc).trans bw,(aH fd).trans bx,(aH dJ).trans ao,(aH dK).trans ap,(aH dL).trans aq,(aH dM).trans ar⟩|exact⟨(aV (by omega)).trans bo,(aV (by omega)).trans bp,(aV (by omega)).trans bq,(aV (by omega)).trans br,(aV (by omega)).trans bs,(aV (by omega)).trans bt,(aV (by omega)).trans bu,(aV (by omega)).trans bv,(aV (by omega)).trans bw,(aV (by omega)).trans bx,(aV (by omega)).trans ao,(aV (by omega)).trans ap,(aV (by omega)).trans aq,(aV (by omega)).trans ar⟩) (first
    |(go_at_call 92;refine(Mq (FA.mk n (O x n c) g1 g2 g3 g4 g5 g6 g7 g8 g9) f gr _ ad _ ig _ _ (gz.o.X (by first|exact s.o|exact s.o.alloc s.o.size _)) (fm.o.X (by first|exact s.o|exact s.o.alloc s.o.size _)) (fn.o.X (by first|exact s.o|exact s.o.alloc s.o.size _)) (by first|exact fk.o|exact fk.o.X ((xW _ _).alloc (xR _) _))).mono ?_;rintro e aD ⟨jS,rfl,ga,az⟩;have A:JP (Below (N (z Wy)) Wy aD):=(by first|exact JW s.o (xR _) az|exact JW (s.o.alloc s.o.size _) (xR _) az);have bo:=JS A.o d bY;have bp:=JS A.o d bZ;have bq:=JS A.o d ca;have br:=JS A.o d cb;have bs:=JS A.o d cc;have bt:=JS A.o d cd;have bu:=JS A.o d ce;have bv:=JS A.o d cf;have bw:=JS A.o d ch;have bx:=JS A.o d ci;have ao:=JS A.o d au;have ap:=JS A.o af av;have aq:=JS A.o ag aw;have ar:=JS A.o bD dC;have eT:=xF d A.o.size;have eU:=xF d A.o.size;have eV:=xF d A.o.size;have eW:=xF d A.o.size;have eX:=xF d A.o.size;have eY:=xF d A.o.size;have eZ:=xF d A.o.size;have fa:=xF d A.o.size;have fc:=xF d A.o.size;have fd:=xF d A.o.size;have dJ:=xF d A.o.size;have dK:=xF af A.o.size;have dL:=xF ag A.o.size;have dM:=xF bD A.o.size;(try(have am:M aD ⟨N (z ak),0,Y⟩=C (O Y 0 0)/\H aD ⟨N (z ak),0,Y⟩=U/\aD.heap[N (z ak)]?=C (G #[O Y 0 0] 76 (0,0)):=by first|exact fH az|exact fH (w:=ak.drew) az));(try(have aa:M aD ⟨N (z Wy),0,Y⟩=C (O Y 0 0)/\H aD ⟨N (z Wy),0,Y⟩=U/\aD.heap[N (z Wy)]?=C (G #[O Y 0 0] 76 (0,0)):=sQ az al));(try have bc:=am.1);(try have bf:=am.2.1);(try have bc:=aa.1);(try have bf:=aa.2.1);have dA:=JO ga)
    |(go_at_call_of 67 (JQ fh n n);refine(iQ fh fi n _ _ _ (fo.o.X (by first|exact(xW _ _).drew|exact((xW _ _).drew).alloc (by simp) _)) (fp.o.X (by first|exact(xW _ _).drew|exact((xW _ _).drew).alloc (by simp) _))).mono ?_;rintro e ak ⟨ig,rfl,fZ,bB⟩;have s:JP (Below (N (z Wy)) Wy ak):=(by first|exact((xW (N (z Wy)) Wy).drew).trans (bB.mono (by simp))|exact(((xW (N (z Wy)) Wy).drew).alloc (by simp) _).trans (bB.mono (by simp)));have dd:=JS s.o d bY;have de:=JS s.o d bZ;have df:=JS s.o d ca;have dg:=JS s.o d cb;have dh:=JS s.o d cc;have di:=JS s.o d cd;have dj:=JS s.o d ce;have dk:=JS s.o d cf;have dl:=JS s.o d ch;have dm:=JS s.o d ci;have bJ:=JS s.o d au;have bK:=JS s.o af av;have bL:=JS s.o ag aw;have bM:=JS s.o bD dC;have eJ:=xF d s.o.size;have eK:=xF d s.o.size;have eL:=xF d s.o.size;have eM:=xF d s.o.size;have eN:=xF d s.o.size;have eO:=xF d s.o.size;have eP:=xF d s.o.size;have eQ:=xF d s.o.size;have eR:=xF d s.o.size;have eS:=xF d s.o.size;have dF:=xF d s.o.size;have dG:=xF af s.o.size;have dH:=xF ag s.o.size;have dI:=xF bD s.o.size;(try(have al:M ak ⟨N (z Wy),0,Y⟩=C (O Y 0 0)/\H ak ⟨N (z Wy),0,Y⟩=U/\ak.heap[N (z Wy)]?=C (G #[O Y 0 0] 76 (0,0)):=by first|exact fH bB|exact fH (w:=Wy.drew) bB));(try have bc:=al.1);(try have bf:=al.2.1);have fk:=JO fZ))
   all_goals
    (try go_wp2)
    go_meet
    case rel=>first|exact rY A.o dA.o|exact lV A.o ck dA.o aa.2.2|exact lV A.o s.o.size dA.o am.2.2
  case rest =>
  obtain⟨jY,co,rfl,ib,hX,y,jG⟩:=hcut;have gA:=JO (gz.o.X y);have fq:=JO (fm.o.X y);have jo:=JO (fn.o.X y);have jp:=JO (fo.o.X y);have fs:=JO (fp.o.X y);have dB:=JO hX;have jT:=JO (JW il.o (xR _) y);have jq:=JS y d bY;have jr:=JS y d bZ;have js:=JS y d ca;have jt:=JS y d cb;have ju:=JS y d cc;have jv:=JS y d cd;have jw:=JS y d ce;have jx:=JS y d cf;have jy:=JS y d ch;have jz:=JS y d ci;have iD:=JS y d au;have iE:=JS y af av;have iF:=JS y ag aw;have iG:=JS y bD dC;have jA:∀j,H wc ⟨N (z w),j,Y⟩=U:=fun j=>(y.frozen (p:=⟨N (z w),j,Y⟩) d).trans (hv j)
  have jM:=xF d y.size;have jk:=JO ((y.block _ d).trans gL.o);have jB:∀j,H wc ⟨sb,j,Y⟩=U:=fun j=>(y.frozen (p:=⟨sb,j,Y⟩) af).trans (hx j)
  have jN:=xF af y.size;have jl:=JO ((y.block _ af).trans gM.o);have jC:∀j,H wc ⟨cu,j,Y⟩=U:=fun j=>(y.frozen (p:=⟨cu,j,Y⟩) ag).trans (hy j)
  have jO:=xF ag y.size;have jm:=JO ((y.block _ ag).trans gO.o);have jD:∀j,H wc ⟨fe,j,Y⟩=U:=fun j=>(y.frozen (p:=⟨fe,j,Y⟩) bD).trans (iI j)
  have jP:=xF bD y.size;have jn:=JO ((y.block _ bD).trans gP.o);obtain⟨iC,jX,jh⟩:=bF ib;have jU:=JO ib;have gu:=JO y;go_upto_region 8 with fail
  generalize wc=Wx at*;have gi:=JO (JW gt.o (xR _) gu.o);have gw:JP (kX f rd B (r::q)=if PA rd (f.cause (f.aJ rd) (cE (cE (f.bT (f.aJ rd)) f.J) (f.Ec (LK (LC B.E) r)))) (f.Ec (LK (LC B.E) r))then f.cause (f.aJ rd) (cE (cE (f.bT (f.aJ rd)) f.J) (f.Ec (LK (LC B.E) r)))::kX f rd B q else kX f rd B q):=Qf f rd B r q;generalize(f.cause (f.aJ rd) (cE (cE (f.bT (f.aJ rd)) f.J) (f.Ec (LK (LC B.E) r))))=cs at*;generalize(f.Ec (LK (LC B.E) r))=fb at*;obtain⟨cg,iL⟩:=gD.o;have gv:=JO iL
  cases zc:PA rd cs fb
  ·have fG:JP (done++kX f rd B q=cj):=by
    have h3:=gl.o;rw[gw.o,zc]at h3;exact h3
   go_wp2_with(first
    |(go_at_call 93;refine(Ai (FA.mk n (O x n c) g1 g2 g3 g4 g5 g6 g7 g8 g9) f gr rd co cs fi fb _ gA.o fq.o dB.o fs.o).mono ?_;rintro e w6 ⟨rfl,dN⟩;rw[zc];have B6:=JO (JW gi.o (xR _) dN);have iZ:=B6.o.size))
   have hR:vN Wz go ah gb gd N1 f rd B n cj (O va (L done) vc,w6) (L q):=⟨r,q,done,gs,dx.o.X B6.o,JW W.o (xR _) B6.o,fG.o,bE.o.X B6.o,cp.o,Z,by simp only;omega,cg,(B6.o.block go ic).trans gv.o⟩;go_roundw
   case rel=>exact⟨_,_,Z,hR⟩
   case measure =>
    exact x4 ((fJ.o _ ⟨_,hR⟩).2 _ hR) (x5 (x6 _) gC.o)
  ·have fG:JP (done++[cs]++kX f rd B q=cj):=by
    have h3:=gl.o;rw[gw.o,zc]at h3;unfold JP;rw[<- h3];simp
   go_wp2_with(first
    |(go_at_call 93;refine(Ai (FA.mk n (O x n c) g1 g2 g3 g4 g5 g6 g7 g8 g9) f gr rd co cs fi fb _ gA.o fq.o dB.o fs.o).mono ?_;rintro e w6 ⟨rfl,dN⟩;rw[zc];have B6:=JO (JW gi.o (xR _) dN);have iA:=JO (dB.o.X dN);have y5:=JS dN jh iC;have iZ:=B6.o.size;have iu:JP ((w6.alloc (G #[O (C ⟨co,0,Y⟩) n n] 76)).ownsRow 0 76 1 (O va (L done) vc) (L done) (gs.map fun g=>O (C ⟨g,0,Y⟩) n n)):=aU bE.o.ow fun k e=>(x2 _ _ _ (by have:=(bE.o.ow.lt k e).2;omega)).trans (B6.o.block k (bE.o.ow.lt k e).2);have ir:JP (∀j u,[x1 (C ⟨co,0,Y⟩) n n][j]?=C u->(w6.alloc (G #[O (C ⟨co,0,Y⟩) n n] 76)).cell? ((⟨N (z w6),0,Y⟩:Addr).add j)=C u):=World.news_of_block (cs:=#[O (C ⟨co,0,Y⟩) n n]) (t:=76) (fr:=(0,0)) (heap_alloc_new w6 _))
    |(at_builtin;refine wpList_append_lies _ Z (.tmp 41) (.tmp 43) 110 Z 0 76 i0 (.agg #[O Y 0 0]) 1 24 underlying110 iR jd je jf Z (by decide) _ (L done) (gs.map fun g=>O (C ⟨g,0,Y⟩) n n) Z (by exact iu.o) ⟨N (z w6),0,Y⟩ 1 1 [O (C ⟨co,0,Y⟩) n n] Z Z (by exact ir.o) (by simp[Value.oneCell']) (by decide) (Al hC).1 (Al hC).2 (Nat.zero_le _) _ Z ?_;intro gn cn w7 fX ae hA jH))
   have hN:∀k,k<N (z w2)->N1<=k\/k<N1->(x1 va (L done) vc).ownBlock≠C k->w7.heap[k]?=w2.heap[k]?:=fun k h1 _ h2=>(ae.block k (by simp;omega) fun e=>h2 e.symm).trans ((x2 _ _ _ (by omega)).trans (B6.o.block k h1))
   have hO:∀k,k<N1->(x1 va (L done) vc).ownBlock≠C k:=fun k h1 e=>by have:=cp.o k e;omega
   have hK:∀k,k<N1->w7.heap[k]?=w2.heap[k]?:=fun k h1=>hN k (by omega) (Or.inr h1) (hO k h1)
   have jK:N (z w6)+1<=N (z w7):=by have:=ae.size;simpa using this
   have hR:vN Wz go ah gb gd N1 f rd B n cj (JQ gn (L done+1) cn,w7) (L q):=by
    refine⟨r,q,done++[cs],gs++[co],dx.o.off (hK _ fx.2) (hK _ hM.2) (hK _ hH.2) (hK _ hL.2) (by simp only;omega),⟨(ae.os.trans B6.o.os).trans W.o.os,(ae.tape.trans B6.o.tape).trans W.o.tape,(ae.output.trans B6.o.output).trans W.o.output,by have:=W.o.size;simp only;omega,fun k hk=>(hK k (by omega)).trans (W.o.block k hk)⟩,fG.o,?_,fun k e=>?_,Z,by simp only;omega,cg,(hK _ fx.2).trans gv.o⟩
    ·exact Et.push (bE.o.X B6.o) iA.o fX ae
    ·simp[x3]at e;subst e
     rcases hA with h4|h4
     ·exact cp.o _ h4
     ·simp at h4;omega
   go_roundw
   case rel=>exact⟨_,_,Z,hR⟩
   case measure =>
    exact x4 ((fJ.o _ ⟨_,hR⟩).2 _ hR) (x5 (x6 _) gC.o)
end Go.Proofs.YtlikcongbhhpfaaGreatDoor
