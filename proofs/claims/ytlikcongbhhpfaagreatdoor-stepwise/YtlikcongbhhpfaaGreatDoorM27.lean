import Derived.Test.YtlikcongbhhpfaaGreatDoorM25
set_option linter.unusedVariables false
set_option linter.unusedSimpArgs false
set_option maxHeartbeats 12800000
namespace Go.Proofs.YtlikcongbhhpfaaGreatDoor
open Go Go.RowKit Go.Proofs.Tryz P Q
set_option maxRecDepth 1000000
variable {w':World}{B g n:Nat}{rs:List Run}{l p:List Int}{m:Int}{u v:Value}{vs:List Value}
open List renaming length->L
open _root_.Array renaming size->D
open Go.World renaming heap->A,cell?->J
open Go.Value renaming int->C,slice->G
open Go.IntKind renaming i64->O
open Option renaming none->I,some->N
open Go.Obj renaming cells->U
open Go.Ending renaming returned->M
open Nat renaming le_refl->xF,zero_le->x4,lt_of_lt_of_le->x8
open List renaming range->xR,replicate->x7,range_succ->xa,map_append->xb,filter_append->xd,length_filter_le->xe,getElem_mem->xg,take_of_length_le->xi
open Go.RowKit.Below renaming refl->xW
open Go.Value renaming int->x5,ownBlock->x9,oneCell'->xc
open Or renaming inr->x6
open Go.Instr renaming makeSlice->xh
open Go.World renaming news_of_block->xj,ownsRow_nil->xk
structure NA(w:World)(g gr gb gd:Nat)(rs bs ds:List Int)(rest:List (List Int)):Prop where
 r0:J w ⟨g,0,I⟩=N (JQ gr (L rs) (L rs))
 y:LE w gr rs
 ML:PH w g 1 gb gd bs ds rest
 len:L bs=L rs
 ne:gr≠gd
 neg:gr≠g
theorem NA.X{w:World}{i e f:Nat}{rs c d:List Int}{rest:List (List Int)}(h:NA w g i e f rs c d rest)(a:Below (D (A w)) w w'):NA w' g i e f rs c d rest:=by
 obtain⟨b,j⟩:=h.ML.ML;exact⟨(a.cell j.lt).trans h.r0,h.y.X a,h.ML.X a,h.len,h.ne,h.neg⟩
theorem DE(g f d c:Nat)(rs a k:List Int)(rest:List (List Int))(w:World)(h:NA w g f d c rs a k rest)(F:L a<10000)(z:∀b∈a,b<1000000000):
  Calls prog 70 #[.pointer (N ⟨g,0,I⟩)] w fun e w'=>(rest=[]/\e=M (.bool false)\/∃r q,rest=r::q/\e=M (.bool true)/\NA w' g f d c rs a r q/\MV a r)/\Ep w w' g 1 c:=by
 have H:=JO h;obtain⟨b,s⟩:=h.ML.ML;go_enter func70,ntmps70;go_wp2_with(first|(go_at_call 117;refine(GM g 1 d c a k rest _ H.o.ML F z).mono ?_;rintro e w' ⟨t,x⟩;have j:=JO x;rcases t with⟨i,rfl⟩|⟨r,q,i,rfl,s,E⟩))
 ·go_ret;exact⟨Or.inl ⟨i,Z⟩,j.o⟩
 ·go_ret;have T:=j.o;exact⟨x6 ⟨r,q,i,Z,⟨(T.cell 0 (by omega)).trans H.o.r0,H.o.y.aA (T.block f H.o.neg H.o.ne),s,H.o.len,H.o.ne,H.o.neg⟩,E⟩,T⟩
namespace Q
def mM(rs:List Int)(i k:Nat):Int:=(((xR k).filter fun k=>rs.getD k (-1)==rs.getD i (-1)).length:Nat)
theorem YZ(P:Nat->Bool)(k:Nat):(((xR (k+1)).filter P).length:Int)=(((xR k).filter P).length:Int)+if P k then 1 else 0:=by
 rw[xa,xd,List.length_append]
 cases h:P k<;>simp[List.filter,h]
theorem N3(rs:List Int)(i k:Nat):mM rs i (k+1)=mM rs i k+if rs.getD k (-1)==rs.getD i (-1)then 1 else 0:=YZ (fun k=>rs.getD k (-1)==rs.getD i (-1)) k
theorem ZA(rs:List Int)(i k:Nat):0<=mM rs i k/\mM rs i k<=k:=by
 unfold mM;have:=xe (fun k=>rs.getD k (-1)==rs.getD i (-1)) (xR k);simp at this⊢;omega
end Q
theorem N4(g d i:Nat)(rs:List Int)(w:World)(T:J w ⟨g,0,I⟩=N (JQ d (L rs) (L rs)))(K:LE w d rs)(hg:g<D (A w))(F:i<L rs)(hn:L rs<10000):
  Calls prog 118 #[.pointer (N ⟨g,0,I⟩),C O (i:Int)] w fun e w'=>e=M (C O (iZ rs i))/\Below (D (A w)) w w':=by
 have t:=JO K;have f:=K.lt;have S:JP (iZ rs i=mM rs i i):=Z;have aa:(i:Int)<(L rs:Int):=by omega
 have r:JP (∀W:World,Below (D (A w)) w W->J W ⟨d,i,I⟩=N (C O (rs.getD i (-1)))):=fun W V=>by rw[eI rs i F];exact(V.cell (p:=⟨d,i,I⟩) f).trans (t.o.cell i F)
 go_enter func118,ntmps118;go_wp2;go_loopw[5,6] (fun c j wr=>∃k:Nat,k<=i/\j=C O k/\c=C O (mM rs i k)/\Below (D (A w)) w wr) fun _ j _=>i-(intOf j).toNat
 case atStart=>exact⟨0,x4 _,Z,Z,xW _ _⟩
 case round =>
  obtain⟨k,hk,rfl,rfl,a⟩:=hrel;have d0:=JS a hg T;by_cases hlt:k<i
  ·have ab:(k:Int)<(i:Int):=by omega
   have q:k<L rs:=by omega
   have H:(k:Int)<(L rs:Int):=by omega
   have ck:J wr ⟨d,k,I⟩=N (C O (rs.getD k (-1))):=by rw[eI rs k q];exact(a.cell (p:=⟨d,k,I⟩) f).trans (t.o.cell k q)
   have ci:=r.o wr a;have z:=JO (N3 rs i k);have X:=ZA rs i k;generalize rs.getD k (-1)=x at*;generalize rs.getD i (-1)=y at*;generalize Y:mM rs i k=E at*
   cases hz:x==y
   ·have b:JP (mM rs i (k+1)=E):=by unfold JP;rw[z.o,hz];simp
    go_wp2;go_quiet (fail)
    all_goals
     go_wp2;go_roundw
     case rel=>exact⟨k+1,by omega,by go_num,by rw[b.o],a.trans (dO _ _ _)⟩
     case measure=>simp[intOf];omega
   ·have b:JP (mM rs i (k+1)=E+1):=by unfold JP;rw[z.o,hz];simp
    go_wp2;go_quiet (fail)
    all_goals
     go_wp2;go_roundw
     case rel=>exact⟨k+1,by omega,by go_num,by rw[b.o],a.trans (dO _ _ _)⟩
     case measure=>simp[intOf];omega
  ·have s:k=i:=by omega
   subst s;go_wp2;go_ret;rw[S.o];exact⟨Z,a⟩
namespace Q
theorem N5(rs:List Int)(i k:Nat)(p:List Int):(lD rs i p k).length=L p:=by unfold lD;split<;>simp
theorem N6(p:List Int)(i:Nat)(x:Int)(h:i<L p):(p.set i x).getD i 0=x:=by simp[List.getD,h]
def Bd(p:List Int)(m:Int):Prop:=∀x∈p, -1000000001<=x/\x<=m
theorem Bd.set(h:Bd p m)(i:Nat)(x:Int)(b:-1000000001<=x)(c:x<=m):Bd (p.set i x) m:=fun y a=>by
 rcases List.mem_or_eq_of_mem_set a with a|rfl
 ·exact h y a
 ·exact⟨b,c⟩
theorem Bd.mono{k:Int}(h:Bd p m)(b:m<=k):Bd p k:=fun y a=>⟨(h y a).1,by have:=(h y a).2;omega⟩
theorem Bd.get(h:Bd p m)(i:Nat)(a:i<L p):-1000000001<=p.getD i 0/\p.getD i 0<=m:=by rw[eI p i a];exact h _ (xg a)
end Q
theorem LE.cQ{w:World}(h:LE w g l)(i:Nat)(a:i<L l):J w ⟨g,i,I⟩=N (C O (l.getD i 0)):=by rw[eI l i a];exact h.cell i a
theorem uM(g V gb gd:Nat)(rs bs a:List Int)(rest:List (List Int))(w:World)(h:NA w g V gb gd rs bs a rest)(hd:MV bs a)(hb:∀b∈bs,b<1000000000)(hn:L rs<=64):
  Calls prog 71 #[.pointer (N ⟨g,0,I⟩)] w fun e w'=>∃gp,e=M (JQ gp (L rs) (L rs))/\LE w' gp (LK rs a)/\D (A w)<=gp/\Below (D (A w)) w w':=by
 have aF:∀w,(xh 31 (C O (L rs:Int)) (C O (L rs:Int))).run prog w=.ok (JQ (D (A w)) (L rs) (L rs)) (w.alloc (U (madeCells #[C O 0] (L rs)) 3)):=
  fun w=>run_make_row' 31 3 (C O 0) 8 underlying31 Tryz.MZ Z O O (L rs) (by omega) (by omega) w
 obtain⟨bg,hc⟩:=h.ML.ML;have ay:L a=L rs:=by rw[hc.len,h.len]
 have c0:=h.r0;have c2:=hc.c1;have t:=hc.lt;have S:=JO h.y;have ao:=JO hc.digits;have W:=h.y.lt;have ai:=hc.digits.lt;have an:JP (∀i,i<L rs->0<=a.getD i 0/\a.getD i 0<1000000000):=fun i hi=>by
  have h1:=hd.vA i (by omega);have h3:i<L bs:=by rw[h.len];exact hi
  have h4:bs.getD i 0<1000000000:=by rw[eI bs i h3];exact hb _ (xg h3)
  rw[eI a i (by omega)];omega
 have ar:JP (LK rs a=(xR (L rs)).foldl (fZ rs a) (x7 (L rs) 0)):=Z;have aq:JP (LE (w.alloc (U (madeCells #[C O 0] (L rs)) 3)) (D (A w)) (x7 (L rs) 0)):=by
  unfold JP LE;rw[<- rE];exact heap_alloc_new w _
 have am:JP (Below (D (A w)) w (w.alloc (U (madeCells #[C O 0] (L rs)) 3))):=(xW _ _).alloc (xF _) _;rw[ay]at c2;simp only[Nat.reduceAdd]at c2;go_enter func71,ntmps71;go_wp2;go_loopw[18] (fun j wr=>∃(k:Nat) (p:List Int),k<=L rs/\j=C O k/\JP (p=(xR k).foldl (fZ rs a) (x7 (L rs) 0))/\JP (LE wr (D (A w)) p)/\JP (L p=L rs)/\JP (Bd p (64+k*64))/\JP (Below (D (A w)) w wr)) fun j _=>L rs-(intOf j).toNat
 case atStart=>exact⟨0,_,x4 _,Z,Z,aq,by simp[JP],by intro x hx;rw[List.eq_of_mem_replicate hx];omega,am⟩
 case round =>
  obtain⟨k,p,hk,rfl,HP,HI,HL,aa,H⟩:=hrel;by_cases hlt:k<L rs
  ·have aE:(k:Int)<(L rs:Int):=by omega
   have ck:J wr ⟨V,k,I⟩=N (C O (rs.getD k (-1))):=by rw[eI rs k hlt];exact(H.o.cell (p:=⟨V,k,I⟩) W).trans (S.o.cell k hlt)
   have lp:=HI.o.lt;have cp:=HI.o.cQ k (by rw[HL.o];exact hlt);have fp:=HI.o.free k;have ac:=JO (HI.o.set k (-1));have c:JP (Below (D (A w)) w (wr.setCell ⟨D (A w),k,I⟩ (C O (-1)))):=H.o.setCell (p:=⟨D (A w),k,I⟩) (xF _) _;have af:JP ((xR (k+1)).foldl (fZ rs a) (x7 (L rs) 0)=fZ rs a p k):=by unfold JP;rw[fP,<- HP.o]
   have ae:JP (fZ rs a p k=if rs.getD k (-1) == -1 then p.set k (-1)else(xR k).foldl (lD rs k) (p.set k (iZ rs k-a.getD k 0))):=Z;have aj:D (A w)<(wr.setCell ⟨D (A w),k,I⟩ (C O (-1))).heap.size:=by simpa using lp
   generalize ak:rs.getD k (-1)=row at*;generalize aG:p.getD k 0=aL at*;go_upto_region 6 with fail
   generalize hW:wr.setCell ⟨D (A w),k,I⟩ (C O (-1))=Y at*
   cases hz:row == -1
   rotate_left
   ·have HN:JP (p.set k (-1)=(xR (k+1)).foldl (fZ rs a) (x7 (L rs) 0)):=by unfold JP;rw[af.o,ae.o,hz];rfl
    go_wp2;go_roundw
    case rel=>exact⟨k+1,_,by omega,by go_num,HN,ac,by simp[JP];exact HL.o,(aa.o.set k (-1) (by omega) (by omega)).mono (by omega),c⟩
    case measure=>simp[intOf];omega
   ·have HN:JP ((xR (k+1)).foldl (fZ rs a) (x7 (L rs) 0)=(xR k).foldl (lD rs k) (p.set k (iZ rs k-a.getD k 0))):=by unfold JP;rw[af.o,ae.o,hz];rfl
    have e0:=JS c.o t c0;have e2:=JS c.o t c2;have ed:J Y ⟨gd,k,I⟩=N (C O (a.getD k 0)):=(c.o.cell (p:=⟨gd,k,I⟩) ai).trans (ao.o.cQ k (by omega));have al:=x8 t c.o.size;have aC:=x8 ai c.o.size;have aD:=an.o k hlt;have av:=ZA rs k k;have ax:mM rs k k=iZ rs k:=Z;rw[ax]at av;have ap:=JO (S.o.aA (c.o.block V W));generalize a.getD k 0=s at*;generalize aw:iZ rs k=F at*;have ab:=JO (Bd.set aa.o k (F-s) (by omega) (by omega));have aJ:IntKind.i64.wrap (F-s)=F-s:=IntWalk.i64_in _ ⟨by omega,by omega⟩;go_upto_region 7 with fail
    go_region_held3 (fun w'=>J w' ⟨g,2,I⟩=N (JQ gd (L rs) (L rs))/\J w' ⟨gd,k,I⟩=N (C O s)) (first|exact⟨e2,ed⟩|exact⟨p2,pd⟩|exact⟨(aV (by omega)).trans p2,(aV (by omega)).trans pd⟩) (first
     |(go_at_call 118;refine(N4 g V k rs Y.drew e0 (ap.o.aA Z) al hlt (by omega)).mono ?_;rintro e w2 ⟨rfl,ah⟩;rw[aw];have B2:JP (Below (D (A Y)) Y w2):=(by first|exact((xW (D (A Y)) Y).drew).trans (ah.mono (by simp))|exact ah);have p2:=JS B2.o al e2;have pd:=JS B2.o aC ed;have I2:=JO (ac.o.aA (B2.o.block (D (A w)) aj));have ip:=I2.o.cQ k (by rw[List.length_set,HL.o];exact hlt);have aK:=I2.o.free k))
    have I3:=JO (I2.o.set k (F-s));rw[List.set_set]at I3;have B3:JP (Below (D (A w)) w (w2.setCell ⟨D (A w),k,I⟩ (C O (F-s)))):=(JW c.o (xF _) B2.o).setCell (p:=⟨D (A w),k,I⟩) (xF _) _;go_wp2;go_loopw[6] (fun j wq=>∃(q:Nat) (u:List Int),q<=k/\j=C O q/\JP (u=(xR q).foldl (lD rs k) (p.set k (F-s)))/\JP (LE wq (D (A w)) u)/\JP (L u=L rs)/\JP (Bd u (64+k*64+q))/\JP (Below (D (A w)) w wq)) fun j _=>k-(intOf j).toNat
    case atStart=>exact⟨0,_,x4 _,Z,Z,I3,by simp[JP];exact HL.o,ab.o.mono (by omega),B3⟩
    case round =>
     obtain⟨q,u,hq,rfl,HU,K,d,r,f⟩:=hrel;have d0:=JS f.o t c0;by_cases hql:q<k
     ·have aH:(q:Int)<(k:Int):=by omega
      have aI:(q:Int)<(L rs:Int):=by omega
      have E:q<L rs:=by omega
      have cq:J wr ⟨V,q,I⟩=N (C O (rs.getD q (-1))):=by rw[eI rs q E];exact(f.o.cell (p:=⟨V,q,I⟩) W).trans (S.o.cell q E)
      have uq:=K.o.cQ q (by rw[d.o];exact E);have uk:=K.o.cQ k (by rw[d.o];exact hlt);have fq:=K.o.free q;have bq:=r.o.get q (by rw[d.o];exact E);have T:JP ((xR (q+1)).foldl (lD rs k) (p.set k (F-s))=if rs.getD q (-1)==row&&decide (u.getD k 0<=u.getD q 0)then u.set q (u.getD q 0+1)else u):=by
       unfold JP;rw[fP,<- HU.o,<- ak];rfl
      have ad:=JO (K.o.set q (u.getD q 0+1));have ag:=JO (Bd.set (r.o.mono (k:=64+k*64+(q+1:Nat)) (by omega)) q (u.getD q 0+1) (by omega) (by omega));generalize rs.getD q (-1)=x at*;generalize u.getD q 0=y at*;generalize u.getD k 0=z at*
      cases hx:x==row
      ·have au:JP (u=(xR (q+1)).foldl (lD rs k) (p.set k (F-s))):=by unfold JP;rw[T.o,hx];rfl
       go_wp2;go_quiet (fail)
       all_goals
        go_wp2;go_roundw
        case rel=>exact⟨q+1,u,by omega,by go_num,au,K.o.aA Z,d,r.o.mono (by omega),f.o.trans (dO _ _ _)⟩
        case measure=>simp[intOf];omega
      by_cases hy:z<=y
      ·have X:decide (z<=y)=true:=decide_eq_true hy;go_wp2;go_quiet (fail)
       all_goals
        go_wp2;go_roundw
        case rel=>exact⟨q+1,_,by omega,by go_num,by unfold JP;rw[T.o,hx,X];rfl,by first|exact ad.o|exact ad.o.aA Z,by simp[JP];exact d.o,ag,(f.o.trans (dO _ _ _)).setCell (p:=⟨D (A w),q,I⟩) (xF _) _⟩
        case measure=>simp[intOf];omega
      ·have X:decide (z<=y)=false:=decide_eq_false hy;go_wp2;go_quiet (fail)
       all_goals
        go_wp2;go_roundw
        case rel=>exact⟨q+1,u,by omega,by go_num,by unfold JP;rw[T.o,hx,X];rfl,K.o.aA Z,d,r.o.mono (by omega),f.o.trans (dO _ _ _)⟩
        case measure=>simp[intOf];omega
     ·have aB:q=k:=by omega
      go_wp2;go_roundw
      case rel=>exact⟨k+1,u,by omega,by go_num,by unfold JP;rw[HN.o,HU.o,aB],K,d,r.o.mono (by omega),f⟩
      case measure=>simp[intOf];omega
  ·have az:k=L rs:=by omega
   have HE:JP (p=LK rs a):=by unfold JP;rw[ar.o,HP.o,az]
   go_wp2;go_ret;exact⟨D (A w),Z,by rw[<- HE.o];exact HI.o,xF _,H.o⟩
structure NO(w:World)(ev rg:Value)(wd:Wd):Prop where
 K:NC w ev wd.E
 g:ME w rg wd.g
theorem NO.X{w:World}{ev b:Value}{c:Wd}(h:NO w ev b c)(a:Below (D (A w)) w w'):NO w' ev b c:=⟨h.K.X a,h.g.X a⟩
theorem N7(ev rg t:Value)(es:List Ev)(v:Int)(f:List Int)(w:World)(X:NC w ev es)(ad:∃a n c,rg=G a n c)(hp:ME w t f)(hl:L f=L es)(hn:L es<=64):
  Calls prog 124 #[.agg #[ev,rg],C O v,t] w fun e w'=>e=M (C O (jU es v f))/\Below (D (A w)) w w':=by
 obtain⟨ea,ec,rfl,Y⟩:=X.form;obtain⟨pa,pc,rfl,ac⟩:=hp.form;obtain⟨ra,rn,rc,rfl⟩:=ad;have af:L f<=L es:=by omega
 have ag:L es<=L f:=by omega
 have T:JP (jU es v f=((xR (L es)).foldl (lK v f es) (0, -1)).1):=Z;obtain⟨k0,aj,F⟩:=gU w #[G ea (L es) ec,G ra rn rc] 73;have S:=JO X;have x:=JO F;clear F X hp hl;go_enter func124,ntmps124;go_upto_region 1 with fail
 generalize hE:w.alloc (U #[G ea (L es) ec,G ra rn rc] 73)=E at*;have ah:=aB k0 0 _ Z;have l0:D (A w)<D (A E):=by omega
 go_wp2;go_loopw[7,8,14] (fun a b j wr=>∃(k:Nat) (p:Int×Int),k<=L es/\j=C O k/\a=C O p.1/\b=C O p.2/\JP (p=(xR k).foldl (lK v f es) (0, -1))/\JP (Below (D (A E)) E wr)) fun _ _ j _=>L es-(intOf j).toNat
 case atStart=>exact⟨0,(0, -1),x4 _,Z,Z,Z,Z,xW _ _⟩
 case round =>
  obtain⟨k,⟨t,s⟩,hk,rfl,rfl,rfl,HP,HB⟩:=hrel;by_cases hlt:k<L es
  ·have ai:(k:Int)<(L es:Int):=by omega
   have ae:(k:Int)<(L f:Int):=by omega
   obtain⟨y,rfl,V⟩:=Y (by omega);obtain⟨H,rfl,aa,W⟩:=ac (by omega);have q:JP (wr.rangeAt y (k*10) (aD (Q.ev es k)).toList):=eH (S.o.bV Z k hlt) ((HB.o.block y (by omega)).trans (x.o.block y V));have cp:J wr ⟨H,k,I⟩=N (C O (f.getD k 0)):=by rw[eI f k (by omega)];exact(HB.o.cell (p:=⟨H,k,I⟩) (by simp;omega)).trans ((x.o.cell (p:=⟨H,k,I⟩) aa).trans (W k (by omega)))
   have ak:H<D (A wr):=by have:=HB.o.size;omega
   have d:JP ((xR (k+1)).foldl (lK v f es) (0, -1)=if(Q.ev es k).k==1&&(Q.ev es k).z==v&&decide (s<f.getD k 0)then((Q.ev es k).value,f.getD k 0)else(t,s)):=by
    unfold JP;rw[fP,<- HP.o];rfl
   generalize Q.ev es k=r at*;generalize f.getD k 0=K at*;have i:JP (Below (D (A E)) E (wr.alloc (U (aD r) 166))):=HB.o.alloc HB.o.size _
   cases z1:r.k==1
   ·rw[z1]at d;go_wp2_with(first|(refine cA (.tmp 17) Z Z y (k*10) r Z q.o ?_));go_roundw
    case rel=>exact⟨k+1,(t,s),by omega,by go_num,Z,Z,d.o.symm,i⟩
    case measure=>simp[intOf];omega
   cases z2:r.z==v
   ·rw[z1,z2]at d;go_wp2_with(first|(refine cA (.tmp 17) Z Z y (k*10) r Z q.o ?_));go_roundw
    case rel=>exact⟨k+1,(t,s),by omega,by go_num,Z,Z,d.o.symm,i⟩
    case measure=>simp[intOf];omega
   by_cases hz3:s<K
   ·have z3:decide (s<K)=true:=decide_eq_true hz3;rw[z1,z2,z3]at d;go_wp2_with(first|(refine cA (.tmp 17) Z Z y (k*10) r Z q.o ?_));go_roundw
    case rel=>exact⟨k+1,(r.value,K),by omega,by go_num,Z,Z,d.o.symm,i⟩
    case measure=>simp[intOf];omega
   ·have z3:decide (s<K)=false:=decide_eq_false hz3;rw[z1,z2,z3]at d;go_wp2_with(first|(refine cA (.tmp 17) Z Z y (k*10) r Z q.o ?_));go_roundw
    case rel=>exact⟨k+1,(t,s),by omega,by go_num,Z,Z,d.o.symm,i⟩
    case measure=>simp[intOf];omega
  ·have HE:JP (jU es v f=t):=by
    have ab:k=L es:=by omega
    unfold JP;rw[T.o,<- ab,<- HP.o]
   go_wp2;go_ret;rw[HE.o];exact⟨Z,JW x.o (xF _) HB.o⟩
theorem LE.ow{w:World}(h:LE w g l)(B:Nat)(a:B<=g)(b:L l<1000000):w.ownsRow B 3 1 (JQ g (L l) (L l)) (L l) (l.map (x5 O)):=by
 refine⟨by simp,x6 ⟨g,L l,lU l,Z,a,h,xF _,by unfold maxLen;omega,by simp[lU],by simp only[lU,Nat.mul_one];exact xi (by simp)⟩⟩
theorem QP{w:World}(h:w.ownsRow B 3 1 v n (l.map (x5 O)))(o:n=L l):ME w v l:=by
 subst o
 rcases h.2 with⟨e,f⟩|⟨k,c,d,e,_,_,a,_⟩
 ·exact Or.inl ⟨e,List.eq_nil_of_length_eq_zero f⟩
 ·refine x6 ⟨k,c,e,fun i j=>?_,(h.lt k (by rw[e];rfl)).2,a⟩;have b:=h;rw[e]at b;rw[b.cellAt i (by omega)];simp[j]
theorem Tryz.NS:(prog.info? 3).map (fun i=>(i.zero,i.size,i.bytes))=N (N (C O 0),1,8):=by kernel_rfl
namespace Q
def mZ(w:Wd)(ps:List Int)(k:Nat):List Int:=w.g++(xR k).map fun v:Nat=>jU w.E (v:Int) ps
theorem N8(w:Wd)(a:List Int)(k:Nat):mZ w a (k+1)=mZ w a k++[jU w.E (k:Int) a]:=by
 unfold mZ;rw[xa,xb,List.append_assoc];rfl
theorem ZB(w:Wd)(a:List Int):mZ w a 3=OH w a:=rfl
theorem N9(w:Wd)(a:List Int)(k:Nat):(mZ w a k).length=L w.g+k:=by simp[mZ]
end Q
theorem IM(ev rg pv:Value)(c:Wd)(f:List Int)(w:World)(h:NO w ev rg c)(hp:ME w pv f)(hl:L f=L c.E)(hn:L c.E<=64)(hr:L c.g<1000):
  Calls prog 73 #[.agg #[ev,rg],pv] w fun e w'=>∃v,e=M v/\ME w' v (OH c f)/\(∀k,v.ownBlock=N k->D (A w)<=k)/\Below (D (A w)) w w':=by
 obtain⟨i0,hi,al,am,an⟩:=info_parts Tryz.NS;obtain⟨ea,ec,ae,_⟩:=h.K.form;obtain⟨ra,rc,aj,_⟩:=h.g.form;obtain⟨pa,pc,ai,_⟩:=hp.form;obtain⟨k0,ar,i⟩:=gU w #[ev,rg] 73;have HW:=JO (h.X i);have HP:=JO (hp.X i);have T:=JO i;have HL:=JO hl;clear i h hp hl;subst ae aj ai;go_enter func73,ntmps73;go_upto_region 1 with fail
 generalize hE:w.alloc (U #[G ea (L c.E) ec,G ra (L c.g) rc] 73)=d at*;have c0:=aB k0 0 _ Z;have c1:=aB k0 1 _ Z;have l0:D (A w)<D (A d):=by omega
 go_wp2_with(first|(go_at_call 123;refine(AE _ c.g _ HW.o.g (by omega)).mono ?_;rintro e w1 ⟨g1,rfl,af,H,ad⟩;have Y:=JO (af.ow (D (A d)) H (by omega));have B1:=JO ad));go_loopw[5,6] (fun a j wr=>∃(k:Nat) (v:Value),k<=3/\j=C O k/\a=v/\JP (wr.ownsRow (D (A d)) 3 1 v (L c.g+k) ((mZ c f k).map (x5 O)))/\JP (Below (D (A d)) d wr)) fun _ j _=>3-(intOf j).toNat
 case atStart=>exact⟨0,_,by omega,Z,Z,by simpa[JP,mZ]using Y.o,B1⟩
 case round =>
  obtain⟨k,v,hk,rfl,q,z,HB⟩:=hrel;have q:=q.symm;subst q;by_cases hlt:k<3
  ·have aq:(k:Int)<3:=by omega
   have d0:=JS HB.o l0 c0;have d1:=JS HB.o l0 c1;have ac:=JO (HW.o.X HB.o);have ab:=JO (HP.o.X HB.o);have HS:=JO (N8 c f k);generalize ah:jU c.E (k:Int) f=S at*;go_wp2_with(first
    |(go_at_call 124;refine(N7 _ _ _ c.E (k:Int) f _ ac.o.K ⟨_,_,_,Z⟩ ab.o HL.o hn).mono ?_;rintro e x ⟨rfl,r⟩;rw[ah];have B2:JP (Below (D (A d)) d x):=JW HB.o (xF _) r;have F:JP ((x.alloc (U #[C O S] 3)).ownsRow (D (A d)) 3 1 v (L c.g+k) ((mZ c f k).map (x5 O))):=aU z.o fun y e=>(Below.heap_alloc _ _ _ (by have:=(z.o.lt y e).2;have:=r.size;omega)).trans (r.block y (z.o.lt y e).2);have W:JP (∀j u,[x5 O S][j]?=N u->(x.alloc (U #[C O S] 3)).cell? ((⟨D (A x),0,I⟩:Addr).add j)=N u):=xj (cs:=#[C O S]) (t:=3) (fr:=(0,0)) (heap_alloc_new x _);have ak:D (A d)<=D (A x):=B2.o.size)
    |(at_builtin;refine wpList_append_lies _ Z (.tmp 14) (.tmp 19) 31 Z (D (A d)) 3 i0 (C O 0) 1 8 underlying31 hi al am an Z (by decide) _ (L c.g+k) ((mZ c f k).map (x5 O)) Z (by exact F.o) ⟨D (A x),0,I⟩ 1 1 [C O S] Z Z (by exact W.o) (by simp[xc]) (by decide) (by unfold maxLen;omega) (by omega) (by simp;omega) _ Z ?_;intro gn cn w5 s b ao ap))
   have V:JP (Below (D (A d)) d w5):=(B2.o.alloc ak _).trans ⟨b.os,b.tape,b.output,b.size,fun y hy=>b.block y (by simp;omega) fun e=>by have:=(F.o.lt y e.symm).1;omega⟩;have aa:JP (w5.ownsRow (D (A d)) 3 1 (JQ gn (L c.g+k+1) cn) (L c.g+(k+1)) ((mZ c f (k+1)).map (x5 O))):=by
    unfold JP;rw[HS.o,xb];exact s
   go_roundw
   case rel=>exact⟨k+1,_,by omega,by go_num,Z,aa,V⟩
   case measure=>simp[intOf];omega
  ·have ag:k=3:=by omega
   go_wp2;go_ret;refine⟨_,Z,?_,fun y e=>by have:=(z.o.lt y e).1;omega,JW T.o (xF _) HB.o⟩;have h1:=z.o;rw[ag,ZB]at h1;exact QP h1 (by rw[<- ZB,N9])
def OY:List Run->List Value->List Value
 |r::rs,v::vs=>v::C O (r.g.getD 0 0)::C O (r.g.getD 1 0)::C O (r.g.getD 2 0)::C O (r.g.getD 3 0)::OY rs vs
 |_,_=>[]
theorem ZC:∀(rs:List Run) (vs:List Value) (r:Run) (v:Value),L vs=L rs->OY (rs++[r]) (vs++[v])=OY rs vs++[v,C O (r.g.getD 0 0),C O (r.g.getD 1 0),C O (r.g.getD 2 0),C O (r.g.getD 3 0)]
 |[],[],_,_,_=>Z
 |[],_::_,_,_,h=>by simp at h
 |_::_,[],_,_,h=>by simp at h
 |a::rs,u::vs,r,v,h=>by
  simp only[List.cons_append,OY];rw[ZC rs vs r v (by simpa using h)]
structure En(w:World)(B:Nat)(v:Value)(rs:List Run)(vs:List Value):Prop where
 ow:w.ownsRow B 189 5 v (L rs) (OY rs vs)
 len:L vs=L rs
 K:∀i (h:i<L rs) (u:Value),vs[i]?=N u->NC w u rs[i].E
theorem En.X{w:World}(h:En w B v rs vs)(a:Below (D (A w)) w w'):En w' B v rs vs :=
 ⟨aU h.ow fun k e=>a.block k (h.ow.lt k e).2,h.len,fun i b u c=>(h.K i b u c).X a⟩
theorem En.nil(w:World)(B:Nat):En w B (G I 0 0) [] []:=⟨by simpa[OY]using xk w B 189 5,Z,fun i h=>by simp at h⟩
theorem En.form{w:World}(h:En w B v rs vs):∃a c,v=G a (L rs) c:=by
 rcases h.ow.2 with⟨e,d⟩|⟨k,c,b,e,_⟩
 ·exact⟨I,0,by rw[e,d]⟩
 ·exact⟨_,c,e⟩
theorem NC.bN{w:World}{es:List Ev}{y:Nat}{t:TypeId}{z:List Value}(h:NC w v es)(s:w.ownsRow B t y u n z)(x:t≠166)(q:w.grownBy w' u.ownBlock):NC w' v es:=by
 refine aU h fun k e=>q.block k (h.lt k e).2 ?_;intro b
 rcases h.2 with⟨c,_⟩|⟨E,j,o,c,_,r,_⟩
 ·rw[c]at e;simp[x9]at e
 ·rw[c]at e;simp[x9]at e;subst e
  rcases s.2 with⟨d,_⟩|⟨F,f,i,d,_,a,_⟩
  ·rw[d]at b;simp[x9]at b
  ·rw[d]at b;simp[x9]at b;subst b;rw[r]at a;simp at a;exact x a.2.symm
theorem En.mF{w d:World}{f e:Nat}{r:Run}(h:En w B v rs vs)(o:NC w u r.E)(a:d.ownsRow B 189 5 (JQ f (L rs+1) e) (L rs+1) (OY rs vs++[u,C O (r.g.getD 0 0),C O (r.g.getD 1 0),C O (r.g.getD 2 0),C O (r.g.getD 3 0)]))(j:w.grownBy d v.ownBlock):
  En d B (JQ f (L rs+1) e) (rs++[r]) (vs++[u]):=by
 refine⟨?_,by simp[h.len],fun i k x b=>?_⟩
 ·rw[ZC _ _ _ _ h.len];simpa using a
 ·by_cases hlt:i<L rs
  ·rw[List.getElem?_append_left (by rw[h.len];exact hlt)]at b;rw[List.getElem_append_left hlt];exact(h.K i hlt x b).bN h.ow (by decide) j
  ·simp at k;have c:i=L rs:=by omega
   subst c;rw[List.getElem?_append_right (by rw[h.len];exact xF _),h.len]at b;simp at b;subst b;simp;exact o.bN h.ow (by decide) j
namespace Q
theorem Oa(b:List JR):∀(c:Nat) (k:Nat),(b.take k).foldl (fun c a=>if eE a.k then c*4 else c) c<=b.foldl (fun c a=>if eE a.k then c*4 else c) c:=by
 have mono:∀(l:List JR) (c:Nat),c<=l.foldl (fun c a=>if eE a.k then c*4 else c) c:=by
  intro l
  induction l with
  |nil=>intro c;exact xF _
  |cons s r ih =>
   intro c;have d:c<=if eE s.k then c*4 else c:=by split<;>omega
   exact Nat.le_trans d (ih _)
 induction b with
 |nil=>intro c k;simp
 |cons s r ih =>
  intro c k
  cases k with
  |zero=>exact mono _ _
  |succ k=>exact ih _ k
theorem Ob(t:JV)(i k:Nat):fQ t i (k+1)=fQ t i k++if(gQ t i k).Y==0 then[(gQ t i k).run]else[]:=by
 unfold fQ;rw[xa,xd,xb]
 congr 1
 cases h:(gQ t i k).Y==0<;>simp[List.filter,h]
theorem ZD(t:JV)(i k:Nat):(fQ t i k).length<=k:=by
 unfold fQ;rw[List.length_map];have:=xe (fun c=>(gQ t i c).Y==0) (xR k);simpa using this
end Q
theorem Tryz.infoRun:(prog.info? 189).map (fun i=>(i.zero,i.size,i.bytes))=N (N (.agg #[G I 0 0,C O 0,C O 0,C O 0,C O 0]),5,56):=by kernel_rfl
theorem Ei.uX{w:World}{m:Ex}{ev:Value}(h:Ei w B g m ev):NC w ev m.E:=by
 refine⟨h.K.1,?_⟩
 rcases h.K.2 with d|⟨c,a,b,e,_,r⟩
 ·exact Or.inl d
 ·exact x6 ⟨c,a,b,e,x4 _,r⟩
theorem Oc(i:Nat)(t:JV)(sv:Value)(w:World)(aa:w.ownsRow 0 104 11 sv (L t.S) (MG t.S))(hi:i<100)(aR:∀s∈t.S,NZ s)(hn:L t.S<900)(hc:OM t.S<100000):
  Calls prog 102 #[.agg #[C O t.block,C O t.i,sv],C O (i:Int)] w fun e w'=>∃v vs,e=M v/\En w' (D (A w)) v (fT t i) vs/\Below (D (A w)) w w':=by
 have aS:∃a c,sv=G a (L t.S) c/\(0<L t.S->∃b,a=N ⟨b,0,I⟩/\b<D (A w)):=by
  rcases aa.2 with⟨e,h0⟩|⟨k,c,ao,e,_⟩
  ·exact⟨I,0,by rw[e,h0],fun h=>by omega⟩
  ·exact⟨_,c,e,fun _=>⟨k,Z,(aa.lt k (by rw[e];rfl)).2⟩⟩
 obtain⟨sa,sc,rfl,ar⟩:=aS;have am:=JO aa;obtain⟨bs,au,ap⟩:∃bs,(0<L t.S->sa=N ⟨bs,0,I⟩)/\(0<L t.S->bs<D (A w)):=by
  by_cases h0:0<L t.S
  ·obtain⟨b,h1,h2⟩:=ar h0;exact⟨b,fun _=>h1,fun _=>h2⟩
  ·exact⟨0,fun h=>absurd h h0,fun h=>absurd h h0⟩
 have aG:JP (∀q (hq:q<L t.S),w.rangeAt bs (q*11) (aC t.S[q]).toList):=fun q hq=>by
  have h1:=am.o;rw[au (by omega)]at h1;exact kJ h1 Z q hq
 obtain⟨i0,aO,aX,aY,aZ⟩:=info_parts Tryz.infoRun;have ak:JP (OM t.S=t.S.foldl (fun c st=>if eE st.k then c*4 else c) 1):=Z;obtain⟨k0,bw,aK⟩:=gU w #[C O t.block,C O t.i,G sa (L t.S) sc] 96;have ae:=JO aK;go_enter func102,ntmps102;go_upto_region 1 with fail
 generalize hE:w.alloc (U #[C O t.block,C O t.i,G sa (L t.S) sc] 96)=z at*;have c0:=aB k0 0 _ Z;have c2:=aB k0 2 _ Z;have l0:D (A w)<D (A z):=by omega
 go_wp2;go_loopw[5,14] (fun c j wr=>∃(k n:Nat),k<=L t.S/\j=C O k/\c=C O (n:Nat)/\JP (n=(t.S.take k).foldl (fun c st=>if eE st.k then c*4 else c) 1)/\JP (Below (D (A z)) z wr)) fun _ j _=>L t.S-(intOf j).toNat
 case atStart=>exact⟨0,1,x4 _,Z,Z,by simp[JP],xW _ _⟩
 case round =>
  obtain⟨k,n,hk,rfl,rfl,HN,HB⟩:=hrel;by_cases hlt:k<L t.S
  ·have bp:(k:Int)<(L t.S:Int):=by omega
   obtain⟨b,rfl,hb⟩:=ar (by omega);have HR:=JO (eH (kJ am.o Z k hlt) ((HB.o.block b (by omega)).trans (ae.o.block b hb)));have ac:JP ((t.S.take (k+1)).foldl (fun c st=>if eE st.k then c*4 else c) 1=if eE t.S[k].k then n*4 else n):=by
    unfold JP;rw[List.take_succ_eq_append_getElem hlt,List.foldl_append,<- HN.o];rfl
   have br:n<100000:=by have:=Oa t.S 1 k;rw[<- HN.o,<- ak.o]at this;omega
   generalize t.S[k]=st at*;have aj:JP (Below (D (A z)) z (wr.alloc (U (aC st) 104))):=HB.o.alloc HB.o.size _
   cases hz:eE st.k
   ·rw[hz]at ac;go_wp2_with(first|(refine dC (.tmp 16) Z Z b (k*11) st Z HR.o ?_)|(go_at_call 58;refine(FL _ _).mono ?_;rintro e w' ⟨rfl,H⟩;have H:=H.symm;subst H;rw[hz]));go_roundw
    case rel=>exact⟨k+1,n,by omega,by go_num,Z,ac.o.symm,aj⟩
    case measure=>simp[intOf];omega
   ·rw[hz]at ac;go_wp2_with(first|(refine dC (.tmp 16) Z Z b (k*11) st Z HR.o ?_)|(go_at_call 58;refine(FL _ _).mono ?_;rintro e w' ⟨rfl,H⟩;have H:=H.symm;subst H;rw[hz]));go_roundw
    case rel=>exact⟨k+1,n*4,by omega,by go_num,by first|rfl|go_num|(congr 1),ac.o.symm,aj⟩
    case measure=>simp[intOf];omega
  ·have aq:k=L t.S:=by omega
   have af:JP (n=OM t.S):=by unfold JP;rw[ak.o,HN.o,aq,List.take_length]
   have bt:n<100000:=by rw[af.o];exact hc
   have aD:JP (fT t i=fQ t i n):=by unfold JP fT;rw[af.o]
   clear HN af aq;go_wp2;clear hlt hk;go_loopw[8,9] (fun a j wq=>∃(q:Nat) (v:Value) (vs:List Value),q<=n/\j=C O q/\a=v/\JP (En wq (D (A z)) v (fQ t i q) vs)/\JP (Below (D (A z)) z wq)) fun _ j _=>n-(intOf j).toNat
   case atStart=>exact⟨0,_,[],x4 _,Z,Z,En.nil _ _,HB⟩
   case round =>
    clear HB;obtain⟨q,v,vs,hq,rfl,ag,W,HB⟩:=hrel;have ag:=ag.symm;subst ag;obtain⟨ra,rc,aQ⟩:=W.o.form;subst aQ;by_cases hql:q<n
    ·have bu:(q:Int)<(n:Int):=by omega
     have d0:=JS HB.o l0 c0;have d2:=JS HB.o l0 c2;have lw:=x8 l0 HB.o.size;have al:JP (Ei (wr.alloc (U #[C O (i:Int),C O t.block,C O (q:Int),C O 0,C O 0,C O 0,C O 0,C .u64 0,C .u64 0,C .u64 0,C .u64 0,C .u64 0,C O 0,G I 0 0] 186)) (D (A wr)) (D (A wr)) (Ex.start i t.block q) (G I 0 0)):=⟨heap_alloc_new wr _,by simpa[Ex.start,MY]using xk _ _ _ _,xF _,Z,Z⟩;have BX:Below (D (A wr)) wr (wr.alloc (U #[C O (i:Int),C O t.block,C O (q:Int),C O 0,C O 0,C O 0,C O 0,C .u64 0,C .u64 0,C .u64 0,C .u64 0,C .u64 0,C O 0,G I 0 0] 186)):=(xW _ _).alloc (xF _) _;have BM:=JO BX;have bq:=JS BX lw d2;have bx:=x8 lw BX.size;have bb:D (A wr)<=(wr.alloc (U #[C O (i:Int),C O t.block,C O (q:Int),C O 0,C O 0,C O 0,C O 0,C .u64 0,C .u64 0,C .u64 0,C .u64 0,C .u64 0,C O 0,G I 0 0] 186)).heap.size:=BX.size;have aJ:D (A z)<=D (A wr):=HB.o.size;have aE:JP (∀x (hx:x<L t.S),(wr.alloc (U #[C O (i:Int),C O t.block,C O (q:Int),C O 0,C O 0,C O 0,C O 0,C .u64 0,C .u64 0,C .u64 0,C .u64 0,C .u64 0,C O 0,G I 0 0] 186)).rangeAt bs (x*11) (aC t.S[x]).toList):=fun x hx=>by
      have hb:=ap (by omega);exact eH (aG.o x hx) ((BX.block bs (by omega)).trans ((HB.o.block bs (by omega)).trans (ae.o.block bs hb)))
     have aF:JP (nJ (Ex.start i t.block q) t.S=gQ t i q):=Z;have aH:=JO (CR i t.block q (by omega));have an:=JO (Ob t i q);go_upto_region 13 with fail
     generalize bk:wr.alloc (U #[C O (i:Int),C O t.block,C O (q:Int),C O 0,C O 0,C O 0,C O 0,C .u64 0,C .u64 0,C .u64 0,C .u64 0,C .u64 0,C O 0,G I 0 0] 186)=M1 at*;generalize aN:D (A wr)=gm at*;go_upto_region 14 with(first|(go_at_call 154;refine(Nn gm gm bs sc (Ex.start i t.block q) (G I 0 0) t.S sa _ al.o aH.o aR hn (by omega) au fun h=>by have:=ap h;omega aE.o).mono ?_;rintro e V ⟨rfl,bj,T,aM⟩))
     rw[aF.o]at T;have B3:JP (Below gm wr V):=BM.o.trans (aM.X al.o (by omega));have bv:(gQ t i q).g.length=4:=T.lr;have ad:JP (En V (D (A z)) (G ra (fQ t i q).length rc) (fQ t i q) vs):=W.o.X (by rw[aN];exact B3.o);have ab:JP (Below (D (A z)) z V):=HB.o.trans (B3.o.mono aJ);obtain⟨e0,e1,e2,e3,e4,e5,e6,e7,e8,e9,bf,bg,bh,bi,ef⟩:=T.F;have ay:=JO T.uX;have bn:=T.lt;obtain⟨ea,ec,aL,_⟩:=T.form;have be:JP ((gQ t i q).run=⟨(gQ t i q).E,(gQ t i q).g⟩):=Z;generalize bl:gQ t i q=d at*
     cases hz:(d.Y:Int)==0
     ·have ai:(d.Y==0)=false:=by have h1:¬(d.Y:Int)=0:=(by simpa using hz);have h2:¬d.Y=0:=(by omega);simpa using h2
      have HN:JP (fQ t i (q+1)=fQ t i q):=by unfold JP;rw[an.o,ai];simp
      go_wp2;go_roundw
      case rel=>exact⟨q+1,_,vs,by omega,by go_num,Z,by rw[HN.o];exact ad,ab⟩
      case measure=>simp[intOf];omega
     ·have ai:(d.Y==0)=true:=by have h1:(d.Y:Int)=0:=(by simpa using hz);have h2:d.Y=0:=(by omega);simpa using h2
      have HN:JP (fQ t i (q+1)=fQ t i q++[⟨d.E,d.g⟩]):=by unfold JP;rw[an.o,ai];rfl
      have bc:=ZD t i q;generalize aT:d.g.getD 0 0=x0 at*;generalize aU:d.g.getD 1 0=x1 at*;generalize aV:d.g.getD 2 0=x2 at*;generalize aW:d.g.getD 3 0=x3 at*;subst aL;have BA:Below (D (A V)) V (V.alloc (U #[G ea (L d.E) ec,C O x0,C O x1,C O x2,C O x3] 189)):=(xW _ _).alloc (xF _) _;have HO:=JO (ad.o.X BA);have ax:=JO (ay.o.X BA);have aA:JP (∀j u,[Value.slice ea (L d.E) ec,C O x0,C O x1,C O x2,C O x3][j]?=N u->(V.alloc (U #[G ea (L d.E) ec,C O x0,C O x1,C O x2,C O x3] 189)).cell? ((⟨D (A V),0,I⟩:Addr).add j)=N u):=
       xj (cs:=#[G ea (L d.E) ec,C O x0,C O x1,C O x2,C O x3]) (t:=189) (fr:=(0,0)) (heap_alloc_new V _)
      have aw:JP (Below (D (A z)) z (V.alloc (U #[G ea (L d.E) ec,C O x0,C O x1,C O x2,C O x3] 189))):=ab.o.alloc ab.o.size _;have bm:D (A z)<=D (A V):=ab.o.size;have HX:JP (x0=d.g.getD 0 0/\x1=d.g.getD 1 0/\x2=d.g.getD 2 0/\x3=d.g.getD 3 0):=⟨aT.symm,aU.symm,aV.symm,aW.symm⟩;go_wp2_with(first|(at_builtin;(refine wpList_append_lies _ Z (.tmp 40) (.tmp 46) 154 Z (D (A z)) 189 i0 (.agg #[G I 0 0,C O 0,C O 0,C O 0,C O 0]) 5 56 underlying154 aO aX aY aZ Z (by decide) _ (fQ t i q).length (OY (fQ t i q) vs) Z (by exact HO.o.ow) ⟨D (A V),0,I⟩ 1 1 [G ea (L d.E) ec,C O x0,C O x1,C O x2,C O x3] Z Z (by exact aA.o) (by simp[xc]) (by decide) (by unfold maxLen;omega) (by omega) (by simp;omega) _ Z ?_;intro gn cn w5 ah f ba bd)));have az:JP (En w5 (D (A z)) (JQ gn ((fQ t i q).length+1) cn) (fQ t i q++[⟨d.E,d.g⟩]) (vs++[G ea (L d.E) ec])):=by
       obtain⟨y0,y1,y2,y3⟩:=HX.o;subst y0 y1 y2 y3;exact HO.o.mF (r:=⟨d.E,d.g⟩) ax.o ah f
      have av:JP (Below (D (A z)) z w5):=aw.o.trans ⟨f.os,f.tape,f.output,f.size,fun y hy=>f.block y (by simp;omega) fun e=>by have:=(HO.o.ow.lt y e.symm).1;omega⟩;go_roundw
      case rel=>exact⟨q+1,_,_,by omega,by go_num,Z,by rw[HN.o];exact az,av⟩
      case measure=>simp[intOf];omega
    ·have aP:q=n:=by omega
     go_wp2;go_ret;refine⟨_,vs,Z,?_,JW ae.o (xF _) HB.o⟩;rw[aD.o,<- aP];refine⟨?_,W.o.len,W.o.K⟩;have h1:=W.o.ow;refine⟨h1.1,?_⟩
     rcases h1.2 with h0|⟨g',aI,ao,e,bo,r⟩
     ·exact Or.inl h0
     ·exact x6 ⟨g',aI,ao,e,by omega,r⟩
theorem Od{w:World}{c:Nat}{es:List Ev}(h:w.heap[g]?=N (U (MY es).toArray 166 (0,0)))(a:B<=g)(b:n=L es)(d:L es<100000):w.ownsRow B 166 10 (JQ g n n) n (MY es):=by
 subst b;refine⟨by rw[lF],x6 ⟨g,L es,_,Z,a,h,xF _,by unfold maxLen;omega,by simp[lF],by simp only[List.toList_toArray];exact xi (by rw[lF];exact xF _)⟩⟩
theorem GR{c:Array Oper}{rest:List Oper}{b:Oper}{a:Act}{w:World}{R:Exit->Act->World->Prop}(x y:Operand)(d:b.guard=I)(f:b.op=.store 166 x y)(g o:Nat)(e:Ev)(j:a.eval x=.pointer (N ⟨g,o,I⟩))(k:a.eval y=.agg (aD e))(i:w.there g o 10)(h:wpList prog c R rest (a.put b.dst undef) (w.setCells g o (aD e).toList)):wpList prog c R (b::rest) a w :=
 wpList_store_mid d _ x y f g o (aD e) j k i (by kernel_rfl) (by simp[aD,xc]) h
def qU:Nat->List Ev
 |0=>[Ev.zero,Ev.zero,Ev.zero]
 |1=>[NG 0,Ev.zero,Ev.zero]
 |2=>[NG 0,NG 1,Ev.zero]
 |_=>[NG 0,NG 1,NG 2]
theorem qP{w:World}{o:Nat}{a:Array Value}{e:TypeId}(b:w.heap[g]?=N (U a e (0,0)))(d:o+n<=a.size):w.there g o n:=by
 intro j c;simp[World.cell?,World.frozen?,b];omega
theorem Oe(w:World):
  Calls prog 155 #[] w fun e w'=>∃g,e=M (JQ g 3 3)/\w'.ownsRow (D (A w)) 166 10 (JQ g 3 3) 3 (MY MX)/\Below (D (A w)) w w':=by
 obtain⟨F,z,s,q,t⟩:=info_parts Tryz.infoEvM;have E:∀w,(xh 71 (C O 3) (C O 3)).run prog w=.ok (JQ (D (A w)) 3 3) (w.alloc (U (MY [Ev.zero,Ev.zero,Ev.zero]).toArray 166)):=fun w=>by
  have h:=run_makeSlice (P:=prog) w 71 166 F (.agg (aD Ev.zero)) underlying71 z s O O 3 3 (by omega) (Int.le_refl _) (by rw[q];decide) (by rw[t];decide) (by omega);rw[q]at h;have e:madeCells (Value.agg (aD Ev.zero)).cells (Int.toNat 3*10)=(MY [Ev.zero,Ev.zero,Ev.zero]).toArray:=by kernel_rfl
  rw[e]at h;exact h
 have y:JP (∀W:World,(W.alloc (U (MY [Ev.zero,Ev.zero,Ev.zero]).toArray 166)).heap[D (A W)]?=N (U (MY [Ev.zero,Ev.zero,Ev.zero]).toArray 166 (0,0))):=fun W=>heap_alloc_new W _
 go_enter func155,ntmps155;go_wp2;go_loopw[6] (fun j wr=>∃(k:Nat),k<=3/\j=C O k/\JP (wr.heap[D (A w)]?=N (U (MY (qU k)).toArray 166 (0,0)))/\JP (Below (D (A w)) w wr)) fun j _=>3-(intOf j).toNat
 case atStart=>exact⟨0,by omega,Z,y.o w,(xW _ _).alloc (xF _) _⟩
 case round =>
  obtain⟨k,H,rfl,d,HB⟩:=hrel;have r:k=0\/k=1\/k=2\/k=3:=by omega
  rcases r with rfl|rfl|rfl|rfl
  ·have f:JP (wr.there (D (A w)) 0 10):=qP d.o (by simp[lF,qU]);have b:=JO (tV (D (A w)) 166 (0,0) (aD (NG 0)).toList (MY (qU 0)) 0 wr d.o);have a:JP (Below (D (A w)) w (wr.setCells (D (A w)) 0 (aD (NG 0)).toList)):=Below.setCells (xF _) _ _ _ HB.o;go_wp2_with(first|(refine GR (.tmp 13) (.tmp 12) Z Z (D (A w)) 0 (NG 0) Z Z f.o ?_;generalize i:wr.setCells (D (A w)) 0 (aD (NG 0)).toList=x at*));go_roundw
   case rel=>exact⟨1,by omega,by go_num,b,a⟩
   case measure=>simp[intOf]
  ·have f:JP (wr.there (D (A w)) 10 10):=qP d.o (by simp[lF,qU]);have b:=JO (tV (D (A w)) 166 (0,0) (aD (NG 1)).toList (MY (qU 1)) 10 wr d.o);have a:JP (Below (D (A w)) w (wr.setCells (D (A w)) 10 (aD (NG 1)).toList)):=Below.setCells (xF _) _ _ _ HB.o;go_wp2_with(first|(refine GR (.tmp 13) (.tmp 12) Z Z (D (A w)) 10 (NG 1) Z Z f.o ?_;generalize i:wr.setCells (D (A w)) 10 (aD (NG 1)).toList=x at*));go_roundw
   case rel=>exact⟨2,by omega,by go_num,b,a⟩
   case measure=>simp[intOf]
  ·have f:JP (wr.there (D (A w)) 20 10):=qP d.o (by simp[lF,qU]);have b:=JO (tV (D (A w)) 166 (0,0) (aD (NG 2)).toList (MY (qU 2)) 20 wr d.o);have a:JP (Below (D (A w)) w (wr.setCells (D (A w)) 20 (aD (NG 2)).toList)):=Below.setCells (xF _) _ _ _ HB.o;go_wp2_with(first|(refine GR (.tmp 13) (.tmp 12) Z Z (D (A w)) 20 (NG 2) Z Z f.o ?_;generalize i:wr.setCells (D (A w)) 20 (aD (NG 2)).toList=x at*));go_roundw
   case rel=>exact⟨3,by omega,by go_num,b,a⟩
   case measure=>simp[intOf]
  ·go_wp2;go_ret;exact⟨D (A w),Z,Od (es:=MX) (c:=0) d.o (xF _) Z (by decide),HB.o⟩
end Go.Proofs.YtlikcongbhhpfaaGreatDoor
