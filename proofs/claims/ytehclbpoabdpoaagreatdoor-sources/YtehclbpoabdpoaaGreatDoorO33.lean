import Derived.Deep.Draws
import Derived.Laws.AppendOwnNone
import Derived.Test.YtehclbpoabdpoaaGreatDoorO30
import Derived.Test.YtehclbpoabdpoaaGreatDoorO32
set_option linter.all false
set_option maxHeartbeats 0
namespace Go.Proofs.YtehclbpoabdpoaaGreatDoor
open Go Go.RowKit Go.Proofs.Tryz P Q
open scoped Classical
set_option maxRecDepth 1000000
variable {W1 w w' w1:World}{B g gb gc n sz:Nat}{rv v:Value}{vs xs:List Value}{t:TypeId}{ds:List Int}{A:WA}{rss:List (List Run)}{st:Option RS}{wss:List (List Value)}
open _root_.Array renaming size->T
open Go.World renaming heap->J
open Go.Value renaming slice->Y,bool->M
open Option renaming none->O,some->I
open Bool renaming false->N
open Go.Obj renaming cells->H
open Nat renaming le_refl->xF,lt_of_lt_of_le->x2,le_trans->x4
open Go.RowKit.Below renaming refl->xR
open Or renaming inr->xW,inl->x1
open Go.Value renaming ownBlock->x3,oneCell'->x7
open List renaming foldl_cons->x5
open Go.World renaming cell?->x6,cell?_of_block->x8
def kH(rv wb wd wg:Value):Array Value:=#[Y O 0 0,Y O 0 0,Y O 0 0,Y O 0 0,Y O 0 0,Y O 0 0,Y O 0 0,Y O 0 0,Y O 0 0,Y O 0 0,Y O 0 0,Y O 0 0,Y O 0 0,rv,wb,wd,wg,Y O 0 0,Y O 0 0,Y O 0 0,M N,M N]
def Qs(w w':World)(rss:List (List Run))(e:Ending):Prop:=∃rv vs wss gb gd,e=.returned (.agg (kH rv (MU gb rss.length rss.length) (MU gd rss.length rss.length) (M N)))/\(∃a n c,rv=Y a n c)/\Ek w' 0 rv rss vs wss/\NM w' gb (PG rss)/\NM w' gd (fJ rss.length)/\T (J w)<=gb/\T (J w)<=gd/\gb≠gd/\Below (T (J w)) w w'
def RL{e:TypeId}(h:w.ownsRow B e sz v n xs):∃a c,v=Y a n c:=by
 rcases h.2 with⟨d,f⟩|⟨g,b,_,d,_⟩
 ·exact⟨O,0,by rw[d,f]⟩
 ·exact⟨_,b,d⟩
def Qt(B l b:Nat)(a:List NB)(w:World)(h:fN w B (MU l a.length b) a)(hn:a.length<20)(V:∀t∈a,(∀s∈t.S,QK s)/\t.S.length<900/\QX t.S<100000):
  Calls prog 32 #[.agg #[MU l a.length b]] w fun e w'=>Qs w w' (NJ a) e:=by
 obtain⟨k0,k1,X,r⟩:=mZ w #[MU l a.length b] (kH (Y O 0 0) (Y O 0 0) (Y O 0 0) (M N)) 40 94;have HT:=MS (h.keep fun k hk=>r.block k hk);have z:=MS V;have f:=MS r;go_enter func32,ntmps32;go_upto_region 1 with fail
 simp only[kH]at k0 k1 X HT f;generalize hE:(w.alloc (H #[MU l a.length b] 40)).alloc (H #[Y O 0 0,Y O 0 0,Y O 0 0,Y O 0 0,Y O 0 0,Y O 0 0,Y O 0 0,Y O 0 0,Y O 0 0,Y O 0 0,Y O 0 0,Y O 0 0,Y O 0 0,Y O 0 0,Y O 0 0,Y O 0 0,M N,Y O 0 0,Y O 0 0,Y O 0 0,M N,M N] 94)=W0 at*;have ab:=jP k0 0 _ Z;have l1:T (J w)+1<T (J W0):=by omega
 have K1:=MS k1;go_wp2_with(first
  |(go_at_call 54;refine(Pt B l b a _ HT.o hn z.o).mono ?_;rintro e w1 ⟨rv,vs,wss,gb,gd,rfl,y,F,G,ac,ad,L,m⟩;have c:=MS y;have C:=MS F;have D:=MS G;have B1:=MS m;have E:=MS ((m.block _ l1).trans K1.o);obtain⟨xa,xc,W⟩:=RL y.own;subst W)
  |(refine wpList_store_mid Z 94 (.tmp 2) (.tmp 5) Z (T (J w)+1) 0 (kH (Y xa (NJ a).length xc) (MU gb (NJ a).length (NJ a).length) (MU gd (NJ a).length (NJ a).length) (M N)) Z Z (wD E.o (by simp[kH])) (by kernel_rfl) (by simp[kH,x7]) ?_;have SW:=MS (DA (kH (Y xa (NJ a).length xc) (MU gb (NJ a).length (NJ a).length) (MU gd (NJ a).length (NJ a).length) (M N)).toList E.o (by simp[kH]));generalize w1.setCells (T (J w)+1) 0 (kH (Y xa (NJ a).length xc) (MU gb (NJ a).length (NJ a).length) (MU gd (NJ a).length (NJ a).length) (M N)).toList=W2 at*))
 obtain⟨s0,s1,s2⟩:=SW.o;have d:∀{B n sz:Nat} {t:TypeId} {v:Value} {xs:List Value},w1.ownsRow B t sz v n xs->t≠94->W2.ownsRow B t sz v n xs:=fun h ht=>bE h fun k e=>s1 k fun e2=>gB h E.o ht (by rw[e,e2])
 refine qW (p:=2) (T (J w)+1) _ (by kernel_rfl) underlying94 Z (by kernel_rfl) Z (by exact s0) Z ?_;refine⟨_,vs,wss,gb,gd,Z,⟨_,_,_,Z⟩,⟨d c.o.own (by decide),c.o.lv,c.o.lw,fun i hi u us hu aa=>?_⟩,C.o.aC (s1 _ (by omega)),D.o.aC (s1 _ (by omega)),by omega,by omega,L,s2 w (T (J w)) (by omega) (NE f.o (xF _) B1.o)⟩;have q:=c.o.U i hi u us hu aa;exact⟨d q.own (by decide),q.len,fun j hj x hx=>d (q.K j hj x hx) (by decide)⟩
section
variable {w w':World}{g:Nat}{a:Q.PA}{ov:Value}{vs:List Value}{fp:List Nat}
def Eh.tS(f:Eh w g a ov vs fp)(h:w.ownsRow B t sz v n xs)(j:t≠119)(l:t≠77)(m:t≠37)(k:Nat)(e:v.ownBlock=I k):¬Wr g ov k:=fun e2=>by
 obtain⟨c,d⟩:=f.o.ty
 rcases e2 with e2|e2
 ·subst e2
  rcases d with d|d
  ·exact gB h d j e
  ·exact gB h d l e
 ·rcases f.o.y.own.2 with⟨e3,_⟩|⟨b,q,i,e3,_,p,_⟩
  ·rw[e3]at e2;simp[x3]at e2
  ·rw[e3]at e2;simp[x3]at e2;subst e2;exact gB h p m e
def Eh.iX(b:Eh w g a ov vs fp){k:Nat}{c:Array Value}(h:w.heap[k]?=I (H c t (0,0)))(d:t≠119)(f:t≠77)(i:t≠37):¬Wr g ov k:=fun e2=>by
 rcases e2 with e2|e2
 ·exact b.ne h (fun e=>d e.symm) (fun e=>f e.symm) e2.symm
 ·exact gB b.o.y.own h (fun e=>i e.symm) e2
def FG(f:Eh w g a ov vs fp)(i:XF (Wr g ov) w w')(h:w.ownsRow B t sz v n xs)(b:t≠119)(c:t≠77)(d:t≠37):w'.ownsRow B t sz v n xs :=
 bE h fun k e=>i.block k (h.lt k e).2 (f.tS h b c d k e)
def Ah(c:Eh w g a ov vs fp)(d:XF (Wr g ov) w w'){b:Nat}{l:List Int}(h:NM w b l):NM w' b l :=
 h.aC (d.block b h.lt (c.iX (t:=3) h (by decide) (by decide) (by decide)))
def Ai(f:Eh w g a ov vs fp)(d:XF (Wr g ov) w w'){o gd:Nat}{e:List Int}{rest:List (List Int)}(h:RT w gc o gb gd e ds rest)(i:w'.heap[gc]?=w.heap[gc]?):RT w' gc o gb gd e ds rest:=by
 obtain⟨b,⟨k,l,m,r,cl,p,q,u,x,y,z⟩,s⟩:=h;have c:∀j,w'.cell? ⟨gc,j,O⟩=w.cell? ⟨gc,j,O⟩:=fun j=>x8 (w:=w) (a:=⟨gc,j,O⟩) i
 exact⟨b,⟨(c _).trans k,(c _).trans l,(c _).trans m,fun j=>(World.frozen?_of_block (w:=w) (a:=⟨gc,j,O⟩) i).trans (r j),x2 cl d.size,Ah f d p,Ah f d q,u,x,y,z⟩,s⟩
def Qu(d:Eh w g a ov vs fp)(e:XF (Wr g ov) w w')(h:Box w gc):w'.heap[gc]?=w.heap[gc]?:=by
 obtain⟨c,b,f⟩:=id h;exact e.block gc h.lt (d.iX b (by decide) (by decide) (by decide))
def Em.wr{rest:List (List Int)}(h:Em w gc A rss st ds rest)(d:Eh w g a ov vs fp)(r:∀k,nbS st k->¬Wr g ov k)(c:XF (Wr g ov) w w'):Em w' gc A rss st ds rest:=by
 have l:=Qu d c h.box;have f:∀j,w'.cell? ⟨gc,j,O⟩=w.cell? ⟨gc,j,O⟩:=fun j=>x8 (w:=w) (a:=⟨gc,j,O⟩) l
 refine⟨h.box.of l,⟨(f _).trans h.ws.c0,⟨FG d c h.ws.U.own (by decide) (by decide) (by decide),h.ws.U.lv,h.ws.U.lw,fun i o u G m C=>?_⟩,Ai d c h.ws.OS l⟩,(f _).trans h.beg,fun s hs=>?_⟩
 ·have q:=h.ws.U.U i o u G m C;exact⟨FG d c q.own (by decide) (by decide) (by decide),q.len,fun j E x D=>FG d c (q.K j E x D) (by decide) (by decide) (by decide)⟩
 ·obtain⟨b,z⟩:=h.rs s hs;have p:∀k,s.R.nb k->¬Wr g ov k:=fun k F=>r k ⟨s,hs,F⟩
  refine⟨⟨(f _).trans b.c0,(f _).trans b.c1,b.wdi.wr d (fun k e=>p k (x1 e)) c.block c.size,jM b.fc l,b.fin.wr d c.block,⟨(f _).trans b.rd.c0,⟨bE b.rd.y.own fun k e=>c.block k (b.rd.y.own.lt k e).2 (p k (xW (x1 e))),b.rd.y.len,fun i o u m=>(b.rd.y.y i o u m).own _ (fun k e=>c.block k ?_ (p k (xW (xW (x1 ⟨u,List.mem_of_getElem? m,e⟩))))) c.size⟩,Ai d c b.rd.OS l,b.rd.nc,b.rd.ne⟩,b.n1,b.n2,b.n3⟩,z⟩;exact FB (b.rd.y.y i o u m) k e
end
def RA.on.rM{R:RA}{d:Q.Wd}{rest:List (List Int)}(h:R.on w gc A d ds rest)(k:Nat)(j:R.nb k):k<T (J w):=by
 obtain⟨b,c⟩:=h.rd.OS.OS
 rcases j with e|e|⟨u,m,e⟩|e|e
 ·exact FB h.wdi.g k e
 ·exact(h.rd.y.own.lt k e).2
 ·obtain⟨i,f,a⟩:=List.getElem_of_mem m;have l:i<(NC d.E).length:=by have:=h.rd.y.len;omega
  exact FB (h.rd.y.y i l u (by rw[List.getElem?_eq_getElem f,a])) k e
 ·subst e;exact c.bases.lt
 ·subst e;exact c.digits.lt
def Em.rM{rest:List (List Int)}(h:Em w gc A rss st ds rest)(k:Nat)(a:nbS st k):k<T (J w):=by
 obtain⟨s,hs,a⟩:=a;exact(h.rs s hs).1.rM k a
def Em.GS{rest:List (List Int)}(h:Em w gc A rss st ds rest)(k:Nat)(a:gdS st k):k<T (J w):=by
 obtain⟨s,hs,a⟩:=a;subst a;exact h.rM _ ⟨s,hs,xW (xW (xW (xW Z)))⟩
structure Es(w0 w:World)(gc g:Nat)(A:WA)(rss:List (List Run))(st:Option RS)(ds:List Int)(rest:List (List Int))(a:PA)(ov:Value)(vs:List Value)(fp:List Nat):Prop where
 cand:Em w gc A rss st ds rest
 ans:Eh w g a ov vs fp
 nb:∀k,nbS st k->¬Wr g ov k
 fpd:∀k∈fp,k≠gc/\k≠A.gd/\¬gdS st k
 low:T (J w0)<=gc/\T (J w0)<=g/\T (J w0)<=A.gd/\(∀k,gdS st k->T (J w0)<=k)/\(∀k,ov.ownBlock=I k->T (J w0)<=k)/\∀k∈fp,T (J w0)<=k
 bl:Below (T (J w0)) w0 w
section
variable {w0 w:World}{gc g:Nat}{A:WA}{rss:List (List Q.Run)}{st:Option RS}{ds:List Int}{rest:List (List Int)}{a:Q.PA}{ov:Value}{vs:List Value}{fp:List Nat}
def Es.X(h:Es w0 w gc g A rss st ds rest a ov vs fp)(b:Below (T (J w)) w w'):Es w0 w' gc g A rss st ds rest a ov vs fp :=
 ⟨h.cand.X b,h.ans.X b,h.nb,h.fpd,h.low,NE h.bl (xF _) b⟩
def Ei.xf(h:Ei w w' gc A st):XF (fun k=>k=gc\/k=A.gd\/gdS st k) w w' :=
 ⟨h.os,h.tape,h.output,h.size,fun k b a=>h.block k b (fun e=>a (x1 e)) (fun e=>a (xW (x1 e))) fun e=>a (xW (xW e))⟩
def XF.low{P:Nat->Prop}{b:World}(a:Below (T (J b)) b w)(h:XF P w w')(d:∀k,P k->T (J b)<=k):Below (T (J b)) b w' :=
 ⟨h.os.trans a.os,h.tape.trans a.tape,h.output.trans a.output,x4 a.size h.size,fun k c=>(h.block k (x2 c a.size) fun e=>by have:=d k e;omega).trans (a.block k c)⟩
def Es.frame(h:Es w0 w gc g A rss st ds rest a ov vs fp)(i:Ei w w' gc A st):Eh w' g a ov vs fp/\Below (T (J w0)) w0 w':=by
 obtain⟨r,d,_⟩:=id h.cand.box;obtain⟨q,f⟩:=h.cand.ws.OS.OS;have m:∀k,gdS st k->∃l,NM w k l:=fun k c=>by
  obtain⟨s,hs,rfl⟩:=c;obtain⟨b,o⟩:=(h.cand.rs s hs).1.rd.OS.OS;exact⟨_,o.digits⟩
 have j:∀k,k=gc\/k=A.gd\/gdS st k->¬Wr g ov k:=fun k c=>by
  rcases c with e|e|e
  ·subst e;exact h.ans.iX d (by decide) (by decide) (by decide)
  ·subst e;exact h.ans.iX (t:=3) f.digits (by decide) (by decide) (by decide)
  ·obtain⟨l,p⟩:=m k e;exact h.ans.iX (t:=3) p (by decide) (by decide) (by decide)
 refine⟨h.ans.xf i.xf (fun e=>j g e (x1 Z)) (fun k e e2=>j k e2 (xW e)) fun k c e=>?_,i.xf.low h.bl fun k e=>?_⟩
 ·rcases e with e|e|e
  ·exact(h.fpd k c).1 e
  ·exact(h.fpd k c).2.1 e
  ·exact(h.fpd k c).2.2 e
 ·rcases e with e|e|e
  ·rw[e];exact h.low.1
  ·rw[e];exact h.low.2.2.1
  ·exact h.low.2.2.2.1 k e
def Es.next(h:Es w0 w gc g A rss st ds rest a ov vs fp){s:RS}{f:List Int}{c:List (List Int)}(q:Ei w w' gc A st)(p:Em w' gc A rss (I s) f c)(r:∀k,s.R.nb k->nbS st k\/T (J w)<=k)(i:gdS st s.R.gd\/T (J w)<=s.R.gd):Es w0 w' gc g A rss (I s) f c a ov vs fp:=by
 obtain⟨l,m⟩:=h.frame q;have j:∀k,gdS (I s) k->k=s.R.gd:=fun k b=>by
  obtain⟨u,e,e2⟩:=b;simp only[Option.some.injEq]at e;subst e;exact e2
 refine⟨p,l,fun k b e=>?_,fun k b=>⟨(h.fpd k b).1,(h.fpd k b).2.1,fun e=>?_⟩,⟨h.low.1,h.low.2.1,h.low.2.2.1,fun k e=>?_,h.low.2.2.2.2.1,h.low.2.2.2.2.2⟩,m⟩
 ·obtain⟨u,e1,b⟩:=b;simp only[Option.some.injEq]at e1;subst e1
  rcases r k b with d|d
  ·exact h.nb k d e
  ·rcases e with e|e
   ·have:=h.ans.o.lt;omega
   ·have:=h.ans.o.fU k e;omega
 ·rw[j k e]at b e
  rcases i with d|d
  ·exact(h.fpd _ b).2.2 d
  ·have:=h.ans.o.fpl _ b;omega
 ·rw[j k e]
  rcases i with d|d
  ·exact h.low.2.2.2.1 _ d
  ·have:=h.bl.size;omega
def Es.grow(h:Es w0 w gc g A rss st ds rest a ov vs fp){o:PA}{f:Value}{l:List Value}{c:List Nat}(p:Eh w' g o f l c)(i:Ej (Wr g ov) w w' ov f fp c):Es w0 w' gc g A rss st ds rest o f l c:=by
 have r:=h.bl.size;refine⟨h.cand.wr h.ans h.nb i.xf,p,fun k d e=>?_,fun k d=>?_,⟨h.low.1,h.low.2.1,h.low.2.2.1,h.low.2.2.2.1,fun k e=>?_,fun k d=>?_⟩,i.xf.low h.bl fun k e=>?_⟩
 ·rcases e with e|e
  ·exact h.nb k d (x1 e)
  ·rcases i.own with e1|⟨b,e1,q⟩
   ·exact h.nb k d (xW (e1.symm.trans e))
   ·rw[e1]at e;simp at e;have:=h.cand.rM k d;omega
 ·rcases i.fpn k d with j|j
  ·exact h.fpd k j
  ·obtain⟨s,m⟩:=h.cand.ws.OS.OS;have u:=h.cand.box.lt;have x:=m.digits.lt;exact⟨by omega,by omega,fun e=>by have:=h.cand.GS k e;omega⟩
 ·rcases i.own with e1|⟨b,e1,q⟩
  ·exact h.low.2.2.2.2.1 k (e1.symm.trans e)
  ·rw[e1]at e;simp at e;omega
 ·rcases i.fpn k d with j|j
  ·exact h.low.2.2.2.2.2 k j
  ·omega
 ·rcases e with e|e
  ·rw[e];exact h.low.2.1
  ·exact h.low.2.2.2.2.1 k e
end
namespace Q
def Qv(a:List Ev):(NH a).E=a:=by
 have b:∀(i:Nat) (l:List Nat) (f:Eu),(l.foldl (fun f k=>f.jK i (ev a i) k (ev a k)) f).E=f.E:=by
  intro i l
  induction l with
  |nil=>intro f;rfl
  |cons k l ih=>intro f;rw[x5,ih];rfl
 have c:∀(l:List Nat) (f:Eu),(l.foldl (rB a) f).E=f.E:=by
  intro l
  induction l with
  |nil=>intro f;rfl
  |cons k l ih=>intro f;rw[x5,ih];exact b _ _ _
 exact c _ _
end Q
def Qw(g:Nat)(b:Value)(w:World)(f:w.cell? ⟨g,0,O⟩=I b)(i:g<T (J w))(d:∃a n c,b=Y a n c):
  Calls prog 36 #[.pointer (I ⟨g,0,O⟩)] w fun e w'=>e=.returned b/\w'=w:=by
 obtain⟨a,n,c,rfl⟩:=d;go_enter func36,ntmps36;go_wp2;go_ret;exact⟨Z,Z⟩
def Qy{gd:Nat}(h:Ek w1 0 rv rss vs wss)(e:NM w1 gb (PG rss))(f:NM w1 gd (fJ rss.length))(d:gb≠gd)(b:W1.heap[T (J w1)]?=I (H (kH rv (MU gb rss.length rss.length) (MU gd rss.length rss.length) (M N)) 94 (0,0)))(c:Below (T (J w1)) w1 W1):
  Em W1 (T (J w1)) ⟨rv,vs,wss,gb,gd⟩ rss O (fJ rss.length) (OJ (PG rss)):=by
 have k:=e.lt;have l:=f.lt;have a:∀j (v:Value),(kH rv (MU gb rss.length rss.length) (MU gd rss.length rss.length) (M N))[j]?=I v->W1.cell? ⟨T (J w1),j,O⟩=I v:=fun j v i=>by simp only[x6,b];simpa using i
 have e2:(fJ rss.length).length=rss.length:=by simp[fJ]
 refine⟨⟨_,b,by simp[kH]⟩,⟨a 13 _ Z,h.X c,N,⟨?_,?_,a 16 _ Z,fun j=>by simp[World.frozen?,b],(Array.getElem?_eq_some_iff.1 b).1,e.X c,f.X c,?_,?_,d,?_⟩,x1 ⟨Z,?_,Z⟩⟩,a 21 _ Z,fun s hs=>by simp at hs⟩
 ·rw[show(List.map (fun r=>((r:List Run).length:Int)) rss).length=rss.length by simp];exact a 14 _ Z
 ·rw[e2];exact a 15 _ Z
 ·simp only;omega
 ·simp only;omega
 ·rw[e2];simp
 ·simp
structure HandO(B:Nat)(w:World)(ov:Value)(rs:List (List Int))(vs:List Value):Prop where
 y:NX w 0 ov rs vs
 hand:Hand w rs vs
 lo:∀k,ov.ownBlock=I k->B<=k
 lr:∀u∈vs,∀k,u.ownBlock=I k->B<=k
def HandO.mono{a:Nat}{c:Value}{d:List (List Int)}(h:HandO B w c d vs)(b:a<=B):HandO a w c d vs:=⟨h.y,h.hand,fun k e=>x4 b (h.lo k e),fun u f k e=>x4 b (h.lr u f k e)⟩
def Qz{W:World}(h:W.heap[g]?=I (H #[Y O 0 0,M N] t (0,0)))(d:t=119\/t=77):Eh W g ⟨[],N⟩ (Y O 0 0) [] []:=by
 have c:=(Array.getElem?_eq_some_iff.1 h).1;refine⟨⟨by simp[x6,h],c,by simp[World.frozen?,h],⟨World.ownsRow_nil _ _ _ _,Z,fun i a=>by simp at a⟩,⟨#[Y O 0 0,M N],?_⟩,fun u e=>by simp at e,fun k b=>by simp at b,fun k b=>by simp at b,⟨fun i a=>by simp at a,List.Pairwise.nil⟩⟩,by simp[x6,h],⟨by simp[QB],fun x f=>by simp at f⟩⟩
 rcases d with rfl|rfl
 ·exact x1 h
 ·exact xW h
def DS(w0:World)(gc g:Nat)(A:WA)(rss:List (List Run))(F:PA->Cand->PA)(fin:PA)(wr:World)(m:Nat):Prop :=
 ∃st ds rest a ov vs fp,Es w0 wr gc g A rss st ds rest a ov vs fp/\(fM (eP rss st rest)).foldl F a=fin/\(fM (eP rss st rest)).length=m
def Q8{gd:Nat}(h:Ek w1 0 rv rss vs wss)(l:NM w1 gb (PG rss))(m:NM w1 gd (fJ rss.length))(f:gb≠gd)(j:W1.heap[T (J w1)]?=I (H (kH rv (MU gb rss.length rss.length) (MU gd rss.length rss.length) (M N)) 94 (0,0)))(i:Below (T (J w1)) w1 W1)(o:W1.heap[g]?=I (H #[Y O 0 0,M N] t (0,0)))(p:t=119\/t=77)(q:T (J w)<=T (J w1))(c:T (J w)<=g)(d:T (J w)<=gd)(b:Below (T (J w)) w W1):
  Es w W1 (T (J w1)) g ⟨rv,vs,wss,gb,gd⟩ rss O (fJ rss.length) (OJ (PG rss)) ⟨[],N⟩ (Y O 0 0) [] []:=
 ⟨Qy h l m f j i,Qz o p,fun k a=>by obtain⟨s,hs,_⟩:=a;simp at hs,fun k a=>by simp at a,⟨q,c,d,fun k a=>by obtain⟨s,hs,_⟩:=a;simp at hs,fun k e=>by simp[x3]at e,fun k a=>by simp at a⟩,b⟩
def Q9(a:FA)(f:Eu)(k:Nat)(rd:List Nat)(w:World)(hf:Ed w a f)(hr:Eb w k a.n rd):
  Calls prog 59 #[.agg (OK a),.agg #[MU k a.n a.n]] w fun e w'=>mN w w' a.n (f.aP rd) e:=by
 obtain⟨x,c,m,_⟩:=hf.form;obtain⟨n,ev,g1,g2,g3,g4,g5,g6,g7,g8,g9⟩:=a;simp only at m hr;subst m;have HF:=MS hf;have HR:=MS hr;simp only[OK];go_enter func59,ntmps59;go_upto_region 1 with fail
 refine qO (fun W=>(∀w',Below (T (J W)) W w'->(w'.cell? ⟨T (J w),2,O⟩=I (MU g2 n n)/\w'.cell? ⟨T (J w),7,O⟩=I (MU g7 n n)/\w'.cell? ⟨T (J w)+1,0,O⟩=I (MU k n n))/\w'.heap[T (J w)+2]?=I (H #[Y O 0 0] 83 (0,0)))/\Below (T (J w)) w W/\T (J w)+2<T (J W)) ?_ ?_
 ·have h:=xH w (OK (FA.mk n (Y x n c) g1 g2 g3 g4 g5 g6 g7 g8 g9)) #[MU k n n] #[Y O 0 0] 85 83 83;exact⟨fun w' b=>⟨⟨(fL b (by simp;omega) (cA h.1)) 2,(fL b (by simp;omega) (cA h.1)) 7,(fL b (by simp) (cA h.2.1)) 0⟩,(b.block _ (by simp)).trans h.2.2.1⟩,h.2.2.2.2,by simp⟩
 rintro W ⟨C,b,l⟩;have C:=MS C;have B:=MS b;obtain⟨c1,c2,c3⟩:=(C.o W (xR _ _)).1;go_upto_region 2 with(first
  |(go_at_call_of 101 (MU k n n);refine(zH k g2 n _ _ _ (HR.o.X B.o) (HF.o.r2.X B.o)).mono ?_;rintro e w1 ⟨i,rfl,d,b⟩;have B1:=MS b;have Q1:=MS d))
 refine qO (fun V=>V.heap[T (J w1)]?=I (H #[MU i n n] 83 (0,0))/\Below (T (J w1)) w1 V) ⟨heap_alloc_new _ _,oI⟩ ?_;rintro V ⟨k1,hv⟩;have u:=MS (NE B1.o (xF _) hv);have Q1:=MS (Q1.o.X hv);have K1:=MS k1;obtain⟨d1,_,l1⟩:=cQ k1;obtain⟨c1,c2,c3⟩:=(C.o V u.o).1;go_upto_region 3 with(first
  |(go_at_call_of 80 (MU q2 n n);refine(LW q2 n _ _ Q2.o).mono ?_;rintro e F ⟨q,rfl,d,b⟩;have j:=MS (NE B2.o (xF _) b);have Q3:=MS d)
  |(go_at_call_of 102 (MU i n n);refine(oE i g7 n _ _ _ Q1.o (HF.o.r7.X (NE B.o (xF _) u.o))).mono ?_;rintro e w2 ⟨q2,rfl,d,b⟩;have B2:=MS b;have Q2:=MS d))
 refine qO (fun U=>(∀w',Below (T (J U)) U w'->(w'.cell? ⟨T (J w1),0,O⟩=I (MU i n n)/\w'.cell? ⟨T (J F),0,O⟩=I (MU q n n))/\Below (T (J W)) W w')/\Eb U i n (kU rd f.G)/\Eb U q n (lK (dZ (kU rd f.G) f.L))) ⟨fun w' b=>⟨⟨fL (NE (j.o.alloc j.o.size _) (xF _) b) l1 (cA K1.o) 0,(CC b).2.1⟩,NE u.o (xF _) (NE (j.o.alloc j.o.size _) (xF _) b)⟩,Q1.o.X (j.o.alloc j.o.size _),Q3.o.X oI⟩ ?_;rintro U ⟨E,D,S⟩;have E:=MS E;have D:=MS D;have S:=MS S;have lw:T (J w)+2<T (J w1):=x2 l B1.o.size;have aa:T (J w)+2<T (J F):=x2 (x2 l u.o.size) j.o.size;go_region_held3 (fun w'=>w'.cell? ⟨T (J w1),0,O⟩=I (MU i n n)/\w'.cell? ⟨T (J F),0,O⟩=I (MU q n n)) (first|exact(E.o _ (xR _ _).drew).1|exact(E.o _ K.o).1|exact(E.o _ r.o).1|exact⟨(cY (show T (J w1)≠_ by omega)).trans (E.o _ r.o).1.1,(cY (show T (J F)≠_ by omega)).trans (E.o _ r.o).1.2⟩) (first
  |(go_at_call_of 61 (MU i n n);refine(qK i q4 n _ _ _ (D.o.X K.o) Q4.o).mono ?_;rintro e w5 ⟨q5,rfl,d,b⟩;have r:=MS (NE K.o (xF _) b);have s:=MS (E.o _ r.o).2;have z:=(cQ (C.o _ s.o).2).2.1;have y:=(cQ (C.o _ s.o).2).1;have Q5:=MS d)
  |(go_at_call_of 102 (MU q n n);refine(oE q i n _ _ _ (S.o.X (xR _ _).drew) (D.o.X (xR _ _).drew)).mono ?_;rintro e w4 ⟨q4,rfl,d,b⟩;have K:MT (Below (T (J U)) U w4):=((xR (T (J U)) U).drew).trans (b.mono (by simp));have Q4:=MS d))
 all_goals
  (try go_wp2)
  have kc:=(C.o _ s.o).2;exact nL (p:=4) (T (J w)+2) _ (by kernel_rfl) Z (by exact bX kc 0 _) Z ⟨q5,Z,AO kc Q5.o (NE B.o (xF _) s.o) (by omega)⟩
def Ra(a:FA)(f:Eu)(q:Nat)(rd:List Nat)(w:World)(hf:Ed w a f)(hr:Eb w q a.n rd):
  Calls prog 43 #[.agg (OK a),.agg #[MU q a.n a.n]] w fun e w'=>mN w w' a.n (f.MY rd) e:=by
 obtain⟨x,c,ab,_⟩:=hf.form;obtain⟨n,ev,E,U,G,V,g5,g6,g7,g8,g9⟩:=a;simp only at ab hr;subst ab;have HF:=MS hf;have HR:=MS hr;simp only[OK];go_enter func43,ntmps43;go_upto_region 1 with fail
 refine qO (fun W=>(∀w',Below (T (J W)) W w'->((∀i,w'.cell? ⟨T (J w),i,O⟩=#[Y x n c,MU E n n,MU U n n,MU G n n,MU V n n,MU g5 n n,MU g6 n n,MU g7 n n,MU g8 n n,MU g9 n n][i]?)/\w'.cell? ⟨T (J w)+1,0,O⟩=I (MU q n n))/\w'.heap[T (J w)+2]?=I (H #[Y O 0 0] 83 (0,0)))/\Below (T (J w)) w W/\T (J w)+2<T (J W)) ?_ ?_
 ·have h:=xH w (OK (FA.mk n (Y x n c) E U G V g5 g6 g7 g8 g9)) #[MU q n n] #[Y O 0 0] 85 83 83;exact⟨fun w' b=>⟨⟨fL b (by simp;omega) (cA h.1),(fL b (by simp) (cA h.2.1)) 0⟩,(b.block _ (by simp)).trans h.2.2.1⟩,h.2.2.2.2,by simp⟩
 rintro W ⟨C,b,l⟩;have C:=MS C;have B:=MS b;go_cut[5]from 6 to 10 fun p wx=>∃F K,p=.pointer (I ⟨F,0,O⟩)/\wx.heap[F]?=I (H #[MU K n n] 83 (0,0))/\Eb wx K n (f.bS (f.aP rd))/\Below (T (J W)) W wx/\T (J W)<=F
 case first =>
  go_region_held3 (fun w'=>(∀i,w'.cell? ⟨T (J w),i,O⟩=#[Y x n c,MU E n n,MU U n n,MU G n n,MU V n n,MU g5 n n,MU g6 n n,MU g7 n n,MU g8 n n,MU g9 n n][i]?)/\w'.cell? ⟨T (J w)+1,0,O⟩=I (MU q n n)) (first|exact(C.o _ (xR _ _)).1|exact(C.o _ (xR _ _).drew).1|exact(C.o _ oI).1|exact(C.o _ ((xR _ _).drew.alloc (by simp) _)).1|exact(C.o _ d.o).1|exact(C.o _ (d.o.alloc d.o.size _)).1|exact(C.o _ k.o).1|exact(C.o _ (k.o.alloc k.o.size _)).1|exact(C.o _ (k.o.setCell (by first|exact xF _|exact d.o.size) _)).1) (first
   |(go_at_call 60;refine(Nf _ f q1 _ _ (HF.o.X (NE B.o (xF _) (by first|exact d.o|exact d.o.alloc d.o.size _))) (by first|exact Q1.o|exact Q1.o.X oI)).mono ?_;rintro e w2 ⟨q2,rfl,m,b⟩;have k:MT (Below (T (J W)) W w2):=(by first|exact NE d.o (xF _) b|exact NE (d.o.alloc d.o.size _) (xF _) b);(try(have u:xX w2 (T (J w1)):=by first|exact sQ b|exact sQ (w:=w1.drew) b));(try(have D:xX w2 (T (J W)):=YR b s));(try have bc:=u.1);(try have bf:=u.2.1);(try have bc:=D.1);(try have bf:=D.2.1);have S:=MS m)
   |(go_at_call 59;refine(Q9 _ f q _ _ (HF.o.X (by first|exact B.o.drew|exact B.o.drew.alloc (by have:=B.o.size;simpa using this) _)) (HR.o.X (by first|exact B.o.drew|exact B.o.drew.alloc (by have:=B.o.size;simpa using this) _))).mono ?_;rintro e w1 ⟨q1,rfl,m,b⟩;have d:MT (Below (T (J W)) W w1):=(by first|exact((xR (T (J W)) W).drew).trans (b.mono (by simp))|exact(((xR (T (J W)) W).drew).alloc (by simp) _).trans (b.mono (by simp)));(try(have s:xX w1 (T (J W)):=by first|exact sQ b|exact sQ (w:=W.drew) b));(try have bc:=s.1);(try have bf:=s.2.1);have Q1:=MS m))
  all_goals
   (try go_wp2)
   go_meet
   case rel=>first|exact YS k.o S.o|exact DM k.o (xF (T (J W))) S.o D.2.2|exact DM k.o d.o.size S.o u.2.2
 case rest =>
 obtain⟨F,K,rfl,kx,ac,aa,ad⟩:=hcut;have r:MT (∀w',Below (T (J wc)) wc w'->((∀i,w'.cell? ⟨T (J w),i,O⟩=#[Y x n c,MU E n n,MU U n n,MU G n n,MU V n n,MU g5 n n,MU g6 n n,MU g7 n n,MU g8 n n,MU g9 n n][i]?)/\w'.cell? ⟨T (J w)+1,0,O⟩=I (MU q n n))/\w'.cell? ⟨F,0,O⟩=I (MU K n n)):=fun w' h=>⟨(C.o w' (NE aa (xF _) h)).1,fL h (cQ kx).2.2 (cA kx) 0⟩
 have Qx:=MS ac;have BX:=MS aa;have lx:F≠T (J w)+2:=by omega
 go_upto_region 2 with fail
 go_region_held3 (fun w'=>((∀i,w'.cell? ⟨T (J w),i,O⟩=#[Y x n c,MU E n n,MU U n n,MU G n n,MU V n n,MU g5 n n,MU g6 n n,MU g7 n n,MU g8 n n,MU g9 n n][i]?)/\w'.cell? ⟨T (J w)+1,0,O⟩=I (MU q n n))/\w'.cell? ⟨F,0,O⟩=I (MU K n n)) (first|exact r.o _ (xR _ _).drew|exact r.o _ d.o|exact r.o _ k.o|exact r.o _ L.o|exact⟨⟨fun j=>(cY (show T (J w)≠T (J w)+2 by omega)).trans ((r.o _ L.o).1.1 j),(cY (show T (J w)+1≠T (J w)+2 by omega)).trans (r.o _ L.o).1.2⟩,(cY lx).trans (r.o _ L.o).2⟩) (first
  |(go_at_call_of 80 (MU q2 n n);refine(LW q2 n _ _ S.o).mono ?_;rintro e w3 ⟨q3,rfl,m,b⟩;have L:=MS (NE k.o (xF _) b);have BC:=MS (NE BX.o (xF _) L.o);have z:=(cQ (C.o _ BC.o).2).2.1;have y:=(cQ (C.o _ BC.o).2).1;have Q3:=MS m)
  |(go_at_call_of 61 (MU q1 n n);refine(qK q1 G n _ _ _ Q1.o (HF.o.r3.X (NE B.o (xF _) (NE BX.o (xF _) d.o)))).mono ?_;rintro e w2 ⟨q2,rfl,m,b⟩;have k:=MS (NE d.o (xF _) b);have S:=MS m)
  |(go_at_call_of 61 (MU E n n);refine(qK E K n _ _ _ (HF.o.r1.X (NE B.o (xF _) BX.o.drew)) (Qx.o.X (xR _ _).drew)).mono ?_;rintro e w1 ⟨q1,rfl,m,b⟩;have d:MT (Below (T (J wc)) wc w1):=((xR (T (J wc)) wc).drew).trans (b.mono (by simp));have Q1:=MS m))
 all_goals
  (try go_wp2)
  have kc:=(C.o _ BC.o).2;exact nL (p:=4) (T (J w)+2) _ (by kernel_rfl) Z (by exact bX kc 0 _) Z ⟨q3,Z,AO kc Q3.o (NE B.o (xF _) BC.o) (by omega)⟩
namespace Q
def Rb(a:PA)(c:Cand):a.y.length<=(mM a c).y.length:=BU _ (Ag _ _ _ _) _ _
def Rc(a:List NB):(fM (eP (NJ a) O (OJ (PG (NJ a))))).foldl mM ⟨[],N⟩=QJ a:=by rw[<- Qe];rfl
end Q
def Re(B bt z:Nat)(a:List NB)(w:World)(h:fN w B (MU bt a.length z) a)(hn:a.length<20)(bi:∀t∈a,(∀s∈t.S,QK s)/\t.S.length<900/\QX t.S<100000)(bl:∀r∈NJ a,r.length<100000000)(bm:∀rs∈NJ a,∀r∈rs,r.g.length=4/\∀e∈r.E,e.h<OW)(hW:∀d,PE (PG (NJ a)) d->WdOk (NV (NJ a) d))(av:(QJ a).y.length<100000000):
  Calls prog 26 #[.agg #[MU bt a.length z]] w fun e w'=>∃ov vs,e=.returned (.tuple #[ov,M (QJ a).clash])/\HandO (T (J w)) w' ov (QJ a).y vs/\Below (T (J w)) w w':=by
 obtain⟨k0,k1,bD,ar⟩:=mZ w #[MU bt a.length z] #[Y O 0 0,M N] 40 119;have HT:=MS (h.keep fun k hk=>ar.block k hk);have aK:=MS bi;have aL:=MS bl;have aM:=MS bm;have HW:=MS hW;have ak:=MS av;have aF:=MS ar;have aI:=MS (Rc a);generalize QJ a=fin at*;go_enter func26,ntmps26;go_upto_region 2 with fail
 generalize hE:(w.alloc (H #[MU bt a.length z] 40)).alloc (H #[Y O 0 0,M N] 119)=W0 at*;have bu:=jP k0 0 _ Z;have l1:T (J w)+1<T (J W0):=by omega
 have K1:=MS k1;go_upto_region 3 with(first
  |(go_at_call 32;refine(Qt B bt z a _ HT.o hn aK.o).mono ?_;rintro e w1 ⟨rv,vs,wss,gb,gd,rfl,⟨xa,xn,xc,az⟩,ax,be,bf,bA,bB,bh,aZ⟩;obtain⟨ya,yc,F⟩:=RL ax.own;rw[az]at F;simp only[Value.slice.injEq]at F;obtain⟨-,bo, -⟩:=F;subst bo;subst az;have aQ:=MS ax;have aN:=MS be;have aO:=MS bf;have B1:=MS aZ;have KB:MT ((w1.alloc (H #[Y O 0 0,Y O 0 0,Y O 0 0,Y O 0 0,Y O 0 0,Y O 0 0,Y O 0 0,Y O 0 0,Y O 0 0,Y O 0 0,Y O 0 0,Y O 0 0,Y O 0 0,Y O 0 0,Y O 0 0,Y O 0 0,M N,Y O 0 0,Y O 0 0,Y O 0 0,M N,M N] 94)).heap[T (J w1)]?=I (H #[Y O 0 0,Y O 0 0,Y O 0 0,Y O 0 0,Y O 0 0,Y O 0 0,Y O 0 0,Y O 0 0,Y O 0 0,Y O 0 0,Y O 0 0,Y O 0 0,Y O 0 0,Y O 0 0,Y O 0 0,Y O 0 0,M N,Y O 0 0,Y O 0 0,Y O 0 0,M N,M N] 94 (0,0))):=heap_alloc_new w1 _;have BA:MT (Below (T (J w1)) w1 (w1.alloc (H #[Y O 0 0,Y O 0 0,Y O 0 0,Y O 0 0,Y O 0 0,Y O 0 0,Y O 0 0,Y O 0 0,Y O 0 0,Y O 0 0,Y O 0 0,Y O 0 0,Y O 0 0,Y O 0 0,Y O 0 0,Y O 0 0,M N,Y O 0 0,Y O 0 0,Y O 0 0,M N,M N] 94))):=(xR _ _).alloc (xF _) _)
  |(refine wpList_store_mid Z 94 (.tmp 5) (.tmp 8) Z (T (J w1)) 0 (kH (Y xa (NJ a).length xc) (MU gb (NJ a).length (NJ a).length) (MU gd (NJ a).length (NJ a).length) (M N)) Z Z (wD KB.o (by simp[kH])) (by kernel_rfl) (by simp[kH,x7]) ?_;have SW:=MS (DA (kH (Y xa (NJ a).length xc) (MU gb (NJ a).length (NJ a).length) (MU gd (NJ a).length (NJ a).length) (M N)).toList KB.o (by simp[kH]));generalize(w1.alloc (H #[Y O 0 0,Y O 0 0,Y O 0 0,Y O 0 0,Y O 0 0,Y O 0 0,Y O 0 0,Y O 0 0,Y O 0 0,Y O 0 0,Y O 0 0,Y O 0 0,Y O 0 0,Y O 0 0,Y O 0 0,Y O 0 0,M N,Y O 0 0,Y O 0 0,Y O 0 0,M N,M N] 94)).setCells (T (J w1)) 0 (kH (Y xa (NJ a).length xc) (MU gb (NJ a).length (NJ a).length) (MU gd (NJ a).length (NJ a).length) (M N)).toList=W1 at*))
 obtain⟨s0,s1,s2⟩:=SW.o;have BL:=MS (s2 w1 (T (J w1)) (xF _) BA.o);have S0:=MS s0;have bC:=B1.o.size;have KG:=MS ((BL.o.block _ (by omega)).trans ((B1.o.block _ l1).trans K1.o));have aG:MT (Below (T (J w)) w W1):=NE (NE aF.o (xF _) B1.o) (xF _) BL.o;have aP:MT (DS w (T (J w1)) (T (J w)+1) ⟨Y xa (NJ a).length xc,vs,wss,gb,gd⟩ (NJ a) mM fin W1 (fM (eP (NJ a) O (OJ (PG (NJ a))))).length):=⟨O,_,_,_,_,_,_,Q8 (t:=119) aQ.o aN.o aO.o bh (by simpa using S0.o) BL.o KG.o (x1 Z) (by omega) (by omega) (by omega) aG.o,aI.o,Z⟩;generalize(⟨Y xa (NJ a).length xc,vs,wss,gb,gd⟩:WA)=A at*;generalize(T (J w1))=gc at*;obtain⟨μ,hμ⟩:=EL (DS w gc (T (J w)+1) A (NJ a) mM fin);have al:=MS hμ;simp only[Act.put];go_loopw[] (fun wr=>∃m,MT (DS w gc (T (J w)+1) A (NJ a) mM fin wr m)) fun wr=>μ wr
 case atStart=>exact⟨_,aP⟩
 case round =>
  obtain⟨hI,bs⟩:=al.o wr (by obtain⟨n,h⟩:=hrel;exact⟨n,h.o⟩);obtain⟨st,ds,rest,an,ov,aD,fp,hB,aY,aw⟩:=hI;have BO:=MS hB;have FD:=MS aY;have HL:=MS aw;go_upto_region 4 with(first|(go_at_call 33;refine(Qa gc A _ st ds rest _ BO.o.cand (by rw[LO];exact hn) aL.o aM.o HW.o).mono ?_;rintro e L ⟨b,rfl,hF,h1⟩;have aj:=MS hF;rcases h1 with⟨rfl,V⟩|⟨rfl,s,bv,f,gr,j,V,bg,bd⟩))
  ·obtain⟨C,aq⟩:=BO.o.frame aj.o;have ad:=MS C;have ao:=MS BO.o.low.2.2.2.2;have ah:=MS aq;have bc:an=fin:=by
    have G:=FD.o;rw[V]at G;exact G
   subst bc;have c0:=C.o.cell;have c1:=C.clash;have bp:=C.o.lt;obtain⟨oa,oc,bj,_⟩:=C.o.y.form;subst bj;go_upto_region 6 with fail
   go_region_held3 (fun w'=>w'.cell? ⟨T (J w)+1,1,O⟩=I (M an.clash)/\w'.cell? ⟨T (J w)+1,0,O⟩=I (Y oa an.y.length oc)) (first|exact⟨c1,c0⟩) (first
    |(go_at_call 36;refine(Qw (T (J w)+1) (Y oa an.y.length oc) _ (by exact c0) (by exact bp) ⟨_,_,_,Z⟩).mono ?_;rintro e W ⟨rfl,rfl⟩))
   all_goals
    (try go_wp2)
    go_ret2;exact⟨_,aD,Z,⟨ad.o.o.y.X (xR _ _).drew,(ad.o.o.X (xR _ _).drew).hand,ao.o.1,fun u hu k e=>ao.o.2 k (ad.o.o.fps u hu k e)⟩,ah.o.drew⟩
  ·have B2:=MS (BO.o.next aj.o j.on bg bd);obtain⟨l,bn⟩:=j.on.rs s Z;have am:=MS bn;have q:=j.on.box.lt;have c:=l.fc;have aA:=j.c12;have aB:=l.c0;have aC:=l.c1;have x:=MS j.rel;obtain⟨fx,U,aa,_⟩:=l.fin.form;obtain⟨ea,ec,au,_⟩:=l.wdi.K.form;obtain⟨ra,rc,ay,_⟩:=l.wdi.g.form;have ac:=MS l.fin;have ap:=MS l.wdi;have ag:MT ((fM (eP (NJ a) (I s) f)).foldl mM (mM an (RG (s.wd,s.ds)))=fin):=by
    have G:=FD.o;rw[V,x5]at G;exact G
   have aJ:MT ((fM (eP (NJ a) (I s) f)).length+1=μ wr):=by
    have G:=HL.o;rw[V,List.length_cons]at G;exact G
   have af:(mM an (RG (s.wd,s.ds))).y.length<100000000:=by
    have G:=BU _ Rb (fM (eP (NJ a) (I s) f)) (mM an (RG (s.wd,s.ds)));have h4:=ak.o;rw[ag.o]at G;omega
   have ae:=MS af;have ai:=MS (Qv s.wd.E);obtain⟨⟨ev,rg,⟨n,bw,g1,g2,g3,g4,g5,g6,g7,g8,g9⟩,cv,aV,bq,br⟩,p,dr,rr⟩:=s;simp only at aa c aA aB aC au ay x ac ap am ai;subst aa;subst au;subst ay;have k0:L.cell? ⟨gc,2,O⟩=I (Y fx n U):=c 0 _ Z;have k1:L.cell? ⟨gc,3,O⟩=I (MU g1 n n):=c 1 _ Z;have k2:L.cell? ⟨gc,4,O⟩=I (MU g2 n n):=c 2 _ Z;have k3:L.cell? ⟨gc,5,O⟩=I (MU g3 n n):=c 3 _ Z;have k4:L.cell? ⟨gc,6,O⟩=I (MU g4 n n):=c 4 _ Z;have k5:L.cell? ⟨gc,7,O⟩=I (MU g5 n n):=c 5 _ Z;have k6:L.cell? ⟨gc,8,O⟩=I (MU g6 n n):=c 6 _ Z;have k7:L.cell? ⟨gc,9,O⟩=I (MU g7 n n):=c 7 _ Z;have k8:L.cell? ⟨gc,10,O⟩=I (MU g8 n n):=c 8 _ Z;have k9:L.cell? ⟨gc,11,O⟩=I (MU g9 n n):=c 9 _ Z;go_upto_region 5 with(first
    |(go_at_call 43;refine(Ra (FA.mk n (Y fx n U) g1 g2 g3 g4 g5 g6 g7 g8 g9) (NH p.E) gr (RG (p,dr)).D _ ac.o x.o).mono ?_;rintro e W ⟨q3,rfl,bk,ba⟩;have B3:=MS ba;have aT:=MS bk))
   have KA:MT ((W.alloc (H #[MU q3 n n] 83)).heap[T (J W)]?=I (H #[MU q3 n n] 83 (0,0))):=heap_alloc_new W _;have BA:MT (Below (T (J W)) W (W.alloc (H #[MU q3 n n] 83))):=(xR _ _).alloc (xF _) _;generalize W.alloc (H #[MU q3 n n] 83)=Va at*;have i:=MS (NE B3.o (xF _) BA.o);have ab:=MS (B2.o.X i.o);have aH:=MS (ac.o.X i.o);have aU:=MS (ap.o.X i.o);have aS:=MS (x.o.X i.o);have aR:=MS (aT.o.X BA.o);obtain⟨bE,bF,bG⟩:=cQ KA.o;have m0:=MZ i.o q k0;have m1:=MZ i.o q k1;have m2:=MZ i.o q k2;have m3:=MZ i.o q k3;have m4:=MZ i.o q k4;have m5:=MZ i.o q k5;have m6:=MZ i.o q k6;have m7:=MZ i.o q k7;have m8:=MZ i.o q k8;have m9:=MZ i.o q k9;have bH:=MZ i.o q aA;have bI:=MZ i.o q aB;have bJ:=MZ i.o q aC;generalize bz:T (J W)=bb at*;go_wp2_with(first
    |(go_at_call 44;refine(Qr (T (J w)+1) an ov aD fp _ _ p (FA.mk n (Y fx n U) g1 g2 g3 g4 g5 g6 g7 g8 g9) (NH p.E) gr (RG (p,dr)).D q3 ((NH p.E).MY (RG (p,dr)).D) _ ab.o.ans aU.o am.o aH.o ai.o aS.o aR.o (fun k e=>ab.o.nb k ⟨_,Z,x1 e⟩) ae.o).mono ?_;rintro e w4 ⟨rfl,bK,bL,bx,aW,aX⟩;have aE:=MS (ab.o.grow aW aX)))
   have hR:DS w gc (T (J w)+1) A (NJ a) mM fin w4 (fM (eP (NJ a) (I ⟨⟨Y ea p.E.length ec,Y ra p.g.length rc,FA.mk n (Y fx n U) g1 g2 g3 g4 g5 g6 g7 g8 g9,cv,aV,bq,br⟩,p,dr,rr⟩) f)).length:=⟨_,_,_,_,_,_,_,aE.o,ag.o,Z⟩;go_roundw
   case rel=>exact⟨_,hR⟩
   case measure =>
    have h1:=(al.o _ ⟨_,hR⟩).2 _ hR;have h2:=aJ.o;omega
def Aj{b:Func}{p q u v:Tmp}(h:b.results=#[.tmp p,.tmp q,.tmp u,.tmp v])(a:Array Value)(c:Program)(w:World):
  (results b a).run c w=.ok (.tuple #[a.getD p undef,a.getD q undef,a.getD u undef,a.getD v undef]) w:=by
 simp only[results,h];simp[Sem.run_bind,Result.andThen]
namespace Q
structure KerOk(ts:List NB):Prop where
 few:ts.length<20
 thr:∀t∈ts,(∀s∈t.S,QK s)/\t.S.length<900/\QX t.S<100000
 rb:∀r∈NJ ts,r.length<100000000
 rn:∀rs∈NJ ts,∀r∈rs,r.g.length=4/\∀e∈r.E,e.h<OW
 wd:∀d,PE (PG (NJ ts)) d->WdOk (NV (NJ ts) d)
end Q
def Rf(s:ByteArray)(w:World)(hs:s.size<=8192)(F:(PK s.toList).2.1=0)(m:(PK s.toList).2.2=0)(q:KerOk (PK s.toList).1)(c:(QJ (PK s.toList).1).y.length<100000000):
  Calls prog 9 #[.string s] w fun e w'=>∃r vs,e=.returned (.tuple #[r,M (QJ (PK s.toList).1).clash,.int .i64 0,.int .i64 0])/\HandO (T (J w)) w' r (QJ (PK s.toList).1).y vs/\Below (T (J w)) w w':=by
 have a:=MS (VL s w hs);unfold MT at a;rw[F,m]at a;have j:=MS a;clear a F m;generalize(PK s.toList).1=u at*;have i:=MS q;have f:=MS c;clear q c hs;generalize G:(QJ u).clash=S;have L:=MS G;clear G;go_enter func9,ntmps9;go_wp2_with(first
  |(go_at_call 25;refine j.o.mono ?_;rintro e w1 ⟨U,rfl,_,b,d⟩;obtain⟨C,D,rfl,b,_⟩:=b Z;have x:=MS (b.keep (w':=w1.alloc (H #[Y (I ⟨C,0,O⟩) u.length D] 40)) fun k q=>Below.heap_alloc _ _ _ q);have E:=MS (d.alloc d.size (H #[Y (I ⟨C,0,O⟩) u.length D] 40));clear b d)
  |(go_at_call 26;refine(Re _ C D u _ x.o i.o.few i.o.thr i.o.rb i.o.rn i.o.wd f.o).mono ?_;rw[L.o];rintro e V ⟨r,vs,rfl,p,l⟩;have z:=MS p;have K:=MS (NE E.o (xF _) l);clear p l))
 refine bodyPost_ret (Aj Z _ _ _) Z ⟨r,vs,Z,z.o.mono E.o.size,K.o⟩
