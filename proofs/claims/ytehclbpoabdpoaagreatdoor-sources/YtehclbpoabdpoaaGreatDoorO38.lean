import Derived.Test.YtehclbpoabdpoaaGreatDoorO37
import Derived.Test.YtehclbpoabdpoaaGreatDoorO10
set_option linter.all false
set_option maxHeartbeats 0
namespace Go.Proofs.YtehclbpoabdpoaaGreatDoor
open Go Go.RowKit Go.Proofs.Tryz P Q R
open scoped Classical
set_option maxRecDepth 1000000
variable {w w':World}{B d1 d2 d3 dn dp ds f gh gl gr i iq k n o z:Nat}{bv dv hv lv v wv:Value}{hvs ons xs:List Value}{D:Nat->Prop}{l:List Int}{o1 o2 o3 oi:Oper}{ops:Array Oper}{a:Act}{A:Array Edge}{S:World->Prop}{xa:Int}{N:Act->World->Prop}
open List renaming length->V
open Go.World renaming cell?->q
open Option renaming some->Y,none->C
open Bool renaming false->O,true->I
open Go.IntKind renaming i64->G
open Go.Value renaming int->U,slice->M,bool->F,string->T
open Or renaming inl->xF
open Bool renaming and_eq_true->xR
open Nat renaming lt_of_lt_of_le->xW,le_trans->x3,ne_of_lt->x4,reduceAdd->xb,lt_trichotomy->xe,lt_or_ge->xg
open _root_.Array renaming getElem?_push->x2,getElem?_eq_none->x5,replicate->x6,getElem?_setIfInBounds->xk,size_push->xu
open List renaming range->x7,replicate->x8,length_append->xd,map_cons->xh,map_nil->xi,getD_eq_getElem?_getD->xj,length_cons->xn,setIfInBounds_toArray->xo,set_cons_zero->xp,set_cons_succ->xq,getElem?_append_left->xr,getElem?_append_right->xt,dropLast_cons_cons->xw,dropLast_singleton->xx,length_nil->xy,getElem?_set_ne->xz
open Go.Act renaming put->x9
open Go.RowKit.Below renaming refl->xc
open Option renaming map_some->xl,getD_some->xm
namespace J
structure PS where
 e:List E
 g:List Int
 hang:List (List Int)
 way:List Int
 D:List Int
 short:Bool
 round:Int
def PS.val(s:PS)(a:Int):Int:=if a<0 then s.g.getD (-1-a).toNat 0 else a
def PS.aH(s:PS)(a:Int):List Int:=if a<0 then s.hang.getD (-1-a).toNat []else[]
end J
def RP(w:World)(D:Nat->Prop)(v:Value)(l:List Int):Prop :=
 (l=[]/\∃a c,v=M a 0 c)\/∃b o c,v=M (Y ⟨b,o,C⟩) (V l) c/\V l<=c/\(∀j (h:j<V l),q w ⟨b,o+j,C⟩=Y (U G l[j]))/\b<w.heap.size/\¬D b
structure PM(w:World)(B z:Nat)(s:J.PS)(ev dv wv:Value)(gr gh:Nat)(ons hvs:List Value)(D:Nat->Prop):Prop where
 blk:Blk w z [ev,MU gr 4 4,MU gh 4 4,wv,dv,F s.short,U G s.round] 113
 eo:w.ownsRow B 116 10 ev (V s.e) (ON s.e ons)
 ol:V ons=V s.e
 on:∀i,i<V s.e->OP w D (ons.getD i (F O)) (J.ev s.e i).on
 rb:Blk w gr (NT s.g) 3
 rl:V s.g=4
 hb:Blk w gh hvs 37
 hl:V hvs=4
 hr:∀i,i<4->OP w D (hvs.getD i (F O)) (s.hang.getD i [])
 wr:OP w D wv s.way
 rd:RP w (fun k=>B<=k) dv s.D
 bz:B<=z
 bg:B<=gr
 bh:B<=gh
 dz:D z
 dr:D gr
 dh:D gh
 de:∀b,ev.ownBlock=Y b->D b
 low:∀x,D x->x<w.heap.size
 bl:∀x,x<B->D x
 e0:V s.e=0->ev=M C 0 0
def PM.tP{s:J.PS}{ev:Value}(h:PM w B z s ev dv wv gr gh ons hvs D)(b:i<4):q w ⟨gr,i,C⟩=Y (U G (s.g.getD i 0)):=h.rb.cell (qQ (by rw[h.rl];exact b))
def PM.pA{s:J.PS}{ev:Value}(h:PM w B z s ev dv wv gr gh ons hvs D)(b:i<4):q w ⟨gh,i,C⟩=Y (hvs.getD i (F O)):=h.hb.cell (by have:=h.hl;simp[show i<V hvs by omega])
def Sk(w w':World)(D:Nat->Prop)(x:Int)(l:List Int)(e:Ending):Prop:=∃v,e=.returned (.tuple #[U G x,v])/\OP w D v l/\Below w.heap.size w w'
def Az(w:World)(B z:Nat)(s:J.PS)(ev dv wv:Value)(gr gh:Nat)(ons hvs:List Value)(D:Nat->Prop)(h:PM w B z s ev dv wv gr gh ons hvs D)(a:Int)(p:-4<=a)(r:a<100):
  Calls prog 117 #[.pointer (Y ⟨z,0,C⟩),U G a] w fun e w'=>Sk w w' D (s.val a) (s.aH a) e:=by
 by_cases h0:a<0
 ·have b:(-1-a).toNat<4:=by omega
  have x0:0<=-1-a:=by omega
  have W:-1-a<4:=by omega
  have j:=h.blk.cell (i:=1) (v:=MU gr 4 4) Z;have m:=h.blk.cell (i:=2) (v:=MU gh 4 4) Z;have H:=h.blk.lt;have K:=h.tP b;have L:=h.pA b;have E:=h.rb.lt;have y:=h.hb.lt;have HR:=MS (h.hr _ b);have d:MT (s.val a=s.g.getD (-1-a).toNat 0):=by unfold MT J.PS.val;rw[if_pos h0]
  have c:MT (s.aH a=s.hang.getD (-1-a).toNat []):=by unfold MT J.PS.aH;rw[if_pos h0]
  generalize s.g.getD (-1-a).toNat 0=x at*;generalize hvs.getD (-1-a).toNat (F O)=u at*;generalize s.hang.getD (-1-a).toNat []=l at*;clear h b;go_enter func117,ntmps117;go_wp2;go_region;go_wp2;refine bodyPost_ret (results_tmp2 (t:=4) (u:=5) Z _ _ _) Z ?_;exact⟨u,by rw[d.o];rfl,by rw[c.o];exact HR.o,by first|exact(xc _ _).drew|exact PZ _ _ _⟩
 ·have d:MT (s.val a=a):=by unfold MT J.PS.val;rw[if_neg h0]
  have c:MT (s.aH a=[]):=by unfold MT J.PS.aH;rw[if_neg h0]
  clear h;go_enter func117,ntmps117;go_wp2;refine bodyPost_ret (results_tmp2 (t:=4) (u:=5) Z _ _ _) Z ?_;exact⟨M C 0 0,by rw[d.o];rfl,by rw[c.o];exact xF ⟨Z,Z⟩,xc _ _⟩
namespace J
def oLoad:List UInt8:=[108,111,97,100]
def oAdd:List UInt8:=[97,100,100]
def oSwap:List UInt8:=[115,119,97,112]
def oStore:List UInt8:=[115,116,111,114,101]
def oFence:List UInt8:=[102,101,110,99,101]
def oBar:List UInt8:=[98,97,114,114,105,101,114]
def oSet:List UInt8:=[115,101,116]
def oIf:List UInt8:=[105,102]
def rE(x:Lh)(v:Int)(half:Bool)(on:List Int):E:=⟨0,0,⟨#[114]⟩,x.z,v,x.ord,x.scope,half,0,on⟩
def wE(x:Lh)(v:Int)(half:Bool)(on:List Int):E:=⟨0,0,⟨#[119]⟩,x.z,v,x.ord,x.scope,half,0,on⟩
def fE(x:Lh):E:=⟨0,0,⟨#[102]⟩,0,0,x.ord,x.scope,O,0,[]⟩
def aE(r:Int):E:=⟨0,0,⟨#[97]⟩,0,0,⟨#[]⟩,⟨#[]⟩,O,r,[]⟩
def lE(r:Int):E:=⟨0,0,⟨#[108]⟩,0,0,⟨#[]⟩,⟨#[]⟩,O,r,[]⟩
def PS.put(s:PS)(l:List E):PS:={s with e:=s.e++l}
def PS.take(s:PS):PS:={s with D:=s.D.tail,short:=s.short||s.D.isEmpty}
def PS.aJ(s:PS)(r:Int)(v:Int)(h:List Int):PS:={s with g:=s.g.set r.toNat v,hang:=s.hang.set r.toNat h}
def isRd(x:Lh):Bool:=x.op.toList==oLoad||(x.op.toList==oAdd||x.op.toList==oSwap)
def PS.load(s:PS)(x:Lh):PS:=((s.take).put [rE x (s.D.headD 0) O s.way]).aJ x.MW (s.D.headD 0) [(V s.e:Int)]
def PS.swap(s:PS)(x:Lh):PS:=((s.take).put [rE x (s.D.headD 0) I s.way,wE x (s.val x.a) I (s.aH x.a++s.way)]).aJ x.MW (s.D.headD 0) [(V s.e:Int)]
def PS.add(s:PS)(x:Lh):PS:=((s.take).put [rE x (s.D.headD 0) I s.way,wE x ((s.val x.a+s.D.headD 0)%4) I (s.aH x.a++s.way++[(V s.e:Int)])]).aJ x.MW (s.D.headD 0) [(V s.e:Int)]
def PS.set(s:PS)(x:Lh):PS :=
 if x.sign.toList==[43]then s.aJ x.MW ((s.val x.a+s.val x.b)%4) (s.aH x.a++s.aH x.b)
 else if x.sign.toList==[45]then s.aJ x.MW ((s.val x.a-s.val x.b+4)%4) (s.aH x.a++s.aH x.b)
 else if x.sign.toList==[61,61]then s.aJ x.MW (if s.val x.a==s.val x.b then 1 else 0) (s.aH x.a++s.aH x.b)
 else if x.sign.toList.isEmpty then s.aJ x.MW (s.val x.a) (s.aH x.a)else s.aJ x.MW (s.val x.a) (s.aH x.a++s.aH x.b)
def PS.step(s:PS)(x:Lh):PS :=
 if x.op.toList==oLoad then s.load x else if x.op.toList==oAdd then s.add x else if x.op.toList==oSwap then s.swap x
 else if x.op.toList==oStore then s.put [wE x (s.val x.a) O (s.aH x.a++s.way)]
 else if x.op.toList==oFence then s.put [fE x]
 else if x.op.toList==oBar then{s.put [aE s.round,lE s.round]with round:=s.round+1}
 else if x.op.toList==oSet then s.set x else s
def PS.bY(s:PS)(x:Lh):PS:={s with way:=s.way++s.aH x.a}
end J
def OP.nil(w:World)(D:Nat->Prop):OP w D (M C 0 0) []:=xF ⟨Z,Z⟩
def RP.x{P:Nat->Prop}(h:RP w D v l)(m:JX P w w')(t:∀x,x<w.heap.size->P x->D x):RP w' D v l:=h.imp id fun⟨b,o,c,e,p,r,d,g⟩=>⟨b,o,c,e,p,fun j s=>(gD (m.block b d fun k=>g (t b d k))).trans (r j s),xW d m.size,g⟩
def Sm{b:List J.E}(h:V ons=V b)(l:List J.E)(o2:List Value)(i:Nat):(i<V b->(ons++o2).getD i (F O)=ons.getD i (F O)/\J.ev (b++l) i=J.ev b i)/\(V b<=i->(ons++o2).getD i (F O)=o2.getD (i-V b) (F O)/\J.ev (b++l) i=J.ev l (i-V b)):=by
 constructor
 ·intro c;exact⟨by simp[xr (show i<V ons by rw[h];exact c)],by unfold J.ev;simp[xr c]⟩
 ·intro c;exact⟨by simp[xt (show V ons<=i by rw[h];exact c),h],by unfold J.ev;simp[xt c]⟩
section
variable {w w1 w5:World}{B z:Nat}{s:J.PS}{ev dv wv:Value}{gr gh:Nat}{ons hvs:List Value}{D:Nat->Prop}
def PM.put(h:PM w B z s ev dv wv gr gh ons hvs D){l:List J.E}{o2:List Value}{m u:Nat}(l0:0<V l)(hl:V o2=V l)(d:Below w.heap.size w w1)(ho:w5.ownsRow B 116 10 (MU m (V s.e+V l) u) (V s.e+V l) (ON s.e ons++ON l o2))(p:w1.grownBy w5 ev.ownBlock)(H:ev.ownBlock=Y m\/w.heap.size<=m)(ac:∀i,i<V l->OP w D (o2.getD i (F O)) (J.ev l i).on):
  PM (w5.setCell ⟨z,0,C⟩ (MU m (V s.e+V l) u)) B z (s.put l) (MU m (V s.e+V l) u) dv wv gr gh (ons++o2) hvs fun k=>D k\/k=m:=by
 have ad:JX D w w5:=⟨p.os.trans d.os,p.tape.trans d.tape,p.output.trans d.output,x3 d.size p.size,fun k j hd=>(p.block k (xW j d.size) fun e=>hd (h.de k e.symm)).trans (d.block k j)⟩;have t:JX D w (w5.setCell ⟨z,0,C⟩ (MU m (V s.e+V l) u)):=JX.set ad (xF h.dz) _ _;have ae:JX (fun k=>B<=k) w (w5.setCell ⟨z,0,C⟩ (MU m (V s.e+V l) u)):=JX.set (P:=fun k=>B<=k) ⟨p.os.trans d.os,p.tape.trans d.tape,p.output.trans d.output,x3 d.size p.size,fun k j hd=>(p.block k (xW j d.size) fun e=>hd (h.eo.lt k e.symm).1).trans (d.block k j)⟩ (xF h.bz) _ _;have lt:∀x,x<w.heap.size->D x\/x=m->D x:=fun x t e=>e.elim id fun e=>by rw[e]at t⊢;exact H.elim (fun k=>h.de _ k) fun k=>by omega
 have L:∀k,ev.ownBlock=Y k->k≠z/\k≠gr/\k≠gh:=fun k j=>by
  rcases h.eo.2 with⟨e,_⟩|⟨g,y,r,e,_,hh,_⟩
  ·rw[e]at j;cases j
  ·rw[e]at j;cases j;have X:Blk w g r.toList 116:=by unfold Blk;rw[hh]
   exact⟨X.ne h.blk (by decide),X.ne h.rb (by decide),X.ne h.hb (by decide)⟩
 have keep:∀k,k<w.heap.size->(∀b,ev.ownBlock=Y b->b≠k)->w5.heap[k]?=w.heap[k]?:=fun k j ab=>(p.block k (xW j d.size) fun e=>ab k e.symm Z).trans (d.block k j)
 have zr:gr≠z:=h.rb.ne h.blk (by decide);have zh:gh≠z:=h.hb.ne h.blk (by decide);have W:m≠z:=by
  rcases H with k|k
  ·exact(L m k).1
  ·have:=h.blk.lt;omega
 have aa:Blk w5 z _ 113:=h.blk.keep (keep z h.blk.lt fun b d=>(L b d).1);refine⟨aa.set 0 _,?_,by simp[J.PS.put,h.ol,hl],fun i K=>?_,(h.rb.keep (keep gr h.rb.lt fun b d=>(L b d).2.1)).bR _ _ zr,h.rl,(h.hb.keep (keep gh h.hb.lt fun b d=>(L b d).2.2)).bR _ _ zh,h.hl,fun i K=>((h.hr i K).of lt).x (P:=D) t fun _ _ e=>xF e,(h.wr.of lt).x (P:=D) t fun _ _ e=>xF e,h.rd.x ae fun _ _ e=>e,h.bz,h.bg,h.bh,xF h.dz,xF h.dr,xF h.dh,fun b d=>Or.inr (by cases d;rfl),?_,fun x e=>xF (h.bl x e),fun e=>by simp only[J.PS.put,xd]at e;omega⟩
 ·have k1:(s.put l).e.length=V s.e+V l:=by simp[J.PS.put]
  have k2:ON (s.put l).e (ons++o2)=ON s.e ons++ON l o2:=SV h.ol;rw[k1,k2];refine⟨ho.1,ho.2.imp id fun⟨g,y,r,e,e1,e2,e3⟩=>⟨g,y,r,e,e1,?_,e3⟩⟩;cases e;rw[Below.heap_setCell _ _ _ _ W];exact e2
 ·have k:=Sm h.ol l o2 i;simp only[J.PS.put]at K⊢;by_cases c:i<V s.e
  ·rw[(k.1 c).1,(k.1 c).2];exact((h.on i c).of lt).x (P:=D) t fun _ _ e=>xF e
  ·have c':V s.e<=i:=by omega
   rw[(k.2 c').1,(k.2 c').2];exact((ac _ (by rw[xd]at K;omega)).of lt).x (P:=D) t fun _ _ e=>xF e
 ·rintro x (e|rfl)
  ·exact xW (h.low x e) t.size
  ·have:=(ho.lt x Z).2;simpa using this
end
namespace Pop
variable {P:Program}{pre:Array Oper}{o:Oper}{Q:Exit->Act->World->Prop}{md:Region.Mode}
def Q1(P:Program)(pre:Array Oper)(o:Oper)(Q:Exit->Act->World->Prop):Exit->Act->World->Prop
 |.normal,a,w=>wpOp P (pre.push o) Q pre.size (Q .normal) a w
 |e,a,w=>Q e a w
def gZ(md:Region.Mode)(ops:Array Oper):Prop :=
 ∀i x,ops[i]?=Y x->∀e∈x.after,Region.binds md e=I->e.on<i
def BN(pre:Array Oper):Prop:=∀(i:Nat) (x:Oper),pre[i]?=Y x->∀j b,x.guard=Y (j,b)->j<pre.size
def CZ(md:Region.Mode)(pre:Array Oper)(o:Oper):Prop :=
 ∀i,i<pre.size->(∃e∈o.after,Region.binds md e=I/\e.on=i) \/
  ∃j x,i<j/\pre[j]?=Y x/\∃e∈x.after,Region.binds md e=I/\e.on=i
def CK(md:Region.Mode)(pre:Array Oper)(L:Array Bool):Prop :=
 ∀j x,pre[j]?=Y x->L.getD j O=I->∀e∈x.after,Region.binds md e=I->L.getD e.on O=I
def AE(L:Array Bool)(k:Nat):(L.push O).getD k O=L.getD k O:=by
 rcases xe k L.size with h|h|h
 ·simp[x2,x4 h]
 ·subst h;simp
 ·simp[x2,Nat.ne_of_gt h]
def EW(L:Array Bool)(h:k<L.size):(L.push O).getD k I=L.getD k I:=by
 simp[x2,x4 h]
def Sn(g:gZ md pre){L:Array Bool}(m:L.size=pre.size)(h:Region.ready md pre L=[]):
  ∀i,i<pre.size->L.getD i O=I:=by
 intro i
 induction i using Nat.strongRecOn with
 |_ i ih =>
  intro b
  cases hc:L.getD i O with
  |true=>rfl
  |false =>
   have:i∈Region.ready md pre L:=mem_ready.2 ⟨by
     have c:i<L.size:=by omega
     simp[c]at hc⊢;exact hc,pre[i],by simp[b],fun e j d=>by
     have:=g i _ (by simp[b]) e j d;exact ih _ this (by omega)⟩
   rw[h]at this;cases this
def A0{L:Array Bool}(m:L.size=ops.size)(h:∀i,i<ops.size->L.getD i O=I):
  Region.ready md ops L=[]:=by
 cases hr:Region.ready md ops L with
 |nil=>rfl
 |cons x xs =>
  have g:x∈Region.ready md ops L:=by rw[hr];exact List.mem_cons_self
  obtain⟨e,y,j, -⟩:=mem_ready.1 g;have d:x<ops.size:=by
   rcases xg x ops.size with b|b
   ·exact b
   ·simp[x5 b]at j
  have c:=h x d;have b:x<L.size:=by omega
  simp[b]at e c;rw[e]at c;cases c
def So(hv:CZ md pre o){L:Array Bool}(r:CK md pre L)(h:∀e∈o.after,Region.binds md e=I->L.getD e.on O=I):
  ∀d i,i<pre.size->pre.size-i<=d->L.getD i O=I:=by
 intro d
 induction d with
 |zero=>intro i m s;omega
 |succ d ih =>
  intro i m s
  rcases hv i m with⟨e,g,c,rfl⟩|⟨j,x,t,p,e,g,c,rfl⟩
  ·exact h e g c
  ·have u:j<pre.size:=by
    rcases xg j pre.size with b|b
    ·exact b
    ·simp[x5 b]at p
   exact r j x p (ih j u (by omega)) e g c
def Sp(u:BN pre)(m:i<pre.size){K g:Act->World->Prop}(E:∀a w,K a w->g a w)(h:wpOp P pre (Q1 P pre o Q) i K a w):wpOp P (pre.push o) Q i g a w:=by
 refine wpOp_mono E ?_;unfold wpOp at*;have e1:(pre.push o)[i]?=pre[i]?:=by simp[x2,x4 m]
 have c:pre[i]?=Y pre[i]:=by simp[m]
 rw[e1,c];rw[c]at h;simp only[]at h⊢;have e2:Region.wanted pre[i] (yielded (pre.push o) a.tmps)=Region.wanted pre[i] (yielded pre a.tmps):=by
  unfold Region.wanted
  cases hgd:pre[i].guard with
  |none=>rfl
  |some jb =>
   obtain⟨j,b⟩:=jb;have y:=u i _ c j b hgd;simp only[yielded,x2,x4 y,if_false]
 rw[e2]
 split
 ·rename_i d;simp only[d,if_true]at h
  rcases h with h|⟨p,s⟩
  ·left
   unfold Oper.wp at*;generalize(execOp a.eval pre[i]).run P w=r at*
   cases r with
   |ok n w' =>
    cases n<;>simp only[Oper.upon]at h⊢ <;>
     first
      |exact h
      |exact Calls.mono h fun e H t=>by cases e<;>exact t
   |halt x w'=>cases x<;>simp only[Oper.upon]at h⊢<;>exact h
  ·exact .inr ⟨p,s⟩
 ·rename_i d;simp only[d]at h;exact h
def Sq{L:Array Bool}(r:CK md pre L)(s:i∈Region.ready md pre L):CK md pre (L.setIfInBounds i I):=by
 intro j x m g e d c;obtain⟨-,y,p,b⟩:=mem_ready.1 s;by_cases hij:i=j
 ·subst hij;rw[m]at p;cases p;exact getD_set_true (b e d c)
 ·rw[getD_set_ne O hij]at g;exact getD_set_true (r j x m g e d c)
def last(H:gZ md (pre.push o)){L:Array Bool}(p:L.size=pre.size)(K:Region.ready md pre L=[])(r:gZ md pre)(f:Nat)(h:Q1 P pre o Q .normal a w):wpAny P md (pre.push o) Q (f+1) (L.push O) a w:=by
 have b:=Sn r p K;have j:pre.size∈Region.ready md (pre.push o) (L.push O):=mem_ready.2 ⟨by rw[<- p];simp,o,by simp,fun e J E=>by
  rw[AE];exact b _ (H pre.size o (by simp) e J E)⟩
 refine⟨fun g=>(by rw[g]at j;cases j),fun i d=>?_⟩;have s:i=pre.size:=by
  obtain⟨g,y,u, -⟩:=mem_ready.1 d
  rcases xe i pre.size with m|m|m
  ·have:=b i m;rw[EW L (by omega)]at g;have x:i<L.size:=by omega
   simp[x]at g this;rw[g]at this;cases this
  ·exact m
  ·rw[x5 (by simp;omega)]at u;cases u
 subst s;refine wpOp_mono (fun a w t=>?_) h;have c:Region.ready md (pre.push o) ((L.push O).setIfInBounds pre.size I)=[]:=A0 (by simp[p]) fun i d=>by
  by_cases hij:pre.size=i
  ·subst hij;simp[p]
  ·rw[getD_set_ne O hij,AE];simp at d;exact b i (by omega)
 cases f with
 |zero=>exact⟨c,t⟩
 |succ f=>exact⟨fun _=>t,fun i d=>by rw[c]at d;cases d⟩
def Sr(K:gZ md (pre.push o))(p:gZ md pre)(W:BN pre)(hv:CZ md pre o):
  ∀(f:Nat) (L:Array Bool) (a:Act) (w:World),L.size=pre.size->CK md pre L ->
   wpAny P md pre (Q1 P pre o Q) f L a w->wpAny P md (pre.push o) Q (f+1) (L.push O) a w:=by
 intro f
 induction f with
 |zero=>intro L a w j _ h;exact last K j h.1 p 0 h.2
 |succ f ih =>
  intro L a w j J h;by_cases hn:Region.ready md pre L=[]
  ·exact last K j hn p (f+1) (h.1 hn)
  ·have H:∀i∈Region.ready md (pre.push o) (L.push O),i<pre.size/\i∈Region.ready md pre L:=fun i s=>by
    obtain⟨u,y,d,c⟩:=mem_ready.1 s
    rcases xe i pre.size with b|b|b
    ·refine⟨b,mem_ready.2 ⟨by rw[<- EW L (by omega)];exact u,y,by
      rw[<- d];simp[x2,x4 b],fun e r m=>by rw[<- AE];exact c e r m⟩⟩
    ·subst b;simp at d;subst d;exact absurd (A0 j fun i s=>So hv J (fun e r m=>by rw[<- AE];exact c e r m) pre.size i s (by omega)) hn
    ·rw[x5 (by simp;omega)]at d;cases d
   obtain⟨E,x⟩:=List.exists_mem_of_ne_nil _ hn;refine⟨fun u=>?_,fun i s=>?_⟩
   ·obtain⟨q0,y,d,c⟩:=mem_ready.1 x;have g:E<pre.size:=by
     rcases xg E pre.size with b|b
     ·exact b
     ·simp[x5 b]at d
    have:E∈Region.ready md (pre.push o) (L.push O):=mem_ready.2 ⟨by rw[EW L (by omega)];exact q0,y,by
     rw[<- d];simp[x2,x4 g],fun e r m=>by rw[AE];exact c e r m⟩
    rw[u]at this;cases this
   ·obtain⟨g,t⟩:=H i s;refine Sp W g (fun a w X=>?_) (h.2 i t);have hs:(L.push O).setIfInBounds i I=(L.setIfInBounds i I).push O:=by
     apply Array.ext_getElem?;intro k;simp only[xk,x2,Array.size_setIfInBounds,xu]
     grind
    rw[hs];exact ih _ a w (by simp[j]) (Sq J t) X
def Ss(m:P.follows .mixedOrders=I)(d:gZ .any (pre.push o))(b:gZ .any pre)(g:BN pre)(hv:CZ .any pre o)(h:wpAny P .any pre (Q1 P pre o Q) pre.size (x6 pre.size O) a {w with drawn:=w.drawn+1}):
  (Code.region iq (pre.push o) I).wp P Q a w:=by
 refine wp_region_any m ?_;have e:x6 (pre.push o).size O=(x6 pre.size O).push O:=by
  simp[Array.replicate_succ]
 rw[e,xu];refine Sr d b g hv _ _ _ _ (by simp) (fun j x _ c=>?_) h;have:(x6 pre.size O).getD j O=O:=by
  simp only[Array.getD_eq_getD_getElem?,Array.getElem?_replicate];split<;>rfl
 rw[this]at c;cases c
def JN(md:Region.Mode)(pre:Array Oper)(o:Oper):Bool :=
 (o.after.all fun e=>!Region.binds md e||decide (e.on<pre.size)) &&
 (x7 pre.size).all fun i =>
  (pre[i]?.map fun x=>(x.after.all fun e=>!Region.binds md e||decide (e.on<i)) &&
   match x.guard with|none=>I|some (j,_)=>decide (j<pre.size)).getD I &&
  ((o.after.any fun e=>Region.binds md e&&e.on==i)||
   (x7 pre.size).any fun j=>decide (i<j)&&(pre[j]?.map fun x=>x.after.any fun e=>Region.binds md e&&e.on==i).getD O)
def A3{x:Oper}(h:pre[i]?=Y x):i<pre.size:=by
 rcases xg i pre.size with b|b
 ·exact b
 ·simp[x5 b]at h
def A4(h:(A.all fun e=>!Region.binds md e||decide (e.on<n))=I){e:Edge}(c:e∈A)(b:Region.binds md e=I):e.on<n:=by
 have:=Array.all_eq_true'.1 h e c;rw[b]at this;simpa using this
def A5(h:A.any fun e=>Region.binds md e&&e.on==n=I):∃e∈A,Region.binds md e=I/\e.on=n:=by
 obtain⟨e,b,h⟩:=Array.any_eq_true'.1 h;rw[xR]at h;exact⟨e,b,h.1,by simpa using h.2⟩
def Su(h:JN md pre o=I):gZ md (pre.push o)/\gZ md pre/\BN pre/\CZ md pre o:=by
 unfold JN at h;rw[xR,List.all_eq_true]at h;obtain⟨t,s⟩:=h;have d:gZ md pre:=fun i x c e r p=>by
  have:=s i (List.mem_range.2 (A3 c));rw[xR]at this;have:=this.1;rw[c]at this;simp only[xl,xm,xR]at this;exact A4 this.1 r p
 refine⟨fun i x c e r p=>?_,d,fun i x c j b u=>?_,fun i y=>?_⟩
 ·rcases xe i pre.size with m|m|m
  ·exact d i x (by rw[<- c];simp[x2,x4 m]) e r p
  ·subst m;simp at c;subst c;exact A4 t r p
  ·rw[x5 (by simp;omega)]at c;cases c
 ·have:=s i (List.mem_range.2 (A3 c));rw[xR]at this;have:=this.1;rw[c]at this;simp only[xl,xm,xR,u]at this;exact of_decide_eq_true this.2
 ·have:=s i (List.mem_range.2 y);rw[xR]at this;have:=this.2;rw[Bool.or_eq_true]at this
  rcases this with h|h
  ·exact .inl (A5 h)
  ·right
   rw[List.any_eq_true]at h;obtain⟨j, -,g⟩:=h;rw[xR]at g
   cases c:pre[j]? with
   |none=>rw[c]at g;simp at g
   |some x =>
    rw[c]at g;simp only[xl,xm]at g;exact⟨j,x,of_decide_eq_true g.1,c,A5 g.2⟩
def aQ{l:List Oper}(r:P.follows .mixedOrders=I)(o:Oper)(p:l=l.dropLast++[o])(m:JN .any l.dropLast.toArray o=I)(j:S w.drew)(h:S w.drew->wpAnyH P .any l.dropLast.toArray (Q1 P l.dropLast.toArray o Q) S (V l.dropLast) (x6 (V l.dropLast) O) a w.drew):
  (Code.region iq l.toArray I).wp P Q a w:=by
 have e:l.toArray=l.dropLast.toArray.push o:=by
  conv=>lhs;rw[p]
  simp
 obtain⟨b,c,d,g⟩:=Su m;rw[e];exact Ss r b c d g (wpAny_of_held _ _ _ _ (by simpa using h j))
def L(i f:Nat):Array Bool:=(x8 i I++x8 f O).toArray
def A6(i f:Nat):(L i (f+1)).setIfInBounds i I=L (i+1) f:=by
 unfold L;have e:x8 (i+1) I++x8 f O=x8 i I++I::x8 f O:=by
  rw[List.replicate_succ',List.append_assoc];rfl
 rw[e];simp[List.set_append,List.replicate_succ]
def tk(e:ops[i]?=Y oi)(c:(Region.noSelect ops&&Region.free .any ops (L i (f+1)) i&&(Region.ready .any ops (L i (f+1))).contains i)=I)(b:∀c a w,Q (.panic c) (a.put oi.dst v) w->Q (.panic c) a w)(g:Region.wanted oi (yielded ops a.tmps)=I)(j:∀w,S w->(execOp a.eval oi).run P w=.ok (.value v) w)(d:S w)(h:wpAnyH P .any ops Q S f (L (i+1) f) (a.put oi.dst v) w):wpAnyH P .any ops Q S (f+1) (L i (f+1)) a w:=by
 simp only[xR]at c;refine wpAnyH_take e c.1.1 c.1.2 c.2 b (xF ⟨g,j⟩) d ?_;rw[A6];exact h
def qU(n:Nat):x6 n O=L 0 n:=by simp[L]
def bW(e:ops[i]?=Y oi)(c:(Region.ready .any ops (L i (f+1))==[i])=I)(g:Region.wanted oi (yielded ops a.tmps)=I)(h:oi.wp P a w (fun d w'=>S w'/\wpAnyH P .any ops Q S f (L (i+1) f) d w') Q):wpAnyH P .any ops Q S (f+1) (L i (f+1)) a w:=by
 refine wpAnyH_all (rs:=[i]) (by simpa using c) (by simp) fun j b=>?_
 rw[List.mem_singleton]at b;subst b;rw[A6];unfold wpOp;simp only[e,g,if_true];exact .inl h
def fin(c:Region.ready .any pre (L i 0)=[])(b:Region.wanted o (yielded (pre.push o) a.tmps)=I)(h:o.wp P a w (Q .normal) Q):wpAnyH P .any pre (Q1 P pre o Q) S 0 (L i 0) a w:=by
 refine⟨c,?_⟩;unfold Q1 wpOp;simp only[Array.getElem?_push_size,b,if_true];exact .inl h
def tail{m c b:Nat}{ev:Value}{news:List Value}{H:Nat}(h1:pre[i]?=Y o1)(h2:pre[i+1]?=Y o2)(h3:pre[i+1+1]?=Y o3)(hc:(Region.ready .any pre (L i 3)==[i]&&(Region.ready .any pre (L (i+1) 2)==[i+1]&&(Region.ready .any pre (L (i+1+1) 1)==[i+1+1]&&Region.ready .any pre (L (i+1+1+1) 0)==[])))=I)(p1:o1.op=.call {callee:=.builtin .append,args:=#[.tmp ds,.tmp dn],argTypes:=#[107,107]}/\o1.dst=Y d1/\o1.guard=C)(p2:o2.op=.nilCheck (.tmp dp)/\o2.dst=Y d2/\o2.guard=C)(p3:o3.op=.fieldAddr 113 (.tmp d2) 0/\o3.dst=Y d3/\o3.guard=C)(p4:o.op=.store 107 (.tmp d3) (.tmp d1)/\o.dst=C/\o.guard=C)(K:d1<a.tmps.size/\d2<a.tmps.size/\d3<a.tmps.size)(x:d1≠d2/\d1≠d3/\d1≠dp)(v1:a.eval (.tmp ds)=ev)(v2:a.eval (.tmp dn)=MU b m c)(v3:a.eval (.tmp dp)=.pointer (Y ⟨z,0,C⟩))(X:w.ownsRow B 116 10 ev n xs)(hl:V news=m*10)(y:∀j u,news[j]?=Y u->q w ((⟨b,0,C⟩:Addr).add j)=Y u)(ho:∀u∈news,u.oneCell'=I)(hm:0<m)(hn:n+m<100000000)(hB:B<=w.heap.size)(hH:w.heap.size=H)(hS:∀r,w.grownBy r ev.ownBlock->S r/\(∃u,q r ⟨z,0,C⟩=Y u)/\r.frozen? ⟨z,0,C⟩=O)(h:∀g p w',w'.ownsRow B 116 10 (MU g (n+m) p) (n+m) (xs++news)->w.grownBy w' ev.ownBlock->ev.ownBlock=Y g\/g=H->g<w'.heap.size->Q .normal (((a.put (Y d1) (MU g (n+m) p)).put (Y d2) (.pointer (Y ⟨z,0,C⟩))).put (Y d3) (.pointer (Y ⟨z,0,C⟩))) (w'.setCell ⟨z,0,C⟩ (MU g (n+m) p))):
  wpAnyH prog .any pre (Q1 prog pre o Q) S 3 (L i 3) a w:=by
 obtain⟨i0,hi,aa,ab,ac⟩:=RW Tryz.infoE;simp only[xR]at hc;obtain⟨c1,c2,c3,c4⟩:=hc;refine bW h1 c1 (by simp[Region.wanted,p1.2.2]) ?_;refine wp_append_lies w _ _ _ p1.1 B 116 i0 (.agg (evc J.E.zero (M C 0 0)).toArray) 10 120 underlying107 hi aa ab ac Z (by decide) ev n xs v1 X _ m c news v2 hl y ho hm (by unfold maxLen;omega) (by omega) hB H hH ?_;intro g p r q1 q2 q3 q4;obtain⟨s1,⟨u,s2⟩,s3⟩:=hS r q2;have hK:=h g p r q1 q2 q3 q4;rw[p1.2.1];have s:∀{b:Act} {d e:Nat} {v:Value},d≠e->(b.put (Y d) v).eval (.tmp e)=b.eval (.tmp e):=fun{b d e v} hd=>by simp[Act.eval,x9,xk,hd]
 have t:∀{b:Act} {d:Nat} {v:Value},d<b.tmps.size->(b.put (Y d) v).eval (.tmp d)=v:=fun{b d v} hd=>by simp[Act.eval,x9,xk,hd]
 have es:∀{b:Act} {d:Nat} {v:Value},(b.put (Y d) v).tmps.size=b.tmps.size:=fun{b d v}=>by simp[x9]
 have r2:∀W,(execOp (a.put (Y d1) (MU g (n+m) p)).eval o2).run prog W=.ok (.value (.pointer (Y ⟨z,0,C⟩))) W:=fun W=>by
  unfold execOp;simp only[p2.1,s x.2.2,v3];rfl
 have r3:∀W,(execOp ((a.put (Y d1) (MU g (n+m) p)).put (Y d2) (.pointer (Y ⟨z,0,C⟩))).eval o3).run prog W=.ok (.value (.pointer (Y ⟨z,0,C⟩))) W:=fun W=>by
  unfold execOp;simp only[p3.1,t (show d2<(a.put (Y d1) (MU g (n+m) p)).tmps.size by rw[es];exact K.2.1)]
  kernel_rfl
 have q5:(((a.put (Y d1) (MU g (n+m) p)).put (Y d2) (.pointer (Y ⟨z,0,C⟩))).put (Y d3) (.pointer (Y ⟨z,0,C⟩))).eval (.tmp d3)=.pointer (Y ⟨z,0,C⟩):=t (by rw[es,es];exact K.2.2);have q6:(((a.put (Y d1) (MU g (n+m) p)).put (Y d2) (.pointer (Y ⟨z,0,C⟩))).put (Y d3) (.pointer (Y ⟨z,0,C⟩))).eval (.tmp d1)=MU g (n+m) p:=by
  rw[s x.2.1.symm,s x.1.symm,t K.1]
 have r4:(execOp (((a.put (Y d1) (MU g (n+m) p)).put (Y d2) (.pointer (Y ⟨z,0,C⟩))).put (Y d3) (.pointer (Y ⟨z,0,C⟩))).eval o).run prog r=.ok .skip (r.setCell ⟨z,0,C⟩ (MU g (n+m) p)):=by
  unfold execOp;simp only[p4.1,q5,q6];go_simp
 refine⟨s1,bW h2 c2 (by simp[Region.wanted,p2.2.2]) ?_⟩;unfold Oper.wp;rw[r2,Oper.upon_value,p2.2.1];refine⟨s1,bW h3 c3 (by simp[Region.wanted,p3.2.2]) ?_⟩;unfold Oper.wp;rw[r3,Oper.upon_value,p3.2.1];refine⟨s1,fin (by simpa using c4) (by simp[Region.wanted,p4.2.2]) ?_⟩;unfold Oper.wp;rw[r4,Oper.upon_skip,p4.2.1];exact hK
end Pop
def jD:Code->Code
 |.cond _ x _=>x
 |d=>d
def zU:Code->Code
 |.cond _ _ y=>y
 |d=>d
def dF(d:Func):List Code:=dR (d.body.getD .skip)
def dL(d:Func):List Code:=dR (oP (bC ((dF d).getD 1 .skip)))
def dB(d:Func):List Code:=dR (bC ((dL d).getD 2 .skip))
def dS(d:Func):List Code:=dR (bC ((dB d).getD 3 .skip))
def aR(d:Func):List Code:=dR (jD ((dS d).getD 2 .skip))
def e1(d:Func):List Code:=dR (zU ((dS d).getD 2 .skip))
def aS(d:Func):List Code:=dR (jD ((e1 d).getD 1 .skip))
def e2(d:Func):List Code:=dR (zU ((e1 d).getD 1 .skip))
def aF(d:Func):List Code:=dR (jD ((e2 d).getD 1 .skip))
def e3(d:Func):List Code:=dR (zU ((e2 d).getD 1 .skip))
def aB(d:Func):List Code:=dR (jD ((e3 d).getD 1 .skip))
def e4(d:Func):List Code:=dR (zU ((e3 d).getD 1 .skip))
def aT(d:Func):List Code:=dR (jD ((e4 d).getD 1 .skip))
def e5(d:Func):List Code:=dR (zU ((e4 d).getD 1 .skip))
def aI(d:Func):List Code:=dR (jD ((e5 d).getD 1 .skip))
def A7:(dF f75).length=2:=by kernel_rfl
def wK:(dL f75).length=4:=by kernel_rfl
def DB:(dB f75).length=4:=by kernel_rfl
def tX:(dS f75).length=3:=by kernel_rfl
def oD:(aR f75).length=9:=by kernel_rfl
def A8:(aS f75).length=2:=by kernel_rfl
def Sv:(aF f75).length=1:=by kernel_rfl
def A9:(aB f75).length=2:=by kernel_rfl
def sC:(aT f75).length=9:=by kernel_rfl
def AW:(aI f75).length=3:=by kernel_rfl
def Ba:(e1 f75).length=2:=by kernel_rfl
def Bb:(e2 f75).length=2:=by kernel_rfl
def Bc:(e3 f75).length=2:=by kernel_rfl
def Be:(e4 f75).length=2:=by kernel_rfl
def Bf:(e5 f75).length=2:=by kernel_rfl
structure DF0(a:Act)(z:Nat)(lv:Value)(i:Nat):Prop where
 sz:a.tmps.size=334
 df:a.defers=[]
 s0:gA a 0=.pointer (Y ⟨z,0,C⟩)
 s1:gA a 1=lv
 s4:gA a 4=U G (i:Int)
structure DFr(a:Act)(z:Nat)(lv:Value)(i gl o:Nat)(xa:Int)(hv:Value)(op:ByteArray):Prop where
 f0:DF0 a z lv i
 s5:gA a 5=.pointer (Y ⟨gl,o,C⟩)
 s6:gA a 6=U G xa
 s7:gA a 7=hv
 s37:gA a 37=T op
structure LnC(w:World)(gl o:Nat)(x:Lh)(bv:Value):Prop where
 op:q w ⟨gl,o,C⟩=Y (T x.op)
 MW:q w ⟨gl,o+1,C⟩=Y (U G x.MW)
 z:q w ⟨gl,o+2,C⟩=Y (U G x.z)
 a:q w ⟨gl,o+3,C⟩=Y (U G x.a)
 b:q w ⟨gl,o+4,C⟩=Y (U G x.b)
 sign:q w ⟨gl,o+5,C⟩=Y (T x.sign)
 ord:q w ⟨gl,o+6,C⟩=Y (T x.ord)
 scope:q w ⟨gl,o+7,C⟩=Y (T x.scope)
 body:q w ⟨gl,o+8,C⟩=Y bv
 lt:gl<w.heap.size
def LnC.x{P:Nat->Prop}{x:Lh}(h:LnC w gl o x bv)(c:JX P w w')(d:¬P gl):LnC w' gl o x bv :=
 have e:∀j,q w' ⟨gl,j,C⟩=q w ⟨gl,j,C⟩:=fun j=>gD (c.block gl h.lt d)
 ⟨(e _).trans h.op,(e _).trans h.MW,(e _).trans h.z,(e _).trans h.a,(e _).trans h.b,(e _).trans h.sign,(e _).trans h.ord,(e _).trans h.scope,(e _).trans h.body,xW h.lt c.size⟩
def sK(w:World)(B z:Nat)(lv:Value)(i:Nat)(s:J.PS)(K:Act->World->Prop):Prop :=
 ∀(a:Act) (w':World) (ev dv wv:Value) (gr gh:Nat) (ons hvs:List Value) (D:Nat->Prop),DF0 a z lv i->PM w' B z s ev dv wv gr gh ons hvs D->JX (fun k=>B<=k) w w'->K a w'
def lG(Q:Exit->Act->World->Prop):Prop:=∀c a d v w,Q (.panic c) (a.put d v) w->Q (.panic c) a w
def J.AH{s:J.PS}{ev:Value}(h:PM w B z s ev dv wv gr gh ons hvs D):∃a c,ev=M a (V s.e) c:=RL h.eo
def IA{e:TypeId}{p:Nat}(h:w.ownsRow B e p v n xs)(b:v.ownBlock=Y k):∃c,Blk w k c e:=by
 rcases h.2 with⟨e,_⟩|⟨g,j,d,e,_,m,_⟩
 ·rw[e]at b;cases b
 ·rw[e]at b;cases b;exact⟨d.toList,by unfold Blk;rw[m]⟩
def OP.form{r:List Int}(h:OP w D v r):∃a n c,v=M a n c:=by
 rcases h with⟨e,_⟩|⟨_,b,c,e,_⟩
 ·exact⟨_,_,_,e⟩
 ·exact⟨_,_,_,e⟩
def SC(z gl o:Nat)(ev wv:Value)(r:Int)(x:Lh)(w:World):Prop:=q w ⟨z,0,C⟩=Y ev/\q w ⟨z,3,C⟩=Y wv/\q w ⟨z,6,C⟩=Y (U G r)/\q w ⟨gl,o,C⟩=Y (T x.op)/\q w ⟨gl,o+2,C⟩=Y (U G x.z)/\q w ⟨gl,o+6,C⟩=Y (T x.ord)/\q w ⟨gl,o+7,C⟩=Y (T x.scope)
section
variable {w w':World}{B z gl o:Nat}{s:J.PS}{ev dv wv bv:Value}{gr gh:Nat}{ons hvs:List Value}{D:Nat->Prop}{x:R.Lh}
def SC.of(h:PM w B z s ev dv wv gr gh ons hvs D)(b:LnC w gl o x bv):SC z gl o ev wv s.round x w:=⟨h.blk.cell Z,h.blk.cell Z,h.blk.cell Z,b.op,b.z,b.ord,b.scope⟩
def SC.keep{r:Int}(h:SC z gl o ev wv r x w)(c:∀j,q w' ⟨z,j,C⟩=q w ⟨z,j,C⟩)(b:∀j,q w' ⟨gl,j,C⟩=q w ⟨gl,j,C⟩):SC z gl o ev wv r x w' :=
 ⟨(c _).trans h.1,(c _).trans h.2.1,(c _).trans h.2.2.1,(b _).trans h.2.2.2.1,(b _).trans h.2.2.2.2.1,(b _).trans h.2.2.2.2.2.1,(b _).trans h.2.2.2.2.2.2⟩
def PM.X(h:PM w B z s ev dv wv gr gh ons hvs D)(b:Below w.heap.size w w'):PM w' B z s ev dv wv gr gh ons hvs D :=
 have c:JX (fun _=>False) w w':=JX.of b
 ⟨h.blk.X b,RO h.eo b,h.ol,fun i d=>(h.on i d).x c fun _ _ e=>e.elim,h.rb.X b,h.rl,h.hb.X b,h.hl,fun i d=>(h.hr i d).x c fun _ _ e=>e.elim,h.wr.x c fun _ _ e=>e.elim,h.rd.x c fun _ _ e=>e.elim,h.bz,h.bg,h.bh,h.dz,h.dr,h.dh,h.de,fun x e=>xW (h.low x e) b.size,h.bl,h.e0⟩
def PM.ML(h:PM w B z s ev dv wv gr gh ons hvs D):∀k,ev.ownBlock=Y k->k≠z:=fun k c e=>by
 obtain⟨d,b⟩:=IA h.eo c;exact(Blk.ne (t:=116) (u:=113) b h.blk (by decide)) e
def AG{t:Array Oper}{op:Oper}{Q:Exit->Act->World->Prop}(h:PM w B z s ev dv wv gr gh ons hvs D)(hl:LnC w gl o x bv)(aj:gl<B)(hB:B<=w.heap.size)(hs:V s.e<1000)(l:List J.E)(W:List Value)(aa:V W=V l)(l0:0<V l)(l2:V l<10)(ae:∀u∈W,u.oneCell'=I)(af:∀i,i<V l->OP w D (W.getD i (F O)) (J.ev l i).on)(h1:t[i]?=Y o1)(h2:t[i+1]?=Y o2)(h3:t[i+1+1]?=Y o3)(hc:(Region.ready .any t (Pop.L i 3)==[i]&&(Region.ready .any t (Pop.L (i+1) 2)==[i+1]&&(Region.ready .any t (Pop.L (i+1+1) 1)==[i+1+1]&&Region.ready .any t (Pop.L (i+1+1+1) 0)==[])))=I)(p1:o1.op=.call {callee:=.builtin .append,args:=#[.tmp ds,.tmp dn],argTypes:=#[107,107]}/\o1.dst=Y d1/\o1.guard=C)(p2:o2.op=.nilCheck (.tmp dp)/\o2.dst=Y d2/\o2.guard=C)(p3:o3.op=.fieldAddr 113 (.tmp d2) 0/\o3.dst=Y d3/\o3.guard=C)(p4:op.op=.store 107 (.tmp d3) (.tmp d1)/\op.dst=C/\op.guard=C)(ag:a.tmps.size=334)(ad:(d1<334/\d2<334/\d3<334)/\d1≠d2/\d1≠d3/\d1≠dp)(v1:a.eval (.tmp ds)=ev)(v2:a.eval (.tmp dn)=MU w.heap.size (V l) (V l))(v3:a.eval (.tmp dp)=.pointer (Y ⟨z,0,C⟩))(hK:∀(g K:Nat) (w5:World) (D':Nat->Prop),(∀v r,OP w D v r->OP (w5.setCell ⟨z,0,C⟩ (MU g (V s.e+V l) K)) D' v r)->PM (w5.setCell ⟨z,0,C⟩ (MU g (V s.e+V l) K)) B z (s.put l) (MU g (V s.e+V l) K) dv wv gr gh (ons++W) hvs D'->JX (fun k=>B<=k) w (w5.setCell ⟨z,0,C⟩ (MU g (V s.e+V l) K)) ->
   Q .normal (((a.put (Y d1) (MU g (V s.e+V l) K)).put (Y d2) (.pointer (Y ⟨z,0,C⟩))).put (Y d3) (.pointer (Y ⟨z,0,C⟩))) (w5.setCell ⟨z,0,C⟩ (MU g (V s.e+V l) K))):
  SC z gl o ev wv s.round x (w.drew.alloc (.cells (ON l W).toArray 116))/\wpAnyH prog .any t (Pop.Q1 prog t op Q) (SC z gl o ev wv s.round x) 3 (Pop.L i 3) a (w.drew.alloc (.cells (ON l W).toArray 116)):=by
 have d:Below w.heap.size w (w.drew.alloc (.cells (ON l W).toArray 116)):=((xc w.heap.size w).drew).alloc (by simp) _;have sc:SC z gl o ev wv s.round x (w.drew.alloc (.cells (ON l W).toArray 116)):=(SC.of h hl).keep (fun j=>d.cell (p:=⟨z,j,C⟩) h.blk.lt) fun j=>d.cell (p:=⟨gl,j,C⟩) hl.lt;have ab:(w.drew.alloc (.cells (ON l W).toArray 116)).heap.size=w.heap.size+1:=by simp
 have lz:=h.blk.lt;have ak:=hl.lt;have ai:∀k,ev.ownBlock=Y k->k≠gl:=fun k hk e=>by have:=(h.eo.lt k hk).1;omega
 have nw:Blk (w.drew.alloc (.cells (ON l W).toArray 116)) w.heap.size (ON l W) 116:=Blk.new w.drew (ON l W) 116;refine⟨sc,Pop.tail (n:=V s.e) (m:=V l) (c:=V l) (b:=w.heap.size) (xs:=ON s.e ons) (news:=ON l W) (H:=w.heap.size+1) h1 h2 h3 hc p1 p2 p3 p4 (by rw[ag];exact ad.1) ad.2 v1 v2 v3 (RO h.eo d) (LD aa) (fun j u hu=>?_) (TB l W ae) l0 (by omega) (by omega) ab (fun w5 hg=>?_) fun g K w5 q1 X q3 q4=>?_⟩
 ·rw[RK,Nat.zero_add];exact nw.cell hu
 ·have fz:∀j,q w5 ⟨z,j,C⟩=_:=fun j=>hg.cell_far ⟨z,j,C⟩ (by simp;omega) fun e=>h.ML z e.symm Z
  refine⟨sc.keep fz fun j=>hg.cell_far ⟨gl,j,C⟩ (by simp;omega) fun e=>ai gl e.symm Z,⟨_,(fz 0).trans sc.1⟩,?_⟩;exact(hg.frozen_far ⟨z,0,C⟩ (by simp;omega) fun e=>h.ML z e.symm Z).trans ((d.frozen (p:=⟨z,0,C⟩) lz).trans (h.blk.free 0))
 ·have ac:ev.ownBlock=Y g\/w.heap.size<=g:=q3.imp id (fun e=>by omega);have ah:JX D w w5:=⟨X.os.trans d.os,X.tape.trans d.tape,X.output.trans d.output,x3 d.size X.size,fun k hk hd=>(X.block k (xW hk d.size) fun e=>hd (h.de k e.symm)).trans (d.block k hk)⟩;refine hK g K w5 (fun k=>D k\/k=g) (fun v r hv=>(hv.of fun y hy e=>e.elim id fun e=>by rw[e]at hy⊢;exact ac.elim (fun k=>h.de _ k) fun k=>by omega).x (P:=D) (JX.set ah (xF h.dz) _ _) fun _ _ e=>xF e) ?_ ?_
  ·exact h.put l0 aa d q1 X ac af
  ·exact JX.set (P:=fun k=>B<=k) ⟨X.os.trans d.os,X.tape.trans d.tape,X.output.trans d.output,x3 d.size X.size,fun k hk hd=>(X.block k (xW hk d.size) fun e=>hd (h.eo.lt k e.symm).1).trans (d.block k hk)⟩ (xF h.bz) _ _
end
section
variable {w:World}{B z:Nat}{s:J.PS}{ev dv wv:Value}{gr gh:Nat}{ons hvs:List Value}{D:Nat->Prop}
def PM.zx(h:PM w B z s ev dv wv gr gh ons hvs D)(i:Nat)(u:Value){b:J.PS}{c d:Value}(t:Blk (w.setCell ⟨z,i,C⟩ u) z [ev,MU gr 4 4,MU gh 4 4,d,c,F b.short,U G b.round] 113)(m:b.e=s.e)(E:b.g=s.g)(H:b.hang=s.hang)(K:OP w D d b.way)(L:RP w (fun k=>B<=k) c b.D):PM (w.setCell ⟨z,i,C⟩ u) B z b ev c d gr gh ons hvs D:=by
 have r:JX (fun k=>k=z) w (w.setCell ⟨z,i,C⟩ u):=JX.set (P:=fun k=>k=z) (JX.refl _ _) (xF Z) _ _;have y:∀x,x<w.heap.size->x=z->D x:=fun x _ e=>by rw[e];exact h.dz
 refine⟨t,?_,by rw[m];exact h.ol,fun j p=>?_,?_,by rw[E];exact h.rl,h.hb.bR _ _ (h.hb.ne h.blk (by decide)),h.hl,fun j p=>?_,K.x r y,L.x r fun x _ e=>by rw[e];exact h.bz,h.bz,h.bg,h.bh,h.dz,h.dr,h.dh,h.de,fun x e=>by simpa using h.low x e,h.bl,by rw[m];exact h.e0⟩
 ·rw[m];exact ownsRow_setCell_other h.eo (fun e=>h.ML _ e Z) _
 ·rw[m]at p⊢;exact(h.on j p).x r y
 ·rw[E];exact h.rb.bR _ _ (h.rb.ne h.blk (by decide))
 ·rw[H];exact(h.hr j p).x r y
def PM.rnd(h:PM w B z s ev dv wv gr gh ons hvs D)(r:Int):PM (w.setCell ⟨z,6,C⟩ (U G r)) B z {s with round:=r} ev dv wv gr gh ons hvs D:=h.zx 6 _ (h.blk.set 6 _) Z Z Z h.wr h.rd
def PM.sht(h:PM w B z s ev dv wv gr gh ons hvs D):PM (w.setCell ⟨z,5,C⟩ (F I)) B z {s with short:=I} ev dv wv gr gh ons hvs D:=h.zx 5 _ (h.blk.set 5 _) Z Z Z h.wr h.rd
def PM.MI(h:PM w B z s ev dv wv gr gh ons hvs D)(hv:RP w (fun k=>B<=k) v l):PM (w.setCell ⟨z,4,C⟩ v) B z {s with D:=l} ev v wv gr gh ons hvs D:=h.zx 4 _ (h.blk.set 4 _) Z Z Z h.wr hv
def PM.wy(h:PM w B z s ev dv wv gr gh ons hvs D)(hv:OP w D v l):PM (w.setCell ⟨z,3,C⟩ v) B z {s with way:=l} ev dv v gr gh ons hvs D:=h.zx 3 _ (h.blk.set 3 _) Z Z Z hv h.rd
end
def Sw{x:Lh}{s:J.PS}{ev:Value}{Q:Exit->Act->World->Prop}(hQ:lG Q)(h:PM w B z s ev dv wv gr gh ons hvs D)(y:LnC w gl o x bv)(hf:DFr a z lv i gl o xa hv x.op)(hs:V s.e<1000)(hB:B<=w.heap.size)(t:gl<B)(aa:0<=s.round/\s.round<1000)(hK:sK w B z lv i {s.put [J.aE s.round,J.lE s.round]with round:=s.round+1} N):
  NG prog ((aB f75).drop 0) (Exit.then N Q) a w:=by
 have L:=MS (SC.of h y);obtain⟨⟨sz,X,s0,s1,s4⟩,s5,s6,s7,d⟩:=hf;have H:=MS h;have HL:=MS y;have m:=MS hK;clear h y hK;rw[OQ sz X];simp only[x7,List.range.loop,xh,xi,s0,s1,s4,s5,s6,s7,d];generalize gA a=f;clear s0 s1 s4 s5 s6 s7 d sz X;refine MX 0 A9 Z fun K1 j=>?_
 conv=>arg 2;whnf
 refine Pop.aQ (S:=SC z gl o ev wv s.round x) (by kernel_rfl) _ Z (by kernel_rfl) L.o fun b=>?_;simp only[xw,xx,xn,xy,xb,Pop.qU]
 iterate 15
  refine Pop.tk Z (by kernel_rfl) (fun _ _ _ h=>hQ _ _ _ _ _ h) Z fun w r=>by dsimp only[SC]at r;go_simp;with_reducible rfl b ?_;simp only[x9,xo,xp,xq,xb]
 refine Pop.bW Z (by kernel_rfl) Z ?_;go_simp;refine AG H.o HL.o t hB hs [J.aE s.round,J.lE s.round] [M C 0 0,M C 0 0] Z (by simp) (by simp) (by simp;rfl) (fun i hi=>?_) Z Z Z (by kernel_rfl) ⟨Z,Z,Z⟩ ⟨Z,Z,Z⟩ ⟨Z,Z,Z⟩ ⟨Z,Z,Z⟩ Z (by decide) Z Z Z fun g p w5 D' _ c hX=>?_
 ·have u:i=0\/i=1:=by simp at hi;omega
  rcases u with rfl|rfl<;>exact OP.nil _ _
 ·refine j.o _ _ ?_;have HP:=MS c;have HX:=MS hX;have n6:=c.blk.cell (i:=6) (v:=U G s.round) Z;have n7:=c.blk.free 6;have n8:=c.blk.lt;clear c hX L b;simp only[x9,xo,xp,xq,xb];generalize w5.setCell ⟨z,0,C⟩ (MU g (V s.e+[J.aE s.round,J.lE s.round].length) p)=W at*;refine MX 1 A9 Z fun K E=>?_
  conv=>arg 2;whnf
  go_wp2_with fail;refine E.o _ _ ?_;clear E;show N _ _;exact m.o _ _ _ _ _ _ _ _ _ _ ⟨Z,Z,Z,Z,Z⟩ (HP.rnd _) (JX.set (P:=fun k=>B<=k) HX.o (xF H.bz) _ _)
section
variable {w:World}{B z:Nat}{s:J.PS}{ev dv wv:Value}{gr gh:Nat}{ons hvs:List Value}{D:Nat->Prop}
def PM.evn(h:PM w B z s ev dv wv gr gh ons hvs D):∀k,ev.ownBlock=Y k->k≠z/\k≠gr/\k≠gh:=fun k c=>by
 obtain⟨d,b⟩:=IA h.eo c;exact⟨Blk.ne b h.blk (by decide),Blk.ne b h.rb (by decide),Blk.ne b h.hb (by decide)⟩
def PM.MW(h:PM w B z s ev dv wv gr gh ons hvs D)(r:Nat)(v:Int):PM (w.setCell ⟨gr,r,C⟩ (U G v)) B z {s with g:=s.g.set r v} ev dv wv gr gh ons hvs D:=by
 have b:JX (fun k=>k=gr) w (w.setCell ⟨gr,r,C⟩ (U G v)):=JX.set (P:=fun k=>k=gr) (JX.refl _ _) (xF Z) _ _;have c:∀x,x<w.heap.size->x=gr->D x:=fun x _ e=>by rw[e];exact h.dr
 refine⟨h.blk.bR _ _ (h.blk.ne h.rb (by decide)),ownsRow_setCell_other h.eo (fun e=>(h.evn _ e).2.1 Z) _,h.ol,fun j d=>(h.on j d).x b c,?_,by simp[h.rl],h.hb.bR _ _ (h.hb.ne h.rb (by decide)),h.hl,fun j d=>(h.hr j d).x b c,h.wr.x b c,h.rd.x b fun x _ e=>by rw[e];exact h.bg,h.bz,h.bg,h.bh,h.dz,h.dr,h.dh,h.de,fun x e=>by simpa using h.low x e,h.bl,h.e0⟩;have:=h.rb.set r (U G v);unfold NT at*;rw[List.map_set];exact this
def PM.hng(h:PM w B z s ev dv wv gr gh ons hvs D)(r:Nat)(m:r<4)(hs:V s.hang=4){u:Value}(p:OP w D u l):PM (w.setCell ⟨gh,r,C⟩ u) B z {s with hang:=s.hang.set r l} ev dv wv gr gh ons (hvs.set r u) D:=by
 have b:JX (fun k=>k=gh) w (w.setCell ⟨gh,r,C⟩ u):=JX.set (P:=fun k=>k=gh) (JX.refl _ _) (xF Z) _ _;have d:∀x,x<w.heap.size->x=gh->D x:=fun x _ e=>by rw[e];exact h.dh
 refine⟨h.blk.bR _ _ (h.blk.ne h.hb (by decide)),ownsRow_setCell_other h.eo (fun e=>(h.evn _ e).2.2 Z) _,h.ol,fun j g=>(h.on j g).x b d,h.rb.bR _ _ (h.rb.ne h.hb (by decide)),h.rl,h.hb.set r u,by simp[h.hl],fun j g=>?_,h.wr.x b d,h.rd.x b fun x _ e=>by rw[e];exact h.bh,h.bz,h.bg,h.bh,h.dz,h.dr,h.dh,h.de,fun x e=>by simpa using h.low x e,h.bl,h.e0⟩;by_cases c:j=r
 ·subst c;have e1:(hvs.set j u).getD j (F O)=u:=by have:=h.hl;simp[show j<V hvs by omega]
  have e2:(s.hang.set j l).getD j []=l:=by simp[show j<V s.hang by omega]
  show OP _ D ((hvs.set j u).getD j (F O)) ((s.hang.set j l).getD j []);rw[e1,e2];exact p.x b d
 ·have e1:(hvs.set r u).getD j (F O)=hvs.getD j (F O):=by rw[xj,xj,xz fun e=>c e.symm]
  have e2:(s.hang.set r l).getD j []=s.hang.getD j []:=by rw[xj,xj,xz fun e=>c e.symm]
  show OP _ D ((hvs.set r u).getD j (F O)) ((s.hang.set r l).getD j []);rw[e1,e2];exact(h.hr j g).x b d
def RP.tl{x:Int}(h:RP w D v (x::l)):∃b o c o' c',v=M (Y ⟨b,o,C⟩) (V l+1) c/\q w ⟨b,o,C⟩=Y (U G x)/\b<w.heap.size/\(∀d,(Instr.slice 37 (M (Y ⟨b,o,C⟩) (V l+1) c) (Y (U G 1)) C C).run prog d=.ok (M (Y ⟨b,o',C⟩) (V l) c') d)/\RP w D (M (Y ⟨b,o',C⟩) (V l) c') l:=by
 rcases h with⟨e,_⟩|⟨b,o,c,rfl,m,p,r,u⟩
 ·cases e
 simp only[xn]at m p;have g:∀d,(Instr.slice 37 (M (Y ⟨b,o,C⟩) (V l+1) c) (Y (U G 1)) C C).run prog d=.ok (sliced (Y ⟨b,o,C⟩) 1 (V l+1) c 1) d:=fun d=>by
  have m:=run_slice_l (w:=d) (P:=prog) 37 (Y ⟨b,o,C⟩) (V l+1) c (by kernel_rfl) G 1 (by omega) (by omega);rw[m,show(sizeOf (prog.elem 37)).run prog d=.ok 1 d by kernel_rfl,Result.andThen_ok];rfl
 have s:q w ⟨b,o,C⟩=Y (U G x):=by have:=p 0 (by omega);simpa using this
 by_cases hc:c=1
 ·subst hc;have t:l=[]:=List.eq_nil_of_length_eq_zero (by omega);subst t;exact⟨b,o,1,o,0,Z,s,r,fun d=>by rw[g];simp[sliced],xF ⟨Z,_,_,Z⟩⟩
 ·refine⟨b,o,c,o+1,c-1,Z,s,r,fun d=>?_,?_⟩
  ·rw[g];unfold sliced;simp[RK];omega
  ·refine Or.inr ⟨b,o+1,c-1,Z,by omega,fun j y=>?_,r,u⟩;have:=p (j+1) (by omega);simp only[List.getElem_cons_succ]at this;rw[<- this];congr 2;omega
end
def Sx{op:ByteArray}{s:J.PS}{ev:Value}{Q:Exit->Act->World->Prop}(h:PM w B z s ev dv wv gr gh ons hvs D)(hf:DFr a z lv i gl o xa hv op)(hs:V s.D<1000)(W:∀a' w' dv',DFr a' z lv i gl o xa hv op->gA a' 8=U G (s.D.headD 0)->PM w' B z s.take ev dv' wv gr gh ons hvs D->JX (fun k=>k=z) w w'->NG prog ((aR f75).drop 3) (Exit.then N Q) a' w'):
  NG prog ((aR f75).drop 0) (Exit.then N Q) a w:=by
 obtain⟨⟨sz,L,s0,s1,s4⟩,s5,s6,s7,p⟩:=hf;have H:=MS h;have E:=MS W;have f4:=h.blk.free 4;have f5:=h.blk.free 5;have lz:=h.blk.lt;have b5:=h.blk.cell (i:=5) (v:=F s.short) Z;rw[OQ sz L];simp only[x7,List.range.loop,xh,xi,s0,s1,s4,s5,s6,s7,p];generalize gA a=f;clear s0 s1 s4 s5 s6 s7 p sz L W
 cases hr:s.D with
 |nil =>
  have g:=h.rd;rw[hr]at g;obtain⟨u,y,rfl⟩:∃u y,dv=M u 0 y:=by
   rcases g with⟨_,a,c,e⟩|⟨b,o,c,e,_⟩
   ·exact⟨a,c,e⟩
   ·exact⟨_,c,e⟩
  have c4:=h.blk.cell (i:=4) (v:=M u 0 y) Z;have t:MT (s.take={s with short:=I}):=by unfold MT J.PS.take;rw[hr];simp
  have HR:=MS hr;clear h g hr;refine MX 0 oD Z (fun K d=>?_)
  conv=>arg 2;whnf
  go_wp2_with fail;refine d.o _ _ ?_;clear d;refine MX 1 oD Z (fun K d=>?_)
  conv=>arg 2;whnf
  go_wp2_with fail;refine d.o _ _ ?_;clear d;refine MX 2 oD Z (fun K d=>?_)
  conv=>arg 2;whnf
  go_wp2_with fail;refine d.o _ _ ?_;clear d;refine E.o _ _ _ ⟨⟨Z,Z,Z,Z,Z⟩,Z,Z,Z,Z⟩ (by rw[HR.o];rfl) (by rw[t.o];exact H.sht) (JX.set (P:=fun k=>k=z) (JX.refl _ _) (xF Z) _ _)
 |cons x l =>
  have g:=h.rd;rw[hr]at g;obtain⟨b,o',c,o2,c2,rfl,ab,aa,ad,j⟩:=g.tl;have X:(0:Int)<((V l+1:Nat):Int):=by omega
  have ac:V l<1000:=by rw[hr]at hs;simp at hs;omega
  have c4:=h.blk.cell (i:=4) (v:=M (Y ⟨b,o',C⟩) (V l+1) c) Z;have t:MT (s.take={s with D:=l}):=by unfold MT J.PS.take;rw[hr];simp
  have HR:=MS hr;have r:=MS j;generalize hm:V l=m at*;clear h g hr hs j hm;refine MX 0 oD Z (fun K d=>?_)
  conv=>arg 2;whnf
  go_wp2_with fail;refine d.o _ _ ?_;clear d;refine MX 1 oD Z (fun K d=>?_)
  conv=>arg 2;whnf
  go_wp2_with fail;refine d.o _ _ ?_;clear d;refine MX 2 oD Z (fun K d=>?_)
  conv=>arg 2;whnf
  go_wp2_with fail;refine d.o _ _ ?_;clear d;refine E.o _ _ _ ⟨⟨Z,Z,Z,Z,Z⟩,Z,Z,Z,Z⟩ (by rw[HR.o];rfl) (by rw[t.o];exact H.MI r.o) (JX.set (P:=fun k=>k=z) (JX.refl _ _) (xF Z) _ _)
def aW(d:Func):List Code:=dR (jD ((aR d).getD 6 .skip))
def aA(d:Func):List Code:=dR (jD ((aW d).getD 2 .skip))
def DE:(aW f75).length=4:=by kernel_rfl
def Bg:(aA f75).length=2:=by kernel_rfl
structure DGr(a:Act)(z:Nat)(lv:Value)(i gl o:Nat)(v:Int)(k:Nat):Prop where
 f0:DF0 a z lv i
 s5:gA a 5=.pointer (Y ⟨gl,o,C⟩)
 s8:gA a 8=U G v
 s9:gA a 9=U G (k:Int)
def Bh{j:Value}{E v:Int}{d:List Int}{x:Lh}{s:J.PS}{ev:Value}{Q:Exit->Act->World->Prop}(hQ:lG Q)(h:PM w B z s ev dv wv gr gh ons hvs D)(y:LnC w gl o x bv)(hf:DGr a z lv i gl o v k)(s6:gA a 6=U G E)(m:gA a 10=j)(hs:V s.e<1000)(hB:B<=w.heap.size)(u:gl<B)(c:OP w D j d)(W:∀a' w' ev' ons' K,DGr a' z lv i gl o v k->PM w' B z (s.put [J.wE x E I d]) ev' dv wv gr gh ons' hvs K->JX (fun k=>B<=k) w w'->N a' w'):
  NG prog ((aW f75).drop 3) (Exit.then N Q) a w:=by
 obtain⟨⟨sz,L,s0,s1,s4⟩,s5,s8,s9⟩:=hf;obtain⟨wa,wn,wc,rfl⟩:=c.form;have HS:=MS (SC.of h y);have H:=MS h;have HL:=MS y;have HN:=MS W;have r:=MS c;clear h y W c;rw[OQ sz L];simp only[x7,List.range.loop,xh,xi,s0,s1,s4,s5,s6,s8,s9,m];generalize gA a=f;clear s0 s1 s4 s5 s6 sz L s8 s9 m;refine MX 3 DE Z fun K1 p=>?_
 conv=>arg 2;whnf
 refine Pop.aQ (S:=SC z gl o ev wv s.round x) (by kernel_rfl) _ Z (by kernel_rfl) HS.o fun b=>?_;simp only[xw,xx,xn,xy,xb,Pop.qU]
 iterate 20
  refine Pop.tk Z (by kernel_rfl) (fun _ _ _ h=>hQ _ _ _ _ _ h) Z fun w t=>by dsimp only[SC]at t;go_simp;with_reducible rfl b ?_;simp only[x9,xo,xp,xq,xb]
 refine Pop.bW Z (by kernel_rfl) Z ?_;go_simp;refine AG H.o HL.o u hB hs [J.wE x E I d] [M wa wn wc] Z (by simp) (by simp) (by simp;rfl) (fun i X=>?_) Z Z Z (by kernel_rfl) ⟨Z,Z,Z⟩ ⟨Z,Z,Z⟩ ⟨Z,Z,Z⟩ ⟨Z,Z,Z⟩ Z (by decide) Z Z Z fun g aa w5 K _ hP hX=>?_
 ·simp at X;subst X;exact r.o
 ·refine p.o _ _ ?_;show N _ _;exact HN.o _ _ _ _ _ ⟨⟨Z,Z,Z,Z,Z⟩,Z,Z,Z⟩ hP hX
def Sy{v:Int}{t:List Int}{x:Lh}{s:J.PS}{ev:Value}{Q:Exit->Act->World->Prop}{ad:Bool}(hQ:lG Q)(h:PM w B z s ev dv wv gr gh ons hvs D)(hl:LnC w gl o x bv)(hf:DFr a z lv i gl o xa hv x.op)(s8:gA a 8=U G v)(s9:gA a 9=U G (k:Int))(hs:V s.e<1000)(hB:B<=w.heap.size)(ah:gl<B)(ai:OP w D hv t)(au:V t+V s.way<1000000000000)(aD:0<=v/\v<4)(aC:0<=xa/\xa<4)(pa:(x.op.toList==[97,100,100])=ad)(hN:∀a' w' g b D',DGr a' z lv i gl o v k->PM w' B z (s.put [J.wE x (cond ad ((xa+v)%4) xa) I (cond ad (t++s.way++[(k:Int)]) (t++s.way))]) g dv wv gr gh b hvs D'->JX (fun k=>B<=k) w w'->N a' w'):
  NG prog ((aW f75).drop 0) (Exit.then N Q) a w:=by
 obtain⟨i0,hi,aw,ax,ay⟩:∃i0,prog.info? 3=Y i0/\i0.zero=Y (U G 0)/\i0.size=1/\i0.bytes=8:=RW Tryz.OC;obtain⟨⟨sz,df,s0,s1,s4⟩,s5,s6,s7,al⟩:=hf;have am:=MS ai;have c3:=h.blk.cell (i:=3) (v:=wv) Z;have lz:=h.blk.lt;have H:=MS h;have HL:=MS hl;have HN:=MS hN;have o0:=hl.op;have az:=hl.lt;clear h hl hN ai;rw[OQ sz df];simp only[x7,List.range.loop,xh,xi,s0,s1,s4,s5,s6,s7,al,s8,s9];generalize gA a=f;clear s0 s1 s4 s5 s6 s7 al sz df s8 s9;have aj:V t+V s.way<10000000000000:=by omega
 refine MX 0 DE Z (fun K W=>?_)
 conv=>arg 2;whnf
 go_wp2_with(first|(go_at_call 76;refine(xO hv wv t s.way _ (am.of (fun _ _ e=>e.elim)) (H.wr.of (fun _ _ e=>e.elim)) aj).mono ?_;rintro e L ⟨aE,rfl,p,m,ag⟩;have E:=MS p;have ao:=MS m;have c:=MS ag;clear p m ag));refine W.o _ _ ?_;clear W;have aq:=MS (H.X c.o);have ab:=MS (HL.x (JX.of (P:=fun _=>False) c.o) (fun e=>e));have ar:B<=L.heap.size:=x3 hB c.size;have o1:=ab.op;have aB:=ab.lt;clear o0 c3 lz az;refine MX 1 DE Z (fun K W=>?_)
 conv=>arg 2;whnf
 go_wp2_with fail;refine W.o _ _ ?_;clear W;refine MX 2 DE Z (fun K2 ac=>?_)
 conv=>arg 2;whnf
 cases ad with
 |false =>
  refine wp_cond_false (by first|rfl|(simp only[pa];rfl)) (wp_skip (ac.o _ _ ?_));refine Bh hQ aq.o ab.o ⟨⟨Z,Z,Z,Z,Z⟩,Z,Z,Z⟩ Z Z hs ar ah (E.mL (D:=D) (fun y hy=>H.low y hy) ao.o) (fun a' w' g b D' h1 h2 h3=>HN.o a' w' g b D' h1 h2 ((JX.of c.o).trans h3 (fun _ _ e=>e)))
 |true =>
  refine wp_cond_true (by first|rfl|(simp only[pa];rfl)) (PW _ _ _ _ ?_);show NG prog ((aA f75).drop 0) _ _ L;refine MX 0 Bg Z (fun K W=>?_)
  conv=>arg 2;whnf
  go_wp2_with fail;refine W.o _ _ ?_;clear W;refine MX 1 Bg Z (fun K3 an=>?_)
  conv=>arg 2;whnf
  obtain⟨oa,oc,rfl⟩:=RL E.o;have aa:MT (Below L.heap.size L (L.alloc (.cells #[U G (k:Int)] 3))):=(xc L.heap.size L).alloc (Nat.le_refl _) _;have ae:MT ((t++s.way).length<1000000000000):=by unfold MT;rw[xd];exact au
  generalize av:t++s.way=lw at*;clear av;go_wp2_with(first|(at_builtin;refine wpList_append_lies _ Z (.tmp 122) (.tmp 124) 37 Z w.heap.size 3 i0 (U G 0) 1 8 underlying37 hi aw ax ay Z (by decide) _ (V lw) (NT lw) Z (RO E.o aa.o) ⟨L.heap.size,0,C⟩ 1 1 [U G (k:Int)] Z Z (fun j u t=>by rw[RK,Nat.zero_add];exact(Blk.new L [U G (k:Int)] 3).cell t) (by simp;rfl) (by decide) (by have:=ae.o;unfold maxLen;omega) (by have:=ae.o;omega) (x3 c.size aa.size) _ Z ?_;intro g5 c5 w5 r d af ak;have B5:=MS (pT (c.trans (aa.mono c.size)) d (wG E.o));have ap:MT (lY w5 w.heap.size (MU g5 (V lw+1) c5) (lw++[(k:Int)])):=(by unfold MT lY;rw[zT,xd];exact r);clear r d af ak));refine an.o _ _ ?_;show K2 _ _;refine ac.o _ _ ?_;refine Bh hQ (H.X B5.o) (HL.x (JX.of (P:=fun _=>False) B5.o) (fun e=>e)) ⟨⟨Z,Z,Z,Z,Z⟩,Z,Z,Z⟩ Z Z hs (x3 hB B5.size) ah (ap.mL (D:=D) (fun y hy=>H.low y hy) (fun e=>by simp at e)) (fun a' w' g b D' h1 h2 h3=>HN.o a' w' g b D' h1 h2 ((JX.of B5.o).trans h3 (fun _ _ e=>e)))
