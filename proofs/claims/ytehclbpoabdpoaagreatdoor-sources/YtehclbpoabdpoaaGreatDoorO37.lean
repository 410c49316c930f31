import Derived.Test.YtehclbpoabdpoaaGreatDoorO36
set_option linter.all false
set_option maxHeartbeats 0
namespace Go.Proofs.YtehclbpoabdpoaaGreatDoor
open Go Go.RowKit Go.Proofs.Tryz P Q
open scoped Classical
set_option maxRecDepth 1000000
variable {w w' w0:World}{D D':Nat->Prop}{pv v:Value}{es:List J.E}{ons os:List Value}{g k n s sz:Nat}{r:List Int}{a:Option Addr}{t:TypeId}
open List renaming length->T
open _root_.Array renaming size->A
open Go.World renaming heap->V
open Go.Value renaming slice->O,int->N,bool->S
open Option renaming some->I,none->G
open Go.IntKind renaming i64->U
open Bool renaming false->M
open Go.Obj renaming cells->F
open Or renaming inl->xF,inr->xW
open Go.Value renaming ownBlock->xR,oneCell'->xp
open List renaming replicate->x5,length_append->x9,getElem?_eq_getElem->xb,append_nil->xc,getElem?_append_left->xe,mem_of_getElem?->xh,getElem?_append_right->xk,drop_length->xl,length_cons->xm,getElem?_take->xn,getElem?_map->xo
open Go.RowKit.Below renaming refl->x6,heap_setCell->xq
open Nat renaming le_refl->x7,lt_of_lt_of_le->x8,not_lt_zero->xg
open Go.World renaming ownsRow_nil->xa
open Go.Instr renaming slice->xd
open Go.Act renaming eval->xi,put->xj
open Go.Result renaming andThen_ok->xr
namespace J
structure Pth where
 e:List E
 g:List Int
structure Wd where
 es:List E
 base:List Int
 g:List Int
def Wd.add(W:Wd)(p:Pth):Wd:=⟨W.es++p.e,W.base++[(T W.es:Int)],W.g++p.g⟩
def Reach:List (List Pth)->Wd->Wd->Prop
 |[],W,W'=>W'=W
 |ps::r,W,W'=>∃p∈ps,Reach r (W.add p) W'
def ThP(l:List (List Pth))(W:Wd)(o:List Int):Prop:=∃W',Reach l W W'/\pK W'.es W'.base W'.g 0 [] o
def ThC(l:List (List Pth))(W:Wd):Prop:=∃W',Reach l W W'/\RdC W'.es W'.base 0 []
def qC{ps:List Pth}{r:List (List Pth)}{W:Wd}{o:List Int}:ThP (ps::r) W o↔∃p∈ps,ThP r (W.add p) o:=by
 unfold ThP;constructor
 ·rintro⟨b,⟨p,e,c⟩,d⟩;exact⟨p,e,b,c,d⟩
 ·rintro⟨p,e,b,c,d⟩;exact⟨b,⟨p,e,c⟩,d⟩
def pY{ps:List Pth}{r:List (List Pth)}{W:Wd}:ThC (ps::r) W↔∃p∈ps,ThC r (W.add p):=by
 unfold ThC;constructor
 ·rintro⟨b,⟨p,e,c⟩,d⟩;exact⟨p,e,b,c,d⟩
 ·rintro⟨p,e,b,c,d⟩;exact⟨b,⟨p,e,c⟩,d⟩
structure FinOk(L:Nat)(W:Wd):Prop where
 n:T W.es<1000
 three:3<=T W.es
 len:T W.g+3=L
 small:L<=19
 pos:0<T W.g
 rng:∀x∈W.g,0<=x/\x<4
 vals:∀i,i<T W.es->0<=(ev W.es i).val/\(ev W.es i).val<4
 half:∀i,i<T W.es->isStep (ev W.es i)=true->i+1<T W.es
 onk:∀i,3<=i->i<T W.es->OnOk W.es W.base i
end J
def evc(e:J.E)(on:Value):List Value:=[N U e.t,N U e.b,.string e.B,N U e.loc,N U e.val,.string e.ord,.string e.scope,S e.half,N U e.round,on]
def ON:List J.E->List Value->List Value
 |e::es,o::os=>evc e o++ON es os
 |_,_=>[]
def SV:∀{es b:List J.E} {os c:List Value},T os=T es->ON (es++b) (os++c)=ON es os++ON b c
 |[],_,[],_,_=>Z
 |e::es,b,o::os,c,h=>by
  simp only[List.cons_append,ON];rw[SV (es:=es) (os:=os) (by simpa using h),List.append_assoc]
 |[],_,_::_,_,h=>by simp at h
 |_::_,_,[],_,h=>by simp at h
def LD:∀{es:List J.E} {os:List Value},T os=T es->(ON es os).length=T es*10
 |[],[],_=>Z
 |e::es,o::os,h=>by
  simp only[ON,x9,xm];rw[LD (es:=es) (os:=os) (by simpa using h)];simp[evc];omega
 |[],_::_,h=>by simp at h
 |_::_,[],h=>by simp at h
def Au:∀{es:List J.E} {os:List Value} {i f:Nat},T os=T es->i<T es->f<10->(ON es os)[i*10+f]?=(evc (J.ev es i) (os.getD i (S M)))[f]?
 |e::es,o::os,0,f,h,_,hf=>by
  simp only[ON,Nat.zero_mul,Nat.zero_add];rw[xe (by simp[evc];omega)];rfl
 |e::es,o::os,i+1,f,h,hi,hf=>by
  simp only[ON];rw[xk (by simp[evc];omega)];have e1:(i+1)*10+f-(evc e o).length=i*10+f:=by simp[evc];omega
  rw[e1,Au (es:=es) (os:=os) (by simpa using h) (by simpa using hi) hf];rfl
 |[],_,_,_,_,hi,_=>by simp at hi
 |_::_,[],_,_,h,_,_=>by simp at h
structure EvC(w:World)(D:Nat->Prop)(v:Value)(es:List J.E)(ons:List Value):Prop where
 sl:SlC w v (T es) (ON es ons) 10
 len:T ons=T es
 on:∀i,i<T es->OP w D (ons.getD i (S M)) (J.ev es i).on
def EvC.pR{j l:Value}{b:List J.E}{d:List Value}(h:EvC w D j es os)(k:EvC w D l b d)(hs:SlC w v (T es+T b) (ON es os++ON b d) 10):EvC w D v (es++b) (os++d):=by
 refine⟨by rw[x9,SV h.len];exact hs,by simp[h.len,k.len],fun i e=>?_⟩;by_cases c:i<T es
 ·have e1:(os++d).getD i (S M)=os.getD i (S M):=by simp[xe (show i<T os by rw[h.len];exact c)]
  have e2:J.ev (es++b) i=J.ev es i:=by unfold J.ev;simp[xe c]
  rw[e1,e2];exact h.on i c
 ·have f:i-T es<T b:=by rw[x9]at e;omega
  have e1:(os++d).getD i (S M)=d.getD (i-T es) (S M):=by
   simp[xk (show T os<=i by rw[h.len];omega),h.len]
  have e2:J.ev (es++b) i=J.ev b (i-T es):=by unfold J.ev;simp[xk (show T es<=i by omega)]
  rw[e1,e2];exact k.on _ f
def EvC.jev{b c:Nat}(h:EvC w D (MU b n c) es os){i:Nat}(m:i<T es):SM w b (i*10) (J.ev es i)/\w.cell? ⟨b,i*10+9,G⟩=I (os.getD i (S M)):=by
 rcases h.sl with⟨e,_⟩|⟨p,d,e,j,_⟩
 ·cases e
 ·cases e;have k:∀f u,f<10->(evc (J.ev es i) (os.getD i (S M)))[f]?=I u->w.cell? ⟨b,i*10+f,G⟩=I u:=fun f u l o=>j _ u (by rw[Au h.len m l];exact o)
  exact⟨⟨k 0 _ (by omega) Z,k 1 _ (by omega) Z,k 2 _ (by omega) Z,k 3 _ (by omega) Z,k 4 _ (by omega) Z,k 5 _ (by omega) Z,k 6 _ (by omega) Z,k 7 _ (by omega) Z,k 8 _ (by omega) Z⟩,k 9 _ (by omega) Z⟩
def TB(es:List J.E)(os:List Value)(h:∀o∈os,o.oneCell'=true):∀u∈ON es os,u.oneCell'=true:=by
 induction es generalizing os with
 |nil=>intro u b;simp[ON]at b
 |cons e es ih =>
  cases os with
  |nil=>intro u b;simp[ON]at b
  |cons o os =>
   intro u b;simp only[ON,List.mem_append]at b
   rcases b with b|b
   ·simp only[evc,List.mem_cons,List.mem_nil_iff,or_false]at b
    rcases b with rfl|rfl|rfl|rfl|rfl|rfl|rfl|rfl|rfl|rfl
    all_goals first|rfl|exact h _ (by simp)
   ·exact ih os (fun x c=>h x (List.mem_cons_of_mem _ c)) u b
def OP.bW(h:OP w D v r):v.oneCell'=true:=by
 rcases h with⟨rfl,_⟩|⟨_,b,c,rfl,_⟩<;>rfl
structure PAt(w:World)(g z:Nat)(p:J.Pth):Prop where
 zl:z<A (V w)
 zn:z≠g
 e:∃ve ons,w.cell? ⟨z,0,G⟩=I ve/\EvC w (fun k=>k=g) ve p.e ons/\ve.ownBlock≠I g
 r:∃vr,w.cell? ⟨z,1,G⟩=I vr/\SlC w vr (T p.g) (NT p.g) 1/\vr.ownBlock≠I g
def R9(w:World)(g:Nat)(v:Value)(ps:List J.Pth):Prop:=∃b cap,v=MU b (T ps) cap/\b<A (V w)/\b≠g/\∀k p,ps[k]?=I p->∃z,w.cell? ⟨b,k,G⟩=I (.pointer (I ⟨z,0,G⟩))/\PAt w g z p
def SN(w:World)(g:Nat)(v:Value)(pss:List (List J.Pth)):Prop:=∃b cap,v=MU b (T pss) cap/\b<A (V w)/\b≠g/\∀t ps,pss[t]?=I ps->∃u,w.cell? ⟨b,t,G⟩=I u/\R9 w g u ps
structure BsAt(w:World)(B:Nat)(v:Value)(l:List Int):Prop where
 at_:v=O G 0 0/\l=[]\/∃b cap cur,v=MU b (T l) cap/\Blk w b cur 3/\B<=b/\T l<=cap/\cap<=T cur/\∀j (h:j<T l),cur[j]?=I (N U l[j])
section
variable {w w':World}{B:Nat}{v:Value}{l:List Int}
def BsAt.form(h:BsAt w B v l):∃a c,v=O a (T l) c/\T l<=c:=by
 rcases h.at_ with⟨rfl,rfl⟩|⟨b,d,e,rfl,_,_,h,_⟩
 ·exact⟨G,0,Z,x7 _⟩
 ·exact⟨_,d,Z,h⟩
def BsAt.keep(h:BsAt w B v l)(e:∀b,v.ownBlock=I b->w'.heap[b]?=w.heap[b]?):BsAt w' B v l:=by
 rcases h.at_ with k|⟨b,c,d,rfl,f,i⟩
 ·exact⟨xF k⟩
 ·exact⟨xW ⟨b,c,d,Z,f.keep (e b Z),i⟩⟩
def BsAt.lt(h:BsAt w B v l):∀b,v.ownBlock=I b->B<=b/\b<A (V w):=fun b c=>by
 rcases h.at_ with⟨rfl,_⟩|⟨j,d,e,rfl,f,i,_⟩
 ·cases c
 ·cases c;exact⟨i,f.lt⟩
def BsAt.X(h:BsAt w B v l)(c:Below (A (V w)) w w'):BsAt w' B v l:=h.keep fun b e=>c.block b (h.lt b e).2
def BsAt.cut{c:Nat}(h:BsAt w B (O a (T l) c) l)(t:Nat)(x:t<=T l):BsAt w B (O a t c) (l.take t):=by
 have f:(l.take t).length=t:=by simp;omega
 rcases h.at_ with⟨e,rfl⟩|⟨b,i,d,e,m,o,y,p,q⟩
 ·cases e;have:t=0:=by simpa using x
  subst this;exact⟨xF ⟨Z,Z⟩⟩
 ·cases e;exact⟨xW ⟨b,c,d,by rw[f],m,o,by rw[f];omega,p,fun j u=>by rw[q j (by rw[f]at u;omega)];simp⟩⟩
end
def Sa(w:World){q:Array Oper}{rest:List Oper}{o:Oper}{a:Act}{Q:Exit->Act->World->Prop}(hg:o.guard=G)(s x:Operand)(X:o.op=Op.call {callee:=Callee.builtin Builtin.append,args:=#[s,x],argTypes:=#[37,37]})(B:Nat)(v:Value)(l:List Int)(hs:a.eval s=v)(h:BsAt w B v l)(hB:B<=A (V w))(i:Addr)(c:Nat)(u:Int)(hx:a.eval x=O (I i) 1 c)(hu:w.cell? i=I (N U u))(hn:T l<100000)(hK:∀E C w',BsAt w' B (O E (T l+1) C) (l++[u])->w.grownBy w' v.ownBlock->(∀b,xR (O E (T l+1) C)=I b->v.ownBlock=I b\/A (V w)<=b)->wpList prog q Q rest (a.put o.dst (O E (T l+1) C)) w'):
  wpList prog q Q (o::rest) a w:=by
 obtain⟨p,hi,Y,aa,ab⟩:∃p,prog.info? 3=I p/\p.zero=I (N U 0)/\p.size=1/\p.bytes=8:=RW Tryz.OC;have W:∀j u',([N U u]:List Value)[j]?=I u'->w.cell? (i.add j)=I u':=fun j u' f=>by
  cases j with
  |zero =>
   simp at f;subst f;have e0:i.add 0=i:=by unfold Addr.add;split<;>simp_all
   rw[e0];exact hu
  |succ j=>simp at f
 have fin:∀z w',w'.ownsRow (A (V w)) 3 1 z (T l+1) (NT l++[N U u])->w.grownBy w' G->wpList prog q Q rest (a.put o.dst z) w':=fun z w' m d=>by
  obtain⟨E,C,rfl⟩:=RL m;refine hK E C w' ⟨xW ?_⟩ ⟨d.os,d.tape,d.output,d.size,fun k hk _=>d.block k hk (by simp)⟩ fun b hb=>xW (m.lt b hb).1;have hl:(l++[u]).length=T l+1:=by simp
  obtain⟨_,h⟩:=m
  rcases h with⟨_,h⟩|⟨g,c2,cu,e,ae,af,ag,ak,ah,ai⟩
  ·omega
  ·refine⟨g,C,cu.toList,by rw[hl];cases e;rfl,by unfold Blk;rw[af],Nat.le_trans hB ae,by rw[hl];cases e;exact ag,by cases e;simp[ah],fun j f=>?_⟩;rw[hl]at f;have e2:(cu.toList.take ((T l+1)*1))[j]?=cu.toList[j]?:=by rw[xn,if_pos (by omega)]
   have e3:NT l++[N U u]=NT (l++[u]):=by simp[NT]
   rw[<- e2,ai,e3];simp only[NT,xo];rw[xb (by rw[hl];exact f)];rfl
 have J:(T l+1)*8<=140737488355328:=by omega
 have L:T l+1<=maxLen:=by unfold maxLen;omega
 rcases h.at_ with⟨rfl,rfl⟩|⟨b,H,ac,rfl,h1,h2,h3,h4,h5⟩
 ·refine wpList_append_grows w hg s x 37 X 3 p (N U 0) 1 8 underlying37 hi Y aa ab Z (by decide) G 0 0 [] hs (fun _=>⟨Z,Z⟩) Z (fun b e=>by cases e) i 1 c [N U u] hx Z W (by simp[xp]) (by omega) L J fun z w' m d=>?_;exact fin z w' (by simpa[NT]using m) d
 ·refine wpList_append_arg w hg s x 37 X 3 p (N U 0) 1 8 underlying37 hi Y aa ab Z (by decide) b 0 (T l) H (NT l) hs (by simp[NT]) (fun j u' f=>?_) i 1 c [N U u] hx Z W (by simp[xp]) (fun hr j f=>?_) L J (fun hr=>?_) fun hr z w' m d=>fin z w' m d
  ·unfold NT at f;rw[xo]at f;obtain⟨y,hy,rfl⟩:=Option.map_eq_some_iff.1 f;obtain⟨aj,rfl⟩:=List.getElem?_eq_some_iff.1 hy;rw[Nat.zero_add];exact h1.cell (h5 j aj)
  ·simp at f;subst f;refine⟨?_,h1.free _⟩;rw[h1.cell (xb (by omega))];rfl
  ·have e1:w.setCells b (0+T l*1) [N U u]=w.setCell ⟨b,T l,G⟩ (N U u):=by simp[World.setCells]
   rw[e1];refine hK _ _ _ ⟨xW ⟨b,H,ac.set (T l) (N U u),by simp,h1.set _ _,h2,by simpa using hr,by simpa using h4,fun j f=>?_⟩⟩ (dG (fH _ _) _ _) fun b' hb=>xF hb;rw[List.getElem?_set];by_cases c:j=T l
   ·subst c;rw[if_pos rfl,if_pos (by omega)];simp
   ·have K:j<T l:=by simp at f;omega
    rw[if_neg (by omega),h5 j K,List.getElem_append_left K]
structure QD(w0 w:World)(D:Nat->Prop)(g:Nat)(pv ev rv bv fv av ov:Value)(pss:List (List J.Pth))(W:J.Wd)(X:List J.E)(Y:List Int)(ons:List Value)(L:Nat)(rs:List (List Int))(c:Bool)(bl:List Int):Prop where
 old:JX (fun k=>k=g) w0 w
 ps:SN w0 g pv pss
 gl:g<A (V w0)
 blk:Blk w g (jw M pv ev rv bv fv av ov c) 109
 K:EvC w D ev (W.es++X) ons
 evo:∀b,ev.ownBlock=I b->¬D b
 rg:SlQ w rv (W.g++Y).length (NT (W.g++Y)) 1
 rgo:∀b,rv.ownBlock=I b->¬D b
 bs:BsAt w (A (V w0)) bv bl
 bll:T W.base<=T bl
 bp:bl.take (T W.base)=W.base
 bd:∀b,bv.ownBlock=I b->D b
 y:QP w D ov rs
 rise:QB rs
 ok:∀r∈rs,J.Ok L r
 low:∀x,D x->x<A (V w)
 dg:D g
 dlow:∀x,D x->x=g\/A (V w0)<=x
 e3:3<=T W.es
 en:T W.es<=3+100*T W.base
 rn:T W.g=4*T W.base
 pk:∀ps∈pss,∀p∈ps,T p.e<=100/\T p.g=4
 pl:∀ps∈pss,T ps<=1000
def SlC.x{P:Nat->Prop}{cs:List Value}(h:SlC w v k cs sz)(c:JX P w w')(d:∀b,v.ownBlock=I b->¬P b):SlC w' v k cs sz:=h.keep (fun b e=>c.block b (h.lt b e) (d b e)) c.size
def OP.of(h:OP w D v r)(b:∀x,x<A (V w)->D' x->D x):OP w D' v r:=h.imp id fun k=>⟨k.1,k.2.of b⟩
def SlQ.x{P:Nat->Prop}{cs:List Value}(h:SlQ w v k cs sz)(c:JX P w w')(d:∀b,v.ownBlock=I b->¬P b):SlQ w' v k cs sz:=h.keep (fun b e=>c.block b (h.lt b e) (d b e)) c.size
def EvC.x{P:Nat->Prop}(h:EvC w D v es os)(c:JX P w w')(f:∀b,v.ownBlock=I b->¬P b)(d:∀x,x<A (V w)->P x->D x):EvC w' D v es os:=⟨h.sl.x c f,h.len,fun i e=>(h.on i e).x c d⟩
def EvC.of(h:EvC w D v es os)(c:∀x,x<A (V w)->D' x->D x):EvC w D' v es os:=⟨h.sl,h.len,fun i b=>(h.on i b).of c⟩
def Sb(w0 w w':World)(D:Nat->Prop)(g:Nat)(pv:Value)(pss:List (List J.Pth))(W:J.Wd)(L:Nat)(rs:List (List Int))(c:Bool)(P:List Int->Prop)(C:Prop):Prop :=
 ∃D' ev' rv' bv' fv' av' ov' rs' c' ons' bl',QD w0 w' D' g pv ev' rv' bv' fv' av' ov' pss W [] [] ons' L rs' c' bl'/\(∀x,D x->D' x)/\(∀x,D' x->D x\/A (V w)<=x)/\JX D w w'/\J.Grew L rs rs' c c' P C
def AZ(w0:World)(g:Nat)(pv:Value)(pss:List (List J.Pth))(L:Nat)(t:Nat):Prop :=
 ∀(w:World) (D:Nat->Prop) (ev rv bv fv av ov:Value) (W:J.Wd) (ons:List Value) (rs:List (List Int)) (c:Bool),QD w0 w D g pv ev rv bv fv av ov pss W [] [] ons L rs c W.base->T W.base=t->(∀W',J.Reach (pss.drop t) W W'->J.FinOk L W') ->
  Calls prog 40 #[.pointer (I ⟨g,0,G⟩),N U (t:Int)] w fun e w'=>e=.returned (.tuple #[])/\Sb w0 w w' D g pv pss W L rs c (J.ThP (pss.drop t) W) (J.ThC (pss.drop t) W)
def Sc(n:Nat)(b:n<1000):∀w,(Instr.makeSlice 37 (N U (n:Int)) (N U (n:Int))).run prog w=.ok (MU (A (V w)) n n) (w.alloc (F (NT (x5 n 0)).toArray 3)):=fun w=>by
 have e:(NT (x5 n 0)).toArray=madeCells #[N U 0] n:=by rw[zM];simp[NT,List.map_const']
 rw[e];exact run_make_row' 37 3 (N U 0) 8 underlying37 Tryz.OC rfl U U n (by omega) (by omega) w
def QD.jr{w2:World}{q C:Nat}{H B fv av ov:Value}{pss:List (List J.Pth)}{W:J.Wd}{L:Nat}{rs:List (List Int)}{c:Bool}(h:QD w0 w D g pv (MU q (T W.es) C) H B fv av ov pss W [] [] ons L rs c W.base)(f:J.FinOk L W)(u:0<T W.base)(p:JX (fun k=>k=g) w w2)(j:Blk w2 g (jw M pv (MU q (T W.es) C) H B (MU (A (V w)) (T W.es) (T W.es)) (MU (A (V w)+1) (T W.es) (T W.es)) ov c) 109)(hf:Blk w2 (A (V w)) (NT (x5 (T W.es) 0)) 3)(ha:Blk w2 (A (V w)+1) (NT (x5 (T W.es) 0)) 3):
  JR w2 (fun k=>D k\/k=A (V w)\/k=A (V w)+1) g q C (A (V w)) (T W.es) (A (V w)+1) (T W.es) W.es (x5 (T W.es) 0) (x5 (T W.es) 0) W.base W.g pv H B ov L rs c:=by
 have lt:∀x,x<A (V w)->D x\/x=A (V w)\/x=A (V w)+1->D x:=fun x p e=>e.elim id fun e=>by omega
 have z:=h.K;rw[xc]at z;have d:EvC w2 (fun k=>D k\/k=A (V w)\/k=A (V w)+1) (MU q (T W.es) C) W.es ons:=(z.of lt).x p (fun b j e=>h.evo b j (by rw[e];exact h.dg)) fun x _ e=>xF (by rw[e];exact h.dg);have o:=h.rg;rw[xc]at o;have Y:QQ w2 (fun k=>D k\/k=A (V w)\/k=A (V w)+1) H W.g:=by
  have k:=(o.x p fun b j e=>h.rgo b j (by rw[e];exact h.dg)).c f.pos;have ll:=o.lt;have ro:=h.rgo;have hp:=f.pos
  rcases k with⟨_,k2,_⟩|⟨b,m,rfl,E,k2,_⟩
  ·omega
  ·refine⟨b,m,Z,fun i l=>E i _ (by simp[NT,l]),k2,?_⟩;rintro(e|e)
   ·exact ro b Z e
   ·have:=ll b Z;omega
 have X:BsAt w2 (A (V w0)) B W.base:=h.bs.keep (fun b j=>p.block b (h.bs.lt b j).2 fun e=>by have:=(h.bs.lt b j).1;have:=h.gl;omega);refine⟨j,fun i l=>(d.jev l).1,?_,f.n,fun i l=>⟨_,(d.jev l).2,d.on i l⟩,hf,by simp,ha,J.AtOk.start _,Y,?_,?_,h.rise,h.ok,f.len,f.small,f.pos,f.rng,f.vals,f.half,f.three,?_,xF h.dg,xW (xF Z),xW (xW Z),by omega,f.onk⟩
 ·exact d.sl.lt q Z
 ·have l1:=h.bs.lt;have l2:=h.gl
  rcases X.at_ with⟨_,e⟩|⟨b,m,aa,rfl,E,k2,k3,k4,k5⟩
  ·rw[e]at u;simp at u
  ·have:=l1 b Z;exact⟨b,m,Z,fun i l=>E.cell (k5 i l),E.lt,by omega⟩
 ·exact(h.y.of lt).x p fun x _ e=>xF (by rw[e];exact h.dg)
 ·rintro x (e|rfl|rfl)
  ·exact x8 (h.low x e) p.size
  ·exact hf.lt
  ·exact ha.lt
def Sd{pss:List (List J.Pth)}{L:Nat}(hp:0<T pss):AZ w0 g pv pss L (T pss):=by
 intro w D ev rv bv fv av ov W ons rs c h ht hF;have p:J.FinOk L W:=hF W (by rw[xl];rfl);have hn:=p.n;have h3:=p.three;have ax:=Sc (T W.es) hn;have an:∃ge ce,ev=MU ge (T W.es) ce:=by
  have k:=h.K.sl;rw[xc]at k
  rcases k with⟨_,k,_⟩|⟨b,aa,e,_⟩
  ·omega
  ·exact⟨b,aa,e⟩
 obtain⟨ge,ce,rfl⟩:=an;have ao:∃gp cp,pv=MU gp (T pss) cp:=by
  obtain⟨b,aa,e,_⟩:=h.ps;exact⟨b,aa,e⟩
 obtain⟨gp,cp,rfl⟩:=ao;have c1:=h.blk.cell (i:=1) (v:=MU gp (T pss) cp) Z;have c2:=h.blk.cell (i:=2) (v:=MU ge (T W.es) ce) Z;have c5:=h.blk.cell (i:=5) (v:=fv) Z;have c6:=h.blk.cell (i:=6) (v:=av) Z;have f5:=h.blk.free 5;have f6:=h.blk.free 6;have lg:=h.blk.lt;have H:=MS h;have ai:=MS p;have al:=MS ht;have ak:=MS hp;clear h hF p ht hp;have d:=fun x1 x2 x3 x4=>Ar (pv:=MU gp (T pss) cp) (rv:=rv) (bv:=bv) (L:=L) (T W.es) 0 (by omega) _ ov rs c _ _ (H.jr (w2:=(((w.setCell ⟨g,5,G⟩ (MU (A (V w)) (T W.es) (T W.es))).setCell ⟨g,6,G⟩ (MU (A (V w)+1) (T W.es) (T W.es))).alloc (F (NT (x5 (T W.es) 0)).toArray 3)).alloc (F (NT (x5 (T W.es) 0)).toArray 3)) ai.o (by rw[al.o];exact ak.o) x1 x2 x3 x4) fun j u=>absurd u (xg _)
 generalize q:(w.setCell ⟨g,5,G⟩ (MU (A (V w)) (T W.es) (T W.es))).setCell ⟨g,6,G⟩ (MU (A (V w)+1) (T W.es) (T W.es))=m at d;have ad:A (V m)=A (V w):=by rw[<- q];simp
 have ag:JX (fun k=>k=g) w m:=by rw[<- q];exact JX.set (P:=fun k=>k=g) (JX.set (P:=fun k=>k=g) (JX.refl _ _) (xF Z) _ _) (xF Z) _ _
 have af:Blk m g (jw M (MU gp (T pss) cp) (MU ge (T W.es) ce) rv bv (MU (A (V w)) (T W.es) (T W.es)) (MU (A (V w)+1) (T W.es) (T W.es)) ov c) 109:=by rw[<- q];exact(H.blk.set 5 _).set 6 _
 have n1:=Blk.new m (NT (x5 (T W.es) 0)) 3;have n2:=Blk.new (m.alloc (F (NT (x5 (T W.es) 0)).toArray 3)) (NT (x5 (T W.es) 0)) 3;rw[ad]at n1;rw[show(m.alloc (F (NT (x5 (T W.es) 0)).toArray 3)).heap.size=A (V w)+1 by simp[ad]]at n2;have ab:Below (A (V m)) m ((m.alloc (F (NT (x5 (T W.es) 0)).toArray 3)).alloc (F (NT (x5 (T W.es) 0)).toArray 3)):=((x6 _ _).alloc (x7 _) _).alloc (by simp) _;have Y:MT (JX (fun k=>k=g) w ((m.alloc (F (NT (x5 (T W.es) 0)).toArray 3)).alloc (F (NT (x5 (T W.es) 0)).toArray 3))):=ag.X ab;have E:=MS (d Y.o (af.X ab) (n1.alloc _) n2);subst q;clear d ad ag af n1 n2 ab;have ay:((T pss:Int)==(T pss:Int))=true:=by simp
 go_enter func40,ntmps40;go_wp2_with(first
  |(go_at_call 77;refine Calls.mono E.o ?_;rintro e w5 ⟨rfl,aq,ar,am,aw,au,C,ac,ah,B⟩;have l:=MS C;have ae:=MS ah;have aj:=MS B;clear C ac ah B))
 refine bodyPost_ret (results_none Z _ _ _) Z ?_;have ap:JX D w w5:=(Y.mono (P':=D) fun x _ e=>by rw[e];exact H.dg).trans ae.o fun x hx e=>by
  rcases e with e|e|e
  ·rw[e];exact H.dg
  ·omega
  ·omega
 have z:JX (fun k=>k=g) w w5:=Y.trans ae.o fun x hx e=>by
  rcases e with e|e|e
  ·exact e
  ·omega
  ·omega
 have lt:∀x,x<A (V w)->D x\/x=A (V w)\/x=A (V w)+1->D x:=fun x hx e=>e.elim id fun e=>by omega
 refine⟨Z,fun k=>D k\/k=A (V w)\/k=A (V w)+1,_,_,_,_,_,aq,ar,am,ons,W.base,⟨?_,H.ps,H.gl,l.blk,?_,?_,?_,?_,?_,x7 _,by simp,fun b f=>xF (H.bd b f),l.y,l.rise,l.ok,l.low,xF H.dg,?_,H.e3,H.en,H.rn,H.pk,H.pl⟩,fun x e=>xF e,?_,ap,aj.to (fun o=>?_) ?_⟩
 ·exact H.old.trans z fun _ _ e=>e
 ·exact(H.K.of lt).x z (fun b f e=>H.evo b f (by rw[e];exact H.dg)) fun x _ e=>xF (by rw[e];exact H.dg)
 ·rintro b f (e|e)
  ·exact H.evo b f e
  ·have:=H.K.sl.lt b f;omega
 ·exact H.rg.x z fun b f e=>H.rgo b f (by rw[e];exact H.dg)
 ·rintro b f (e|e)
  ·exact H.rgo b f e
  ·have:=H.rg.lt b f;omega
 ·exact H.bs.keep fun b f=>z.block b (H.bs.lt b f).2 fun e=>by have:=(H.bs.lt b f).1;have:=H.gl;omega
 ·have:=H.old.size;rintro x (e|e|e)
  ·exact H.dlow x e
  ·omega
  ·omega
 ·rintro x (e|e|e)
  ·exact xF e
  ·omega
  ·omega
 ·unfold J.ThP;rw[xl];constructor
  ·intro k;exact⟨W,Z,(J.gE _ _ fun j u=>absurd u (xg _)).1 k⟩
  ·rintro⟨W',rfl,k⟩;exact(J.gE _ _ fun j u=>absurd u (xg _)).1 k
 ·unfold J.ThC;rw[xl];constructor
  ·intro k;exact⟨W,Z,(J.gL fun j u=>absurd u (xg _)).1 k⟩
  ·rintro⟨W',rfl,k⟩;exact(J.gL fun j u=>absurd u (xg _)).1 k
section
variable {w0 w w':World}{D:Nat->Prop}{g:Nat}{pv ev rv bv fv av ov:Value}{pss:List (List J.Pth)}{W:J.Wd}{Xs:List J.E}{Y:List Int}{ons:List Value}{L:Nat}{rs:List (List Int)}{c:Bool}{bl:List Int}
def QD.IF(h:QD w0 w D g pv ev rv bv fv av ov pss W Xs Y ons L rs c bl):∀b,bv.ownBlock=I b->b≠g:=fun b d e=>by have:=(h.bs.lt b d).1;have:=h.gl;omega
def QD.eI(h:QD w0 w D g pv ev rv bv fv av ov pss W Xs Y ons L rs c bl){d f:Value}{q:List J.E}{m:List Int}{i:List Value}(l:JX (fun k=>k=g) w w')(j:Blk w' g (jw M pv d f bv fv av ov c) 109)(u:EvC w' D d (W.es++q) i)(o:∀b,d.ownBlock=I b->¬D b)(z:SlQ w' f (W.g++m).length (NT (W.g++m)) 1)(p:∀b,f.ownBlock=I b->¬D b):QD w0 w' D g pv d f bv fv av ov pss W q m i L rs c bl :=
 ⟨h.old.trans l fun _ _ e=>e,h.ps,h.gl,j,u,o,z,p,h.bs.keep fun b j=>l.block b (h.bs.lt b j).2 (h.IF b j),h.bll,h.bp,h.bd,h.y.x l fun x _ e=>by rw[e];exact h.dg,h.rise,h.ok,fun x e=>x8 (h.low x e) l.size,h.dg,h.dlow,h.e3,h.en,h.rn,h.pk,h.pl⟩
def QD.evx(h:QD w0 w D g pv ev rv bv fv av ov pss W Xs Y ons L rs c bl)(f:JX (fun k=>k=g) w w'):EvC w' D ev (W.es++Xs) ons:=h.K.x f (fun b d e=>h.evo b d (by rw[e];exact h.dg)) fun x _ e=>by rw[e];exact h.dg
def QD.rgx(h:QD w0 w D g pv ev rv bv fv av ov pss W Xs Y ons L rs c bl)(f:JX (fun k=>k=g) w w'):SlQ w' rv (W.g++Y).length (NT (W.g++Y)) 1:=h.rg.x f fun b d e=>h.rgo b d (by rw[e];exact h.dg)
def QD.X(h:QD w0 w D g pv ev rv bv fv av ov pss W Xs Y ons L rs c bl)(b:Below (A (V w)) w w'):QD w0 w' D g pv ev rv bv fv av ov pss W Xs Y ons L rs c bl :=
 h.eI (JX.of b) (h.blk.X b) (h.evx (JX.of b)) h.evo (h.rgx (JX.of b)) h.rgo
def QD.base{j:Option Addr}{l:Nat}{f:World}{u:Int}(h:QD w0 w D g pv ev rv bv fv av ov pss W Xs Y ons L rs c bl)(o:BsAt f (A (V w0)) (O j (T W.base+1) l) (W.base++[u]))(z:∀k,k<A (V w)->bv.ownBlock≠I k->f.heap[k]?=w.heap[k]?)(i:f.os=w.os/\f.tape=w.tape/\f.output=w.output/\A (V w)<=A (V f))(E:∀b,xR (O j (T W.base+1) l)=I b->bv.ownBlock=I b\/A (V w)<=b):
  QD w0 (f.setCell ⟨g,4,G⟩ (O j (T W.base+1) l)) (fun k=>D k\/xR (O j (T W.base+1) l)=I k) g pv ev rv (O j (T W.base+1) l) fv av ov pss W Xs Y ons L rs c (W.base++[u]):=by
 have q:JX D w f:=⟨i.1,i.2.1,i.2.2.1,i.2.2.2,fun k C B=>z k C fun e=>B (h.bd k e)⟩;have m:JX D w (f.setCell ⟨g,4,G⟩ (O j (T W.base+1) l)):=JX.set q (xF h.dg) _ _;have p:f.heap[g]?=w.heap[g]?:=z g h.blk.lt fun e=>h.IF g e Z;have lt:∀x,x<A (V w)->D x\/xR (O j (T W.base+1) l)=I x->D x:=fun x m e=>e.elim id fun e=>(E x e).elim (h.bd x) fun k=>by omega
 refine⟨?_,h.ps,h.gl,(h.blk.keep p).set 4 _,?_,?_,?_,?_,?_,by simp,by simp,fun b e=>xW e,?_,h.rise,h.ok,?_,xF h.dg,?_,h.e3,h.en,h.rn,h.pk,h.pl⟩
 ·refine h.old.trans m fun x H e=>?_
  rcases h.dlow x e with k|k
  ·exact k
  ·omega
 ·exact(h.K.of lt).x (P:=D) m (fun b d e=>h.evo b d e) fun x _ e=>xF e
 ·rintro b d (e|e)
  ·exact h.evo b d e
  ·exact h.evo b d (lt b (h.K.sl.lt b d) (xW e))
 ·exact h.rg.x m fun b d e=>h.rgo b d e
 ·rintro b d (e|e)
  ·exact h.rgo b d e
  ·exact h.rgo b d (lt b (h.rg.lt b d) (xW e))
 ·exact o.keep fun b d=>xq _ _ _ _ fun e=>by have:=(o.lt b d).1;have:=h.gl;simp only at e;omega
 ·exact(h.y.of lt).x (P:=D) m fun x _ e=>xF e
 ·rintro x (e|e)
  ·exact x8 (h.low x e) m.size
  ·have:=(o.lt x e).2;simpa using this
 ·rintro x (e|e)
  ·exact h.dlow x e
  ·exact xW (o.lt x e).1
def QD.up{p:J.Pth}(h:QD w0 w D g pv ev rv bv fv av ov pss W p.e p.g ons L rs c (W.base++[(T W.es:Int)]))(b:T p.e<=100/\T p.g=4):QD w0 w D g pv ev rv bv fv av ov pss (W.add p) [] [] ons L rs c (W.add p).base :=
 ⟨h.old,h.ps,h.gl,h.blk,by simpa[J.Wd.add]using h.K,h.evo,by simpa[J.Wd.add]using h.rg,h.rgo,h.bs,x7 _,by simp,h.bd,h.y,h.rise,h.ok,h.low,h.dg,h.dlow,by have:=h.e3;simp[J.Wd.add];omega,by have:=h.en;simp[J.Wd.add];omega,by have:=h.rn;simp[J.Wd.add];omega,h.pk,h.pl⟩
def QD.gZ{p:J.Pth}(h:QD w0 w D g pv ev rv bv fv av ov pss (W.add p) [] [] ons L rs c bl)(f:3<=T W.es)(i:T W.es<=3+100*T W.base)(j:T W.g=4*T W.base):QD w0 w D g pv ev rv bv fv av ov pss W p.e p.g ons L rs c bl:=by
 have d:=h.bll;have b:=h.bp;simp only[J.Wd.add,x9,xm,List.length_nil]at d b;refine⟨h.old,h.ps,h.gl,h.blk,by simpa[J.Wd.add]using h.K,h.evo,by simpa[J.Wd.add]using h.rg,h.rgo,h.bs,by omega,?_,h.bd,h.y,h.rise,h.ok,h.low,h.dg,h.dlow,f,i,j,h.pk,h.pl⟩;have:=congrArg (List.take (T W.base)) b;rw[List.take_take,List.take_left' rfl,show min (T W.base) (T W.base+(0+1))=T W.base by omega]at this;exact this
end
def Av(a:Option Addr)(s:Nat):a.map (·.add (0*s))=a:=by
 cases a with
 |none=>rfl
 |some x=>simp only[Nat.zero_mul,Option.map_some];congr 1
def Aw(e:prog.underlying t=I (.slice (prog.elem t)))(hs:∀c,(sizeOf (prog.elem t)).run prog c=.ok s c)(a:Option Addr)(len b n:Nat)(f:n<=b):∀c,(xd t (O a len b) G (I (N U (n:Int))) (I (N U (n:Int)))).run prog c=.ok (O a n n) c:=fun c=>by
 have d:=run_slice_hm (w:=c) (P:=prog) t a len b e U U (n:Int) (n:Int) (by omega) (Int.le_refl _) (by omega);rw[d,hs,xr];unfold sliced;rw[Av];simp
def Ax(e:prog.underlying t=I (.slice (prog.elem t)))(hs:∀c,(sizeOf (prog.elem t)).run prog c=.ok s c)(a:Option Addr)(len b n:Nat)(f:n<=b):∀c,(xd t (O a len b) G (I (N U (n:Int))) G).run prog c=.ok (O a n b) c:=fun c=>by
 have d:=run_slice_h (w:=c) (P:=prog) t a len b e U (n:Int) (by omega) (by omega);rw[d,hs,xr];unfold sliced;rw[Av];simp
def Tryz.infoE:(prog.info? 116).map (fun i=>(i.zero,i.size,i.bytes))=I (I (.agg (evc J.E.zero (O G 0 0)).toArray),10,120):=by kernel_rfl
def slE(a:Option Addr)(len b n:Nat)(d:n<=b):∀c,(xd 107 (O a len b) G (I (N U (n:Int))) (I (N U (n:Int)))).run prog c=.ok (O a n n) c:=Aw (s:=10) (by kernel_rfl) (fun c=>by kernel_rfl) a len b n d
def slI(a:Option Addr)(len b n:Nat)(d:n<=b):∀c,(xd 37 (O a len b) G (I (N U (n:Int))) (I (N U (n:Int)))).run prog c=.ok (O a n n) c:=Aw (s:=1) (by kernel_rfl) (fun c=>by kernel_rfl) a len b n d
def Se(a:Option Addr)(len b n:Nat)(d:n<=b):∀c,(xd 107 (O a len b) G (I (N U (n:Int))) G).run prog c=.ok (O a n b) c:=Ax (s:=10) (by kernel_rfl) (fun c=>by kernel_rfl) a len b n d
def Ay(a:Option Addr)(len b n:Nat)(d:n<=b):∀c,(xd 37 (O a len b) G (I (N U (n:Int))) G).run prog c=.ok (O a n b) c:=Ax (s:=1) (by kernel_rfl) (fun c=>by kernel_rfl) a len b n d
def pN(a:Option Addr)(n c d b:Nat):xR (O a n c)=xR (O a d b):=by cases a<;>rfl
def zT(a b:List Int):NT (a++b)=NT a++NT b:=by simp[NT]
def Sf:∀(es:List J.E) (X:List J.E) (ons:List Value),T ons=(es++X).length->ON (es++X) ons=ON es (ons.take (T es))++ON X (ons.drop (T es)):=fun es X ons h=>by
 have e:ons=ons.take (T es)++ons.drop (T es):=(List.take_append_drop _ _).symm
 conv=>lhs;rw[e]
 exact SV (by simp at h⊢;omega)
def EvC.head{c:Nat}{X:List J.E}(h:EvC w D (O a n c) (es++X) ons)(p:0<T es)(y:T es<=c):EvC w D (O a (T es) c) es (ons.take (T es)):=by
 have l:=h.len;have d:(ons.take (T es)).length=T es:=by simp at l⊢;omega
 have hs:=h.sl;rw[Sf es X ons l]at hs;refine⟨?_,d,fun i f=>?_⟩
 ·rcases hs with⟨_,k,_⟩|⟨b,o,e,q,x,z,B,C⟩
  ·rw[x9]at k;omega
  ·cases e;exact xW ⟨b,c,Z,fun j u m=>q j u (by rw[xe (List.getElem?_eq_some_iff.1 m).1];exact m),x,y,LD d,p⟩
 ·have:=h.on i (by simp;omega);have e1:J.ev (es++X) i=J.ev es i:=by unfold J.ev;simp[xe f]
  have e2:(ons.take (T es)).getD i (S M)=ons.getD i (S M):=by simp[xn,f]
  rw[e1]at this;rw[e2];exact this
def Sg(h:EvC w D v es ons):∀o∈ons,o.oneCell'=true:=fun o c=>by
 obtain⟨i,b,rfl⟩:=List.mem_iff_getElem.1 c;have:=h.on i (by rw[<- h.len];exact b);have e:ons.getD i (S M)=ons[i]:=by simp[b]
 rw[e]at this;exact this.bW
def Sh{z:Nat}{p:J.Pth}(h:PAt w0 g z p)(d:JX (fun k=>k=g) w0 w):∃f i ons,w.cell? ⟨z,0,G⟩=I f/\w.cell? ⟨z,1,G⟩=I i/\z<A (V w)/\EvC w (fun k=>k=g\/A (V w0)<=k) f p.e ons/\(∀b,f.ownBlock=I b->b<A (V w0)/\b≠g)/\SlC w i (T p.g) (NT p.g) 1/\∀b,i.ownBlock=I b->b<A (V w0)/\b≠g:=by
 obtain⟨f,ons,e1,e2,e3⟩:=h.e;obtain⟨i,o,j,l⟩:=h.r;refine⟨f,i,ons,(gD (d.block z h.zl h.zn)).trans e1,(gD (d.block z h.zl h.zn)).trans o,x8 h.zl d.size,?_,fun b c=>⟨e2.sl.lt b c,fun e=>e3 (by rw[c,e])⟩,j.x d fun b c e=>l (by rw[c,e]),fun b c=>⟨j.lt b c,fun e=>l (by rw[c,e])⟩⟩;exact(e2.of (D':=fun k=>k=g\/A (V w0)<=k) fun x m e=>e.elim id fun e=>by omega).x d (fun b c e=>e3 (by rw[c,e])) fun x _ e=>xF e
def Si{pss:List (List J.Pth)}{L t:Nat}(ht:t<T pss)(hT:T pss<=4)(IH:AZ w0 g pv pss L (t+1)):AZ w0 g pv pss L t:=by
 intro w D ev rv bv fv av ov W ons rs c h bF hF;obtain⟨i0,hi,cF,cG,cH⟩:=RW Tryz.infoE;obtain⟨j0,ji,cI,cJ,cK⟩:∃i0,prog.info? 3=I i0/\i0.zero=I (N U 0)/\i0.size=1/\i0.bytes=8:=RW Tryz.OC;have da:=h.gl;have cz:=h.ps;obtain⟨gp,cp,rfl,bU,cO,bL⟩:=cz;obtain⟨pu,bM,bO⟩:=bL t pss[t] (xb ht);obtain⟨gq,cq,rfl,bV,cP,bN⟩:=bO;have cf:=MS bN;have aY:MT (pss.drop t=pss[t]::pss.drop (t+1)):=List.drop_eq_getElem_cons ht;have br:MT (pss[t]∈pss):=List.getElem_mem ht;generalize pss[t]=ps at*;have H:=MS h;have HF:=MS hF;have cc:=MS IH;have ag:=MS bF;have de:(t:Int)<(T pss:Int):=by omega
 have aL:((t:Int)==(T pss:Int))=M:=by simp;omega
 have c1:=h.blk.cell (i:=1) (v:=MU gp (T pss) cp) Z;have cw:=h.K.sl.form;obtain⟨ea,ec,rfl,cv⟩:=cw;have cD:=h.rg;obtain⟨ra,rc,rfl,cB,_⟩:=cD;simp only[xc]at cv cB;have c2:=h.blk.cell (i:=2) (v:=O ea (T W.es) ec) (by simp[jw]);have c3:=h.blk.cell (i:=3) (v:=O ra (T W.g) rc) (by simp[jw]);have lg:=h.blk.lt;have db:=h.pl ps br.o;clear h hF IH bF bN bL;go_enter func40,ntmps40;go_wp2;clear c1 c2 c3 lg;go_loopw[6] (fun q wr=>∃(k:Nat) (D2:Nat->Prop) (bC bj bb ax aw aF:Value) (X:List J.E) (Y:List Int) (l:List Value) (ap:List (List Int)) (am:Bool) (al:List Int),k<=T ps/\q=N U k/\MT (QD w0 wr D2 g (MU gp (T pss) cp) bC bj bb ax aw aF pss W X Y l L ap am al)/\MT (∀x,D x->D2 x)/\MT (∀x,D2 x->D x\/A (V w)<=x)/\MT (JX D w wr)/\MT (J.Grew L rs ap c am (fun o=>∃(j:Nat) (p:J.Pth),j<k/\ps[j]?=I p/\J.ThP (pss.drop (t+1)) (W.add p) o) (∃(j:Nat) (p:J.Pth),j<k/\ps[j]?=I p/\J.ThC (pss.drop (t+1)) (W.add p)))) fun q _=>T ps-(intOf q).toNat
 case atStart =>
  refine⟨0,D,_,_,bv,fv,av,ov,[],[],ons,rs,c,W.base,Nat.zero_le _,Z,H,fun _ e=>e,fun _ e=>xF e,JX.refl _ _,(J.Grew.refl H.rise H.ok).to (fun o=>?_) ?_⟩
  ·exact⟨False.elim,fun⟨j,p,hj,_⟩=>by omega⟩
  ·exact⟨False.elim,fun⟨j,p,hj,_⟩=>by omega⟩
 case round =>
  obtain⟨k,D2,bC,bj,bb,ax,aw,aF,X,Y,l,ap,am,al,hk,rfl,f,bl,aG,HX,HG⟩:=hrel;have c1:=f.blk.cell (i:=1) (v:=MU gp (T pss) cp) Z;have lg:=f.blk.lt;have p1:=(gD (i:=t) (f.old.block gp bU cO)).trans bM;have lp:=x8 bU f.old.size;by_cases hkt:k<T ps
  ·have cy:(k:Int)<(T ps:Int):=by omega
   have ao:ps[k]?=I ps[k]:=xb hkt;obtain⟨z,hz,bK⟩:=cf.o k ps[k] ao;have p2:=(gD (i:=k) (f.old.block gq bV cP)).trans hz;have lq:=x8 bV f.old.size;have bo:=MS bK;have ak:=MS ao;clear hz bK ao;generalize ps[k]=p at*;obtain⟨ba,bc,rfl,ct⟩:=f.bs.form;have q4:=f.blk.cell (i:=4) (v:=O ba (T al) bc) Z;have f4:=f.blk.free 4;have bP:t<=bc:=by have:=f.bll;rw[ag.o]at this;omega
   have s1:=Ay ba (T al) bc t bP;have bk:MT (BsAt wr (A (V w0)) (O ba t bc) W.base):=by
    have y:=f.bs.cut t (by have:=f.bll;rw[ag.o]at this;exact this);have k2:=f.bp;rw[ag.o]at k2;rw[k2]at y;exact y
   generalize bE:T al=nb at*;have cW:=MS bE;clear bE ct;go_wp2_with(first
    |(at_builtin;refine Sa _ Z (.tmp 74) (.tmp 76) Z (A (V w0)) _ W.base Z ?b1 ?b2 ⟨A (V wr),0,G⟩ 1 (T W.es:Int) Z ?b3 ?b4 ?_))
   case b1=>exact bk.X ((x6 _ _).alloc (x7 _) _)
   case b2=>exact Nat.le_trans f.old.size (by simp)
   case b3=>exact(Blk.new wr [N U (T W.es:Int)] 3).cell Z
   case b4=>have:=ag.o;omega
   intro a1 ab w1 bD u bh;have ai:=f.X ((x6 (A (V wr)) wr).alloc (x7 _) (F #[N U (T W.es:Int)] 3));have bg:w1.heap[g]?=(wr.alloc (F #[N U (T W.es:Int)] 3)).heap[g]?:=u.block g ai.blk.lt fun e=>ai.IF g ((pN _ _ _ _ _).trans e.symm) Z;have cS:=(gD (i:=4) bg).trans (ai.blk.cell (i:=4) (v:=O ba nb bc) Z);have co:w1.frozen? ⟨g,4,G⟩=M:=(World.frozen?_of_block (a:=⟨g,4,G⟩) bg).trans (ai.blk.free 4);have cL:=x8 ai.blk.lt u.size;have d:=MS (ai.base bD (fun x hx aL=>u.block x hx fun e=>aL ((pN _ _ _ _ _).trans e.symm)) ⟨u.os,u.tape,u.output,u.size⟩ fun b hb=>(bh b hb).imp (fun e=>(pN _ _ _ _ _).trans e) fun k=>by simpa using k);have bz:MT (JX D w (w1.setCell ⟨g,4,G⟩ (O a1 (T W.base+1) ab))):=by
    refine JX.set ?_ (xF H.dg) _ _;refine(HX.X ((x6 (A (V wr)) wr).alloc (x7 _) _)).trans (P':=fun k=>xR (O ba t bc)=I k) ⟨u.os,u.tape,u.output,u.size,fun x hx aL=>u.block x hx fun e=>aL e.symm⟩ fun x hx e=>?_
    rcases aG.o x (f.bd x ((pN _ _ _ _ _).trans e))with y|y
    ·exact y
    ·omega
   have bm:MT (∀x,D2 x\/xR (O a1 (T W.base+1) ab)=I x->D x\/A (V w)<=x):=by
    rintro x (e|e)
    ·exact aG.o x e
    ·rcases bh x e with y|y
     ·exact aG.o x (f.bd x ((pN _ _ _ _ _).trans y))
     ·have:=HX.size;have k2:A (V wr)<=x:=by first|omega|(simp at y;omega)
      exact xW (by omega)
   clear ai bg bD u bh q4 f4 s1 bP bk c1 lg p1 lp p2 lq;go_wp2;generalize w1.setCell ⟨g,4,G⟩ (O a1 (T W.base+1) ab)=W2 at*;clear cS co cL;obtain⟨ve,vr,aE,z0,z1,lz,bR,aW,bS,aX⟩:=Sh bo.o d.old;obtain⟨B,ad,rfl,ae⟩:=d.K.sl.form;have q2:=d.blk.cell (i:=2) (v:=O B (W.es++X).length ad) Z;have lg:=d.blk.lt;have aC:T W.es<=ad:=by simp at ae;omega
   have s2:=slE B (W.es++X).length ad (T W.es) aC;have aZ:=MS (d.K.head (by have:=d.e3;omega) aC);have bu:MT (rG W2 B (T W.es) (ON W.es (l.take (T W.es))) 10):=by
    obtain⟨a',c',e',_,y⟩:=aZ.sl.q
    cases e'
    exact y
   have aK:=MS bR;have bw:=MS aW;have bx:=MS bS;have aS:=MS aX;generalize aM:(W.es++X).length=nx at*;clear aM ae bR aW bS aX;have cZ:=d.e3;have ao:=d.pk ps br.o p (xh ak.o);have dd:T W.es+T p.e<1000:=by have y:=d.en;have k2:=ag.o;omega
   have aQ:=MS ao;clear ao;go_cut[8]from 46 to 114 fun u8 wx=>∃(a3:Option Addr) (c3:Nat),u8=O a3 (T W.es+T p.e) c3/\MT (SlC wx (O a3 (T W.es+T p.e) c3) (T W.es+T p.e) (ON W.es (l.take (T W.es))++ON p.e aE) 10)/\MT (Below (A (V W2)) W2 wx)/\MT (∀b,xR (O a3 (T W.es+T p.e) c3)=I b->xR (O B (T W.es) (T W.es))=I b\/A (V W2)<=b)
   case first =>
    go_region_law(refine As Z (.tmp 86) (.tmp 90) 107 Z 116 i0 (.agg (evc J.E.zero (O G 0 0)).toArray) 10 120 underlying107 hi cF cG cH Z (by decide) B (T W.es) (T p.e) ve (ON W.es (l.take (T W.es))) (ON p.e aE) (by simp[xi,xj]) (by exact bu.o) (by simp[xi,xj]) (by exact aK.sl) (by exact TB _ _ fun o ho=>Sg aK.o o ho) (by omega) (by omega) (by decide) ?_;intro a3 c3 w3 aU be az)
    all_goals
     have m:MT (Below (A (V W2)) W2 w3):=by first|exact be|exact((x6 (A (V W2)) W2).drew).trans (be.mono (by simp))
     have aJ:=MS aU;have aH:MT (∀b,xR (O a3 (T W.es+T p.e) c3)=I b->xR (O B (T W.es) (T W.es))=I b\/A (V W2)<=b):=by unfold MT;simpa using az
     clear aU be az;go_wp2;go_meet
     case rel=>exact⟨a3,c3,Z,aJ,m,aH⟩
   obtain⟨a3,c3,rfl,aJ,m,aH⟩:=hcut;have cR:=(m.cell (p:=⟨g,2,G⟩) lg).trans q2;have cn:=(m.frozen (p:=⟨g,2,G⟩) lg).trans (d.blk.free 2);have cM:=x8 lg m.size;have ar:=MS (d.X m.o);have bA:=MS (bz.X m.o);have aa:MT (QD w0 (wc.setCell ⟨g,2,G⟩ (O a3 (T W.es+T p.e) c3)) (fun x=>D2 x\/xR (O a1 (T W.base+1) ab)=I x) g (MU gp (T pss) cp) (O a3 (T W.es+T p.e) c3) bj (O a1 (T W.base+1) ab) ax aw aF pss W p.e Y (l.take (T W.es)++aE) L ap am (W.base++[(T W.es:Int)])):=by
    have hx:JX (fun k=>k=g) wc (wc.setCell ⟨g,2,G⟩ (O a3 (T W.es+T p.e) c3)):=JX.set (P:=fun k=>k=g) (JX.refl _ _) (xF Z) _ _;have an:∀b,xR (O a3 (T W.es+T p.e) c3)=I b->¬(D2 b\/xR (O a1 (T W.base+1) ab)=I b):=fun b hb e=>by
     rcases aH.o b hb with y|y
     ·exact d.evo b ((pN _ _ _ _ _).trans y) e
     ·have:=d.low b e;omega
    have cx:EvC wc (fun x=>D2 x\/xR (O a1 (T W.base+1) ab)=I x) (O a3 (T W.es+T p.e) c3) (W.es++p.e) (l.take (T W.es)++aE):=
     EvC.pR (aZ.x (JX.of (P:=fun _=>False) m.o) (fun _ _ e=>e) fun _ _ e=>e.elim) ((aK.of fun x _ e=>d.dlow x e).x (JX.of (P:=fun _=>False) m.o) (fun _ _ e=>e) fun _ _ e=>e.elim) aJ.o
    exact ar.eI hx (ar.blk.set 2 _) (cx.x hx (fun b hb e=>an b hb (by rw[e];exact d.dg)) fun x _ e=>by rw[e];exact d.dg) an (ar.rgx hx) ar.rgo
   have bB:MT (JX D w (wc.setCell ⟨g,2,G⟩ (O a3 (T W.es+T p.e) c3))):=JX.set bA.o (xF H.dg) _ _;have aR:MT (SlC (wc.setCell ⟨g,2,G⟩ (O a3 (T W.es+T p.e) c3)) vr (T p.g) (NT p.g) 1):=by
    have hx:JX (fun k=>k=g) W2 (wc.setCell ⟨g,2,G⟩ (O a3 (T W.es+T p.e) c3)):=JX.set (P:=fun k=>k=g) (JX.of m.o) (xF Z) _ _;exact bx.x hx fun b hb e=>(aS.o b hb).2 e
   have cV:(wc.setCell ⟨g,2,G⟩ (O a3 (T W.es+T p.e) c3)).cell? ⟨z,1,G⟩=I vr:=(gD (xq _ _ _ _ fun e=>bo.zn (by simpa using e))).trans ((m.cell (p:=⟨z,1,G⟩) lz).trans z1);have cN:z<(wc.setCell ⟨g,2,G⟩ (O a3 (T W.es+T p.e) c3)).heap.size:=by have:=m.size;simp;omega
   clear q2 lg z0 z1 lz s2 bu aK bw bx aS aZ m aJ aH d ar bz bA;go_wp2;generalize wc.setCell ⟨g,2,G⟩ (O a3 (T W.es+T p.e) c3)=W4 at*;clear cR cn cM;have cC:=aa.rg;obtain⟨C,ac,rfl,af,aB⟩:=cC;have q3:=aa.blk.cell (i:=3) (v:=O C (W.g++Y).length ac) Z;have f3:=aa.blk.free 3;have aP:=aa.blk.lt;have aD:T W.g<=ac:=by simp at af;omega
   have s3:=slI C (W.g++Y).length ac (T W.g) aD;have aI:MT (rG W4 C (T W.g) (NT W.g) 1):=rG.head (cs':=NT Y) (by rw[<- zT];exact aB) (by simp[NT]) (by simp);have dc:T W.g<1000:=by have y:=aa.rn;have k2:=ag.o;omega
   have bq:=MS aQ.2;generalize aN:(W.g++Y).length=ny at*;clear aN af aB;go_cut[]from 46 to 114 fun wx=>∃(a5:Option Addr) (c5:Nat),MT (QD w0 wx (fun x=>D2 x\/xR (O a1 (T W.base+1) ab)=I x) g (MU gp (T pss) cp) (O a3 (T W.es+T p.e) c3) (O a5 (T W.g+T p.g) c5) (O a1 (T W.base+1) ab) ax aw aF pss W p.e p.g (l.take (T W.es)++aE) L ap am (W.base++[(T W.es:Int)]))/\MT (JX D w wx)
   case first =>
    go_region_law(refine As Z (.tmp 103) (.tmp 107) 37 Z 3 j0 (N U 0) 1 8 underlying37 ji cI cJ cK Z (by decide) C (T W.g) (T p.g) vr (NT W.g) (NT p.g) (by simp[xi,xj]) (by exact aI.o) (by simp[xi,xj]) (by exact aR.o) (by exact xP p.g) (by rw[bq.o];omega) (by rw[bq.o];omega) (by decide) ?_;intro a5 c5 w5 aV bf aA;have aq:MT (Below (A (V W4)) W4 w5):=(by first|exact bf|exact((x6 (A (V W4)) W4).drew).trans (bf.mono (by simp)));have bt:=MS aV;have bn:MT (∀b,xR (O a5 (T W.g+T p.g) c5)=I b->xR (O C (T W.g) (T W.g))=I b\/A (V W4)<=b):=(by unfold MT;simpa using aA);have r5:=MZ aq.o aP q3;have g5:=(aq.frozen (p:=⟨g,3,G⟩) aP).trans f3;have l5:=x8 aP aq.size;clear aV bf aA)
    all_goals
     have hx:JX (fun k=>k=g) w5 (w5.setCell ⟨g,3,G⟩ (O a5 (T W.g+T p.g) c5)):=JX.set (P:=fun k=>k=g) (JX.refl _ _) (xF Z) _ _;have an:∀b,xR (O a5 (T W.g+T p.g) c5)=I b->¬(D2 b\/xR (O a1 (T W.base+1) ab)=I b):=fun b hb e=>by
      rcases bn.o b hb with y|y
      ·exact aa.rgo b ((pN _ _ _ _ _).trans y) e
      ·have:=aa.low b e;omega
     have ay:=aa.X aq.o;have aT:SlQ (w5.setCell ⟨g,3,G⟩ (O a5 (T W.g+T p.g) c5)) (O a5 (T W.g+T p.g) c5) (W.g++p.g).length (NT (W.g++p.g)) 1:=by
      have y:=bt.q.x hx fun b hb e=>an b hb (by rw[e];exact aa.dg);rw[x9,zT];exact y
     have ah:=MS (ay.eI hx (ay.blk.set 3 _) (ay.evx hx) ay.evo aT an);have au:MT (JX D w (w5.setCell ⟨g,3,G⟩ (O a5 (T W.g+T p.g) c5))):=JX.set (bB.X aq.o) (xF H.dg) _ _;clear hx an ay aT bn bt;go_wp2;go_meet
     case rel=>exact⟨a5,c5,by first|exact ah|exact ah.X ((x6 _ _).drew),by first|exact au|exact au.X ((x6 _ _).drew)⟩
   obtain⟨a5,c5,ah,au⟩:=hcut;have bQ:=ah.up aQ.o;have aj:=cc.o _ _ _ _ _ _ _ _ _ _ _ _ bQ (by simp[J.Wd.add,ag.o]) fun W' hr=>HF.o W' (by rw[aY.o];exact⟨p,xh ak.o,hr⟩);rw[show(((t+1:Nat):Nat):Int)=(t:Int)+1 by omega]at aj;have HC:=MS aj;have bZ:=MS (ah.e3);have ca:=MS (ah.en);have cg:=MS (ah.rn);clear aj bQ q3 f3 aP s3 aI cV cN aR aa bB aD;go_wp2_with(first
    |(go_at_call 40;refine HC.mono ?_;rintro e w7 ⟨rfl,D7,cm,cU,ck,cr,ci,cQ,cT,cl,bW,cj,bJ,bG,bH,bT,bI⟩;have cd:=MS bJ;have bX:=MS bG;have bY:=MS bH;have ch:=MS bT;have cb:=MS bI;clear bJ bG bH bT bI))
   go_roundw
   case rel =>
    refine⟨k+1,D7,cm,cU,ck,cr,ci,cQ,p.e,p.g,bW,cT,cl,cj,by omega,by go_num,cd.gZ bZ.o ca.o cg.o,fun x e=>bX.o x (xF (bl.o x e)),fun x e=>?_,au.trans ch.o fun x hx e=>(bm.o x e).elim id fun y=>by omega,(HG.trans cb.o).to (fun o=>?_) ?_⟩
    ·rcases bY.o x e with y|y
     ·exact bm.o x y
     ·have:=au.size;exact xW (by omega)
    ·constructor
     ·rintro(⟨j,p',h1,h2⟩|h1)
      ·exact⟨j,p',by omega,h2⟩
      ·exact⟨k,p,by omega,ak.o,h1⟩
     ·rintro⟨j,p',h1,h2,h3⟩;by_cases e:j=k
      ·subst e;rw[ak.o]at h2;cases h2;exact xW h3
      ·exact xF ⟨j,p',by omega,h2,h3⟩
    ·constructor
     ·rintro(⟨j,p',h1,h2⟩|h1)
      ·exact⟨j,p',by omega,h2⟩
      ·exact⟨k,p,by omega,ak.o,h1⟩
     ·rintro⟨j,p',h1,h2,h3⟩;by_cases e:j=k
      ·subst e;rw[ak.o]at h2;cases h2;exact xW h3
      ·exact xF ⟨j,p',by omega,h2,h3⟩
   case measure=>simp[intOf];omega
  ·have cy:¬(k:Int)<(T ps:Int):=by omega
   have bi:=f.K.sl;obtain⟨B,ad,rfl,ae⟩:=bi.form;have cE:=f.rg;obtain⟨C,ac,rfl,af,aB⟩:=cE;have q2:=f.blk.cell (i:=2) (v:=O B (W.es++X).length ad) Z;have q3:=f.blk.cell (i:=3) (v:=O C (W.g++Y).length ac) Z;have f2:=f.blk.free 2;have f3:=f.blk.free 3;have aC:T W.es<=ad:=by simp at ae;omega
   have aD:T W.g<=ac:=by simp at af;omega
   have s1:=Se B (W.es++X).length ad (T W.es) aC;have s2:=Ay C (W.g++Y).length ac (T W.g) aD;have cY:=MS bi;have aI:=MS aB;generalize aM:(W.es++X).length=nx at*;generalize aN:(W.g++Y).length=ny at*;have cX:=MS aM;have ce:=MS aN;clear bM ae af bi aB aM aN;go_wp2;go_end0;have aO:JX (fun k=>k=g) wr ((wr.setCell ⟨g,2,G⟩ (O B (T W.es) ad)).setCell ⟨g,3,G⟩ (O C (T W.g) ac)):=JX.set (P:=fun k=>k=g) (JX.set (P:=fun k=>k=g) (JX.refl _ _) (xF Z) _ _) (xF Z) _ _;have cu:EvC wr D2 (O B (T W.es) ad) (W.es++[]) (l.take (T W.es)):=by
    have e0:=f.K;rw[xc];exact e0.head (by have:=f.e3;omega) aC
   have cA:SlQ wr (O C (T W.g) ac) (W.g++[]).length (NT (W.g++[])) 1:=by
    rw[xc];refine⟨C,ac,Z,aD,rG.head (cs':=NT Y) (by rw[<- zT];exact aI.o) (by simp[NT]) ?_⟩
    ·rw[<- ce.o];simp
   refine⟨Z,D2,_,_,bb,ax,aw,aF,ap,am,l.take (T W.es),al,f.eI aO ((f.blk.set 2 _).set 3 _) (cu.x aO (fun b hb e=>f.evo b ((pN _ _ _ _ _).trans hb) (by rw[e];exact f.dg)) fun x _ e=>by rw[e];exact f.dg) (fun b hb=>f.evo b ((pN _ _ _ _ _).trans hb)) (cA.x aO fun b hb e=>f.rgo b ((pN _ _ _ _ _).trans hb) (by rw[e];exact f.dg)) fun b hb=>f.rgo b ((pN _ _ _ _ _).trans hb),bl.o,aG.o,HX.trans aO fun x _ e=>by rw[e];exact H.dg,HG.to (fun o=>?_) ?_⟩
   ·rw[aY.o,J.qC];constructor
    ·rintro⟨j,p,_,h2,h3⟩;exact⟨p,xh h2,h3⟩
    ·rintro⟨p,hp,h3⟩;obtain⟨j,hj,rfl⟩:=List.mem_iff_getElem.1 hp;exact⟨j,_,by omega,xb hj,h3⟩
   ·rw[aY.o,J.pY];constructor
    ·rintro⟨j,p,_,h2,h3⟩;exact⟨p,xh h2,h3⟩
    ·rintro⟨p,hp,h3⟩;obtain⟨j,hj,rfl⟩:=List.mem_iff_getElem.1 hp;exact⟨j,_,by omega,xb hj,h3⟩
def lY(w:World)(B:Nat)(v:Value)(l:List Int):Prop:=w.ownsRow B 3 1 v (T l) (NT l)
def lY.mL{B:Nat}{l:List Int}(h:lY w B v l)(b:∀x,D x->x<B)(d:l=[]->v=O G 0 0):OP w D v l:=by
 by_cases c:l=[]
 ·exact xF ⟨d c,c⟩
 ·exact xW ⟨List.length_pos_iff.2 c,An h (List.length_pos_iff.2 c) b⟩
def Sj(w w':World)(l:List Int)(e:Ending):Prop:=∃v,e=.returned v/\lY w' (A (V w)) v l/\(l=[]->v=O G 0 0)/\Below (A (V w)) w w'
def xO(va vb:Value)(j q:List Int)(w:World)(ha:OP w (fun _=>False) va j)(hb:OP w (fun _=>False) vb q)(hn:T j+T q<10000000000000):
  Calls prog 76 #[va,vb] w fun e w'=>Sj w w' (j++q) e:=by
 obtain⟨m,H,K,L,W⟩:∃m,prog.info? 3=I m/\m.zero=I (N U 0)/\m.size=1/\m.bytes=8:=RW Tryz.OC
 rcases ha with⟨rfl,rfl⟩|⟨l,ba,ca,rfl,ab,ad,_⟩
 ·rcases hb with⟨rfl,rfl⟩|⟨E,bb,cb,rfl,z,ac,_⟩
  ·go_enter func76,ntmps76;go_wp2_with(first
    |(at_builtin;refine wpList_append_own_none Z (.const (O G 0 0)) (.tmp 6) 37 Z (A (V w)) 3 m 1 underlying37 H _ _ _ Z (xa w (A (V w)) 3 1) Z ?_)
    |(at_builtin;refine wpList_append_own_none Z (.tmp 8) (.tmp 9) 37 Z (A (V w)) 3 m 1 underlying37 H _ _ _ Z (xa w (A (V w)) 3 1) Z ?_))
   go_ret;exact⟨_,Z,xa _ _ _ _,fun _=>Z,x6 _ _⟩
  ·have X:=MS (DL z);clear z;go_enter func76,ntmps76;go_wp2_with(first
    |(at_builtin;refine wpList_append_own_none Z (.const (O G 0 0)) (.tmp 6) 37 Z (A (V w)) 3 m 1 underlying37 H _ _ _ Z (xa w (A (V w)) 3 1) Z ?_)
    |(at_builtin;refine wpList_append_lies _ Z (.tmp 8) (.tmp 9) 37 Z (A (V w)) 3 m (N U 0) 1 8 underlying37 H K L W Z (by decide) _ _ _ Z (xa _ _ _ _) ⟨bb,0,G⟩ (T q) cb (NT q) Z (by simp[NT]) X.o (xP q) E (by unfold maxLen;omega) (by omega) (x7 _) _ Z ?_;intro g5 c5 w5 f c y C;have B5:=MS (pT (x6 (A (V w)) w) c fun k e=>by cases e);have J:MT (lY w5 (A (V w)) (MU g5 (T q) c5) q):=(by unfold MT lY;simpa using f);clear f c y C))
   go_ret;refine⟨_,Z,by first|exact J.o|simpa using J.o,fun e=>?_,B5.o⟩;rw[e]at E;simp at E
 ·have aa:=MS (DL ab);clear ab
  rcases hb with⟨rfl,rfl⟩|⟨E,bb,cb,rfl,z,ac,_⟩
  ·go_enter func76,ntmps76;go_wp2_with(first
    |(at_builtin;refine wpList_append_lies _ Z (.const (O G 0 0)) (.tmp 6) 37 Z (A (V w)) 3 m (N U 0) 1 8 underlying37 H K L W Z (by decide) _ _ _ Z (xa _ _ _ _) ⟨ba,0,G⟩ (T j) ca (NT j) Z (by simp[NT]) aa.o (xP j) l (by unfold maxLen;omega) (by omega) (x7 _) _ Z ?_;intro g4 c4 w4 d b x B;have Y:=MS (pT (x6 (A (V w)) w) b fun k e=>by cases e);have u:MT (lY w4 (A (V w)) (O (I ⟨g4,0,G⟩) (T j) c4) j):=(by unfold MT lY;simpa using d);clear d b x B)
    |(at_builtin;refine wpList_append_own_none Z (.tmp 8) (.tmp 9) 37 Z (A (V w)) 3 m 1 underlying37 H _ _ _ Z u.o Z ?_))
   go_ret;refine⟨_,Z,u.o,fun e=>?_,Y.o⟩;rw[e]at l;simp at l
  ·have X:=MS z;clear z;go_enter func76,ntmps76;go_wp2_with(first
    |(at_builtin;refine wpList_append_lies _ Z (.const (O G 0 0)) (.tmp 6) 37 Z (A (V w)) 3 m (N U 0) 1 8 underlying37 H K L W Z (by decide) _ _ _ Z (xa _ _ _ _) ⟨ba,0,G⟩ (T j) ca (NT j) Z (by simp[NT]) aa.o (xP j) l (by unfold maxLen;omega) (by omega) (x7 _) _ Z ?_;intro g4 c4 w4 d b x B;have Y:=MS (pT (x6 (A (V w)) w) b fun k e=>by cases e);have u:MT (lY w4 (A (V w)) (O (I ⟨g4,0,G⟩) (T j) c4) j):=(by unfold MT lY;simpa using d);clear d b x B)
    |(at_builtin;refine wpList_append_lies _ Z (.tmp 8) (.tmp 9) 37 Z (A (V w)) 3 m (N U 0) 1 8 underlying37 H K L W Z (by decide) _ _ _ Z u.o ⟨bb,0,G⟩ (T q) cb (NT q) Z (by simp[NT]) (DL fun i H=>(Y.cell (p:=⟨bb,i,G⟩) ac).trans (X.o i H)) (xP q) E (by unfold maxLen;omega) (by omega) Y.size _ Z ?_;intro g5 c5 w5 f c y C;have B5:=MS (pT Y.o c (wG u.o));have J:MT (lY w5 (A (V w)) (MU g5 (T j+T q) c5) (j++q)):=(by unfold MT lY;rw[zT,x9];exact f);clear f c y C))
   go_ret;refine⟨_,Z,J.o,fun e=>?_,B5.o⟩;have:=congrArg List.length e;simp at this;rw[this.1]at l;simp at l
