import Derived.Test.YtehclbpoabdpoaaGreatDoorO48
set_option linter.all false
set_option maxHeartbeats 0
namespace Go.Proofs.YtehclbpoabdpoaaGreatDoor
open Go Go.RowKit Go.Proofs.Tryz P Q R
open scoped Classical
set_option maxRecDepth 1000000
variable {s:J.PS}{a es:List Ev}{st:MV}{b k m n:Int}{l:List Tree}{ss:List MV}{i j t:Nat}{u:NB}{r:Run}{ts:List R.Th}{w:Q.Wd}{us:List NB}
open List renaming length->O
open Bool renaming false->Y,true->C
open List renaming mem_cons_of_mem->xF,foldl_cons->xR,getElem_mem->xW,append_assoc->x6,append_nil->x7,nil_append->x8,mem_range->x9,foldl_append->xa,length_append->xc,getD_eq_getElem?_getD->xd,exists_cons_of_ne_nil->xg,mem_singleton->xh,mem_flatMap->xi,length_cons->xj,getElem?_append_left->xk,getElem?_append_right->xm
open Bool renaming false_eq_true->x5
open Nat renaming pow_succ->xb
open Int renaming toNat_natCast->xe
namespace J
def PS.ext(s:PS)(x:List Int):PS:={s with D:=s.D++x}
def PS.gX(s:PS)(x:List Int):PS:={s with D:=x}
def FT(s:PS)(x:Lh)(l:List Int)(h:isRd x=Y\/s.D≠[]):(s.ext l).step x=(s.step x).ext l:=by
 by_cases c:isRd x=C
 ·have p:s.D≠[]:=h.elim (fun e=>by rw[e]at c;cases c) id;obtain⟨v,r,e⟩:=xg p;simp only[isRd,Bool.or_eq_true]at c;unfold PS.step
  split
  ·simp[PS.load,PS.take,PS.put,PS.aJ,PS.ext,e]
  split
  ·simp[PS.add,PS.take,PS.put,PS.aJ,PS.ext,e,PS.val,PS.aH]
  split
  ·simp[PS.swap,PS.take,PS.put,PS.aJ,PS.ext,e,PS.val,PS.aH]
  ·rename_i f g o
   rcases c with c|c|c
   ·exact absurd c f
   ·exact absurd c g
   ·exact absurd c o
 ·have d:isRd x=Y:=by simpa using c
  simp only[isRd,Bool.or_eq_false_iff]at d;unfold PS.step;rw[d.1,d.2.1,d.2.2];simp only[x5,if_false]
  split
  ·rfl
  split
  ·rfl
  split
  ·rfl
  split
  ·unfold PS.set;have e1:∀a,(s.ext l).val a=s.val a:=fun _=>Z
   have e2:∀a,(s.ext l).aH a=s.aH a:=fun _=>Z
   simp only[e1,e2]
   split
   ·rfl
   split
   ·rfl
   split
   ·rfl
   split<;>rfl
  ·rfl
def tI{x:Lh}(h:s.short=C):(s.step x).short=C:=by
 cases c:isRd x with
 |false=>rw[(wQ c s).1];exact h
 |true=>rw[(vB c s).1];simp[PS.take,h]
def Fa(l:List Tree):∀(s:PS),s.short=C->(doL s l).short=C:=by
 induction l using NL.induct with
 |case1=>intro s h;rw[bH];exact h
 |case2 x b r h1 h2 =>
  intro s h;rw[lL];refine h2 _ ?_;unfold dX
  split
  ·split
   ·exact h
   ·exact h1 _ h
  ·exact tI h
def Fb{x:Lh}(h:(s.step x).short=Y):isRd x=Y\/s.D≠[]:=by
 cases c:isRd x with
 |false=>exact Or.inl Z
 |true =>
  rw[(vB c s).1]at h;refine Or.inr fun e=>?_;simp[PS.take,e]at h
def Wk(s:PS)(l:List Int)(a:Int):(s.ext l).val a=s.val a:=rfl
def JG(l:List Tree):∀(s:PS) (x:List Int),(doL s l).short=Y->doL (s.ext x) l=(doL s l).ext x:=by
 induction l using NL.induct with
 |case1=>intro s x _;rw[bH,bH]
 |case2 y b r h1 h2 =>
  intro s x h;rw[lL]at h;rw[lL,lL];have f:(dX s ⟨y,b⟩).short=Y:=by
   cases c:(dX s ⟨y,b⟩).short
   ·rfl
   ·rw[Fa r _ c]at h;cases h
  have e:dX (s.ext x) ⟨y,b⟩=(dX s ⟨y,b⟩).ext x:=by
   unfold dX at f⊢;rw[Wk]
   split
   ·rename_i c;rw[if_pos c]at f
    split
    ·rfl
    ·rename_i d;rw[if_neg d]at f;exact h1 (s.bY y) x f
   ·rename_i c;rw[if_neg c]at f;exact FT s y x (Fb f)
  rw[e];exact h2 _ x h
def Wl(s:PS)(x:Lh)(h:(s.step x).short=Y):∃u,s.D=u++(s.step x).D/\(s.gX u).step x=(s.step x).gX []:=by
 cases c:isRd x with
 |false =>
  refine⟨[],by rw[(wQ c s).2];rfl,?_⟩;have e:(s.gX []).ext s.D=s:=by simp[PS.gX,PS.ext]
  have k:=FT (s.gX []) x s.D (Or.inl c);rw[e]at k;rw[k];have f:((s.gX []).step x).D=[]:=by rw[(wQ c _).2];rfl
  generalize(s.gX []).step x=z at*;cases z;simp only at f;subst f;rfl
 |true =>
  have f:=(Fb h).resolve_left (by rw[c];simp);obtain⟨v,r,e⟩:=xg f;refine⟨[v],by rw[(vB c s).2,PS.take,e];rfl,?_⟩;have e1:(s.gX [v]).ext r=s:=by cases s;simp[PS.gX,PS.ext]at *;exact e.symm
  have k:=FT (s.gX [v]) x r (Or.inr (by simp[PS.gX]));rw[e1]at k;rw[k];have d:((s.gX [v]).step x).D=[]:=by rw[(vB c _).2];rfl
  generalize(s.gX [v]).step x=z at*;cases z;simp only at d;subst d;rfl
def Wm(s:PS)(u x:List Int):(s.gX u).ext x=s.gX (u++x):=rfl
def Fc(l:List Tree):∀(s:PS),(doL s l).short=Y->∃u,s.D=u++(doL s l).D/\doL (s.gX u) l=(doL s l).gX []:=by
 induction l using NL.induct with
 |case1=>intro s _;exact⟨[],by rw[bH];rfl,by rw[bH,bH]⟩
 |case2 y b r h1 h2 =>
  intro s h;rw[lL]at h⊢;have f:(dX s ⟨y,b⟩).short=Y:=by
   cases c:(dX s ⟨y,b⟩).short
   ·rfl
   ·rw[Fa r _ c]at h;cases h
  have p:∃u,s.D=u++(dX s ⟨y,b⟩).D/\dX (s.gX u) ⟨y,b⟩=(dX s ⟨y,b⟩).gX []:=by
   have ev:∀u,(s.gX u).val y.a=s.val y.a:=fun _=>Z
   unfold dX at f⊢
   split
   ·rename_i c;rw[if_pos c]at f
    split
    ·rename_i d;exact⟨[],Z,by rw[ev,if_pos d];rfl⟩
    ·rename_i d;rw[if_neg d]at f;obtain⟨u,o,g⟩:=h1 (s.bY y) f;exact⟨u,o,by rw[ev,if_neg d];exact g⟩
   ·rename_i c;rw[if_neg c]at f;obtain⟨u,o,g⟩:=Wl s y f;exact⟨u,o,g⟩
  obtain⟨u,o,g⟩:=p;obtain⟨v,q,x⟩:=h2 _ h;refine⟨u++v,by rw[o,q,x6],?_⟩;rw[lL];have e:dX (s.gX (u++v)) ⟨y,b⟩=(dX s ⟨y,b⟩).gX v:=by
   rw[<- Wm];have hs:(doL (s.gX u) [⟨y,b⟩]).short=Y:=by rw[lL,bH,g];exact f
   have:=JG [⟨y,b⟩] (s.gX u) v hs;rw[lL,bH,lL,bH,g]at this;rw[this];rfl
  rw[e];exact x
def Wn(l:List Tree):∀(s:PS),(O s.D:Int)<=(doL s l).D.length+NL isRd l:=by
 induction l using NL.induct with
 |case1=>intro s;rw[bH,iY];omega
 |case2 x b r h1 h2 =>
  intro s;rw[jA,lL];have d:=(gK isRd b).1;have c:(O s.D:Int)<=(dX s ⟨x,b⟩).D.length+iM isRd ⟨x,b⟩:=by
   simp only[iM];unfold dX
   split
   ·split
    ·simp only[PS.bY];split<;>omega
    ·have:=h1 (s.bY x);simp only[PS.bY]at this⊢
     split<;>omega
   ·cases hr:isRd x with
    |false=>rw[(wQ hr s).2];simp;omega
    |true=>rw[(vB hr s).2];simp[PS.take];omega
  have:=h2 (dX s ⟨x,b⟩);omega
def Fd(r x:List Int):(PS.aL r).ext x=PS.aL (r++x):=rfl
def Fe(r u:List Int):(PS.aL r).gX u=PS.aL u:=rfl
def Wo(l:List Tree)(p:Pth):∀(n:Nat) (r:List Int),NL isRd l<=n+O r->(∀c v,r=c++[v]->(doL (PS.aL c) l).short=C) ->
  (p∈paths l n r↔∃x:List Int,(∀v∈x,0<=v/\v<4)/\(doL (PS.aL (r++x)) l).short=Y/\(doL (PS.aL (r++x)) l).D=[]/\p=(doL (PS.aL (r++x)) l).jB):=by
 have none:∀(r:List Int),(∀c v,r=c++[v]->(doL (PS.aL c) l).short=C)->(doL (PS.aL r) l).short=Y->(doL (PS.aL r) l).D=[]:=fun r g hs=>by
  obtain⟨u,S,I⟩:=Fc l _ hs;rw[Fe]at I;have z:r=u++(doL (PS.aL r) l).D:=S;generalize T:(doL (PS.aL r) l).D=q at*
  rcases List.eq_nil_or_concat q with e|⟨H,v,e⟩
  ·exact e
  ·exfalso;have K:q=H++[v]:=by rw[e];simp
   rw[K,<- x6]at z;have k:=g _ _ z;have us:(doL (PS.aL u) l).short=Y:=by rw[I];exact hs
   have:=JG l (PS.aL u) H us;rw[Fd]at this;rw[this]at k;have F:(doL (PS.aL u) l).short=C:=k;rw[us]at F;cases F
 have d:∀(r:List Int),(∀c v,r=c++[v]->(doL (PS.aL c) l).short=C)->(doL (PS.aL r) l).short=Y->(p=(doL (PS.aL r) l).jB↔∃x:List Int,(∀v∈x,0<=v/\v<4)/\(doL (PS.aL (r++x)) l).short=Y/\(doL (PS.aL (r++x)) l).D=[]/\p=(doL (PS.aL (r++x)) l).jB):=fun r g hs=>by
  constructor
  ·intro e;exact⟨[],by simp,by rw[x7];exact hs,by rw[x7];exact none r g hs,by rw[x7];exact e⟩
  ·rintro⟨x,_,_,f,o⟩;have:=JG l (PS.aL r) x hs;rw[Fd]at this;rw[this]at f o;exact o
 intro n
 induction n with
 |zero =>
  intro r M g;have hs:=(gH l (PS.aL r) Z (by show NL isRd l<=(O r:Int);omega)).1;unfold paths;rw[xh];exact d r g hs
 |succ n ih =>
  intro r M g;unfold paths
  cases hs:(doL (PS.aL r) l).short with
  |false =>
   simp only[x5,if_false];rw[xh];exact d r g hs
  |true =>
   simp only[if_true,xi,x9];have G:∀(v:Int) (c:List Int) (J:Int),r++[v]=c++[J]->(doL (PS.aL c) l).short=C:=fun v c J e=>by
    have:=List.append_inj_left' e Z;rw[<- this];exact hs
   constructor
   ·rintro⟨v,N,L⟩;obtain⟨x,A,f,o,B⟩:=(ih (r++[(v:Int)]) (by simp;omega) (G v)).1 L;rw[x6]at f o B;exact⟨[(v:Int)]++x,fun y E=>(List.mem_append.1 E).elim fun e=>by simp at e;omega (A y),f,o,B⟩
   ·rintro⟨x,A,f,o,B⟩
    cases x with
    |nil=>rw[x7,hs]at f;cases f
    |cons v x =>
     have N:=A v (by simp);have ev:((v.toNat:Nat):Int)=v:=by omega
     refine⟨v.toNat,by omega,(ih (r++[((v.toNat:Nat):Int)]) (by simp;omega) (G _)).2 ⟨x,fun y E=>A y (xF _ E),?_⟩⟩;rw[ev,x6];exact⟨f,o,B⟩
end J
namespace J
def KD{o:QR}{a:Int}(h:RF o a):-4<=a/\a<4:=by
 unfold RF rI at h;split at h<;>omega
def Ff{x:Lh}(h:Twin st x):Fit x:=by
 have a:=KD h.oa;have b:=KD h.ob;have q:=h.kd;have c:=h.op;have d:st.B=0\/st.B=1\/st.B=2\/st.B=3\/st.B=4\/st.B=5\/st.B=6\/st.B=7\/st.B=8\/st.B=9:=by omega
 refine⟨fun e=>?_,a.1,a.2,b.1,b.2,?_⟩
 ·have p:isD st.B=C:=by
   rw[c]at e
   rcases d with k|k|k|k|k|k|k|k|k|k<;>rw[k]at e⊢<;>first|rfl|exact absurd e (by decide)
  obtain⟨f,g,o⟩:=h.rg p;rw[f];exact⟨g,o⟩
 ·rw[c]
  rcases d with k|k|k|k|k|k|k|k|k|k<;>rw[k]<;>decide
def Wp{a:Int}(h:-4<=a/\a<4):Fit (fI a):=by
 refine⟨fun e=>?_,h.1,h.2,by simp[fI,x0],by simp[fI,x0],?_⟩
 ·rw[rN]at e;exact absurd e (by decide)
 ·rw[rN];decide
def Fg(h:OH n l ss m):fitL l:=by
 induction h using OH.ind with
 |nil=>rw[IZ];trivial
 |leaf t o _ ih=>rw[tU];exact⟨⟨Ff t,by rw[IZ];trivial⟩,ih⟩
 |node i f e g ih1 ih2=>rw[tU];exact⟨⟨Wp (KD i.o),ih1⟩,ih2⟩
def Wq(h:OH n l ss m):∀(x:Et) (d:Nat),ss.foldl aK (x,d+1)=(x,d+1):=by
 induction h using OH.ind with
 |nil=>intro x d;rfl
 | @leaf n m st y l ss t o f ih =>
  intro x d;rw[xR];have e:aK (x,d+1) st=(x,d+1):=by
   unfold aK;rw[t.k10,t.k11];simp
  rw[e];exact ih x d
 | @node n m k a st e b l bs ss i f d g ih1 ih2 =>
  intro x j;rw[xR,xa,xR];have e1:aK (x,j+1) st=(x,j+1+1):=by
   unfold aK;rw[i.k];simp
  have e2:aK (x,j+1+1) e=(x,j+1):=by
   unfold aK;rw[d.k];simp
  rw[e1,ih1 x (j+1),e2];exact ih2 x j
def Sim.bY{m:Et}{x:Lh}(h:Sim t b m s)(c:RF st.a x.a):Sim t b (m.bY st) (s.bY x):=
 ⟨h.th,h.bk,h.rg,h.ml,h.md,fun k=>by
  show PD (m.A|||m.Ea st.a) (k:Int)=C↔(k:Int)∈s.way++s.aH x.a;rw[DK,h.as_,h.aH c,List.mem_append],h.br,h.el,h.ev,h.un⟩
def EH(t:Tree)(l:List Tree):OA (t::l)=1+OA t.body+OA l:=by unfold OA;rw[jA];simp[iM]
def CV(l:List Tree):0<=OA l:=(gK _ l).1
def Ws(h:OH n l ss k):∀(t:Nat) (b:Int) (m:Et) (s:PS) (j:Nat),Sim t b m s->Bnd j s->j+(OA l).toNat<30->∃m',ss.foldl aK (m,0)=(m',0)/\Sim t b m' (doL s l):=by
 induction h using OH.ind with
 |nil=>intro t b m s j h _ _;exact⟨m,Z,by rw[bH];exact h⟩
 | @leaf n m' st y l ss tw o f ih =>
  intro t b m s j h q v;rw[EH]at v;have I:=CV l;have J:=CV (Tree.mk y []).body;have K:=q.e;have e:aK (m,0) st=(m.bO st,0):=by
   unfold aK;rw[tw.k10];simp
  rw[xR,e,lL];have x:dX s ⟨y,[]⟩=s.step y:=by
   unfold dX;rw[if_neg (by simpa[oIf]using o)]
  rw[x];exact ih t b _ _ (j+1) (h.step q tw (by omega)) (q.step (Ff tw)) (by omega)
 | @node n m' k a st e bd l bs ss i f d g ih1 ih2 =>
  intro t b m s j h q v;rw[EH]at v;have I:=CV l;have J:0<=OA bd:=CV bd;have E:j+(1+OA bd+OA l).toNat<30:=v;have B:RF st.a (fI a).a:=i.o;have F:=h.val B;have A:=h.bY B;have p:Bnd (j+1) (s.bY (fI a)):=q.bY;have e1:aK (m,0) st=(m.bY st,if s.val (fI a).a==0 then 1 else 0):=by
   unfold aK;rw[i.k,<- F];simp
  have x:dX s ⟨fI a,bd⟩=if s.val (fI a).a==0 then s.bY (fI a)else doL (s.bY (fI a)) bd:=by
   unfold dX;rw[if_pos (by simp only;rw[rN];rfl)]
  rw[xR,xa,xR,e1,lL,x]
  cases c:s.val (fI a).a==0 with
  |true =>
   simp only[if_true];have e2:aK (m.bY st,1) e=(m.bY st,0):=by
    unfold aK;rw[d.k];simp
   rw[Wq f (m.bY st) 0,e2];exact ih2 t b _ _ (j+1) A p (by omega)
  |false =>
   simp only[x5,if_false];obtain⟨D,G,H⟩:=ih1 t b _ _ (j+1) A p (by omega);have e2:aK (D,0) e=(D,0):=by
    unfold aK Et.bO;rw[d.k];simp
   rw[G,e2];have z:=eV bd (s.bY (fI a)) (j+1) p (Fg f);exact ih2 t b _ _ _ H z (by omega)
def Wt(t:Nat)(b:Int)(r:List Int):Sim t b (Et.start t b (enc r)) (PS.aL r):=by
 refine⟨Z,Z,Z,Z,fun i c k=>?_,fun k=>?_,Z,Z,fun i c=>by simp[PS.aL]at c,Z⟩
 ·have:i=0\/i=1\/i=2\/i=3:=by omega
  rcases this with rfl|rfl|rfl|rfl<;>simp[Et.start,PS.aL,RV]
 ·simp[Et.start,PS.aL,RV]
def Fh:∀{r:List Int},(∀v∈r,0<=v/\v<4)->enc r<4^O r
 |[],_=>by simp[enc]
 |v::r,h=>by
  have d:=Fh (r:=r) fun x c=>h x (xF _ c);have e:=h v (by simp);simp only[enc,xj,xb];omega
def Fi:∀(n c:Nat),c<4^n->∃r:List Int,O r=n/\(∀v∈r,0<=v/\v<4)/\enc r=c
 |0,c,h=>⟨[],Z,by simp,by simp at h;simp[enc,h]⟩
 |n+1,c,h=>by
  obtain⟨r,f,g,o⟩:=Fi n (c/4) (by rw[xb]at h;omega);refine⟨((c%4:Nat):Int)::r,by simp[f],fun v d=>?_,by simp only[enc,o];omega⟩
  rcases List.mem_cons.1 d with e|e
  ·rw[e];omega
  ·exact g v e
def Fj{x:Lh}(h:Twin st x):P.aX st.B=isRd x:=by
 have d:=h.kd;unfold isRd;rw[h.op];have c:st.B=0\/st.B=1\/st.B=2\/st.B=3\/st.B=4\/st.B=5\/st.B=6\/st.B=7\/st.B=8\/st.B=9:=by omega
 rcases c with k|k|k|k|k|k|k|k|k|k<;>rw[k]<;>decide
def Wu(h:OH n l ss m):∀c:Nat,ss.foldl (fun c st=>if P.aX st.B then c*4 else c) c=c*4^(NL isRd l).toNat:=by
 induction h using OH.ind with
 |nil=>intro c;simp[iY]
 | @leaf n m st y l ss t o f ih =>
  intro c;have x:=(gK isRd l).1;rw[xR,ih,Fj t,jA];simp only[iM,iY]
  cases isRd y
  ·simp
  ·simp only[if_true];rw[show(1+0+NL isRd l).toNat=(NL isRd l).toNat+1 by omega,xb,Nat.mul_assoc,Nat.mul_comm 4]
 | @node n m k a st e b l bs ss i f d g ih1 ih2 =>
  intro c;have x:=(gK isRd l).1;have z:=(gK isRd b).1;have p:P.aX st.B=Y:=by rw[i.k];rfl
  have q:P.aX e.B=Y:=by rw[d.k];rfl
  have v:isRd (fI a)=Y:=by unfold isRd;rw[rN];decide
  rw[xR,xa,xR,p,q,jA];simp only[x5,if_false,iM,v,Int.zero_add];rw[ih1,ih2,show(NL isRd b+NL isRd l).toNat=(NL isRd b).toNat+(NL isRd l).toNat by omega,Nat.pow_add,Nat.mul_assoc]
structure RunR(t:Nat)(p:Pth)(r:Run):Prop where
 rg:r.g=p.g
 el:O r.E=O p.e
 ev:∀i,i<O p.e->ER (ev p.e i) (Q.ev r.E i)/\(Q.ev r.E i).j=(t:Int)/\∀k:Nat,PD (Q.ev r.E i).h (k:Int)=C↔(k:Int)∈(ev p.e i).on
def Sim.run{m:Et}(h:Sim t b m s):RunR t (s.jB.tag (t:Int) b) m.run:=by
 refine⟨h.rg,by simp[Et.run,Pth.tag,PS.jB,h.el],fun i d=>?_⟩;have c:i<O s.e:=by simpa[Pth.tag,PS.jB]using d
 have e:J.ev (s.jB.tag (t:Int) b).e i=((J.ev s.e i).bF (t:Int)).bM b:=by
  simp only[Pth.tag,PS.jB];unfold J.ev;simp[c]
 rw[e];exact h.ev i c
def Wv{th:R.Th}(h:OH n th.body u.S k)(N:u.block=th.block)(i:Nat)(L:ThOk th):
  (∀p∈pths th i,∃r∈gY u i,RunR i p r)/\∀r∈gY u i,∃p∈pths th i,RunR i p r:=by
 have k0:=(gK isRd th.body).1;have K:QX u.S=4^(NL isRd th.body).toNat:=by
  unfold QX;rw[Wu h 1,Nat.one_mul]
 have E:=L.rd;have J:∀r:List Int,(∀v∈r,0<=v/\v<4)->O r<1000->∃m,kC u i (enc r)=m/\Sim i th.block m (doL (PS.aL r) th.body):=fun r o T=>by
  obtain⟨m',d,f⟩:=Ws h i th.block _ _ 0 (Wt i th.block r) (dN o T) (by have:=L.sz;omega);refine⟨m',?_,f⟩;unfold kC rV;rw[N,d]
 have M:=fun p=>Wo th.body p 4 [] (by simpa using E) fun r0 v e=>by simp at e
 constructor
 ·intro p U;obtain⟨q,V,rfl⟩:=List.mem_map.1 U;obtain⟨x,F,z,g,rfl⟩:=(M q).1 V;rw[x8]at z g⊢;have G:=Wn th.body (PS.aL x);rw[g]at G;have aa:(O x:Int)<=NL isRd th.body:=by have:(PS.aL x).D=x:=Z;rw[this]at G;simpa using G
  obtain⟨m,d,f⟩:=J x F (by omega);refine⟨m.run,?_,f.run⟩;unfold gY iS;rw[List.mem_map];refine⟨enc x,List.mem_filter.2 ⟨List.mem_range.2 ?_,?_⟩,by rw[d]⟩
  ·rw[K];exact Nat.lt_of_lt_of_le (Fh F) (Nat.pow_le_pow_right (by omega) (by omega))
  ·rw[d,f.un,g];rfl
 ·intro r o;unfold gY iS at o;obtain⟨c,B,rfl⟩:=List.mem_map.1 o;obtain⟨I,c2⟩:=List.mem_filter.1 B;rw[x9,K]at I;obtain⟨x,F,z,g⟩:=Fi _ c I;obtain⟨m,d,f⟩:=J x z (by omega);rw[g]at d;rw[d];have hs:=(gH th.body (PS.aL x) Z (by show NL isRd th.body<=(O x:Int);omega)).1;obtain⟨y,y1,A⟩:=Fc th.body _ hs;rw[Fe]at A;have H:x=y++(doL (PS.aL x) th.body).D:=y1;refine⟨_,List.mem_map.2 ⟨(doL (PS.aL y) th.body).jB,(M _).2 ⟨y,fun v X=>z v (by rw[H];exact List.mem_append.2 (Or.inl X)),by rw[x8,A];exact hs,by rw[x8,A];rfl,by rw[x8]⟩,Z⟩,?_⟩;have e:(doL (PS.aL y) th.body).jB=(doL (PS.aL x) th.body).jB:=by rw[A];rfl
  rw[e];exact f.run
end J
namespace Q
structure WInv(es:List Ev):Prop where
 len:3<=O es
 fst:∀i:Nat,i<3->ev es i=PU (i:Int)
 rest:∀i,3<=i->i<O es->(ev es i).j≠-1
 z:∀i,i<O es->QH (ev es i)=C->0<=(ev es i).z/\(ev es i).z<3
 hb:∀i,i<O es->HB (O es) (ev es i).h
 hl:∀i,i<O es->∀k:Nat,PD (ev es i).h (k:Int)=C->3<=k
 sr:SR es
 sw:SW es
def Ww:WInv QF where
 len:=by decide
 fst i h:=by
  match i,h with
  |0,_=>rfl
  |1,_=>rfl
  |2,_=>rfl
  |n+3,h=>omega
 rest i h k:=by simp[QF]at k;omega
 z i h _:=by
  match i,h with
  |0,_=>decide
  |1,_=>decide
  |2,_=>decide
  |n+3,h=>simp[QF]at h;omega
 hb i h:=by
  match i,h with
  |0,_=>exact SA _
  |1,_=>exact SA _
  |2,_=>exact SA _
  |n+3,h=>simp[QF]at h;omega
 sr i _ s:=by
  match i,s with
  |0,s=>simp[QF,ev,PU]at s
  |1,s=>simp[QF,ev,PU]at s
  |2,s=>simp[QF,ev,PU]at s
  |n+3,s=>rw[RU _ _ (by simp[QF])]at s;simp[Ev.zero]at s
 hl i h k hk:=by
  match i,h with
  |0,_=>rw[show(ev QF 0).h=0 from rfl,RV]at hk;cases hk
  |1,_=>rw[show(ev QF 1).h=0 from rfl,RV]at hk;cases hk
  |2,_=>rw[show(ev QF 2).h=0 from rfl,RV]at hk;cases hk
  |n+3,h=>simp[QF]at h;omega
 sw i _ s:=by
  match i,s with
  |0,s=>simp[QF,ev,PU]at s
  |1,s=>simp[QF,ev,PU]at s
  |2,s=>simp[QF,ev,PU]at s
  |n+3,s=>rw[RU _ _ (by simp[QF])]at s;simp[Ev.zero]at s
def Wx{n m s:Nat}(h:HB m s):HB (n+m) (QS s (n:Int)):=fun k c=>by
 by_cases hn:n<64
 ·obtain⟨_,e,d⟩:=(TI s n k hn).1 c;have:=h _ d;omega
 ·have:QS s (n:Int)=0:=by unfold QS;rw[if_pos (by omega)]
  rw[this,RV]at c;cases c
def Wy(n:Nat)(h:SR es):SR (es.map (QT n)):=fun i e d=>by
 rw[SK]at e d⊢;by_cases c:i<O es
 ·rw[if_pos c]at e d;obtain⟨a,b⟩:=h i e d;have:i+1<O es:=by
   by_cases c2:i+1<O es
   ·exact c2
   ·rw[RU _ _ (by omega)]at a;simp[Ev.zero]at a
  rw[if_pos this];exact⟨a,b⟩
 ·rw[if_neg c]at d;simp[Ev.zero]at d
def Wz(n:Nat)(h:SW es):SW (es.map (QT n)):=fun i e d=>by
 rw[SK]at e d;by_cases c:i<O es
 ·rw[if_pos c]at e d;obtain⟨a,b⟩:=h i e d;rw[SK,if_pos (by omega)];exact⟨a,b⟩
 ·rw[if_neg c]at d;simp[Ev.zero]at d
structure RInv(th:Int)(es:List Ev):Prop where
 K:∀e∈es,EvIn (O es) th e
 sr:SR es
 sw:SW es
def WInv.join{W:Wd}(h:WInv W.E){th:Int}(o:th≠-1)(g:RInv th r.E):WInv (W.join r).E where
 len:=by
  show 3<=(W.E++_).length;have:=h.len;rw[xc];omega
 fst i hi:=by
  show ev (W.E++_) i=_;rw[SJ,if_pos (by have:=h.len;omega)];exact h.fst i hi
 rest i hi hk:=by
  show(ev (W.E++_) i).j≠-1;have f:i<O W.E+O r.E:=by simpa[Wd.join]using hk
  rw[SJ];by_cases c:i<O W.E
  ·rw[if_pos c];exact h.rest i hi c
  ·rw[if_neg c,SK,if_pos (by omega)];have hl:i-O W.E<O r.E:=by omega
   have:=(g.K _ (xW hl)).thr;rw[SQ _ _ hl];show r.E[i-O W.E].j≠-1;rw[this];exact o
 z i hk ha:=by
  have f:i<O W.E+O r.E:=by simpa[Wd.join]using hk
  have e:ev (W.join r).E i=if i<O W.E then ev W.E i else ev (r.E.map (QT (O W.E))) (i-O W.E):=SJ _ _ _
  rw[e]at ha⊢;by_cases c:i<O W.E
  ·rw[if_pos c]at ha⊢;exact h.z i c ha
  ·rw[if_neg c,SK,if_pos (by omega)]at ha⊢;have hl:i-O W.E<O r.E:=by omega
   rw[SQ _ _ hl]at ha⊢;exact(g.K _ (xW hl)).z ha
 hb i hk:=by
  have e:ev (W.join r).E i=if i<O W.E then ev W.E i else ev (r.E.map (QT (O W.E))) (i-O W.E):=SJ _ _ _
  have hl:(W.join r).E.length=O W.E+O r.E:=by simp[Wd.join]
  rw[e,hl];by_cases c:i<O W.E
  ·rw[if_pos c];exact(h.hb i c).mono (by omega)
  ·rw[if_neg c,SK,if_pos (by omega)];have hl:i-O W.E<O r.E:=by omega
   rw[SQ _ _ hl];exact Wx (g.K _ (xW hl)).hb
 sr:=TJ h.sr (Wy _ g.sr)
 sw:=TM h.sw (Wz _ g.sw)
 hl i hk k hb:=by
  have f:i<O W.E+O r.E:=by simpa[Wd.join]using hk
  have e:ev (W.join r).E i=if i<O W.E then ev W.E i else ev (r.E.map (QT (O W.E))) (i-O W.E):=SJ _ _ _
  rw[e]at hb;by_cases c:i<O W.E
  ·rw[if_pos c]at hb;exact h.hl i c k hb
  ·rw[if_neg c,SK,if_pos (by omega)]at hb;have p:=h.len;have d:PD (QS (ev r.E (i-O W.E)).h (O W.E:Int)) (k:Int)=C:=hb;by_cases hn:O W.E<64
   ·have:=((TI _ _ _ hn).1 d).2.1;omega
   ·have z:QS (ev r.E (i-O W.E)).h (O W.E:Int)=0:=by unfold QS;rw[if_pos (by omega)]
    rw[z,RV]at d;cases d
def W5{t:NB}(h:∀s∈t.S,tO s)(f:r∈gY t i):RInv (i:Int) r.E:=by
 unfold gY iS at f;obtain⟨c,_,rfl⟩:=List.mem_map.1 f;have d:=Uy h i c;have o:(kC t i c).j=(i:Int):=by
  unfold kC rV;have:∀(ss:List MV) (p:Et×Nat),(ss.foldl aK p).1.j=p.1.j:=fun ss=>by
   induction ss with
   |nil=>intro p;rfl
   |cons s ss ih =>
    intro p;rw[xR,ih];unfold aK
    split
    ·split
     ·rfl
     ·unfold Et.bO Et.aZ Et.aJ Et.step Et.aZ Et.aJ
      repeat' split
      all_goals rfl
    ·split
     ·rfl
     ·split<;>rfl
  exact this _ _
 exact⟨fun e g=>by have:=d.K e g;rw[o]at this;exact this,d.sr,d.sw⟩
def LH(ts:List NB):Prop:=∀t∈ts,∀s∈t.S,tO s
def Fk:∀(ts:List NB) (i:Nat) (W:Wd) (c:List Int),LH ts->WInv W.E->WInv (iL W (eF i ts) c).E
 |[],_,_,_,_,h=>h
 |t::ts,i,W,[],_,h=>by simpa[eF,iL]using h
 |t::ts,i,W,d::c,hv,h=>by
  simp only[eF,iL];refine Fk ts (i+1) _ c (fun u f=>hv u (xF _ f)) ?_
  split
  ·rename_i e;exact h.join (by omega) (W5 (hv t (by simp)) (xW e))
  ·exact h
def W6{ts:List NB}(h:LH ts)(d:List Int):WInv (NV (NJ ts) d).E:=Fk ts 0 _ d h Ww
end Q
namespace J
structure JW(W:Wd)(w:Q.Wd):Prop where
 rg:w.g=W.g
 el:O w.E=O W.es
 er:∀i,i<O W.es->ER (ev W.es i) (Q.ev w.E i)
 hr:∀i (k:Nat),i<O W.es->(PD (Q.ev w.E i).h (k:Int)=C↔3<=i/\∃x∈(ev W.es i).on,(k:Int)=W.base.getD (ev W.es i).t.toNat 0+x)
def Fl{b:List Ev}(h:i<O a):Q.ev (a++b) i=Q.ev a i:=by unfold Q.ev;simp[xk h]
def Fm{b:List Ev}(h:O a<=i):Q.ev (a++b) i=Q.ev b (i-O a):=by unfold Q.ev;simp[xm h]
def Fo{n:Nat}(h:i<O a):Q.ev (a.map (QT n)) i=QT n (Q.ev a i):=by unfold Q.ev;simp[h]
def W7{j:E}{q:Ev}(n:Nat)(h:ER j q):ER j (QT n q):=⟨h.k0,h.k,h.t,h.b,h.v,h.o,h.o5,h.oe,h.s,h.r⟩
def JW.join{W:Wd}{p:Pth}(h:JW W w)(g:WI j W)(y:PI j p)(d:RunR j p r)(F:O W.es+O p.e<=64)(v:O W.es<64):JW (W.add p) (w.join r):=by
 have e3:=g.e3;have G:(r.E.map (QT (O w.E))).length=O p.e:=by simp[d.el]
 refine⟨by simp[Q.Wd.join,Wd.add,h.rg,d.rg],by simp[Q.Wd.join,Wd.add,h.el,d.el],fun i q=>?_,fun i k q=>?_⟩
 ·simp only[Wd.add,xc]at q;simp only[Q.Wd.join,Wd.add];by_cases c:i<O W.es
  ·rw[vX c,Fl (by rw[h.el];exact c)];exact h.er i c
  ·rw[vT (by omega),Fm (by rw[h.el];omega),h.el,Fo (by rw[d.el];omega)];exact W7 _ (d.ev _ (by omega)).1
 ·simp only[Wd.add,xc]at q;simp only[Q.Wd.join,Wd.add];by_cases c:i<O W.es
  ·rw[vX c,Fl (by rw[h.el];exact c),h.hr i k c];refine and_congr_right fun B=>?_;have o:=g.onk i B c;rw[xd,xd,xk o.tl]
  ·have f:i-O W.es<O p.e:=by omega
   obtain⟨_,_,D⟩:=d.ev _ f;rw[vT (by omega),Fm (by rw[h.el];omega),h.el,Fo (by rw[d.el];omega)];have t:=y.t _ (tM f);have on:=y.on _ (tM f);rw[t];have A:(W.base++[(O W.es:Int)]).getD ((j:Int)).toNat 0=(O W.es:Int):=by
    rw[xe,xd,xm (by rw[g.bl];exact Nat.le_refl _)];simp[g.bl]
   rw[A];show PD (QS (Q.ev r.E (i-O W.es)).h (O W.es:Int)) (k:Int)=C↔_;rw[TI _ _ _ v,D];constructor
   ·rintro⟨a,b,c⟩;exact⟨by omega,_,c,by omega⟩
   ·rintro⟨_,x,z,e⟩;have:=on.2 x z;refine⟨by omega,by omega,?_⟩;rw[show((k-O W.es:Nat):Int)=x by omega];exact z
def wC(j:Nat):List R.Th->List (List Pth)
 |[]=>[]
 |t::r=>pths t j::wC (j+1) r
def Fp:∀(ts:List R.Th) (j:Nat),wC j ts=ts.mapIdx fun i th=>pths th (i+j)
 |[],j=>Z
 |t::r,j=>by
  rw[wC,List.mapIdx_cons,Fp r (j+1)];simp only[Nat.zero_add]
  congr 2
  funext i th
  congr 1
  omega
def W8(ts:List R.Th):pss ts=wC 0 ts:=by rw[Fp];rfl
def Fq{c e:List Int}:e∈OJ (b::c)↔∃d:Nat,(d:Int)<b/\∃r∈OJ c,e=(d:Int)::r:=by
 show e∈(OJ c).flatMap (fun r=>(List.range b.toNat).map fun d:Nat=>(d:Int)::r)↔_;simp only[xi,List.mem_map,x9];constructor
 ·rintro⟨r,f,d,g,rfl⟩;exact⟨d,by omega,r,f,Z⟩
 ·rintro⟨d,g,r,f,rfl⟩;exact⟨r,f,d,by omega,Z⟩
def Ft(p:MV->Bool):∀l:List NB,0<=NY p l
 |[]=>Int.le_refl _
 |t::l=>by
  have c:=Ft p l;have d:=(oZ p t.S).1;simp only[NY];omega
def W9(h:eS n ts us k):∀(j:Nat) (W:Wd) (w:Q.Wd) (E S R:Int),JW W w->WI j W->Q.WI w E S R->(∀u∈us,ThrOk u)->(∀t∈ts,ThOk t)->E+(10*O us+NY QV us)<=46 ->
  (∀c,Reach (wC j ts) W c->∃d∈OJ (PG (eF j us)),JW c (iL w (eF j us) d))/\∀d∈OJ (PG (eF j us)),∃c,Reach (wC j ts) W c/\JW c (iL w (eF j us) d):=by
 induction h using eS.ind with
 |nil =>
  intro j W w E S R z _ _ _ _ _;constructor
  ·intro c v;rw[show c=W from v];exact⟨[],by simp[eF,PG,OJ],by simpa[eF,iL]using z⟩
  ·intro d H;simp[eF,PG,OJ]at H;subst H;exact⟨W,Z,by simpa[eF,iL]using z⟩
 | @cons n m k ts us t u f b l h ih =>
  intro j W w E S R z hw hq V U hE;have g:=V u (by simp);have F:=U t (by simp);obtain⟨r1,r2⟩:=Wv f b j F;have t0:=Ft QV us;simp only[NY,xj]at hE;have G:∀{p:Pth} {r:Run},p∈pths t j->r∈gY u j->RunR j p r->JW (W.add p) (w.join r)/\WI (j+1) (W.add p)/\Q.WI (w.join r) (E+(10+P.NA QV u.S)) (S+P.NA P.OO u.S) (R+4):=fun{p r} q v A=>by
   have B:=Dt F q;have q1:=hq.join (MB g.ok g.cd v) g.le g.br;have ln:=q1.len;have l0:=hq.len;have N:((w.join r).E.length:Int)=O W.es+O p.e:=by simp[Q.Wd.join,z.el,A.el]
   have c0:=(oZ QV u.S).1;rw[z.el]at l0;exact⟨z.join hw B A (by omega) (by omega),hw.add B,q1⟩
  constructor
  ·intro c v;obtain⟨p,q,v⟩:=v;obtain⟨r,D,A⟩:=r1 p q;obtain⟨I,J,K⟩:=G q D A;obtain⟨d,L,d2⟩:=(ih (j+1) _ _ _ _ _ I J K (fun x y=>V x (xF _ y)) (fun x y=>U x (xF _ y)) (by omega)).1 c v;obtain⟨i,X,e⟩:=List.mem_iff_getElem.1 D;refine⟨(i:Int)::d,?_,?_⟩
   ·show(i:Int)::d∈OJ (((gY u j).length:Int)::PG (eF (j+1) us));exact Fq.2 ⟨i,by omega,d,L,Z⟩
   ·simp only[eF,iL,xe];rw[dif_pos X,e];exact d2
  ·intro d H;have T:d∈OJ (((gY u j).length:Int)::PG (eF (j+1) us)):=H;obtain⟨i,X,M,L,rfl⟩:=Fq.1 T;have o:i<(gY u j).length:=by omega
   obtain⟨p,q,A⟩:=r2 _ (xW o);obtain⟨I,J,K⟩:=G q (xW o) A;obtain⟨c,w1,w2⟩:=(ih (j+1) _ _ _ _ _ I J K (fun x y=>V x (xF _ y)) (fun x y=>U x (xF _ y)) (by omega)).2 M L;refine⟨c,⟨p,q,w1⟩,?_⟩;simp only[eF,iL,xe];rw[dif_pos o];exact w2
end J
def Q.Fv:∀{l m:List (List Int)},QB l->QB m->(∀r,r∈l↔r∈m)->l=m
 |[],[],_,_,_=>Z
 |[],y::m,_,_,h=>by have:=(h y).2 (by simp);simp at this
 |x::l,[],_,_,h=>by have:=(h x).1 (by simp);simp at this
 |x::l,y::m,hl,hm,h=>by
  have a:=List.pairwise_cons.1 hl;have b:=List.pairwise_cons.1 hm;have e:x=y:=by
   rcases List.mem_cons.1 ((h x).1 (by simp))with e|e
   ·exact e
   ·rcases List.mem_cons.1 ((h y).2 (by simp))with c|c
    ·exact c.symm
    ·have:=ET (a.1 y c) (b.1 x e);rw[tE]at this;omega
  subst e;have d:x∉l:=fun e=>by have:=a.1 x e;rw[tE]at this;omega
  have f:x∉m:=fun e=>by have:=b.1 x e;rw[tE]at this;omega
  rw[Q.Fv a.2 b.2 (fun r=>⟨fun e=>?_,fun e=>?_⟩)]
  ·rcases List.mem_cons.1 ((h r).1 (xF _ e))with c|c
   ·rw[c]at e;exact absurd e d
   ·exact c
  ·rcases List.mem_cons.1 ((h r).2 (xF _ e))with c|c
   ·rw[c]at e;exact absurd e f
   ·exact c
namespace J
def Xa(h:OH n l ss m):P.NA nE ss=OA l:=by
 induction h using OH.ind with
 |nil=>simp[P.NA,OA,iY]
 | @leaf n m st y l ss t o f ih =>
  rw[EH];have:nE st=C:=by unfold nE bne;rw[t.k11];rfl
  simp[P.NA,this,ih,OA,iY]
 | @node n m k a st e b l bs ss i f d g ih1 ih2 =>
  rw[EH];have c:nE st=C:=by unfold nE;rw[i.k];rfl
  have p:nE e=Y:=by unfold nE;rw[d.k];rfl
  simp only[P.NA,xJ,c,p,ih1,ih2];simp;omega
def Xb(h:OH n l ss m):∀s∈ss,tO s:=by
 induction h using OH.ind with
 |nil=>simp
 | @leaf n m st y l ss t o f ih =>
  intro s hs
  rcases List.mem_cons.1 hs with rfl|hs
  ·intro c;exact(t.acc (by unfold QW;rcases c with k|k|k|k<;>rw[k]<;>rfl)).2
  ·exact ih s hs
 | @node n m k a st e b l bs ss i f d g ih1 ih2 =>
  intro s hs
  rcases List.mem_cons.1 hs with rfl|hs
  ·intro c;rw[i.k]at c;omega
  ·rcases List.mem_append.1 hs with hs|hs
   ·exact ih1 s hs
   ·rcases List.mem_cons.1 hs with rfl|hs
    ·intro c;rw[d.k]at c;omega
    ·exact ih2 s hs
def Xc{th:R.Th}(h:OH n th.body u.S m)(c:P.NA nE u.S<=8)(e:P.NA P.OE u.S<=4):ThOk th:=by
 have hs:=Xa h;have d:=OH.NA P.OE isRd h (fun st x t=>(Fj t).symm) fun st k=>by unfold P.OE;rw[k];rfl fun st k=>by unfold P.OE;rw[k];rfl (fun a=>by unfold isRd;rw[rN];decide);exact⟨Fg h,by omega,by omega,by omega⟩
def Xd(h:eS n ts us k):(∀u∈us,P.NA nE u.S<=8)->(∀u∈us,P.NA P.OE u.S<=4)->(∀t∈ts,ThOk t)/\LH us/\O ts=O us:=by
 induction h using eS.ind with
 |nil=>intro _ _;exact⟨by simp,fun t d=>by simp at d,Z⟩
 |cons f b l h ih =>
  intro e g;obtain⟨o,p,q⟩:=ih (fun u c=>e u (xF _ c)) fun u c=>g u (xF _ c);refine⟨fun t d=>?_,fun u c=>?_,by simp[q]⟩
  ·rcases List.mem_cons.1 d with rfl|d
   ·exact Xc f (e _ (by simp)) (g _ (by simp))
   ·exact o t d
  ·rcases List.mem_cons.1 c with rfl|c
   ·exact Xb f
   ·exact p u c
def Xe:JW W0 ⟨QF,[]⟩:=by
 refine⟨Z,Z,fun i d=>?_,fun i k d=>?_⟩
 ·have f:i<3:=by simpa[W0,fws_len]using d
  have:i=0\/i=1\/i=2:=by omega
  have c:∀v:Int,ER (fw v) (PU v):=fun v=>⟨by simp[PU],by simp[PU,fw,SL,kW,bQ],Z,fun e=>absurd Z e,fun _=>⟨Z,Z,Z⟩,fun _=>⟨by simp[PU],by simp[PU,fw,ordW,bT,bQ]⟩,fun _=>by simp[PU],fun e=>by simp[PU]at e,fun _=>by simp[PU,fw,sDev,bQ],fun e=>by simp[PU]at e⟩
  rcases this with rfl|rfl|rfl
  ·exact c 0
  ·exact c 1
  ·exact c 2
 ·have f:i<3:=by simpa[W0,fws_len]using d
  have:(Q.ev QF i).h=0:=by
   have:i=0\/i=1\/i=2:=by omega
   rcases this with rfl|rfl|rfl<;>rfl
  rw[this,RV];simp;omega
def JW.wp{W:Wd}(h:JW W w)(D:WI j W)(f:WInv w.E)(B:O w.E<=64):WP W.es w.E W.base:=by
 have x:=h.el;have y:∀i,i<3->Q.ev w.E i=PU (i:Int):=f.fst;have g:∀i,i<O w.E->ER (ev W.es i) (Q.ev w.E i):=fun i d=>h.er i (by omega)
 have wr:WR W.es w.E:=⟨x.symm,g,fun i d=>⟨fun c=>by rw[y i c];rfl,fun e=>by
  rcases Nat.lt_or_ge i 3 with c|c
  ·exact c
  ·exact absurd e (f.rest i c d)⟩,fun i d=>by rw[y i d];exact⟨Z,Z⟩,f.len⟩
 refine⟨wr,fun i k d _=>h.hr i k (by omega),B,fun i d F G=>?_,fun i d q H=>?_,fun i d q=>f.z i d (by unfold QH;rw[q];rfl)⟩
 ·obtain⟨a,b⟩:=f.sr i F G;refine⟨?_,a,b⟩
  rcases Nat.lt_or_ge (i+1) (O w.E)with c|c
  ·exact c
  ·rw[RU _ _ c]at a;simp[Ev.zero]at a
 ·obtain⟨a,b,c⟩:=f.sw i q H;have p:i-1<O w.E:=by omega
  have o:=g (i-1) p;have A:=g i d;have st:isStep (ev W.es (i-1))=C:=by
   unfold isStep;rw[(eE o).1,b,(o.v (by omega)).2.2,c];rfl
  obtain⟨_,l,t⟩:=D.half (i-1) (by omega) st;rw[show i-1+1=i by omega]at l t;refine⟨a,b,c,?_,?_⟩
  ·rw[<- (o.v (by omega)).1,<- (A.v (by omega)).1,l]
  ·rw[<- o.t,<- A.t,t]
def Xf(s:MV)(h:QV s=C):P.OD s=C:=by
 unfold QV at h;have:s.B=2\/s.B=3:=by simpa using h
 unfold P.OD lV
 rcases this with e|e<;>rw[e]<;>rfl
def two_sides(h:eS 0 ts us k)(G:KerIs us):(∀t∈ts,ThOk t)/\O ts=O us/\(∀o,ThP (pss ts) W0 o↔o∈(QJ us).y)/\(ThC (pss ts) W0↔(QJ us).clash=C):=by
 have H:=EZ G;obtain⟨N,X,ln⟩:=Xd h (fun u M=>(H u M).le) fun u M=>Int.le_trans (CO M) G.rd;have hs:NY QV us<=3:=Int.le_trans (GK Xf us) G.wr;have few:=G.few;obtain⟨S,T⟩:=W9 h 0 W0 ⟨QF,[]⟩ 3 0 0 Xe FU Cc H N (by omega);rw[<- W8]at S T;have wp:∀{d:Wd} {e:List Int},e∈OJ (PG (eF 0 us))->Reach (pss ts) W0 d->JW d (iL ⟨QF,[]⟩ (eF 0 us) e)->WP d.es (NV (NJ us) e).E d.base:=fun{d e} U f F=>by
  have V:=FE N (O ts) 0 W0 d (by omega) FU (by simpa using f);have q:=(SZ G (SI U)).len;exact JW.wp F V (W6 X e) (by omega)
 refine⟨N,ln,fun o=>?_,?_⟩
 ·rw[TG];constructor
  ·rintro⟨d,f,L⟩;obtain⟨e,p,J⟩:=S d f;obtain⟨D,A,B,z,v,x,I⟩:=((wp p f J).y d.g o).1 L;refine⟨_,SP.2 ⟨e,p,D,A,Z,B⟩,z,v,x,?_⟩;rw[I,<- J.rg];rfl
  ·rintro⟨c,K,z,v,x,rfl⟩;obtain⟨e,p,D,A,rfl,B⟩:=SP.1 K;obtain⟨d,f,F⟩:=T e p;refine⟨d,f,((wp p f F).y d.g _).2 ⟨D,A,B,z,v,x,?_⟩⟩;rw[<- F.rg];rfl
 ·rw[Uj];constructor
  ·rintro⟨d,f,L⟩;obtain⟨e,p,J⟩:=S d f;obtain⟨D,A,B,z,v,x,I⟩:=(wp p f J).clash.1 L;exact⟨_,SP.2 ⟨e,p,D,A,Z,B⟩,z,v,x,I⟩
  ·rintro⟨c,K,z,v,x,I⟩;obtain⟨e,p,D,A,rfl,B⟩:=SP.1 K;obtain⟨d,f,F⟩:=T e p;exact⟨d,f,(wp p f F).clash.2 ⟨D,A,B,z,v,x,I⟩⟩
def two_rows(h:eS 0 ts us k)(e:KerIs us){d:List (List Int)}{c:Bool}{L:Nat}(g:Grew L [] d Y c (ThP (pss ts) W0) (ThC (pss ts) W0)):d=(QJ us).y/\c=(QJ us).clash:=by
 obtain⟨_,_,a,b⟩:=two_sides h e;constructor
 ·exact Fv g.rise (Ch us) fun r=>by rw[g.mem,<- a];simp
 ·have:=g.cl;rw[b]at this
  cases c<;>cases hc:(QJ us).clash<;>simp[hc]at this⊢
end J
