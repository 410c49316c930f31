import Derived.Test.YtehclbpoabdpoaaGreatDoorO10
set_option linter.all false
set_option maxHeartbeats 0
namespace Go.Proofs.YtehclbpoabdpoaaGreatDoor
open Go Go.RowKit Go.Proofs.Tryz P Q R
set_option maxRecDepth 1000000
variable {w:World}{B:Nat}{ts:List R.Th}{vs:List Value}{Fs:List (List Nat)}
open List renaming length->G
open _root_.Array renaming size->E
open Go.World renaming heap->U
open Go.Value renaming int->Y
open Go.IntKind renaming i64->C
open Option renaming some->O
open Go.Ending renaming returned->I
open List renaming isEmpty_nil->xF,getElem_mem->x1,length_cons->x3,cons_append->x4
open Bool renaming true_or->xR,and_true->xW
open Nat renaming le_refl->x2
def QO:List R.Th->List Value->List Value
 |t::l,v::vs=>[Y C t.block,v,Y C t.row]++QO l vs
 |_,_=>[]
def EN(l:List R.Th):∀(vs:List Value),G vs=G l->(QO l vs).length=G l*3:=by
 induction l with
 |nil=>intro vs _;simp[QO]
 |cons t l ih =>
  intro vs h
  cases vs with
  |nil=>simp at h
  |cons v vs =>
   have:=ih vs (by simpa using h);simp only[QO,List.length_append,this,x3,List.length_nil];omega
def WG(l:List R.Th):∀(vs:List Value),G vs=G l->∀(i:Nat) (t:R.Th) (v:Value),l[i]?=O t->vs[i]?=O v ->
  (QO l vs)[i*3]?=O (Y C t.block)/\(QO l vs)[i*3+1]?=O v/\(QO l vs)[i*3+2]?=O (Y C t.row):=by
 induction l with
 |nil=>intro vs _ i t v h;simp at h
 |cons t0 l ih =>
  intro vs c i t v a b
  cases vs with
  |nil=>simp at c
  |cons v0 vs =>
   cases i with
   |zero =>
    simp at a b;subst a b;simp[QO]
   |succ i =>
    simp at a b;have:=ih vs (by simpa using c) i t v a b;rw[show(i+1)*3=i*3+3 by omega];simpa[QO]using this
def LA(l m:List R.Th):∀(vs a:List Value),G vs=G l->QO (l++m) (vs++a)=QO l vs++QO m a:=by
 induction l with
 |nil =>
  intro vs a h;have:vs=[]:=List.length_eq_zero_iff.1 h;subst this;simp[QO]
 |cons t l ih =>
  intro vs a h
  cases vs with
  |nil=>simp at h
  |cons v vs=>simp only[x4,QO,ih vs a (by simpa using h),List.nil_append]
structure ThsAt(w:World)(B:Nat)(tv:Value)(ts:List R.Th)(vs:List Value)(Fs:List (List Nat)):Prop where
 own:w.ownsRow B 50 3 tv (G ts) (QO ts vs)
 lv:G vs=G ts
 lF:G Fs=G ts
 kid:∀(i:Nat) (t:R.Th) (u:Value) (F:List Nat),ts[i]?=O t->vs[i]?=O u->Fs[i]?=O F->NZ w B u t.body F
def ThsAt.keep{w':World}{f:Value}(h:ThsAt w B f ts vs Fs)(b:∀k,k<E (U w)->w'.heap[k]?=w.heap[k]?):ThsAt w' B f ts vs Fs :=
 ⟨bE h.own fun k e=>b k (h.own.lt k e).2,h.lv,h.lF,fun i t u F c d a=>(h.kid i t u F c d a).keep fun k g=>b k ((h.kid i t u F c d a).fV k g).2⟩
namespace R
def Ky(p:Lh->Bool)(a b:List Th):eH p (a++b)=eH p a+eH p b:=by
 induction a with
 |nil=>simp[eH]
 |cons t r ih=>simp only[x4,eH,ih];omega
def JT(p:Lh->Bool)(l:List Th)(k:Nat)(h:k<G l):eH p (l.take (k+1))=eH p (l.take k)+NL p l[k].body:=by
 rw[List.take_succ_eq_append_getElem h,Ky];simp only[eH];omega
def LX(p:Lh->Bool)(l:List Th)(h:∀t∈l,OA t.body<10000):0<=eH p l/\eH p l<=G l*10000:=by
 induction l with
 |nil=>simp[eH]
 |cons t r ih =>
  have c:=ih fun t b=>h t (by simp[b]);have a:=h t (by simp);have d:=gK p t.body;unfold OA at a;simp only[eH,x3];push_cast;omega
def BE(p q r:Lh->Bool)(h:∀x,(if p x then(1:Int)else 0)=(if q x then 1 else 0)+if r x then 1 else 0):(∀t,iM p t=iM q t+iM r t)/\∀l,NL p l=NL q l+NL r l:=by
 have a:∀l,NL p l=NL q l+NL r l:=by
  intro l
  induction l using NL.induct with
  |case1=>simp[iY]
  |case2 x b l h1 h2 =>
   have:=h x;simp only[jA,iM,h1,h2];omega
 refine⟨fun t=>?_,a⟩
 cases t with
 |mk x b=>have:=h x;have:=a b;simp only[iM];omega
def AA:Lh->Bool:=eT [108,111,97,100] []
def AU:Lh->Bool:=eT [115,116,111,114,101] []
def nB:Lh->Bool:=eT [97,100,100] []
def mQ:Lh->Bool:=eT [115,119,97,112] []
def yD:Lh->Bool:=eT [102,101,110,99,101] [115,99]
def Kz(l:List Tree):NL OE l=NL AA l+NL nB l+NL mQ l:=by
 have a:=(BE OE AA (fun x=>nB x||mQ x) fun x=>by
  simp only[OE,AA,nB,mQ,eT,xF,xR,xW,gG,bQ,jW,jT];by_cases h:x.op.toList=[108,111,97,100]
  ·rw[h];decide
  ·simp[h]).2 l
 have b:=(BE (fun x=>nB x||mQ x) nB mQ fun x=>by
  simp only[nB,mQ,eT,xF,xR,xW];by_cases h:x.op.toList=[97,100,100]
  ·rw[h];decide
  ·simp[h]).2 l
 rw[a,b];omega
def K4(l:List Tree):NL OD l=NL AU l+NL nB l+NL mQ l:=by
 have a:=(BE OD AU (fun x=>nB x||mQ x) fun x=>by
  simp only[OD,AU,nB,mQ,eT,xF,xR,xW,gN,bQ,jW,jT];by_cases h:x.op.toList=[115,116,111,114,101]
  ·rw[h];decide
  ·simp[h]).2 l
 have b:=(BE (fun x=>nB x||mQ x) nB mQ fun x=>by
  simp only[nB,mQ,eT,xF,xR,xW];by_cases h:x.op.toList=[97,100,100]
  ·rw[h];decide
  ·simp[h]).2 l
 rw[a,b];omega
def WH:OO=yD:=by
 funext x
 simp[OO,yD,eT,gT,bQ,oS]
def K5:isB=eT [98,97,114,114,105,101,114] []:=by
 funext x
 simp[isB,eT,jE,bQ]
end R
def ThsAt.get{a n g:Nat}(h:ThsAt w B (MU a n g) ts vs Fs)(x:n=G ts)(hs:∀t∈ts,OA t.body<10000)(k:Nat)(c:k<G ts):
  a<E (U w)/\∃u,w.cell? ⟨a,k*3,none⟩=O (Y C ts[k].block)/\w.cell? ⟨a,k*3+1,none⟩=O u/\w.cell? ⟨a,k*3+2,none⟩=O (Y C ts[k].row)/\
   MT (∀(f ord:ByteArray) (b:World),Below (E (U w)) w b->Calls prog 21 #[u,.string f,.string ord] b fun e l=>e=I (Y C (NL (eT f.toList ord.toList) ts[k].body))/\Below (E (U b)) b l):=by
 have i:k<G vs:=by rw[h.lv];exact c
 have r:k<G Fs:=by rw[h.lF];exact c
 have d:=h.own;rw[<- x]at d;obtain⟨m,o,p⟩:=WG ts vs h.lv k ts[k] vs[k] (by simp[c]) (by simp[i]);refine⟨(d.lt a Z).2,vs[k],?_,?_,?_,?_⟩
 ·rw[d.cellAt _ (by omega)];exact m
 ·rw[d.cellAt _ (by omega)];exact o
 ·rw[d.cellAt _ (by omega)];exact p
 ·intro f ord b s;have L:=h.kid k ts[k] vs[k] Fs[k] (by simp[c]) (by simp[i]) (by simp[r]);refine(Kx f ord L (hs _ (x1 c)) b fun j v=>s.block j (L.fV j v).2).mono ?_;rintro e l ⟨rfl,q⟩;exact⟨Z,q⟩
def K7(B bt n q:Nat)(ts:List R.Th)(vs:List Value)(Fs:List (List Nat))(w:World)(h:ThsAt w B (MU bt n q) ts vs Fs)(hn:n=G ts)(ad:n<10)(hs:∀t∈ts,OA t.body<10000):
  Calls prog 20 #[MU bt n q] w fun e x=>e=I (.bool (sN ts))/\Below (E (U w)) w x:=by
 have HA:=MS h;have A:=MS hn;have D:=MS hs;clear h hn hs;go_enter func20,ntmps20;go_wp2;go_loopw[3,4,5,6] (fun a b c i wr=>∃k:Nat,k<=n/\i=Y C k/\a=Y C (eH R.OE (ts.take k))/\b=Y C (eH R.OD (ts.take k))/\c=Y C (eH R.OO (ts.take k))/\Below (E (U w)) w wr) fun _ _ _ i _=>n-(intOf i).toNat
 case atStart=>exact⟨0,Nat.zero_le _,Z,Z,Z,Z,Below.refl _ _⟩
 case round =>
  obtain⟨k,hk,rfl,rfl,rfl,rfl,d⟩:=hrel;have m:∀t∈ts.take k,OA t.body<10000:=fun t ht=>D.o t (List.mem_of_mem_take ht)
  have ac:((ts.take k).length:Int)<=10:=by have:=List.length_take_le k ts;omega
  have b1:0<=eH R.OE (ts.take k)/\eH R.OE (ts.take k)<=100000:=by have:=LX R.OE _ m;omega
  have b2:0<=eH R.OD (ts.take k)/\eH R.OD (ts.take k)<=100000:=by have:=LX R.OD _ m;omega
  have b3:0<=eH R.OO (ts.take k)/\eH R.OO (ts.take k)<=100000:=by have:=LX R.OO _ m;omega
  by_cases hlt:k<n
  ·have l:k<G ts:=by rw[<- A.o];exact hlt
   obtain⟨H,u,c0,c1,c2,N⟩:=HA.get A.o D.o k l;have d1:=MZ d H c1;have r:=JT R.OE ts k l;have s:=JT R.OD ts k l;have K:=JT R.OO ts k l;rw[Kz]at r;rw[K4]at s;rw[WH]at K;have hz:=D.o ts[k] (x1 l);unfold OA at hz;have e1:=gK AA ts[k].body;have e2:=gK AU ts[k].body;have e3:=gK nB ts[k].body;have e4:=gK mQ ts[k].body;have e5:=gK yD ts[k].body;obtain⟨g,j⟩:∃f:ByteArray->ByteArray->Int,∀p ord,f p ord=NL (eT p.toList ord.toList) ts[k].body:=⟨_,fun _ _=>Z⟩;have z:MT (∀(p ord:ByteArray) (y:World),Below (E (U w)) w y->Calls prog 21 #[u,.string p,.string ord] y fun e x=>e=I (Y C (g p ord))/\Below (E (U w)) w x):=fun p ord y F=>by
    rw[j];refine(N.o p ord y F).mono ?_;rintro e x ⟨rfl,h2⟩;exact⟨Z,F.trans (h2.mono F.size)⟩
   have S:NL AA ts[k].body=g ⟨#[108,111,97,100]⟩ ⟨#[]⟩:=by rw[j,bQ,bQ];rfl
   have T:NL AU ts[k].body=g ⟨#[115,116,111,114,101]⟩ ⟨#[]⟩:=by rw[j,bQ,bQ];rfl
   have V:NL nB ts[k].body=g ⟨#[97,100,100]⟩ ⟨#[]⟩:=by rw[j,bQ,bQ];rfl
   have W:NL mQ ts[k].body=g ⟨#[115,119,97,112]⟩ ⟨#[]⟩:=by rw[j,bQ,bQ];rfl
   have X:NL yD ts[k].body=g ⟨#[102,101,110,99,101]⟩ ⟨#[115,99]⟩:=by rw[j,bQ,bQ];rfl
   rw[S]at e1 r;rw[T]at e2 s;rw[V]at e3 r s;rw[W]at e4 r s;rw[X]at e5 K;have f1:0<=g ⟨#[108,111,97,100]⟩ ⟨#[]⟩/\g ⟨#[108,111,97,100]⟩ ⟨#[]⟩<10000:=by omega
   have f2:0<=g ⟨#[115,116,111,114,101]⟩ ⟨#[]⟩/\g ⟨#[115,116,111,114,101]⟩ ⟨#[]⟩<10000:=by omega
   have f3:0<=g ⟨#[97,100,100]⟩ ⟨#[]⟩/\g ⟨#[97,100,100]⟩ ⟨#[]⟩<10000:=by omega
   have f4:0<=g ⟨#[115,119,97,112]⟩ ⟨#[]⟩/\g ⟨#[115,119,97,112]⟩ ⟨#[]⟩<10000:=by omega
   have f5:0<=g ⟨#[102,101,110,99,101]⟩ ⟨#[115,99]⟩/\g ⟨#[102,101,110,99,101]⟩ ⟨#[115,99]⟩<10000:=by omega
   clear N c0 c1 c2 S T V W X j;have S1:=MS r;have S2:=MS s;have S3:=MS K;rw[WH]at *;generalize eH R.OE (ts.take k)=L at*;generalize eH R.OD (ts.take k)=M at*;generalize eH yD (ts.take k)=t3 at*;have ab:(k:Int)<(n:Int):=by omega
   go_wp2_with(first|(go_at_call 21;refine(z.o _ _ _ (by assumption)).mono ?_;rintro e w1 ⟨rfl,aa⟩));go_roundw
   case rel=>exact⟨k+1,by omega,by go_num,by rw[S1.o];congr 1;omega,by rw[S2.o];congr 1;omega,by rw[S3.o],by assumption⟩
   case measure=>simp[intOf];omega
  ·have J:k=n:=by omega
   subst J;have HT:MT (ts.take k=ts):=List.take_of_length_le (by have:=A.o;omega);rw[HT.o]at *;have v:MT (sN ts=(decide (eH R.OE ts<=4)&&decide (eH R.OD ts<=3)&&decide (eH R.OO ts<=3))):=Z;generalize eH R.OE ts=L at*;generalize eH R.OD ts=M at*;generalize eH R.OO ts=t3 at*;by_cases g1:L<=4
   ·by_cases g2:M<=3
    ·by_cases g3:t3<=3
     ·go_wp2;go_ret;rw[v.o];simp[g1,g2,g3];exact d
     ·go_wp2;go_ret;rw[v.o];simp[g1,g2,g3];exact d
    ·go_wp2;go_ret;rw[v.o,decide_eq_false (show ¬M<=3 by omega)];simp;exact d
   ·go_wp2;go_ret;rw[v.o,decide_eq_false (show ¬L<=4 by omega)];simp;exact d
namespace R
def CM(a b:Int)(t:Th)(r:List Th)(h:t.block=0):oK a b (t::r)=if(if a<0 then NL isB t.body else a) != NL isB t.body||decide (2<NL isB t.body)then t.row else oK (if a<0 then NL isB t.body else a) b r:=by
 simp[oK,h]
def La(b a:Int)(t:Th)(r:List Th)(h:t.block=1):oK b a (t::r)=if(if a<0 then NL isB t.body else a) != NL isB t.body||decide (2<NL isB t.body)then t.row else oK b (if a<0 then NL isB t.body else a) r:=by
 simp[oK,h]
end R
def Lb{g:Nat}{a b:Value}(h:w.heap[g]?=O (.cells #[a,b] 3 (0,0))):w.cell? ⟨g,0,none⟩=O a/\w.cell? ⟨g,1,none⟩=O b/\w.frozen? ⟨g,0,none⟩=false/\w.frozen? ⟨g,1,none⟩=false:=by
 refine⟨by simp[World.cell?,h],by simp[World.cell?,h],by simp[World.frozen?,h],by simp[World.frozen?,h]⟩
def Lc(B q n x:Nat)(ts:List R.Th)(vs:List Value)(Fs:List (List Nat))(w:World)(h:ThsAt w B (MU q n x) ts vs Fs)(V:n=G ts)(ab:n<10)(hs:∀t∈ts,OA t.body<10000)(T:∀t∈ts,t.block=0\/t.block=1):
  Calls prog 19 #[MU q n x] w fun e K=>e=I (Y C (mI ts))/\Below (E (U w)) w K:=by
 have HA:=MS h;have z:=MS V;have M:=MS hs;have HB:=MS T;clear h V hs T;go_enter func19,ntmps19;go_wp2;go_loopw[4] (fun i wr=>∃(k:Nat) (c d:Int),k<=n/\i=Y C k/\MT (mI ts=oK c d (ts.drop k))/\(-1<=c/\c<10000/\-1<=d/\d<10000)/\wr.heap[E (U w)]?=O (.cells #[Y C c,Y C d] 3 (0,0))/\Below (E (U w)) w wr) fun i _=>n-(intOf i).toNat
 case atStart=>exact⟨0, -1, -1,Nat.zero_le _,Z,Z,by decide,heap_alloc_new w _,(Below.refl _ _).alloc (x2 _) _⟩
 case round =>
  obtain⟨k,c,d,hk,rfl,A,hf,s,a⟩:=hrel;by_cases hlt:k<n
  ·have m:k<G ts:=by rw[<- z.o];exact hlt
   obtain⟨v,u,c0,c1,c2,HC⟩:=HA.get z.o M.o k m;have N:=MZ a v c0;have d1:=MZ a v c1;have d2:=MZ a v c2;have hz:=M.o ts[k] (x1 m);unfold OA at hz;have e1:=gK isB ts[k].body;have L:=MS (wL ts k m);have C1:MT (Calls prog 21 #[u,.string ⟨#[98,97,114,114,105,101,114]⟩,.string ⟨#[]⟩] wr fun e K=>e=I (Y C (NL isB ts[k].body))/\Below (E (U wr)) wr K):=by
    have:=HC.o ⟨#[98,97,114,114,105,101,114]⟩ ⟨#[]⟩ wr a;rw[bQ,bQ]at this;rw[K5];exact this
   have y:=HB.o ts[k] (x1 m);have H:E (U w)<E (U wr):=by
    have:=Array.getElem?_eq_some_iff.1 s;exact this.1
   have aa:(k:Int)<(n:Int):=by omega
   generalize ts[k]=t at*;generalize S:NL isB t.body=nb at*;have W:0<=nb/\nb<10000:=by omega
   rcases y with l|l
   case' inl =>
    have r:=R.CM c d t (ts.drop (k+1)) l;rw[S,<- L.o,<- A.o]at r;by_cases hneg:c<0
    case' neg =>
     by_cases hdiff:c=nb
   case' inr =>
    have r:=La c d t (ts.drop (k+1)) l;rw[S,<- L.o,<- A.o]at r;by_cases hneg:d<0
    case' neg =>
     by_cases hdiff:d=nb
   all_goals
    by_cases hbig:2<nb
    all_goals
     rw[l]at N
     try subst hdiff
     first|rw[if_pos hneg]at r|rw[if_neg hneg]at r
     first|simp[hbig,hdiff]at r|simp[hbig]at r
     have HR:=MS r;go_wp2_with(first|(go_at_call 21;refine C1.mono ?_;rintro e X ⟨rfl,f⟩;have q1:=(f.cell (p:=⟨q,k*3,none⟩) (by show q<_;omega)).trans N;have q2:=(f.cell (p:=⟨q,k*3+2,none⟩) (by show q<_;omega)).trans d2;have J:=(f.block (E (U w)) H).trans s;obtain⟨p1,p2,p3,p4⟩:=Lb J;have F:q≠E (U w):=(by omega);have q5:=fun(i:Nat) (u:Value)=>(cY (w:=X) (g:=E (U w)) (i:=i) (b:=q) (o:=k*3+2) (u:=u) F).trans q2;have j:Below (E (U w)) w X:=a.trans (f.mono (by omega))))
     first
      |(go_ret
        rw[HR.o]
        first|exact⟨Z,j⟩|exact⟨Z,j.setCell (x2 _) _⟩)
      |(go_roundw
        case rel=>first|exact⟨k+1,_,_,by omega,by go_num,HR,hf,J,j⟩|exact⟨k+1,_,_,by omega,by go_num,HR,by omega,by rw[bX J];rfl,j.setCell (x2 _) _⟩
        case measure=>simp[intOf];omega)
  ·have D:MT (mI ts=0):=by
    unfold MT;rw[A.o,List.drop_eq_nil_of_le (by have:=z.o;omega)];rfl
   go_wp2;go_ret;rw[D.o];exact⟨Z,a⟩
