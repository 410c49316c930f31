import Derived.Test.YtlikcongbhhpfaaGreatDoorM07
set_option linter.unusedVariables false
set_option linter.unusedSimpArgs false
set_option maxHeartbeats 12800000
namespace Go.Proofs.YtlikcongbhhpfaaGreatDoor
open Go Go.RowKit Go.Proofs.Tryz P Q
set_option maxRecDepth 1000000
variable {w:World}{B:Nat}
open List renaming length->G
open _root_.Array renaming size->E
open Go.World renaming heap->U
open Go.Value renaming int->Y
open Go.IntKind renaming i64->C
open Option renaming none->O,some->I
open Nat renaming zero_le->x0,le_refl->x3
open Go.RowKit.Below renaming refl->x2,heap_alloc->x6
open List renaming getElem_mem->x4,drop_eq_nil_of_le->x5,length_cons->x7,take_succ_eq_append_getElem->x8,length_take_le->x9
namespace P
def NQ(b:Int):List JV->Int
 |[]=>0
 |t::r=>if t.block==b then LF t.S else NQ b r
def dN(all:List JV):List JV->Int
 |[]=>0
 |t::r=>if LF t.S != NQ t.block all||decide (2<LF t.S)then t.i else dN all r
end P
theorem Ju(a:List JV):∀(b:List Value),G b=G a->∀(k:Nat) (h:k<G a),∃v,b[k]?=I v/\(OA a b)[k*3]?=I (Y C a[k].block)/\(OA a b)[k*3+1]?=I (Y C a[k].i)/\(OA a b)[k*3+2]?=I v:=by
 induction a with
 |nil=>intro b _ k h;simp at h
 |cons t r ih =>
  intro b c k h
  match b,c with
  |v::q,c =>
   cases k with
   |zero=>exact⟨v,Z,by simp[OA],by simp[OA],by simp[OA]⟩
   |succ k =>
    obtain⟨u,d,e,f,g⟩:=ih q (by simpa using c) k (by simpa using h);refine⟨u,by simpa using d,?_,?_,?_⟩
    ·rw[show(k+1)*3=k*3+3 by omega];simpa[OA]using e
    ·rw[show(k+1)*3+1=k*3+1+3 by omega];simpa[OA]using f
    ·rw[show(k+1)*3+2=k*3+2+3 by omega];simpa[OA]using g
theorem NU.get{w:World}{B:Nat}:∀{a:List JV} {b:List Value},NU w B a b->∀(k:Nat) (h:k<G a) (v:Value),b[k]?=I v->w.ownsRow B 104 11 v a[k].S.length (MG a[k].S)
 |t::r,u::q,h,0,_,v,hv=>by simp at hv;subst hv;exact h.1
 |t::r,u::q,h,k+1,hk,v,hv=>NU.get h.2.2 k (by simpa using hk) v (by simpa using hv)
theorem kP{d n l:Nat}{b:List JV}(h:bK w B (JQ d n l) b)(y:n=G b)(k:Nat)(o:k<G b):
  d<E (U w)/\∃g j,w.cell? ⟨d,k*3,O⟩=I (Y C b[k].block)/\w.cell? ⟨d,k*3+1,O⟩=I (Y C b[k].i)/\w.cell? ⟨d,k*3+2,O⟩=I (.slice g b[k].S.length j)/\w.ownsRow B 104 11 (.slice g b[k].S.length j) b[k].S.length (MG b[k].S):=by
 obtain⟨A,f,m⟩:=h;rw[<- y]at f;obtain⟨v,r,s,t,u⟩:=Ju b A m.qB k o;have p:=m.get k o v r;have z:∃a c,v=.slice a b[k].S.length c:=by
  rcases p.2 with⟨e,x⟩|⟨D,c,q,e,_⟩
  ·exact⟨O,0,by rw[e,x]⟩
  ·exact⟨_,c,e⟩
 obtain⟨g,j,rfl⟩:=z;refine⟨(f.lt d Z).2,g,j,?_,?_,?_,p⟩
 ·rw[f.cellAt _ (by omega)];exact s
 ·rw[f.cellAt _ (by omega)];exact t
 ·rw[f.cellAt _ (by omega)];exact u
theorem DI(B v n l:Nat)(b:Int)(c:List JV)(w:World)(h:bK w B (JQ v n l) c)(J:n=G c)(K:n<10)(m:∀t∈c,G t.S<10000):
  Calls prog 57 #[.agg #[JQ v n l],Y C b] w fun e M=>e=.returned (Y C (NQ b c))/\Below (E (U w)) w M:=by
 have y:=JO h;have p:=JO J;have z:=JO m;go_enter func57,ntmps57;go_wp2;go_loopw[10] (fun i wr=>∃k:Nat,k<=n/\i=Y C k/\JP (NQ b c=NQ b (c.drop k))/\Below (E (U w)) w wr) fun i _=>n-(intOf i).toNat
 case atStart=>exact⟨0,x0 _,Z,Z,(x2 _ _).alloc (x3 _) _⟩
 case round =>
  obtain⟨k,W,rfl,HB,a⟩:=hrel;by_cases hlt:k<n
  ·have g:k<G c:=by rw[<- p.o];exact hlt
   obtain⟨f,X,sc,A,D,F,x⟩:=kP y.o p.o k g;have N:=JS a f A;have T:=JS a f D;have V:=JS a f F;have r:=z.o c[k] (x4 g);have u:=JO (kM c k g);have s:=JO (aU x fun j H=>a.block j (x.lt j H).2);generalize m:c[k]=t at*;have L:E (U w)<=E (U wr):=a.size
   cases hb:t.block==b
   ·have d:JP (NQ b c=NQ b (c.drop (k+1))):=by
     unfold JP;rw[HB.o,u.o,NQ,hb];simp
    go_wp2;go_roundw
    case rel=>exact⟨k+1,by omega,by go_num,d,a.alloc (by omega) _⟩
    case measure=>simp[intOf];omega
   ·have d:JP (NQ b c=LF t.S):=by
     unfold JP;rw[HB.o,u.o,NQ,hb];simp
    go_wp2_with(first|(go_at_call 56;refine(xI B (G t.S) _ _ _ t.S _ (by exact s.o.alloc _) Z r).mono ?_;rintro e w1 ⟨rfl,q⟩));go_ret;rw[d.o];exact⟨Z,(a.alloc (by omega) _).trans (q.mono (by simp;omega))⟩
  ·have d:JP (NQ b c=0):=by
    unfold JP;rw[HB.o,x5 (by have:=p.o;omega)];rfl
   go_wp2;go_ret;rw[d.o];exact⟨Z,a⟩
theorem AF(B m n f:Nat)(c:List JV)(w:World)(h:bK w B (JQ m n f) c)(K:n=G c)(u:n<10)(x:∀t∈c,G t.S<10000):
  Calls prog 32 #[.agg #[JQ m n f]] w fun e w'=>e=.returned (Y C (dN c c))/\Below (E (U w)) w w':=by
 have F:=JO h;have y:=JO K;have z:=JO x;clear h K x;go_enter func32,ntmps32;go_wp2;go_loopw[10] (fun i wr=>∃k:Nat,k<=n/\i=Y C k/\JP (dN c c=dN c (c.drop k))/\JP (wr.heap[E (U w)]?=I (.cells #[JQ m n f] 52 (0,0)))/\Below (E (U w)) w wr) fun i _=>n-(intOf i).toNat
 case atStart=>exact⟨0,x0 _,Z,Z,heap_alloc_new w _,(x2 _ _).alloc (x3 _) _⟩
 case round =>
  obtain⟨k,hk,rfl,HB,J,b⟩:=hrel;by_cases hlt:k<n
  ·have r:k<G c:=by rw[<- y.o];exact hlt
   obtain⟨q,N,T,c0,c1,c2,L⟩:=kP F.o y.o k r;have d0:=JS b q c0;have d1:=JS b q c1;have d2:=JS b q c2;have s:=z.o c[k] (x4 r);have H:=JO (kM c k r);have v:=JO (aU L fun j D=>b.block j (L.lt j D).2);generalize x:c[k]=t at*;have ad:E (U w)<=E (U wr):=b.size;obtain⟨p0,_,p2⟩:=dG J.o;have A:JP (∀g:World,Below (wr.alloc (.cells #[Y C t.block,Y C t.i,.slice N (G t.S) T] 96)).heap.size (wr.alloc (.cells #[Y C t.block,Y C t.i,.slice N (G t.S) T] 96)) g->bK g B (JQ m n f) c):=fun g a=>by
    refine F.o.keep fun j D=>?_;rw[a.block j (by simp;omega),x6 _ _ _ (by omega),b.block j D]
   cases hu:LF t.S != NQ t.block c||decide (2<LF t.S)
   ·have l:JP (dN c c=dN c (c.drop (k+1))):=by
     unfold JP;rw[HB.o,H.o,dN,hu];simp
    obtain⟨aa,ab⟩:(LF t.S != NQ t.block c)=false/\decide (2<LF t.S)=false:=by simpa using hu
    go_wp2_with(first|(go_at_call 56;refine(xI B (G t.S) _ _ _ t.S _ (by exact v.o.alloc _) Z s).mono ?_;rintro e g ⟨rfl,a⟩;have M:E (U wr)+1<=E (U g):=(by have:=a.size;simp at this;omega);have W:=a.cell (p:=⟨E (U wr),0,O⟩) (by simp);have X:=a.cell (p:=⟨E (U w),0,O⟩) (by simp;omega))|(go_at_call 57;refine(DI B m n f _ c _ (by exact A.o g a) y.o u z.o).mono ?_;rintro e V ⟨rfl,d⟩));go_roundw
    case rel=>exact⟨k+1,by omega,by go_num,l,by unfold JP;rw[d.block _ (by omega),a.block _ (by simp;omega),x6 _ _ _ p2];exact J.o,(b.alloc (by omega) _).trans ((a.mono (by simp;omega)).trans (d.mono (by omega)))⟩
    case measure=>simp[intOf];omega
   ·have l:JP (dN c c=t.i):=by
     unfold JP;rw[HB.o,H.o,dN,hu];simp
    cases hv:LF t.S != NQ t.block c
    ·have ac:2<LF t.S:=by simpa[hv]using hu
     go_wp2_with(first|(go_at_call 56;refine(xI B (G t.S) _ _ _ t.S _ (by exact v.o.alloc _) Z s).mono ?_;rintro e g ⟨rfl,a⟩;have M:E (U wr)+1<=E (U g):=(by have:=a.size;simp at this;omega);have W:=a.cell (p:=⟨E (U wr),0,O⟩) (by simp);have y1:=a.cell (p:=⟨E (U wr),1,O⟩) (by simp);have X:=a.cell (p:=⟨E (U w),0,O⟩) (by simp;omega))|(go_at_call 57;refine(DI B m n f _ c _ (by exact A.o g a) y.o u z.o).mono ?_;rintro e V ⟨rfl,d⟩;have x1:=d.cell (p:=⟨E (U wr),1,O⟩) (show E (U wr)<E (U g)by omega)));go_ret;rw[l.o];exact⟨Z,(b.alloc (by omega) _).trans ((a.mono (by simp;omega)).trans (d.mono (by omega)))⟩
    ·clear hu;go_wp2_with(first|(go_at_call 56;refine(xI B (G t.S) _ _ _ t.S _ (by exact v.o.alloc _) Z s).mono ?_;rintro e g ⟨rfl,a⟩;have M:E (U wr)+1<=E (U g):=(by have:=a.size;simp at this;omega);have W:=a.cell (p:=⟨E (U wr),0,O⟩) (by simp);have y1:=a.cell (p:=⟨E (U wr),1,O⟩) (by simp);have X:=a.cell (p:=⟨E (U w),0,O⟩) (by simp;omega))|(go_at_call 57;refine(DI B m n f _ c _ (by exact A.o g a) y.o u z.o).mono ?_;rintro e V ⟨rfl,d⟩;have x1:=d.cell (p:=⟨E (U wr),1,O⟩) (show E (U wr)<E (U g)by omega)));go_ret;rw[l.o];exact⟨Z,(b.alloc (by omega) _).trans ((a.mono (by simp;omega)).trans (d.mono (by omega)))⟩
  ·have l:JP (dN c c=0):=by
    unfold JP;rw[HB.o,x5 (by have:=y.o;omega)];rfl
   go_wp2;go_ret;rw[l.o];exact⟨Z,b⟩
namespace P
def MC(d:Int):List JR->Option Int
 |[]=>O
 |s::r =>
  if s.k==10 then MC (d+1) r
  else if s.k==11 then MC (d-1) r
  else if s.k==5 then if 0<d then I s.i else MC d r
  else MC d r
def fV:List JV->Int
 |[]=>0
 |t::r=>match MC 0 t.S with
  |some l=>l
  |none=>fV r
end P
theorem zZ(B T n F:Nat)(m:List JV)(w:World)(h:bK w B (JQ T n F) m)(V:n=G m)(ag:n<10)(s:∀t∈m,G t.S<10000):
  Calls prog 31 #[.agg #[JQ T n F]] w fun e w'=>e=.returned (Y C (fV m))/\Below (E (U w)) w w':=by
 have HA:=JO h;have K:=JO V;have HS:=JO s;clear h V s;go_enter func31,ntmps31;go_wp2;go_loopw[11] (fun i wr=>∃k:Nat,k<=n/\i=Y C k/\JP (fV m=fV (m.drop k))/\Below (E (U w)) w wr) fun i _=>n-(intOf i).toNat
 case atStart=>exact⟨0,x0 _,Z,Z,(x2 _ _).alloc (x3 _) _⟩
 case round =>
  obtain⟨k,hk,rfl,HB,a⟩:=hrel;by_cases hlt:k<n
  ·have y:k<G m:=by rw[<- K.o];exact hlt
   obtain⟨x,X,sc,c0,c1,c2,W⟩:=kP HA.o K.o k y;have d0:=JS a x c0;have d1:=JS a x c1;have d2:=JS a x c2;have af:=HS.o m[k] (x4 y);have N:=JO (kM m k y);have HO:=JO W;generalize s:m[k]=t at*;have M:0<G t.S->∃b,X=I ⟨b,0,O⟩/\b<E (U w):=fun h0=>by
    rcases W.2 with⟨e,ab⟩|⟨b',c',aa,e,ac,L,_⟩
    ·omega
    ·simp only[Value.slice.injEq]at e;exact⟨b',e.1,(Array.getElem?_eq_some_iff.1 L).1⟩
   have v:Below (E (U w)) w (wr.alloc (.cells #[Y C t.block,Y C t.i,.slice X (G t.S) sc] 96)):=a.alloc a.size _;have J:=JO v;go_wp2;go_loopw[5,18] (fun dv j w2=>∃q:Nat,∃d:Int,q<=G t.S/\j=Y C q/\dv=Y C d/\-(q:Int)<=d/\d<=q/\JP (MC 0 t.S=MC d (t.S.drop q))/\Below (E (U w)) w w2) fun _ j _=>G t.S-(intOf j).toNat
   case atStart=>exact⟨0,0,x0 _,Z,Z,by simp,by simp,Z,J.o⟩
   case round =>
    obtain⟨q,d,hq,rfl,rfl,ad,ae,z,a⟩:=hrel;by_cases hql:q<G t.S
    ·obtain⟨b,rfl,H⟩:=M (by omega);have D:=JO (eH (kJ HO.o Z q hql) (a.block b H));have A:=JO (kM t.S q hql);generalize s:t.S[q]=p at D A;have g:=a.size
     cases h10:p.k==10
     rotate_left
     ·have f:JP (MC 0 t.S=MC (d+1) (t.S.drop (q+1))):=by
       unfold JP;rw[z.o,A.o,MC];simp[h10]
      go_wp2_with(first|(refine dC (.tmp 20) Z Z b (q*11) p Z D.o ?_));go_roundw
      case rel=>exact⟨q+1,d+1,by omega,by go_num,by go_num,by simp;omega,by simp;omega,f,a.alloc g _⟩
      case measure=>simp[intOf];omega
     have l:¬p.k=10:=by simpa using h10
     cases h11:p.k==11
     rotate_left
     ·have f:JP (MC 0 t.S=MC (d-1) (t.S.drop (q+1))):=by
       unfold JP;rw[z.o,A.o,MC];simp[l,h11]
      go_wp2_with(first|(refine dC (.tmp 20) Z Z b (q*11) p Z D.o ?_));go_roundw
      case rel=>exact⟨q+1,d-1,by omega,by go_num,by go_num,by simp;omega,by simp;omega,f,a.alloc g _⟩
      case measure=>simp[intOf];omega
     have r:¬p.k=11:=by simpa using h11
     cases h5:p.k==5
     ·have f:JP (MC 0 t.S=MC (d) (t.S.drop (q+1))):=by
       unfold JP;rw[z.o,A.o,MC];simp[l,r,h5]
      go_wp2_with(first|(refine dC (.tmp 20) Z Z b (q*11) p Z D.o ?_));go_roundw
      case rel=>exact⟨q+1,d,by omega,by go_num,by go_num,by simp;omega,by simp;omega,f,a.alloc g _⟩
      case measure=>simp[intOf];omega
     by_cases hp:0<d
     ·have f:JP (fV m=p.i):=by
       have e:MC 0 t.S=I p.i:=by rw[z.o,A.o,MC];simp[l,r,h5,hp]
       unfold JP;rw[HB.o,N.o,fV,e]
      go_wp2_with(first|(refine dC (.tmp 20) Z Z b (q*11) p Z D.o ?_));go_ret;rw[f.o];exact⟨Z,a.alloc g _⟩
     ·have f:JP (MC 0 t.S=MC (d) (t.S.drop (q+1))):=by
       unfold JP;rw[z.o,A.o,MC];simp[l,r,h5,hp]
      go_wp2_with(first|(refine dC (.tmp 20) Z Z b (q*11) p Z D.o ?_));go_roundw
      case rel=>exact⟨q+1,d,by omega,by go_num,by go_num,by simp;omega,by simp;omega,f,a.alloc g _⟩
      case measure=>simp[intOf];omega
    ·have u:JP (fV m=fV (m.drop (k+1))):=by
      have e:MC 0 t.S=O:=by rw[z.o,x5 (by omega)];rfl
      unfold JP;rw[HB.o,N.o,fV,e]
     go_wp2;go_roundw
     case rel=>exact⟨k+1,by omega,by go_num,u,a⟩
     case measure=>simp[intOf];omega
  ·have u:JP (fV m=0):=by
    unfold JP;rw[HB.o,x5 (by have:=K.o;omega)];rfl
   go_wp2;go_ret;rw[u.o];exact⟨Z,a⟩
namespace P
def JU(p:JR->Bool):List JR->Int
 |[]=>0
 |s::r=>(if p s then 1 else 0)+JU p r
theorem mK(p:JR->Bool)(a b:List JR):JU p (a++b)=JU p a+JU p b:=by
 induction a with
 |nil=>simp[JU]
 |cons s r ih=>simp[JU,ih];omega
theorem oO(p:JR->Bool)(l:List JR):0<=JU p l/\JU p l<=G l:=by
 induction l with
 |nil=>simp[JU]
 |cons s r ih=>simp only[JU,x7];split<;>omega
theorem EX(p:JR->Bool)(l:List JR)(k:Nat)(h:k<G l):JU p (l.take (k+1))=JU p (l.take k)+if p l[k]then 1 else 0:=by
 rw[x8 h,mK];simp[JU]
def KQ(p:JR->Bool):List JV->Int
 |[]=>0
 |t::r=>JU p t.S+KQ p r
theorem Jv(p:JR->Bool)(a b:List JV):KQ p (a++b)=KQ p a+KQ p b:=by
 induction a with
 |nil=>simp[KQ]
 |cons s r ih=>simp[KQ,ih];omega
theorem JM(p:JR->Bool)(l:List JV)(k:Nat)(h:k<G l):KQ p (l.take (k+1))=KQ p (l.take k)+JU p l[k].S:=by
 rw[x8 h,Jv];simp[KQ]
theorem EL(p:JR->Bool)(l:List JV)(N:Nat)(h:∀t∈l,G t.S<N):0<=KQ p l/\KQ p l<=G l*N:=by
 induction l with
 |nil=>simp[KQ]
 |cons t r ih =>
  have b:=ih fun t a=>h t (by simp[a]);have c:=oO p t.S;have d:=h t (by simp);simp only[KQ,x7];refine⟨by omega,?_⟩;have:((G r+1:Nat):Int)*N=G r*N+N:=by push_cast;rw[Int.add_mul];omega
  rw[this];omega
def LM(s:JR):Bool:=eE s.k
def MN(s:JR):Bool:=oS s.k
def MO(s:JR):Bool:=s.k==4&&s.q==5
def hZ(ts:List JV):Bool:=decide (4<KQ LM ts)||decide (3<KQ MN ts)||decide (3<KQ MO ts)
end P
theorem JC(B bt n u:Nat)(f:List JV)(w:World)(h:bK w B (JQ bt n u) f)(hn:n=G f)(am:n<10)(g:∀t∈f,G t.S<10000):
  Calls prog 33 #[.agg #[JQ bt n u]] w fun e w'=>e=.returned (.bool (hZ f))/\Below (E (U w)) w w':=by
 have HA:=JO h;have y:=JO hn;have HS:=JO g;clear h hn g;go_enter func33,ntmps33;go_wp2;go_loopw[3,4,5,13] (fun a b c i wr=>∃k:Nat,k<=n/\i=Y C k/\a=Y C (KQ LM (f.take k))/\b=Y C (KQ MN (f.take k))/\c=Y C (KQ MO (f.take k))/\Below (E (U w)) w wr) fun _ _ _ i _=>n-(intOf i).toNat
 case atStart=>exact⟨0,x0 _,Z,by simp[KQ],by simp[KQ],by simp[KQ],(x2 _ _).alloc (x3 _) _⟩
 case round =>
  obtain⟨k,hk,rfl,rfl,rfl,rfl,d⟩:=hrel;have p:∀t∈f.take k,G t.S<10000:=fun t ht=>HS.o t (List.mem_of_mem_take ht)
  have ae:=EL LM (f.take k) 10000 p;have af:=EL MN (f.take k) 10000 p;have ad:=EL MO (f.take k) 10000 p;have aj:(f.take k).length<=k:=x9 _ _;clear p;by_cases hlt:k<n
  ·have m:k<G f:=by rw[<- y.o];exact hlt
   obtain⟨r,sa,sc,c0,c1,c2,L⟩:=kP HA.o y.o k m;have d0:=JS d r c0;have d1:=JS d r c1;have d2:=JS d r c2;have al:=HS.o f[k] (x4 m);have HR:=JO (JM LM f k m);have HW:=JO (JM MN f k m);have HF:=JO (JM MO f k m);have z:=JO L;generalize g:f[k]=t at*;have N:0<G t.S->∃b,sa=I ⟨b,0,O⟩/\b<E (U w):=fun h0=>by
    rcases L.2 with⟨e,ab⟩|⟨b',c',aa,e,ac,J,_⟩
    ·omega
    ·simp only[Value.slice.injEq]at e;exact⟨b',e.1,(Array.getElem?_eq_some_iff.1 J).1⟩
   clear g c0 c1 c2 L;have x:JP (Below (E (U w)) w (wr.alloc (.cells #[Y C t.block,Y C t.i,.slice sa (G t.S) sc] 96))):=d.alloc d.size _;clear d;generalize hR:KQ LM (f.take k)=R at*;generalize hW:KQ MN (f.take k)=W at*;generalize hF:KQ MO (f.take k)=F at*;clear hR hW hF;go_wp2;go_loopw[3,4,5,20] (fun a b c j w2=>∃q:Nat,q<=G t.S/\j=Y C q/\a=Y C (R+JU LM (t.S.take q))/\b=Y C (W+JU MN (t.S.take q))/\c=Y C (F+JU MO (t.S.take q))/\Below (E (U w)) w w2) fun _ _ _ j _=>G t.S-(intOf j).toNat
   case atStart=>exact⟨0,x0 _,Z,by simp[JU],by simp[JU],by simp[JU],x.o⟩
   case round =>
    obtain⟨q,hq,rfl,rfl,rfl,rfl,d⟩:=hrel;have ah:=oO LM (t.S.take q);have ai:=oO MN (t.S.take q);have ag:=oO MO (t.S.take q);have ak:(t.S.take q).length<=q:=x9 _ _;by_cases hql:q<G t.S
    ·obtain⟨b,rfl,v⟩:=N (by omega);have hr:=JO (eH (kJ z.o Z q hql) (d.block b v));have D:=JO (EX LM t.S q hql);have H:=JO (EX MN t.S q hql);have A:=JO (EX MO t.S q hql);generalize g:t.S[q]=l at hr D H A;clear g;generalize V:JU LM (t.S.take q)=xR at*;generalize X:JU MN (t.S.take q)=xW at*;generalize T:JU MO (t.S.take q)=xF at*;clear V X T
     cases b1:eE l.k<;>cases b2:oS l.k<;>cases b3:l.k==4
     all_goals
      try cases b4:l.q==5
     all_goals
      have e1:LM l=eE l.k:=Z;have e2:MN l=oS l.k:=Z;have e3:MO l=(l.k==4&&l.q==5):=Z;have NR:JP (JU LM (t.S.take (q+1))=_):=D.o;have NW:JP (JU MN (t.S.take (q+1))=_):=H.o;have NF:JP (JU MO (t.S.take (q+1))=_):=A.o;rw[e1,b1]at NR;rw[e2,b2]at NW;simp only[e3,b3,b4]at NF;clear e1 e2 e3 D H A;go_wp2_with(first|(refine dC (.tmp 22) Z Z b (q*11) l Z hr.o ?_)|(go_at_call 58;refine(FL _ _).mono ?_;rintro e w' ⟨rfl,rfl⟩)|(go_at_call 59;refine(Hc _ _).mono ?_;rintro e w' ⟨rfl,rfl⟩));go_roundw
      case rel=>exact⟨q+1,by omega,by go_num,by rw[NR.o];simp<;>omega,by rw[NW.o];simp<;>omega,by rw[NF.o];simp<;>omega,d.alloc d.size _⟩
      case measure=>simp[intOf];omega
    ·have M:q=G t.S:=by omega
     subst M;have s:JP (t.S.take (G t.S)=t.S):=List.take_length;go_wp2;go_roundw
     case rel=>exact⟨k+1,by omega,by go_num,by rw[HR.o,s.o],by rw[HW.o,s.o],by rw[HF.o,s.o],d⟩
     case measure=>simp[intOf];omega
  ·have K:k=n:=by omega
   subst K;have s:JP (f.take k=f):=List.take_of_length_le (by have:=y.o;omega);have z:JP (hZ f=(decide (4<KQ LM (f.take k))||decide (3<KQ MN (f.take k))||decide (3<KQ MO (f.take k)))):=by
    unfold JP;rw[s.o];rfl
   generalize KQ LM (f.take k)=R at*;generalize KQ MN (f.take k)=W at*;generalize KQ MO (f.take k)=F at*;go_wp2
   all_goals go_ret
   all_goals rw[z.o]
   all_goals refine⟨?_,d⟩
   all_goals simp[*]
end Go.Proofs.YtlikcongbhhpfaaGreatDoor
