import Derived.Lib.ItoaWalk
import Derived.Test.YtlikcongbhhpfaaGreatDoorM08
set_option linter.unusedVariables false
set_option linter.unusedSimpArgs false
set_option maxHeartbeats 12800000
namespace Go.Proofs.YtlikcongbhhpfaaGreatDoor
open Go Go.RowKit Go.Proofs.Tryz P Q
set_option maxRecDepth 1000000
variable {fn:Func}{p u v:Tmp}{w:World}{B:Nat}{tv:Value}{ts:List JV}
open _root_.Array renaming size->L
open Go.World renaming heap->D
open List renaming length->T
open Go.Ending renaming returned->Y
open Go.Value renaming string->C,slice->E,int->U
open Go.Obj renaming cells->I
open Go.IntKind renaming i64->G
open Option renaming none->N,some->M
open Bool renaming false->H
open Nat renaming le_refl->xF
open Go.RowKit.Below renaming refl->xR,heap_alloc->x3,heap_setCell->x7
open Go.Lib renaming decDigits->xW,smalls->x4,digits36->x5,extract_data->x8
open Go.Result renaming andThen_ok->x6
open List renaming take_of_length_le->x9
namespace P
theorem IG(a:List (List UInt8)):∀(k:Nat) (r:Rd),Good k r->Good (k+T a) (LZ r a).1/\r.i<=(LZ r a).1.i/\((LZ r a).2=H->r.i<(LZ r a).1.i):=by
 induction a with
 |nil=>intro k r h;exact⟨h,by simp[LZ],by simp[LZ]⟩
 |cons x r ih =>
  intro k q h;have c:=TA (KD 32 x) h (by have:=h.lin1;omega);have b:(MD {q with i:=q.i+1} (KD 32 x)).1.i=q.i+1:=by
   unfold MD
   split
   ·unfold eW
    split
    ·rfl
    ·split
     ·split<;>rfl
     ·rfl
   ·split
    ·rfl
    ·simp only[]
     split
     ·split
      ·unfold ends;split<;>rfl
      ·split
       ·rfl
       ·split
        ·split
         ·rfl
         ·unfold gI;split<;>rfl
        ·rfl
     ·rfl
  simp only[LZ]
  cases d:(MD {q with i:=q.i+1} (KD 32 x)).2
  ·refine⟨?_,?_,?_⟩
   ·have:=c;refine⟨this.few,fun t d=>?_,this.O,this.ifs0,?_,this.JU,this.lin0,?_⟩
    ·have:=this.stm t d;simp;omega
    ·have:=this.ifs1;simp at*;omega
    ·have:=this.lin1;simp at*;omega
   ·simp[b];omega
   ·simp[b];omega
  ·obtain⟨e,f,g⟩:=ih (k+1) _ c;simp only[if_true];refine⟨?_,?_,?_⟩
   ·rw[show k+(x::r).length=k+1+T r by simp;omega];exact e
   ·rw[b]at f;omega
   ·intro j;have:=g j;rw[b]at this;omega
theorem qW(l:List UInt8)(h:(aT l).2=0):(aT l).1≠[]/\(aT l).1.length<=4/\∀t∈(aT l).1,T t.S<=T l:=by
 have j:=wM 10 l;obtain⟨b,f,c⟩:=IG (KD 10 l).dropLast 0 Rd.zero BE;have g:(KD 10 l).dropLast.length<=T l:=by rw[List.length_dropLast];omega
 unfold aT at h⊢;simp only[]at h⊢
 cases hq:(LZ Rd.zero (KD 10 l).dropLast).2
 ·have:=c hq;have z:Rd.zero.i=0:=Z;simp[hq]at h;omega
 ·simp only[hq,if_true]at h⊢
  split at h
  ·have z:Rd.zero.i=0:=Z;simp at h;omega
  ·rename_i a;rw[if_neg a];refine⟨fun e=>a (Or.inr (Or.inr e)),b.few,fun t d=>?_⟩;have:=b.stm t d;omega
def KM(l:List UInt8):List JV×Int×Int :=
 if 2000<T l then([],1,0)
 else if(aT l).2 != 0 then([],2,(aT l).2)
 else if fV (aT l).1 != 0 then([],3,fV (aT l).1)
 else if dN (aT l).1 (aT l).1 != 0 then([],3,dN (aT l).1 (aT l).1)
 else if hZ (aT l).1 then([],4,0)
 else((aT l).1,0,0)
end P
theorem Jw{d:TypeId}(h:fn.results=#[.cell p d,.tmp u,.tmp v])(b:Array Value)(c:Program)(w:World):
  (results fn b).run c w=((asAddr (b.getD p undef)).run c w).andThen fun a e=>((loadVar d a).run c e).andThen fun x f=>.ok (.tuple #[x,b.getD u undef,b.getD v undef]) f:=by
 simp only[results,h];simp[Sem.run_bind,Result.andThen]
theorem lY{R:Ending->World->Prop}{a:Act}(g:Nat)(tv c d:Value)(b:fn.results=#[.cell p 52,.tmp u,.tmp v])(i:a.tmps.getD p undef=.pointer (M ⟨g,0,N⟩))(j:a.tmps.getD u undef=c)(k:a.tmps.getD v undef=d)(h:w.heap[g]?=M (I #[tv] 52 (0,0)))(f:a.defers=[])(e:R (Y (.tuple #[.agg #[tv],c,d])) w):bodyPost prog fn R .ret a w:=by
 refine bodyPost_ret (v:=.tuple #[.agg #[tv],c,d]) ?_ f e;rw[Jw b,i,j,k];have:(asAddr (.pointer (M ⟨g,0,N⟩))).run prog w=.ok ⟨g,0,N⟩ w:=Z;rw[this,x6,rQ w g _ _ _ h _ underlying52 rfl (by kernel_rfl),x6]
theorem bK.base{a:Nat}(h:bK w B tv ts)(b:a<=B):bK w a tv ts:=by
 obtain⟨e,c,d⟩:=h;exact⟨e,PG c b,d.base b⟩
theorem Jx(s:ByteArray)(w:World)(c:s.size<=8192)(h:2000<s.size):
  Calls prog 18 #[C s] w fun e a=>e=Y (.tuple #[.agg #[E N 0 0],U G 1,U G 0])/\Below (L (D w)) w a:=by
 have b:(2000:Int)<(s.size:Int):=by omega
 go_enter func18,ntmps18;go_wp2;refine lY (p:=2) (u:=3) (v:=4) (L (D w)) (E N 0 0) _ _ (by kernel_rfl) Z Z Z (by exact heap_alloc_new w _) Z ⟨Z,?_⟩;exact(xR _ _).alloc (xF _) _
theorem bK.form(h:bK w B tv ts):∃a c,tv=E a (T ts) c/\(ts≠[]->∃bt,a=M ⟨bt,0,N⟩):=by
 obtain⟨j,g,i⟩:=h
 rcases g.2 with⟨e,d⟩|⟨k,c,f,e,_⟩
 ·exact⟨N,0,by rw[e,d],fun b=>absurd (List.eq_nil_of_length_eq_zero d) b⟩
 ·exact⟨_,c,e,fun _=>⟨k,Z⟩⟩
theorem Jy(s:ByteArray)(w:World)(j:s.size<=8192)(h:s.size<=2000)(n:((aT s.toList).2 != 0)=true):
  Calls prog 18 #[C s] w fun e l=>e=Y (.tuple #[.agg #[E N 0 0],U G 2,U G (aT s.toList).2])/\Below (L (D w)) w l:=by
 have m:¬(2000:Int)<(s.size:Int):=by omega
 go_enter func18,ntmps18;go_wp2_with(first|(go_at_call 30;refine(vT s _ j).mono ?_;rintro e g ⟨tv,rfl,f,b⟩;obtain⟨q,r,rfl,k⟩:=f.form;have i:L (D w)+1<=L (D g):=(by have:=b.size;simp at this;omega);have a:g.heap[L (D w)]?=M (I #[E N 0 0] 52 (0,0)):=(by rw[b.block _ (by simp)];exact heap_alloc_new w _);obtain⟨t,x,y⟩:=dG a;have c:=JO a;have d:JP (Below (L (D w)) w g):=((xR _ _).alloc (xF _) _).trans (b.mono (by simp))));refine lY (p:=2) (u:=3) (v:=4) (L (D w)) (E N 0 0) _ _ (by kernel_rfl) Z Z Z ?_ Z ⟨Z,?_⟩
 ·rw[x3 _ _ _ (by simp;omega)];exact bC c.o 0 _
 ·exact(d.o.setCell (xF _) _).alloc (by simp;omega) _
theorem bK.set(h:bK w (B+1) tv ts)(u:Value):bK (w.setCell ⟨B,0,N⟩ u) B tv ts:=by
 obtain⟨f,b,c⟩:=h;refine⟨f,PG (aU b fun k a=>?_) (by omega),(c.keep fun v e k a=>?_).base (by omega)⟩
 ·have:=(b.lt k a).1;exact x7 _ _ _ _ (by simp;omega)
 ·obtain⟨n,g,d⟩:=c.mem v e;have:=(d.lt k a).1;exact x7 _ _ _ _ (by simp;omega)
theorem uZ{a c:World}(g:bK a B tv ts)(e:Below (L (D w)) w a)(b:a.heap[L (D w)]?=M (I #[E N 0 0] 52 (0,0)))(d:Below (a.alloc (I #[tv] 52)).heap.size (a.alloc (I #[tv] 52)) c)(i:L (D w)+1<=B:=by simp):
  bK c (L (D w)+1) tv ts/\Below (L (D w)) w c/\c.heap[L (D w)]?=M (I #[E N 0 0] 52 (0,0))/\c.heap[L (D a)]?=M (I #[tv] 52 (0,0))/\L (D a)<L (D c):=by
 have f:L (D w)<L (D a):=(Array.getElem?_eq_some_iff.1 b).1;refine⟨(g.keep fun k j=>?_).base i,?_,?_,?_,?_⟩
 ·rw[d.block k (by simp;omega)];exact x3 _ _ _ j
 ·exact(e.alloc e.size _).trans (d.mono (by simp;omega))
 ·rw[d.block _ (by simp;omega),x3 _ _ _ f];exact b
 ·rw[d.block _ (by simp)];exact heap_alloc_new a _
 ·have:=d.size;simp at this;omega
theorem Jz(s:ByteArray)(w:World)(O:s.size<=8192)(h:s.size<=2000)(K:((aT s.toList).2 != 0)=H)(hi:(fV (aT s.toList).1 != 0)=true):
  Calls prog 18 #[C s] w fun e a=>e=Y (.tuple #[.agg #[E N 0 0],U G 3,U G (fV (aT s.toList).1)])/\Below (L (D w)) w a:=by
 have h':¬(2000:Int)<(s.size:Int):=by omega
 have r:(aT s.toList).2=0:=by simpa using K
 obtain⟨x,h4,i⟩:=qW s.toList r;have y:∀t∈(aT s.toList).1,T t.S<10000:=fun t V=>by have:=i t V;rw[MS]at this;omega
 go_enter func18,ntmps18;go_wp2_with(first|(go_at_call 30;refine(vT s _ O).mono ?_;rintro e c ⟨tv,rfl,j,g⟩;obtain⟨ta,k,rfl,z⟩:=j.form;have b:c.heap[L (D w)]?=M (I #[E N 0 0] 52 (0,0)):=(by rw[g.block _ (by simp)];exact heap_alloc_new w _);obtain⟨z0,z1,z2⟩:=dG b;have d:=JO b;have m:=JO j;have l:JP (Below (L (D w)) w c):=((xR _ _).alloc (xF _) _).trans (g.mono (by simp));obtain⟨f,rfl⟩:=z x;have A:JP (∀a:World,Below (c.alloc (I #[JQ f (aT s.toList).1.length k] 52)).heap.size (c.alloc (I #[JQ f (aT s.toList).1.length k] 52)) a->bK a (L (D w)+1) (JQ f (aT s.toList).1.length k) (aT s.toList).1/\Below (L (D w)) w a/\a.heap[L (D w)]?=M (I #[E N 0 0] 52 (0,0))/\a.heap[L (D c)]?=M (I #[JQ f (aT s.toList).1.length k] 52 (0,0))/\L (D c)<L (D a)):=fun a n=>uZ m.o l.o d.o n)|(go_at_call 31;refine(zZ (L (D w)+1) f _ k (aT s.toList).1 _ (by exact(A.o _ (xR _ _)).1) Z (by omega) y).mono ?_;rintro e w2 ⟨rfl,q⟩;obtain⟨t2,X,F,W,l2⟩:=A.o w2 q;obtain⟨y0,y1,y2⟩:=dG F;obtain⟨x0,x1,x2⟩:=dG W;have J:=JO F));refine lY (p:=2) (u:=3) (v:=4) (L (D w)) (E N 0 0) _ _ (by kernel_rfl) Z Z Z (by exact bC J.o 0 _) Z ⟨Z,X.setCell (xF _) _⟩
theorem J3(s:ByteArray)(w:World)(W:s.size<=8192)(h:s.size<=2000)(V:((aT s.toList).2 != 0)=H)(hi:(fV (aT s.toList).1 != 0)=H)(hu:(dN (aT s.toList).1 (aT s.toList).1 != 0)=true):
  Calls prog 18 #[C s] w fun e a=>e=Y (.tuple #[.agg #[E N 0 0],U G 3,U G (dN (aT s.toList).1 (aT s.toList).1)])/\Below (L (D w)) w a:=by
 have h':¬(2000:Int)<(s.size:Int):=by omega
 have z:(aT s.toList).2=0:=by simpa using V
 obtain⟨A,h4,l⟩:=qW s.toList z;have k:∀t∈(aT s.toList).1,T t.S<10000:=fun t X=>by have:=l t X;rw[MS]at this;omega
 go_enter func18,ntmps18;go_wp2_with(first|(go_at_call 30;refine(vT s _ W).mono ?_;rintro e g ⟨tv,rfl,m,j⟩;obtain⟨ta,f,rfl,F⟩:=m.form;have b:g.heap[L (D w)]?=M (I #[E N 0 0] 52 (0,0)):=(by rw[j.block _ (by simp)];exact heap_alloc_new w _);obtain⟨z0,z1,z2⟩:=dG b;have i:=JO b;have q:=JO m;have n:JP (Below (L (D w)) w g):=((xR _ _).alloc (xF _) _).trans (j.mono (by simp));obtain⟨d,rfl⟩:=F A;have r:JP (∀a:World,Below (g.alloc (I #[JQ d (aT s.toList).1.length f] 52)).heap.size (g.alloc (I #[JQ d (aT s.toList).1.length f] 52)) a->bK a (L (D w)+1) (JQ d (aT s.toList).1.length f) (aT s.toList).1/\Below (L (D w)) w a/\a.heap[L (D w)]?=M (I #[E N 0 0] 52 (0,0))/\a.heap[L (D g)]?=M (I #[JQ d (aT s.toList).1.length f] 52 (0,0))/\L (D g)<L (D a)):=fun a x=>uZ q.o n.o i.o x)|(go_at_call 31;refine(zZ (L (D w)+1) d _ f (aT s.toList).1 _ (by exact(r.o _ (xR _ _)).1) Z (by omega) k).mono ?_;rintro e w2 ⟨rfl,c⟩;obtain⟨t2,v2,r2,q2,l2⟩:=r.o w2 c;obtain⟨y0,y1,y2⟩:=dG r2;obtain⟨x0,x1,x2⟩:=dG q2;have O:=JO t2)|(go_at_call 32;refine(AF (L (D w)+1) d _ f (aT s.toList).1 _ (by exact O.o) Z (by omega) k).mono ?_;rintro e w3 ⟨rfl,y⟩;obtain⟨t3,v3,J,q3,l3⟩:=r.o w3 (c.trans (y.mono c.size));obtain⟨y0,y1,y2⟩:=dG J;obtain⟨x0,x1,x2⟩:=dG q3;have K:=JO J));refine lY (p:=2) (u:=3) (v:=4) (L (D w)) (E N 0 0) _ _ (by kernel_rfl) Z Z Z (by exact bC K.o 0 _) Z ⟨Z,v3.setCell (xF _) _⟩
theorem J4(s:ByteArray)(w:World)(hs:s.size<=8192)(h:s.size<=2000)(hl:((aT s.toList).2 != 0)=H)(hi:(fV (aT s.toList).1 != 0)=H)(hu:(dN (aT s.toList).1 (aT s.toList).1 != 0)=H)(ho:hZ (aT s.toList).1=true):
  Calls prog 18 #[C s] w fun e c=>e=Y (.tuple #[.agg #[E N 0 0],U G 4,U G 0])/\Below (L (D w)) w c:=by
 have h':¬(2000:Int)<(s.size:Int):=by omega
 have q:(aT s.toList).2=0:=by simpa using hl
 obtain⟨F,h4,d⟩:=qW s.toList q;have j:∀t∈(aT s.toList).1,T t.S<10000:=fun t ht=>by have:=d t ht;rw[MS]at this;omega
 clear q d;go_enter func18,ntmps18;go_wp2_with(first|(go_at_call 30;refine(vT s _ hs).mono ?_;rintro e m ⟨tv,rfl,k,g⟩;obtain⟨ta,l,rfl,J⟩:=k.form;have b:m.heap[L (D w)]?=M (I #[E N 0 0] 52 (0,0)):=(by rw[g.block _ (by simp)];exact heap_alloc_new w _);obtain⟨z0,z1,z2⟩:=dG b;have n:=JO b;have y:=JO k;have x:JP (Below (L (D w)) w m):=((xR _ _).alloc (xF _) _).trans (g.mono (by simp));obtain⟨f,rfl⟩:=J F;have r:JP (∀c:World,Below (m.alloc (I #[JQ f (aT s.toList).1.length l] 52)).heap.size (m.alloc (I #[JQ f (aT s.toList).1.length l] 52)) c->bK c (L (D w)+1) (JQ f (aT s.toList).1.length l) (aT s.toList).1/\Below (L (D w)) w c/\c.heap[L (D w)]?=M (I #[E N 0 0] 52 (0,0))/\c.heap[L (D m)]?=M (I #[JQ f (aT s.toList).1.length l] 52 (0,0))/\L (D m)<L (D c)):=fun c z=>uZ y.o x.o n.o z;clear b k g)|(go_at_call 31;refine(zZ (L (D w)+1) f _ l (aT s.toList).1 _ (by exact(r.o _ (xR _ _)).1) Z (by omega) j).mono ?_;rintro e w2 ⟨rfl,a⟩;obtain⟨t2,v2,X,O,l2⟩:=r.o w2 a;obtain⟨y0,y1,y2⟩:=dG X;obtain⟨x0,x1,x2⟩:=dG O;have T2:=JO t2;clear t2 X O)|(go_at_call 32;refine(AF (L (D w)+1) f _ l (aT s.toList).1 _ (by exact T2.o) Z (by omega) j).mono ?_;rintro e w3 ⟨rfl,i⟩;obtain⟨t3,v3,r3,V,l3⟩:=r.o w3 (a.trans (i.mono a.size));obtain⟨y0,y1,y2⟩:=dG r3;obtain⟨x0,x1,x2⟩:=dG V;have T3:=JO t3;clear t3 r3 V)|(go_at_call 33;refine(JC (L (D w)+1) f _ l (aT s.toList).1 _ (by exact T3.o) Z (by omega) j).mono ?_;rintro e w4 ⟨rfl,A⟩;obtain⟨t4,v4,K,W,l4⟩:=r.o w4 ((a.trans (i.mono a.size)).trans (A.mono (a.trans (i.mono a.size)).size));obtain⟨y0,y1,y2⟩:=dG K;obtain⟨x0,x1,x2⟩:=dG W;have R4:=JO K;clear t4 K W));refine lY (p:=2) (u:=3) (v:=4) (L (D w)) (E N 0 0) _ _ (by kernel_rfl) Z Z Z (by exact bC R4.o 0 _) Z ⟨Z,v4.setCell (xF _) _⟩
theorem J6(s:ByteArray)(w:World)(hs:s.size<=8192)(h:s.size<=2000)(hl:((aT s.toList).2 != 0)=H)(hi:(fV (aT s.toList).1 != 0)=H)(hu:(dN (aT s.toList).1 (aT s.toList).1 != 0)=H)(ho:hZ (aT s.toList).1=H):
  Calls prog 18 #[C s] w fun e d=>∃b c,e=Y (.tuple #[.agg #[JQ b (aT s.toList).1.length c],U G 0,U G 0])/\bK d (L (D w)) (JQ b (aT s.toList).1.length c) (aT s.toList).1/\Below (L (D w)) w d:=by
 have h':¬(2000:Int)<(s.size:Int):=by omega
 have A:(aT s.toList).2=0:=by simpa using hl
 obtain⟨F,h4,m⟩:=qW s.toList A;have i:∀t∈(aT s.toList).1,T t.S<10000:=fun t ht=>by have:=m t ht;rw[MS]at this;omega
 go_enter func18,ntmps18;go_wp2_with(first|(go_at_call 30;refine(vT s _ hs).mono ?_;rintro e j ⟨tv,rfl,n,l⟩;obtain⟨ta,c,rfl,J⟩:=n.form;have f:j.heap[L (D w)]?=M (I #[E N 0 0] 52 (0,0)):=(by rw[l.block _ (by simp)];exact heap_alloc_new w _);obtain⟨z0,z1,z2⟩:=dG f;have k:=JO f;have x:=JO n;have r:JP (Below (L (D w)) w j):=((xR _ _).alloc (xF _) _).trans (l.mono (by simp));obtain⟨b,rfl⟩:=J F;have q:JP (∀d:World,Below (j.alloc (I #[JQ b (aT s.toList).1.length c] 52)).heap.size (j.alloc (I #[JQ b (aT s.toList).1.length c] 52)) d->bK d (L (D w)+1) (JQ b (aT s.toList).1.length c) (aT s.toList).1/\Below (L (D w)) w d/\d.heap[L (D w)]?=M (I #[E N 0 0] 52 (0,0))/\d.heap[L (D j)]?=M (I #[JQ b (aT s.toList).1.length c] 52 (0,0))/\L (D j)<L (D d)):=fun d y=>uZ x.o r.o k.o y)|(go_at_call 31;refine(zZ (L (D w)+1) b _ c (aT s.toList).1 _ (by exact(q.o _ (xR _ _)).1) Z (by omega) i).mono ?_;rintro e w2 ⟨rfl,a⟩;obtain⟨t2,v2,r2,q2,l2⟩:=q.o w2 a;obtain⟨X,y1,y2⟩:=dG r2;obtain⟨O,V,W⟩:=dG q2;have T2:=JO t2)|(go_at_call 32;refine(AF (L (D w)+1) b _ c (aT s.toList).1 _ (by exact T2.o) Z (by omega) i).mono ?_;rintro e w3 ⟨rfl,g⟩;obtain⟨t3,v3,r3,q3,l3⟩:=q.o w3 (a.trans (g.mono a.size));obtain⟨X,y1,y2⟩:=dG r3;obtain⟨O,V,W⟩:=dG q3;have T3:=JO t3)|(go_at_call 33;refine(JC (L (D w)+1) b _ c (aT s.toList).1 _ (by exact T3.o) Z (by omega) i).mono ?_;rintro e w4 ⟨rfl,z⟩;obtain⟨t4,v4,K,q4,l4⟩:=q.o w4 ((a.trans (g.mono a.size)).trans (z.mono (a.trans (g.mono a.size)).size));obtain⟨X,y1,y2⟩:=dG K;obtain⟨O,V,W⟩:=dG q4;have T4:=JO t4;have R4:=JO K));refine lY (p:=2) (u:=3) (v:=4) (L (D w)) _ _ _ (by kernel_rfl) Z Z Z (by exact bC R4.o 0 _) Z ⟨_,_,Z,T4.o.set _,v4.setCell (xF _) _⟩
theorem J7(i:Nat)(w:World)(h:i<100):
  Calls prog 184 #[U G (i:Int)] w fun e d=>e=Y (C ⟨(xW i).toArray⟩)/\d=w:=by
 go_enter func184,ntmps184;go_name_bytes_deep 45 SM hSM;have b:SM=x4:=by rw[<- hSM];decide +kernel
 subst b;clear hSM;go_name_bytes_deep 30 DG hDG;have a:DG=x5:=by rw[<- hDG];decide +kernel
 subst a;clear hDG;by_cases h10:i<10
 ·have c:∀w,(Instr.slice 9 (C x5) (M (U G (i:Int))) (M (U G ((i:Int)+1))) N).run prog w=.ok (C (Lib.digits36.extract i (i+1))) w:=fun w=>by
   rw[run_slice_string w 9 x5 G G _ _ underlying9 (by omega) (by omega) (by rw[Lib.digits36_size];omega),show (i:Int).toNat=i by omega,show((i:Int)+1).toNat=i+1 by omega]
  go_wp2;go_ret;refine⟨?_,Z⟩;show Ending.returned (Value.string (Lib.digits36.extract i (i+1)))=_;rw[yL (Lib.digits36.extract i (i+1)) (xW i) (by rw[x8];exact Lib.digits36_piece h10)]
 ·have c:∀w,(Instr.slice 9 (C x4) (M (U G ((i:Int)*2))) (M (U G ((i:Int)*2+2))) N).run prog w=.ok (C (Lib.smalls.extract (i*2) (i*2+2))) w:=fun w=>by
   rw[run_slice_string w 9 x4 G G _ _ underlying9 (by omega) (by omega) (by rw[Lib.smalls_size];omega),show((i:Int)*2).toNat=i*2 by omega,show((i:Int)*2+2).toNat=i*2+2 by omega]
  go_wp2;go_ret;refine⟨?_,Z⟩;show Ending.returned (Value.string (Lib.smalls.extract (i*2) (i*2+2)))=_;rw[yL (Lib.smalls.extract (i*2) (i*2+2)) (xW i) (by rw[x8];exact Lib.smalls_piece h10 h)]
theorem J8(i:Nat)(w:World)(h:i<100):
  Calls prog 164 #[U G (i:Int),U G 10] w fun e a=>e=Y (C ⟨(xW i).toArray⟩)/\a=w:=by
 have b:(0:Int)<=(i:Int):=by omega
 have c:(i:Int)<100:=by omega
 go_enter func164,ntmps164;go_wp2_with(first|(go_at_call 184;refine(J7 i _ h).mono ?_;rintro e a ⟨rfl,rfl⟩));go_ret;exact⟨Z,Z⟩
theorem J9(n:Int)(w:World)(b:0<=n)(h:n<100):
  Calls prog 83 #[U G n] w fun e a=>e=Y (C ⟨(xW n.toNat).toArray⟩)/\a=w:=by
 obtain⟨i,rfl⟩:=Int.eq_ofNat_of_zero_le b;rw[Int.toNat_natCast];go_enter func83,ntmps83;go_wp2_with(first|(go_at_call 164;refine(J8 i _ (by omega)).mono ?_;rintro e a ⟨rfl,rfl⟩)|go_in);go_ret;exact⟨Z,Z⟩
theorem zL(n:Int)(w:World)(b:0<=n)(h:n<100):
  Calls prog 83 #[U G n] w fun e a=>∃s,e=Y (C s)/\iO 2 s (dK n)/\a=w:=by
 refine(J9 n w b h).mono ?_;rintro e a ⟨rfl,rfl⟩;refine⟨_,Z,⟨vR _,?_⟩,Z⟩;have:=Hn n h;rw[<- MS,vR];exact this
theorem zY(n:Int)(w:World)(c:0<=n)(h:n<100):
  Calls prog 135 #[U G n] w fun e b=>∃s,e=Y (C s)/\iO 4 s (cS n)/\b=w:=by
 go_enter func135,ntmps135;go_wp2_with(first|(go_at_call 83;refine(zL n _ c h).mono ?_;rintro e b ⟨s,rfl,a,rfl⟩;have d:=a.size));go_ret;refine⟨_,Z,⟨?_,?_⟩,Z⟩
 ·simp[gD,eK,a.1,cS]
 ·simp[fA];omega
theorem EH(n:Int)(w:World):
  Calls prog 136 #[U G n] w fun e a=>∃s,e=Y (C s)/\iO 3 s (eB n)/\a=w:=by
 go_enter func136,ntmps136;go_wp2
 all_goals go_ret
 all_goals refine⟨_,Z,⟨?_,by simp[fA]⟩,Z⟩
 all_goals simp[eB,TB,eK, *]
theorem Ka(n:Int)(w:World):
  Calls prog 134 #[U G n] w fun e a=>∃s,e=Y (C s)/\iO 8 s ([46]++yP n)/\a=w:=by
 go_enter func134,ntmps134;go_wp2
 all_goals go_ret
 all_goals refine⟨_,Z,⟨?_,by simp[fA]⟩,Z⟩
 all_goals simp[yP,eK, *]
theorem UK(n:Int)(w:World)(c:0<=n)(h:n<100):
  Calls prog 84 #[U G n] w fun e b=>∃s,e=Y (C s)/\iO 3 s (fE n)/\b=w:=by
 go_enter func84,ntmps84;go_wp2_with(first|(go_at_call 83;refine(zL n _ c h).mono ?_;rintro e b ⟨s,rfl,a,rfl⟩;have d:=a.size));go_ret;refine⟨_,Z,⟨?_,?_⟩,Z⟩
 ·simp[gD,eK,a.1,fE]
 ·simp[fA];omega
theorem IN(n:Int)(w:World)(c:0<=n)(h:n<100):
  Calls prog 44 #[U G n] w fun e b=>∃s,e=Y (C s)/\iO 10 s ([46,116,104,114,101,97,100,32]++dK n)/\b=w:=by
 go_enter func44,ntmps44;go_wp2_with(first|(go_at_call 83;refine(zL n _ c h).mono ?_;rintro e b ⟨s,rfl,a,rfl⟩;have d:=a.size));go_ret;refine⟨_,Z,⟨?_,?_⟩,Z⟩
 ·simp[gD,eK,a.1]
 ·simp[fA];omega
theorem zI(o:MR)(w:World)(d:0<=o.n)(h:o.n<100):
  Calls prog 137 #[.agg #[.bool o.KI,U G o.n]] w fun e c=>∃s,e=Y (C s)/\iO 4 s (dY o)/\Below (L (D w)) w c:=by
 cases hr:o.KI
 ·go_enter func137,ntmps137;go_wp2_with(first|(go_at_call 83;refine(zL o.n _ d h).mono ?_;rintro e c ⟨s,rfl,a,rfl⟩;have b:=a.size));go_ret;refine⟨_,Z,⟨?_,by omega⟩,(xR _ _).alloc (xF _) _⟩;rw[a.1];simp[dY,hr]
 ·go_enter func137,ntmps137;go_wp2_with(first|(go_at_call 135;refine(zY o.n _ d h).mono ?_;rintro e c ⟨s,rfl,a,rfl⟩;have b:=a.size));go_ret;refine⟨_,Z,⟨?_,by omega⟩,(xR _ _).alloc (xF _) _⟩;rw[a.1];simp[dY,hr]
namespace P
def kG(o sc:Int):List UInt8:=if o==0 then[46,119,101,97,107]else[46]++yP o++if sc==0 then[46,99,116,97]else[46,103,112,117]
theorem Kb(a:JR):kG a.q a.scope=sO a:=rfl
end P
theorem EZ(o a:Int)(w:World):
  Calls prog 87 #[U G o,U G a] w fun e c=>∃s,e=Y (C s)/\iO 20 s (kG o a)/\c=w:=by
 cases h0:o==0
 ·cases h1:a==0
  all_goals
   go_enter func87,ntmps87;go_wp2_with(first|(go_at_call 134;refine(Ka o _).mono ?_;rintro e c ⟨s,rfl,b,rfl⟩;have d:=b.size));go_ret;refine⟨_,Z,⟨?_,?_⟩,Z⟩
   ·simp[gD,eK,b.1,kG,h0,h1]
   ·simp[fA];omega
 ·go_enter func87,ntmps87;go_wp2;go_ret;refine⟨_,Z,⟨?_,by simp[fA]⟩,Z⟩;simp[eK,kG,h0]
namespace P
def LI(k:Int):List UInt8×List UInt8 :=
 if k==0 then([108,100],[100,118])
 else if k==1 then([115,116],[118,97])
 else if k==2 then([97,116,111,109,46,97,100,100],[100,118,97])
 else if k==3 then([97,116,111,109,46,101,120,99,104],[100,118,97])
 else if k==4 then([102,101,110,99,101],[])
 else if k==5 then([98,97,114,46,115,121,110,99],[])
 else if k==6 then([109,111,118],[100,97])
 else if k==7 then([97,100,100],[100,97,98])
 else if k==8 then([115,117,98],[100,97,98])
 else if k==9 then([115,101,116,101,113],[100,97,98])
 else([98,122],[97,108])
def NI(k:Int):Bool:=k==0||k==1||k==2||k==3||k==4
def eO(st:JR)(c:UInt8):List UInt8 :=
 if c=100 then cS st.dest else if c=118 then eB st.z else if c=97 then dY st.a else if c=98 then dY st.b else fE st.label
def fJ(st:JR):List UInt8->List UInt8
 |[]=>[]
 |c::r=>[32]++eO st c++r.flatMap fun c=>[44,32]++eO st c
def oX(l:List UInt8):List UInt8:=if l.isEmpty then[32]else[44,32]
theorem UL(b:JR)(l:List UInt8)(c:UInt8):fJ b (l++[c])=fJ b l++(oX l++eO b c):=by
 cases l with
 |nil=>simp[fJ,oX]
 |cons a r=>simp[fJ,oX]
theorem IT(a:JR)(h:(a.k==11)=true):dS a=fE a.label++[58]:=by
 have b:a.k=11:=by simpa using h
 simp[dS,b]
theorem xN(a:JR)(h:(a.k==11)=H):dS a=(LI a.k).1++(if NI a.k then kG a.q a.scope else[])++fJ a (LI a.k).2:=by
 have b:¬a.k=11:=by simpa using h
 rw[Kb];by_cases hk:a.k=0\/a.k=1\/a.k=2\/a.k=3\/a.k=4\/a.k=5\/a.k=6\/a.k=7\/a.k=8\/a.k=9
 ·rcases hk with e|e|e|e|e|e|e|e|e|e<;>simp[dS,e,LI,NI,fJ,eO]
 ·have c:¬a.k=0:=by omega
  have d:¬a.k=1:=by omega
  have f:¬a.k=2:=by omega
  have g:¬a.k=3:=by omega
  have i:¬a.k=4:=by omega
  have j:¬a.k=5:=by omega
  have l:¬a.k=6:=by omega
  have m:¬a.k=7:=by omega
  have n:¬a.k=8:=by omega
  have o:¬a.k=9:=by omega
  simp[dS,b,c,d,f,g,i,j,l,m,n,o,LI,NI,fJ,eO]
end P
theorem vD(k:Int)(w:World):
  Calls prog 85 #[U G k] w fun e a=>∃s t,e=Y (.tuple #[C s,C t])/\iO 9 s (LI k).1/\iO 3 t (LI k).2/\a=w:=by
 go_enter func85,ntmps85;go_wp2
 all_goals go_ret2
 all_goals refine⟨_,_,Z,⟨?_,by simp[fA]⟩,⟨?_,by simp[fA]⟩,Z⟩
 all_goals simp[LI,eK, *]
theorem UM(k:Int)(w:World):
  Calls prog 79 #[U G k] w fun e a=>e=Y (.bool (k==0||k==1||k==2||k==3))/\a=w:=by
 go_enter func79,ntmps79;go_wp2
 all_goals go_ret
 all_goals simp[*]
theorem JI(k:Int)(w:World):
  Calls prog 86 #[U G k] w fun e a=>e=Y (.bool (NI k))/\a=w:=by
 cases h1:k==0||k==1||k==2||k==3
 ·go_enter func86,ntmps86;go_wp2_with(first|(go_at_call 79;refine(UM _ _).mono ?_;rintro e a ⟨rfl,rfl⟩;rw[h1]));go_ret;refine⟨?_,Z⟩;simp[NI,h1]
 ·go_enter func86,ntmps86;go_wp2_with(first|(go_at_call 79;refine(UM _ _).mono ?_;rintro e a ⟨rfl,rfl⟩;rw[h1]));go_ret;refine⟨?_,Z⟩;simp[NI,h1]
theorem UN(d:JR)(c:UInt8)(w:World)(i:P.NY d):
  Calls prog 88 #[.agg (aC d),U .u8 (c.toNat:Int)] w fun e k=>∃s,e=Y (C s)/\iO 10 s (eO d c)/\Below (L (D w)) w k:=by
 have r:c.toNat<256:=UInt8.toNat_lt c;simp only[aC]
 cases h1:(c.toNat:Int)==100
 rotate_left
 ·have g:JP (eO d c=cS d.dest):=by unfold JP eO;rw[if_pos (show c=100 from(oG c 100 (by omega)).1 h1)]
  go_enter func88,ntmps88;go_wp2_with(first|(go_at_call 135;refine(zY _ _ i.d0 i.d1).mono ?_;rintro e k ⟨s,rfl,f,rfl⟩));go_ret;rw[bD g];exact⟨_,Z,⟨f.1,by have:=f.size;omega⟩,(xR _ _).alloc (xF _) _⟩
 have j:¬c=100:=fun e=>by subst e;simp at h1
 cases h2:(c.toNat:Int)==118
 rotate_left
 ·have g:JP (eO d c=eB d.z):=by unfold JP eO;rw[if_neg j,if_pos (show c=118 from(oG c 118 (by omega)).1 h2)]
  go_enter func88,ntmps88;go_wp2_with(first|(go_at_call 136;refine(EH _ _).mono ?_;rintro e k ⟨s,rfl,f,rfl⟩));go_ret;rw[bD g];exact⟨_,Z,⟨f.1,by have:=f.size;omega⟩,(xR _ _).alloc (xF _) _⟩
 have m:¬c=118:=fun e=>by subst e;simp at h2
 cases h3:(c.toNat:Int)==97
 rotate_left
 ·have g:JP (eO d c=dY d.a):=by unfold JP eO;rw[if_neg j,if_neg m,if_pos (show c=97 from(oG c 97 (by omega)).1 h3)]
  go_enter func88,ntmps88;go_wp2_with(first|(go_at_call 137;refine(zI d.a _ i.a0 i.a1).mono ?_;rintro e q ⟨s,rfl,f,l⟩));go_ret;rw[bD g];exact⟨_,Z,⟨f.1,by have:=f.size;omega⟩,((xR _ _).alloc (xF _) _).trans (l.mono (by simp))⟩
 have n:¬c=97:=fun e=>by subst e;simp at h3
 cases h4:(c.toNat:Int)==98
 rotate_left
 ·have g:JP (eO d c=dY d.b):=by unfold JP eO;rw[if_neg j,if_neg m,if_neg n,if_pos (show c=98 from(oG c 98 (by omega)).1 h4)]
  go_enter func88,ntmps88;go_wp2_with(first|(go_at_call 137;refine(zI d.b _ i.b0 i.b1).mono ?_;rintro e q ⟨s,rfl,f,l⟩));go_ret;rw[bD g];exact⟨_,Z,⟨f.1,by have:=f.size;omega⟩,((xR _ _).alloc (xF _) _).trans (l.mono (by simp))⟩
 have o:¬c=98:=fun e=>by subst e;simp at h4
 have g:JP (eO d c=fE d.label):=by unfold JP eO;rw[if_neg j,if_neg m,if_neg n,if_neg o]
 go_enter func88,ntmps88;go_wp2_with(first|(go_at_call 84;refine(UK _ _ i.l0 i.l1).mono ?_;rintro e k ⟨s,rfl,f,rfl⟩));go_ret;rw[bD g];exact⟨_,Z,⟨f.1,by have:=f.size;omega⟩,(xR _ _).alloc (xF _) _⟩
theorem Kc(c:JR)(w:World)(S:P.NY c):
  Calls prog 45 #[.agg (aC c)] w fun e K=>∃s,e=Y (C s)/\iO 80 s (dS c)/\Below (L (D w)) w K:=by
 cases V:c.k==11
 rotate_left
 ·have O:=JO (IT c V);simp only[aC];go_enter func45,ntmps45;go_wp2_with(first|(go_at_call 84;refine(UK _ _ S.l0 S.l1).mono ?_;rintro e K ⟨s,rfl,hs,rfl⟩;have ag:=hs.size));go_ret;rw[bD O];refine⟨_,Z,⟨?_,?_⟩,(xR _ _).alloc (xF _) _⟩
  ·simp[gD,eK,hs.1]
  ·simp[fA];omega
 have O:=JO (xN c V);have A:=JO (KH.bA w c);have z:JP (Below (L (D w)) w (w.alloc (I (aC c) 104))):=(xR _ _).alloc (xF _) _
 cases ho:NI c.k
 all_goals
  simp only[aC];go_enter func45,ntmps45;go_wp2_with(first
   |(go_at_call 85;refine(vD _ _).mono ?_;rintro e K ⟨W,d,rfl,t,x,rfl⟩;have ah:=t.size;have ai:=x.size)
   |(go_at_call 86;refine(JI _ _).mono ?_;rintro e K ⟨rfl,rfl⟩;rw[ho])
   |(go_at_call 87;refine(EZ _ _ _).mono ?_;rintro e K ⟨ss,rfl,J,rfl⟩;have aj:=J.size))
 ·have HB:JP (W.toList=(LI c.k).1++if NI c.k then kG c.q c.scope else[]):=by unfold JP;rw[ho,t.1];simp
  have ae:W.size<=40:=by omega
  go_loopw[3,5,6] (fun a b i wr=>∃k:Nat,∃r n:ByteArray,k<=d.size/\i=U G k/\a=C r/\b=C n/\r.size<=40+k*12/\n.size<=2/\JP (r.toList=(LI c.k).1++(if NI c.k then kG c.q c.scope else[])++fJ c (d.toList.take k))/\JP (n.toList=oX (d.toList.take k))/\
    JP (KH wr (L (D w)) c)/\JP (Below (L (D w)) w wr)) fun _ _ i _=>d.size-(intOf i).toNat
  case atStart=>exact⟨0,_,_,Nat.zero_le _,Z,Z,Z,by omega,by simp[fA],by unfold JP;rw[HB.o];simp[fJ],by unfold JP;simp[oX,eK],A,z⟩
  case round =>
   obtain⟨k,r,n,V,rfl,rfl,rfl,ad,ab,y,HT,g,f⟩:=hrel;by_cases hlt:k<d.size
   ·have j:=JO (tO d k hlt);obtain⟨f1,f2,c0,c1,c2,c3,c4,c5,c6,c7,c8,c9,aa⟩:=g.o.F;go_wp2;go_region_with(go_at_call 88;refine(UN c d[k] _ S).mono ?_;rintro e w3 ⟨sp,rfl,m,l⟩;have af:=m.size;have G3:=JO (g.o.drew.X l);have B3:=JO ((f.o.drew).trans (l.mono (by have:=f.o.size;simp;omega))))
    all_goals
     go_wp2;go_roundw
     case rel =>
      refine⟨k+1,_,_,by omega,by go_num,Z,Z,?_,by simp[fA],?_,?_,G3,B3⟩
      ·simp;omega
      ·unfold JP;rw[j.o,UL];simp[gD,y.o,HT.o,m.1]
      ·unfold JP;rw[j.o];simp[eK,oX]
     case measure=>simp[intOf];omega
   ·have ac:k=d.size:=by omega
    have HX:JP (d.toList.take k=(LI c.k).2):=by unfold JP;rw[x9 (by rw[MS];omega),x.1]
    go_wp2;go_ret;rw[bD O];refine⟨_,Z,⟨?_,by omega⟩,f.o⟩;rw[y.o,HX.o]
 ·have HB:JP ((W++ss).toList=(LI c.k).1++if NI c.k then kG c.q c.scope else[]):=by unfold JP;rw[ho,gD,t.1,J.1];simp
  have ae:(W++ss).size<=40:=by simp;omega
  go_loopw[3,5,6] (fun a b i wr=>∃k:Nat,∃r n:ByteArray,k<=d.size/\i=U G k/\a=C r/\b=C n/\r.size<=40+k*12/\n.size<=2/\JP (r.toList=(LI c.k).1++(if NI c.k then kG c.q c.scope else[])++fJ c (d.toList.take k))/\JP (n.toList=oX (d.toList.take k))/\
    JP (KH wr (L (D w)) c)/\JP (Below (L (D w)) w wr)) fun _ _ i _=>d.size-(intOf i).toNat
  case atStart=>exact⟨0,_,_,Nat.zero_le _,Z,Z,Z,by omega,by simp[fA],by unfold JP;rw[HB.o];simp[fJ],by unfold JP;simp[oX,eK],A,z⟩
  case round =>
   obtain⟨k,r,n,V,rfl,rfl,rfl,ad,ab,y,HT,g,f⟩:=hrel;by_cases hlt:k<d.size
   ·have j:=JO (tO d k hlt);obtain⟨f1,f2,c0,c1,c2,c3,c4,c5,c6,c7,c8,c9,aa⟩:=g.o.F;go_wp2;go_region_with(go_at_call 88;refine(UN c d[k] _ S).mono ?_;rintro e w3 ⟨sp,rfl,m,l⟩;have af:=m.size;have G3:=JO (g.o.drew.X l);have B3:=JO ((f.o.drew).trans (l.mono (by have:=f.o.size;simp;omega))))
    all_goals
     go_wp2;go_roundw
     case rel =>
      refine⟨k+1,_,_,by omega,by go_num,Z,Z,?_,by simp[fA],?_,?_,G3,B3⟩
      ·simp;omega
      ·unfold JP;rw[j.o,UL];simp[gD,y.o,HT.o,m.1]
      ·unfold JP;rw[j.o];simp[eK,oX]
     case measure=>simp[intOf];omega
   ·have ac:k=d.size:=by omega
    have HX:JP (d.toList.take k=(LI c.k).2):=by unfold JP;rw[x9 (by rw[MS];omega),x.1]
    go_wp2;go_ret;rw[bD O];refine⟨_,Z,⟨?_,by omega⟩,f.o⟩;rw[y.o,HX.o]
end Go.Proofs.YtlikcongbhhpfaaGreatDoor
