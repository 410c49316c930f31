import Derived.Deep.Draws
import Derived.Laws.AppendOwnNone
import Derived.Test.YtlikcongbhhpfaaGreatDoorM11
set_option linter.unusedVariables false
set_option linter.unusedSimpArgs false
set_option maxHeartbeats 12800000
namespace Go.Proofs.YtlikcongbhhpfaaGreatDoor
open Go Go.RowKit Go.Proofs.Tryz P Q
set_option maxRecDepth 1000000
variable {w w1:World}{o:Value}{n sz:Nat}{xs:List Value}{e:TypeId}
open _root_.Array renaming size->H
open Go.World renaming heap->L,cell?->A
open List renaming length->D
open Go.Ending renaming returned->Y
open Go.Value renaming int->C,bool->U,agg->N,string->M
open Go.IntKind renaming i64->O
open Option renaming none->I,some->E
open Go.Obj renaming cells->G
open Go.RowKit.Below renaming refl->xF
open Nat renaming le_refl->xR,zero_le->xW
open Go.World renaming news_of_block->x0,ownsRow_nil->x7
open Go.Value renaming oneCell'->x1
open Go.IntKind renaming wrap->x2,signed->x3,bits->x4
open List renaming drop_eq_nil_of_le->x5,length_append->x6
theorem Lt(c:Int)(w:World)(j:-9223372036854775808<=c)(k:c<9223372036854775808):
  Calls prog 6 #[C O c,C O 29] w fun e g=>∃i:Nat,i<29/\e=Y (C O (i:Int))/\g=w:=by
 by_cases hc:c<0
 ·have d:IntKind.i64.wrap (c+1)=c+1:=by simp[x2,x3,x4];omega
  have f:IntKind.i64.wrap (-(c+1))=-(c+1):=by simp[x2,x3,x4];omega
  have b:-(c+1).tmod 29=-(c+1)%29:=by rw[<- Int.neg_tmod,Int.tmod_eq_emod_of_nonneg (by omega)]
  have a:JP (-(c+1).tmod 29=((-(c+1)%29).toNat:Int)):=by unfold JP;rw[b];omega
  clear b;go_enter func6,ntmps6;go_wp2;go_ret;refine⟨(-(c+1)%29).toNat,by omega,?_,Z⟩;rw[<- a.o];rfl
 ·have a:JP (c%29=((c%29).toNat:Int)):=by unfold JP;omega
  go_enter func6,ntmps6;go_wp2;go_ret;refine⟨(c%29).toNat,by omega,?_,Z⟩;rw[<- a.o];rfl
namespace P
def WO(x one y two:List UInt8):List UInt8:=[116,104,114,101,97,100,32,48,10,115,116,111,114,101,32,120,32,49,32]++x++one++[115,116,111,114,101,32,121,32,49,32]++y++[116,104,114,101,97,100,32,49,10,114,48,32,61,32,108,111,97,100,32,121,32]++y++two++[114,49,32,61,32,108,111,97,100,32,120,32]++x
def WP(b sc:List UInt8):List UInt8:=[116,104,114,101,97,100,32,48,10,115,116,111,114,101,32,120,32,49]++([32,114,101,108,97,120,101,100,32]++sc++[10])++b++[114,48,32,61,32,108,111,97,100,32,121]++([32,114,101,108,97,120,101,100,32]++sc++[10])++[116,104,114,101,97,100,32,49,10,115,116,111,114,101,32,121,32,49]++([32,114,101,108,97,120,101,100,32]++sc++[10])++b++[114,48,32,61,32,108,111,97,100,32,120]++([32,114,101,108,97,120,101,100,32]++sc++[10])
end P
theorem Lu(x one y a:ByteArray)(w:World)(c:x.size<=1000)(d:one.size<=1000)(f:y.size<=1000)(g:a.size<=1000):
  Calls prog 16 #[M x,M one,M y,M a] w fun e b=>∃t,e=Y (M t)/\t.toList=WO x.toList one.toList y.toList a.toList/\b=w:=by
 go_enter func16,ntmps16;go_wp2;go_ret;refine⟨_,Z,?_,Z⟩;simp only[WO,gD,eK]
theorem Lv(b a:ByteArray)(w:World)(d:b.size<=1000)(f:a.size<=1000):
  Calls prog 17 #[M b,M a] w fun e c=>∃t,e=Y (M t)/\t.toList=WP b.toList a.toList/\c=w:=by
 go_enter func17,ntmps17;go_wp2;go_ret;refine⟨_,Z,?_,Z⟩;simp only[WP,gD,eK]
theorem DX{B:Nat}{a:World}(h:Below B a w)(n:Nat):Below B a (w.drewN n):=⟨h.os,h.tape,h.output,h.size,h.block⟩
theorem WQ(B p n f:Nat)(v:Int)(d:List JV)(w:World)(h:bK w B (JQ p n f) d)(K:n=D d)(y:n<10)(q:∀t∈d,D t.S<10000):
  Calls prog 129 #[N #[JQ p n f],C O v] w fun e z=>e=Y (U (aQ d v))/\Below (H (L w)) w z:=by
 have r:JP (∀(m:World) (s:Int),Below (H (L w)) w m->Calls prog 163 #[N #[JQ p n f],C O s,C O v] m fun e z=>e=Y (U (gW d s v))/\Below (H (L m)) m z):=fun m s T=>K4 B p n f s v d m (h.keep fun k J=>T.block k J) K y q
 clear h K q;go_enter func129,ntmps129;go_wp2;go_loopw[5] (fun i wr=>∃k:Nat,k<=2/\i=C O k/\JP ((0<k->gW d 0 v=true)/\(1<k->gW d 1 v=true))/\Below (H (L w)) w wr/\wr.heap[H (L w)]?=E (G #[JQ p n f] 52 (0,0))) fun i _=>2-(intOf i).toNat
 case atStart=>exact⟨0,by omega,Z,⟨fun h=>by omega,fun h=>by omega⟩,(xF _ _).alloc (xR _) _,heap_alloc_new w _⟩
 case round =>
  obtain⟨k,J,rfl,u,a,c⟩:=hrel;have V:=aB c 0 _ Z;have j:H (L w)<H (L wr):=(Array.getElem?_eq_some_iff.1 c).1;have x:k=0\/k=1\/k=2:=by omega
  have g:=a.size
  rcases x with rfl|rfl|rfl
  ·cases h0:gW d 0 v
   ·have l:JP (aQ d v=false):=by unfold JP;simp[aQ,h0]
    go_wp2_with(first|(go_at_call 163;refine(r.o _ 0 a).mono ?_;rintro e F ⟨rfl,b⟩;rw[h0]));go_ret;exact⟨by rw[l.o];rfl,a.trans (b.mono g)⟩
   ·go_wp2_with(first|(go_at_call 163;refine(r.o _ 0 a).mono ?_;rintro e F ⟨rfl,b⟩;rw[h0]));go_roundw
    case rel=>exact⟨1,by omega,by go_num,⟨fun _=>by first|trivial|exact h0,fun h=>by omega⟩,a.trans (b.mono g),by rw[b.block _ j];exact c⟩
    case measure=>simp[intOf]
  ·cases h1:gW d 1 v
   ·have l:JP (aQ d v=false):=by unfold JP;simp[aQ,h1]
    go_wp2_with(first|(go_at_call 163;refine(r.o _ 1 a).mono ?_;rintro e F ⟨rfl,b⟩;rw[h1]));go_ret;exact⟨by rw[l.o];rfl,a.trans (b.mono g)⟩
   ·have l:JP (gW d 0 v=true):=u.o.1 (by omega);go_wp2_with(first|(go_at_call 163;refine(r.o _ 1 a).mono ?_;rintro e F ⟨rfl,b⟩;rw[h1]));go_roundw
    case rel=>exact⟨2,by omega,by go_num,⟨fun _=>by first|trivial|exact l.o,fun _=>by first|trivial|exact h1⟩,a.trans (b.mono g),by rw[b.block _ j];exact c⟩
    case measure=>simp[intOf]
  ·have l:JP (aQ d v=true):=by unfold JP;simp[aQ,u.o.1 (by omega),u.o.2 (by omega)]
   go_wp2;go_ret;exact⟨by rw[l.o];rfl,a⟩
theorem Lw(B j n f:Nat)(b:List JV)(w:World)(h:bK w B (JQ j n f) b)(q:n=D b)(ab:n<10)(h0:0<n):
  Calls prog 128 #[N #[JQ j n f]] w fun e w'=>e=Y (U (qZ b))/\Below (H (L w)) w w':=by
 obtain⟨u,g,rfl⟩:∃u g,b=u::g:=by
  cases b with
  |nil=>simp at q;omega
  |cons u g=>exact⟨u,g,Z⟩
 obtain⟨F,ad,ae,K,z1,z2,x⟩:=kP h q 0 (by simp);have T:JP (A w ⟨j,0,I⟩=E (C O u.block)):=by unfold JP;simpa using K
 clear K z1 z2 x;have S:=JO h;have s:=JO q;have z:JP (qZ (u::g)=(u::g).all fun t=>t.block==u.block):=Z;clear h q;generalize ac:u::g=b at*;go_enter func128,ntmps128;go_wp2;go_loopw[8] (fun i wr=>∃k:Nat,k<=n/\i=C O k/\JP ((b.drop k).all fun t=>t.block==u.block=b.all fun t=>t.block==u.block)/\Below (H (L w)) w wr/\wr.heap[H (L w)]?=E (G #[JQ j n f] 52 (0,0))) fun i _=>n-(intOf i).toNat
 case atStart=>exact⟨0,xW _,Z,by unfold JP;simp,(xF _ _).alloc (xR _) _,heap_alloc_new w _⟩
 case round =>
  obtain⟨k,hk,rfl,v,a,c⟩:=hrel;have e0:=aB c 0 _ Z;have m:H (L w)<H (L wr):=(Array.getElem?_eq_some_iff.1 c).1;by_cases hlt:k<n
  ·have l:k<D b:=by rw[<- s.o];exact hlt
   obtain⟨d,sa,sc,V,W,X,ho⟩:=kP S.o s.o k l;have d0:=JS a d V;have d1:=JS a d W;have d2:=JS a d X;have f0:=(a.cell (p:=⟨j,0,I⟩) d).trans T.o;have J:j<H (L wr):=by have:=a.size;omega
   have y:=JO (kM b k l);generalize aa:b[k]=t at*;by_cases hb:t.block=u.block
   ·have nb:(t.block != u.block)=false:=by simp[hb]
    go_wp2_with fail;go_quiet (fail);go_wp2_with fail;go_roundw
    case rel =>
     refine⟨k+1,by omega,by go_num,?_,DX (a.alloc (by omega) _) _,?_⟩
     ·unfold JP;rw[<- v.o,y.o];simp[hb]
     ·exact(Below.heap_alloc _ _ _ m).trans c
    case measure=>simp[intOf];omega
   ·have nb:(t.block != u.block)=true:=by simp[hb]
    have r:JP (qZ b=false):=by
     unfold JP;rw[z.o,<- v.o,y.o];simp[hb]
    go_wp2_with fail;go_quiet (fail);go_wp2_with fail;go_ret;exact⟨by rw[r.o];rfl,DX (a.alloc (by omega) _) _⟩
  ·have r:JP (qZ b=true):=by
    unfold JP;rw[z.o,<- v.o,x5 (by have:=s.o;omega)];rfl
   go_wp2;go_ret;exact⟨by rw[r.o];rfl,a⟩
theorem Lx(w:World)(v:Value)(T:TypeId):(w.alloc (G #[v] T (0,0))).cell? ⟨H (L w),0,I⟩=E v:=by
 have h:=heap_alloc_new w (G #[v] T (0,0));simp only[World.cell?];rw[h];rfl
theorem Ly(B i n b:Nat)(a:List JV)(d:JR)(w:World)(h:bK w B (JQ i n b) a)(s:n=D a)(m:n<10)(F:0<n)(p:∀t∈a,D t.S<10000):
  Calls prog 76 #[N #[JQ i n b],N (aC d)] w fun e g=>e=Y (U (mQ a d))/\Below (H (L w)) w g:=by
 have HB:JP (∀(c:World) (v:Int),Below (H (L w)) w c->Calls prog 129 #[N #[JQ i n b],C O v] c fun e g=>e=Y (U (aQ a v))/\Below (H (L c)) c g):=fun c v q=>WQ B i n b v a c (h.keep fun k r=>q.block k r) s m p
 have y:JP (∀(c:World),Below (H (L w)) w c->Calls prog 128 #[N #[JQ i n b]] c fun e g=>e=Y (U (qZ a))/\Below (H (L c)) c g):=fun c q=>Lw B i n b a c (h.keep fun k r=>q.block k r) s m F
 clear h s p;have l:∀u x:Obj,Below (H (L w)) w ((w.alloc u).alloc x):=fun u x=>((xF _ _).alloc (xR _) _).alloc (by simp) _
 simp only[aC]
 cases h4:d.k==4
 ·cases ha:OL d.k
  ·have j:JP (mQ a d=false):=by unfold JP;simp[mQ,h4,ha]
   go_enter func76,ntmps76;go_wp2_with(first|(go_at_call 79;refine(oV _ _).mono ?_;rintro e g ⟨rfl,rfl⟩;rw[ha]));go_ret;exact⟨by rw[j.o];rfl,l _ _⟩
  ·cases hr:aQ a d.z
   all_goals
    have j:JP (mQ a d=!P.aQ a d.z):=by unfold JP;simp[mQ,h4,ha]
    go_enter func76,ntmps76;go_wp2_with(first|(go_at_call 79;refine(oV _ _).mono ?_;rintro e g ⟨rfl,rfl⟩;rw[ha])|(go_at_call 129;refine(HB.o _ _ (l _ _)).mono ?_;rintro e J ⟨rfl,f⟩;rw[hr]));go_ret;exact⟨by rw[j.o,hr];rfl,(l _ _).trans (f.mono (by simp;omega))⟩
 ·have j:JP (mQ a d=qZ a):=by unfold JP;simp[mQ,h4]
  go_enter func76,ntmps76;go_wp2_with(first|(go_at_call 128;refine(y.o _ (l _ _)).mono ?_;rintro e J ⟨rfl,f⟩));go_ret;exact⟨by rw[j.o];rfl,(l _ _).trans (f.mono (by simp;omega))⟩
namespace P
def qJ(v:Int)(s:Bool)(st:JR):Bool:=nU v st&&wZ st s
def oW(v:Int)(s:Bool)(ts:List JV):Bool:=ts.all fun t=>t.S.all fun st=>!qJ v s st
theorem Lz(a:List JV)(v:Int):lM a v=oW v (aQ a v) a:=rfl
end P
theorem L0(B T n l:Nat)(v:Int)(g:List JV)(w:World)(h:bK w B (JQ T n l) g)(hn:n=D g)(ac:n<10)(J:∀t∈g,D t.S<10000):
  Calls prog 80 #[N #[JQ T n l],C O v] w fun e w'=>e=Y (U (lM g v))/\Below (H (L w)) w w':=by
 have HB:JP (∀(r:World),Below (H (L w)) w r->Calls prog 129 #[N #[JQ T n l],C O v] r fun e w'=>e=Y (U (aQ g v))/\Below (H (L r)) r w'):=fun r hb=>WQ B T n l v g r (h.keep fun k hk=>hb.block k hk) hn ac J
 have HA:=JO h;have HN:=JO hn;have HS:=JO J;clear h hn J;rw[Lz];generalize aQ g v=s at*;go_enter func80,ntmps80;go_wp2_with(first|(go_at_call 129;refine(HB.o _ ((xF _ _).alloc (xR _) _)).mono ?_;rintro e w0 ⟨rfl,V⟩;have ab:Below (H (L w)) w w0:=((xF (H (L w)) w).alloc (xR _) _).trans (V.mono (by simp));have e0:A w0 ⟨H (L w),0,I⟩=E (JQ T n l):=(V.cell (p:=⟨H (L w),0,I⟩) (by simp)).trans (Lx w _ _)));have aa:=JO ab;go_loopw[16] (fun i wr=>∃k:Nat,k<=n/\i=C O k/\JP (oW v s (g.drop k)=oW v s g)/\Below (H (L w)) w wr) fun i _=>n-(intOf i).toNat
 case atStart=>exact⟨0,xW _,Z,by unfold JP;simp,aa.o⟩
 case round =>
  obtain⟨k,hk,rfl,HR,c⟩:=hrel;by_cases hlt:k<n
  ·have z:k<D g:=by rw[<- HN.o];exact hlt
   obtain⟨y,sa,sc,c0,c1,c2,ho⟩:=kP HA.o HN.o k z;have d0:=JS c y c0;have d1:=JS c y c1;have d2:=JS c y c2;have af:=HS.o g[k] (List.getElem_mem z);have HD:=JO (kM g k z);have HO:=JO ho;generalize g[k]=t at*;go_wp2;go_loopw[23] (fun j r=>∃q:Nat,q<=D t.S/\j=C O q/\JP ((t.S.drop q).all (fun f=>!P.qJ v s f)=t.S.all fun f=>!P.qJ v s f)/\Below (H (L w)) w r) fun j _=>D t.S-(intOf j).toNat
   case atStart=>exact⟨0,xW _,Z,by unfold JP;simp,c.alloc c.size _⟩
   case round =>
    obtain⟨q,hq,rfl,HQ,a⟩:=hrel;by_cases hql:q<D t.S
    ·obtain⟨b,rfl,W⟩:=pJ HO.o (by omega);have hr:=JO (eH (kJ HO.o Z q hql) (a.block b W));have u:=JO (kM t.S q hql);generalize t.S[q]=f at*;have m:=a.size
     cases hrs:nU v f
     ·go_wp2_with(first|(refine dC (.tmp 25) Z Z b (q*11) f Z hr.o ?_)|(go_at_call 131;refine(vB f v _).mono ?_;rintro e w3 ⟨rfl,d⟩;rw[hrs]));go_roundw
      case rel =>
       refine⟨q+1,by omega,by go_num,?_,(a.alloc m _).trans (d.mono (by simp;omega))⟩;unfold JP;rw[<- HQ.o,u.o];simp[qJ,hrs]
      case measure=>simp[intOf];omega
     ·cases hnd:wZ f s
      ·go_wp2_with(first|(refine dC (.tmp 25) Z Z b (q*11) f Z hr.o ?_)|(go_at_call 131;refine(vB f v _).mono ?_;rintro e w3 ⟨rfl,d⟩;rw[hrs];have GS:=(KH.bA wr f).X d;obtain⟨f1,f2,s0,s1,s2,s3,s4,s5,s6,s7,s8,s9,ae⟩:=GS.F)|(go_at_call 132;refine(UX f s _).mono ?_;rintro e w4 ⟨rfl,x⟩;rw[hnd]));go_roundw
       case rel =>
        refine⟨q+1,by omega,by go_num,?_,((a.alloc m _).trans (d.mono (by simp;omega))).trans (x.mono (by have:=d.size;simp at this;omega))⟩;unfold JP;rw[<- HQ.o,u.o];simp[qJ,hrs,hnd]
       case measure=>simp[intOf];omega
      ·have K:JP (oW v s g=false):=by
        unfold JP;rw[<- HR.o,HD.o];have:=HQ.o;rw[u.o]at this;simp only[oW,List.all_cons,<- this];simp[qJ,hrs,hnd]
       go_wp2_with(first|(refine dC (.tmp 25) Z Z b (q*11) f Z hr.o ?_)|(go_at_call 131;refine(vB f v _).mono ?_;rintro e w3 ⟨rfl,d⟩;rw[hrs];have GS:=(KH.bA wr f).X d;obtain⟨f1,f2,s0,s1,s2,s3,s4,s5,s6,s7,s8,s9,ae⟩:=GS.F)|(go_at_call 132;refine(UX f s _).mono ?_;rintro e w4 ⟨rfl,x⟩;rw[hnd]));go_ret;exact⟨by rw[K.o];rfl,((a.alloc m _).trans (d.mono (by simp;omega))).trans (x.mono (by have:=d.size;simp at this;omega))⟩
    ·have ad:q=D t.S:=by omega
     have K:JP (oW v s (g.drop (k+1))=oW v s g):=by
      have h1:t.S.all (fun f=>!P.qJ v s f)=true:=by rw[<- HQ.o,ad,List.drop_length];rfl
      unfold JP;rw[<- HR.o,HD.o];simp only[oW,List.all_cons,h1,Bool.true_and]
     go_wp2;go_roundw
     case rel=>exact⟨k+1,by omega,by go_num,K,a⟩
     case measure=>simp[intOf];omega
  ·have K:JP (oW v s g=true):=by
    unfold JP;rw[<- HR.o,x5 (by have:=HN.o;omega)];rfl
   go_wp2;go_ret;exact⟨by rw[K.o];rfl,c⟩
theorem mV{wr W:World}(c:Below (H (L w)) w wr)(d:Below (H (L wr)) wr W)(b:wr.ownsRow (H (L w)) e sz o n xs)(a:W.grownBy w1 o.ownBlock):Below (H (L w)) w w1 :=
 (c.trans (d.mono c.size)).grown a (Nat.le_trans c.size d.size) fun j f=>(b.lt j f).1
theorem nO{wr W:World}{g:Nat}{f:TypeId}{c:Array Value}{k:Nat×Nat}(l:Below (H (L wr)) wr W)(d:wr.ownsRow (H (L w)) e sz o n xs)(a:W.grownBy w1 o.ownBlock)(i:wr.heap[g]?=E (G c f k))(j:f≠e):w1.heap[g]?=E (G c f k):=by
 have b:g<H (L wr):=(Array.getElem?_eq_some_iff.1 i).1;rw[a.block g (Nat.lt_of_lt_of_le b l.size) (Ne.symm (kE d i (Ne.symm j))),l.block g b,i]
theorem DF(w:World)(c:Array Value)(o:Obj)(T:TypeId):∀(j:Nat) (u:Value),c.toList[j]?=E u->((w.alloc o).alloc (G c T (0,0))).cell? ((⟨H (L w)+1,0,I⟩:Addr).add j)=E u :=
 x0 (t:=T) (fr:=(0,0)) (by have:=heap_alloc_new (w.alloc o) (G c T (0,0));simpa using this)
theorem L1(a:List JV)(l:List JR)(k:Nat)(h:k<D l):eC a (l.take (k+1))=eC a (l.take k)++[iA a l[k]]:=by
 rw[List.take_succ_eq_append_getElem h];simp only[eC,List.map_append,List.map_cons,List.map_nil]
theorem L2(B bt n u B2 m sc:Nat)(sa:Option Addr)(r:List JV)(l:List JR)(w:World)(h:bK w B (JQ bt n u) r)(hn:n=D r)(an:n<10)(h0:0<n)(ac:∀t∈r,D t.S<10000)(T:w.ownsRow B2 104 11 (.slice sa m sc) m (MG l))(hm:m=D l)(ar:m<10000):
  Calls prog 39 #[N #[JQ bt n u],.slice sa m sc] w fun e w'=>∃v,e=Y v/\w'.ownsRow (H (L w)) 104 11 v m (MG (eC r l))/\Below (H (L w)) w w':=by
 obtain⟨i0,hi,aj,ak,al⟩:=info_parts Tryz.infoStm;have HC:JP (∀(w2:World) (c:JR),Below (H (L w)) w w2->Calls prog 76 #[N #[JQ bt n u],N (aC c)] w2 fun e w'=>e=Y (U (mQ r c))/\Below (H (L w2)) w2 w'):=fun w2 c hb=>Ly B bt n u r c w2 (h.keep fun k hk=>hb.block k hk) hn an h0 ac
 have HO:=JO T;have HN:=JO hm;clear h hn ac T hm;go_enter func39,ntmps39;go_wp2;go_loopw[5,10] (fun o i wr=>∃k:Nat,k<=m/\i=C O k/\wr.ownsRow (H (L w)) 104 11 o k (MG (eC r (l.take k)))/\Below (H (L w)) w wr/\wr.heap[H (L w)]?=E (G #[JQ bt n u] 52 (0,0))) fun _ i _=>m-(intOf i).toNat
 case atStart=>exact⟨0,xW _,Z,by simpa[eC,MG]using x7 _ _ _ _,(xF _ _).alloc (xR _) _,heap_alloc_new w _⟩
 case round =>
  obtain⟨k,hk,rfl,J,z,g⟩:=hrel;have e0:=aB g 0 _ Z;have aq:H (L w)<H (L wr):=(Array.getElem?_eq_some_iff.1 g).1;by_cases hlt:k<m
  ·obtain⟨b,rfl,af⟩:=pJ HO.o (by omega);have ag:k<D l:=by rw[<- HN.o];exact hlt
   have hr:=JO (eH (kJ HO.o HN.o k ag) (z.block b af));have HS:=JO (L1 r l k ag);have d:=JO J;have s:=JO z;generalize ac:l[k]=c at*
   cases hsy:mQ r c
   ·have HE:JP (iA r c=c):=by unfold JP;simp[iA,hsy]
    go_wp2_with(first
     |(refine dC (.tmp 12) Z Z b (k*11) c Z hr.o ?_)
     |(go_at_call 76;refine(HC.o _ c (s.o.alloc (by omega) _)).mono ?_;rintro e w3 ⟨rfl,y⟩;rw[hsy];have hW:Below (H (L wr)) wr w3:=((xF (H (L wr)) wr).alloc (xR _) _).trans (y.mono (by simp));have GS:=(KH.bA wr c).X y;obtain⟨f1,f2,s0,s1,s2,s3,s4,s5,s6,s7,s8,s9,ap⟩:=GS.F;have ao:=hW.size)
     |(at_builtin;refine wpList_append_lies _ Z (.tmp 18) (.tmp 20) 94 Z (H (L w)) 104 i0 (N (aC JR.zero)) 11 88 underlying94 hi aj ak al Z (by decide) _ _ _ Z ((aU d.o fun j hj=>hW.block j (d.o.lt j hj).2).alloc _) ⟨H (L w3),0,I⟩ 1 1 (aC c).toList Z Z ?c1 ?c2 (by decide) ?c3 ?c4 ?c5 _ Z ?_))
    case c1=>exact x0 (t:=104) (fr:=(0,0)) (heap_alloc_new w3 _)
    case c2=>simp[aC,x1]
    case c3=>unfold maxLen;omega
    case c4=>omega
    case c5=>simp;omega
    intro g1 x w1 f a ae ah;have q:Below (H (L wr)) wr (w3.alloc (G (aC c) 104)):=hW.alloc ao _;have aa:=JO (mV s.o q d.o a);have V:=JO (nO q d.o a g (by decide));have ab:JP (w1.ownsRow (H (L w)) 104 11 (JQ g1 (k+1) x) (k+1) (MG (eC r (l.take (k+1))))):=by
     unfold JP;rw[HS.o,HE.o,nK];exact f
    go_wp2;go_roundw
    case rel=>exact⟨k+1,by omega,by go_num,ab.o,aa.o,V.o⟩
    case measure=>simp[intOf];omega
   ·have HE:JP (iA r c={c with scope:=0}):=by unfold JP;simp[iA,hsy]
    go_wp2_with(first
     |(refine dC (.tmp 12) Z Z b (k*11) c Z hr.o ?_)
     |(go_at_call 76;refine(HC.o _ c (s.o.alloc (by omega) _)).mono ?_;rintro e w3 ⟨rfl,y⟩;rw[hsy];have hW:Below (H (L wr)) wr w3:=((xF (H (L wr)) wr).alloc (xR _) _).trans (y.mono (by simp));have GS:=(KH.bA wr c).X y;obtain⟨f1,f2,s0,s1,s2,s3,s4,s5,s6,s7,s8,s9,ap⟩:=GS.F;have ad:=JO (GS.fO 0);have K:=JO (hW.setCell (p:=⟨H (L wr),9,I⟩) (xR _) (C O 0));have ai:=K.o.size)
     |(generalize w3.setCell ⟨H (L wr),9,I⟩ (C O 0)=W at*;refine eV (.tmp 7) Z Z (H (L wr)) {c with scope:=0} Z (by exact ad.o) ?_;simp only[aC])
     |(at_builtin;refine wpList_append_lies _ Z (.tmp 18) (.tmp 20) 94 Z (H (L w)) 104 i0 (N (aC JR.zero)) 11 88 underlying94 hi aj ak al Z (by decide) _ _ _ Z ((aU d.o fun j hj=>K.o.block j (d.o.lt j hj).2).alloc _) ⟨H (L W),0,I⟩ 1 1 (aC {c with scope:=0}).toList Z Z ?c1 ?c2 (by decide) ?c3 ?c4 ?c5 _ Z ?_))
    case c1=>exact x0 (t:=104) (fr:=(0,0)) (heap_alloc_new W _)
    case c2=>simp[aC,x1]
    case c3=>unfold maxLen;omega
    case c4=>omega
    case c5=>simp;omega
    intro g1 x w1 f a ae ah;have q:Below (H (L wr)) wr (W.alloc (G (aC {c with scope:=0}) 104)):=K.o.alloc ai _;have aa:=JO (mV s.o q d.o a);have V:=JO (nO q d.o a g (by decide));have ab:JP (w1.ownsRow (H (L w)) 104 11 (JQ g1 (k+1) x) (k+1) (MG (eC r (l.take (k+1))))):=by
     unfold JP;rw[HS.o,HE.o,nK];exact f
    clear f a ae d s hW q GS K ad;go_wp2;go_roundw
    case rel=>exact⟨k+1,by omega,by go_num,ab.o,aa.o,V.o⟩
    case measure=>simp[intOf];omega
  ·have am:k=m:=by omega
   subst am;have HT:JP (l.take k=l):=List.take_of_length_le (by have:=HN.o;omega);go_wp2;go_ret;exact⟨_,Z,by rw[HT.o]at J;exact J,z⟩
theorem WR(a b:JR)(w:World):
  Calls prog 78 #[N (aC a),N (aC b)] w fun e d=>e=Y (U (qN a b))/\Below (H (L w)) w d:=by
 simp only[aC];by_cases h1:a.k=4
 ·by_cases h2:b.k=4
  ·have c:(a.k != 4)=false:=by simp[h1]
   cases h3:a.q==5<;>cases h4:b.q==4<;>cases h5:a.scope==1<;>cases h6:b.scope==0
   all_goals
    go_enter func78,ntmps78;go_wp2;go_ret;exact⟨by simp[qN,h1,h2,h3,h4,h5,h6],((xF _ _).alloc (xR _) _).alloc (by simp) _⟩
  ·have c:(a.k != 4)=false:=by simp[h1]
   have f:(b.k != 4)=true:=by simp[h2]
   go_enter func78,ntmps78;go_wp2;go_ret;exact⟨by simp[qN,h1,h2],((xF _ _).alloc (xR _) _).alloc (by simp) _⟩
 ·have c:(a.k != 4)=true:=by simp[h1]
  go_enter func78,ntmps78;go_wp2;go_ret;exact⟨by simp[qN,h1],((xF _ _).alloc (xR _) _).alloc (by simp) _⟩
theorem WT(B2 m sc:Nat)(sa:Option Addr)(l:List JR)(w:World)(ab:w.ownsRow B2 104 11 (.slice sa m sc) m (MG l))(hm:m=D l)(aA:m<10000):
  Calls prog 42 #[.slice sa m sc] w fun e w'=>∃v,e=Y v/\w'.ownsRow (H (L w)) 104 11 v (cC I l).length (MG (cC I l))/\Below (H (L w)) w w':=by
 obtain⟨i0,hi,am,an,ao⟩:=info_parts Tryz.infoStm;have HO:=JO ab;have HN:=JO hm;clear ab hm;go_enter func42,ntmps42;go_wp2;go_loopw[3,9] (fun o i wr=>∃(k:Nat) (x:List JR),k<=m/\i=C O k/\D x<=k/\JP (x++cC x.getLast? (l.drop k)=cC I l)/\wr.ownsRow (H (L w)) 104 11 o (D x) (MG x)/\Below (H (L w)) w wr) fun _ i _=>m-(intOf i).toNat
 case atStart=>exact⟨0,[],xW _,Z,by simp,by unfold JP;simp,by simpa[MG]using x7 _ _ _ _,xF _ _⟩
 case round =>
  obtain⟨k,x,hk,rfl,ah,HR,V,y⟩:=hrel;have ar:=y.size;by_cases hlt:k<m
  ·obtain⟨b,rfl,ai⟩:=pJ HO.o (by omega);have ak:k<D l:=by rw[<- HN.o];exact hlt
   have hr:=JO (eH (kJ HO.o HN.o k ak) (y.block b ai));have HD:=JO (kM l k ak);have f:=JO V;have K:=JO y;generalize aq:l[k]=d at*;clear aq V y;obtain⟨oa,oc,rfl⟩:∃oa oc,u3=.slice oa (D x) oc:=by
    rcases f.o.2 with⟨e,h0⟩|⟨k,c,aw,e,_⟩
    ·exact⟨I,0,by rw[e,h0]⟩
    ·exact⟨_,c,e⟩
   by_cases ha:x=[]
   ·subst ha;have HF:JP ([]++[d]++cC ([]++[d]).getLast? (l.drop (k+1))=cC I l):=by
     unfold JP;rw[<- HR.o,HD.o];simp[cC,oY]
    have f:JP (wr.ownsRow (H (L w)) 104 11 (.slice oa 0 oc) 0 (MG [])):=f;simp only[List.length_nil];go_wp2_with(first
     |(refine dC (.tmp 11) Z Z b (k*11) d Z hr.o ?_))
    go_quiet (fail);have B:Below (H (L wr)) wr ((wr.alloc (G (aC d) 104)).drewN nq):=DX ((xF (H (L wr)) wr).alloc (xR _) _) _;have GS:KH ((wr.alloc (G (aC d) 104)).drewN nq) (H (L wr)) d:=KH.bA wr d;simp only[aC]at B GS;generalize(wr.alloc (G #[C O d.k,C O d.i,C O d.dest,C O d.z,U d.a.KI,C O d.a.n,U d.b.KI,C O d.b.n,C O d.q,C O d.scope,C O d.label] 104)).drewN nq=W at*;obtain⟨f1,f2,s0,s1,s2,s3,s4,s5,s6,s7,s8,s9,au⟩:=GS.F;have ag:=B.size;go_wp2_with(first
     |(at_builtin;refine wpList_append_lies _ Z (.tmp 26) (.tmp 28) 94 Z (H (L w)) 104 i0 (N (aC JR.zero)) 11 88 underlying94 hi am an ao Z (by decide) _ _ _ Z ((aU f.o fun j hj=>B.block j (f.o.lt j hj).2).alloc _) ⟨H (L W),0,I⟩ 1 1 (aC d).toList Z Z ?c1 ?c2 (by decide) ?c3 ?c4 ?c5 _ Z ?_))
    case c1=>exact x0 (t:=104) (fr:=(0,0)) (heap_alloc_new W _)
    case c2=>simp[aC,x1]
    case c3=>unfold maxLen;omega
    case c4=>omega
    case c5=>simp;omega
    intro g1 S w1 u s af al;have T:Below (H (L wr)) wr (W.alloc (G (aC d) 104)):=B.alloc ag _;have ad:=JO (mV K.o T f.o s);have ae:JP (w1.ownsRow (H (L w)) 104 11 (JQ g1 (0+1) S) ([]++[d]).length (MG ([]++[d]))):=by
     unfold JP;rw[nK,x6];exact u
    clear u s af f K B T GS;go_wp2;go_roundw
    case rel=>exact⟨k+1,[]++[d],by omega,by go_num,by simp,HF,ae.o,ad.o⟩
    case measure=>simp[intOf];omega
   ·obtain⟨r,p,rfl⟩:=rX x ha;obtain⟨g,rfl,av⟩:=pJ f.o (by simp);have J:=kJ f.o Z (D r) (by simp);have aj:(r++[p])[D r]'(by simp)=p:=by simp
    rw[aj]at J;have z0:A wr ⟨g,D r*11,I⟩=E (C O p.k):=J 0 _ Z;have z1:A wr ⟨g,D r*11+1,I⟩=E (C O p.i):=J 1 _ Z;have z2:A wr ⟨g,D r*11+2,I⟩=E (C O p.dest):=J 2 _ Z;have z3:A wr ⟨g,D r*11+3,I⟩=E (C O p.z):=J 3 _ Z;have z4:A wr ⟨g,D r*11+4,I⟩=E (U p.a.KI):=J 4 _ Z;have z5:A wr ⟨g,D r*11+5,I⟩=E (C O p.a.n):=J 5 _ Z;have z6:A wr ⟨g,D r*11+6,I⟩=E (U p.b.KI):=J 6 _ Z;have z7:A wr ⟨g,D r*11+7,I⟩=E (C O p.b.n):=J 7 _ Z;have z8:A wr ⟨g,D r*11+8,I⟩=E (C O p.q):=J 8 _ Z;have z9:A wr ⟨g,D r*11+9,I⟩=E (C O p.scope):=J 9 _ Z;have aE:A wr ⟨g,D r*11+10,I⟩=E (C O p.label):=J 10 _ Z;have ax:D r<10000:=by simp at ah;omega
    clear J aj ha;have el:(r++[p]).length=D r+1:=by simp
    rw[el]at f ah;rw[el];generalize ap:D r=na at*;clear ap;have az:(na:Int)<(na:Int)+1:=by omega
    have aB:(0:Int)<=(na:Int):=by omega
    have ay:(0:Int)<(na:Int)+1:=by omega
    have aD:IntKind.i64.wrap (na:Int)=(na:Int):=by simp[x2,x3,x4];omega
    cases hcv:qN p d
    ·have HF:JP (r++[p]++[d]++cC (r++[p]++[d]).getLast? (l.drop (k+1))=cC I l):=by
      unfold JP;rw[<- HR.o,HD.o];simp[cC,oY,hcv]
     go_wp2_with(first
      |(refine dC (.tmp 11) Z Z b (k*11) d Z hr.o ?_))
     go_region_with(go_at_call 78;refine(WR p d _).mono ?_;rintro e W ⟨rfl,aa⟩;rw[hcv];have B:Below (H (L wr)) wr W:=((xF (H (L wr)) wr).alloc (xR _) _).drew.trans (aa.mono (by simp));have GS:=((KH.bA wr d).drew).X aa;obtain⟨f1,f2,s0,s1,s2,s3,s4,s5,s6,s7,s8,s9,au⟩:=GS.F;have ag:=B.size)
     all_goals
      go_wp2_with(first
       |(at_builtin;refine wpList_append_lies _ Z (.tmp 26) (.tmp 28) 94 Z (H (L w)) 104 i0 (N (aC JR.zero)) 11 88 underlying94 hi am an ao Z (by decide) _ _ _ Z ((aU f.o fun j hj=>B.block j (f.o.lt j hj).2).alloc _) ⟨H (L W),0,I⟩ 1 1 (aC d).toList Z Z ?c1 ?c2 (by decide) ?c3 ?c4 ?c5 _ Z ?_))
      case c1=>exact x0 (t:=104) (fr:=(0,0)) (heap_alloc_new W _)
      case c2=>simp[aC,x1]
      case c3=>unfold maxLen;omega
      case c4=>omega
      case c5=>simp;omega
      intro g1 S w1 u s af al;have T:Below (H (L wr)) wr (W.alloc (G (aC d) 104)):=B.alloc ag _;have ad:=JO (mV K.o T f.o s);have ae:JP (w1.ownsRow (H (L w)) 104 11 (JQ g1 (na+1+1) S) (r++[p]++[d]).length (MG (r++[p]++[d]))):=by
       unfold JP;rw[nK,x6,el];exact u
      clear u s af f K B T GS;go_wp2;go_roundw
      case rel=>exact⟨k+1,r++[p]++[d],by omega,by go_num,by rw[x6,el];simp;omega,HF,ae.o,ad.o⟩
      case measure=>simp[intOf];omega
    ·have HF:JP (r++[p]++cC (r++[p]).getLast? (l.drop (k+1))=cC I l):=by
      unfold JP;rw[<- HR.o,HD.o];simp[cC,oY,hcv]
     go_wp2_with(first
      |(refine dC (.tmp 11) Z Z b (k*11) d Z hr.o ?_))
     go_region_with(go_at_call 78;refine(WR p d _).mono ?_;rintro e W ⟨rfl,aa⟩;rw[hcv];have B:Below (H (L wr)) wr W:=((xF (H (L wr)) wr).alloc (xR _) _).drew.trans (aa.mono (by simp)))
     all_goals
      go_wp2;go_roundw
      case rel=>exact⟨k+1,r++[p],by omega,by go_num,by rw[el];omega,HF,by rw[el];exact aU f.o fun j hj=>B.block j (f.o.lt j hj).2,K.o.trans (B.mono ar)⟩
      case measure=>simp[intOf];omega
  ·have HE:JP (cC I l=x):=by
    unfold JP;rw[<- HR.o,x5 (by have:=HN.o;omega)];simp[cC]
   go_wp2;go_ret;exact⟨_,Z,by rw[HE.o];exact V,y⟩
end Go.Proofs.YtlikcongbhhpfaaGreatDoor
