import Derived.Deep.AppendLies
import Derived.Test.YtonodfjdiepglaaGreatDoorL01
set_option linter.unusedVariables false
set_option linter.unusedSimpArgs false
set_option maxHeartbeats 12800000
namespace Go.Proofs.YtonodfjdiepglaaGreatDoor
open Go Go.RowKit Go.Proofs.Tryz P
set_option maxRecDepth 1000000
variable {w w':World} {B cap g n:Nat} {ws:List ByteArray} {bv:Value}
open _root_.ByteArray renaming toList→xF,empty→x2
open Nat renaming le_refl→xR,zero_le→x4
open Go.Value renaming string→xW
open List renaming length_take→x1,drop_append_of_le_length→x3,take_of_length_le→x5,cons_append→x6,drop_of_length_le→x7,length_map→x8
namespace P
def zMi (c:UInt8):List UInt8->List (List UInt8)
 | []=>[[]]
 | x::r=>if x=c then []::zMi c r else match zMi c r with
  | h::t=>(x::h)::t
  | []=>[[x]]
theorem mB (c:UInt8) (l:List UInt8):zMi c l≠[]:=by
 cases l with
 | nil=>simp[zMi]
 | cons x r =>
  unfold zMi
  split
  ·simp
  ·split<;>simp
theorem DL (c:UInt8) (r:List UInt8):zMi c (c::r)=[]::zMi c r:=by simp[zMi]
theorem sP (c x:UInt8) (r:List UInt8) (h:x≠c) (a:List UInt8) (b:List (List UInt8)) (e:zMi c r=a::b):zMi c (x::r)=(x::a)::b:=by simp[zMi,h,e]
theorem yA (c x:UInt8) (l:List UInt8):∀ (a:List (List UInt8)) (b:List UInt8),zMi c l=a++[b]->zMi c (l++[x])=if x=c then a++[b,[]] else a++[b++[x]]:=by
 induction l with
 | nil =>
  intro a b h;simp[zMi] at h;have:a=[]/\b=[]:=by
   cases a with
   | nil=>simpa using h
   | cons p q=>simp at h
  obtain⟨rfl,rfl⟩:=this;by_cases hx:x=c<;>simp[zMi,hx]
 | cons y r ih =>
  intro a b h;by_cases hy:y=c
  ·subst hy;rw[DL] at h
   cases a with
   | nil =>
    simp at h;exact absurd h.2 (mB _ _)
   | cons p q =>
    simp at h;obtain⟨rfl,h⟩:=h;have:=ih q b h;rw[x6,DL,this]
    split<;>simp
  ·cases hs:zMi c r with
   | nil=>exact absurd hs (mB _ _)
   | cons p q =>
    rw[sP c y r hy p q hs] at h;rw[x6]
    cases a with
    | nil =>
     simp at h;obtain⟨rfl,rfl⟩:=h;have:=ih [] p (by simpa using hs);by_cases hx:x=c
     ·rw[if_pos hx] at this ⊢;rw[sP c y _ hy p [[]] (by simpa using this)];simp
     ·rw[if_neg hx] at this ⊢;rw[sP c y _ hy (p++[x]) [] (by simpa using this)];simp
    | cons p' q' =>
     simp at h;obtain⟨rfl,rfl⟩:=h;have:=ih (p::q') b (by simpa using hs);by_cases hx:x=c
     ·rw[if_pos hx] at this ⊢;rw[sP c y _ hy p (q'++[b,[]]) (by simpa using this)];simp
     ·rw[if_neg hx] at this ⊢;rw[sP c y _ hy p (q'++[b++[x]]) (by simpa using this)];simp
end P
theorem fW (s:ByteArray) (m k:Nat):(s.extract m k).toList=(s.toList.take k).drop m:=by
 rw[kS,kS,List.drop_take];simp
theorem rB (s:ByteArray) (k:Nat) (h:k<s.size):s.toList.take (k+1)=s.toList.take k++[s[k]]:=by
 rw[kS,List.take_succ_eq_append_getElem (by simpa using h)];rfl
theorem Tryz.infoStr:(prog.info? 9).map (fun i=>(i.zero,i.size,i.bytes))=some (some (.string x2),1,16):=by kernel_rfl
theorem zHy (c:UInt8) (s:ByteArray) (k m:Nat) (a:List ByteArray) (d:k<s.size) (h:zMi c (s.toList.take k)=a.map xF++[(s.toList.take k).drop m]) (b:s[k]=c) :
  zMi c (s.toList.take (k+1))=(a++[s.extract m k]).map xF++[(s.toList.take (k+1)).drop (k+1)]:=by
 rw[rB s k d,yA _ _ _ _ _ h,if_pos b];simp[fW];omega
theorem zHz (c:UInt8) (s:ByteArray) (k m:Nat) (a:List ByteArray) (d:k<s.size) (e:m<=k) (h:zMi c (s.toList.take k)=a.map xF++[(s.toList.take k).drop m]) (b:¬ s[k]=c) :
  zMi c (s.toList.take (k+1))=a.map xF++[(s.toList.take (k+1)).drop m]:=by
 rw[rB s k d,yA _ _ _ _ _ h,if_neg b];have:m<=(s.toList.take k).length:=by rw[x1,bS];omega
 rw[x3 this]
theorem wB (a:UInt8) (n:Nat) (b:n<256):(((a.toNat:Int)==(n:Int))=true) ↔ a=UInt8.ofNat n:=by
 rw[zLJ a n b];simp
theorem zKF (s:ByteArray) (c:UInt8) (k:Nat) (h:k<s.size):((s.extract k (k+1)).toList==(⟨#[c]⟩:ByteArray).toList)=decide (s[k]=c):=by
 have e:(s.extract k (k+1)).toList=[s[k]]:=by
  rw[fW,rB s k h,x3 (by rw[x1,bS];omega),x7 (by rw[x1];omega)];rfl
 have a:(⟨#[c]⟩:ByteArray).toList=[c]:=by rw[kS]
 rw[e,a];by_cases hc:s[k]=c<;>simp[hc]
theorem zID (c:UInt8) (s:ByteArray) (w:World) (Y:s.size<=8192) :
  Calls prog 59 #[.string s,.string ⟨#[c]⟩] w fun e w'=>∃ g cap,∃ ws:List ByteArray,e=.returned (.slice (some ⟨g,0,none⟩) ws.length cap)/\ws.map xF=zMi c s.toList /\
   w'.ownsRow w.heap.size 9 1 (.slice (some ⟨g,0,none⟩) ws.length cap) ws.length (ws.map xW)/\Below w.heap.size w w':=by
 obtain⟨N,L,D,E,F⟩:=info_parts Tryz.infoStr;have M:(⟨#[c]⟩:ByteArray).size=1:=rfl;generalize p:(⟨#[c]⟩:ByteArray)=y at *;go_enter func59,ntmps59;go_wp2;go_loopw [5,6,7] (fun v f i wr=>∃ k m:Nat,∃ o:List ByteArray,k<=s.size/\m<=k/\i=.int .i64 k/\f=.int .i64 m/\o.length<=k/\Hid (zMi c (s.toList.take k)=o.map xF++[(s.toList.take k).drop m]) /\
   wr.ownsRow w.heap.size 9 1 v o.length (o.map xW)/\Below w.heap.size w wr) (fun _ _ i _=>s.size-(intOf i).toNat)
 case atStart=>exact⟨0,0,[],x4 _,xR _,rfl,rfl,xR _,by unfold Hid;simp[zMi],World.ownsRow_nil _ _ _ _,Below.refl _ _⟩
 case round =>
  obtain⟨k,m,o,X,U,rfl,rfl,S,x,d,a⟩:=hrel;have V:(m:Int)<=(k:Int):=by omega
  by_cases hlt:k<s.size
  ·have A:(k:Int)+1<=(s.size:Int):=by omega
   have T:∀ G,(Instr.slice 9 (.string s) (some (.int .i64 (k:Int))) (some (.int .i64 ((k:Int)+1))) none).run prog G=.ok (.string (s.extract k (k+1))) G:=fun G=>by
    rw[run_slice_string G 9 s .i64 .i64 _ _ underlying9 (by omega) (by omega) (by omega),show ((k:Int)).toNat=k by omega,show ((k:Int)+1).toNat=k+1 by omega]
   by_cases hc:s[k]=c
   ·have W:((s.extract k (k+1)).toList==y.toList)=true:=by rw[<- p,zKF s c k hlt];simpa using hc
    have O:=zAa hc;clear hc;go_wp2_with (first
     | (at_builtin;refine wpList_append_lies _ rfl (.tmp 38) (.tmp 43) 37 rfl w.heap.size 9 N (.string x2) 1 16 underlying37 L D E F rfl (by decide) _ _ _ rfl (d.alloc _) ⟨wr.heap.size,0,none⟩ 1 1 [.string (s.extract m k)] rfl rfl ?c1 ?c2 (by decide) ?c3 ?c4 ?c5 _ rfl ?_))
    case c1 =>
     intro j u q
     match j,q with
     | 0,q=>simp at q;subst q;simp[Addr.add]
    case c2=>intro u C;simp at C;subst C;rfl
    case c3=>unfold maxLen;omega
    case c4=>omega
    case c5=>have:=a.size;simp;omega
    intro g cap K l b r z;have R:=zHy c s k m o hlt x.out O.out;have H:=zAa R;have t:Below w.heap.size w K:=(a.alloc a.size _).grown b (by have:=a.size;simp;omega) (fun j q=>(d.lt j q).1);clear R d b r x;go_wp2;go_roundw
    case rel=>exact⟨k+1,k+1,o++[s.extract m k],by omega,xR _,by go_num,by go_num,by simp;omega,H,by simpa using l,t⟩
    case measure=>simp[intOf];omega
   ·have W:((s.extract k (k+1)).toList==y.toList)=false:=by rw[<- p,zKF s c k hlt];simpa using hc
    have H:=zAa (zHz c s k m o hlt U x.out hc);clear x hc;go_wp2;go_roundw
    case rel=>exact⟨k+1,m,o,by omega,by omega,by go_num,rfl,by omega,H,d,a⟩
    case measure=>simp[intOf];omega
  ·have A:¬ ((k:Int)+1<=(s.size:Int)):=by omega
   have I:Hid ((o++[s.extract m s.size]).map xF=zMi c s.toList):=by
    have J:k=s.size:=by omega
    subst J;unfold Hid;have:=x.out;rw[x5 (by rw[bS];exact xR _)] at this;rw[this];simp[fW,x5,bS]
   clear x;go_wp2_with (first
     | (at_builtin;refine wpList_append_lies _ rfl (.tmp 49) (.tmp 53) 37 rfl w.heap.size 9 N (.string x2) 1 16 underlying37 L D E F rfl (by decide) _ _ _ rfl (d.alloc _) ⟨wr.heap.size,0,none⟩ 1 1 [.string (s.extract m s.size)] rfl rfl ?d1 ?d2 (by decide) ?d3 ?d4 ?d5 _ rfl ?_))
   case d2=>first | rfl | (intro u C;simp at C;subst C;rfl)
   case d3=>unfold maxLen;omega
   case d4=>omega
   case d5=>have:=a.size;simp;omega
   intro g cap K l b r z;have t:Below w.heap.size w K:=(a.alloc a.size _).grown b (by have:=a.size;simp;omega) (fun j q=>(d.lt j q).1);clear d b r;go_wp2;go_ret;exact⟨g,cap,o++[s.extract m s.size],by simp,I.out,by simpa using l,t⟩
theorem FG (h:w.ownsRow B 9 1 (.slice (some ⟨g,0,none⟩) ws.length cap) ws.length (ws.map xW)):zAp w g 0 ws/\ws.length<=cap/\g<w.heap.size:=by
 refine⟨fun i s c=>?_,?_,(h.lt g rfl).2⟩
 ·have l:=(List.getElem?_eq_some_iff.1 c).1;rw[Nat.zero_add,h.cellAt i (by omega)];simp[c]
 ·rcases h.2 with ⟨a,_⟩ | ⟨f,b,d,a,j,k,e,_⟩
  ·simp at a
  ·simp only[Value.slice.injEq] at a;omega
theorem zJL (c:UInt8) (s:ByteArray) (k:Nat) (b:List ByteArray) (a:ByteArray) (e:k<s.size) (h:zMi c (s.toList.take k)=(b++[a]).map xF) (d:s[k]=c) :
  zMi c (s.toList.take (k+1))=(b++[a]++[(⟨#[]⟩:ByteArray)]).map xF:=by
 rw[rB s k e,yA _ _ _ (b.map xF) a.toList (by simpa using h),if_pos d];simp[aP]
theorem zJM (c:UInt8) (s:ByteArray) (k:Nat) (b:List ByteArray) (a:ByteArray) (d:k<s.size) (h:zMi c (s.toList.take k)=(b++[a]).map xF) (e:¬ s[k]=c) :
  zMi c (s.toList.take (k+1))=(b++[a++s.extract k (k+1)]).map xF:=by
 rw[rB s k d,yA _ _ _ (b.map xF) a.toList (by simpa using h),if_neg e];have:(s.extract k (k+1)).toList=[s[k]]:=by
  rw[fW,rB s k d,x3 (by rw[x1,bS];omega),x7 (by rw[x1,bS];omega)];rfl
 simp[kO,this]
theorem zGU (a c:UInt8):((a.toNat:Int)==(c.toNat:Int))=decide (a=c):=by
 rw[Bool.eq_iff_iff];simp[<- UInt8.toNat_inj];omega
theorem zJN {e:TypeId} {a:List Value} {x y:Value} (h:w.ownsRow B e 1 (.slice (some ⟨g,0,none⟩) (n+1) cap) (n+1) (a++[x])):(w.setCell ⟨g,n,none⟩ y).ownsRow B e 1 (.slice (some ⟨g,0,none⟩) (n+1) cap) (n+1) (a++[y]):=by
 have b:=(h.stored n y).1;have c:a.length=n:=by have:=h.1;simp at this;omega
 have:(a++[x]).set n y=a++[y]:=by rw[List.set_append_right _ _ (by omega),c,Nat.sub_self];rfl
 rw[this] at b;exact b
theorem uR (s:ByteArray) (c:UInt8) (w:World) (hs:s.size<=8192) :
  Calls prog 8 #[.string s,.int .u8 (c.toNat:Int)] w fun e w'=>∃ g cap n d t,e=.returned (.slice (some ⟨g,0,none⟩) n cap)/\Hid (d.toList::t.map xF=zMi c s.toList)/\w'.ownsRow w.heap.size 9 1 (.slice (some ⟨g,0,none⟩) n cap) n ((d::t).map xW)/\t.length=n-1/\1<=n/\n<10000/\Below w.heap.size w w':=by
 obtain⟨i0,hi,O,S,T⟩:=info_parts Tryz.infoStr;have Y:c.toNat<256:=UInt8.toNat_lt c;go_enter func8,ntmps8;go_wp2;go_loopw [5,6] (fun v i wr=>∃ k n g cap:Nat,∃ o:List ByteArray,∃ b:ByteArray,k<=s.size/\i=.int .i64 k/\v=.slice (some ⟨g,0,none⟩) (n+1) cap/\o.length=n/\n<=k/\b.size<=k/\Hid (zMi c (s.toList.take k)=(o++[b]).map xF)/\wr.ownsRow w.heap.size 9 1 (.slice (some ⟨g,0,none⟩) (n+1) cap) (n+1) (o.map xW++[.string b])/\Below w.heap.size w wr) (fun _ i _=>s.size-(intOf i).toNat)
 case atStart =>
  refine⟨0,0,w.heap.size,1,[],⟨#[]⟩,x4 _,rfl,rfl,rfl,xR _,by simp[kA],by unfold Hid;simp[zMi,aP],?_,(Below.refl _ _).alloc (xR _) _⟩;refine⟨by simp,.inr ⟨w.heap.size,1,#[.string ⟨#[]⟩],rfl,xR _,heap_alloc_new w _,by omega,by unfold maxLen;omega,rfl,rfl⟩⟩
 case round =>
  obtain⟨k,n,g,cap,o,b,hk,rfl,rfl,A,ac,Z,z,f,l⟩:=hrel;have m:=zAa A;clear A;have N:=l.size;by_cases hlt:k<s.size
  ·by_cases hc:s[k]=c
   ·have J:((s[k].toNat:Int)==(c.toNat:Int))=true:=by rw[zGU];simpa using hc
    have E:=zAa (zJL c s k o b hlt z.out hc);clear hc;go_wp2_with (first
     | (at_builtin;refine wpList_append_lies _ rfl (.tmp 20) (.tmp 21) 37 rfl w.heap.size 9 i0 (.string x2) 1 16 underlying37 hi O S T rfl (by decide) _ _ _ rfl (f.alloc _) ⟨wr.heap.size,0,none⟩ 1 1 [.string ⟨#[]⟩] rfl rfl ?c1 ?c2 (by decide) ?c3 ?c4 ?c5 _ rfl ?_))
    case c1 =>
     intro j u x
     match j,x with
     | 0,x=>simp at x;subst x;simp[Addr.add]
    case c2=>intro u V;simp at V;subst V;rfl
    case c3=>unfold maxLen;omega
    case c4=>omega
    case c5=>simp;omega
    intro X W w1 q p H C;have I:Below w.heap.size w w1:=(l.alloc N _).grown p (by simp;omega) (fun j x=>(f.lt j x).1);clear p H z;go_wp2;go_roundw
    case rel=>exact⟨k+1,n+1,X,W,o++[b],⟨#[]⟩,by omega,by go_num,rfl,by have:=m.out;simp;omega,by omega,by simp[kA],E,by simpa using q,I⟩
    case measure=>simp[intOf];omega
   ·have J:((s[k].toNat:Int)==(c.toNat:Int))=false:=by rw[zGU];simpa using hc
    have E:=zAa (zJM c s k o b hlt z.out hc);have K:wr.cell? ⟨g,n,none⟩=some (.string b):=by
     rw[f.cellAt n (by omega),List.getElem?_append_right (by rw[x8,m.out];exact xR _),x8,m.out];simp
    have U:=f.frozenAt n;have C:g<wr.heap.size:=(f.lt g rfl).2;have ab:(n:Int)<(n:Int)+1:=by omega
    have aa:(s.extract k (k+1)).size<=1:=by simp[ByteArray.size_extract];omega
    have D:=zAa (zJN (y:=.string (b++s.extract k (k+1))) f);have G:w.heap.size<=g:=(f.lt g rfl).1;have ad:∀ w,(Instr.slice 9 (.string s) (some (.int .i64 (k:Int))) (some (.int .i64 ((k:Int)+1))) none).run prog w=.ok (.string (s.extract k (k+1))) w:=fun w=>by
     rw[run_slice_string w 9 s .i64 .i64 _ _ underlying9 (by omega) (by omega) (by omega),show ((k:Int)).toNat=k by omega,show ((k:Int)+1).toNat=k+1 by omega]
    have ae:IntKind.i64.wrap ((k:Int)+1)=(k:Int)+1:=by rw[IntKind.wrap_i64];omega
    clear z f hc;go_wp2;go_region
    all_goals go_wp2
    all_goals go_roundw
    case rel=>exact⟨k+1,n,g,cap,o,b++s.extract k (k+1),by omega,by go_num,rfl,m.out,by omega,by simp;omega,E,D.out.drew,(l.setCell G _).drew⟩
    case measure=>simp[intOf];omega
  ·have M:k=s.size:=by omega
   subst M;have F:Hid (zMi c s.toList=(o++[b]).map xF):=by
    unfold Hid;have:=z.out;rw[x5 (by rw[bS];exact xR _)] at this;exact this
   have hl:=m.out;clear m;go_wp2;go_ret;obtain⟨d,t,L⟩:∃ d t,o++[b]=d::t:=by
    cases o with
    | nil=>exact⟨b,[],rfl⟩
    | cons a r=>exact⟨a,r++[b],rfl⟩
   refine⟨g,cap,n+1,d,t,rfl,?_,?_,?_,by omega,by omega,l⟩
   ·unfold Hid;rw[F.out,L];rfl
   ·rw[<- L];simpa using f
   ·have:=congrArg List.length L;simp at this;omega
namespace P
structure Thr where
 block:Int
 line:Int
 Eb:List Stm
structure Rd where
 Ec:List Thr
 line:Int
 count:Int
 ifs:Int
 opn:List Int
 most:Int
def zMI:List Thr->Stm->List Thr
 | [],_=>[]
 | [t],s=>[{ t with Eb:=t.Eb++[s] }]
 | t::u::r,s=>t::zMI (u::r) s
theorem sH (c:List Thr) (t:Thr) (s:Stm):zMI (c++[t]) s=c++[{ t with Eb:=t.Eb++[s] }]:=by
 induction c with
 | nil=>rfl
 | cons a r ih=>cases r with
  | nil=>rfl
  | cons b q=>simpa [zMI] using ih
theorem uS (a:List Thr) (s:Stm):(zMI a s).length=a.length:=by
 match a with
 | []=>rfl
 | [_]=>rfl
 | t::u::r=>simpa [zMI] using uS (u::r) s
def put (r:Rd) (s:Stm):Rd:={ r with Ec:=zMI r.Ec s }
def ends (r:Rd) (s:Stm):Rd × Bool :=
 match r.opn.getLast? with
 | none=>(r,false)
 | some l=>(put { r with opn:=r.opn.dropLast } { s with label:=l },true)
def branch (r:Rd) (s:Stm):Rd × Bool :=
 if 2<=r.opn.length then (r,false) else (put { r with ifs:=r.ifs+1,opn:=r.opn++[r.ifs+1] } { s with label:=r.ifs+1 },true)
def zNr (r:Rd) (b l:Int):Rd × Bool :=
 if 4<=r.Ec.length\/0<r.opn.length then (r,false) else ({ r with Ec:=r.Ec++[⟨b,l,[]⟩],count:=0 },true)
def kAT (r:Rd) (st:Stm):Rd × Bool :=
 if r.Ec.isEmpty then (r,false)
 else if st.kind==11 then ends r st
 else if r.most<=r.count then (r,false)
 else if st.kind==10 then
  if 2<=r.opn.length then ({ r with count:=r.count+1 },false) else branch { r with count:=r.count+1 } st
 else (put { r with count:=r.count+1 } st,true)
theorem kEy (r:Rd) (b l:Int):(zNr r b l).1.line=r.line/\(zNr r b l).1.most=r.most:=by
 unfold zNr;split<;>exact⟨rfl,rfl⟩
theorem kJP (r:Rd) (s:Stm):(ends r s).1.line=r.line/\(ends r s).1.most=r.most:=by
 unfold ends;split<;>exact⟨rfl,rfl⟩
theorem kHI (r:Rd) (s:Stm):(branch r s).1.line=r.line/\(branch r s).1.most=r.most:=by
 unfold branch;split<;>exact⟨rfl,rfl⟩
theorem kGv (r:Rd) (s:Stm):(kAT r s).1.line=r.line/\(kAT r s).1.most=r.most:=by
 unfold kAT
 split
 ·exact⟨rfl,rfl⟩
 split
 ·exact kJP r s
 split
 ·exact⟨rfl,rfl⟩
 split
 ·split
  ·exact⟨rfl,rfl⟩
  ·exact kHI _ s
 ·exact⟨rfl,rfl⟩
theorem tD {α:Type} (l:List α) (k:Nat) (h:k<l.length):l.drop k=l[k]::l.drop (k+1):=(List.drop_eq_getElem_cons h)
theorem pY (c:UInt8) (l:List UInt8):(zMi c l).length<=l.length+1:=by
 induction l with
 | nil=>simp[zMi]
 | cons x r ih =>
  unfold zMi
  split
  ·simp;omega
  ·split
   ·rename_i h t e;rw[e] at ih;simp at ih ⊢;omega
   ·simp
structure Good (k:Nat) (r:Rd):Prop where
 few:r.Ec.length<=4
 stm:∀ t∈r.Ec,t.Eb.length<=k
 opn:r.opn.length<=2
 ifs0:0<=r.ifs
 ifs1:r.ifs<=k
 cnt:0<=r.count
 lin0:0<=r.line
 lin1:r.line<=k
theorem kEC (d:List Thr) (s:Stm) (k:Nat) (h:∀ t∈d,t.Eb.length<=k):∀ t∈zMI d s,t.Eb.length<=k+1:=by
 match d,h with
 | [],h=>intro t c;simp[zMI] at c
 | [a],h =>
  intro t c;simp[zMI] at c;subst c;have:=h a (by simp);simp;omega
 | a::b::r,h =>
  intro t c;simp only[zMI,List.mem_cons] at c
  rcases c with rfl | c
  ·have:=h t (by simp);omega
  ·exact kEC (b::r) s k (fun t c=>h t (by simp at c ⊢;right;exact c)) t c
end P
namespace R
def eS (w:List UInt8) (k:Int):List (List UInt8)->Int
 | []=>-1
 | x::r=>if x==w&&w != [] then k else eS w (k+1) r
def inn (w l:List UInt8):Int:=eS w 0 (zMi 32 l)
theorem kKs (w:List UInt8) (l:List (List UInt8)):∀ k,eS w k l=-1\/(k<=eS w k l/\eS w k l<k+l.length):=by
 induction l with
 | nil=>intro k;left;rfl
 | cons x r ih =>
  intro k;simp only[eS]
  split
  ·right;simp;omega
  ·rcases ih (k+1) with h | h
   ·left;exact h
   ·right;simp at h ⊢;omega
end R
theorem nI (h:w.ownsRow B 9 1 (.slice (some ⟨g,0,none⟩) n cap) n (ws.map xW)) (a:ws.length=n):zAp w g 0 ws/\n<=cap/\g<w.heap.size:=by
 subst a;exact FG h
theorem zAp.get {b off:Nat} (h:zAp w b off ws) (k:Nat) (a:k<ws.length):w.cell? ⟨b,off+k,none⟩=some (.string ws[k]):=h k _ (List.getElem?_eq_getElem a)
theorem zLu (v l:ByteArray) (w:World) (F:l.size<=8192) :
  Calls prog 26 #[.string v,.string l] w fun e w'=>e=.returned (.int .i64 (R.inn v.toList l.toList))/\Below w.heap.size w w':=by
 go_enter func26,ntmps26;go_wp2_with (first | (go_at_call 8;refine (uR l 32 _ F).mono ?_;rintro e I ⟨g,cap,n,d,b,rfl,y,c,s,C,D,o⟩;obtain⟨p,E,u⟩:=nI c (by simp;omega);have r:=zAa p;have m:Hid ((d::b).length=n):=(by simp[Hid];omega);clear c p s));go_loopw [6] (fun i wr=>∃ k:Nat,k<=n/\i=.int .i64 k/\Hid (R.inn v.toList l.toList=R.eS v.toList k (((d::b).map xF).drop k))/\wr=I) (fun i _=>n-(intOf i).toNat)
 case atStart=>exact⟨0,x4 _,rfl,by unfold Hid R.inn;rw[<- y.out];rfl,rfl⟩
 case round =>
  obtain⟨k,J,rfl,q,rfl⟩:=hrel;by_cases hlt:k<n
  ·have f:k<(d::b).length:=by rw[m.out];exact hlt
   have z:=r.out.get k f;rw[Nat.zero_add] at z;have t:=zAa (tD ((d::b).map xF) k (by simpa using f));have j:Hid (((d::b).map xF).drop k=((d::b)[k]).toList::((d::b).map xF).drop (k+1)):=by
    have:=t.out;unfold Hid;rw[this,List.getElem_map]
   generalize H:(d::b)[k]=x at *;clear H t f;have A:(k:Int)<(n:Int):=by omega
   by_cases e1:x.toList=v.toList
   ·cases e2:v.toList.isEmpty
    ·have a:Hid (R.inn v.toList l.toList=(k:Int)):=by
      have G:v.toList≠[]:=by simpa using e2
      unfold Hid;rw[q.out,j.out,R.eS,if_pos (by simp[e1,G])]
     clear j;go_wp2;go_ret;rw[a.out];exact⟨rfl,o⟩
    ·have a:Hid (R.inn v.toList l.toList=R.eS v.toList ((k+1:Nat):Int) (((d::b).map xF).drop (k+1))):=by
      unfold Hid;rw[q.out,j.out,R.eS,if_neg (by simp[List.isEmpty_iff.1 e2])];rfl
     clear j;go_wp2;go_roundw
     case rel=>exact⟨k+1,by omega,by go_num,a,trivial⟩
     case measure=>simp[intOf];omega
   ·have a:Hid (R.inn v.toList l.toList=R.eS v.toList ((k+1:Nat):Int) (((d::b).map xF).drop (k+1))):=by
     unfold Hid;rw[q.out,j.out,R.eS,if_neg (by simp[e1])];rfl
    clear j;go_wp2;go_roundw
    case rel=>exact⟨k+1,by omega,by go_num,a,trivial⟩
    case measure=>simp[intOf];omega
  ·have a:Hid (R.inn v.toList l.toList=-1):=by
    unfold Hid;rw[q.out,List.drop_eq_nil_of_le (by have:=m.out;simp at this ⊢;omega)];rfl
   go_wp2;go_ret;rw[a.out];exact⟨rfl,o⟩
namespace R
def regs:List UInt8:=[114,48,32,114,49,32,114,50,32,114,51]
def mZ:List UInt8:=[48,32,49,32,50,32,51]
def bO:List UInt8:=[120,32,121,32,122]
def rK:List UInt8:=[98,108,111,99,107,32,100,101,118,105,99,101]
def iZ:List UInt8:=[43,32,45,32,61,61]
def aW (v:List UInt8):Int × Bool:=if 0<=inn v regs then (-1-inn v regs,true) else (inn v mZ,decide (0<=inn v mZ))
theorem uC (v l:List UInt8):-1<=inn v l/\inn v l<=l.length:=by
 have h:=kKs v (zMi 32 l) 0;have a:=pY 32 l;unfold inn;omega
end R
theorem fL (v:ByteArray) (L:List UInt8) (a:Array UInt8) (w:World) (h:a.toList=L) (b:a.size<=8192) :
  Calls prog 26 #[.string v,.string ⟨a⟩] w fun e w'=>e=.returned (.int .i64 (R.inn v.toList L))/\Below w.heap.size w w':=by
 have:=zLu v ⟨a⟩ w b;rw[aP a,h] at this;exact this
theorem nY (v:ByteArray) (w:World) :
  Calls prog 11 #[.string v] w fun e w'=>e=.returned (.tuple #[.int .i64 (R.aW v.toList).1,.bool (R.aW v.toList).2])/\Below w.heap.size w w':=by
 have o:=R.uC v.toList R.regs;have p:=R.uC v.toList R.mZ;have j:R.regs.length=11:=rfl;have k:R.mZ.length=7:=rfl;rw[j] at o;rw[k] at p;have d:Hid (R.aW v.toList=if 0<=R.inn v.toList R.regs then (-1-R.inn v.toList R.regs,true) else (R.inn v.toList R.mZ,decide (0<=R.inn v.toList R.mZ))):=rfl;generalize i:R.inn v.toList R.regs=r at *;generalize f:R.inn v.toList R.mZ=n at *;have m:=zAa i;have l:=zAa f;clear i f j k;go_enter func11,ntmps11;go_wp2_with fail;refine (fL v R.regs _ _ rfl (by simp)).mono ?_;rintro e q ⟨rfl,a⟩;rw[m.out];go_wp2_with fail;refine (fL v R.mZ _ _ rfl (by simp)).mono ?_;rintro e s ⟨rfl,c⟩;rw[l.out];have b:=a.trans (c.mono a.size);by_cases h0:0<=r
 ·go_wp2;go_ret2;rw[d.out,if_pos h0];exact⟨by simp,b⟩
 ·go_wp2;go_ret2;rw[d.out,if_neg (by omega)];exact⟨by simp,b⟩
namespace R
structure Lh where
 op:ByteArray
 reg:Int
 var:Int
 a:Int
 b:Int
 sign:ByteArray
 ord:ByteArray
 scope:ByteArray
def mQ:List UInt8:=[119,101,97,107]
def how (x:Lh) (orders:List UInt8):List ByteArray->Lh × Bool
 | []=>(x,false)
 | o::r =>
  if o.toList==mQ then ({ x with ord:=o },decide (0<=inn o.toList orders)&&r.isEmpty)
  else if inn o.toList orders<0 then ({ x with ord:=o },false)
  else match r with
   | [s]=>({ x with ord:=o,scope:=s },decide (0<=inn s.toList rK))
   | _=>({ x with ord:=o },false)
theorem AM (x:Lh) (a:List UInt8) (o:ByteArray) (r:List ByteArray) (h:(o.toList==mQ)=true):how x a (o::r)=({ x with ord:=o },decide (0<=inn o.toList a)&&r.isEmpty):=by simp[how,h]
theorem zPO (x:Lh) (a:List UInt8) (o:ByteArray) (r:List ByteArray) (h:(o.toList==mQ)=false) (b:inn o.toList a<0):how x a (o::r)=({ x with ord:=o },false):=by simp[how,h,b]
theorem DW (x:Lh) (a:List UInt8) (o:ByteArray) (r:List ByteArray) (h:(o.toList==mQ)=false) (b:¬ r.length=1):how x a (o::r)=({ x with ord:=o },false):=by
 match r,b with
 | [],_=>simp[how,h]
 | [_],b=>simp at b
 | _::_::_,_=>simp[how,h]
theorem zPy (x:Lh) (a:List UInt8) (o s:ByteArray) (h:(o.toList==mQ)=false) (b:0<=inn o.toList a):how x a [o,s]=({ x with ord:=o,scope:=s },decide (0<=inn s.toList rK)):=by
 have:¬ inn o.toList a<0:=by omega
 simp[how,h,this]
end R
def bV (x:R.Lh) (bv:Value):Array Value:=#[.string x.op,.int .i64 x.reg,.int .i64 x.var,.int .i64 x.a,.int .i64 x.b,.string x.sign,.string x.ord,.string x.scope,bv]
def zBG (w:World) (g:Nat) (x:R.Lh) (bv:Value):Prop:=w.heap[g]?=some (.cells (bV x bv) 44 (0,0))
theorem zBG.facts {x:R.Lh} (h:zBG w g x bv):g<w.heap.size/\(∀ i,w.frozen? ⟨g,i,none⟩=false) /\
  w.cell? ⟨g,0,none⟩=some (.string x.op)/\w.cell? ⟨g,1,none⟩=some (.int .i64 x.reg)/\w.cell? ⟨g,2,none⟩=some (.int .i64 x.var)/\w.cell? ⟨g,3,none⟩=some (.int .i64 x.a)/\w.cell? ⟨g,4,none⟩=some (.int .i64 x.b) /\
  w.cell? ⟨g,5,none⟩=some (.string x.sign)/\w.cell? ⟨g,6,none⟩=some (.string x.ord)/\w.cell? ⟨g,7,none⟩=some (.string x.scope)/\w.cell? ⟨g,8,none⟩=some bv:=by
 have c:∀ i,w.cell? ⟨g,i,none⟩=(bV x bv)[i]?:=fun i=>by unfold zBG at h;simp[World.cell?,h]
 have d:∀ i,w.frozen? ⟨g,i,none⟩=false:=fun i=>by unfold zBG at h;simp[World.frozen?,h]
 exact⟨(Array.getElem?_eq_some_iff.1 h).1,d,c 0,c 1,c 2,c 3,c 4,c 5,c 6,c 7,c 8⟩
theorem zBG.lt {x:R.Lh} (h:zBG w g x bv):g<w.heap.size:=(Array.getElem?_eq_some_iff.1 h).1
theorem zBG.aA {x:R.Lh} (h:zBG w g x bv) (e:w'.heap[g]?=w.heap[g]?):zBG w' g x bv:=by
 unfold zBG at *;rw[e];exact h
theorem zBG.below {x:R.Lh} (h:zBG w g x bv) (a:Below w.heap.size w w'):zBG w' g x bv:=h.aA (a.block g h.lt)
theorem zBG.alloc {x:R.Lh} (h:zBG w g x bv) (o:Obj):zBG (w.alloc o) g x bv:=h.aA (Below.heap_alloc _ _ _ h.lt)
theorem zBG.drew {x:R.Lh} (h:zBG w g x bv):zBG w.drew g x bv:=h
theorem zBG.bT (w:World) (x:R.Lh) (bv:Value):zBG (w.alloc (.cells (bV x bv) 44)) w.heap.size x bv:=heap_alloc_new w _
theorem zBG.set {x:R.Lh} (y:R.Lh) (h:zBG w g x bv) (i:Nat) (u:Value) (e:(bV x bv).setIfInBounds i u=bV y bv):zBG (w.setCell ⟨g,i,none⟩ u) g y bv:=by
 unfold zBG at *;rw[bH h,e]
theorem zBG.fJ {x:R.Lh} (h:zBG w g x bv) (s:ByteArray):zBG (w.setCell ⟨g,6,none⟩ (.string s)) g { x with ord:=s } bv:=h.set _ 6 _ rfl
theorem zBG.fR {x:R.Lh} (h:zBG w g x bv) (s:ByteArray):zBG (w.setCell ⟨g,7,none⟩ (.string s)) g { x with scope:=s } bv:=h.set _ 7 _ rfl
theorem tC (g b off n cap:Nat) (x:R.Lh) (bv:Value) (c:List UInt8) (z:Array UInt8) (ws:List ByteArray) (w:World) (hg:zBG w g x bv) (hw:zAp w b off ws) (M:ws.length=n) (V:b≠g) (O:z.toList=c) (m:z.size<=8192) :
  Calls prog 28 #[.pointer (some ⟨g,0,none⟩),.slice (some ⟨b,off,none⟩) n cap,.string ⟨z⟩] w fun e w'=>e=.returned (.bool (R.how x c ws).2)/\zBG w' g (R.how x c ws).1 bv/\w.grownBy w' (some g):=by
 cases ws with
 | nil =>
  simp at M;subst M;go_enter func28,ntmps28;go_wp2;go_ret;exact⟨rfl,hg,jM _ _⟩
 | cons o r =>
  obtain⟨hd,y,Z⟩:=hw.head;have ac:((n:Int)==0)=false:=by simp at M;simp;omega
  have aa:0<n:=by simp at M;omega
  have u:r.length=n-1:=by simp at M;omega
  clear M;have k:=zAa O;clear O;have j:Hid (∀ i:World,Below w.heap.size w i->zBG i g x bv/\i.cell? ⟨b,off,none⟩=some (.string o)/\b<i.heap.size/\zAp i b (off+1) r):=fun i d =>
   ⟨hg.below d,(d.cell (p:=⟨b,off,none⟩) y).trans hd,Nat.lt_of_lt_of_le y d.size,Z.below d⟩
  cases hwk:(o.toList==R.mQ)
  rotate_left
  ·have v:=zAa (R.AM x c o r hwk);have S:(o.toList==[119,101,97,107])=true:=hwk;have ad:((n:Int)==1)=r.isEmpty:=by
    cases r with
    | nil=>simp at u;simp;omega
    | cons a q=>simp at u;simp;omega
   by_cases hk:0<=R.inn o.toList c
   ·go_enter func28,ntmps28;go_wp2_with (first | (go_at_call 26;refine (fL o c z _ k.out m).mono ?_;rintro e i ⟨rfl,d⟩;obtain⟨f,T,U,N⟩:=j.out i d;obtain⟨K,L,A,C,D,E,F,G,H,I,J⟩:=f.facts;have t:=zAa f;clear f));go_ret;rw[fX v];exact⟨by simp[hk],t.out.fJ _,gD (nP d _) _ _⟩
   ·go_enter func28,ntmps28;go_wp2_with (first | (go_at_call 26;refine (fL o c z _ k.out m).mono ?_;rintro e i ⟨rfl,d⟩;obtain⟨f,T,U,N⟩:=j.out i d;obtain⟨K,L,A,C,D,E,F,G,H,I,J⟩:=f.facts;have t:=zAa f;clear f));go_ret;rw[fX v];have X:¬ 0<=R.inn o.toList c:=by omega
    exact⟨by simp[X],t.out.fJ _,gD (nP d _) _ _⟩
  have S:(o.toList==[119,101,97,107])=false:=hwk;by_cases hk:R.inn o.toList c<0
  ·have v:=zAa (R.zPO x c o r hwk hk);go_enter func28,ntmps28;go_wp2_with (first | (go_at_call 26;refine (fL o c z _ k.out m).mono ?_;rintro e i ⟨rfl,d⟩;obtain⟨f,T,U,N⟩:=j.out i d;obtain⟨K,L,A,C,D,E,F,G,H,I,J⟩:=f.facts;have t:=zAa f;clear f));go_ret;rw[fX v];exact⟨rfl,t.out.fJ _,gD (nP d _) _ _⟩
  have Y:0<=R.inn o.toList c:=by omega
  have ab:decide (R.inn o.toList c<0)=false:=decide_eq_false hk;by_cases h2:n=2
  ·subst h2;obtain⟨s,rfl⟩:∃ s,r=[s]:=by
    match r,u with
    | [s],_=>exact⟨s,rfl⟩
   have v:=zAa (R.zPy x c o s hwk Y);clear u;go_enter func28,ntmps28;go_wp2_with fail;refine (fL o c z _ k.out m).mono ?_;rintro e i ⟨rfl,d⟩;obtain⟨f,T,U,N⟩:=j.out i d;obtain⟨K,L,A,C,D,E,F,G,H,I,J⟩:=f.facts;obtain⟨k5,_,_⟩:=N.head;have t:=zAa f;clear f;go_wp2_with fail;refine (fL s R.rK _ _ rfl (by simp)).mono ?_;rintro e w2 ⟨rfl,l⟩;have k6:=(t.out.fJ o).below l;have k7:w2.cell? ⟨b,off+1,none⟩=some (.string s):=(l.cell (p:=⟨b,off+1,none⟩) (by simp;omega)).trans ((bI V).trans k5);have k8:b<w2.heap.size:=by have:=l.size;simp at this;omega
   have W:w.grownBy w2 (some g):=yN (gD (nP d _) _ _) (nP l _);have K6:=zAa k6;clear A C D E F G H I J K L T U N k5 d l;obtain⟨K,L,A,C,D,E,F,G,H,I,J⟩:=k6.facts;clear k6;go_wp2;go_ret;rw[fX v];exact⟨rfl,K6.out.fR _,gD W _ _⟩
  ·have v:=zAa (R.DW x c o r hwk (by omega));have hx:((n:Int) != 2)=true:=by rw[bne_iff_ne];omega
   go_enter func28,ntmps28;go_wp2_with (first | (go_at_call 26;refine (fL o c z _ k.out m).mono ?_;rintro e i ⟨rfl,d⟩;obtain⟨f,T,U,N⟩:=j.out i d;obtain⟨K,L,A,C,D,E,F,G,H,I,J⟩:=f.facts;have t:=zAa f;clear f));go_ret;rw[fX v];exact⟨rfl,t.out.fJ _,gD (nP d _) _ _⟩
end Go.Proofs.YtonodfjdiepglaaGreatDoor
