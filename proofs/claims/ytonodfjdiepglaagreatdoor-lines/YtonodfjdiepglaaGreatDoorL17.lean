import Derived.Test.YtonodfjdiepglaaGreatDoorL16
set_option linter.unusedVariables false
set_option linter.unusedSimpArgs false
set_option maxHeartbeats 12800000
namespace Go.Proofs.YtonodfjdiepglaaGreatDoor
open Go Go.RowKit Go.Proofs.Tryz P Q R
set_option maxRecDepth 1000000
variable {a:List UInt8}
open Or renaming inr→xF,inl→xW
open _root_.ByteArray renaming toList→xR,empty→x5
open List renaming mem_cons_of_mem→x1,eq_nil_of_length_eq_zero→x2,isEmpty_iff→x3,cons_append→x8,dropLast_concat_getLast→x9,append_assoc→xa,singleton_append→xb,forall_mem_cons→xd
open Bool renaming eq_iff_iff→x4,and_eq_true→xc
open Go.World renaming news_of_block→x6
open Go.Value renaming oneCell'→x7
namespace R
def iO (last:Bool) (x:List UInt8):Option (List UInt8):=if x.isEmpty then none else if (x.getLast?==some 44)==last then none else some (if last then x else x.dropLast)
def fE (acc:List (List UInt8)):List (List UInt8)->Option (List (List UInt8))
 | []=>some acc
 | x::r=>match iO r.isEmpty x with
  | none=>none
  | some a=>fE (acc++[a]) r
def lJ (w0:List UInt8):Option (List (List UInt8))->List (List UInt8) × Bool
 | none=>([],false)
 | some a=>if w0.isEmpty||w0.getLast?==some 44 then ([],false) else match zMi 46 w0 with
  | []=>([],false)
  | h0::hs=>lN h0 hs a
def eX (l:List UInt8):List (List UInt8) × Bool:=match zMi 32 l with
 | []=>([],false)
 | w0::ws=>lJ w0 (fE [] ws)
end R
theorem P.sU (c:UInt8):∀ (l x:List UInt8),x∈zMi c l->x.length<=l.length
 | [],x,h=>by simp[zMi] at h;simp[h]
 | a::l,x,h=>by
  rw[zMi] at h
  split at h
  ·rcases List.mem_cons.1 h with rfl | h
   ·simp
   ·have:=sU c l x h;simp;omega
  ·split at h
   ·rename_i p t e
    rcases List.mem_cons.1 h with rfl | h
    ·have:=sU c l p (by rw[e];simp);simp;omega
    ·have:=sU c l x (by rw[e];simp[h]);simp;omega
   ·simp at h;simp[h]
theorem zKZ {w:World} {B n c:Nat} {g:Option Addr} {f:List ByteArray} (h:w.ownsRow B 9 1 (.slice g n c) n (f.map Value.string)) (p:f.length=n):oC w (.slice g n c) f:=by
 subst p;have m:=h.2
 rcases m with ⟨e,_⟩ | ⟨k,i,j,e,_,_,b,_⟩
 ·injection e with e1 e2 e3
  subst e1 e3;exact⟨none,0,rfl,by omega,fun d=>absurd (x2 e2) d⟩
 ·injection e with e1 e2 e3
  subst e1 e3;obtain⟨l,_,o⟩:=nI h rfl;exact⟨_,_,rfl,b,fun _=>⟨k,rfl,l,o⟩⟩
theorem DM (x:ByteArray) (h:0<x.size):(x.toList.getLast?==some 44)=(((x[x.size-1]'(by omega)).toNat:Int)==44):=by
 have b:x.size-1<x.size:=by omega
 rw[List.getLast?_eq_getElem?,bS,List.getElem?_eq_getElem (by rw[bS];omega),xQ x (x.size-1) b,x4];simp only[beq_iff_eq,Option.some.injEq];constructor
 ·intro e;rw[e];rfl
 ·intro e;rw[<- UInt8.ofNat_toNat (x:=x[x.size-1])];rw[show (x[x.size-1]).toNat=44 by omega];rfl
theorem zHe (s:ByteArray) (w:World) (hs:s.size<=8192) :
  Calls prog 12 #[.string s] w fun e w'=>qP w w' e (eX s.toList):=by
 obtain⟨i0,W,ap,aq,ar⟩:=info_parts Tryz.infoStr;generalize ae:eX s.toList=o;go_enter func12,ntmps12;go_upto_region 2 with (first | (go_at_call 8;refine (uR s 32 _ hs).mono ?_;rintro e w1 ⟨g,aK,n,d,y,rfl,O,k,aE,aR,aS,l⟩;obtain⟨U,aT,aI⟩:=nI k (by simp;omega)))
 have aa:Hid (∀ x∈d::y,x.size<=8192):=fun x hx=>by
  have h:=sU 32 s.toList x.toList (by rw[<- O.out];exact List.mem_map.2 ⟨x,hx,rfl⟩);rw[bS,bS] at h;omega
 have aA:d.size<=8192:=aa.out d (by simp);have Y:Hid (o=lJ d.toList (fE [] (y.map xR))):=by unfold Hid;rw[<- ae,eX,<- O.out]
 obtain⟨aM,_,_⟩:=U.head;have ab:=zAa U;obtain⟨m,rfl⟩:∃ m,n=m+1:=⟨n-1,by omega⟩;have ak:y.length=m:=by omega
 have B:=zAa ak;clear k aE ae U ak;go_wp2_with (first | (go_at_call 8;refine (uR d 46 _ aA).mono ?_;rintro e w2 ⟨gh,ch,nh,h0,hh,rfl,N,C,aB,aO,aP,f⟩));obtain⟨an,ag,aH⟩:=nI C (by simp;omega);have ac:=zAa an;clear an C;go_loopw [6,7] (fun av i wr=>∃ (j:Nat) (na:Option Addr) (nc:Nat) (A:List ByteArray),j<=m/\A.length=j/\av=.slice na j nc/\i=.int .i64 (j+1:Nat)/\Hid (o=lJ d.toList (fE (A.map xR) ((y.map xR).drop j)))/\Hid (wr.ownsRow w2.heap.size 9 1 av j (A.map Value.string))/\Below w2.heap.size w2 wr) (fun _ i _=>m+1-(intOf i).toNat)
 case atStart=>exact⟨0,none,0,[],Nat.zero_le _,rfl,rfl,rfl,Y,World.ownsRow_nil _ _ _ _,Below.refl _ _⟩
 case round =>
  obtain⟨j,na,nc,A,hj,H,rfl,rfl,S,V,c⟩:=hrel;by_cases hlt:j<m
  ·have aC:((j+1:Nat):Int)<((m+1:Nat):Int):=by omega
   have ah:j<y.length:=by rw[B.out];exact hlt
   have T:=c.size;have aW:wr.cell? ⟨g,j+1,none⟩=some (.string y[j]):=by
    have h1:=(ab.out.below ((f.trans (c.mono f.size)))).get (j+1) (by simp;omega);rw[Nat.zero_add] at h1;simpa using h1
   have au:Hid (y[j].size<=8192):=aa.out _ (x1 _ (List.getElem_mem ah));have af:g<wr.heap.size:=by have:=f.size;omega
   have X:Hid ((y.map xR).drop j=(y[j]).toList::(y.map xR).drop (j+1)):=by
    unfold Hid;rw[List.drop_eq_getElem_cons (by simpa using ah)];simp
   have HL:Hid (((y.map xR).drop (j+1)).isEmpty=((j:Int)+1==(m:Int))):=by
    unfold Hid;rw[x4,x3,List.drop_eq_nil_iff];simp;rw[B.out];omega
   generalize y[j]=x at *;generalize aL:((j:Int)+1==(m:Int))=bl at *;by_cases hx0:x.size=0
   ·have aJ:¬ (0:Int)<(x.size:Int):=by omega
    have ao:((x.size:Int)==0)=true:=by rw[beq_iff_eq];omega
    have z:Hid (o.2=false):=by
     unfold Hid;have:x.toList.isEmpty=true:=by rw[x3];exact x2 (by rw[bS];exact hx0)
     rw[S.out,X.out,fE,iO,if_pos this];rfl
    clear hx0;cases bl
    all_goals
     go_wp2;exact bodyPost_ret (results_tmp2 (t:=2) (u:=3) rfl _ _ _) rfl (nB (r:=o) z.out (l.trans ((f.trans (c.mono f.size)).mono l.size)) (.slice none 0 0) ⟨none,0,0,rfl⟩)
   ·have aV:(0:Int)<(x.size:Int):=by omega
    have ao:((x.size:Int)==0)=false:=by rw[beq_eq_false_iff_ne];omega
    have hw:wrap64 ((x.size:Int)-1)=(x.size:Int)-1:=by have E:=au.out;unfold wrap64;omega
    have al:(0:Int)<=(x.size:Int)-1:=by omega
    have am:(x.size:Int)-1<(x.size:Int):=by omega
    have aG:x.size-1<x.size:=by omega
    have I:Hid ((x.toList.getLast?==some 44)=(((x[x.size-1]'aG).toNat:Int)==44)):=DM x (by omega);have J:Hid (x.toList.isEmpty=false):=by
     unfold Hid
     cases E:x.toList with
     | nil=>have:=bS x;rw[E] at this;simp at this;omega
     | cons a b=>rfl
    generalize ay:(((x[x.size-1]'aG).toNat:Int)==44)=bc at *
    cases bc<;>cases bl
    ·have z:Hid (o.2=false):=by unfold Hid;rw[S.out,X.out,fE,iO,J.out,I.out,HL.out];rfl
     go_wp2;exact bodyPost_ret (results_tmp2 (t:=2) (u:=3) rfl _ _ _) rfl (nB (r:=o) z.out (l.trans ((f.trans (c.mono f.size)).mono l.size)) (.slice none 0 0) ⟨none,0,0,rfl⟩)
    ·have L:Hid (o=lJ d.toList (fE ((A++[x]).map xR) ((y.map xR).drop (j+1)))):=by
      unfold Hid;rw[S.out,X.out,fE,iO,J.out,I.out,HL.out];simp
     have M:=zAa V.out;go_wp2_with (first
      | (at_builtin;refine wpList_append_lies _ rfl (.tmp 63) (.tmp 65) 37 rfl w2.heap.size 9 i0 (.string x5) 1 16 underlying37 W ap aq ar rfl (by decide) _ _ _ rfl (M.out.alloc _) ⟨wr.heap.size,0,none⟩ 1 1 [.string x] rfl rfl ?c1 ?c2 (by decide) ?c3 ?c4 ?c5 _ rfl ?_))
     case c1=>exact x6 (cs:=#[.string x]) (t:=9) (fr:=(0,0)) (heap_alloc_new wr _)
     case c2=>simp[x7]
     case c3=>unfold maxLen;omega
     case c4=>omega
     case c5=>simp;omega
     intro g1 ad w4 k q aw ai;go_wp2_with fail;go_roundw
     case rel=>exact⟨j+1,_,_,A++[x],by omega,by simp[H],rfl,by go_num,L,by unfold Hid;simpa using k,(c.alloc T _).grown q (by simp;omega) (fun i W=>(V.out.lt i W).1)⟩
     case measure=>simp[intOf];omega
    ·have L:Hid (o=lJ d.toList (fE ((A++[x.extract 0 (x.size-1)]).map xR) ((y.map xR).drop (j+1)))):=by
      unfold Hid;rw[S.out,X.out,fE,iO,J.out,I.out,HL.out];simp[fW,List.dropLast_eq_take,bS]
     have aU:∀ wx,(Instr.slice 9 (.string x) none (some (.int .i64 ((x.size:Int)-1))) none).run prog wx=.ok (.string (x.extract 0 (x.size-1))) wx:=fun wx=>by
      rw[run_slice_string_to_if _ _ _ _ _ underlying9,if_pos (by omega)]
      congr 3;omega
     generalize x.extract 0 (x.size-1)=u at *;have M:=zAa V.out;go_wp2_with (first
      | (at_builtin;refine wpList_append_lies _ rfl (.tmp 63) (.tmp 65) 37 rfl w2.heap.size 9 i0 (.string x5) 1 16 underlying37 W ap aq ar rfl (by decide) _ _ _ rfl (M.out.alloc _) ⟨wr.heap.size,0,none⟩ 1 1 [.string u] rfl rfl ?c1 ?c2 (by decide) ?c3 ?c4 ?c5 _ rfl ?_))
     case c1=>exact x6 (cs:=#[.string u]) (t:=9) (fr:=(0,0)) (heap_alloc_new wr _)
     case c2=>simp[x7]
     case c3=>unfold maxLen;omega
     case c4=>omega
     case c5=>simp;omega
     intro g1 ad w4 k q aw ai;go_wp2_with fail;go_roundw
     case rel=>exact⟨j+1,_,_,A++[u],by omega,by simp[H],rfl,by go_num,L,by unfold Hid;simpa using k,(c.alloc T _).grown q (by simp;omega) (fun i W=>(V.out.lt i W).1)⟩
     case measure=>simp[intOf];omega
    ·have z:Hid (o.2=false):=by unfold Hid;rw[S.out,X.out,fE,iO,J.out,I.out,HL.out];rfl
     go_wp2;exact bodyPost_ret (results_tmp2 (t:=2) (u:=3) rfl _ _ _) rfl (nB (r:=o) z.out (l.trans ((f.trans (c.mono f.size)).mono l.size)) (.slice none 0 0) ⟨none,0,0,rfl⟩)
  ·obtain rfl:m=j:=by omega
   have aC:¬ ((m+1:Nat):Int)<((m+1:Nat):Int):=by omega
   have T:=c.size;have G:Below w.heap.size w wr:=l.trans ((f.trans (c.mono f.size)).mono l.size);have aN:wr.cell? ⟨g,0,none⟩=some (.string d):=by
    have h1:=(ab.out.below ((f.trans (c.mono f.size)))).get 0 (by simp);simpa using h1
   have F:Hid (o=lJ d.toList (some (A.map xR))):=by
    unfold Hid;rw[S.out,List.drop_eq_nil_of_le (by simp;rw[B.out];omega)];rfl
   have af:g<wr.heap.size:=by have:=f.size;omega
   have aQ:m<9000:=by
    have E:=pY 32 s.toList;rw[<- O.out,bS] at E;simp[B.out] at E;omega
   clear S Y;by_cases hd1:d.size=0
   ·have az:((d.size:Int)==0)=true:=by rw[beq_iff_eq];omega
    have z:Hid (o.2=false):=by
     unfold Hid;have:d.toList.isEmpty=true:=by rw[x3];exact x2 (by rw[bS];exact hd1)
     rw[F.out,lJ,this];rfl
    clear hd1;go_wp2;exact bodyPost_ret (results_tmp2 (t:=2) (u:=3) rfl _ _ _) rfl (nB (r:=o) z.out G (.slice none 0 0) ⟨none,0,0,rfl⟩)
   ·have az:((d.size:Int)==0)=false:=by rw[beq_eq_false_iff_ne];omega
    have hw:wrap64 ((d.size:Int)-1)=(d.size:Int)-1:=by unfold wrap64;omega
    have al:(0:Int)<=(d.size:Int)-1:=by omega
    have am:(d.size:Int)-1<(d.size:Int):=by omega
    have aG:d.size-1<d.size:=by omega
    have I:Hid ((d.toList.getLast?==some 44)=(((d[d.size-1]'aG).toNat:Int)==44)):=DM d (by omega);have J:Hid (d.toList.isEmpty=false):=by
     unfold Hid
     cases E:d.toList with
     | nil=>have:=bS d;rw[E] at this;simp at this;omega
     | cons a b=>rfl
    generalize ay:(((d[d.size-1]'aG).toNat:Int)==44)=bc at *;cases bc
    rotate_left
    ·have z:Hid (o.2=false):=by unfold Hid;rw[F.out,lJ,J.out,I.out];rfl
     go_wp2;exact bodyPost_ret (results_tmp2 (t:=2) (u:=3) rfl _ _ _) rfl (nB (r:=o) z.out G (.slice none 0 0) ⟨none,0,0,rfl⟩)
    ·have z:Hid (o=lN h0.toList (hh.map xR) (A.map xR)):=by
      unfold Hid;rw[F.out,lJ,J.out,I.out,<- N.out];rfl
     have K:oC wr (.slice na m nc) A:=by
      exact zKZ V.out H
     obtain⟨p,rfl⟩:∃ p,nh=p+1:=⟨nh-1,by omega⟩;have aD:hh.length=p:=by omega
     subst aD;have D:=zHR gh ch (.slice na m nc) h0 hh A wr (ac.out.below c) K ag (by
      have E:=pY 46 d.toList;rw[<- N.out,bS] at E;simp at E;omega) (by omega)
     rw[<- z.out] at D;have Z:=zAa D;clear D z;clear K aB ag ac N F I J hd1 hw al am H V B;go_upto_region 19 with fail
     go_wp2_with (first | (go_at_call 27;refine Z.out.mono ?_;rintro e w9 aF;obtain⟨v,rfl,⟨va,vn,vc,rfl⟩,aj,ax⟩:=aF));exact bodyPost_ret (results_tmp2 (t:=2) (u:=3) rfl _ _ _) rfl ⟨_,rfl,⟨_,_,_,rfl⟩,aj,G.trans (ax.mono G.size)⟩
namespace P
theorem mF (c:UInt8):∀ q:List UInt8,(c ∉ q/\zMi c q=[q])\/∃ x r,q=x++c::r/\c ∉ x/\zMi c q=x::zMi c r
 | []=>xW ⟨by simp,rfl⟩
 | a::q=>by
  by_cases e:a=c
  ·subst e;exact xF ⟨[],q,rfl,by simp,by rw[zMi,if_pos rfl]⟩
  ·rcases mF c q with ⟨b,d⟩ | ⟨x,r,b,d,f⟩
   ·exact xW ⟨by simp[Ne.symm e,b],by rw[zMi,if_neg e,d]⟩
   ·exact xF ⟨a::x,r,by rw[b];rfl,by simp[Ne.symm e,d],by rw[zMi,if_neg e,f]⟩
theorem vF:∀ (a q:List UInt8),(32:UInt8) ∉ a->dB 44 32 (a++44::32::q)=a::dB 44 32 q
 | [],q,_=>kFB 44 32 q
 | c::a,q,h=>by
  have b:(32:UInt8) ∉ a:=fun e=>h (x1 _ e)
  rw[x8,vK 44 32 c _ (fun ⟨_,e⟩=>by
   cases a with
   | nil=>simp at e
   | cons d a=>simp at e;exact b (by rw[e];simp)),vF a q b]
  rfl
theorem uD:∀ (a:List UInt8),(32:UInt8) ∉ a->dB 44 32 a=[a]
 | [],_=>rfl
 | c::a,h=>by
  have b:(32:UInt8) ∉ a:=fun e=>h (x1 _ e)
  rw[vK 44 32 c _ (fun ⟨_,e⟩=>by
   cases a with
   | nil=>simp at e
   | cons d a=>simp at e;exact b (by rw[e];simp)),uD a b]
  rfl
theorem wN:∀ (x q:List UInt8),(32:UInt8) ∉ x->x.getLast?≠some 44->∃ p t,dB 44 32 (x++32::q)=p::t/\(32:UInt8)∈p
 | [],q,_,_=>by
  have h:=vK 44 32 32 q (fun ⟨e,_⟩=>by simp at e);rw[List.nil_append,h]
  cases e:dB 44 32 q with
  | nil=>exact absurd e (sD _ _ _)
  | cons p t=>exact⟨32::p,t,rfl,by simp⟩
 | c::x,q,h,hl=>by
  have b:(32:UInt8) ∉ x:=fun e=>h (x1 _ e)
  have j:x.getLast?≠some 44:=by
   cases x with
   | nil=>simp
   | cons d x=>simpa [List.getLast?_cons_cons] using hl
  obtain⟨p,t,g,i⟩:=wN x q b j;rw[x8,vK 44 32 c _ (fun ⟨f,e⟩=>by
   cases x with
   | nil=>simp at hl;exact hl f
   | cons d x=>simp at e;exact b (by rw[e];simp)),g]
  exact⟨c::p,t,rfl,x1 _ i⟩
end P
namespace R
theorem kFV {x:List UInt8} (h:iO false x=some a):x=a++[44]:=by
 unfold iO at h
 split at h
 ·cases h
 split at h
 ·cases h
 rename_i d c;simp at c h;rw[<- h];obtain⟨y,b,rfl⟩:∃ y b,x=y++[b]:=⟨x.dropLast,x.getLast (by simpa using d),(x9 (by simpa using d)).symm⟩;simp at c;rw[List.dropLast_concat,c]
theorem kGG {x:List UInt8} (h:iO true x=some a):x=a:=by
 unfold iO at h
 split at h
 ·cases h
 split at h
 ·cases h
 simpa using h
theorem kHX:∀ (n:Nat) (q:List UInt8),q.length<=n->∀ c out,fE c (zMi 32 q)=some out->out=c++dB 44 32 q:=by
 intro n
 induction n with
 | zero =>
  intro q g c out h;have:q=[]:=x2 (by omega);subst this;rw[show zMi 32 []=[[]] from rfl,fE] at h;simp[iO] at h
 | succ n ih =>
  intro q g c out h
  rcases mF 32 q with ⟨i,d⟩ | ⟨x,r,rfl,d,j⟩
  ·rw[d,fE] at h
   cases e:iO ([]:List (List UInt8)).isEmpty q with
   | none=>rw[e] at h;cases h
   | some a =>
    rw[e] at h;have:=kGG e;subst this;rw[uD _ i];simpa [fE] using h.symm
  ·rw[j,fE] at h;have f:(zMi 32 r).isEmpty=false:=by
    cases e:zMi 32 r with
    | nil=>exact absurd e (mB 32 r)
    | cons a b=>rfl
   rw[f] at h
   cases e:iO false x with
   | none=>rw[e] at h;cases h
   | some a =>
    rw[e] at h;have l:=kFV e;subst l;have k:(32:UInt8) ∉ a:=fun e=>d (by simp[e])
    have:=ih r (by simp at g;omega) _ _ h;rw[this,xa,xa,xb,xb,vF a r k]
theorem kJq:∀ (n:Nat) (q:List UInt8),q.length<=n->(∀ p∈dB 44 32 q,p≠[]/\(32:UInt8) ∉ p/\(44:UInt8) ∉ p)->∀ c,fE c (zMi 32 q)=some (c++dB 44 32 q):=by
 intro n
 induction n with
 | zero =>
  intro q k d c;have:q=[]:=x2 (by omega);subst this;exact absurd rfl (d [] (by simp[dB])).1
 | succ n ih =>
  intro q k d c
  rcases mF 32 q with ⟨o,f⟩ | ⟨x,r,rfl,f,s⟩
  ·rw[uD _ o] at d ⊢;obtain⟨y,A,z⟩:=d q (by simp);have e:iO true q=some q:=by
    unfold iO;rw[if_neg (by simpa using y)];have:(q.getLast?==some 44)=false:=by
     rw[beq_eq_false_iff_ne];exact fun e=>z (List.mem_of_getLast? e)
    rw[this];rfl
   rw[f,fE];simp only[List.isEmpty_nil,e,fE]
  ·by_cases hl:x.getLast?=some 44
   ·obtain⟨a,rfl⟩:∃ a,x=a++[44]:=by
     have l:x≠[]:=by intro e;rw[e] at hl;simp at hl
     refine⟨x.dropLast,?_⟩;rw[List.getLast?_eq_some_getLast l] at hl;have:=x9 l;rw[Option.some.inj hl] at this;exact this.symm
    have u:(32:UInt8) ∉ a:=fun e=>f (by simp[e])
    have e:(a++[44])++32::r=a++44::32::r:=by simp
    rw[e] at d ⊢;rw[vF a r u] at d ⊢;have i:(zMi 32 r).isEmpty=false:=by
     cases e:zMi 32 r with
     | nil=>exact absurd e (mB 32 r)
     | cons a b=>rfl
    have g:iO false (a++[44])=some a:=by
     unfold iO;simp
    have v:=ih r (by simp at k;omega) (fun p j=>d p (x1 _ j)) (c++[a]);rw[<- e,s,fE,i,g];simp only;rw[v];simp
   ·obtain⟨p,t,m,g⟩:=wN x r f hl;exact absurd g (d p (by rw[m];simp)).2.1
end R
namespace P
theorem jO (n:Nat) (h:n<10):bP (n:Int)=[UInt8.ofNat (48+n)]:=by unfold bP;rw[Int.toNat_natCast,Lib.decDigits_one h]
theorem xM (n:Nat) (h:n<10):bQ (n:Int)=[37,114,UInt8.ofNat (48+n)]:=by unfold bQ;rw[jO n h];rfl
theorem DJ (d:UInt8):(d=48/\gT d 4=(0,true))\/(d=49/\gT d 4=(1,true))\/(d=50/\gT d 4=(2,true))\/(d=51/\gT d 4=(3,true))\/(d≠48/\d≠49/\d≠50/\d≠51/\(gT d 4).2=false):=by
 by_cases h0:d=48
 ·subst h0;exact xW ⟨rfl,rfl⟩
 by_cases h1:d=49
 ·subst h1;exact xF (xW ⟨rfl,rfl⟩)
 by_cases h2:d=50
 ·subst h2;exact xF (xF (xW ⟨rfl,rfl⟩))
 by_cases h3:d=51
 ·subst h3;exact xF (xF (xF (xW ⟨rfl,rfl⟩)))
 refine xF (xF (xF (xF ⟨h0,h1,h2,h3,?_⟩)))
 cases e:(gT d 4).2
 ·rfl
 ·have c:d=48\/d=49\/d=50\/d=51:=by
   simp only[gT,xc,decide_eq_true_eq] at e;have b:d.toNat=48\/d.toNat=49\/d.toNat=50\/d.toNat=51:=by omega
   rcases b with b | b | b | b
   ·exact xW (UInt8.toNat_inj.1 b)
   ·exact xF (xW (UInt8.toNat_inj.1 b))
   ·exact xF (xF (xW (UInt8.toNat_inj.1 b)))
   ·exact xF (xF (xF (UInt8.toNat_inj.1 b)))
  rcases c with e | e | e | e
  ·exact absurd e h0
  ·exact absurd e h1
  ·exact absurd e h2
  ·exact absurd e h3
theorem rW (w:List UInt8):(∃ d,w=[37,114,d]/\zME w=gT d 4/\(gT d 4).2=true)\/((zME w).2=false/\∀ d,w=[37,114,d]->(gT d 4).2=false):=by
 have b:bQ 0=[37,114,48]:=xM 0 (by decide);have c:bQ 1=[37,114,49]:=xM 1 (by decide);have f:bQ 2=[37,114,50]:=xM 2 (by decide);have g:bQ 3=[37,114,51]:=xM 3 (by decide);by_cases h:∃ d,w=[37,114,d]
 ·obtain⟨d,rfl⟩:=h
  rcases DJ d with ⟨rfl,e⟩ | ⟨rfl,e⟩ | ⟨rfl,e⟩ | ⟨rfl,e⟩ | ⟨j,k,l,m,e⟩
  ·exact xW ⟨_,rfl,by rw[e];unfold zME;rw[b,c,f,g];simp,by rw[e]⟩
  ·exact xW ⟨_,rfl,by rw[e];unfold zME;rw[b,c,f,g];simp,by rw[e]⟩
  ·exact xW ⟨_,rfl,by rw[e];unfold zME;rw[b,c,f,g];simp,by rw[e]⟩
  ·exact xW ⟨_,rfl,by rw[e];unfold zME;rw[b,c,f,g];simp,by rw[e]⟩
  ·refine xF ⟨by unfold zME;rw[b,c,f,g];simp[j,k,l,m],fun n i=>?_⟩;simp at i;rw[<- i];exact e
 ·refine xF ⟨?_,fun d e=>absurd ⟨d,e⟩ h⟩;unfold zME;rw[b,c,f,g,if_neg (fun e=>h ⟨_,e⟩),if_neg (fun e=>h ⟨_,e⟩),if_neg (fun e=>h ⟨_,e⟩),if_neg (fun e=>h ⟨_,e⟩)]
theorem kFR (l:List UInt8) (h:∀ d,l≠[114,d]):(cD l).2=false:=by
 match l,h with
 | [],_=>rfl
 | [_],_=>rfl
 | [a,b],h =>
  simp only[cD];by_cases e:a=114
  ·exact absurd (by rw[e]) (h b)
  ·rw[if_neg e]
 | _::_::_::_,_=>rfl
theorem vI (w:List UInt8):(zME w).2=(cD (bA 100 w)).2/\((zME w).2=true->(zME w).1=(cD (bA 100 w)).1):=by
 rcases rW w with ⟨d,rfl,f,c⟩ | ⟨f,c⟩
 ·have:bA 100 [37,114,d]=[114,d]:=by simp[bA]
  rw[this,f];simp[cD]
 ·rw[f];refine⟨?_,fun h=>by cases h⟩
  match w,c with
  | [],_=>rfl
  | [_],_=>rfl
  | [_,_],_=>rfl
  | [a,b,d],c =>
   simp only[bA];rw[if_neg (by decide)];by_cases ha:a=37
   ·rw[if_pos ha];by_cases hb:b=114
    ·subst ha hb;have:=c d rfl;simp[cD,this]
    ·rw[kFR _ (fun g e=>hb (by simp at e;exact e.1))]
   ·rw[if_neg ha];rfl
  | _::_::_::_::_,_=>rfl
theorem AD (w:List UInt8):(zNe w).2=(eQ (bA 118 w)).2/\((zNe w).2=true->(zNe w).1=(eQ (bA 118 w)).1):=by
 have c:cX 0=[91,120,93]:=rfl;have f:cX 1=[91,121,93]:=rfl;have g:cX 2=[91,122,93]:=rfl;by_cases h:∃ d,w=[91,d,93]
 ·obtain⟨d,rfl⟩:=h;have e:bA 118 [91,d,93]=[d]:=by simp[bA]
  rw[e];unfold zNe eQ;rw[c,f,g];by_cases h0:d=120
  ·subst h0;simp
  by_cases h1:d=121
  ·subst h1;simp
  by_cases h2:d=122
  ·subst h2;simp
  simp[h0,h1,h2]
 ·have i:(zNe w).2=false:=by
   unfold zNe;rw[c,f,g,if_neg (fun e=>h ⟨_,e⟩),if_neg (fun e=>h ⟨_,e⟩),if_neg (fun e=>h ⟨_,e⟩)]
  rw[i];refine⟨?_,fun h=>by cases h⟩;have:bA 118 w=[63]:=by
   match w,h with
   | [],_=>rfl
   | [_],_=>rfl
   | [_,_],_=>rfl
   | [a,b,d],h =>
    simp only[bA,if_true];rw[if_neg];rintro ⟨rfl,rfl⟩;exact h ⟨b,rfl⟩
   | _::_::_::_::_,_=>rfl
  rw[this];rfl
theorem rC (w:List UInt8):(zMA w).2=(cA (bA 97 w)).2/\((zMA w).2=true->(zMA w).1=(cA (bA 97 w)).1):=by
 have g:bP 0=[48]:=jO 0 (by decide);have i:bP 1=[49]:=jO 1 (by decide);have j:bP 2=[50]:=jO 2 (by decide);have k:bP 3=[51]:=jO 3 (by decide)
 match w with
 | [a] =>
  have e:bA 97 [a]=[a]:=by simp[bA]
  rw[e];unfold zMA;rw[g,i,j,k]
  rcases DJ a with ⟨rfl,e⟩ | ⟨rfl,e⟩ | ⟨rfl,e⟩ | ⟨rfl,e⟩ | ⟨p,q,s,t,e⟩
  ·simp[cA,e]
  ·simp[cA,e]
  ·simp[cA,e]
  ·simp[cA,e]
  ·have c:(zME [a]).2=false:=by
    rcases rW [a] with ⟨d,h,_⟩ | ⟨h,_⟩
    ·simp at h
    ·exact h
   simp[p,q,s,t,cA,e,c]
 | [] =>
  have c:(zME []).2=false:=by
   rcases rW [] with ⟨d,h,_⟩ | ⟨h,_⟩
   ·simp at h
   ·exact h
  have e:bA 97 []=[63]:=rfl;rw[e];unfold zMA;rw[g,i,j,k];simp[c];decide
 | [a,b] =>
  have c:(zME [a,b]).2=false:=by
   rcases rW [a,b] with ⟨d,h,_⟩ | ⟨h,_⟩
   ·simp at h
   ·exact h
  have e:bA 97 [a,b]=[63]:=rfl;rw[e];unfold zMA;rw[g,i,j,k];simp[c];decide
 | [a,b,d] =>
  have l:=vI [a,b,d];have n:bA 97 [a,b,d]=bA 100 [a,b,d]:=by simp[bA]
  have o:zMA [a,b,d]=(⟨true,(zME [a,b,d]).1⟩,(zME [a,b,d]).2):=by
   unfold zMA;rw[g,i,j,k];simp
  rw[n,o];have m:bA 100 [a,b,d]=[b,d]\/bA 100 [a,b,d]=[63]:=by
   simp only[bA];rw[if_neg (by decide)]
   split
   ·exact xW rfl
   ·exact xF rfl
  rcases m with m | m
  ·rw[m] at l ⊢;exact⟨l.1,fun h=>by simp only at h;have:=l.2 h;simp[cA,this]⟩
  ·rw[m] at l ⊢;have z:(zME [a,b,d]).2=false:=l.1;exact⟨by simp only[z];decide,fun h=>by simp only[z] at h;cases h⟩
 | a::b::d::f::r =>
  have c:(zME (a::b::d::f::r)).2=false:=by
   rcases rW (a::b::d::f::r) with ⟨d,h,_⟩ | ⟨h,_⟩
   ·simp at h
   ·exact h
  have e:bA 97 (a::b::d::f::r)=[63]:=rfl;rw[e];unfold zMA;rw[g,i,j,k];simp[c];decide
def dO (k o s:Int):Stm:={ Stm.zero with kind:=k,order:=o,scope:=s }
def kZ (k o s:Int):List UInt8:=(kAk k).1++if mK k then lC o s else []
def eK:List (Int × Int × Int):=([0,1,2,3,4]:List Int).flatMap (fun k=>([0,1,2,3,4,5]:List Int).flatMap fun o=>(([0,1]:List Int).filter fun s=>zMU k o&&(o != 0||s==0)).map fun s=>(k,o,s))++([5,6,7,8,9]:List Int).map fun k=>(k,0,0)
theorem kHM (b:List (List UInt8)) (next:Int):∀ r∈eK,kAV (kZ r.1 r.2.1 r.2.2) b next 11 0=zMD (dO r.1 r.2.1 r.2.2) (kAk r.1).2 b:=by
 have e:eK=[(0,0,0),(0,1,0),(0,1,1),(0,2,0),(0,2,1),(1,0,0),(1,1,0),(1,1,1),(1,3,0),(1,3,1),(2,1,0),(2,1,1),(2,2,0),(2,2,1),(2,3,0),(2,3,1),(2,4,0),(2,4,1),(3,1,0),(3,1,1),(3,2,0),(3,2,1),(3,3,0),(3,3,1),(3,4,0),(3,4,1),(4,4,0),(4,4,1),(4,5,0),(4,5,1),(5,0,0),(6,0,0),(7,0,0),(8,0,0),(9,0,0)]:=by decide
 rw[e];simp only[xd];refine⟨rfl,rfl,rfl,rfl,rfl,rfl,rfl,rfl,rfl,rfl,rfl,rfl,rfl,rfl,rfl,rfl,rfl,rfl,rfl,rfl,rfl,rfl,rfl,rfl,rfl,rfl,rfl,rfl,rfl,rfl,rfl,rfl,rfl,rfl,rfl,?_⟩;simp
theorem kFo (b:Int) (w:List UInt8):∀ (f k:Nat) {o s:Int},gE b w f k=some (o,s)->∃ j,k<=j/\j<k+f/\zMU b ((j / 2:Nat):Int)=true/\w=lC ((j / 2:Nat):Int) ((j % 2:Nat):Int)
 | 0,k,o,s,h=>by simp[gE] at h
 | f+1,k,o,s,h=>by
  rw[gE] at h
  split at h
  ·rename_i c;rw[xc,beq_iff_eq] at c;exact⟨k,Nat.le_refl _,by omega,c.1,c.2⟩
  ·obtain⟨j,e,g,d⟩:=kFo b w f (k+1) h;exact⟨j,by omega,by omega,d⟩
theorem kIn (s:Stm) (c:UInt8) (w:List UInt8):(kAR s c w).1.kind=s.kind:=by
 unfold kAR
 split
 ·rfl
 split
 ·rfl
 split
 ·rfl
 split<;>rfl
theorem zX:∀ (cs:List UInt8) (b:List (List UInt8)) (s:Stm),(zOe s cs b).2=true->(zOe s cs b).1.kind=s.kind
 | [],_,_,_=>rfl
 | _::_,[],_,_=>rfl
 | c::cs,w::b,s,h=>by
  rw[zOe] at h ⊢
  split at h
  ·rename_i e;rw[if_pos e,zX cs b _ h,kIn]
  ·cases h
theorem kGP (s:Stm) (w:List UInt8):(zMB s w).1.kind=s.kind:=by
 unfold zMB
 split
 ·split<;>rfl
 ·rfl
theorem yO (first:List UInt8) (c:List (List UInt8)) (next:Int):∀ (f:Nat) (k:Int),(kAV first c next f k).2=true->∃ j,k<=j/\j<k+f/\(∃ b,first=(kAk j).1++b/\if mK j then ∃ n,n<12/\zMU j ((n / 2:Nat):Int)=true/\b=lC ((n / 2:Nat):Int) ((n % 2:Nat):Int) else b=[])/\(kAV first c next f k).1.kind=j
 | 0,k,h=>by simp[kAV] at h
 | f+1,k,h=>by
  have l:(if k==10 then { Stm.zero with kind:=k,label:=next } else { Stm.zero with kind:=k }:Stm).kind=k:=by split<;>rfl
  rw[kAV] at h ⊢;simp only at h ⊢;generalize (if k==10 then { Stm.zero with kind:=k,label:=next } else { Stm.zero with kind:=k }:Stm)=t at h l ⊢;have d:∀ g:(kAV first c next f (k+1)).2=true,∃ j,k<=j/\j<k+(f+1:Nat)/\(∃ b,first=(kAk j).1++b/\if mK j then ∃ n,n<12/\zMU j ((n / 2:Nat):Int)=true/\b=lC ((n / 2:Nat):Int) ((n % 2:Nat):Int) else b=[])/\(kAV first c next f (k+1)).1.kind=j:=fun g=>by
   obtain⟨j,u,q,m⟩:=yO first c next f (k+1) g
   exact⟨j,by omega,by push_cast;omega,m⟩
  by_cases c1:(kAk k).1.isPrefixOf first=true
  ·rw[if_pos c1] at h ⊢;by_cases c2:(zMB t (first.drop (kAk k).1.length)).2=true
   ·rw[if_pos c2] at h ⊢;obtain⟨b,i⟩:=List.isPrefixOf_iff_prefix.1 c1;refine⟨k,Int.le_refl _,by push_cast;omega,⟨b,i.symm,?_⟩,?_⟩
    ·rw[<- i,List.drop_left] at c2;unfold zMB at c2;rw[l] at c2;by_cases c3:mK k=true
     ·rw[if_pos c3];rw[if_pos c3] at c2
      cases e:gE k b 12 0 with
      | none=>rw[e] at c2;cases c2
      | some p =>
       obtain⟨o,s⟩:=p;obtain⟨n,_,q,m,r⟩:=kFo k b 12 0 e;exact⟨n,by omega,m,r⟩
     ·rw[if_neg c3];rw[if_neg c3] at c2;simpa using c2
    ·unfold zMD at h ⊢;by_cases c3:((kAk k).2.length != c.length)=true
     ·rw[if_pos c3] at h;cases h
     ·rw[if_neg c3] at h ⊢;rw[zX _ _ _ h,kGP,l]
   ·rw[if_neg c2] at h ⊢;exact d h
  ·rw[if_neg c1] at h ⊢;exact d h
theorem kJy {first:List UInt8} {b:List (List UInt8)} {next:Int} (h:(kAV first b next 11 0).2=true) (l:(kAV first b next 11 0).1.kind≠10):∃ r∈eK,first=kZ r.1 r.2.1 r.2.2:=by
 obtain⟨j,s,t,⟨q,g,e⟩,k⟩:=yO first b next 11 0 h
 rw[k] at l;have i:j=0\/j=1\/j=2\/j=3\/j=4\/j=5\/j=6\/j=7\/j=8\/j=9:=by omega
 have f:∀ j∈([0,1,2,3,4]:List Int),∀ n∈List.range 12,zMU j ((n / 2:Nat):Int)=true->∃ r∈eK,(kAk j).1++lC ((n / 2:Nat):Int) ((n % 2:Nat):Int)=kZ r.1 r.2.1 r.2.2:=by decide
 have d:∀ j∈([5,6,7,8,9]:List Int),∃ r∈eK,(kAk j).1++[]=kZ r.1 r.2.1 r.2.2:=by decide
 by_cases c:mK j=true
 ·rw[if_pos c] at e;obtain⟨n,m,o,p⟩:=e;rw[g,p];refine f j ?_ n (List.mem_range.2 m) o
  rcases i with rfl | rfl | rfl | rfl | rfl | rfl | rfl | rfl | rfl | rfl
  all_goals first | (exfalso;revert c;decide) | simp
 ·rw[if_neg c] at e;rw[g,e];refine d j ?_
  rcases i with rfl | rfl | rfl | rfl | rfl | rfl | rfl | rfl | rfl | rfl
  all_goals first | (exfalso;apply c;decide) | simp
end P
namespace R
def mP (x:List UInt8):List (List UInt8)->Nat
 | []=>0
 | y::r=>if y=x then 0 else mP x r+1
theorem kIM (x:List UInt8):∀ l:List ByteArray,bE x l=mP x (l.map xR)
 | []=>rfl
 | y::r=>by rw[bE,List.map_cons,mP,kIM x r]
def nN:List (List UInt8):=[[108,100],[115,116],[97,116,111,109],[102,101,110,99,101],[98,97,114],[109,111,118],[97,100,100],[115,117,98],[115,101,116,101,113]]
def oB:List (List UInt8):=[[100,118],[118,97],[100,118,97],[],[],[100,97],[100,97,97],[100,97,97],[100,97,97]]
theorem kLs:fC.map xR=nN:=by simp[fC,nN,aP]
theorem kLF:mS.map xR=oB:=by simp[mS,oB,aP]
def sV (m:Nat):List UInt8:=if m=0 then [97,99,113,114,101,108] else if m=1 then [98,108,111,99,107] else [100,101,118,105,99,101]
theorem kMu (m:Nat):(sN m).toList=sV m:=by
 unfold sN sV
 split
 ·exact aP _
 split
 ·exact aP _
 ·exact aP _
def pJ (x:List UInt8):Option (List UInt8):=if 0<=inn x sB then none else if 0<=inn x sA then some (sV (inn x sA).toNat) else some x
theorem kLi (x:List UInt8):vU x=pJ x:=by unfold vU pJ;rw[kMu]
def dW (out:List (List UInt8)):List (List UInt8)->List (List UInt8) × Bool
 | []=>(out,true)
 | x::r=>match pJ x with
  | none=>([],false)
  | some y=>dW (out++[y]) r
theorem vL:∀ (r out:List (List UInt8)),kF out r=dW out r
 | [],_=>rfl
 | x::r,out=>by
  rw[kF,dW,kLi]
  cases pJ x with
  | none=>rfl
  | some y=>exact vL r _
def kN (k:Nat) (a hs:List (List UInt8)):List (List UInt8) × Bool :=
 match k with
 | 0=>dW [a.getD 0 [],cV,kD,a.getD 1 []] hs
 | 1=>dW [lI,a.getD 0 [],a.getD 1 []] hs
 | 2=>match hs with
  | []=>([],false)
  | h::r=>if h=dE then dW [a.getD 0 [],cV,dE,a.getD 1 [],a.getD 2 []] r else if h=eZ then dW [a.getD 0 [],cV,jW,a.getD 1 [],a.getD 2 []] r else ([],false)
 | 3=>dW [nD] hs
 | 4=>([zC],hs==[qZ])
 | 5=>([a.getD 0 [],cV,a.getD 1 []],hs.isEmpty)
 | k+6=>([a.getD 0 [],cV,a.getD 1 [],AB k,a.getD 2 []],hs.isEmpty)
theorem kKf (k:Nat) (a b:List (List UInt8)):gV k a b=kN k a b:=by
 match k with
 | 0=>exact vL _ _
 | 1=>exact vL _ _
 | 2 =>
  cases b with
  | nil=>rfl
  | cons h r=>simp only[gV,kN,vL]
 | 3=>exact vL _ _
 | 4=>rfl
 | 5=>rfl
 | k+6=>rfl
def pB (h0:List UInt8) (hs xs:List (List UInt8)):List (List UInt8) × Bool :=
 if mP h0 nN=9 then ([],false) else if xs.length≠(oB.getD (mP h0 nN) []).length then ([],false) else kN (mP h0 nN) (dF (oB.getD (mP h0 nN) []) xs) hs
theorem wH (b:List UInt8) (c d:List (List UInt8)):lN b c d=pB b c d:=by
 unfold lN pB uH;rw[kIM,kLs,kLF,kKf]
def EL (o:Int):List UInt8:=if o==0 then [119,101,97,107] else if o==1 then [114,101,108,97,120,101,100] else if o==2 then [97,99,113,117,105,114,101] else if o==3 then [114,101,108,101,97,115,101] else if o==4 then [97,99,113,114,101,108] else [115,99]
def fA (o s:Int):List (List UInt8):=EL o::if o==0 then [] else [if s==0 then [98,108,111,99,107] else [100,101,118,105,99,101]]
def fD (k o s:Int) (a:List (List UInt8)):List (List UInt8) :=
 if k==0 then [a.getD 0 [],cV,kD,a.getD 1 []]++fA o s
 else if k==1 then [lI,a.getD 0 [],a.getD 1 []]++fA o s
 else if k==2 then [a.getD 0 [],cV,dE,a.getD 1 [],a.getD 2 []]++fA o s
 else if k==3 then [a.getD 0 [],cV,jW,a.getD 1 [],a.getD 2 []]++fA o s
 else if k==4 then [nD]++fA o s
 else if k==5 then [zC]
 else if k==6 then [a.getD 0 [],cV,a.getD 1 []]
 else [a.getD 0 [],cV,a.getD 1 [],if k==7 then [43] else if k==8 then [45] else [61,61],a.getD 2 []]
def kd (k:Int):List UInt8:=if k==0 then [100,118] else if k==1 then [118,97] else if k==2||k==3 then [100,118,97] else if k==4||k==5 then [] else if k==6 then [100,97] else [100,97,97]
def kLM (k o s:Int) (xs:List (List UInt8)):Prop:=∃ h0 hs,zMi 46 (kZ k o s)=h0::hs/\lN h0 hs xs=if xs.length≠(kd k).length then ([],false) else (fD k o s (dF (kd k) xs),true)
theorem dR {k o s:Int} {b:List (List UInt8)} (c:List UInt8) (d:List (List UInt8)) (e:zMi 46 (kZ k o s)=c::d) (f:pB c d b=if b.length≠(kd k).length then ([],false) else (fD k o s (dF (kd k) b),true)):kLM k o s b:=⟨c,d,e,by rw[wH];exact f⟩
theorem kJj:eK=[(0,0,0),(0,1,0),(0,1,1),(0,2,0),(0,2,1),(1,0,0),(1,1,0),(1,1,1),(1,3,0),(1,3,1),(2,1,0),(2,1,1),(2,2,0),(2,2,1),(2,3,0),(2,3,1),(2,4,0),(2,4,1),(3,1,0),(3,1,1),(3,2,0),(3,2,1),(3,3,0),(3,3,1),(3,4,0),(3,4,1),(4,4,0),(4,4,1),(4,5,0),(4,5,1),(5,0,0),(6,0,0),(7,0,0),(8,0,0),(9,0,0)]:=by decide
theorem zPJ (b:List (List UInt8)):∀ r∈eK,kLM r.1 r.2.1 r.2.2 b:=by
 rw[kJj];simp only[xd];refine⟨dR _ _ rfl rfl,dR _ _ rfl rfl,dR _ _ rfl rfl,dR _ _ rfl rfl,dR _ _ rfl rfl,dR _ _ rfl rfl,dR _ _ rfl rfl,dR _ _ rfl rfl,dR _ _ rfl rfl,dR _ _ rfl rfl,dR _ _ rfl rfl,dR _ _ rfl rfl,dR _ _ rfl rfl,dR _ _ rfl rfl,dR _ _ rfl rfl,dR _ _ rfl rfl,dR _ _ rfl rfl,dR _ _ rfl rfl,dR _ _ rfl rfl,dR _ _ rfl rfl,dR _ _ rfl rfl,dR _ _ rfl rfl,dR _ _ rfl rfl,dR _ _ rfl rfl,dR _ _ rfl rfl,dR _ _ rfl rfl,dR _ _ rfl rfl,dR _ _ rfl rfl,dR _ _ rfl rfl,dR _ _ rfl rfl,dR _ _ rfl rfl,dR _ _ rfl rfl,dR _ _ rfl rfl,dR _ _ rfl rfl,dR _ _ rfl rfl,?_⟩;simp
end R
end Go.Proofs.YtonodfjdiepglaaGreatDoor
