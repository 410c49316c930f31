import Derived.Deep.CutBlock
import Derived.Test.YtonodfjdiepglaaGreatDoorL15
set_option linter.unusedVariables false
set_option linter.unusedSimpArgs false
set_option maxHeartbeats 12800000
namespace Go.Proofs.YtonodfjdiepglaaGreatDoor
open Go Go.RowKit Go.Proofs.Tryz P Q R
set_option maxRecDepth 1000000
variable {w w':World} {B c g n:Nat} {na:Option Addr} {us:List ByteArray} {r:List (List UInt8) × Bool}
open _root_.ByteArray renaming toList→xF,empty→x4
open Go.Value renaming string→xR,oneCell'→x6
open Nat renaming le_refl→xW,zero_add→x7
open Go.RowKit.Below renaming refl→x3
open Go.World renaming news_of_block→x5
open List renaming map_append→x8
namespace R
def fC:List ByteArray:=[⟨#[108,100]⟩,⟨#[115,116]⟩,⟨#[97,116,111,109]⟩,⟨#[102,101,110,99,101]⟩,⟨#[98,97,114]⟩,⟨#[109,111,118]⟩,⟨#[97,100,100]⟩,⟨#[115,117,98]⟩,⟨#[115,101,116,101,113]⟩]
def mS:List ByteArray:=[⟨#[100,118]⟩,⟨#[118,97]⟩,⟨#[100,118,97]⟩,⟨#[]⟩,⟨#[]⟩,⟨#[100,97]⟩,⟨#[100,97,97]⟩,⟨#[100,97,97]⟩,⟨#[100,97,97]⟩]
def bE (x:List UInt8):List ByteArray->Nat
 | []=>0
 | y::r=>if y.toList=x then 0 else bE x r+1
theorem kHZ (x:List UInt8):∀ l,bE x l<=l.length
 | []=>xW _
 | y::r=>by
  have:=kHZ x r;rw[bE];split
  ·omega
  ·simp;omega
theorem kHK (x:List UInt8):∀ (l:List ByteArray) (j:Nat) (a:j<l.length),j<bE x l->l[j].toList≠x
 | y::r,0,_,h=>by
  rw[bE] at h;split at h
  ·omega
  ·assumption
 | y::r,j+1,a,h=>by
  rw[bE] at h;split at h
  ·omega
  ·simpa using kHK x r j (by simpa using a) (by omega)
theorem kHP (x:List UInt8):∀ (l:List ByteArray) (h:bE x l<l.length),(l[bE x l]).toList=x
 | y::r,h=>by
  have a:=h;rw[bE] at a
  split at a
  ·rename_i e;have:bE x (y::r)=0:=by rw[bE,if_pos e]
   simp only[this];exact e
  ·rename_i e;have b:bE x (y::r)=bE x r+1:=by rw[bE,if_neg e]
   simp only[b];exact kHP x r (by simpa using a)
def dF (ks:List UInt8) (xs:List (List UInt8)):List (List UInt8):=List.zipWith bA ks xs
theorem kIy (y:ByteArray) (a:List ByteArray) (j:Nat) (b:j<y.size) (d:j<a.length):(dF y.toList (a.map xF)).take (j+1)=(dF y.toList (a.map xF)).take j++[bA y[j] a[j].toList]:=by
 unfold dF;rw[List.take_succ_eq_append_getElem (by simp[bS];omega)];simp[xQ y j b]
def sA:List UInt8:=[97,99,113,95,114,101,108,32,99,116,97,32,103,112,117]
def sB:List UInt8:=[97,99,113,114,101,108,32,98,108,111,99,107,32,100,101,118,105,99,101]
def sN (m:Nat):ByteArray:=if m=0 then ⟨#[97,99,113,114,101,108]⟩ else if m=1 then ⟨#[98,108,111,99,107]⟩ else ⟨#[100,101,118,105,99,101]⟩
def vU (x:List UInt8):Option (List UInt8):=if 0<=inn x sB then none else if 0<=inn x sA then some (sN (inn x sA).toNat).toList else some x
def kF (out:List (List UInt8)):List (List UInt8)->List (List UInt8) × Bool
 | []=>(out,true)
 | x::r=>match vU x with
  | none=>([],false)
  | some y=>kF (out++[y]) r
def cV:List UInt8:=[61]
def kD:List UInt8:=[108,111,97,100]
def lI:List UInt8:=[115,116,111,114,101]
def dE:List UInt8:=[97,100,100]
def eZ:List UInt8:=[101,120,99,104]
def jW:List UInt8:=[115,119,97,112]
def nD:List UInt8:=[102,101,110,99,101]
def zC:List UInt8:=[98,97,114,114,105,101,114]
def qZ:List UInt8:=[115,121,110,99]
def AB:Nat->List UInt8
 | 0=>[43]
 | 1=>[45]
 | _=>[61,61]
def gV (k:Nat) (a hs:List (List UInt8)):List (List UInt8) × Bool :=
 match k with
 | 0=>kF [a.getD 0 [],cV,kD,a.getD 1 []] hs
 | 1=>kF [lI,a.getD 0 [],a.getD 1 []] hs
 | 2=>match hs with
  | []=>([],false)
  | h::r=>if h=dE then kF [a.getD 0 [],cV,dE,a.getD 1 [],a.getD 2 []] r else if h=eZ then kF [a.getD 0 [],cV,jW,a.getD 1 [],a.getD 2 []] r else ([],false)
 | 3=>kF [nD] hs
 | 4=>([zC],hs==[qZ])
 | 5=>([a.getD 0 [],cV,a.getD 1 []],hs.isEmpty)
 | k+6=>([a.getD 0 [],cV,a.getD 1 [],AB k,a.getD 2 []],hs.isEmpty)
def uH (k:Nat):List UInt8:=(mS.map xF).getD k []
def lN (h0:List UInt8) (hs xs:List (List UInt8)):List (List UInt8) × Bool :=
 if bE h0 fC=9 then ([],false) else if xs.length≠(uH (bE h0 fC)).length then ([],false) else gV (bE h0 fC) (dF (uH (bE h0 fC)) xs) hs
end R
theorem zEo {t:TypeId} {a:List ByteArray} (h:w.heap[g]?=some (.cells (a.map xR).toArray t (0,0))):zAp w g 0 a:=fun i s b=>by
 simp[World.cell?,h,b]
theorem zHQ (b:w.heap.size=g) (a:List ByteArray) (t:TypeId):zAp (w.alloc (.cells (a.map xR).toArray t)) g 0 a:=by rw[<- b];exact zEo (heap_alloc_new w _)
theorem wJ (w:World) (a:List ByteArray) (t:TypeId):zAp (w.alloc (.cells (a.map xR).toArray t)) w.heap.size 0 a:=zEo (heap_alloc_new w _)
theorem zEI (w:World) (o:Obj) {p:Addr} (h:p.block<w.heap.size):(w.alloc o).cell? p=w.cell? p:=by
 unfold World.cell?;rw[Below.heap_alloc _ _ _ h]
theorem CU (h:w.ownsRow B 9 1 (.slice na n c) n (us.map xR)) (d:us.length=2):∃ g u0 u1,na=some ⟨g,0,none⟩/\us=[u0,u1]/\w.cell? ⟨g,0,none⟩=some (.string u0)/\w.cell? ⟨g,1,none⟩=some (.string u1)/\g<w.heap.size:=by
 match us,d with
 | [u0,u1],_ =>
  obtain⟨g,b,e,_,a⟩:=h.form (by have:=h.1;simp at this;omega);injection e with e1 e2 e3
  subst e1;exact⟨g,u0,u1,rfl,rfl,h.cellAt 0 (by have:=h.1;simp at this;omega),h.cellAt 1 (by have:=h.1;simp at this;omega),a⟩
theorem zFK (h:w.ownsRow B 9 1 (.slice na n c) n (us.map xR)) (d:us.length=3):∃ g u0 u1 u2,na=some ⟨g,0,none⟩/\us=[u0,u1,u2]/\w.cell? ⟨g,0,none⟩=some (.string u0)/\w.cell? ⟨g,1,none⟩=some (.string u1)/\w.cell? ⟨g,2,none⟩=some (.string u2)/\g<w.heap.size:=by
 match us,d with
 | [u0,u1,u2],_ =>
  have f:n=3:=by have:=h.1;simp at this;omega
  subst f;obtain⟨g,b,e,_,a⟩:=h.form (by omega);injection e with e1 e2 e3
  subst e1;exact⟨g,u0,u1,u2,rfl,rfl,h.cellAt 0 (by omega),h.cellAt 1 (by omega),h.cellAt 2 (by omega),a⟩
def qP (w w':World) (e:Ending) (r:List (List UInt8) × Bool):Prop:=∃ v,e=.returned (.tuple #[v,.bool r.2])/\(∃ a n c,v=.slice a n c)/\(r.2=true->∃ (g c:Nat) (ws:List ByteArray),v=.slice (some ⟨g,0,none⟩) ws.length c/\ws.length<=c/\ws.length<9500/\ws.map xF=r.1/\zAp w' g 0 ws/\g<w'.heap.size)/\Below w.heap.size w w'
theorem nB (h:r.2=false) (b:Below w.heap.size w w') (v:Value) (d:∃ a n c,v=.slice a n c):qP w w' (.returned (.tuple #[v,.bool false])) r :=
 ⟨v,by rw[h],d,fun e=>(by rw[h] at e;cases e),b⟩
theorem yH (a:List ByteArray) (b:Bool) (f:r.2=b) (d:a.map xF=r.1) (l:a.length<9500) (j:a.length<=c) (m:zAp w' g 0 a) (k:g<w'.heap.size) (i:Below w.heap.size w w'):qP w w' (.returned (.tuple #[.slice (some ⟨g,0,none⟩) a.length c,.bool b])) r :=
 ⟨_,by rw[f],⟨_,_,_,rfl⟩,fun e=>⟨g,c,a,rfl,j,l,d,m,k⟩,i⟩
theorem zHR (gh ch:Nat) (va:Value) (J:ByteArray) (G d:List ByteArray) (w:World) (hw:zAp w gh 0 (J::G)) (ha:oC w va d) (hc:G.length+1<=ch) (hz:G.length<9000) (bW:d.length<9000) :
  Calls prog 27 #[.slice (some ⟨gh,0,none⟩) (G.length+1) ch,va] w fun e w'=>qP w w' e (lN J.toList (G.map xF) (d.map xF)):=by
 obtain⟨aa,ac,rfl,bV,bu⟩:=ha;obtain⟨i0,H,ai,aj,ak⟩:=info_parts Tryz.infoStr;have aT:Hid (bE J.toList fC=9->lN J.toList (G.map xF) (d.map xF)=([],false)):=fun e=>by unfold lN;rw[if_pos e]
 have aI:Hid (bE J.toList fC≠9->∀ y:ByteArray,mS[bE J.toList fC]?=some y->(d.length≠y.size->lN J.toList (G.map xF) (d.map xF)=([],false))/\(d.length=y.size->lN J.toList (G.map xF) (d.map xF)=gV (bE J.toList fC) (dF y.toList (d.map xF)) (G.map xF))):=fun e y hy=>by
  have hk:uH (bE J.toList fC)=y.toList:=by unfold uH;simp[List.getD,hy]
  unfold lN;rw[if_neg e,hk,bS,List.length_map];exact⟨fun h=>by rw[if_pos h],fun h=>by rw[if_neg (fun c=>c h)]⟩
 generalize lN J.toList (G.map xF) (d.map xF)=V at *;go_enter func27,ntmps27;go_wp2_with fail;go_name_world W0 hE;have hN:zAp W0 w.heap.size 0 fC:=by
  have h:=wJ w fC 9;rw[<- hE];exact fun i s e=>(zEI _ _ (by simp)).trans (h i s e)
 have hK:zAp W0 (w.heap.size+1) 0 mS:=by
  have h:=wJ (w.alloc (.cells (fC.map xR).toArray 9)) mS 9;rw[show (w.alloc (.cells (fC.map xR).toArray 9)).heap.size=w.heap.size+1 by simp] at h;rw[<- hE];exact h
 have aJ:Below w.heap.size w W0:=by rw[<- hE];exact ((x3 _ _).alloc (xW _) _).alloc (by simp) _
 have aD:W0.heap.size=w.heap.size+2:=by rw[<- hE];simp
 have hW:=hw.below aJ;have bs:=zAa hW;clear hE;obtain⟨bw,ah,bj⟩:=hW.head;have HN:=zAa hN;have HK:=zAa hK;have bT:=zAa bj;have f:=zAa aJ;clear hN hK bj aJ hW hw;have bh:=kHZ J.toList fC;have cf:bE J.toList fC<=9:=bh;have aR:=zAa (kHK J.toList fC);have aQ:=zAa (kHP J.toList fC);clear bh;generalize bE J.toList fC=k0 at *;have bQ:w.heap.size+2<=W0.heap.size:=by omega
 have bR:=zAa aD;have aM:w.heap.size<W0.heap.size:=by omega
 have bf:w.heap.size+1<W0.heap.size:=by omega
 clear aD;go_loopw [8] (fun i wr=>∃ k:Nat,k<=k0/\i=.int .i64 k/\Below W0.heap.size W0 wr) (fun i _=>k0-(intOf i).toNat)
 case atStart=>exact⟨0,by omega,rfl,x3 _ _⟩
 case round =>
  obtain⟨k,hk,rfl,o⟩:=hrel;have hh:=aC o ah bw;have bJ:=o.size;by_cases hlt:k<k0
  ·have ad:k<fC.length:=by show k<9;omega
   have e1:=HN.out.get k ad;rw[x7] at e1;have bb:=aC o aM e1;clear e1;have bg:(fC[k].toList==J.toList)=false:=by rw[beq_eq_false_iff_ne];exact aR.out k ad hlt
   have bD:(k:Int)<9:=by omega
   generalize fC[k]=x at *;go_wp2;go_quiet (fail);go_wp2;go_roundw
   case rel=>exact⟨k+1,by omega,by go_num,o.trans (dZ _ _ _)⟩
   case measure=>simp[intOf];omega
  ·have bG:k=k0:=by omega
   subst bG;have bB:k=9\/(k<9/\∃ x y:ByteArray,wr.cell? ⟨w.heap.size,k,none⟩=some (.string x)/\(x.toList==J.toList)=true/\wr.cell? ⟨w.heap.size+1,k,none⟩=some (.string y)/\W0.cell? ⟨w.heap.size+1,k,none⟩=some (.string y)/\mS[k]?=some y/\y.size<=3):=by
    by_cases c:k=9
    ·exact Or.inl c
    ·have ad:k<fC.length:=by show k<9;omega
     have ab:k<mS.length:=by show k<9;omega
     have e1:=HN.out.get k ad;have e2:=HK.out.get k ab;rw[x7] at e1 e2;have:∀ y∈mS,y.size<=3:=by decide
     exact Or.inr ⟨by omega,fC[k],mS[k],(o.cell (p:=⟨w.heap.size,k,none⟩) aM).trans e1,beq_iff_eq.2 (aQ.out ad),(o.cell (p:=⟨w.heap.size+1,k,none⟩) bf).trans e2,e2,List.getElem?_eq_getElem ab,this _ (List.getElem_mem ab)⟩
   rcases bB with rfl | ⟨ad,x,y,bb,bg,bx,aB,N,bL⟩
   ·have hd:decide ((9:Int)<9)=false:=rfl;go_wp2;go_quiet (fail);go_wp2;exact bodyPost_ret (results_tmp2 (t:=4) (u:=5) rfl _ _ _) rfl (nB (by rw[aT.out (by simp)]) (f.out.trans ((o.trans (dZ _ _ _)).mono f.out.size)) _ ⟨_,_,_,rfl⟩)
   ·have bD:(k:Int)<9:=by omega
    have bN:((k:Int)==9)=false:=by rw[beq_eq_false_iff_ne];omega
    cases hlen:((d.length:Int) != (y.size:Int))
    rotate_left
    ·go_wp2;go_quiet (fail);go_wp2;exact bodyPost_ret (results_tmp2 (t:=4) (u:=5) rfl _ _ _) rfl (nB (by rw[((aI.out (by omega)) y N).1 (fun e=>by rw[e] at hlen;simp at hlen)]) (f.out.trans ((o.trans (dZ _ _ _)).mono f.out.size)) _ ⟨_,_,_,rfl⟩)
    have q:Hid (d.length=y.size):=by
     have:(d.length:Int)=(y.size:Int):=by simpa using hlen
     unfold Hid;omega
    go_wp2;go_quiet (fail);go_wp2;have bv:Below W0.heap.size W0 (wr.drewN nq):=o.trans (dZ _ _ _);clear hh bb bx hlen o bJ;go_loopw [9,10] (fun av i wq=>∃ (j:Nat) (na:Option Addr) (nc:Nat) (us:List ByteArray),j<=d.length/\us.length=j/\av=.slice na j nc/\i=.int .i64 j/\Hid (us.map xF=(dF y.toList (d.map xF)).take j)/\Hid (wq.ownsRow W0.heap.size 9 1 av j (us.map xR))/\Below W0.heap.size W0 wq) (fun _ i _=>d.length-(intOf i).toNat)
    case atStart=>exact⟨0,none,0,[],Nat.zero_le _,rfl,rfl,rfl,rfl,World.ownsRow_nil _ _ _ _,bv⟩
    case round =>
     obtain⟨j,na,nc,us,hj,X,rfl,rfl,HU,HO,v⟩:=hrel;have D:=v.size;by_cases hlt:j<d.length
     ·have bc:(j:Int)<(d.length:Int):=by omega
      obtain⟨ga,rfl,bI,bX⟩:=bu (by intro e;rw[e] at hlt;simp at hlt);have bn:=(bI.below (f.out.trans (v.mono f.out.size))).get j hlt;rw[x7] at bn;have ci:=aC v bf aB;have be:j<y.size:=by rw[<- q.out];exact hlt
      have ca:(j:Int)<(y.size:Int):=by omega
      have aO:Hid ((us++[iU (bA y[j] d[j].toList)]).map xF=(dF y.toList (d.map xF)).take (j+1)):=by
       unfold Hid;rw[x8,HU.out,kIy y d j be hlt];simp[iU,aP]
      go_wp2;go_quiet (first | (go_at_call 10;exact Calls.quiet_of_same (zFy _ _ _)));have aZ:=dZ wr.heap.size wr nq;have aS:=zAa (aX HO.out (fun i H=>aZ.block i (HO.out.lt i H).2));have aY:Below W0.heap.size W0 (wr.drewN nq):=v.trans (dZ _ _ _);generalize wr.drewN nq=Wq at *;generalize iU (bA y[j] d[j].toList)=u at *;have bi:=aY.size;clear aZ bn;go_wp2_with (first
       | (at_builtin;refine wpList_append_lies _ rfl (.tmp 67) (.tmp 69) 37 rfl W0.heap.size 9 i0 (.string x4) 1 16 underlying37 H ai aj ak rfl (by decide) _ _ _ rfl (aS.out.alloc _) ⟨Wq.heap.size,0,none⟩ 1 1 [.string u] rfl rfl ?c1 ?c2 (by decide) ?c3 ?c4 ?c5 _ rfl ?_))
      case c1=>exact x5 (cs:=#[.string u]) (t:=9) (fr:=(0,0)) (heap_alloc_new Wq _)
      case c2=>simp[x6]
      case c3=>unfold maxLen;omega
      case c4=>omega
      case c5=>simp;omega
      intro g1 F w4 A m am Y;go_wp2_with fail;go_roundw
      case rel=>exact⟨j+1,_,_,us++[u],by omega,by simp[X],rfl,by go_num,aO,by unfold Hid;simpa using A,(aY.alloc bi _).grown m (by simp;omega) (fun i H=>(aS.out.lt i H).1)⟩
      case measure=>simp[intOf];omega
     ·have bF:j=d.length:=by omega
      have bc:¬ (j:Int)<(d.length:Int):=by omega
      have aW:Hid (us.map xF=dF y.toList (d.map xF)):=by
       unfold Hid;rw[HU.out,List.take_of_length_le];unfold dF;simp[bS];omega
      have l:Hid (V=gV k (us.map xF) (G.map xF)):=by
       unfold Hid;rw[aW.out];exact ((aI.out (by omega)) y N).2 q.out
      clear aI aT aW;have ab:k=0\/k=1\/k=2\/k=3\/k=4\/k=5\/k=6\/k=7\/k=8:=by omega
      clear HU aR aQ HN HK bg aB hlt;subst bF;obtain⟨o1,c1,C,K,bl⟩:=zHc gh 0 G.length ch hc;have z:=zAa (bl wr J G rfl (bs.out.below v));clear bl;go_upto_block 4 with fail
      go_cut [0,12,13,14] from 73 to 171 (fun hv ov _ _ wx=>∃ (o2 c2 go co:Nat) (I out:List ByteArray),hv=.slice (some ⟨gh,o2,none⟩) I.length c2/\ov=.slice (some ⟨go,0,none⟩) out.length co/\Hid (zAp wx gh o2 I)/\Hid (wx.ownsRow W0.heap.size 9 1 ov out.length (out.map xR))/\Hid (gV k (us.map xF) (G.map xF)=kF (out.map xF) (I.map xF))/\I.length<9000/\out.length<=5/\I.length<=c2/\Below W0.heap.size W0 wx)
      case first =>
       rcases ab with rfl | rfl | rfl | rfl | rfl | rfl | rfl | rfl | rfl
       ·have hy:y=⟨#[100,118]⟩:=(Option.some.inj N).symm;subst hy;obtain⟨g,S,T,rfl,rfl,aq,ar,au⟩:=CU HO.out (by rw[X,q.out];rfl);have x0:0<d.length:=by rw[q.out];decide
        have x1:1<d.length:=by rw[q.out];decide
        have ax:(0:Int)<(d.length:Int):=by omega
        have ay:(1:Int)<(d.length:Int):=by omega
        go_wp2;go_region;go_wp2;go_meet
        case rel=>exact⟨o1,c1,wr.heap.size,4,G,[S,⟨#[61]⟩,⟨#[108,111,97,100]⟩,T],rfl,rfl,z.out.below (((x3 _ _).drew).alloc (xW _) _),vH wr.drew D [S,⟨#[61]⟩,⟨#[108,111,97,100]⟩,T] (by simp),by simp[Hid,gV,aP,cV,kD],hz,by simp,C,v.drew.alloc D _⟩
       ·have hy:y=⟨#[118,97]⟩:=(Option.some.inj N).symm;subst hy;obtain⟨g,S,T,rfl,rfl,aq,ar,au⟩:=CU HO.out (by rw[X,q.out];rfl);have x0:0<d.length:=by rw[q.out];decide
        have x1:1<d.length:=by rw[q.out];decide
        have ax:(0:Int)<(d.length:Int):=by omega
        have ay:(1:Int)<(d.length:Int):=by omega
        go_wp2;go_region;go_wp2;go_meet
        case rel=>exact⟨o1,c1,wr.heap.size,3,G,[⟨#[115,116,111,114,101]⟩,S,T],rfl,rfl,z.out.below (((x3 _ _).drew).alloc (xW _) _),vH wr.drew D [⟨#[115,116,111,114,101]⟩,S,T] (by simp),by simp[Hid,gV,aP,lI],hz,by simp,C,v.drew.alloc D _⟩
       ·have hy:y=⟨#[100,118,97]⟩:=(Option.some.inj N).symm;subst hy;obtain⟨g,S,T,u2,rfl,rfl,aq,ar,aO,au⟩:=zFK HO.out (by rw[X,q.out];rfl);have x2:2<d.length:=by rw[q.out];decide
        have x0:0<d.length:=by omega
        have x1:1<d.length:=by omega
        have ax:(0:Int)<(d.length:Int):=by omega
        have ay:(1:Int)<(d.length:Int):=by omega
        have bM:(2:Int)<(d.length:Int):=by omega
        match G,l,z,hz,hc,C,K with
        | [],l,z,hz,hc,C,K =>
         go_wp2;exact bodyPost_ret (results_tmp2 (t:=4) (u:=5) rfl _ _ _) rfl (nB (r:=V) (by rw[l.out];rfl) (f.out.trans (v.mono f.out.size)) (.slice none 0 0) ⟨none,0,0,rfl⟩)
        | x::r,l,z,hz,hc,C,K =>
         obtain⟨aw,bK,_⟩:=z.out.head;obtain⟨o3,c3,ba,bP,aE⟩:=zHc gh o1 r.length c1 C;have aA:=zAa (aE wr x r rfl z.out);have aN:r.length<9000:=by simp at hz;omega
         have cb:(((r.length:Int)+1)==0)=false:=by rw[beq_eq_false_iff_ne];omega
         have cc:(((r.length+1:Nat):Int)==0)=false:=by rw[beq_eq_false_iff_ne];omega
         simp only[List.length_cons] at K hz hc C;clear aE
         cases hA:(x.toList==[97,100,100])<;>cases hX:(x.toList==[101,120,99,104])
         ·go_wp2;exact bodyPost_ret (results_tmp2 (t:=4) (u:=5) rfl _ _ _) rfl (nB (r:=V) (by rw[l.out];have a:=beq_eq_false_iff_ne.1 hA;have b:=beq_eq_false_iff_ne.1 hX;simp[gV,dE,eZ,a,b]) (f.out.trans (v.mono f.out.size)) (.slice none 0 0) ⟨none,0,0,rfl⟩)
         ·go_wp2;go_region;go_wp2;go_meet
          case rel=>exact⟨o3,c3,wr.heap.size,5,r,[S,⟨#[61]⟩,⟨#[115,119,97,112]⟩,T,u2],rfl,rfl,aA.out.below (((x3 _ _).drew).alloc (xW _) _),vH wr.drew D [S,⟨#[61]⟩,⟨#[115,119,97,112]⟩,T,u2] (by simp),by unfold Hid;have a:=beq_eq_false_iff_ne.1 hA;have b:=beq_iff_eq.1 hX;simp[gV,aP,cV,dE,eZ,jW,a,b],aN,by simp,ba,v.drew.alloc D _⟩
         ·go_wp2;go_region;go_wp2;go_meet
          case rel=>exact⟨o3,c3,wr.heap.size,5,r,[S,⟨#[61]⟩,⟨#[97,100,100]⟩,T,u2],rfl,rfl,aA.out.below (((x3 _ _).drew).alloc (xW _) _),vH wr.drew D [S,⟨#[61]⟩,⟨#[97,100,100]⟩,T,u2] (by simp),by unfold Hid;have a:=beq_iff_eq.1 hA;have b:=beq_eq_false_iff_ne.1 hX;simp[gV,aP,cV,dE,eZ,jW,a,b],aN,by simp,ba,v.drew.alloc D _⟩
         ·exact absurd ((beq_iff_eq.1 hA).symm.trans (beq_iff_eq.1 hX)) (by decide)
       ·go_wp2;go_meet
        case rel=>exact⟨o1,c1,wr.heap.size,1,G,[⟨#[102,101,110,99,101]⟩],rfl,rfl,z.out.below ((x3 _ _).alloc (xW _) _),vH wr D [⟨#[102,101,110,99,101]⟩] (by simp),by simp[Hid,gV,aP,nD],hz,by simp,C,v.alloc D _⟩
       ·have O:∀ b:Bool,V.2=b->qP w (wr.alloc (.cells ([⟨#[98,97,114,114,105,101,114]⟩].map xR).toArray 9)).drew (.returned (.tuple #[.slice (some ⟨wr.heap.size,0,none⟩) 1 1,.bool b])) V:=fun b e=>by
         refine yH [⟨#[98,97,114,114,105,101,114]⟩] _ e ?_ (by simp) (xW _) (wJ wr _ _) (by show _<(wr.alloc _).heap.size;simp) (f.out.trans ((v.alloc D _).drew.mono f.out.size));rw[l.out];simp[gV,aP,zC]
        have E:=zAa O;clear O
        match G,l,z,hz,hc,C,K with
        | [],l,z,hz,hc,C,K =>
         go_wp2;go_region;go_wp2;exact bodyPost_ret (results_tmp2 (t:=4) (u:=5) rfl _ _ _) rfl (E.out false (by rw[l.out];rfl))
        | [x],l,z,hz,hc,C,K =>
         obtain⟨aw,bK,_⟩:=z.out.head
         cases hx:(x.toList==[115,121,110,99])
         ·go_wp2;go_region;go_wp2;exact bodyPost_ret (results_tmp2 (t:=4) (u:=5) rfl _ _ _) rfl (E.out false (by rw[l.out];simpa [gV,qZ] using hx))
         ·go_wp2;go_region;go_wp2;exact bodyPost_ret (results_tmp2 (t:=4) (u:=5) rfl _ _ _) rfl (E.out true (by rw[l.out];simpa [gV,qZ] using hx))
        | x::x2::r,l,z,hz,hc,C,K =>
         have aM:(((x::x2::r).length:Int)==1)=false:=by rw[beq_eq_false_iff_ne];simp;omega
         generalize hL:(x::x2::r).length=L at *;go_wp2;go_region;go_wp2;exact bodyPost_ret (results_tmp2 (t:=4) (u:=5) rfl _ _ _) rfl (E.out false (by rw[l.out];simp[gV,qZ]))
       ·have hy:y=⟨#[100,97]⟩:=(Option.some.inj N).symm;subst hy;obtain⟨g,S,T,rfl,rfl,aq,ar,au⟩:=CU HO.out (by rw[X,q.out];rfl);have x0:0<d.length:=by rw[q.out];decide
        have x1:1<d.length:=by rw[q.out];decide
        have ax:(0:Int)<(d.length:Int):=by omega
        have ay:(1:Int)<(d.length:Int):=by omega
        have O:∀ b:Bool,V.2=b->qP w (wr.alloc (.cells ([S,⟨#[61]⟩,T].map xR).toArray 9)).drew (.returned (.tuple #[.slice (some ⟨wr.heap.size,0,none⟩) 3 3,.bool b])) V:=fun b e=>by
         refine yH [S,⟨#[61]⟩,T] _ e ?_ (by simp) (xW _) (wJ wr _ _) (by show _<(wr.alloc _).heap.size;simp) (f.out.trans ((v.alloc D _).drew.mono f.out.size));rw[l.out];simp[gV,aP,cV]
        have E:=zAa O;clear O;go_wp2;go_region;go_wp2;exact bodyPost_ret (results_tmp2 (t:=4) (u:=5) rfl _ _ _) rfl (E.out ((G.length:Int)==0) (by rw[l.out];cases G<;>simp[gV];omega))
       all_goals
        have hy:y=⟨#[100,97,97]⟩:=(Option.some.inj N).symm;subst hy;obtain⟨g,S,T,u2,rfl,rfl,aq,ar,aO,au⟩:=zFK HO.out (by rw[X,q.out];rfl);have x2:2<d.length:=by rw[q.out];decide
        have x0:0<d.length:=by omega
        have x1:1<d.length:=by omega
        have ax:(0:Int)<(d.length:Int):=by omega
        have ay:(1:Int)<(d.length:Int):=by omega
        have bM:(2:Int)<(d.length:Int):=by omega
        have O:∀ (W:World) (sg:ByteArray),W.heap.size=wr.heap.size+1->Below W0.heap.size W0 W->V=([S.toList,cV,T.toList,sg.toList,u2.toList],(G.map xF).isEmpty)->qP w (W.alloc (.cells ([S,⟨#[61]⟩,T,sg,u2].map xR).toArray 9)).drew (.returned (.tuple #[.slice (some ⟨wr.heap.size+1,0,none⟩) 5 5,.bool ((G.length:Int)==0)])) V:=fun W sg e1 e2 e3=>by
         refine yH [S,⟨#[61]⟩,T,sg,u2] _ ?_ ?_ (by simp) (xW _) (zHQ e1 _ _) (by show _<(W.alloc _).heap.size;simp;omega) (f.out.trans ((e2.alloc e2.size _).drew.mono f.out.size))
         ·rw[e3];cases G<;>simp;omega
         ·rw[e3];simp[aP,cV]
        have E:=zAa O;clear O;go_wp2;go_region;go_wp2;exact bodyPost_ret (results_tmp2 (t:=4) (u:=5) rfl _ _ _) rfl (E.out _ _ (by simp) (v.alloc D _) (by rw[l.out];simp[gV,AB,aP]))
      case rest =>
       obtain⟨o2,c2,go,co,I,out,rfl,rfl,az,bp,aV,aN,cd,cg,aK⟩:=hcut;have bq:Hid (V=kF (out.map xF) (I.map xF)):=by unfold Hid;rw[l.out,aV.out]
       clear l aV z K C HO X ab N bL;have br:Hid (zAp W0 gh o2 I):=fun i s H=>(aK.cell (p:=⟨gh,o2+i,none⟩) ah).symm.trans (az.out i s H)
       have bO:=aK.size;clear az;go_wp2_with fail;go_loopw [12,15] (fun ov i wq=>∃ (j gq cq:Nat) (U:List ByteArray),j<=I.length/\ov=.slice (some ⟨gq,0,none⟩) U.length cq/\i=.int .i64 j/\Hid (V=kF (U.map xF) ((I.map xF).drop j))/\Hid (wq.ownsRow W0.heap.size 9 1 ov U.length (U.map xR))/\U.length<=5+j/\Below W0.heap.size W0 wq) (fun _ i _=>I.length-(intOf i).toNat)
       case atStart=>exact⟨0,go,co,out,Nat.zero_le _,rfl,rfl,bq,bp,by omega,aK⟩
       case round =>
        obtain⟨j,gq,cq,U,hj,rfl,rfl,aH,aF,ce,ae⟩:=hrel;have bH:=ae.size;by_cases hlt:j<I.length
        ·have bd:(j:Int)<(I.length:Int):=by omega
         have aw:=(ae.cell (p:=⟨gh,o2+j,none⟩) ah).trans (br.out.get j hlt);have HD:Hid ((I.map xF).drop j=(I[j]).toList::(I.map xF).drop (j+1)):=by
          unfold Hid;rw[List.drop_eq_getElem_cons (by simpa using hlt)];simp
         generalize I[j]=x at *;have bY:gh<wr.heap.size:=by omega
         go_upto_region 41 with (first | (go_at_call 26;refine (fL x sA _ _ rfl (by simp)).mono ?_;rintro e w5 ⟨rfl,an⟩;have Z:=ae.trans (an.mono bH);have bm:=(Z.cell (p:=⟨gh,o2+j,none⟩) ah).trans ((ae.cell (p:=⟨gh,o2+j,none⟩) ah).symm.trans aw)))
         have bo:Hid (0<=inn x.toList sB->V.2=false):=fun h=>by rw[aH.out,HD.out,kF,vU,if_pos h]
         have al:Hid (∀ u:ByteArray,(¬ 0<=inn x.toList sB)->u.toList=(if 0<=inn x.toList sA then (sN (inn x.toList sA).toNat).toList else x.toList)->V=kF ((U++[u]).map xF) ((I.map xF).drop (j+1))):=fun u h1 h2=>by
          rw[aH.out,HD.out,kF,vU,if_neg h1,x8]
          split at h2
          ·rename_i h3;rw[if_pos h3];simp[h2]
          ·rename_i h3;rw[if_neg h3];simp[h2]
         have bU:inn x.toList sA<3:=by
          have h:=kKs x.toList (zMi 32 sA) 0;have e:(zMi 32 sA).length=3:=by decide
          unfold inn;omega
         generalize inn x.toList sA=a1 at *;by_cases hB:0<=inn x.toList sB
         ·go_wp2_with (first | (go_at_call 26;refine (fL x sB _ _ rfl (by simp)).mono ?_;rintro e w7 ⟨rfl,af⟩));exact bodyPost_ret (results_tmp2 (t:=4) (u:=5) rfl _ _ _) rfl (nB (r:=V) (bo.out hB) (f.out.trans ((Z.trans (af.mono Z.size)).mono f.out.size)) (.slice none 0 0) ⟨none,0,0,rfl⟩)
         have aL:¬ 0<=a1\/a1=0\/a1=1\/a1=2:=by omega
         rcases aL with hA | rfl | rfl | rfl
         all_goals
          go_upto_region 46 with (first | (go_at_call 26;refine (fL x sB _ _ rfl (by simp)).mono ?_;rintro e w7 ⟨rfl,af⟩;have ao:=Z.trans (af.mono Z.size);have aG:=zAa (aX aF.out (fun i H=>(an.trans (af.mono an.size)).block i (aF.out.lt i H).2))))
          go_name_world W7 hE;have ag:Below W0.heap.size W0 W7:=by rw[<- hE];first | exact ao | exact ao.alloc ao.size _
          have M:Hid (W7.ownsRow W0.heap.size 9 1 (.slice (some ⟨gq,0,none⟩) U.length cq) U.length (U.map xR)):=by rw[<- hE];first | exact aG.out | exact aG.out.alloc _
          have ap:=ag.size;clear hE aw bm af ao aG an Z
         ·go_wp2_with (first
           | (at_builtin;refine wpList_append_lies _ rfl (.tmp 196) (.tmp 198) 37 rfl W0.heap.size 9 i0 (.string x4) 1 16 underlying37 H ai aj ak rfl (by decide) _ _ _ rfl (M.out.alloc _) ⟨W7.heap.size,0,none⟩ 1 1 [.string x] rfl rfl ?c1 ?c2 (by decide) ?c3 ?c4 ?c5 _ rfl ?_))
          case c1=>exact x5 (cs:=#[.string x]) (t:=9) (fr:=(0,0)) (heap_alloc_new W7 _)
          case c2=>simp[x6]
          case c3=>unfold maxLen;omega
          case c4=>omega
          case c5=>simp;omega
          intro g1 F w4 A m am Y;go_wp2_with fail;go_roundw
          case rel=>exact⟨j+1,g1,F,U++[x],by omega,by simp,by go_num,al.out _ (by omega) (by rw[if_neg (by omega)]),by unfold Hid;simpa using A,by simp;omega,(ag.alloc ap _).grown m (by simp;omega) (fun i H=>(M.out.lt i H).1)⟩
          case measure=>simp[intOf];omega
         ·go_wp2_with (first
           | (at_builtin;refine wpList_append_lies _ rfl (.tmp 196) (.tmp 198) 37 rfl W0.heap.size 9 i0 (.string x4) 1 16 underlying37 H ai aj ak rfl (by decide) _ _ _ rfl (M.out.alloc _) ⟨W7.heap.size,0,none⟩ 1 1 [.string ⟨#[97,99,113,114,101,108]⟩] rfl rfl ?c1 ?c2 (by decide) ?c3 ?c4 ?c5 _ rfl ?_))
          case c1=>exact x5 (cs:=#[.string ⟨#[97,99,113,114,101,108]⟩]) (t:=9) (fr:=(0,0)) (heap_alloc_new W7 _)
          case c2=>simp[x6]
          case c3=>unfold maxLen;omega
          case c4=>omega
          case c5=>simp;omega
          intro g1 F w4 A m am Y;go_wp2_with fail;go_roundw
          case rel=>exact⟨j+1,g1,F,U++[⟨#[97,99,113,114,101,108]⟩],by omega,by simp,by go_num,al.out _ (by omega) (rfl),by unfold Hid;simpa using A,by simp;omega,(ag.alloc ap _).grown m (by simp;omega) (fun i H=>(M.out.lt i H).1)⟩
          case measure=>simp[intOf];omega
         ·go_wp2_with (first
           | (at_builtin;refine wpList_append_lies _ rfl (.tmp 196) (.tmp 198) 37 rfl W0.heap.size 9 i0 (.string x4) 1 16 underlying37 H ai aj ak rfl (by decide) _ _ _ rfl (M.out.alloc _) ⟨W7.heap.size,0,none⟩ 1 1 [.string ⟨#[98,108,111,99,107]⟩] rfl rfl ?c1 ?c2 (by decide) ?c3 ?c4 ?c5 _ rfl ?_))
          case c1=>exact x5 (cs:=#[.string ⟨#[98,108,111,99,107]⟩]) (t:=9) (fr:=(0,0)) (heap_alloc_new W7 _)
          case c2=>simp[x6]
          case c3=>unfold maxLen;omega
          case c4=>omega
          case c5=>simp;omega
          intro g1 F w4 A m am Y;go_wp2_with fail;go_roundw
          case rel=>exact⟨j+1,g1,F,U++[⟨#[98,108,111,99,107]⟩],by omega,by simp,by go_num,al.out _ (by omega) (rfl),by unfold Hid;simpa using A,by simp;omega,(ag.alloc ap _).grown m (by simp;omega) (fun i H=>(M.out.lt i H).1)⟩
          case measure=>simp[intOf];omega
         ·go_wp2_with (first
           | (at_builtin;refine wpList_append_lies _ rfl (.tmp 196) (.tmp 198) 37 rfl W0.heap.size 9 i0 (.string x4) 1 16 underlying37 H ai aj ak rfl (by decide) _ _ _ rfl (M.out.alloc _) ⟨W7.heap.size,0,none⟩ 1 1 [.string ⟨#[100,101,118,105,99,101]⟩] rfl rfl ?c1 ?c2 (by decide) ?c3 ?c4 ?c5 _ rfl ?_))
          case c1=>exact x5 (cs:=#[.string ⟨#[100,101,118,105,99,101]⟩]) (t:=9) (fr:=(0,0)) (heap_alloc_new W7 _)
          case c2=>simp[x6]
          case c3=>unfold maxLen;omega
          case c4=>omega
          case c5=>simp;omega
          intro g1 F w4 A m am Y;go_wp2_with fail;go_roundw
          case rel=>exact⟨j+1,g1,F,U++[⟨#[100,101,118,105,99,101]⟩],by omega,by simp,by go_num,al.out _ (by omega) (rfl),by unfold Hid;simpa using A,by simp;omega,(ag.alloc ap _).grown m (by simp;omega) (fun i H=>(M.out.lt i H).1)⟩
          case measure=>simp[intOf];omega
        ·have bZ:j=I.length:=by omega
         have bd:¬ (j:Int)<(I.length:Int):=by omega
         obtain⟨bk,bz,bC⟩:=nI aF.out (by simp);have bt:=zAa bk;have aU:Hid (V=(U.map xF,true)):=by
          unfold Hid;rw[aH.out,List.drop_eq_nil_of_le (by simp;omega)];rfl
         clear bk;go_wp2;exact bodyPost_ret (results_tmp2 (t:=4) (u:=5) rfl _ _ _) rfl (yH U true (by rw[aU.out]) (by rw[aU.out]) (by omega) bz bt.out bC (f.out.trans (ae.mono f.out.size)))
end Go.Proofs.YtonodfjdiepglaaGreatDoor
