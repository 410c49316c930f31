import Derived.Shelf.Strconv.Itoa3
import Derived.Test.YtlikcongbhhpfaaGreatDoorM10
import Derived.Test.YtlikcongbhhpfaaGreatDoorM16
set_option linter.unusedVariables false
set_option linter.unusedSimpArgs false
set_option maxHeartbeats 12800000
namespace Go.Proofs.YtlikcongbhhpfaaGreatDoor
open Go Go.RowKit Go.Proofs.Tryz P Q
set_option maxRecDepth 1000000
variable {w w':World}{rows ws:List ByteArray}{r:Rd}{k:Nat}{last s:ByteArray}
open _root_.Array renaming size->W
open Go.World renaming heap->K
open List renaming length->J
open Go.Value renaming int->Y,string->U,slice->T,bool->y
open Go.IntKind renaming i64->C
open Bool renaming false->G,true->A
open Go.Obj renaming cells->E
open Option renaming some->M,none->D
open Go.Ending renaming returned->S
open _root_.ByteArray renaming toList->xF
open Nat renaming le_refl->xR,zero_add->x4
open Go.Lib renaming decDigits_length->xW,decDigits->x0,nDigits_big->x3
open Go.RowKit.Below renaming refl->x1
open Go.Instr renaming slice->x2
open List renaming isPrefixOf_iff_prefix->x5,drop_zero->x6,drop_eq_getElem_cons->x7,length_map->x8,prefix_iff_eq_take->x9,take_of_length_le->xa,map_append->xb,dropLast_concat->xc
open Go.World renaming ownsRow_nil->xd
def Qn:Shelf.Ren:=⟨fun|171=>83|243=>133|246=>164|283=>184|284=>185|285=>186|286=>187|129=>205|317=>204|318=>206|319=>207|320=>208|337=>214|338=>215|n=>n,fun|3=>3|9=>9|2=>2|4=>4|171=>217|0=>0|53=>163|37=>41|5=>5|173=>220|212=>228|51=>229|20=>20|213=>230|46=>42|232=>234|233=>235|n=>n,fun|17=>0|18=>1|19=>2|n=>n⟩
theorem Qo:LaysM.n171 prog Qn where
 mixed:=by kernel_rfl
 f129:=func205.trans (congrArg M (by kernel_rfl))
 f171:=func83.trans (congrArg M (by kernel_rfl))
 f243:=func133.trans (congrArg M (by kernel_rfl))
 f246:=func164.trans (congrArg M (by kernel_rfl))
 f283:=func184.trans (congrArg M (by kernel_rfl))
 f284:=func185.trans (congrArg M (by kernel_rfl))
 f285:=func186.trans (congrArg M (by kernel_rfl))
 f286:=func187.trans (congrArg M (by kernel_rfl))
 f317:=func204.trans (congrArg M (by kernel_rfl))
 f318:=func206.trans (congrArg M (by kernel_rfl))
 f319:=func207.trans (congrArg M (by kernel_rfl))
 f320:=func208.trans (congrArg M (by kernel_rfl))
 f337:=func214.trans (congrArg M (by kernel_rfl))
 f338:=func215.trans (congrArg M (by kernel_rfl))
 t0:=underlying0
 a0:=isAgg0
 z0:=sizeOf0
 v0:=zeroValue0
 t2:=underlying2
 a2:=isAgg2
 z2:=sizeOf2
 v2:=zeroValue2
 t3:=underlying3
 a3:=isAgg3
 z3:=sizeOf3
 v3:=zeroValue3
 t4:=underlying4
 a4:=isAgg4
 z4:=sizeOf4
 v4:=zeroValue4
 t5:=underlying5
 a5:=isAgg5
 z5:=sizeOf5
 v5:=zeroValue5
 t9:=underlying9
 a9:=isAgg9
 z9:=sizeOf9
 v9:=zeroValue9
 t20:=underlying20
 a20:=isAgg20
 z20:=sizeOf20
 v20:=zeroValue20
 t37:=underlying41
 a37:=isAgg41
 z37:=sizeOf41
 v37:=zeroValue41
 t46:=underlying42
 a46:=isAgg42
 z46:=sizeOf42
 v46:=zeroValue42
 t51:=underlying229
 a51:=isAgg229
 z51:=sizeOf229
 v51:=zeroValue229
 t53:=underlying163
 a53:=isAgg163
 z53:=sizeOf163
 v53:=zeroValue163
 t171:=underlying217
 a171:=isAgg217
 z171:=sizeOf217
 v171:=zeroValue217
 t173:=underlying220
 a173:=isAgg220
 z173:=sizeOf220
 v173:=zeroValue220
 t212:=underlying228
 a212:=isAgg228
 z212:=sizeOf228
 v212:=zeroValue228
 t213:=underlying230
 a213:=isAgg230
 z213:=sizeOf230
 t232:=underlying234
 a232:=isAgg234
 z232:=sizeOf234
 v232:=zeroValue234
 t233:=underlying235
 a233:=isAgg235
 z233:=sizeOf235
 v233:=zeroValue235
 g17:=by kernel_rfl
 g18:=by kernel_rfl
 g19:=by kernel_rfl
 i0:=by kernel_rfl
 i2:=by kernel_rfl
 i3:=by kernel_rfl
 i4:=by kernel_rfl
 i5:=by kernel_rfl
 i9:=by kernel_rfl
 i20:=by kernel_rfl
 i37:=by kernel_rfl
 i46:=by kernel_rfl
 i51:=by kernel_rfl
 i53:=by kernel_rfl
 i171:=by kernel_rfl
 i173:=by kernel_rfl
 i212:=by kernel_rfl
 i232:=by kernel_rfl
 i233:=by kernel_rfl
 m17:=by kernel_rfl
 m18:=by kernel_rfl
 m19:=by kernel_rfl
def Tab(w:World):Prop:=Lib.TabIs prog w "internal/strconv.uint64pow10" .u64 Lib.pow10Tab
theorem Tab.X(h:Tab w)(b:Below (W (K w)) w w'):Tab w':=by
 unfold Tab Lib.TabIs World.var? at*
 cases hg:prog.globalNamed "internal/strconv.uint64pow10" with
 |none=>simp[hg]at h
 |some g =>
  simp only[hg,Option.bind_some]at h⊢;have a:g<W (K w):=by
   rcases Nat.lt_or_ge g (W (K w))with c|c
   ·exact c
   ·rw[Array.getElem?_eq_none c]at h;simp at h
  rw[b.block g a];exact h
theorem Qp(w:World)(k:Nat)(a:Array Obj):Below (W (K w)) w (Sort.grow (w.drewN k) a):=
 ⟨Z,Z,Z,by show W (K w)<=(w.heap++a).size;rw[Array.size_append];omega,fun j b=>by show(w.heap++a)[j]?=w.heap[j]?;rw[Array.getElem?_append_left b]⟩
theorem Qq(n:Nat)(h:n<10000):(x0 n).length<=4:=by
 have a:∀m,m<10->(x0 m).length<=1:=fun m b=>by rw[xW,Lib.nDigits_small b];omega
 have d:∀m,m<100->(x0 m).length<=2:=fun m b=>by
  by_cases c:m<10
  ·have:=a m c;omega
  ·rw[xW,x3 c,<- xW];have:=a (m/10) (by omega);omega
 have e:∀m,m<1000->(x0 m).length<=3:=fun m b=>by
  by_cases c:m<10
  ·have:=a m c;omega
  ·rw[xW,x3 c,<- xW];have:=d (m/10) (by omega);omega
 by_cases c:n<10
 ·have:=a n c;omega
 ·rw[xW,x3 c,<- xW];have:=e (n/10) (by omega);omega
theorem Qr(n:Int)(w:World)(c:0<=n)(h:n<10000)(a:Tab w):
  Calls prog 83 #[Y C n] w fun e w'=>∃s,e=S (U s)/\iO 4 s (dK n)/\Below (W (K w)) w w':=by
 refine(Any.strconv_Itoa Qo n (by omega) (by omega) w a).mono ?_;rintro e w' ⟨rfl,k,b,rfl⟩;have e:Lib.itoa n=x0 n.toNat:=by
  unfold Lib.itoa
  first|rw[if_neg (by omega)]|rw[if_pos (by omega)]
 refine⟨_,Z,⟨?_,?_⟩,Qp w k b⟩
 ·rw[e];exact vR _
 ·rw[e,<- MS,vR];exact Qq _ (by omega)
theorem vQ(n:Int)(w:World)(b:0<=n)(h:n<10000)(c:Tab w):
  Calls prog 84 #[Y C n] w fun e w'=>∃s,e=S (U s)/\iO 5 s (fE n)/\Below (W (K w)) w w':=by
 go_enter func84,ntmps84;go_wp2_with(first|(go_at_call 83;refine(Qr n _ b h c).mono ?_;rintro e w' ⟨s,rfl,a,d⟩;have f:=a.size));go_ret;refine⟨_,Z,⟨?_,?_⟩,d⟩
 ·simp[gD,eK,a.1,fE]
 ·simp[fA];omega
theorem Qs(a:Int)(l:List UInt8)(f o b:Nat)(e:b<2):iP a l (f+1) (2*o+b)=if OQ a (o:Int)&&l==kG (o:Int) (b:Int)then M ((o:Int),(b:Int))else iP a l f (2*o+b+1):=by
 rw[iP];have c:(2*o+b)/2=o:=by omega
 have d:(2*o+b)%2=b:=by omega
 rw[c,d]
theorem Ap(g:Nat)(a:JR)(s:ByteArray)(w:World)(h:KH w g a):
  Calls prog 166 #[.pointer (M ⟨g,0,D⟩),U s] w fun e w'=>e=S (y (fX a s.toList).2)/\KH w' g (fX a s.toList).1/\w.grownBy w' (M g):=by
 obtain⟨B,z,g0,V,X,g3,g4,g5,g6,g7,g8,g9,x⟩:=h.F;have l:=JO h
 cases ho:NI a.k
 ·have j:JP (fX a s.toList=(a,s.toList==[])):=by unfold JP fX;rw[ho];rfl
  cases hs:s.toList.isEmpty
  all_goals
   have f:(s.toList==[])=s.toList.isEmpty:=by cases s.toList<;>rfl
   go_enter func166,ntmps166;go_wp2_with(first|(go_at_call 86;refine(JI _ _).mono ?_;rintro e w' ⟨rfl,rfl⟩;rw[ho]));go_ret;rw[j.o,f,hs];exact⟨Z,l.o,eA _ _⟩
 ·have j:JP (fX a s.toList=match iP a.k s.toList 12 0 with|some (o,b)=>({a with q:=o,scope:=b},A)|none=>(a,G)):=by unfold JP fX;rw[ho];rfl
  go_enter func166,ntmps166;go_wp2_with(first|(go_at_call 86;refine(JI _ _).mono ?_;rintro e w' ⟨rfl,rfl⟩;rw[ho]));go_loop [5] (fun i=>∃o:Nat,o<=6/\i=Y C o/\JP (iP a.k s.toList 12 0=iP a.k s.toList (12-2*o) (2*o))) fun i=>6-(intOf i).toNat
  case atStart=>exact⟨0,by omega,Z,Z⟩
  case round =>
   obtain⟨o,L,rfl,p⟩:=hrel;by_cases hlt:o<6
   ·have H:(o:Int)<=5:=by omega
    go_wp2;go_loop [6] (fun i=>∃b:Nat,b<=2/\i=Y C b/\JP (iP a.k s.toList 12 0=iP a.k s.toList (12-2*o-b) (2*o+b))) fun i=>2-(intOf i).toNat
    case atStart=>exact⟨0,by omega,Z,p⟩
    case round =>
     obtain⟨b,O,rfl,u⟩:=hrel;by_cases hls:b<2
     ·have I:(b:Int)<=1:=by omega
      have d:JP (iP a.k s.toList 12 0=if OQ a.k (o:Int)&&s.toList==kG (o:Int) (b:Int)then M ((o:Int),(b:Int))else iP a.k s.toList (12-2*o-(b+1)) (2*o+(b+1))):=by
       unfold JP;rw[u.o,show 12-2*o-b=12-2*o-(b+1)+1 by omega,Qs _ _ _ _ _ hls];rfl
      cases ha:OQ a.k (o:Int)
      ·have c:JP (iP a.k s.toList 12 0=iP a.k s.toList (12-2*o-(b+1)) (2*o+(b+1))):=by unfold JP;rw[d.o,ha];rfl
       go_wp2_with(first|(go_at_call 188;refine(nW _ _ _).mono ?_;rintro e w' ⟨rfl,rfl⟩;rw[ha]));go_round
       case rel=>exact⟨b+1,by omega,by go_num,c⟩
       case measure=>simp[intOf];omega
      ·cases hb:s.toList==kG (o:Int) (b:Int)
       ·have c:JP (iP a.k s.toList 12 0=iP a.k s.toList (12-2*o-(b+1)) (2*o+(b+1))):=by unfold JP;rw[d.o,ha,hb];rfl
        have HB:=JO hb;go_wp2_with(first|(go_at_call 188;refine(nW _ _ _).mono ?_;rintro e w' ⟨rfl,rfl⟩;rw[ha])|(go_at_call 87;refine(EZ _ _ _).mono ?_;rintro e w' ⟨t,rfl,n,rfl⟩;have N:(s.toList==t.toList)=G:=by rw[n.1];exact HB.o));go_round
        case rel=>exact⟨b+1,by omega,by go_num,c⟩
        case measure=>simp[intOf];omega
       ·have c:JP (fX a s.toList=({a with q:=(o:Int),scope:=(b:Int)},A)):=by unfold JP;rw[j.o,d.o,ha,hb];rfl
        have HB:=JO hb;have v:=JO ((l.o.dF (o:Int)).fO (b:Int));go_wp2_with(first|(go_at_call 188;refine(nW _ _ _).mono ?_;rintro e w' ⟨rfl,rfl⟩;rw[ha])|(go_at_call 87;refine(EZ _ _ _).mono ?_;rintro e w' ⟨t,rfl,n,rfl⟩;have N:(s.toList==t.toList)=A:=by rw[n.1];exact HB.o));go_ret;rw[c.o];exact⟨Z,v.o,dB (dB (eA _ _) _ _) _ _⟩
     ·have f:b=2:=by omega
      have c:JP (iP a.k s.toList 12 0=iP a.k s.toList (12-2*(o+1)) (2*(o+1))):=by
       unfold JP;rw[u.o,f,show 12-2*o-2=12-2*(o+1)by omega,show 2*o+2=2*(o+1)by omega]
      go_wp2;go_round
      case rel=>exact⟨o+1,by omega,by go_num,c⟩
      case measure=>simp[intOf];omega
   ·have m:o=6:=by omega
    have c:JP (fX a s.toList=(a,G)):=by unfold JP;rw[j.o,p.o,m];rfl
    go_wp2;go_ret;rw[c.o];exact⟨Z,l.o,eA _ _⟩
theorem Aq(g:Nat)(d:JR)(c:UInt8)(s:ByteArray)(w:World)(h:KH w g d)(H:0<=d.label)(I:d.label<10000)(hT:Tab w):
  Calls prog 189 #[.pointer (M ⟨g,0,D⟩),Y .u8 (c.toNat:Int),U s] w fun e w'=>e=S (y (fN d c s.toList).2)/\KH w' g (fN d c s.toList).1/\w.grownBy w' (M g):=by
 obtain⟨v,u,g0,N,O,V,g4,g5,g6,g7,g8,g9,q⟩:=h.F;have p:=JO h
 cases h1:(c.toNat:Int)==100
 rotate_left
 ·have m:c=100:=(oG c 100 (by omega)).1 h1;have j:JP (fN d c s.toList=({d with dest:=(fK s.toList).1},(fK s.toList).2)):=by unfold JP fN;rw[if_pos m]
  have l:JP (KH (w.setCell ⟨g,2,D⟩ (Y C (fK s.toList).1)) g {d with dest:=(fK s.toList).1}):=p.o.set _ 2 _ Z;go_enter func189,ntmps189;go_wp2_with(first|(go_at_call 209;refine(UT s _).mono ?_;rintro e w' ⟨rfl,rfl⟩));go_ret;rw[j.o];exact⟨Z,l.o,dB (eA _ _) _ _⟩
 have B:¬c=100:=fun e=>by subst e;simp at h1
 cases h2:(c.toNat:Int)==118
 rotate_left
 ·have m:c=118:=(oG c 118 (by omega)).1 h2;have j:JP (fN d c s.toList=({d with z:=(jQ s.toList).1},(jQ s.toList).2)):=by unfold JP fN;rw[if_neg B,if_pos m]
  have l:=JO (p.o.iG (jQ s.toList).1);go_enter func189,ntmps189;go_wp2_with(first|(go_at_call 210;refine(Kv s _).mono ?_;rintro e w' ⟨rfl,rfl⟩));go_ret;rw[j.o];exact⟨Z,l.o,dB (eA _ _) _ _⟩
 have L:¬c=118:=fun e=>by subst e;simp at h2
 cases h3:(c.toNat:Int)==97
 rotate_left
 ·have m:c=97:=(oG c 97 (by omega)).1 h3;have j:JP (fN d c s.toList=({d with a:=(eJ s.toList).1},(eJ s.toList).2)):=by unfold JP fN;rw[if_neg B,if_neg L,if_pos m]
  go_enter func189,ntmps189;go_wp2_with(first|(go_at_call 211;refine(UV s _).mono ?_;rintro e w1 ⟨rfl,i⟩;have f:=JO (p.o.X i);have l:=JO ((f.o.fM (eJ s.toList).1).alloc (E #[y (eJ s.toList).1.KI,Y C (eJ s.toList).1.n] 102));obtain⟨v,u,g0,N,O,V,g4,g5,g6,g7,g8,g9,q⟩:=f.o.F));go_ret;rw[j.o];exact⟨Z,l.o,nZ (dB (dB (nM i _) _ _) _ _) _⟩
 have n3:¬c=97:=fun e=>by subst e;simp at h3
 cases h4:(c.toNat:Int)==98
 rotate_left
 ·have m:c=98:=(oG c 98 (by omega)).1 h4;have j:JP (fN d c s.toList=({d with b:=(eJ s.toList).1},(eJ s.toList).2)):=by unfold JP fN;rw[if_neg B,if_neg L,if_neg n3,if_pos m]
  go_enter func189,ntmps189;go_wp2_with(first|(go_at_call 211;refine(UV s _).mono ?_;rintro e w1 ⟨rfl,i⟩;have f:=JO (p.o.X i);have l:=JO ((f.o.wJ (eJ s.toList).1).alloc (E #[y (eJ s.toList).1.KI,Y C (eJ s.toList).1.n] 102));obtain⟨v,u,g0,N,O,V,g4,g5,g6,g7,g8,g9,q⟩:=f.o.F));go_ret;rw[j.o];exact⟨Z,l.o,nZ (dB (dB (nM i _) _ _) _ _) _⟩
 have n4:¬c=98:=fun e=>by subst e;simp at h4
 have j:JP (fN d c s.toList=(d,s.toList==fE d.label)):=by unfold JP fN;rw[if_neg B,if_neg L,if_neg n3,if_neg n4]
 cases hb:s.toList==fE d.label
 all_goals
  have HB:=JO hb;go_enter func189,ntmps189;go_wp2_with(first|(go_at_call 84;refine(vQ _ _ H I hT).mono ?_;rintro e w' ⟨t,rfl,ht,x⟩;have hq:=show(s.toList==t.toList)=(s.toList==fE d.label)by rw[ht.1].trans HB.o));go_ret;rw[j.o,HB.o];exact⟨Z,p.o.X x,nM x _⟩
theorem Qt(a:JR)(c:UInt8)(l:List UInt8):(fN a c l).1.label=a.label:=by
 unfold fN
 split
 ·rfl
 split
 ·rfl
 split
 ·rfl
 split<;>rfl
theorem Qu(b:JR)(a:List UInt8)(ws:List (List UInt8))(k:Nat)(c:k<J a)(d:k<J ws):
  lC b (a.drop k) (ws.drop k)=if(fN b a[k] ws[k]).2 then lC (fN b a[k] ws[k]).1 (a.drop (k+1)) (ws.drop (k+1))else(JR.zero,G):=by
 rw[x7 c,x7 d];rfl
theorem Qv(b:JR)(a:List UInt8)(ws:List (List UInt8))(k:Nat)(h:J ws<=k):lC b (a.drop k) (ws.drop k)=(b,A):=by
 rw[List.drop_of_length_le (l:=ws) h]
 cases a.drop k<;>rfl
theorem bM.rO{b off:Nat}(h:bM w b off ws)(a:Below (W (K w)) w w'):bM w' b off ws:=h.X a
theorem Qw(w:World):KH (w.alloc (E #[Y C 0,Y C 0,Y C 0,Y C 0,y G,Y C 0,y G,Y C 0,Y C 0,Y C 0,Y C 0] 104)) (W (K w)) JR.zero:=KH.bA w JR.zero
theorem Qx(d:JR)(l:ByteArray)(v:Value)(ws:List ByteArray)(w:World)(h:tX w v ws)(V:0<=d.label)(aa:d.label<10000)(hT:Tab w)(hz:l.size<=3)(hn:J ws<=8193):
  Calls prog 167 #[.agg (aC d),U l,v] w fun e w'=>e=S (gB (jK d l.toList (ws.map xF)))/\Below (W (K w)) w w':=by
 obtain⟨a,an,rfl,am,hw⟩:=h;have HW:=JO hw
 cases hlen:(l.size:Int) != (J ws:Int)
 rotate_left
 ·have HE:JP (jK d l.toList (ws.map xF)=(JR.zero,G)):=by
   unfold JP jK;have:(J l.toList != (ws.map xF).length)=A:=by
    rw[MS,x8,bne_iff_ne];rw[bne_iff_ne]at hlen;intro e;exact hlen (by rw[e])
   rw[this];rfl
  simp only[aC];go_enter func167,ntmps167;go_wp2;rw[HE.o];refine eP (p:=6) (u:=7) (W (K w)+1) JR.zero G (by kernel_rfl) Z Z ?_ Z ⟨Z,((x1 _ _).alloc (xR _) _).alloc (by simp) _⟩;have h9:KH ((w.alloc (E (aC d) 104)).alloc (E (aC JR.zero) 104)) (W (K w)+1) JR.zero:=by
   have:=KH.bA (w.alloc (E (aC d) 104)) JR.zero;simpa using this
  exact h9
 ·have ab:l.size=J ws:=by have h9:=hlen;simp at h9;omega
  have ad:=JO ab;have HE:JP (jK d l.toList (ws.map xF)=lC d l.toList (ws.map xF)):=by
   unfold JP jK;have:(J l.toList != (ws.map xF).length)=G:=by rw[MS,x8,ab];simp
   rw[this];rfl
  have ai:JP (KH ((w.alloc (E (aC d) 104)).alloc (E (aC JR.zero) 104)) (W (K w)+1) JR.zero):=by
   unfold JP;have:=KH.bA (w.alloc (E (aC d) 104)) JR.zero;simpa using this
  have af:JP (Below (W (K w)) w ((w.alloc (E (aC d) 104)).alloc (E (aC JR.zero) 104))):=((x1 _ _).alloc (xR _) _).alloc (by simp) _;simp only[aC];go_enter func167,ntmps167;go_wp2;go_loopw[19] (fun i wr=>∃(k:Nat) (q:JR),k<=J ws/\i=Y C k/\JP (q.label=d.label)/\JP (lC d l.toList (ws.map xF)=lC q (l.toList.drop k) ((ws.map xF).drop k))/\JP (KH wr (W (K w)) q)/\JP (KH wr (W (K w)+1) JR.zero)/\Below (W (K w)) w wr) fun i _=>J ws-(intOf i).toNat
  case atStart=>exact⟨0,d,Nat.zero_le _,Z,Z,Z,(KH.bA w d).alloc _,ai,af.o⟩
  case round =>
   obtain⟨k,q,hk,rfl,B,HP,HS,HR,c⟩:=hrel;obtain⟨f1,f2,r0,r1,r2,r3,r4,r5,r6,r7,r8,r9,ak⟩:=HR.o.F;by_cases hlt:k<J ws
   ·have ao:(k:Int)<(J ws:Int):=by omega
    obtain⟨b,rfl,aj,al⟩:=HW.o (by intro e;rw[e]at hlt;simp at hlt);have ag:=(aj.rO c) k ws[k] (by simp[hlt]);simp only[x4]at ag;have O:k<l.size:=by rw[ad.o];exact hlt
    have ap:(k:Int)<(l.size:Int):=by omega
    have N:=JO (Qu q l.toList (ws.map xF) k (by rw[MS];exact O) (by simpa using hlt));have H:=JO (US l k O);have ah:(ws.map xF)[k]'(by simpa using hlt)=ws[k].toList:=by simp
    have I:=JO ah;generalize hx:ws[k]=x at*
    cases hp:(fN q l[k] x.toList).2
    ·have L:JP (jK d l.toList (ws.map xF)=(JR.zero,G)):=by
      unfold JP;rw[HE.o,HP.o,N.o,H.o,I.o,hp];rfl
     go_wp2_with(first|(go_at_call 189;refine(Aq (W (K w)) q l[k] x _ HS.o (by rw[B.o];exact V) (by rw[B.o];exact aa) (hT.X c)).mono ?_;rintro e w1 ⟨rfl,ac,f⟩;rw[hp];have g:=JO (HR.o.aA (f.block _ f1 (by simp)));obtain⟨f1,f2,r0,r1,r2,r3,r4,r5,r6,r7,r8,r9,ak⟩:=g.o.F;have n:=JO (dX c f (xR _)))|(refine eU (.tmp 6) (.tmp 31) Z Z (W (K w)+1) JR.zero JR.zero Z Z g.o ?_;intro w2 z t;have m:=JO z;have j:=JO (dX n.o t (by omega))));rw[L.o];exact eP (p:=6) (u:=7) (W (K w)+1) JR.zero G (by kernel_rfl) Z Z m.o Z ⟨Z,j.o⟩
    ·have L:JP (lC d l.toList (ws.map xF)=lC (fN q l[k] x.toList).1 (l.toList.drop (k+1)) ((ws.map xF).drop (k+1))):=by
      unfold JP;rw[HP.o,N.o,H.o,I.o,hp];rfl
     go_wp2_with(first|(go_at_call 189;refine(Aq (W (K w)) q l[k] x _ HS.o (by rw[B.o];exact V) (by rw[B.o];exact aa) (hT.X c)).mono ?_;rintro e w1 ⟨rfl,ac,f⟩;rw[hp];have ae:=JO ac;have g:=JO (HR.o.aA (f.block _ f1 (by simp)));have n:=JO (dX c f (xR _))));go_roundw
     case rel=>exact⟨k+1,_,by omega,by go_num,by unfold JP;rw[Qt,B.o],L,ae,g,n.o⟩
     case measure=>simp[intOf];omega
   ·have L:JP (jK d l.toList (ws.map xF)=(q,A)):=by
     unfold JP;rw[HE.o,HP.o,Qv _ _ _ _ (by simp;omega)]
    go_wp2_with(first|(refine eV (.tmp 3) Z Z (W (K w)) q Z HS.o ?_)|(refine eU (.tmp 6) (.tmp 33) Z Z (W (K w)+1) JR.zero q Z Z HR.o ?_;intro w2 z t;have m:=JO z;have j:=JO (dX c t (by omega))));rw[L.o];exact eP (p:=6) (u:=7) (W (K w)+1) q A (by kernel_rfl) Z Z m.o Z ⟨Z,j.o⟩
theorem Ar(L f:List UInt8)(h:J L<=J f):L.isPrefixOf f=(f.take (J L)==L):=by
 cases a:f.take (J L)==L
 ·cases h2:L.isPrefixOf f
  ·rfl
  ·rw[x5,x9]at h2;rw[<- h2]at a;simp at a
 ·rw[x5,x9];simpa using(by simpa using a:f.take (J L)=L).symm
theorem Qy(L f:List UInt8)(h:J f<J L):L.isPrefixOf f=G:=by
 cases h2:L.isPrefixOf f
 ·rfl
 ·rw[x5]at h2;have:=h2.length_le;omega
def gP(k next:Int):JR:=if k==10 then{JR.zero with k:=k,label:=next}else{JR.zero with k:=k}
theorem Qz(first:List UInt8)(a:List (List UInt8))(next:Int)(f:Nat)(k:Int):iV first a next (f+1) k =
  if(LI k).1.isPrefixOf first then if(fX (gP k next) (first.drop (LI k).1.length)).2 then jK (fX (gP k next) (first.drop (LI k).1.length)).1 (LI k).2 a else iV first a next f (k+1)else iV first a next f (k+1):=by
 rw[iV];rfl
theorem Q0(a:JR)(l:List UInt8):(fX a l).1.label=a.label:=by
 unfold fX
 split
 ·split<;>rfl
 ·rfl
theorem Q4(k next:Int)(a:0<=next)(b:next<10000):0<=(gP k next).label/\(gP k next).label<10000:=by
 unfold gP;split
 ·exact⟨a,b⟩
 ·exact⟨by simp[JR.zero],by simp[JR.zero]⟩
theorem As(w:World)(k next:Int)(h:(k==10)=A):KH (w.alloc (E #[Y C k,Y C 0,Y C 0,Y C 0,y G,Y C 0,y G,Y C 0,Y C 0,Y C 0,Y C next] 104)) (W (K w)) (gP k next):=by
 have e:gP k next={JR.zero with k:=k,label:=next}:=by unfold gP;rw[h];rfl
 rw[e];exact KH.bA w {JR.zero with k:=k,label:=next}
theorem Au(w:World)(k next:Int)(h:(k==10)=G):KH (w.alloc (E #[Y C k,Y C 0,Y C 0,Y C 0,y G,Y C 0,y G,Y C 0,Y C 0,Y C 0,Y C 0] 104)) (W (K w)) (gP k next):=by
 have e:gP k next={JR.zero with k:=k}:=by unfold gP;rw[h];rfl
 rw[e];exact KH.bA w {JR.zero with k:=k}
theorem tX.X{v:Value}(h:tX w v ws)(d:Below (W (K w)) w w'):tX w' v ws:=by
 obtain⟨a,b,e,l,m⟩:=h;refine⟨a,b,e,l,fun c=>?_⟩;obtain⟨g,f,i,j⟩:=m c;exact⟨g,f,i.X d,Nat.lt_of_lt_of_le j d.size⟩
theorem tJ(s:ByteArray)(next:Int)(w:World)(hs:s.size<=8192)(h0:0<=next)(h1:next<10000)(hT:Tab w):
  Calls prog 141 #[U s,Y C next] w fun e w'=>e=S (gB (cV s.toList next))/\Below (W (K w)) w w':=by
 go_enter func141,ntmps141;go_wp2_with(first|(go_at_call 165;refine(Ko s _ hs).mono ?_;rintro e w1 ⟨f,v,ws,rfl,hf,m,aj,ax,aw,aa⟩;obtain⟨va,vc,rfl,av,am⟩:=aj));have af:JP (tX w1 (T va (J ws) vc) ws):=⟨va,vc,Z,av,am⟩;have ag:JP (KH w1 (W (K w)) JR.zero):=(Qw w).X aa;have L:JP (Below (W (K w)) w w1):=((x1 _ _).alloc (xR _) _).trans (aa.mono (by simp));have an:W (K w)<W (K w1):=ag.o.lt;have HE:JP (cV s.toList next=iV f.toList (ws.map xF) next 11 0):=by unfold JP cV;rw[hf,m]
 clear hf m am aa;go_loopw[8] (fun i wr=>∃k:Nat,k<=11/\i=Y C k/\JP (cV s.toList next=iV f.toList (ws.map xF) next (11-k) (k:Int))/\JP (KH wr (W (K w)) JR.zero)/\Below (W (K w1)) w1 wr) fun i _=>11-(intOf i).toNat
 case atStart=>exact⟨0,by omega,Z,HE,ag,x1 _ _⟩
 case round =>
  obtain⟨k,hk,rfl,HG,HZ,d⟩:=hrel;have m:=d.size;obtain⟨f1,f2,r0,r1,r2,r3,r4,r5,r6,r7,r8,r9,az⟩:=HZ.o.F;by_cases hlt:k<11
  ·have ay:(k:Int)<=10:=by omega
   have B:JP (cV s.toList next=if(LI (k:Int)).1.isPrefixOf f.toList then if(fX (gP k next) (f.toList.drop (LI (k:Int)).1.length)).2 then jK (fX (gP k next) (f.toList.drop (LI (k:Int)).1.length)).1 (LI (k:Int)).2 (ws.map xF)else iV f.toList (ws.map xF) next (11-(k+1)) ((k+1:Nat):Int)else iV f.toList (ws.map xF) next (11-(k+1)) ((k+1:Nat):Int)):=by
    unfold JP;rw[HG.o,show 11-k=11-(k+1)+1 by omega,Qz];rfl
   have n:JP (J f.toList=f.size):=MS f;clear HG;by_cases hA:f.size<(LI (k:Int)).1.length
   ·have z:JP (cV s.toList next=iV f.toList (ws.map xF) next (11-(k+1)) ((k+1:Nat):Int)):=by
     unfold JP;rw[B.o,Qy _ _ (by rw[n.o];exact hA)];rfl
    go_wp2_with(first|(go_at_call 85;refine(vD _ _).mono ?_;rintro e w' ⟨b,t,rfl,x,ht,a⟩;have a:=a.symm;subst a;have c:b.size=(LI (k:Int)).1.length:=by rw[<- MS,x.1]));go_roundw
    case rel=>exact⟨k+1,by omega,by go_num,z,HZ,d⟩
    case measure=>simp[intOf];omega
   cases hB:f.toList.take (LI (k:Int)).1.length==(LI (k:Int)).1
   ·have z:JP (cV s.toList next=iV f.toList (ws.map xF) next (11-(k+1)) ((k+1:Nat):Int)):=by
     unfold JP;rw[B.o,Ar _ _ (by rw[n.o];omega),hB];rfl
    have HB:=JO hB;clear hB;go_wp2_with(first|(go_at_call 85;refine(vD _ _).mono ?_;rintro e w' ⟨b,t,rfl,x,ht,a⟩;have a:=a.symm;subst a;have c:b.size=(LI (k:Int)).1.length:=(by rw[<- MS,x.1]);have hc:¬(f.size:Int)<(b.size:Int):=(by omega);have ai:(b.size:Int)<=(f.size:Int):=(by omega);have hq:((f.extract 0 b.size).toList==b.toList)=G:=(by rw[jW,x.1,c,x6];exact HB.o);have ak:∀g,(x2 9 (U f) D (M (Y C (b.size:Int))) D).run prog g=.ok (U (f.extract 0 b.size)) g:=(fun g=>by rw[run_slice_string_to_if _ _ _ _ _ underlying9,if_pos (by omega)];rfl);clear c));go_roundw
    case rel=>exact⟨k+1,by omega,by go_num,z,HZ,d⟩
    case measure=>simp[intOf];omega
   ·have I:JP ((LI (k:Int)).1.isPrefixOf f.toList=A):=by unfold JP;rw[Ar _ _ (by rw[n.o];omega),hB]
    have HB:=JO hB;clear hB;have ad:=JO (Q4 (k:Int) next h0 h1)
    cases ho:(fX (gP k next) (f.toList.drop (LI (k:Int)).1.length)).2
    ·have z:JP (cV s.toList next=iV f.toList (ws.map xF) next (11-(k+1)) ((k+1:Nat):Int)):=by
      unfold JP;rw[B.o,I.o,ho];rfl
     cases h10:(k:Int)==10
     all_goals
      go_wp2_with(first|(go_at_call 85;refine(vD _ _).mono ?_;rintro e w' ⟨b,t,rfl,x,ht,a⟩;have a:=a.symm;subst a;have c:b.size=(LI (k:Int)).1.length:=(by rw[<- MS,x.1]);have hc:¬(f.size:Int)<(b.size:Int):=(by omega);have ai:(b.size:Int)<=(f.size:Int):=(by omega);have hq:((f.extract 0 b.size).toList==b.toList)=A:=(by rw[jW,x.1,c,x6];exact HB.o);have ak:∀g,(x2 9 (U f) D (M (Y C (b.size:Int))) D).run prog g=.ok (U (f.extract 0 b.size)) g:=(fun g=>by rw[run_slice_string_to_if _ _ _ _ _ underlying9,if_pos (by omega)];rfl);have q:JP ((f.extract b.size f.size).toList=f.toList.drop (LI (k:Int)).1.length):=(by unfold JP;rw[jW,c,xa (by rw[n.o];exact xR _)]);have al:∀g,(x2 9 (U f) (M (Y C (b.size:Int))) D D).run prog g=.ok (U (f.extract b.size f.size)) g:=(fun g=>by rw[run_slice_string_from_if _ _ _ _ _ underlying9,if_pos (by omega)];rfl);clear c)|(go_at_call 166;refine(Ap (W (K wr)) (gP (k:Int) next) (f.extract b.size f.size) _ (by first|exact As _ _ _ h10|exact Au _ _ _ h10)).mono ?_;rw[q.o,ho];rintro e w2 ⟨rfl,H,l⟩;have V:=JO ((HZ.o.alloc _).aA (l.block (W (K w)) (by simp;omega) (by simp;omega)));have j:=JO (dX (d.alloc m _) l m);clear H l));go_roundw
      case rel=>exact⟨k+1,by omega,by go_num,z,V,j.o⟩
      case measure=>simp[intOf];omega
    ·have z:JP (cV s.toList next=jK (fX (gP k next) (f.toList.drop (LI (k:Int)).1.length)).1 (LI (k:Int)).2 (ws.map xF)):=by
      unfold JP;rw[B.o,I.o,ho];rfl
     have ae:JP ((fX (gP k next) (f.toList.drop (LI (k:Int)).1.length)).1.label=(gP k next).label):=Q0 _ _;generalize au:(fX (gP k next) (f.toList.drop (LI (k:Int)).1.length)).1=st at*
     cases h10:(k:Int)==10
     all_goals
      go_wp2_with(first|(go_at_call 85;refine(vD _ _).mono ?_;rintro e w' ⟨b,t,rfl,x,ht,a⟩;have a:=a.symm;subst a;have c:b.size=(LI (k:Int)).1.length:=(by rw[<- MS,x.1]);have hc:¬(f.size:Int)<(b.size:Int):=(by omega);have ai:(b.size:Int)<=(f.size:Int):=(by omega);have hq:((f.extract 0 b.size).toList==b.toList)=A:=(by rw[jW,x.1,c,x6];exact HB.o);have ak:∀g,(x2 9 (U f) D (M (Y C (b.size:Int))) D).run prog g=.ok (U (f.extract 0 b.size)) g:=(fun g=>by rw[run_slice_string_to_if _ _ _ _ _ underlying9,if_pos (by omega)];rfl);have q:JP ((f.extract b.size f.size).toList=f.toList.drop (LI (k:Int)).1.length):=(by unfold JP;rw[jW,c,xa (by rw[n.o];exact xR _)]);have al:∀g,(x2 9 (U f) (M (Y C (b.size:Int))) D D).run prog g=.ok (U (f.extract b.size f.size)) g:=(fun g=>by rw[run_slice_string_from_if _ _ _ _ _ underlying9,if_pos (by omega)];rfl);clear c)|(go_at_call 166;refine(Ap (W (K wr)) (gP (k:Int) next) (f.extract b.size f.size) _ (by first|exact As _ _ _ h10|exact Au _ _ _ h10)).mono ?_;rw[q.o,ho];rintro e w2 ⟨rfl,H,l⟩;have ap:=JO (au▸H);have V:=JO ((HZ.o.alloc _).aA (l.block (W (K w)) (by simp;omega) (by simp;omega)));have j:=JO (dX (d.alloc m _) l m);clear H l)|(refine eV (.tmp 11) Z Z (W (K wr)) st Z ap.o ?_)|(go_at_call 167;refine(Qx st t _ ws _ (af.o.X j.o) (by rw[ae.o];exact ad.o.1) (by rw[ae.o];exact ad.o.2) ((hT.X L.o).X j.o) ht.2 aw).mono ?_;rw[ht.1];rintro e w3 ⟨rfl,ah⟩;simp only[gB];have aq:=JO (V.o.X ah);have ao:=JO (j.o.trans (ah.mono (by have:=j.o.size;omega))))|(refine eU (.tmp 4) (.tmp 56) Z Z (W (K w)) JR.zero (jK st (LI (k:Int)).2 (ws.map xF)).1 Z Z aq.o ?_;intro w4 ac ab;have O:=JO ac;have N:=JO (dX (L.o.trans (ao.o.mono (Nat.le_of_lt an))) ab (xR _))));rw[z.o];exact eP (p:=4) (u:=5) (W (K w)) _ _ (by kernel_rfl) Z Z O.o Z ⟨Z,N.o⟩
  ·have ar:k=11:=by omega
   have z:JP (cV s.toList next=(JR.zero,G)):=by unfold JP;rw[HG.o,ar];rfl
   have j:=JO (L.o.trans (d.mono (Nat.le_of_lt an)));go_wp2_with(first|(refine eU (.tmp 4) (.tmp 58) Z Z (W (K w)) JR.zero JR.zero Z Z HZ.o ?_;intro w4 ac ab;have O:=JO ac;have N:=JO (dX j.o ab (xR _))));rw[z.o];exact eP (p:=4) (u:=5) (W (K w)) _ _ (by kernel_rfl) Z Z O.o Z ⟨Z,N.o⟩
theorem qE(B g:Nat)(r:Rd)(w:World)(h:cN w B g r)(m:J r.O<10):
  Calls prog 139 #[.pointer (M ⟨g,0,D⟩)] w fun e w'=>e=S (Y C (eT r))/\w'=w:=by
 obtain⟨N,p,V,h⟩:=h;by_cases he:r.O=[]
 ·have j:p=T D 0 0\/∃k c,p=JQ k 0 c:=by
   have:=h.O;rw[he]at this
   rcases this.2 with⟨e,_⟩|⟨k,c,t,e,_⟩
   ·exact .inl e
   ·exact .inr ⟨k,c,e⟩
  obtain⟨i,f,g0,u,v,x,z⟩:=h.F;have d:JP (eT r=0):=by unfold JP;simp[eT,he]
  rcases j with rfl|⟨k,c,rfl⟩
  all_goals
   go_enter func139,ntmps139;go_wp2;go_ret;rw[bD d];exact⟨Z,Z⟩
 ·obtain⟨n,o,b⟩:=rX r.O he;have a:=h.O;rw[b]at a;simp only[List.length_append,List.length_cons,List.length_nil,x4,xb,List.map_cons,List.map_nil]at a;obtain⟨k,q,rfl,H,l⟩:=a.form (by omega);have L:w.cell? ⟨k,J n,D⟩=M (Y C o):=by
   rw[a.cellAt _ (by omega),List.getElem?_append_right (by simp)];simp
  obtain⟨i,f,g0,u,v,x,z⟩:=h.F;have I:J n<10:=by rw[b]at m;simp at m;omega
  have d:JP (eT r=o):=by unfold JP;simp[eT,b]
  go_enter func139,ntmps139;go_wp2;go_ret;rw[bD d];exact⟨Z,Z⟩
theorem sE(B g:Nat)(r:Rd)(w:World)(h:cN w B g r)(j:0<=r.I)(l:r.I<10000):
  Calls prog 140 #[.pointer (M ⟨g,0,D⟩)] w fun e w'=>e=S (Y C (r.I+1))/\w'=w:=by
 obtain⟨n,m,o,h⟩:=h;obtain⟨b,a,g0,c,d,f,i⟩:=h.F;clear h;go_enter func140,ntmps140;go_wp2;go_ret
 first|exact⟨Z,Z⟩|exact⟨by go_num,Z⟩
theorem Q5(r:Rd)(l:List UInt8)(k:Nat)(h:k<2)(d:∀j,j<k->(l==eQ (j:Int))=G)(f:(l==eQ (k:Int))=A):dA r l=fB r (k:Int) r.i:=by
 have e:l=eQ (k:Int):=by simpa using f
 unfold dA
 match k,h with
 |0,_ =>
  have a:l=eQ 0:=e;rw[if_pos a];rfl
 |1,_ =>
  have c:¬l=eQ 0:=by have:=d 0 (by omega);simpa using this
  have b:l=eQ 1:=e;rw[if_neg c,if_pos b];rfl
theorem Q6(r:Rd)(l:List UInt8)(a:∀j,j<2->(l==eQ ((j:Nat):Int))=G):dA r l=if eT r != 0&&l==fE (eT r)++[58]then cZ r {JR.zero with k:=11,i:=r.i}
 else if !(cV l (r.I+1)).2||(cV l (r.I+1)).1.k==5&&eT r != 0 then(r,G)
 else cZ r {(cV l (r.I+1)).1 with i:=r.i}:=by
 have b:¬l=eQ 0:=by have:=a 0 (by omega);simpa using this
 have c:¬l=eQ 1:=by have:=a 1 (by omega);simpa using this
 conv=>lhs;unfold dA
 rw[if_neg b,if_neg c]
theorem Q7(B g N:Nat)(r:Rd)(s:ByteArray)(w:World)(h:cN w B g r)(hs:s.size<=8192)(hF:uA N r)(hN:N<10000)(hB:B<=W (K w))(d:J r.O<10)(l:0<=r.I)(ad:r.I<9999)(V:0<=r.count)(aa:r.count<10000)(H:0<=eT r)(L:eT r<10000)(F:Tab w):
  Calls prog 89 #[.pointer (M ⟨g,0,D⟩),U s,Y C r.i] w fun e w'=>e=S (y (dA r s.toList).2)/\cN w' B g (dA r s.toList).1/\Eg B g w w':=by
 have f:=JO h;go_enter func89,ntmps89;go_wp2;go_loop [7] (fun i=>∃k:Nat,k<=2/\i=Y C k/\JP (∀j:Nat,j<k->(s.toList==eQ (j:Int))=G)) fun i=>2-(intOf i).toNat
 case atStart=>exact⟨0,by omega,Z,fun j hj=>absurd hj (by omega)⟩
 case round =>
  obtain⟨k,hk,rfl,HK⟩:=hrel;by_cases hlt:k<2
  ·have ac:(k:Int)<2:=by omega
   cases m:s.toList==eQ (k:Int)
   ·have HN:JP (∀j:Nat,j<k+1->(s.toList==eQ (j:Int))=G):=fun j hj=>by
     rcases Nat.lt_succ_iff_lt_or_eq.1 hj with h|h
     ·exact HK.o j h
     ·rw[h];exact m
    have HT:=JO m;go_wp2_with(first|(go_at_call 44;refine(IN _ _ (by omega) (by omega)).mono ?_;rintro e w' ⟨t,rfl,m,a⟩;have a:=a.symm;subst a;have hq:(s.toList==t.toList)=G:=by rw[m.1];exact HT.o));go_round
    case rel=>exact⟨k+1,by omega,by go_num,HN⟩
    case measure=>simp[intOf];omega
   ·have u:=JO (Q5 r s.toList k hlt HK.o m);have HT:=JO m;go_wp2_with(first|(go_at_call 44;refine(IN _ _ (by omega) (by omega)).mono ?_;rintro e w' ⟨t,rfl,m,a⟩;have a:=a.symm;subst a;have hq:(s.toList==t.toList)=A:=by rw[m.1];exact HT.o)|(go_at_call 138;refine(UD B g r (k:Int) r.i _ f.o hB (by have:=hF.1;omega) d).mono ?_;rintro e w2 ⟨rfl,p,n⟩));go_ret;rw[u.o];exact⟨Z,p,n⟩
  ·have ae:k=2:=by omega
   have ac:¬(k:Int)<2:=by omega
   have HT:=JO (Q6 r s.toList fun j hj=>HK.o j (by omega))
   cases ho:eT r != 0
   ·have v:JP (dA r s.toList=if !(cV s.toList (r.I+1)).2||(cV s.toList (r.I+1)).1.k==5&&eT r != 0 then(r,G)else cZ r {(cV s.toList (r.I+1)).1 with i:=r.i}):=by unfold JP;rw[HT.o,ho];rfl
    cases hok:(cV s.toList (r.I+1)).2
    ·have u:JP (dA r s.toList=(r,G)):=by unfold JP;rw[v.o,hok];rfl
     go_wp2_with(first|(go_at_call 139;refine(qE B g r _ f.o d).mono ?_;rintro e w' ⟨rfl,a⟩;have a:=a.symm;subst a)|(go_at_call 140;refine(sE B g r _ f.o l (by omega)).mono ?_;rintro e w' ⟨rfl,a⟩;have a:=a.symm;subst a)|(go_at_call 141;refine(tJ s (r.I+1) _ hs (by omega) (by omega) F).mono ?_;rintro e w1 ⟨q,c⟩;simp only[gB,aC]at q;subst q));go_ret;rw[u.o];exact⟨Z,(f.o.X c).alloc _,Eg.of ((c.mono hB).alloc (by have:=c.size;omega) _)⟩
    cases h5:(cV s.toList (r.I+1)).1.k==5
    rotate_left
    ·have u:JP (dA r s.toList=cZ r {(cV s.toList (r.I+1)).1 with i:=r.i}):=by unfold JP;rw[v.o,hok,h5,ho];rfl
     go_wp2_with(first|(go_at_call 139;refine(qE B g r _ f.o d).mono ?_;rintro e w' ⟨rfl,a⟩;have a:=a.symm;subst a)|(go_at_call 140;refine(sE B g r _ f.o l (by omega)).mono ?_;rintro e w' ⟨rfl,a⟩;have a:=a.symm;subst a)|(go_at_call 141;refine(tJ s (r.I+1) _ hs (by omega) (by omega) F).mono ?_;rintro e w1 ⟨q,c⟩;simp only[gB,aC]at q;subst q)|(go_at_call 101;refine(xG B g N r {(cV s.toList (r.I+1)).1 with i:=r.i} _ (by exact(f.o.X c).alloc (E (aC {(cV s.toList (r.I+1)).1 with i:=r.i}) 104)) hF hN (by have:=c.size;simp;omega) d l (by omega) V aa).mono ?_;rintro e w2 ⟨rfl,p,n⟩));go_ret;rw[u.o];exact⟨Z,p,(Eg.of ((c.mono hB).alloc (by have:=c.size;omega) _)).trans n⟩
    ·have u:JP (dA r s.toList=cZ r {(cV s.toList (r.I+1)).1 with i:=r.i}):=by unfold JP;rw[v.o,hok,h5];rfl
     go_wp2_with(first|(go_at_call 139;refine(qE B g r _ f.o d).mono ?_;rintro e w' ⟨rfl,a⟩;have a:=a.symm;subst a)|(go_at_call 140;refine(sE B g r _ f.o l (by omega)).mono ?_;rintro e w' ⟨rfl,a⟩;have a:=a.symm;subst a)|(go_at_call 141;refine(tJ s (r.I+1) _ hs (by omega) (by omega) F).mono ?_;rintro e w1 ⟨q,c⟩;simp only[gB,aC]at q;subst q)|(go_at_call 101;refine(xG B g N r {(cV s.toList (r.I+1)).1 with i:=r.i} _ (by exact(f.o.X c).alloc (E (aC {(cV s.toList (r.I+1)).1 with i:=r.i}) 104)) hF hN (by have:=c.size;simp;omega) d l (by omega) V aa).mono ?_;rintro e w2 ⟨rfl,p,n⟩));go_ret;rw[u.o];exact⟨Z,p,(Eg.of ((c.mono hB).alloc (by have:=c.size;omega) _)).trans n⟩
   ·cases hl:s.toList==fE (eT r)++[58]
    ·have v:JP (dA r s.toList=if !(cV s.toList (r.I+1)).2||(cV s.toList (r.I+1)).1.k==5&&eT r != 0 then(r,G)else cZ r {(cV s.toList (r.I+1)).1 with i:=r.i}):=by unfold JP;rw[HT.o,ho,hl];rfl
     have HL:=JO hl
     cases hok:(cV s.toList (r.I+1)).2
     ·have u:JP (dA r s.toList=(r,G)):=by unfold JP;rw[v.o,hok];rfl
      go_wp2_with(first|(go_at_call 139;refine(qE B g r _ f.o d).mono ?_;rintro e w' ⟨rfl,a⟩;have a:=a.symm;subst a)|(go_at_call 84;refine(vQ _ _ H L F).mono ?_;rintro e wL ⟨t,rfl,m,b⟩;have x:=JO (f.o.X b);have ab:=m.size;have hq:(s.toList==(t++⟨#[58]⟩).toList)=G:=by rw[gD,m.1,show(⟨#[58]⟩:ByteArray).toList=[58]from eK #[58]];exact HL.o)|(go_at_call 140;refine(sE B g r _ x.o l (by omega)).mono ?_;rintro e w' ⟨rfl,a⟩;have a:=a.symm;subst a)|(go_at_call 141;refine(tJ s (r.I+1) _ hs (by omega) (by omega) (F.X b)).mono ?_;rintro e w1 ⟨q,z⟩;have c:=b.trans (z.mono b.size);simp only[gB,aC]at q;subst q));go_ret;rw[u.o];exact⟨Z,(f.o.X c).alloc _,Eg.of ((c.mono hB).alloc (by have:=c.size;omega) _)⟩
     cases h5:(cV s.toList (r.I+1)).1.k==5
     rotate_left
     ·have u:JP (dA r s.toList=(r,G)):=by unfold JP;rw[v.o,hok,h5,ho];rfl
      go_wp2_with(first|(go_at_call 139;refine(qE B g r _ f.o d).mono ?_;rintro e w' ⟨rfl,a⟩;have a:=a.symm;subst a)|(go_at_call 84;refine(vQ _ _ H L F).mono ?_;rintro e wL ⟨t,rfl,m,b⟩;have x:=JO (f.o.X b);have ab:=m.size;have hq:(s.toList==(t++⟨#[58]⟩).toList)=G:=by rw[gD,m.1,show(⟨#[58]⟩:ByteArray).toList=[58]from eK #[58]];exact HL.o)|(go_at_call 140;refine(sE B g r _ x.o l (by omega)).mono ?_;rintro e w' ⟨rfl,a⟩;have a:=a.symm;subst a)|(go_at_call 141;refine(tJ s (r.I+1) _ hs (by omega) (by omega) (F.X b)).mono ?_;rintro e w1 ⟨q,z⟩;have c:=b.trans (z.mono b.size);simp only[gB,aC]at q;subst q));go_ret;rw[u.o];exact⟨Z,(f.o.X c).alloc _,Eg.of ((c.mono hB).alloc (by have:=c.size;omega) _)⟩
     ·have u:JP (dA r s.toList=cZ r {(cV s.toList (r.I+1)).1 with i:=r.i}):=by unfold JP;rw[v.o,hok,h5];rfl
      go_wp2_with(first|(go_at_call 139;refine(qE B g r _ f.o d).mono ?_;rintro e w' ⟨rfl,a⟩;have a:=a.symm;subst a)|(go_at_call 84;refine(vQ _ _ H L F).mono ?_;rintro e wL ⟨t,rfl,m,b⟩;have x:=JO (f.o.X b);have ab:=m.size;have hq:(s.toList==(t++⟨#[58]⟩).toList)=G:=by rw[gD,m.1,show(⟨#[58]⟩:ByteArray).toList=[58]from eK #[58]];exact HL.o)|(go_at_call 140;refine(sE B g r _ x.o l (by omega)).mono ?_;rintro e w' ⟨rfl,a⟩;have a:=a.symm;subst a)|(go_at_call 141;refine(tJ s (r.I+1) _ hs (by omega) (by omega) (F.X b)).mono ?_;rintro e w1 ⟨q,z⟩;have c:=b.trans (z.mono b.size);simp only[gB,aC]at q;subst q)|(go_at_call 101;refine(xG B g N r {(cV s.toList (r.I+1)).1 with i:=r.i} _ (by exact(f.o.X c).alloc (E (aC {(cV s.toList (r.I+1)).1 with i:=r.i}) 104)) hF hN (by have:=c.size;simp;omega) d l (by omega) V aa).mono ?_;rintro e w2 ⟨rfl,p,n⟩));go_ret;rw[u.o];exact⟨Z,p,(Eg.of ((c.mono hB).alloc (by have:=c.size;omega) _)).trans n⟩
    ·have u:JP (dA r s.toList=cZ r {JR.zero with k:=11,i:=r.i}):=by unfold JP;rw[HT.o,ho,hl];rfl
     have HL:=JO hl;go_wp2_with(first|(go_at_call 139;refine(qE B g r _ f.o d).mono ?_;rintro e w' ⟨rfl,a⟩;have a:=a.symm;subst a)|(go_at_call 84;refine(vQ _ _ H L F).mono ?_;rintro e wL ⟨t,rfl,m,b⟩;have x:=JO (f.o.X b);have ab:=m.size;have hq:(s.toList==(t++⟨#[58]⟩).toList)=A:=by rw[gD,m.1,show(⟨#[58]⟩:ByteArray).toList=[58]from eK #[58]];exact HL.o)|(go_at_call 101;refine(xG B g N r {JR.zero with k:=11,i:=r.i} _ (by exact x.o) hF hN (by have:=b.size;omega) d l (by omega) V aa).mono ?_;rintro e w2 ⟨rfl,p,n⟩));go_ret;rw[u.o];exact⟨Z,p,(Eg.of (b.mono hB)).trans n⟩
namespace P
def Opn(r:Rd):Prop:=∀x∈r.O,0<=x/\x<=r.I
theorem Av(h:Opn r)(a:0<=r.I):0<=eT r/\eT r<=r.I:=by
 unfold eT
 cases hl:r.O.getLast? with
 |none=>exact⟨Int.le_refl _,a⟩
 |some x=>exact h x (List.mem_of_getLast? hl)
structure NL(k:Nat)(r:Rd):Prop where
 good:Good k r
 O:Opn r
 cn:r.count<=k
theorem Aw(b l:Int)(h:NL (k+1) r):NL (k+1) (fB r b l).1:=by
 unfold fB
 split
 ·exact h
 ·rename_i d;have a:=h.good;refine⟨⟨by simp;omega,?_,a.O,a.ifs0,a.ifs1,by simp,a.lin0,a.lin1⟩,h.O,by simp;omega⟩;intro t c;simp at c
  rcases c with c|rfl
  ·exact a.stm t c
  ·simp
theorem Ax(m:Int)(h:NL k r)(b:0<=m)(c:m<=k+1):NL (k+1) {r with i:=m}:=by
 have a:=h.good;exact⟨⟨a.few,fun t d=>by have:=a.stm t d;omega,a.O,a.ifs0,by have:=a.ifs1;simp;omega,a.JU,b,by simpa using c⟩,h.O,by have:=h.cn;simp;omega⟩
theorem Ay(m:Int)(z:JR)(h:NL k r)(e:0<=m)(f:m<=k+1):NL (k+1) (cZ {r with i:=m} z).1:=by
 have b:=h.good;have a:=Ax m h e f;have g:∀(o:List Int) (i c:Int) (s:JR),J o<=2->0<=i->i<=k+1->0<=c->Good (k+1) (put {r with i:=m,O:=o,I:=i,count:=c} s):=fun o i c s p q t u =>
  ⟨by simp only[put,uO];exact b.few,CL _ _ _ b.stm,p,q,by simpa[put]using t,u,e,by simpa[put]using f⟩
 have F:=b.ifs1;have l:=b.ifs0;have n:=b.JU;have B:=h.cn;have v:=b.O;unfold cZ
 split
 ·exact a
 split
 ·unfold ends
  split
  ·exact a
  ·refine⟨g _ r.I r.count _ (by simp;omega) l (by omega) n,?_,by simp[put];omega⟩;intro x d;exact h.O x (List.dropLast_subset _ d)
 split
 ·exact a
 split
 ·split
  ·exact⟨⟨a.good.few,a.good.stm,a.good.O,a.good.ifs0,a.good.ifs1,by simp;omega,a.good.lin0,a.good.lin1⟩,a.O,by simp;omega⟩
  ·rename_i j;unfold gI;rw[if_neg j];refine⟨g (r.O++[r.I+1]) (r.I+1) (r.count+1) _ (by simp at j⊢;omega) (by omega) (by omega) (by omega),?_,by simp[put];omega⟩;intro x d;simp[put]at d⊢
   rcases d with d|rfl
   ·have:=h.O x d;omega
   ·omega
 ·refine⟨g r.O r.I (r.count+1) _ v l (by omega) (by omega),h.O,by simp[put];omega⟩
theorem Az(l:List UInt8)(h:NL k r)(b:r.i=k):NL (k+1) (dA {r with i:=r.i+1} l).1:=by
 have a:=Ax (r.i+1) h (by omega) (by omega);unfold dA
 split
 ·exact Aw _ _ a
 split
 ·exact Aw _ _ a
 split
 ·exact Ay _ _ h (by omega) (by omega)
 split
 ·exact a
 ·exact Ay _ _ h (by omega) (by omega)
theorem GH:NL 0 Rd.KJ:=⟨⟨by simp[Rd.KJ],by simp[Rd.KJ],by simp[Rd.KJ],by simp[Rd.KJ],by simp[Rd.KJ],by simp[Rd.KJ],by simp[Rd.KJ],by simp[Rd.KJ]⟩,by simp[Opn,Rd.KJ],by simp[Rd.KJ]⟩
end P
structure LoopA(rows:List ByteArray)(k:Nat)(r:Rd):Prop where
 run:NE Rd.KJ ((rows.take k).map xF)=(r,A)
 good:NL k r
 lin:r.i=k
theorem Q8(rows:List ByteArray):LoopA rows 0 Rd.KJ:=⟨by simp[NE],GH,Z⟩
theorem Q9(h:LoopA rows k r)(b:k<J rows)(c:(dA {r with i:=r.i+1} rows[k].toList).2=A):
  LoopA rows (k+1) (dA {r with i:=r.i+1} rows[k].toList).1:=by
 have a:=yH {r with i:=r.i+1} rows[k].toList;refine⟨?_,Az _ h.good h.lin,?_⟩
 ·rw[xY rows k b,UQ _ _ _ _ h.run,<- c]
 ·rw[a.1];have:=h.lin;simp;omega
theorem Re(d:rows.map xF++[last.toList]=KD 10 s.toList)(h:LoopA rows k r)(f:k<J rows)(c:(dA {r with i:=r.i+1} rows[k].toList).2=G):
  bG s.toList=([],(k:Int)+1):=by
 have b:=yH {r with i:=r.i+1} rows[k].toList;have a:NE Rd.KJ ((rows.take (k+1)).map xF)=dA {r with i:=r.i+1} rows[k].toList:=by
  rw[xY rows k f,UQ _ _ _ _ h.run]
 have e:(KD 10 s.toList).dropLast=(rows.take (k+1)).map xF++(rows.drop (k+1)).map xF:=by
  rw[<- d,xc,<- xb,List.take_append_drop]
 have:=Kf _ Rd.KJ ((rows.drop (k+1)).map xF) (by rw[a];exact c);unfold bG;simp only[e,this,a,c];simp only[Bool.false_eq_true,if_false];rw[b.1,h.lin]
theorem Rf(c:rows.map xF++[last.toList]=KD 10 s.toList)(h:LoopA rows (J rows) r):
  bG s.toList=if last.toList.isEmpty=G\/J r.H=0\/0<J r.O then([],(J rows:Int)+1)else(r.H,0):=by
 have a:=h.run;rw[List.take_length]at a;have b:last.toList=[]↔last.toList.isEmpty=A:=by rw[List.isEmpty_iff]
 unfold bG;simp only[<- c,xc,a,List.getLast?_concat,if_true,h.lin]
 congr 1
 simp only[ne_eq,Option.some.injEq,b,eq_iff_iff];simp[List.length_pos_iff,or_comm]
theorem Rg(B:Nat)(w:World):cN (w.alloc (E #[T D 0 0,Y C 40,Y C 0,Y C 0,T D 0 0] 114)) B (W (K w)) Rd.KJ:=by
 refine⟨T D 0 0,T D 0 0,[],?_,xd _ _ _ _,xd _ _ _ _,trivial⟩;have:=heap_alloc_new w (E #[T D 0 0,Y C 40,Y C 0,Y C 0,T D 0 0] 114);simpa[Rd.KJ]using this
theorem A0(s:ByteArray)(w:World)(hs:s.size<=8192)(hT:Tab w):
  Calls prog 46 #[U s] w fun e w'=>∃tv,e=S (.tuple #[.agg #[tv],Y C (bG s.toList).2])/\bK w' (W (K w)) tv (bG s.toList).1/\Below (W (K w)) w w':=by
 go_enter func46,ntmps46;go_wp2_with fail;refine(UI 40 _).mono ?_;rintro e B ⟨rfl,t⟩;have aJ:W (K w)+1<=W (K B):=by have:=t.size;simpa using this
 have l:B.heap[W (K w)]?=M (E #[T D 0 0] 52 (0,0)):=by
  rw[t.block _ (by simp)];exact heap_alloc_new w _
 obtain⟨z0,z1,z2⟩:=dG l;have aj:=JO l;have m:JP (Below (W (K w)) w B):=((x1 _ _).alloc (xR _) _).trans (t.mono (by simp));go_wp2_with fail;refine(UH s _ hs).mono ?_;rintro e F ⟨gl,cl,rows,last,rfl,HW,aE,aQ,aP,ay,ab,aF,g⟩;have ax:=JO ((Rg (W (K F)) B).X g);have x:F.heap[W (K w)]?=M (E #[T D 0 0] 52 (0,0)):=by
  rw[g.block _ (by simp;omega),Below.heap_alloc _ _ _ (by omega)];exact aj.o
 have ak:=JO x;have n:JP (Below (W (K w)) w F):=(m.o.alloc (by omega) _).trans (g.mono (by simp;omega));have aK:W (K B)+1<=W (K F):=by have:=g.size;simpa using this
 have aq:=JO aE;have ar:=JO aF;go_wp2;go_loopw[18] (fun i wr=>∃k:Nat,∃r:Rd,k<=J rows/\i=Y C k/\JP (LoopA rows k r)/\JP (cN wr (W (K F)) (W (K B)) r)/\JP (bM wr gl 0 rows)/\
   JP (wr.heap[W (K w)]?=M (E #[T D 0 0] 52 (0,0)))/\W (K F)<=W (K wr)/\Below (W (K w)) w wr) fun i _=>J rows-(intOf i).toNat
 case atStart=>exact⟨0,Rd.KJ,Nat.zero_le _,Z,Q8 _,ax,aq,ak,xR _,n.o⟩
 case round =>
  obtain⟨k,r,hk,rfl,q,HR,aa,HB,aG,b⟩:=hrel;have a:=q.o.good.good;have ae:=q.o.good.O;have ac:=q.o.lin;have aL:=q.o.good.cn;have af:=(Av ae a.ifs0).1;have aI:=(Av ae a.ifs0).2;have aM:=a.ifs1;by_cases hlt:k<J rows
  ·have aD:rows[k]?=M rows[k]:=List.getElem?_eq_getElem hlt;have aw:=aa.o k rows[k] aD;simp only[x4]at aw;have aH:=ar.o rows[k] (List.getElem_mem hlt);have aN:(k:Int)<(J rows:Int):=by omega
   have au:=JO fun h=>Q9 q.o hlt h;have am:=JO fun h=>Re HW.o q.o hlt h;generalize rows[k]=row at*;have N:=JO ac
   cases ht:(dA {r with i:=r.i+1} row.toList).2
   all_goals
    have aC:=JO (HR.o.pK ((k:Int)+1));go_wp2_with fail;refine(Q7 (W (K F)) (W (K B)) k {r with i:=(k:Int)+1} row _ aC.o aH ⟨a.few,a.stm⟩ (by omega) aG (by have:=a.O;simp;omega) a.ifs0 (by simp;omega) a.JU (by simp;omega) af (by have h9:eT {r with i:=(k:Int)+1}=eT r:=Z;omega) (hT.X b)).mono ?_;rintro e w3 ⟨I,ag,j⟩;have eL:({r with i:=(k:Int)+1}:Rd)={r with i:=r.i+1}:=by rw[N.o]
    rw[eL]at I ag;rw[ht]at I;subst I;have d:w3.heap[W (K w)]?=M (E #[T D 0 0] 52 (0,0)):=(j.block _ (by omega) (by omega)).trans HB.o;obtain⟨z0,z1,z2⟩:=dG d;have L:=JO d;have c:JP (Below (W (K w)) w w3):=b.trans (j.X (by omega) (by omega));have av:JP (bM w3 gl 0 rows):=aa.o.jZ fun _=>j.block gl ay (by simp at ab;omega);have aR:=j.size;have ap:=JO ag;go_wp2
   ·rw[am.o ht];refine pB (p:=2) (u:=3) (W (K w)) (T D 0 0) _ (by kernel_rfl) Z Z (by exact bC L.o 0 _) Z ⟨_,Z,bK.nil _ _,?_⟩;exact(c.o).setCell (xR _) _
   ·go_roundw
    case rel=>exact⟨k+1,_,by omega,by go_num,au.o ht,ap,av,L,by omega,c.o⟩
    case measure=>simp[intOf];omega
  ·have az:k=J rows:=by omega
   subst az;have HE:=JO (Rf HW.o q.o);have ai:J r.H<6:=by have:=a.few;omega
   have ad:J r.O<10:=by have:=a.O;omega
   obtain⟨z0,z1,z2⟩:=dG HB.o;have aO:¬(J rows:Int)<(J rows:Int):=by omega
   cases I:last.toList.isEmpty
   ·go_wp2;rw[bD HE,if_pos (Or.inl I)];refine pB (p:=2) (u:=3) (W (K w)) (T D 0 0) _ (by kernel_rfl) Z Z (by exact bC HB.o 0 _) Z ⟨_,Z,bK.nil _ _,?_⟩;exact b.setCell (xR _) _
   cases hw:decide (0<J r.H)&&decide (J r.O=0)
   ·have aB:last.toList.isEmpty=G\/J r.H=0\/0<J r.O:=by
     have z:=hw;rw[Bool.and_eq_false_iff,decide_eq_false_iff_not,decide_eq_false_iff_not]at z;omega
    have ao:=JO aB;go_wp2_with(first|(go_at_call 54;refine(yU _ _ r _ HR.o ai ad).mono ?_;rintro e w' ⟨rfl,rfl⟩;rw[hw]));rw[bD HE,if_pos ao.o];refine pB (p:=2) (u:=3) (W (K w)) (T D 0 0) _ (by kernel_rfl) Z Z (by exact bC HB.o 0 _) Z ⟨_,Z,bK.nil _ _,?_⟩;exact b.setCell (xR _) _
   ·have aA:¬(last.toList.isEmpty=G\/J r.H=0\/0<J r.O):=by
     have z:=hw;rw[Bool.and_eq_true,decide_eq_true_eq,decide_eq_true_eq]at z;rintro(h|h|h)
     ·rw[I]at h;cases h
     ·omega
     ·omega
    have an:=JO aA;obtain⟨tv,ov,vs,ah⟩:=HR.o;obtain⟨ta,tc,oa,oc,rfl,rfl⟩:=ah.gZ;have V:=JO ah;go_wp2_with(first|(go_at_call 54;refine(yU _ _ r _ HR.o ai ad).mono ?_;rintro e w' ⟨rfl,rfl⟩;rw[hw])|(go_at_call 55;refine(UJ _ _ r _ _ vs _ V.o).mono ?_;rintro e w4 ⟨rfl,v⟩;have f:=(v.block _ (by omega)).trans HB.o;obtain⟨y0,y1,y2⟩:=dG f;have al:=JO f));rw[bD HE,if_neg an.o];refine pB (p:=2) (u:=3) (W (K w)) _ _ (by kernel_rfl) Z Z (by exact bC al.o 0 _) Z ⟨_,Z,UF V.o v (by omega) _,(b.trans (v.mono (by omega))).setCell (xR _) _⟩
theorem RJ{b:Func}{p q u v:Tmp}(h:b.results=#[.tmp p,.tmp q,.tmp u,.tmp v])(a:Array Value)(c:Program)(w:World):
  (results b a).run c w=.ok (.tuple #[a.getD p undef,a.getD q undef,a.getD u undef,a.getD v undef]) w:=by
 simp only[results,h];simp[Sem.run_bind,Result.andThen]
end Go.Proofs.YtlikcongbhhpfaaGreatDoor
