import Derived.Shelf.Strconv.Itoa3
import Derived.Test.YtonodfjdiepglaaGreatDoorL08
set_option linter.unusedVariables false
set_option linter.unusedSimpArgs false
set_option maxHeartbeats 12800000
namespace Go.Proofs.YtonodfjdiepglaaGreatDoor
open Go Go.RowKit Go.Proofs.Tryz P R
set_option maxRecDepth 1000000
variable {w w':World} {ws:List ByteArray}
open _root_.ByteArray renaming toList→xF
open Nat renaming le_refl→xR
open Go.Lib renaming decDigits_length→xW,decDigits→x1,nDigits_big→x4
open Go.Instr renaming slice→x2
open Go.RowKit.Below renaming refl→x3
open List renaming isPrefixOf_iff_prefix→x5,drop_zero→x6,drop_eq_getElem_cons→x7,length_map→x8,prefix_iff_eq_take→x9,take_of_length_le→xa
def zLL:Shelf.Ren:=⟨fun | 171=>96 | 243=>115 | 246=>130 | 283=>148 | 284=>149 | 285=>150 | 286=>151 | 129=>158 | 317=>157 | 318=>159 | 319=>160 | 320=>161 | 337=>162 | 338=>163 | n=>n,fun | 3=>3 | 9=>9 | 2=>2 | 4=>4 | 171=>195 | 0=>0 | 53=>143 | 37=>92 | 5=>5 | 173=>198 | 212=>203 | 51=>204 | 20=>20 | 213=>205 | 46=>187 | 232=>208 | 233=>209 | n=>n,fun | 17=>0 | 18=>1 | 19=>2 | n=>n⟩
theorem zLz:LaysM.n171 prog zLL where
 mixed:=by kernel_rfl
 f129:=func158.trans (congrArg some (by kernel_rfl))
 f171:=func96.trans (congrArg some (by kernel_rfl))
 f243:=func115.trans (congrArg some (by kernel_rfl))
 f246:=func130.trans (congrArg some (by kernel_rfl))
 f283:=func148.trans (congrArg some (by kernel_rfl))
 f284:=func149.trans (congrArg some (by kernel_rfl))
 f285:=func150.trans (congrArg some (by kernel_rfl))
 f286:=func151.trans (congrArg some (by kernel_rfl))
 f317:=func157.trans (congrArg some (by kernel_rfl))
 f318:=func159.trans (congrArg some (by kernel_rfl))
 f319:=func160.trans (congrArg some (by kernel_rfl))
 f320:=func161.trans (congrArg some (by kernel_rfl))
 f337:=func162.trans (congrArg some (by kernel_rfl))
 f338:=func163.trans (congrArg some (by kernel_rfl))
 t0:=underlying0
 a0:=isAgg0
 z0:=sizeOf0
 v0:=zeroValue0
 t2:=underlying2
 a2:=isAgg2
 z2:=sizeOf2
 v2:=zeroValue2
 t3:=underlying3
 a3:=isAgg3
 z3:=sizeOf3
 v3:=zeroValue3
 t4:=underlying4
 a4:=isAgg4
 z4:=sizeOf4
 v4:=zeroValue4
 t5:=underlying5
 a5:=isAgg5
 z5:=sizeOf5
 v5:=zeroValue5
 t9:=underlying9
 a9:=isAgg9
 z9:=sizeOf9
 v9:=zeroValue9
 t20:=underlying20
 a20:=isAgg20
 z20:=sizeOf20
 v20:=zeroValue20
 t37:=underlying92
 a37:=isAgg92
 z37:=sizeOf92
 v37:=zeroValue92
 t46:=underlying187
 a46:=isAgg187
 z46:=sizeOf187
 v46:=zeroValue187
 t51:=underlying204
 a51:=isAgg204
 z51:=sizeOf204
 v51:=zeroValue204
 t53:=underlying143
 a53:=isAgg143
 z53:=sizeOf143
 v53:=zeroValue143
 t171:=underlying195
 a171:=isAgg195
 z171:=sizeOf195
 v171:=zeroValue195
 t173:=underlying198
 a173:=isAgg198
 z173:=sizeOf198
 v173:=zeroValue198
 t212:=underlying203
 a212:=isAgg203
 z212:=sizeOf203
 v212:=zeroValue203
 t213:=underlying205
 a213:=isAgg205
 z213:=sizeOf205
 t232:=underlying208
 a232:=isAgg208
 z232:=sizeOf208
 v232:=zeroValue208
 t233:=underlying209
 a233:=isAgg209
 z233:=sizeOf209
 v233:=zeroValue209
 g17:=by kernel_rfl
 g18:=by kernel_rfl
 g19:=by kernel_rfl
 i0:=by kernel_rfl
 i2:=by kernel_rfl
 i3:=by kernel_rfl
 i4:=by kernel_rfl
 i5:=by kernel_rfl
 i9:=by kernel_rfl
 i20:=by kernel_rfl
 i37:=by kernel_rfl
 i46:=by kernel_rfl
 i51:=by kernel_rfl
 i53:=by kernel_rfl
 i171:=by kernel_rfl
 i173:=by kernel_rfl
 i212:=by kernel_rfl
 i232:=by kernel_rfl
 i233:=by kernel_rfl
 m17:=by kernel_rfl
 m18:=by kernel_rfl
 m19:=by kernel_rfl
def Tab (w:World):Prop:=Lib.TabIs prog w "internal/strconv.uint64pow10" .u64 Lib.pow10Tab
theorem Tab.below (h:Tab w) (b:Below w.heap.size w w'):Tab w':=by
 unfold Tab Lib.TabIs World.var? at *
 cases hg:prog.globalNamed "internal/strconv.uint64pow10" with
 | none=>simp[hg] at h
 | some g =>
  simp only[hg,Option.bind_some] at h ⊢;have a:g<w.heap.size:=by
   rcases Nat.lt_or_ge g w.heap.size with c | c
   ·exact c
   ·rw[Array.getElem?_eq_none c] at h;simp at h
  rw[b.block g a];exact h
theorem zIb (w:World) (k:Nat) (a:Array Obj):Below w.heap.size w (Sort.grow (w.drewN k) a) :=
 ⟨rfl,rfl,rfl,by show w.heap.size<=(w.heap++a).size;rw[Array.size_append];omega,fun j b=>by show (w.heap++a)[j]?=w.heap[j]?;rw[Array.getElem?_append_left b]⟩
theorem zHm (n:Nat) (h:n<10000):(x1 n).length<=4:=by
 have a:∀ m,m<10->(x1 m).length<=1:=fun m b=>by rw[xW,Lib.nDigits_small b];omega
 have d:∀ m,m<100->(x1 m).length<=2:=fun m b=>by
  by_cases c:m<10
  ·have:=a m c;omega
  ·rw[xW,x4 c,<- xW];have:=a (m / 10) (by omega);omega
 have e:∀ m,m<1000->(x1 m).length<=3:=fun m b=>by
  by_cases c:m<10
  ·have:=a m c;omega
  ·rw[xW,x4 c,<- xW];have:=d (m / 10) (by omega);omega
 by_cases c:n<10
 ·have:=a n c;omega
 ·rw[xW,x4 c,<- xW];have:=e (n / 10) (by omega);omega
theorem zJj (n:Int) (w:World) (c:0<=n) (h:n<10000) (a:Tab w) :
  Calls prog 96 #[.int .i64 n] w fun e w'=>∃ s,e=.returned (.string s)/\fM 4 s (bP n)/\Below w.heap.size w w':=by
 refine (Any.strconv_Itoa zLz n (by omega) (by omega) w a).mono ?_;rintro e w' ⟨rfl,k,b,rfl⟩;have e:Lib.itoa n=x1 n.toNat:=by
  unfold Lib.itoa
  first | rw[if_neg (by omega)] | rw[if_pos (by omega)]
 refine⟨_,rfl,⟨?_,?_⟩,zIb w k b⟩
 ·rw[e];exact wT _
 ·rw[e,<- bS,wT];exact zHm _ (by omega)
theorem vG (n:Int) (w:World) (b:0<=n) (h:n<10000) (c:Tab w) :
  Calls prog 63 #[.int .i64 n] w fun e w'=>∃ s,e=.returned (.string s)/\fM 5 s (kAO n)/\Below w.heap.size w w':=by
 go_enter func63,ntmps63;go_wp2_with (first | (go_at_call 96;refine (zJj n _ b h c).mono ?_;rintro e w' ⟨s,rfl,a,d⟩;have f:=a.size));go_ret;refine⟨_,rfl,⟨?_,?_⟩,d⟩
 ·simp[kO,aP,a.1,kAO]
 ·simp[kA];omega
theorem zIc (a:Int) (l:List UInt8) (f o b:Nat) (e:b<2):gE a l (f+1) (2*o+b)=if zMU a (o:Int)&&l==lC (o:Int) (b:Int) then some ((o:Int),(b:Int)) else gE a l f (2*o+b+1):=by
 rw[gE];have c:(2*o+b) / 2=o:=by omega
 have d:(2*o+b) % 2=b:=by omega
 rw[c,d]
theorem zEt (g:Nat) (a:Stm) (s:ByteArray) (w:World) (h:bC w g a) :
  Calls prog 102 #[.pointer (some ⟨g,0,none⟩),.string s] w fun e w'=>e=.returned (.bool (zMB a s.toList).2)/\bC w' g (zMB a s.toList).1/\w.grownBy w' (some g):=by
 obtain⟨v,u,g0,C,D,E,F,G,H,I,J,K,r⟩:=h.facts;have l:=zAa h;clear h
 cases ho:mK a.kind
 ·have k:Hid (zMB a s.toList=(a,s.toList==[])):=by unfold Hid zMB;rw[ho];rfl
  cases hs:s.toList.isEmpty
  all_goals
   have f:(s.toList==[])=s.toList.isEmpty:=by cases s.toList<;>rfl
   go_enter func102,ntmps102;go_wp2_with (first | (go_at_call 116;refine (zFD _ _).mono ?_;rintro e w' ⟨rfl,rfl⟩;rw[ho]));go_ret;rw[k.out,f,hs];exact⟨rfl,l.out,jM _ _⟩
 ·have k:Hid (zMB a s.toList=match gE a.kind s.toList 12 0 with | some (o,b)=>({ a with order:=o,scope:=b },true) | none=>(a,false)):=by unfold Hid zMB;rw[ho];rfl
  go_enter func102,ntmps102;go_wp2_with (first | (go_at_call 116;refine (zFD _ _).mono ?_;rintro e w' ⟨rfl,rfl⟩;rw[ho]));go_loop [5] (fun i=>∃ o:Nat,o<=6/\i=.int .i64 o/\Hid (gE a.kind s.toList 12 0=gE a.kind s.toList (12-2*o) (2*o))) (fun i=>6-(intOf i).toNat)
  case atStart=>exact⟨0,by omega,rfl,rfl⟩
  case round =>
   obtain⟨o,z,rfl,p⟩:=hrel;by_cases hlt:o<6
   ·have x:(o:Int)<=5:=by omega
    go_wp2;go_loop [6] (fun i=>∃ b:Nat,b<=2/\i=.int .i64 b/\Hid (gE a.kind s.toList 12 0=gE a.kind s.toList (12-2*o-b) (2*o+b))) (fun i=>2-(intOf i).toNat)
    case atStart=>exact⟨0,by omega,rfl,p⟩
    case round =>
     obtain⟨b,B,rfl,j⟩:=hrel;by_cases hls:b<2
     ·have y:(b:Int)<=1:=by omega
      have c:Hid (gE a.kind s.toList 12 0=if zMU a.kind (o:Int)&&s.toList==lC (o:Int) (b:Int) then some ((o:Int),(b:Int)) else gE a.kind s.toList (12-2*o-(b+1)) (2*o+(b+1))):=by
       unfold Hid;rw[j.out,show 12-2*o-b=(12-2*o-(b+1))+1 by omega,zIc _ _ _ _ _ hls];rfl
      cases ha:zMU a.kind (o:Int)
      ·have d:Hid (gE a.kind s.toList 12 0=gE a.kind s.toList (12-2*o-(b+1)) (2*o+(b+1))):=by unfold Hid;rw[c.out,ha];rfl
       clear c j;go_wp2_with (first | (go_at_call 117;refine (FI _ _ _).mono ?_;rintro e w' ⟨rfl,rfl⟩;rw[ha]));go_round
       case rel=>exact⟨b+1,by omega,by go_num,d⟩
       case measure=>simp[intOf];omega
      ·cases hb:(s.toList==lC (o:Int) (b:Int))
       ·have d:Hid (gE a.kind s.toList 12 0=gE a.kind s.toList (12-2*o-(b+1)) (2*o+(b+1))):=by unfold Hid;rw[c.out,ha,hb];rfl
        have HB:=zAa hb;clear c j hb;go_wp2_with (first | (go_at_call 117;refine (FI _ _ _).mono ?_;rintro e w' ⟨rfl,rfl⟩;rw[ha]) | (go_at_call 118;refine (zHa _ _ _).mono ?_;rintro e w' ⟨t,rfl,n,rfl⟩;have A:(s.toList==t.toList)=false:=(by rw[n.1];exact HB.out)));go_round
        case rel=>exact⟨b+1,by omega,by go_num,d⟩
        case measure=>simp[intOf];omega
       ·have d:Hid (zMB a s.toList=({ a with order:=(o:Int),scope:=(b:Int) },true)):=by unfold Hid;rw[k.out,c.out,ha,hb];rfl
        have HB:=zAa hb;have q:=zAa ((l.out.lY (o:Int)).fR (b:Int));clear c j hb;go_wp2_with (first | (go_at_call 117;refine (FI _ _ _).mono ?_;rintro e w' ⟨rfl,rfl⟩;rw[ha]) | (go_at_call 118;refine (zHa _ _ _).mono ?_;rintro e w' ⟨t,rfl,n,rfl⟩;have A:(s.toList==t.toList)=true:=(by rw[n.1];exact HB.out)));go_ret;rw[d.out];exact⟨rfl,q.out,gD (gD (jM _ _) _ _) _ _⟩
     ·have f:b=2:=by omega
      have d:Hid (gE a.kind s.toList 12 0=gE a.kind s.toList (12-2*(o+1)) (2*(o+1))):=by
       unfold Hid;rw[j.out,f,show 12-2*o-2=12-2*(o+1) by omega,show 2*o+2=2*(o+1) by omega]
      clear j;go_wp2;go_round
      case rel=>exact⟨o+1,by omega,by go_num,d⟩
      case measure=>simp[intOf];omega
   ·have m:o=6:=by omega
    have d:Hid (zMB a s.toList=(a,false)):=by unfold Hid;rw[k.out,p.out,m];rfl
    go_wp2;go_ret;rw[d.out];exact⟨rfl,l.out,jM _ _⟩
theorem zDJ (g:Nat) (d:Stm) (c:UInt8) (s:ByteArray) (w:World) (h:bC w g d) (y:0<=d.label) (z:d.label<10000) (K:Tab w) :
  Calls prog 119 #[.pointer (some ⟨g,0,none⟩),.int .u8 (c.toNat:Int),.string s] w fun e w'=>e=.returned (.bool (kAR d c s.toList).2)/\bC w' g (kAR d c s.toList).1/\w.grownBy w' (some g):=by
 obtain⟨u,r,g0,A,B,C,D,E,F,G,H,I,q⟩:=h.facts;have p:=zAa h;clear h
 cases h1:((c.toNat:Int)==100)
 rotate_left
 ·have j:c=100:=(wB c 100 (by omega)).1 h1;have k:Hid (kAR d c s.toList=({ d with dest:=(zME s.toList).1 },(zME s.toList).2)):=by unfold Hid kAR;rw[if_pos j]
  have m:Hid (bC (w.setCell ⟨g,2,none⟩ (.int .i64 (zME s.toList).1)) g { d with dest:=(zME s.toList).1 }):=p.out.set _ 2 _ rfl;clear j;go_enter func119,ntmps119;go_wp2_with (first | (go_at_call 133;refine (zEq s _).mono ?_;rintro e w' ⟨rfl,rfl⟩));go_ret;rw[k.out];exact⟨rfl,m.out,gD (jM _ _) _ _⟩
 have l:¬ c=100:=fun e=>by subst e;simp at h1
 cases h2:((c.toNat:Int)==118)
 rotate_left
 ·have j:c=118:=(wB c 118 (by omega)).1 h2;have k:Hid (kAR d c s.toList=({ d with var:=(zNe s.toList).1 },(zNe s.toList).2)):=by unfold Hid kAR;rw[if_neg l,if_pos j]
  have m:=zAa (p.out.qM (zNe s.toList).1);clear j l;go_enter func119,ntmps119;go_wp2_with (first | (go_at_call 134;refine (zGA s _).mono ?_;rintro e w' ⟨rfl,rfl⟩));go_ret;rw[k.out];exact⟨rfl,m.out,gD (jM _ _) _ _⟩
 have o:¬ c=118:=fun e=>by subst e;simp at h2
 cases h3:((c.toNat:Int)==97)
 rotate_left
 ·have j:c=97:=(wB c 97 (by omega)).1 h3;have k:Hid (kAR d c s.toList=({ d with a:=(zMA s.toList).1 },(zMA s.toList).2)):=by unfold Hid kAR;rw[if_neg l,if_neg o,if_pos j]
  clear j l o;go_enter func119,ntmps119;go_wp2_with (first | (go_at_call 135;refine (zEs s _).mono ?_;rintro e M ⟨rfl,i⟩;have f:=zAa (p.out.below i);have m:=zAa ((f.out.DQ (zMA s.toList).1).alloc (.cells #[.bool (zMA s.toList).1.reg,.int .i64 (zMA s.toList).1.n] 107));obtain⟨u,r,g0,A,B,C,D,E,F,G,H,I,q⟩:=f.out.facts));go_ret;rw[k.out];exact⟨rfl,m.out,zEe (gD (gD (nP i _) _ _) _ _) _⟩
 have x:¬ c=97:=fun e=>by subst e;simp at h3
 cases h4:((c.toNat:Int)==98)
 rotate_left
 ·have j:c=98:=(wB c 98 (by omega)).1 h4;have k:Hid (kAR d c s.toList=({ d with b:=(zMA s.toList).1 },(zMA s.toList).2)):=by unfold Hid kAR;rw[if_neg l,if_neg o,if_neg x,if_pos j]
  clear j l o x;go_enter func119,ntmps119;go_wp2_with (first | (go_at_call 135;refine (zEs s _).mono ?_;rintro e M ⟨rfl,i⟩;have f:=zAa (p.out.below i);have m:=zAa ((f.out.EK (zMA s.toList).1).alloc (.cells #[.bool (zMA s.toList).1.reg,.int .i64 (zMA s.toList).1.n] 107));obtain⟨u,r,g0,A,B,C,D,E,F,G,H,I,q⟩:=f.out.facts));go_ret;rw[k.out];exact⟨rfl,m.out,zEe (gD (gD (nP i _) _ _) _ _) _⟩
 have J:¬ c=98:=fun e=>by subst e;simp at h4
 have k:Hid (kAR d c s.toList=(d,s.toList==kAO d.label)):=by unfold Hid kAR;rw[if_neg l,if_neg o,if_neg x,if_neg J]
 clear l o x J
 cases hb:(s.toList==kAO d.label)
 all_goals
  have HB:=zAa hb;clear hb;go_enter func119,ntmps119;go_wp2_with (first | (go_at_call 63;refine (vG _ _ y z K).mono ?_;rintro e w' ⟨t,rfl,L,v⟩;have N:=(show (s.toList==t.toList)=(s.toList==kAO d.label) by rw[L.1]).trans HB.out));go_ret;rw[k.out,HB.out];exact⟨rfl,p.out.below v,nP v _⟩
theorem zGB (a:Stm) (c:UInt8) (l:List UInt8):(kAR a c l).1.label=a.label:=by
 unfold kAR
 split
 ·rfl
 split
 ·rfl
 split
 ·rfl
 split<;>rfl
theorem zGC (a:Stm) (cs:List UInt8) (ws:List (List UInt8)) (k:Nat) (b:k<cs.length) (c:k<ws.length) :
  zOe a (cs.drop k) (ws.drop k)=if (kAR a cs[k] ws[k]).2 then zOe (kAR a cs[k] ws[k]).1 (cs.drop (k+1)) (ws.drop (k+1)) else (Stm.zero,false):=by
 rw[x7 b,x7 c];rfl
theorem zId (a:Stm) (cs:List UInt8) (ws:List (List UInt8)) (k:Nat) (h:ws.length<=k):zOe a (cs.drop k) (ws.drop k)=(a,true):=by
 rw[List.drop_of_length_le (l:=ws) h]
 cases cs.drop k<;>rfl
theorem zAp.qS {b off:Nat} (h:zAp w b off ws) (a:Below w.heap.size w w'):zAp w' b off ws:=h.below a
theorem zKj (w:World):bC (w.alloc (.cells #[.int .i64 0,.int .i64 0,.int .i64 0,.int .i64 0,.bool false,.int .i64 0,.bool false,.int .i64 0,.int .i64 0,.int .i64 0,.int .i64 0] 109)) w.heap.size Stm.zero:=bC.bT w Stm.zero
theorem zGD (d:Stm) (l:ByteArray) (v:Value) (ws:List ByteArray) (w:World) (h:oC w v ws) (E:0<=d.label) (F:d.label<10000) (Z:Tab w) (hz:l.size<=3) (hn:ws.length<=8193) :
  Calls prog 103 #[.agg (aQ d),.string l,v] w fun e w'=>e=.returned (mC (zMD d l.toList (ws.map xF)))/\Below w.heap.size w w':=by
 obtain⟨a,ac,rfl,ab,hw⟩:=h;have HW:=zAa hw;clear hw
 cases hlen:((l.size:Int) != (ws.length:Int))
 rotate_left
 ·have I:Hid (zMD d l.toList (ws.map xF)=(Stm.zero,false)):=by
   unfold Hid zMD;have:(l.toList.length != (ws.map xF).length)=true:=by
    rw[bS,x8,bne_iff_ne];rw[bne_iff_ne] at hlen;intro e;exact hlen (by rw[e])
   rw[this];rfl
  simp only[aQ];go_enter func103,ntmps103;go_wp2;rw[I.out];refine vM (p:=6) (u:=7) (w.heap.size+1) Stm.zero false (by kernel_rfl) rfl rfl ?_ rfl ⟨rfl,((x3 _ _).alloc (xR _) _).alloc (by simp) _⟩;have T:bC ((w.alloc (.cells (aQ d) 109)).alloc (.cells (aQ Stm.zero) 109)) (w.heap.size+1) Stm.zero:=by
   have:=bC.bT (w.alloc (.cells (aQ d) 109)) Stm.zero;simpa using this
  exact T
 ·have s:l.size=ws.length:=by have T:=hlen;simp at T;omega
  have L:=zAa s;have I:Hid (zMD d l.toList (ws.map xF)=zOe d l.toList (ws.map xF)):=by
   unfold Hid zMD;have:(l.toList.length != (ws.map xF).length)=false:=by rw[bS,x8,s];simp
   rw[this];rfl
  have X:Hid (bC ((w.alloc (.cells (aQ d) 109)).alloc (.cells (aQ Stm.zero) 109)) w.heap.size d):=(bC.bT w d).alloc _;have W:Hid (bC ((w.alloc (.cells (aQ d) 109)).alloc (.cells (aQ Stm.zero) 109)) (w.heap.size+1) Stm.zero):=by
   unfold Hid;have:=bC.bT (w.alloc (.cells (aQ d) 109)) Stm.zero;simpa using this
  have U:Hid (Below w.heap.size w ((w.alloc (.cells (aQ d) 109)).alloc (.cells (aQ Stm.zero) 109))):=((x3 _ _).alloc (xR _) _).alloc (by simp) _;clear s;simp only[aQ];go_enter func103,ntmps103;go_wp2;go_loopw [19] (fun i wr=>∃ (k:Nat) (q:Stm),k<=ws.length/\i=.int .i64 k/\Hid (q.label=d.label)/\Hid (zOe d l.toList (ws.map xF)=zOe q (l.toList.drop k) ((ws.map xF).drop k))/\Hid (bC wr w.heap.size q)/\Hid (bC wr (w.heap.size+1) Stm.zero)/\Below w.heap.size w wr) (fun i _=>ws.length-(intOf i).toNat)
  case atStart=>exact⟨0,d,Nat.zero_le _,rfl,rfl,rfl,X,W,U.out⟩
  case round =>
   obtain⟨k,q,hk,rfl,y,M,N,J,c⟩:=hrel;have af:=c.size;obtain⟨S,f2,r0,r1,r2,r3,r4,r5,r6,r7,r8,r9,Y⟩:=J.out.facts;by_cases hlt:k<ws.length
   ·have ad:(k:Int)<(ws.length:Int):=by omega
    obtain⟨b,rfl,H,aa⟩:=HW.out (by intro e;rw[e] at hlt;simp at hlt);have V:=(H.qS c) k ws[k] (by simp[hlt]);simp only[Nat.zero_add] at V;have D:k<l.size:=by rw[L.out];exact hlt
    have ae:(k:Int)<(l.size:Int):=by omega
    have C:=zAa (zGC q l.toList (ws.map xF) k (by rw[bS];exact D) (by simpa using hlt));have z:=zAa (xQ l k D);have G:(ws.map xF)[k]'(by simpa using hlt)=ws[k].toList:=by simp
    have A:=zAa G;generalize hx:ws[k]=x at *;clear hx G H
    cases hp:(kAR q l[k] x.toList).2
    ·have B:Hid (zMD d l.toList (ws.map xF)=(Stm.zero,false)):=by
      unfold Hid;rw[I.out,M.out,C.out,z.out,A.out,hp];rfl
     go_wp2_with (first | (go_at_call 119;refine (zDJ w.heap.size q l[k] x _ N.out (by rw[y.out];exact E) (by rw[y.out];exact F) (Z.below c)).mono ?_;rintro e w1 ⟨rfl,j,f⟩;rw[hp];have g:=zAa (J.out.aA (f.block _ S (by simp)));obtain⟨S,f2,r0,r1,r2,r3,r4,r5,r6,r7,r8,r9,Y⟩:=g.out.facts;have o:=zAa (kM c f (xR _));clear f j) | (refine yF (.tmp 6) (.tmp 31) rfl rfl (w.heap.size+1) Stm.zero Stm.zero rfl rfl g.out ?_;intro w2 t r;have n:=zAa t;have m:=zAa (kM o.out r (by omega))));rw[B.out];exact vM (p:=6) (u:=7) (w.heap.size+1) Stm.zero false (by kernel_rfl) rfl rfl n.out rfl ⟨rfl,m.out⟩
    ·have B:Hid (zOe d l.toList (ws.map xF)=zOe (kAR q l[k] x.toList).1 (l.toList.drop (k+1)) ((ws.map xF).drop (k+1))):=by
      unfold Hid;rw[M.out,C.out,z.out,A.out,hp];rfl
     have K:Hid ((kAR q l[k] x.toList).1.label=d.label):=by unfold Hid;rw[zGB,y.out]
     go_wp2_with (first | (go_at_call 119;refine (zDJ w.heap.size q l[k] x _ N.out (by rw[y.out];exact E) (by rw[y.out];exact F) (Z.below c)).mono ?_;rintro e w1 ⟨rfl,j,f⟩;rw[hp];have O:=zAa j;have g:=zAa (J.out.aA (f.block _ S (by simp)));have o:=zAa (kM c f (xR _));clear f j));go_roundw
     case rel=>exact⟨k+1,_,by omega,by go_num,K,B,O,g,o.out⟩
     case measure=>simp[intOf];omega
   ·have B:Hid (zMD d l.toList (ws.map xF)=(q,true)):=by
     unfold Hid;rw[I.out,M.out,zId _ _ _ _ (by simp;omega)]
    go_wp2_with (first | (refine pR (.tmp 3) rfl rfl w.heap.size q rfl N.out ?_) | (refine yF (.tmp 6) (.tmp 33) rfl rfl (w.heap.size+1) Stm.zero q rfl rfl J.out ?_;intro w2 t r;have n:=zAa t;have m:=zAa (kM c r (by omega))));rw[B.out];exact vM (p:=6) (u:=7) (w.heap.size+1) q true (by kernel_rfl) rfl rfl n.out rfl ⟨rfl,m.out⟩
theorem zHn (L f:List UInt8) (h:L.length<=f.length):L.isPrefixOf f=(f.take L.length==L):=by
 cases a:(f.take L.length==L)
 ·cases h2:L.isPrefixOf f
  ·rfl
  ·rw[x5,x9] at h2;rw[<- h2] at a;simp at a
 ·rw[x5,x9];simpa using (by simpa using a:f.take L.length=L).symm
theorem zJk (L f:List UInt8) (h:f.length<L.length):L.isPrefixOf f=false:=by
 cases h2:L.isPrefixOf f
 ·rfl
 ·rw[x5] at h2;have:=h2.length_le;omega
def gM (k next:Int):Stm:=if k==10 then { Stm.zero with kind:=k,label:=next } else { Stm.zero with kind:=k }
theorem zIe (first:List UInt8) (a:List (List UInt8)) (next:Int) (f:Nat) (k:Int):kAV first a next (f+1) k =
  if (kAk k).1.isPrefixOf first then (if (zMB (gM k next) (first.drop (kAk k).1.length)).2 then zMD (zMB (gM k next) (first.drop (kAk k).1.length)).1 (kAk k).2 a else kAV first a next f (k+1)) else kAV first a next f (k+1):=by
 rw[kAV];rfl
theorem zFp (a:Stm) (l:List UInt8):(zMB a l).1.label=a.label:=by
 unfold zMB
 split
 ·split<;>rfl
 ·rfl
theorem zGE (k next:Int) (a:0<=next) (b:next<10000):0<=(gM k next).label/\(gM k next).label<10000:=by
 unfold gM;split
 ·exact⟨a,b⟩
 ·exact⟨by simp[Stm.zero],by simp[Stm.zero]⟩
theorem zEW (w:World) (k next:Int) (h:(k==10)=true):bC (w.alloc (.cells #[.int .i64 k,.int .i64 0,.int .i64 0,.int .i64 0,.bool false,.int .i64 0,.bool false,.int .i64 0,.int .i64 0,.int .i64 0,.int .i64 next] 109)) w.heap.size (gM k next):=by
 have e:gM k next={ Stm.zero with kind:=k,label:=next }:=by unfold gM;rw[h];rfl
 rw[e];exact bC.bT w { Stm.zero with kind:=k,label:=next }
theorem zEX (w:World) (k next:Int) (h:(k==10)=false):bC (w.alloc (.cells #[.int .i64 k,.int .i64 0,.int .i64 0,.int .i64 0,.bool false,.int .i64 0,.bool false,.int .i64 0,.int .i64 0,.int .i64 0,.int .i64 0] 109)) w.heap.size (gM k next):=by
 have e:gM k next={ Stm.zero with kind:=k }:=by unfold gM;rw[h];rfl
 rw[e];exact bC.bT w { Stm.zero with kind:=k }
theorem oC.below {v:Value} (h:oC w v ws) (d:Below w.heap.size w w'):oC w' v ws:=by
 obtain⟨a,b,e,k,l⟩:=h;refine⟨a,b,e,k,fun c=>?_⟩;obtain⟨g,f,i,j⟩:=l c;exact⟨g,f,i.below d,Nat.lt_of_lt_of_le j d.size⟩
theorem sC (s:ByteArray) (next:Int) (w:World) (hs:s.size<=8192) (h0:0<=next) (h1:next<10000) (hT:Tab w) :
  Calls prog 66 #[.string s,.int .i64 next] w fun e w'=>e=.returned (mC (kAv s.toList next))/\Below w.heap.size w w':=by
 go_enter func66,ntmps66;go_wp2_with (first | (go_at_call 100;refine (zKb s _ hs).mono ?_;rintro e J ⟨f,v,ws,rfl,hf,m,V,aj,ah,E⟩;obtain⟨va,vc,rfl,ag,aa⟩:=V));have M:Hid (oC J (.slice va ws.length vc) ws):=⟨va,vc,rfl,ag,aa⟩;have HF:=zAa hf;have ai:=zAa m;have O:Hid (bC J w.heap.size Stm.zero):=(zKj w).below E;have A:Hid (Below w.heap.size w J):=((x3 _ _).alloc (xR _) _).trans (E.mono (by simp));have ab:w.heap.size<J.heap.size:=O.out.lt;have HE:Hid (kAv s.toList next=kAV f.toList (ws.map xF) next 11 0):=by unfold Hid kAv;rw[hf,m]
 clear hf m aa E;go_loopw [8] (fun i wr=>∃ k:Nat,k<=11/\i=.int .i64 k/\Hid (kAv s.toList next=kAV f.toList (ws.map xF) next (11-k) (k:Int))/\Hid (bC wr w.heap.size Stm.zero)/\Below J.heap.size J wr) (fun i _=>11-(intOf i).toNat)
 case atStart=>exact⟨0,by omega,rfl,HE,O,x3 _ _⟩
 case round =>
  obtain⟨k,hk,rfl,HG,H,d⟩:=hrel;have m:=d.size;obtain⟨f1,f2,r0,r1,r2,r3,r4,r5,r6,r7,r8,r9,al⟩:=H.out.facts;by_cases hlt:k<11
  ·have ak:(k:Int)<=10:=by omega
   have y:Hid (kAv s.toList next=if (kAk (k:Int)).1.isPrefixOf f.toList then (if (zMB (gM k next) (f.toList.drop (kAk (k:Int)).1.length)).2 then zMD (zMB (gM k next) (f.toList.drop (kAk (k:Int)).1.length)).1 (kAk (k:Int)).2 (ws.map xF) else kAV f.toList (ws.map xF) next (11-(k+1)) ((k+1:Nat):Int)) else kAV f.toList (ws.map xF) next (11-(k+1)) ((k+1:Nat):Int)):=by
    unfold Hid;rw[HG.out,show 11-k=(11-(k+1))+1 by omega,zIe];rfl
   have n:Hid (f.toList.length=f.size):=bS f;clear HG;by_cases hA:f.size<(kAk (k:Int)).1.length
   ·have x:Hid (kAv s.toList next=kAV f.toList (ws.map xF) next (11-(k+1)) ((k+1:Nat):Int)):=by
     unfold Hid;rw[y.out,zJk _ _ (by rw[n.out];exact hA)];rfl
    go_wp2_with (first | (go_at_call 101;refine (yQ _ _).mono ?_;rintro e w' ⟨b,t,rfl,r,Z,a⟩;have a:=a.symm;subst a;have c:b.size=(kAk (k:Int)).1.length:=(by rw[<- bS,r.1]);have I:(f.size:Int)<(b.size:Int):=(by omega)));go_roundw
    case rel=>exact⟨k+1,by omega,by go_num,x,H,d⟩
    case measure=>simp[intOf];omega
   cases hB:(f.toList.take (kAk (k:Int)).1.length==(kAk (k:Int)).1)
   ·have x:Hid (kAv s.toList next=kAV f.toList (ws.map xF) next (11-(k+1)) ((k+1:Nat):Int)):=by
     unfold Hid;rw[y.out,zHn _ _ (by rw[n.out];omega),hB];rfl
    have HB:=zAa hB;clear hB;go_wp2_with (first | (go_at_call 101;refine (yQ _ _).mono ?_;rintro e w' ⟨b,t,rfl,r,Z,a⟩;have a:=a.symm;subst a;have c:b.size=(kAk (k:Int)).1.length:=(by rw[<- bS,r.1]);have I:¬ (f.size:Int)<(b.size:Int):=(by omega);have T:decide ((f.size:Int)<(b.size:Int))=false:=decide_eq_false I;have U:(b.size:Int)<=(f.size:Int):=(by omega);have hq:((f.extract 0 b.size).toList==b.toList)=false:=(by rw[fW,r.1,c,x6];exact HB.out);have W:∀ j,(x2 9 (.string f) none (some (.int .i64 (b.size:Int))) none).run prog j=.ok (.string (f.extract 0 b.size)) j:=(fun j=>by rw[run_slice_string_to_if _ _ _ _ _ underlying9,if_pos (by omega)];rfl);clear c));go_roundw
    case rel=>exact⟨k+1,by omega,by go_num,x,H,d⟩
    case measure=>simp[intOf];omega
   ·have z:Hid ((kAk (k:Int)).1.isPrefixOf f.toList=true):=by unfold Hid;rw[zHn _ _ (by rw[n.out];omega),hB]
    have HB:=zAa hB;clear hB;have K:=zAa (zGE (k:Int) next h0 h1)
    cases ho:(zMB (gM k next) (f.toList.drop (kAk (k:Int)).1.length)).2
    ·have x:Hid (kAv s.toList next=kAV f.toList (ws.map xF) next (11-(k+1)) ((k+1:Nat):Int)):=by
      unfold Hid;rw[y.out,z.out,ho];rfl
     cases h10:((k:Int)==10)
     all_goals
      go_wp2_with (first | (go_at_call 101;refine (yQ _ _).mono ?_;rintro e w' ⟨b,t,rfl,r,Z,a⟩;have a:=a.symm;subst a;have c:b.size=(kAk (k:Int)).1.length:=(by rw[<- bS,r.1]);have I:¬ (f.size:Int)<(b.size:Int):=(by omega);have T:decide ((f.size:Int)<(b.size:Int))=false:=decide_eq_false I;have U:(b.size:Int)<=(f.size:Int):=(by omega);have hq:((f.extract 0 b.size).toList==b.toList)=true:=(by rw[fW,r.1,c,x6];exact HB.out);have W:∀ j,(x2 9 (.string f) none (some (.int .i64 (b.size:Int))) none).run prog j=.ok (.string (f.extract 0 b.size)) j:=(fun j=>by rw[run_slice_string_to_if _ _ _ _ _ underlying9,if_pos (by omega)];rfl);have o:Hid ((f.extract b.size f.size).toList=f.toList.drop (kAk (k:Int)).1.length):=(by unfold Hid;rw[fW,c,xa (by rw[n.out];exact xR _)]);have X:∀ j,(x2 9 (.string f) (some (.int .i64 (b.size:Int))) none none).run prog j=.ok (.string (f.extract b.size f.size)) j:=(fun j=>by rw[run_slice_string_from_if _ _ _ _ _ underlying9,if_pos (by omega)];rfl);clear c) | (go_at_call 102;refine (zEt wr.heap.size (gM (k:Int) next) (f.extract b.size f.size) _ (by first | exact zEW _ _ _ h10 | exact zEX _ _ _ h10)).mono ?_;rw[o.out,ho];rintro e w2 ⟨rfl,q,g⟩;have N:=zAa q;have D:=zAa ((H.out.alloc _).aA (g.block w.heap.size (by simp;omega) (by simp;omega)));have l:=zAa (kM (d.alloc m _) g m);have Y:=g.size;clear q g));go_roundw
      case rel=>exact⟨k+1,by omega,by go_num,x,D,l.out⟩
      case measure=>simp[intOf];omega
    ·have x:Hid (kAv s.toList next=zMD (zMB (gM k next) (f.toList.drop (kAk (k:Int)).1.length)).1 (kAk (k:Int)).2 (ws.map xF)):=by
      unfold Hid;rw[y.out,z.out,ho];rfl
     have L:Hid ((zMB (gM k next) (f.toList.drop (kAk (k:Int)).1.length)).1.label=(gM k next).label):=zFp _ _;generalize af:(zMB (gM k next) (f.toList.drop (kAk (k:Int)).1.length)).1=st at *
     cases h10:((k:Int)==10)
     all_goals
      go_wp2_with (first | (go_at_call 101;refine (yQ _ _).mono ?_;rintro e w' ⟨b,t,rfl,r,Z,a⟩;have a:=a.symm;subst a;have c:b.size=(kAk (k:Int)).1.length:=(by rw[<- bS,r.1]);have I:¬ (f.size:Int)<(b.size:Int):=(by omega);have T:decide ((f.size:Int)<(b.size:Int))=false:=decide_eq_false I;have U:(b.size:Int)<=(f.size:Int):=(by omega);have hq:((f.extract 0 b.size).toList==b.toList)=true:=(by rw[fW,r.1,c,x6];exact HB.out);have W:∀ j,(x2 9 (.string f) none (some (.int .i64 (b.size:Int))) none).run prog j=.ok (.string (f.extract 0 b.size)) j:=(fun j=>by rw[run_slice_string_to_if _ _ _ _ _ underlying9,if_pos (by omega)];rfl);have o:Hid ((f.extract b.size f.size).toList=f.toList.drop (kAk (k:Int)).1.length):=(by unfold Hid;rw[fW,c,xa (by rw[n.out];exact xR _)]);have X:∀ j,(x2 9 (.string f) (some (.int .i64 (b.size:Int))) none none).run prog j=.ok (.string (f.extract b.size f.size)) j:=(fun j=>by rw[run_slice_string_from_if _ _ _ _ _ underlying9,if_pos (by omega)];rfl);clear c) | (go_at_call 102;refine (zEt wr.heap.size (gM (k:Int) next) (f.extract b.size f.size) _ (by first | exact zEW _ _ _ h10 | exact zEX _ _ _ h10)).mono ?_;rw[o.out,ho];rintro e w2 ⟨rfl,q,g⟩;have N:=zAa (af ▸ q);have D:=zAa ((H.out.alloc _).aA (g.block w.heap.size (by simp;omega) (by simp;omega)));have l:=zAa (kM (d.alloc m _) g m);have Y:=g.size;clear q g) | (refine pR (.tmp 11) rfl rfl wr.heap.size st rfl N.out ?_) | (go_at_call 103;refine (zGD st t _ ws _ (M.out.below l.out) (by rw[L.out];exact K.out.1) (by rw[L.out];exact K.out.2) ((hT.below A.out).below l.out) Z.2 ah).mono ?_;rw[Z.1];rintro e w3 ⟨rfl,S⟩;simp only[mC];have ad:=zAa (D.out.below S);have ac:=zAa (l.out.trans (S.mono (by have:=l.out.size;omega)))) | (refine yF (.tmp 4) (.tmp 56) rfl rfl w.heap.size Stm.zero (zMD st (kAk (k:Int)).2 (ws.map xF)).1 rfl rfl ad.out ?_;intro w4 G F;have C:=zAa G;have B:=zAa (kM (A.out.trans (ac.out.mono (Nat.le_of_lt ab))) F (xR _))));rw[x.out];exact vM (p:=4) (u:=5) w.heap.size _ _ (by kernel_rfl) rfl rfl C.out rfl ⟨rfl,B.out⟩
  ·have ae:k=11:=by omega
   have x:Hid (kAv s.toList next=(Stm.zero,false)):=by unfold Hid;rw[HG.out,ae];rfl
   have l:=zAa (A.out.trans (d.mono (Nat.le_of_lt ab)));go_wp2_with (first | (refine yF (.tmp 4) (.tmp 58) rfl rfl w.heap.size Stm.zero Stm.zero rfl rfl H.out ?_;intro w4 G F;have C:=zAa G;have B:=zAa (kM l.out F (xR _))));rw[x.out];exact vM (p:=4) (u:=5) w.heap.size _ _ (by kernel_rfl) rfl rfl C.out rfl ⟨rfl,B.out⟩
end Go.Proofs.YtonodfjdiepglaaGreatDoor
