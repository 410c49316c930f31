import Derived.Laws.Bits64b
import Derived.Deep.RegionLaw
import Derived.Deep.RegionWith
import Derived.BigQuiet
import Derived.Deep.QuietTactic
import Derived.Deep.OwnRows
import Derived.Lib.ItoaNum
import Derived.Test.YtehclbpoabdpoaaGreatDoorO01
set_option linter.all false
set_option maxHeartbeats 0
namespace Go.Proofs.YtehclbpoabdpoaaGreatDoor
open Go Go.RowKit Go.Proofs.Tryz P
set_option maxRecDepth 1000000
variable {a b g:Nat}{l o r:List Nat}{α:Type}{w w':World}
open List renaming length->N
open Bool renaming false->Y,true->U
open Go.Value renaming int->C
open Go.Ending renaming returned->G
open Go.IntKind renaming i64->E
open List renaming range->xF,cons_append->x2,mem_map->x3
open Go.RowKit.Below renaming refl->xR
open Nat renaming le_refl->xW
open Bool renaming false_eq_true->x1
namespace Q
def bW(i:Int):Nat:=if i<0\/64<=i then 0 else 2^i.toNat
def PD(s:Nat)(i:Int):Bool:=s &&& bW i != 0
def QS(s:Nat)(n:Int):Nat:=if n<0\/64<=n then 0 else s*2^n.toNat%18446744073709551616
def cO(r:List Nat)(a:Int):Nat:=if a<0 then 0 else r.getD a.toNat 0
def cC(r:List Nat)(a b:Int):Bool:=PD (cO r a) b
def NU(n:Nat):List Nat:=List.replicate n 0
def dE(r:List Nat)(a b:Int):List Nat:=if a<0\/(N r:Int)<=a\/(N r:Int)<=b then r else r.set a.toNat (cO r a|||bW b)
def gV(r o:List Nat):List Nat:=(xF (N r)).map fun i:Nat=>cO r (i:Int)|||cO o (i:Int)
def kU(r o:List Nat):List Nat:=(xF (N r)).map fun i:Nat=>cO r (i:Int) &&& cO o (i:Int)
def qP(r:List Nat)(a:Nat)(t:List Nat)(b:Nat):List Nat:=if cC r a b then dE t b a else t
def sH(r:List Nat)(t:List Nat)(a:Nat):List Nat:=(xF (N r)).foldl (qP r a) t
def oN(r:List Nat):List Nat:=(xF (N r)).foldl (sH r) (NU (N r))
def lM(r next:List Nat)(a:Nat)(acc:Nat)(b:Nat):Nat:=if cC r a b then acc|||cO next b else acc
def lT(r next:List Nat)(a:Nat):Nat:=(xF (N r)).foldl (lM r next a) 0
def dZ(r next:List Nat):List Nat:=(xF (N r)).map (lT r next)
def kZ(b:Nat)(c:List Nat)(a:Nat):List Nat:=if cC c a b then c.set a (cO c a|||cO c b)else c
def lZ(n:Nat)(c:List Nat)(b:Nat):List Nat:=(xF n).foldl (kZ b) c
def lK(r:List Nat):List Nat:=(xF (N r)).foldl (lZ (N r)) (gV r r)
def lI(r:List Nat):Bool:=(xF (N r)).any fun i:Nat=>cC r (i:Int) (i:Int)
def vJ(r:List Nat):Bool:=lI (lK r)
abbrev OW:Nat:=18446744073709551616
structure NI(r:List Nat):Prop where
 len:N r<=64
 lt:∀x∈r,x<OW
def sU(i:Int):bW i<OW:=by
 unfold bW
 split
 ·decide
 ·have:i.toNat<=63:=by omega
  exact Nat.lt_of_le_of_lt (Nat.pow_le_pow_right (by omega) this) (by decide)
def rA(c:a<OW)(d:b<OW):a|||b<OW:=Nat.or_lt_two_pow (n:=64) c d
def Gy(c:b<OW):a &&& b<OW:=Nat.and_lt_two_pow (n:=64) a c
def Gz(s:Nat)(n:Int):QS s n<OW:=by
 unfold QS
 split
 ·decide
 ·exact Nat.mod_lt _ (by decide)
def rQ(r:List Nat)(i:Nat)(h:i<N r):r.getD i 0=r[i]:=by simp[List.getD,List.getElem?_eq_getElem h]
def rJ(r:List Nat)(i:Nat)(h:N r<=i):r.getD i 0=0:=by simp[List.getD,List.getElem?_eq_none h]
def kV(h:NI r)(a:Int):cO r a<OW:=by
 unfold cO
 split
 ·decide
 ·by_cases hl:a.toNat<N r
  ·rw[rQ _ _ hl];exact h.lt _ (List.getElem_mem hl)
  ·rw[rJ _ _ (by omega)];decide
def qS(r:List Nat)(i:Nat):cO r (i:Int)=r.getD i 0:=by
 unfold cO;rw[if_neg (by omega)];rfl
def GM(r:List Nat)(i:Nat)(h:i<N r):cO r (i:Int)=r[i]:=by
 rw[qS,rQ _ _ h]
def UC(r:List Nat)(a:Int)(h:a<0\/(N r:Int)<=a):cO r a=0:=by
 unfold cO
 split
 ·rfl
 ·rw[rJ _ _ (by omega)]
def UD(n:Nat)(h:n<=64):NI (NU n):=⟨by simpa[NU]using h,fun x c=>by rw[List.eq_of_mem_replicate c];decide⟩
def GY(h:NI r)(i x:Nat)(d:x<OW):NI (r.set i x):=
 ⟨by simpa using h.len,fun y c=>by rcases List.mem_or_eq_of_mem_set c with c|rfl;exact h.lt _ c;exact d⟩
def wA(r:List Nat)(a b:Int):(dE r a b).length=N r:=by unfold dE;split<;>simp
def CU(h:NI r)(a b:Int):NI (dE r a b):=by
 unfold dE
 split
 ·exact h
 ·exact GY h _ _ (rA (kV h _) (sU _))
def EF(r o:List Nat):(gV r o).length=N r:=by simp[gV]
def IW(r o:List Nat):(kU r o).length=N r:=by simp[kU]
def KN(r o:List Nat):(dZ r o).length=N r:=by simp[dZ]
def UE(h:NI r)(k:NI o):NI (gV r o):=
 ⟨by rw[EF];exact h.len,fun x c=>by simp only[gV,x3]at c;obtain⟨i,_,rfl⟩:=c;exact rA (kV h _) (kV k _)⟩
def G0(h:NI r)(k:NI o):NI (kU r o):=
 ⟨by rw[IW];exact h.len,fun x c=>by simp only[kU,x3]at c;obtain⟨i,_,rfl⟩:=c;exact Gy (kV k _)⟩
def UF(k:NI o)(a:Nat)(l:List Nat):∀c,c<OW->l.foldl (lM r o a) c<OW:=by
 induction l with
 |nil=>intro c h;exact h
 |cons b q ih =>
  intro c h;refine ih _ ?_;unfold lM;split
  ·exact rA h (kV k _)
  ·exact h
def G6(h:NI r)(k:NI o):NI (dZ r o):=
 ⟨by rw[KN];exact h.len,fun x c=>by simp only[dZ,x3]at c;obtain⟨i,_,rfl⟩:=c;exact UF k _ _ _ (by decide)⟩
def jJ(f:α->Nat->α)(x:α)(n:Nat):(xF (n+1)).foldl f x=f ((xF n).foldl f x) n:=by
 rw[List.range_succ,List.foldl_append];rfl
def UG(b:Nat)(c:List Nat)(a:Nat):(kZ b c a).length=N c:=by unfold kZ;split<;>simp
def G7{c:List Nat}(h:NI c)(b a:Nat):NI (kZ b c a):=by
 unfold kZ;split
 ·exact GY h _ _ (rA (kV h _) (kV h _))
 ·exact h
def EO(P:α->Prop)(f:α->Nat->α)(c:∀x i,P x->P (f x i))(l:List Nat):∀x,P x->P (l.foldl f x):=by
 induction l with
 |nil=>intro x h;exact h
 |cons i q ih=>intro x h;exact ih _ (c _ _ h)
def G8(n m b:Nat){c:List Nat}(h:NI c/\N c=m):NI (lZ n c b)/\(lZ n c b).length=m :=
 EO (fun c=>NI c/\N c=m) _ (fun x i d=>⟨G7 d.1 _ _,by rw[UG];exact d.2⟩) _ _ h
def G9(h:NI r):NI (lK r)/\(lK r).length=N r:=
 EO (fun c=>NI c/\N c=N r) _ (fun x i d=>G8 _ _ _ d) _ _ ⟨UE h h,EF _ _⟩
def Ha(r:List Nat)(a m:Nat){t:List Nat}(h:NI t/\N t=m):NI (sH r t a)/\(sH r t a).length=m :=
 EO (fun c=>NI c/\N c=m) _ (fun x i d=>by unfold qP;split;exact⟨CU d.1 _ _,by rw[wA];exact d.2⟩;exact d) _ _ h
def Hb(h:N r<=64):NI (oN r)/\(oN r).length=N r:=
 EO (fun c=>NI c/\N c=N r) _ (fun x i d=>Ha _ _ _ d) _ _ ⟨UD _ h,by simp[NU]⟩
end Q
def Tryz.infoSet:(prog.info? 178).map (fun i=>(i.zero,i.size,i.bytes))=some (some (C .u64 0),1,8):=by kernel_rfl
def Hc(n:Nat)(h:n<64):IntKind.u64.wrap ((2:Int)^n)=((2^n:Nat):Int):=by
 have c:(2:Int)^n=((2^n:Nat):Int):=by push_cast;rfl
 rw[c];exact IntWalk.u64_in _ ⟨Int.natCast_nonneg _,Int.ofNat_le.2 (Nat.le_of_lt_succ (Nat.pow_lt_pow_right (by omega) h))⟩
def DW(i:Int)(w:World):
  Calls prog 139 #[C E i] w fun e w'=>e=G (C .u64 (Q.bW i:Nat))/\w'=w:=by
 by_cases h0:i<0
 ·have c:MT (Q.bW i=0):=by unfold MT Q.bW;rw[if_pos (Or.inl h0)]
  go_enter func139,ntmps139;go_wp2;go_ret;rw[c.o];exact⟨Z,Z⟩
 by_cases h1:64<=i
 ·have c:MT (Q.bW i=0):=by unfold MT Q.bW;rw[if_pos (Or.inr h1)]
  go_enter func139,ntmps139;go_wp2;go_ret;rw[c.o];exact⟨Z,Z⟩
 ·have c:MT (IntKind.u64.wrap ((2:Int)^i.toNat)=(Q.bW i:Nat)):=by unfold MT Q.bW;rw[if_neg (by omega)];exact Hc _ (by omega)
  go_enter func139,ntmps139;go_wp2;go_ret;exact⟨by first|(rw[<- c.o];rfl)|(simp;exact c.o),Z⟩
def UH(s:Nat)(i:Int)(w:World)(hs:s<Q.OW):
  Calls prog 140 #[C .u64 (s:Nat),C E i] w fun e w'=>e=G (.bool (Q.PD s i))/\w'=w:=by
 have f:=bits_and_u64_nat s (Q.bW i) hs (Q.sU i);have d:MT (Q.PD s i=(s &&& Q.bW i != 0)):=Z;generalize(s &&& Q.bW i)=x at*;have c:MT ((x != 0)=((x:Int) != 0)):=by unfold MT;cases x<;>rfl
 cases hx:(x:Int) != 0
 all_goals
  go_enter func140,ntmps140;go_wp2_with(first|(go_at_call 139;refine(DW _ _).mono ?_;rintro e w' ⟨rfl,rfl⟩));go_ret;refine⟨?_,Z⟩;rw[d.o,c.o,hx]
  first|rfl|simp
def Hd(s:Nat)(i:Int)(w:World)(hs:s<Q.OW):
  Calls prog 160 #[C .u64 (s:Nat),C E i] w fun e w'=>e=G (C .u64 (Q.QS s i:Nat))/\w'=w:=by
 by_cases h0:i<0
 ·have c:MT (Q.QS s i=0):=by unfold MT Q.QS;rw[if_pos (Or.inl h0)]
  go_enter func160,ntmps160;go_wp2;go_ret;rw[c.o];exact⟨Z,Z⟩
 by_cases h1:64<=i
 ·have c:MT (Q.QS s i=0):=by unfold MT Q.QS;rw[if_pos (Or.inr h1)]
  go_enter func160,ntmps160;go_wp2;go_ret;rw[c.o];exact⟨Z,Z⟩
 ·have c:MT (IntKind.u64.wrap ((s:Int)*(2:Int)^i.toNat)=(Q.QS s i:Nat)):=by
   unfold MT Q.QS;rw[if_neg (by omega),IntKind.wrap_u64,Int.natCast_emod,Int.natCast_mul,Int.natCast_pow];rfl
  go_enter func160,ntmps160;go_wp2;go_ret;exact⟨by first|(rw[<- c.o];rfl)|(simp;exact c.o),Z⟩
def tK(l:List Nat):Array Value:=(l.map fun x=>Value.int .u64 (x:Nat)).toArray
def UI(l:List Nat)(i:Nat)(h:i<N l):(tK l)[i]?=some (C .u64 (l[i]:Nat)):=by simp[tK,h]
def He(l:List Nat)(i x:Nat):(tK l).setIfInBounds i (C .u64 (x:Nat))=tK (l.set i x):=by
 simp[tK,List.map_set]
def OB(w:World)(g:Nat)(l:List Nat):Prop:=w.heap[g]?=some (.cells (tK l) 178 (0,0))
def OB.lt(h:OB w g l):g<w.heap.size:=(Array.getElem?_eq_some_iff.1 h).1
def OB.aC(h:OB w g l)(e:w'.heap[g]?=w.heap[g]?):OB w' g l:=by unfold OB at*;rw[e];exact h
def OB.X(h:OB w g l)(c:Below w.heap.size w w'):OB w' g l:=h.aC (c.block g h.lt)
def OB.alloc(h:OB w g l)(o:Obj):OB (w.alloc o) g l:=h.aC (Below.heap_alloc _ _ _ h.lt)
def OB.cell(h:OB w g l)(i:Nat)(c:i<N l):w.cell? ⟨g,i,none⟩=some (C .u64 (l[i]:Nat)):=by
 unfold OB at h;simp only[World.cell?,h];exact UI l i c
def OB.iI(h:OB w g l)(i:Nat)(c:i<N l):w.cell? ⟨g,i,none⟩=some (C .u64 (Q.cO l (i:Int):Nat)):=by
 rw[Q.GM l i c];exact h.cell i c
def OB.free(h:OB w g l)(i:Nat):w.frozen? ⟨g,i,none⟩=Y:=by
 unfold OB at h;simp[World.frozen?,h]
def OB.set(h:OB w g l)(i x:Nat):OB (w.setCell ⟨g,i,none⟩ (C .u64 (x:Nat))) g (l.set i x):=by
 unfold OB at*;rw[bX h,He]
def tF(g n:Nat)(l:List Nat)(a:Int)(w:World)(h:OB w g l)(q:n=N l)(p:n<=64):
  Calls prog 104 #[.agg #[MU g n n],C E a] w fun e w'=>e=G (C .u64 (Q.cO l a:Nat))/\Below w.heap.size w w':=by
 have f:=h.lt;by_cases h0:a<0
 ·have d:MT (Q.cO l a=0):=Q.UC l a (Or.inl h0);go_enter func104,ntmps104;go_wp2;go_ret;rw[d.o];exact⟨Z,(xR _ _).alloc (xW _) _⟩
 have j:decide (a<0)=Y:=by simpa using h0
 by_cases h1:(n:Int)<=a
 ·have d:MT (Q.cO l a=0):=Q.UC l a (Or.inr (by omega));go_enter func104,ntmps104;go_wp2;go_ret;rw[d.o];exact⟨Z,(xR _ _).alloc (xW _) _⟩
 ·obtain⟨i,rfl⟩:=Int.eq_ofNat_of_zero_le (by omega:0<=a);have k:i<N l:=by omega
  have c:=h.iI i k;have m:(i:Int)<(n:Int):=by omega
  generalize Q.cO l (i:Int)=x at*;go_enter func104,ntmps104;go_wp2;go_ret;exact⟨Z,(xR _ _).alloc (xW _) _⟩
def sF(g n:Nat)(l:List Nat)(a b:Int)(w:World)(h:OB w g l)(i:n=N l)(c:Q.NI l):
  Calls prog 103 #[.agg #[MU g n n],C E a,C E b] w fun e w'=>e=G (.bool (Q.cC l a b))/\Below w.heap.size w w':=by
 have f:=c.len;have k:=MS c;have j:=MS (h.alloc (.cells #[MU g n n] 83));have d:=MS i;clear c h i;go_enter func103,ntmps103;go_wp2_with(first
  |(go_at_call 104;refine(tF g n l a _ j.o d.o (by have:=d.o;omega)).mono ?_;rintro e p ⟨rfl,m⟩)
  |(go_at_call 140;refine(UH _ _ _ (Q.kV k.o a)).mono ?_;rintro e w' ⟨rfl,rfl⟩))
 go_ret;exact⟨Z,((xR _ _).alloc (xW _) _).trans (m.mono (by simp))⟩
namespace P
structure NB where
 block:Int
 i:Int
 S:List MV
structure Rd where
 H:List NB
 i:Int
 count:Int
 I:Int
 O:List Int
 most:Int
def Rd.zero:Rd:=⟨[],0,0,0,[],8⟩
def fB:List NB->MV->List NB
 |[],_=>[]
 |[t],s=>[{t with S:=t.S++[s]}]
 |t::u::r,s=>t::fB (u::r) s
def wO(c:List NB)(t:NB)(s:MV):fB (c++[t]) s=c++[{t with S:=t.S++[s]}]:=by
 induction c with
 |nil=>rfl
 |cons a r ih=>cases r with
  |nil=>rfl
  |cons b q=>simpa[fB]using ih
def xY(c:List NB)(s:MV):(fB c s).length=N c:=by
 match c with
 |[]=>rfl
 |[_]=>rfl
 |t::u::r=>simpa[fB]using xY (u::r) s
def put(r:Rd)(s:MV):Rd:={r with H:=fB r.H s}
def fC(r:Rd)(s:MV):Rd×Bool :=
 match r.O.getLast? with
 |none=>(r,Y)
 |some l=>(put {r with O:=r.O.dropLast} {s with label:=l},U)
def branch(r:Rd)(s:MV):Rd×Bool :=
 if 2<=N r.O then(r,Y)else(put {r with I:=r.I+1,O:=r.O++[r.I+1]} {s with label:=r.I+1},U)
def eG(r:Rd)(ws:List (List UInt8)):Rd×Bool :=
 if 4<=N r.H\/0<N r.O then(r,Y)
 else match ws with
  |[_,[c]]=>if(eD c 2).2 then({r with H:=r.H++[⟨(eD c 2).1,r.i,[]⟩],count:=0},U)else(r,Y)
  |_=>(r,Y)
def cW(r:Rd)(ws:List (List UInt8)):Rd×Bool :=
 if ws.head?==some [116,104,114,101,97,100]then eG r ws
 else if r.H.isEmpty then(r,Y)
 else
  let st:={(cR ws).1 with i:=r.i}
  if(cR ws).2 then
   if st.B==11 then fC r st
   else if 8<=r.count then(r,Y)
   else if st.B==10 then
    if 2<=N r.O then({r with count:=r.count+1},Y)else branch {r with count:=r.count+1} st
   else(put {r with count:=r.count+1} st,U)
  else(r,Y)
def oM(r:Rd)(b l:Int):Rd×Bool :=
 if 4<=N r.H\/0<N r.O then(r,Y)else({r with H:=r.H++[⟨b,l,[]⟩],count:=0},U)
def jS(r:Rd)(st:MV):Rd×Bool :=
 if r.H.isEmpty then(r,Y)
 else if st.B==11 then fC r st
 else if r.most<=r.count then(r,Y)
 else if st.B==10 then
  if 2<=N r.O then({r with count:=r.count+1},Y)else branch {r with count:=r.count+1} st
 else(put {r with count:=r.count+1} st,U)
def Hf(r:Rd)(a:List UInt8)(c:UInt8):eG r [a,[c]]=if(eD c 2).2 then oM r (eD c 2).1 r.i else(r,Y):=by
 unfold eG oM;by_cases h:4<=N r.H\/0<N r.O
 ·simp only[if_pos h];split<;>rfl
 ·simp only[if_neg h]
def UJ(r:Rd)(c:List UInt8)(d:List (List UInt8))(h:(c==[116,104,114,101,97,100])=Y)(f:r.most=8):
  cW r (c::d)=if(cR (c::d)).2 then jS r {(cR (c::d)).1 with i:=r.i}else(r,Y):=by
 have e:((c::d).head?==some [116,104,114,101,97,100])=Y:=by simpa using h
 unfold cW jS;rw[e,f];simp only[x1,if_false]
 cases ht:r.H.isEmpty
 ·simp only[x1,if_false]
 ·simp
def Hg(r:Rd)(s:MV):(fC r s).1.i=r.i/\(fC r s).1.most=r.most:=by
 unfold fC;split<;>exact⟨Z,Z⟩
def Hh(r:Rd)(s:MV):(branch r s).1.i=r.i/\(branch r s).1.most=r.most:=by
 unfold branch;split<;>exact⟨Z,Z⟩
def Hi(r:Rd)(s:MV):(jS r s).1.i=r.i/\(jS r s).1.most=r.most:=by
 unfold jS
 split
 ·exact⟨Z,Z⟩
 split
 ·exact Hg r s
 split
 ·exact⟨Z,Z⟩
 split
 ·split
  ·exact⟨Z,Z⟩
  ·exact Hh _ s
 ·exact⟨Z,Z⟩
def Hj(r:Rd)(c:List (List UInt8)):(eG r c).1.i=r.i/\(eG r c).1.most=r.most:=by
 unfold eG
 split
 ·exact⟨Z,Z⟩
 split
 ·split<;>exact⟨Z,Z⟩
 ·exact⟨Z,Z⟩
def UK(r:Rd)(e:List (List UInt8))(d:r.most=8):(cW r e).1.i=r.i/\(cW r e).1.most=8:=by
 cases e with
 |nil =>
  unfold cW;simp only[List.head?_nil];have:((none:Option (List UInt8))==some [116,104,114,101,97,100])=Y:=Z;rw[this];simp only[x1,if_false];have hs:(cR []).2=Y:=by rfl
  rw[hs];simp only[x1,if_false]
  split<;>exact⟨Z,d⟩
 |cons c rs =>
  cases h:c==[116,104,114,101,97,100]
  ·rw[UJ r c rs h d]
   split
   ·have:=Hi r {(cR (c::rs)).1 with i:=r.i};exact⟨this.1,this.2.trans d⟩
   ·exact⟨Z,d⟩
  ·have f:((c::rs).head?==some [116,104,114,101,97,100])=U:=by simpa using h
   unfold cW;rw[f,if_pos rfl];have:=Hj r (c::rs);exact⟨this.1,this.2.trans d⟩
def ND(c:UInt8):List UInt8->List (List UInt8)
 |[]=>[[]]
 |x::r=>if x=c then[]::ND c r else match ND c r with
  |h::t=>(x::h)::t
  |[]=>[[x]]
def yT(c:UInt8)(l:List UInt8):ND c l≠[]:=by
 cases l with
 |nil=>simp[ND]
 |cons x r =>
  unfold ND
  split
  ·simp
  ·split<;>simp
def JV(c:UInt8)(r:List UInt8):ND c (c::r)=[]::ND c r:=by simp[ND]
def vS(c x:UInt8)(r:List UInt8)(h:x≠c)(a:List UInt8)(b:List (List UInt8))(e:ND c r=a::b):ND c (x::r)=(x::a)::b:=by simp[ND,h,e]
def CP(c x:UInt8)(l:List UInt8):∀(a:List (List UInt8)) (b:List UInt8),ND c l=a++[b]->ND c (l++[x])=if x=c then a++[b,[]]else a++[b++[x]]:=by
 induction l with
 |nil =>
  intro a b h;simp[ND]at h;have:a=[]/\b=[]:=by
   cases a with
   |nil=>simpa using h
   |cons p q=>simp at h
  obtain⟨rfl,rfl⟩:=this;by_cases hx:x=c<;>simp[ND,hx]
 |cons y r ih =>
  intro a b h;by_cases hy:y=c
  ·subst hy;rw[JV]at h
   cases a with
   |nil =>
    simp at h;exact absurd h.2 (yT _ _)
   |cons p q =>
    simp at h;obtain⟨rfl,h⟩:=h;have:=ih q b h;rw[x2,JV,this]
    split<;>simp
  ·cases hs:ND c r with
   |nil=>exact absurd hs (yT _ _)
   |cons p q =>
    rw[vS c y r hy p q hs]at h;rw[x2]
    cases a with
    |nil =>
     simp at h;obtain⟨rfl,rfl⟩:=h;have:=ih [] p (by simpa using hs);by_cases hx:x=c
     ·rw[if_pos hx]at this⊢;rw[vS c y _ hy p [[]] (by simpa using this)];simp
     ·rw[if_neg hx]at this⊢;rw[vS c y _ hy (p++[x]) [] (by simpa using this)];simp
    |cons p' q' =>
     simp at h;obtain⟨rfl,rfl⟩:=h;have:=ih (p::q') b (by simpa using hs);by_cases hx:x=c
     ·rw[if_pos hx]at this⊢;rw[vS c y _ hy p (q'++[b,[]]) (by simpa using this)];simp
     ·rw[if_neg hx]at this⊢;rw[vS c y _ hy p (q'++[b++[x]]) (by simpa using this)];simp
def OX(r:Rd):List (List UInt8)->Rd×Bool
 |[]=>(r,U)
 |x::xs =>
  if(cW {r with i:=r.i+1} (ND 32 x)).2 then OX (cW {r with i:=r.i+1} (ND 32 x)).1 xs
  else((cW {r with i:=r.i+1} (ND 32 x)).1,Y)
def UL(d:List (List UInt8)):∀(r c:Rd) (x:List UInt8),OX r d=(c,U)->OX r (d++[x])=cW {c with i:=c.i+1} (ND 32 x):=by
 induction d with
 |nil =>
  intro r c x h;simp[OX]at h;subst h;simp only[List.nil_append,OX]
  cases ht:(cW {r with i:=r.i+1} (ND 32 x)).2
  ·simp[<- ht]
  ·simp[<- ht]
 |cons y ys ih =>
  intro r c x h;simp only[OX]at h;simp only[x2,OX]
  cases ht:(cW {r with i:=r.i+1} (ND 32 y)).2
  ·simp[ht]at h
  ·simp only[ht,if_true]at h⊢;exact ih _ _ _ h
def Hk(c:List (List UInt8)):∀(r:Rd) (d:List (List UInt8)),(OX r c).2=Y->OX r (c++d)=OX r c:=by
 induction c with
 |nil=>intro r d h;simp[OX]at h
 |cons y zs ih =>
  intro r d h;simp only[x2,OX]at h⊢
  cases ht:(cW {r with i:=r.i+1} (ND 32 y)).2
  ·simp
  ·simp only[ht,if_true]at h⊢;exact ih _ _ h
def cS(l:List UInt8):List NB×Int :=
 let q:=OX Rd.zero (ND 10 l).dropLast
 if q.2 then
  if(ND 10 l).getLast?≠some []\/q.1.O≠[]\/q.1.H=[]then([],q.1.i+1)else(q.1.H,0)
 else([],q.1.i)
def wL(l:List α)(k:Nat)(h:k<N l):l.drop k=l[k]::l.drop (k+1):=List.drop_eq_getElem_cons h
def CF(c:UInt8)(l:List UInt8):(ND c l).length<=N l+1:=by
 induction l with
 |nil=>simp[ND]
 |cons x r ih =>
  unfold ND
  split
  ·simp;omega
  ·split
   ·rename_i h t e;rw[e]at ih;simp at ih⊢;omega
   ·simp
structure Good(k:Nat)(r:Rd):Prop where
 few:N r.H<=4
 stm:∀t∈r.H,N t.S<=k
 O:N r.O<=2
 ifs0:0<=r.I
 ifs1:r.I<=k
 NA:0<=r.count
 lin0:0<=r.i
 lin1:r.i<=k
def MD:Good 0 Rd.zero:=⟨by simp[Rd.zero],by simp[Rd.zero],by simp[Rd.zero],by simp[Rd.zero],by simp[Rd.zero],by simp[Rd.zero],by simp[Rd.zero],by simp[Rd.zero]⟩
def UM(d:List NB)(s:MV)(k:Nat)(h:∀t∈d,N t.S<=k):∀t∈fB d s,N t.S<=k+1:=by
 match d,h with
 |[],h=>intro t c;simp[fB]at c
 |[a],h =>
  intro t c;simp[fB]at c;subst c;have:=h a (by simp);simp;omega
 |a::b::r,h =>
  intro t c;simp only[fB,List.mem_cons]at c
  rcases c with rfl|c
  ·have:=h t (by simp);omega
  ·exact UM (b::r) s k (fun t c=>h t (by simp at c⊢;right;exact c)) t c
def UO{k:Nat}{r:Rd}(v:List (List UInt8))(h:Good k r)(j:r.i+1<=k+1):Good (k+1) (cW {r with i:=r.i+1} v).1:=by
 have d:Good (k+1) {r with i:=r.i+1}:=⟨h.few,fun t e=>by have:=h.stm t e;omega,h.O,h.ifs0,by have:=h.ifs1;simp;omega,h.NA,by have:=h.lin0;simp;omega,by simpa using j⟩;have f:∀(o:List Int) (i c:Int) (s:MV),N o<=2->0<=i->i<=k+1->0<=c->Good (k+1) (put {r with i:=r.i+1,O:=o,I:=i,count:=c} s):=fun o i c s n p q u =>
  ⟨by simp only[put,xY];exact h.few,UM _ _ _ h.stm,n,p,by simpa[put]using q,u,d.lin0,d.lin1⟩
 unfold cW
 split
 ·unfold eG;by_cases hf':4<=N r.H\/0<N r.O
  ·rw[if_pos (by exact hf')];exact d
  ·rw[if_neg (by exact hf')]
   split
   ·split
    ·
     refine⟨by simp;omega,?_,d.O,d.ifs0,d.ifs1,by simp,d.lin0,d.lin1⟩;intro t e;simp at e
     rcases e with e|rfl
     ·exact d.stm t e
     ·simp
    ·exact d
   ·exact d
 ·split
  ·exact d
  ·simp only[]
   split
   ·split
    ·unfold fC
     split
     ·exact d
     ·rename_i l j;refine f _ r.I r.count _ ?_ h.ifs0 (by have:=h.ifs1;omega) h.NA;have:=h.O;simp;omega
    ·split
     ·exact d
     ·split
      ·split
       ·exact⟨d.few,d.stm,d.O,d.ifs0,d.ifs1,by have:=h.NA;simp;omega,d.lin0,d.lin1⟩
       ·rename_i m;unfold branch;rw[if_neg m];refine f _ _ _ _ ?_ (by have:=h.ifs0;simp;omega) (by have:=h.ifs1;simp;omega) (by have:=h.NA;simp;omega);simp at m⊢;omega
      ·exact f r.O r.I _ _ h.O h.ifs0 (by have:=h.ifs1;omega) (by have:=h.NA;omega)
   ·exact d
def Hl(o:Int):List UInt8 :=
 if o==1 then[114,101,108,97,120,101,100]else if o==2 then[97,99,113,117,105,114,101]else if o==3 then[114,101,108,101,97,115,101]
 else if o==4 then[97,99,113,95,114,101,108]else[115,99]
def TA(st:MV):List UInt8 :=
 if st.q==0 then[46,119,101,97,107]else[46]++Hl st.q++if st.scope==0 then[46,99,116,97]else[46,103,112,117]
structure QN(st:MV):Prop where
 d0:0<=st.dest
 d1:st.dest<100
 a0:0<=st.a.n
 a1:st.a.n<100
 b0:0<=st.b.n
 b1:st.b.n<100
 l0:0<=st.label
 l1:st.label<100
def QW(k:Int):Bool:=k==0||k==1||k==2||k==3
end P
namespace Q
structure Ev where
 B:Int
 j:Int
 block:Int
 z:Int
 value:Int
 q:Int
 scope:Int
 u:Int
 step:Bool
 h:Nat
def Ev.zero:Ev:=⟨0,0,0,0,0,0,0,0,Y,0⟩
def QH(e:Ev):Bool:=e.B==0||e.B==1
def OY(e:Ev):Bool:=e.B==2&&e.q==5
def QI(i:Int)(a:Ev)(k:Int)(b:Ev):Bool:=if a.j == -1 then b.j != -1 else a.j==b.j&&decide (i<k)
def bP(e:Ev):Bool:=e.q != 0&&e.B != 3&&e.B != 4
def aD(a b:Ev):Bool :=
 if a.j == -1||b.j == -1 then Y else if a.j==b.j then U else if !bP a||!bP b then Y else a.block==b.block||a.scope==1&&b.scope==1
def RX(a b:Ev):Bool:=a.B==3&&b.B==4&&a.block==b.block&&a.u==b.u
end Q
def aG(e:Q.Ev):Array Value:=#[C E e.B,C E e.j,C E e.block,C E e.z,C E e.value,C E e.q,C E e.scope,C E e.u,.bool e.step,C .u64 (e.h:Nat)]
def GE(e:Q.Ev)(w:World):
  Calls prog 151 #[.agg (aG e)] w fun x w'=>x=G (.bool (Q.QH e))/\Below w.heap.size w w':=by
 cases h0:e.B==0
 ·cases h1:e.B==1
  all_goals
   have c:MT (Q.QH e=(e.B==1)):=by unfold MT Q.QH;rw[h0];rfl
   simp only[aG];go_enter func151,ntmps151;go_wp2;go_ret;rw[c.o,h1];exact⟨Z,(xR _ _).alloc (xW _) _⟩
 ·have c:MT (Q.QH e=U):=by unfold MT Q.QH;rw[h0];rfl
  simp only[aG];go_enter func151,ntmps151;go_wp2;go_ret;rw[c.o];exact⟨Z,(xR _ _).alloc (xW _) _⟩
def UP(e:Q.Ev)(w:World):
  Calls prog 105 #[.agg (aG e)] w fun x w'=>x=G (.bool (Q.OY e))/\Below w.heap.size w w':=by
 cases h0:e.B==2
 ·have c:MT (Q.OY e=Y):=by unfold MT Q.OY;rw[h0];rfl
  simp only[aG];go_enter func105,ntmps105;go_wp2;go_ret;rw[c.o];exact⟨Z,(xR _ _).alloc (xW _) _⟩
 ·cases h1:e.q==5
  all_goals
   have c:MT (Q.OY e=(e.q==5)):=by unfold MT Q.OY;rw[h0];rfl
   simp only[aG];go_enter func105,ntmps105;go_wp2;go_ret;rw[c.o,h1];exact⟨Z,(xR _ _).alloc (xW _) _⟩
def Hm(i k:Int)(a b:Q.Ev)(w:World):
  Calls prog 161 #[C E i,.agg (aG a),C E k,.agg (aG b)] w fun x w'=>x=G (.bool (Q.QI i a k b))/\Below w.heap.size w w':=by
 have HB:MT (∀o p,Below w.heap.size w ((w.alloc o).alloc p)):=fun o p=>((xR _ _).alloc (xW _) _).alloc (by simp) _
 cases h0:a.j == -1
 ·cases h1:a.j==b.j
  ·have c:MT (Q.QI i a k b=Y):=by unfold MT Q.QI;rw[h0,h1];rfl
   simp only[aG];go_enter func161,ntmps161;go_wp2;go_ret;rw[c.o];exact⟨Z,HB.o _ _⟩
  ·by_cases h2:i<k
   ·have c:MT (Q.QI i a k b=U):=by unfold MT Q.QI;rw[h0,h1,decide_eq_true h2];rfl
    simp only[aG];go_enter func161,ntmps161;go_wp2;go_ret;rw[c.o];exact⟨Z,HB.o _ _⟩
   ·have c:MT (Q.QI i a k b=Y):=by unfold MT Q.QI;rw[h0,h1,decide_eq_false h2];rfl
    simp only[aG];go_enter func161,ntmps161;go_wp2;go_ret;rw[c.o];exact⟨Z,HB.o _ _⟩
 ·cases h1:b.j != -1
  all_goals
   have c:MT (Q.QI i a k b=(b.j != -1)):=by unfold MT Q.QI;rw[h0];rfl
   simp only[aG];go_enter func161,ntmps161;go_wp2;go_ret;rw[c.o,h1];exact⟨Z,HB.o _ _⟩
def AM(e:Q.Ev)(w:World):
  Calls prog 189 #[.agg (aG e)] w fun x w'=>x=G (.bool (Q.bP e))/\Below w.heap.size w w':=by
 have HB:MT (∀o,Below w.heap.size w (w.alloc o)):=fun o=>(xR _ _).alloc (xW _) _
 cases h0:e.q != 0<;>cases h1:e.B != 3<;>cases h2:e.B != 4
 all_goals
  have c:MT (Q.bP e=(e.q != 0&&e.B != 3&&e.B != 4)):=Z;simp only[aG];go_enter func189,ntmps189;go_wp2;go_ret;rw[c.o,h0,h1,h2];exact⟨Z,HB.o _⟩
def Hn{a b:Q.Ev}(h:(a.j == -1||b.j == -1)=U):Q.aD a b=Y:=by unfold Q.aD;rw[h];rfl
def Ho{a b:Q.Ev}(h:(a.j == -1||b.j == -1)=Y)(c:(a.j==b.j)=U):Q.aD a b=U:=by unfold Q.aD;rw[h,c];rfl
def UQ{a b:Q.Ev}(h:(a.j == -1||b.j == -1)=Y)(c:(a.j==b.j)=Y)(d:(!Q.bP a||!Q.bP b)=U):Q.aD a b=Y:=by unfold Q.aD;rw[h,c,d];rfl
def Hp{a b:Q.Ev}(h:(a.j == -1||b.j == -1)=Y)(c:(a.j==b.j)=Y)(d:(!Q.bP a||!Q.bP b)=Y):Q.aD a b=(a.block==b.block||a.scope==1&&b.scope==1):=by unfold Q.aD;rw[h,c,d];rfl
def Hq(a b:Q.Ev)(w:World):
  Calls prog 163 #[.agg (aG a),.agg (aG b)] w fun x w'=>x=G (.bool (Q.RX a b))/\Below w.heap.size w w':=by
 have HB:MT (∀o p,Below w.heap.size w ((w.alloc o).alloc p)):=fun o p=>((xR _ _).alloc (xW _) _).alloc (by simp) _
 cases h0:a.B==3<;>cases h1:b.B==4<;>cases h2:a.block==b.block<;>cases h3:a.u==b.u
 all_goals
  have c:MT (Q.RX a b=(a.B==3&&b.B==4&&a.block==b.block&&a.u==b.u)):=Z;simp only[aG];go_enter func163,ntmps163;go_wp2;go_ret;rw[c.o,h0,h1,h2,h3];exact⟨Z,HB.o _ _⟩
