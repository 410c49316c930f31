import Derived.Test.YteekngiepnnmjaaGreatDoorProg
import Derived.Handy
import Derived.Lib.Strings
import Derived.Deep.AppendLies
import Derived.Deep.MidRow
import Derived.Laws.Bits64b
import Derived.Deep.RegionLaw
import Derived.Deep.RegionWith
import Derived.BigQuiet
import Derived.Deep.QuietTactic
import Derived.Deep.OwnRows
import Derived.Laws.IdiomCopy
set_option linter.all false
set_option maxHeartbeats 0
namespace Go.Proofs.YteekngiepnnmjaaGreatDoor
open Go Go.RowKit Go.Proofs.Tryz
set_option maxRecDepth 1000000
open _root_ renaming List->W,List->σ,Nat->S,Nat->ν,UInt8->N,UInt8->ω,ByteArray->ψ,Int->O,Int->φ,Bool->m,Bool->τ,Array->f,Array->π,if_pos->κ,if_neg->χ,Option->ο
open Go renaming Value->H,Value->ι,World->I,World->ξ,madeCells->η,heap_alloc_new->δ,Calls->γ,wpList->ε,TypeId->θ,Operand->ς,Oper->Δ
open Go.RowKit renaming Below->ρ,intOf->Γ
open Go.Proofs.Tryz renaming prog->ζ,underlying37->υ
def Z{α:Sort _}{a:α}:a=a:=rfl
variable {p:Prop}{B B' b cap cap1 g g1 i k n sz:ν}{a w w' w1:ξ}{ov tv u v z:ι}{α:Type}{l r:σ ν}{e e' t:θ}{fr:ν × ν}{s:ψ}{ws:σ ψ}{ops:π Δ}{vs xs:σ ι}{op:Δ}
open List renaming length->V
open Option renaming none->Y,some->G
open Go.Obj renaming cells->C
open Go.IntKind renaming i64->E
open Go.Value renaming int->U,bool->T,slice->A,agg->K,string->J
open Bool renaming false->M,true->L
open Go.Ending renaming returned->D
open List renaming replicate->xF,range->x3,length_nil->xk,drop_eq_getElem_cons->xl,getElem_mem->xq,getElem?_append_right->xt,length_append->xu,length_cons->xv,map_append->xw,replicate_succ'->xx
open Go.Value renaming int->xR,ownBlock->xa,oneCell'->xe,string->xg
open Go.RowKit.Below renaming heap_setCell->xW,heap_alloc->x2,refl->x9
open Go.World renaming cell?->x1,frozen?->x6,setCells->x7,cell?_of_block->x8,news_of_block->xd,block_lt_of_cell?->xn,frozen?_of_block->xr,cell?_setCell_other->xy
open Nat renaming le_refl->x4,le_trans->xc,zero_le->xh,zero_add->xi,lt_of_lt_of_le->xm
open _root_.ByteArray renaming toList->x5
open Go.Act renaming eval->xb
open Go.Obj renaming cells->xj
open _root_.Array renaming ext_getElem?->xo
open Go.Result renaming andThen_ok->xp
open Go.Instr renaming makeSlice->xz
abbrev VV(g n c:S):H:=A (G ⟨g,0,Y⟩) n c
def aC(p:Prop):Prop:=p
def aC.o(h:aC p):p:=h
namespace P
structure ZD where
 VX:τ
 n:φ
structure VW where
 kind:φ
 i:φ
 dest:φ
 z:φ
 a:ZD
 b:ZD
 q:φ
 scope:φ
 label:φ
def ZD.zero:ZD:=⟨M,0⟩
def VW.zero:VW:=⟨0,0,0,0,ZD.zero,ZD.zero,0,0,0⟩
def mC(c:N)(n:O):O×m:=((c.toNat:O)-48,decide (48<=(c.toNat:O))&&decide ((c.toNat:O)-48<n))
def cX:W N->O×m
 |[c,d]=>if c=114 then mC d 4 else(0,M)
 |_=>(0,M)
def dG:W N->ZD×m
 |[c]=>(⟨M,(mC c 4).1⟩,(mC c 4).2)
 |l=>(⟨L,(cX l).1⟩,(cX l).2)
def jI(l:W N):O×m :=
 if l==[120]then(0,L)else if l==[121]then(1,L)else if l==[122]then(2,L)else(0,M)
def order(l:W N):O×m :=
 if l==[119,101,97,107]then(0,L)
 else if l==[114,101,108,97,120,101,100]then(1,L)
 else if l==[97,99,113,117,105,114,101]then(2,L)
 else if l==[114,101,108,101,97,115,101]then(3,L)
 else if l==[97,99,113,114,101,108]then(4,L)
 else if l==[115,99]then(5,L)
 else(0,M)
def scope(l:W N):O×m :=
 if l==[98,108,111,99,107]then(0,L)else if l==[100,101,118,105,99,101]then(1,L)else(0,M)
def sign(l:W N):O×m :=
 if l==[43]then(7,L)else if l==[45]then(8,L)else if l==[61,61]then(9,L)else(0,M)
def YV(kind order:O):m :=
 if kind==0 then order==0||order==1||order==2
 else if kind==1 then order==0||order==1||order==3
 else if kind==2||kind==3 then order==1||order==2||order==3||order==4
 else if kind==4 then order==4||order==5
 else M
def aZ(kind:O):m:=kind==0||kind==2||kind==3
def rP(kind:O):m:=kind==1||kind==2||kind==3
def eU(st:VW)(bO value:W N):VW×m :=
 if(jI bO).2 then({st with z:=(jI bO).1,a:=(dG value).1},(dG value).2)else(st,M)
def gQ(st:VW):W (W N)->VW×m
 |[]=>(st,M)
 |o::r =>
  if(order o).2&&YV st.kind (order o).1 then
   if(order o).1==0 then({st with q:=0},r.isEmpty)
   else match r with
    |[s]=>({st with q:=(order o).1,scope:=(scope s).1},(scope s).2)
    |_=>({st with q:=(order o).1},M)
  else(st,M)
theorem Np(c:VW)(o:W N)(r:W (W N))(h:(order o).2=L)(d:YV c.kind (order o).1=L)(f:(order o).1=0):gQ c (o::r)=({c with q:=0},r.isEmpty):=by
 simp_all [gQ]
theorem Nq(c:VW)(o:W N)(h:(order o).2=L)(d:YV c.kind (order o).1=L)(f:((order o).1==0)=M):gQ c [o]=({c with q:=(order o).1},M):=by
 grind [gQ]
theorem Nr(c:VW)(o s:W N)(h:(order o).2=L)(d:YV c.kind (order o).1=L)(f:((order o).1==0)=M):gQ c [o,s]=({c with q:=(order o).1,scope:=(scope s).1},(scope s).2):=by
 grind [gQ]
theorem Ns(c:VW)(o s t:W N)(q:W (W N))(h:(order o).2=L)(d:YV c.kind (order o).1=L)(f:((order o).1==0)=M):gQ c (o::s::t::q)=({c with q:=(order o).1},M):=by
 grind [gQ]
def load(st:VW):W (W N)->VW×m
 |[]=>(st,M)
 |v::r=>if(jI v).2 then gQ {st with kind:=0,z:=(jI v).1} r else(st,M)
def step(st:VW)(kind:O):W (W N)->VW×m
 |p::v::r=>let t:=eU {st with kind:=kind} p v
  if t.2 then gQ t.1 r else(t.1,M)
 |_=>(st,M)
def sum(st:VW):W (W N)->VW×m
 |[a]=>if(dG a).2 then({st with kind:=6,a:=(dG a).1},L)else(st,M)
 |[a,s,b] =>
  if(dG a).2 then
   if(sign s).2 then({st with kind:=(sign s).1,a:=(dG a).1,b:=(dG b).1},(dG b).2)
   else({st with kind:=6,a:=(dG a).1},M)
  else(st,M)
 |_=>(st,M)
theorem LA(c:VW)(v:W N)(r:W (W N))(h:(jI v).2=M):load c (v::r)=(c,M):=by simp[load,h]
def JI(c:VW)(v:W N)(r:W (W N))(h:(jI v).2=L):load c (v::r)=gQ {c with kind:=0,z:=(jI v).1} r:=by simp[load,h]
theorem Nt(c:VW)(k:O)(p v:W N)(r:W (W N))(h:(eU {c with kind:=k} p v).2=M):step c k (p::v::r)=((eU {c with kind:=k} p v).1,M):=by simp[step,h]
def Nu(c:VW)(k:O)(p v:W N)(r:W (W N))(h:(eU {c with kind:=k} p v).2=L):step c k (p::v::r)=gQ (eU {c with kind:=k} p v).1 r:=by simp[step,h]
theorem JE(c:VW)(a:W N)(r:W (W N))(h:(dG a).2=M):sum c (a::r)=(c,M):=by
 match r with
 |[]=>simp[sum,h]
 |[_]=>simp[sum]
 |[_,_]=>simp[sum,h]
 |_::_::_::_=>simp[sum]
def A7(c:VW)(a:W N)(h:(dG a).2=L):sum c [a]=({c with kind:=6,a:=(dG a).1},L):=by simp[sum,h]
theorem Nv(c:VW)(a s b:W N)(h:(dG a).2=L)(d:(sign s).2=M):sum c [a,s,b]=({c with kind:=6,a:=(dG a).1},M):=by grind [sum]
theorem A8(c:VW)(a s b:W N)(h:(dG a).2=L)(d:(sign s).2=L):sum c [a,s,b]=({c with kind:=(sign s).1,a:=(dG a).1,b:=(dG b).1},(dG b).2):=by grind [sum]
theorem A9(c:VW)(l:W (W N))(d:¬V l=1)(f:¬V l=3):sum c l=(c,M):=by
 match l with
 |[]=>rfl
 |[_]=>simp at d
 |[_,_]=>rfl
 |[_,_,_]=>simp at f
 |_::_::_::_::_=>rfl
def kV:W (W N)->VW×m
 |d::e::c::r =>
  if e==[61]then
   if(cX d).2 then
    if c==[108,111,97,100]then load {VW.zero with dest:=(cX d).1} r
    else if c==[97,100,100]then step {VW.zero with dest:=(cX d).1} 2 r
    else if c==[115,119,97,112]then step {VW.zero with dest:=(cX d).1} 3 r
    else sum {VW.zero with dest:=(cX d).1} (c::r)
   else(VW.zero,M)
  else(VW.zero,M)
 |_=>(VW.zero,M)
def store:W (W N)->VW×m
 |_::p::v::r=>let t:=eU {VW.zero with kind:=1} p v
  if t.2 then gQ t.1 r else(VW.zero,M)
 |_=>(VW.zero,M)
def Ba:W (W N)->VW×m
 |_::r=>gQ {VW.zero with kind:=4} r
 |_=>(VW.zero,M)
def Nw:W (W N)->VW×m
 |[_,a]=>({VW.zero with kind:=10,a:=(dG a).1},(dG a).2)
 |_=>(VW.zero,M)
def gR:W (W N)->VW×m
 |[]=>(VW.zero,M)
 |c::r =>
  if c==[115,116,111,114,101]then store (c::r)
  else if c==[102,101,110,99,101]then Ba (c::r)
  else if c==[98,97,114,114,105,101,114]then({VW.zero with kind:=5},r.isEmpty)
  else if c==[105,102]then Nw (c::r)
  else if c==[101,110,100]then({VW.zero with kind:=11},r.isEmpty)
  else kV (c::r)
end P
def Nx(k o:O)(w:I):
  γ ζ 154 #[U E k,U E o] w λe w'=>e=D (T (P.YV k o))/\w'=w:=by
 go_in;go_wp2
 all_goals go_ret
 all_goals simp[P.YV, *]
def UM(k:O)(w:I):
  γ ζ 52 #[U E k] w λe w'=>e=D (T (P.aZ k))/\w'=w:=by
 go_in;go_wp2
 all_goals go_ret
 all_goals simp[P.aZ, *]
def Ny(k:O)(w:I):
  γ ζ 53 #[U E k] w λe w'=>e=D (T (P.rP k))/\w'=w:=by
 go_in;go_wp2
 all_goals go_ret
 all_goals simp[P.rP, *]
theorem xB(s:ψ):s.toList=s.data.toList:=ByteArray.toList_eq s
theorem cV(s:ψ):V s.toList=s.size:=by rw[xB];rfl
def Nz(a:N)(n:S)(c:n<256):((a.toNat:O)==(n:O))=(a==UInt8.ofNat n):=by
 rw[Bool.eq_iff_iff];simp[<- UInt8.toNat_inj];omega
def cK{v:ο H}(b:ρ B w w')(l:g<B)(h:w.cell? ⟨g,i,Y⟩=v):w'.cell? ⟨g,i,Y⟩=v:=(b.cell (p:=⟨g,i,Y⟩) l).trans h
def fK{v:m}(b:ρ B w w')(l:g<B)(h:w.frozen? ⟨g,i,Y⟩=v):w'.frozen? ⟨g,i,Y⟩=v:=(b.frozen (p:=⟨g,i,Y⟩) l).trans h
def bT{W:I}(h:ρ W.heap.size W w)(k:ρ w.heap.size w w'):ρ W.heap.size W w':=h.trans (k.mono h.size)
def bB{o:Obj}:ρ w.heap.size w (w.alloc o):=(x9 _ _).alloc (x4 _) _
def dC{a:f α}{x:α}(h:a[i]?=G x):i<a.size:=(Array.getElem?_eq_some_iff.1 h).1
def aD(h:p):aC p:=h
def kS(h:aC p):p:=h
def nJ(w:I)(r:ο S):w.grownBy w r:=⟨Z,Z,Z,x4 _,λ_ _ _=>Z⟩
def NT{b c:I}{r:ο S}(h:a.grownBy b r)(k:b.grownBy c r):a.grownBy c r :=
 ⟨k.os.trans h.os,k.tape.trans h.tape,k.output.trans h.output,xc h.size k.size,λi d f=>(k.block i (xm d h.size) f).trans (h.block i d f)⟩
def N6{r:ο S}(h:a.grownBy w r)(o:Obj):a.grownBy (w.alloc o) r:=NT h (World.grownBy_alloc _ _ _)
def Bb{r:ο S}(h:a.grownBy w r):a.grownBy w.drew r:=⟨h.os,h.tape,h.output,h.size,h.block⟩
theorem kZ(h:a.grownBy w (G g))(i:S)(u:H):a.grownBy (w.setCell ⟨g,i,Y⟩ u) (G g):=
 NT h ⟨Z,Z,Z,by simp_all,λk _ c=>xW _ _ _ _ λe=>c (by rw[e])⟩
def wK(h:ρ w.heap.size w w')(r:ο S):w.grownBy w' r:=⟨h.os,h.tape,h.output,h.size,λk c _=>h.block k c⟩
def N7(h:w.grownBy w' Y):ρ w.heap.size w w':=⟨h.os,h.tape,h.output,h.size,λk c=>h.block k c (by simp)⟩
def sH(h:ρ w.heap.size w w1)(k:w1.grownBy w' (G g))(d:w.heap.size<=g):ρ w.heap.size w w' :=
 h.trans ⟨k.os,k.tape,k.output,k.size,λi c=>k.block i (xm c h.size) (by simp;omega)⟩
theorem cI{c:f H}(h:w.heap[g]?=G (C c e fr))(i:S)(u:H):
  (w.setCell ⟨g,i,Y⟩ u).heap[g]?=G (C (c.setIfInBounds i u) e fr):=by
 grind [World.setCell]
def fC{o:S}(h:b≠g):(w.setCell ⟨g,i,Y⟩ u).cell? ⟨b,o,Y⟩=w.cell? ⟨b,o,Y⟩:=
 x8 (w:=w) (a:=⟨b,o,Y⟩) (xW _ _ _ _ h)
def aU(st:P.VW):f H:=#[U E st.kind,U E st.i,U E st.dest,U E st.z,T st.a.VX,U E st.a.n,T st.b.VX,U E st.b.n,U E st.q,U E st.scope,U E st.label]
def bK(w:I)(g:S)(st:P.VW):Prop:=w.heap[g]?=G (C (aU st) 137 (0,0))
def bK.lt{c:P.VW}(h:bK w g c):g<w.heap.size:=dC h
def bK.cell{c:P.VW}(h:bK w g c)(i:ν):w.cell? ⟨g,i,Y⟩=(aU c)[i]?:=by
 unfold bK at h;simp[x1,h]
def bK.free{c:P.VW}(h:bK w g c)(i:ν):w.frozen? ⟨g,i,Y⟩=M:=by
 unfold bK at h;simp[x6,h]
def bK.F{c:P.VW}(h:bK w g c):g<w.heap.size/\(∀i,w.frozen? ⟨g,i,Y⟩=M)/\
  w.cell? ⟨g,0,Y⟩=G (U E c.kind)/\w.cell? ⟨g,1,Y⟩=G (U E c.i)/\w.cell? ⟨g,2,Y⟩=G (U E c.dest)/\w.cell? ⟨g,3,Y⟩=G (U E c.z)/\
  w.cell? ⟨g,4,Y⟩=G (T c.a.VX)/\w.cell? ⟨g,5,Y⟩=G (U E c.a.n)/\w.cell? ⟨g,6,Y⟩=G (T c.b.VX)/\w.cell? ⟨g,7,Y⟩=G (U E c.b.n)/\
  w.cell? ⟨g,8,Y⟩=G (U E c.q)/\w.cell? ⟨g,9,Y⟩=G (U E c.scope)/\w.cell? ⟨g,10,Y⟩=G (U E c.label):=
 ⟨h.lt,h.free,h.cell 0,h.cell 1,h.cell 2,h.cell 3,h.cell 4,h.cell 5,h.cell 6,h.cell 7,h.cell 8,h.cell 9,h.cell 10⟩
theorem bK.aG{c:P.VW}(h:bK w g c)(e:w'.heap[g]?=w.heap[g]?):bK w' g c:=by
 grind [bK]
def bK.X{c:P.VW}(h:bK w g c)(d:ρ w.heap.size w w'):bK w' g c:=h.aG (d.block g h.lt)
def bK.alloc{c:P.VW}(h:bK w g c)(o:Obj):bK (w.alloc o) g c:=h.aG (x2 _ _ _ h.lt)
def bK.drew{c:P.VW}(h:bK w g c):bK w.drew g c:=h
theorem bK.set{d:P.VW}(c:P.VW)(h:bK w g d)(i:ν)(u:ι)(e:(aU d).setIfInBounds i u=aU c):bK (w.setCell ⟨g,i,Y⟩ u) g c:=by
 grind [bK,cI]
theorem bK.new(w:ξ)(c:P.VW):bK (w.alloc (C (aU c) 137)) w.heap.size c:=by
 grind [bK,δ]
def bK.AF{c:P.VW}(h:bK w g c)(x:φ):bK (w.setCell ⟨g,3,Y⟩ (U E x)) g {c with z:=x}:=h.set _ 3 _ Z
def bK.OD{c:P.VW}(h:bK w g c)(x:P.ZD):bK ((w.setCell ⟨g,4,Y⟩ (T x.VX)).setCell ⟨g,5,Y⟩ (U E x.n)) g {c with a:=x}:=
 (h.set {c with a:=⟨x.VX,c.a.n⟩} 4 _ Z).set _ 5 _ Z
def bK.bY{c:P.VW}(h:bK w g c)(x:P.ZD):bK ((w.setCell ⟨g,6,Y⟩ (T x.VX)).setCell ⟨g,7,Y⟩ (U E x.n)) g {c with b:=x}:=
 (h.set {c with b:=⟨x.VX,c.b.n⟩} 6 _ Z).set _ 7 _ Z
def bK.sI{c:P.VW}(h:bK w g c)(x:φ):bK (w.setCell ⟨g,8,Y⟩ (U E x)) g {c with q:=x}:=h.set _ 8 _ Z
def bK.jY{c:P.VW}(h:bK w g c)(x:φ):bK (w.setCell ⟨g,9,Y⟩ (U E x)) g {c with scope:=x}:=h.set _ 9 _ Z
def XO(w:I)(b off:S)(ws:W ψ):Prop:=∀i s,ws[i]?=G s->w.cell? ⟨b,off+i,Y⟩=G (J s)
theorem XO.head{off:ν}{r:σ ψ}(h:XO w b off (s::r)):w.cell? ⟨b,off,Y⟩=G (J s)/\b<w.heap.size/\XO w b (off+1) r:=by
 have c:=h 0 s Z;refine⟨c,xn w _ c,λi t d=>?_⟩;have:=h (i+1) t (by simpa using d)
 grind
def XO.kept{off:ν}(h:XO w b off ws)(e:b<w.heap.size->w'.heap[b]?=w.heap[b]?):XO w' b off ws:=by
 intro i s d;have c:=h i s d;rw[x8 (w:=w) (e (xn w _ c))];exact c
def XO.X{off:ν}(h:XO w b off ws)(c:ρ w.heap.size w w'):XO w' b off ws:=h.kept λe=>c.block b e
def XO.grown{off:ν}(h:XO w b off ws)(d:w.grownBy w' (G g))(c:b≠g):XO w' b off ws:=h.kept λe=>d.block b e (by simpa using c)
def XO.set{off:ν}(h:XO w b off ws)(c:b≠g)(i:ν)(u:ι):XO (w.setCell ⟨g,i,Y⟩ u) b off ws:=h.kept λ_=>xW _ _ _ _ c
def XO.alloc{off:ν}(h:XO w b off ws)(o:Obj):XO (w.alloc o) b off ws:=h.kept λe=>x2 _ _ _ e
def XO.drew{off:ν}(h:XO w b off ws):XO w.drew b off ws:=h.kept λ_=>Z
def XO.nil(w:ξ)(b off:ν):XO w b off []:=λ_ _ h=>by simp at h
def lI{a:S}(h:a<b):(a:O)<b:=Int.ofNat_lt.2 h
def lN{a:S}(h:¬a<b):¬(a:O)<b:=λk=>h (Int.ofNat_lt.1 k)
def lE{a:S}(h:a<=b):(a:O)<=b:=Int.ofNat_le.2 h
def lM{a:S}(h:¬a<=b):¬(a:O)<=b:=λk=>h (Int.ofNat_le.1 k)
def gE{c:f H}(h:w.heap[b]?=G (C c t (0,0)))(j:S)(v:H)(d:c[j]?=G v):w.cell? ⟨b,j,Y⟩=G v:=by
 simp only[x1,h];simpa using d
def cfL{j:S}(c:ρ B w w')(f:b<B)(d:w.cell? ⟨b,j,Y⟩=G v):w'.cell? ⟨b,j,Y⟩=G v:=(c.cell (p:=⟨b,j,Y⟩) f).trans d
def wD{rest:σ Δ}{o:Δ}{a:Act}{Q:Exit->Act->ξ->Prop}{base:ν}(y:(prog.info? e).map (λi=>(i.zero,i.size,i.bytes))=G (G z,1,b))(I:prog.underlying t=G (.slice e))(O:z.cells.size=1)(q:Nat.ble b 24=L)(s x:ς)(f:o.guard=Y)(F:o.op=.call {callee:=.builtin .append,args:=#[s,x],argTypes:=#[t,t]})(H:a.eval s=v)(N:a.eval x=VV w.heap.size 1 1)(m:u.oneCell'=L)(c:(w.alloc (C #[u] e)).ownsRow base e 1 v n xs)(X:n<4000000000000)(W:base<=w.heap.size)(h:∀g cap w',w'.ownsRow base e 1 (VV g (n+1) cap) (n+1) (xs++[u])->(w.alloc (C #[u] e)).grownBy w' v.ownBlock->v.ownBlock=G g\/g=(w.alloc (C #[u] e)).heap.size->g<w'.heap.size->ε ζ ops Q rest (a.put o.dst (VV g (n+1) cap)) w'):ε ζ ops Q (o::rest) a (w.alloc (C #[u] e)):=by
 obtain⟨S,j,d⟩:=Option.map_eq_some_iff.1 y;simp only[Prod.mk.injEq]at d;exact wpList_append_lies _ f s x t F base e S z 1 b I j d.1 d.2.1 d.2.2 O (by decide) v n xs H c ⟨w.heap.size,0,Y⟩ 1 1 [u] N Z (xd (cs:=#[u]) (t:=e) (fr:=(0,0)) (δ w _)) (by simpa using m) (by decide) (by unfold maxLen;omega) (xc (Nat.mul_le_mul (show n+1<=4000000000000 by omega) (Nat.le_of_ble_eq_true q)) (by decide)) (by simp;omega) _ Z h
def qH{rest:W Δ}{o:Δ}{a:Act}{Q:Exit->Act->ξ->Prop}{base:S}(q:(prog.info? e).map (λi=>(i.zero,i.size,i.bytes))=G (G z,1,b))(I:prog.underlying t=G (.slice e))(O:z.cells.size=1)(m:Nat.ble b 24=L)(s x:ς)(d:o.guard=Y)(F:o.op=.call {callee:=.builtin .append,args:=#[s,x],argTypes:=#[t,t]})(H:a.eval s=v)(N:a.eval x=VV w.heap.size 1 1)(f:u.oneCell'=L)(c:w.ownsRow base e 1 v n xs)(y:n<4000000000000)(j:base<=w.heap.size)(h:∀g cap w',w'.ownsRow base e 1 (VV g (n+1) cap) (n+1) (xs++[u])->(w.alloc (C #[u] e)).grownBy w' v.ownBlock->v.ownBlock=G g\/g=(w.alloc (C #[u] e)).heap.size->g<w'.heap.size->ε ζ ops Q rest (a.put o.dst (VV g (n+1) cap)) w'):ε ζ ops Q (o::rest) a (w.alloc (C #[u] e)):=wD q I O m s x d F H N f (c.alloc _) y j h
def xJ(cur:f H)(o:S):W H->f H
 |[]=>cur
 |v::r=>xJ (cur.setIfInBounds o v) (o+1) r
theorem GR{g:S}{e:θ}{fr:S×S}:∀(vs:W H) (o:S) (w:I) (c:f H),w.heap[g]?=G (C c e fr)->(w.setCells g o vs).heap[g]?=G (C (xJ c o vs) e fr)
 |[],_,_,_,h=>h
 |v::r,o,w,c,h=>by
  rw[x7];exact GR r (o+1) _ _ (cI h o v)
def SV{g:S}:∀(vs:W H) (o:S) (w:I),w.grownBy (w.setCells g o vs) (G g)
 |[],_,w=>nJ w _
 |v::r,o,w=>by
  rw[x7];exact NT (kZ (nJ _ _) _ _) (SV r (o+1) _)
theorem N8(vs:W H):∀(o:S) (c:f H),(xJ c o vs).size=c.size:=by
 induction vs with
 |nil=>intro o c;rfl
 |cons v r ih=>intro o c;rw[xJ,ih];simp
theorem Bc(vs:W H):∀(o:S) (c:f H) (j:S),o+V vs<=c.size->(xJ c o vs)[j]?=if o<=j/\j<o+V vs then vs[j-o]? else c[j]?:=by
 induction vs with
 |nil=>intro o c j _;simp[xJ];omega
 |cons v r ih =>
  intro o c j h;simp at h;rw[xJ,ih _ _ _ (by simp;omega)]
  grind
theorem Be(c new:f H)(h:c.size=new.size):xJ c 0 new.toList=new:=by
 apply xo
 simp_all [Bc,κ,χ]
def OV{cs:f H}(c:w.heap[g]?=G (C cs e (0,0))):w.rangeAt g 0 cs.toList:=by
 intro j v d;simp[x1,c];simpa using d
def Bf{cs:π H}(c:w.heap[g]?=G (C cs e (0,0)))(n:S)(f:n<=cs.size):w.there g 0 n:=by
 intro j d;simp[x1,x6,c];omega
variable {Pg:Program}
theorem yM(w:I)(g:S)(c:θ)(cs:π H)(e:θ)(j:w.heap[g]?=G (C cs e (0,0)))(d:TypeDesc)(o:Pg.underlying c=G d)(f:d.isRow=L)(m:(Pg.info? c).map (·.size)=G cs.size):
  (loadVar c ⟨g,0,Y⟩).run Pg w=.ok (K cs) w:=by
 have:=run_loadVar_mid (P:=Pg) w g 0 c cs.toList d (OV j) o f (by simpa using m);simpa using this
def RD{rest:W Δ}{a:Act}{Q:Exit->Act->I->Prop}(f:op.guard=Y)(c:θ)(x:ς)(q:op.op=.load c x)(g:S)(F:a.eval x=.pointer (G ⟨g,0,Y⟩))(cs:π H)(e:θ)(m:w.heap[g]?=G (C cs e (0,0)))(d:TypeDesc)(y:Pg.underlying c=G d)(j:d.isRow=L)(o:(Pg.info? c).map (·.size)=G cs.size)(h:ε Pg ops Q rest (a.put op.dst (K cs)) w):ε Pg ops Q (op::rest) a w :=
 wpList_load_mid f c x q g 0 F cs.toList d (OV m) y j (by simpa using o) (by simpa using h)
def UC{rest:W Δ}{a:Act}{Q:Exit->Act->ξ->Prop}(d:op.guard=Y)(j:θ)(x y:ς)(H:op.op=.store j x y)(g:S)(c cs:π ι)(e:θ)(I:a.eval x=.pointer (G ⟨g,0,Y⟩))(N:a.eval y=K c)(o:w.heap[g]?=G (C cs e (0,0)))(f:cs.size=c.size)(F:(Pg.info? j).map (·.size)=G c.size)(q:c.all (·.oneCell')=L)(h:∀w',w'.heap[g]?=G (C c e (0,0))->w.grownBy w' (G g)->ε Pg ops Q rest (a.put op.dst undef) w'):ε Pg ops Q (op::rest) a w:=by
 refine wpList_store_mid d j x y H g 0 c I N (Bf o _ (by omega)) F q ?_;have m:=GR c.toList 0 w cs o;rw[Be cs c f]at m;exact h _ m (SV _ _ _)
def yS{rest:W Δ}{a:Act}{Q:Exit->Act->I->Prop}(x:ς)(c:op.guard=Y)(j:op.op=.load 137 x)(g:S)(d:P.VW)(m:a.eval x=.pointer (G ⟨g,0,Y⟩))(f:bK w g d)(h:ε ζ ops Q rest (a.put op.dst (K (aU d))) w):ε ζ ops Q (op::rest) a w :=
 RD c _ x j g m _ _ f _ underlying137 Z (by kernel_rfl) h
def KJ{rest:W Δ}{a:Act}{Q:Exit->Act->I->Prop}(x y:ς)(c:op.guard=Y)(j:op.op=.store 137 x y)(g:S)(d t:P.VW)(m:a.eval x=.pointer (G ⟨g,0,Y⟩))(o:a.eval y=K (aU t))(f:bK w g d)(h:∀w',bK w' g t->w.grownBy w' (G g)->ε ζ ops Q rest (a.put op.dst undef) w'):ε ζ ops Q (op::rest) a w :=
 UC c _ x y j g (aU t) (aU d) _ m o f Z (by kernel_rfl) (by simp[aU,xe]) h
def N9{c:P.VW}(h:bK w g c):(loadVar 137 ⟨g,0,Y⟩).run ζ w=.ok (K (aU c)) w :=
 yM w g _ _ _ h _ underlying137 Z (by kernel_rfl)
def BI(r:P.VW×m):H:=.tuple #[K (aU r.1),T r.2]
def IM{j:Func}{R:Ending->I->Prop}{a:Act}{p u:Tmp}(g:S)(f:P.VW)(d:τ)(c:j.results=#[.cell p 137,.tmp u])(q:a.tmps.getD p undef=.pointer (G ⟨g,0,Y⟩))(x:a.tmps.getD u undef=T d)(h:bK w g f)(o:a.defers=[])(m:R (D (BI (f,d))) w):bodyPost ζ j R .ret a w:=by
 refine bodyPost_ret (v:=BI (f,d)) ?_ o m;rw[results_cell_tmp c,q,x];have:(asAddr (.pointer (G ⟨g,0,Y⟩))).run ζ w=.ok ⟨g,0,Y⟩ w:=Z;rw[this,xp,N9 h,xp];rfl
namespace Q
def cT(i:O):S:=if i<0\/64<=i then 0 else 2^i.toNat
def YF(s:S)(i:O):m:=s &&& cT i != 0
def ZL(s:S)(n:O):S:=if n<0\/64<=n then 0 else s*2^n.toNat%18446744073709551616
def dR(r:W S)(a:O):S:=if a<0 then 0 else r.getD a.toNat 0
def cD(r:W S)(a b:O):m:=YF (dR r a) b
def WY(n:S):W S:=xF n 0
def dW(r:W S)(a b:O):W S:=if a<0\/(V r:O)<=a\/(V r:O)<=b then r else r.set a.toNat (dR r a|||cT b)
def dY(r o:W S):W S:=(x3 (V r)).map λi:S=>dR r (i:O)|||dR o (i:O)
def lR(r o:W S):W S:=(x3 (V r)).map λi:S=>dR r (i:O) &&& dR o (i:O)
def uT(r:W S)(a:S)(t:W S)(b:S):W S:=if cD r a b then dW t b a else t
def wQ(r:W S)(t:W S)(a:S):W S:=(x3 (V r)).foldl (uT r a) t
def qM(r:W S):W S:=(x3 (V r)).foldl (wQ r) (WY (V r))
def oT(r next:W S)(a:S)(acc:S)(b:S):S:=if cD r a b then acc|||dR next b else acc
def qE(r next:W S)(a:S):S:=(x3 (V r)).foldl (oT r next a) 0
def YB(r next:W S):W S:=(x3 (V r)).map (qE r next)
def nD(b:S)(c:W S)(a:S):W S:=if cD c a b then c.set a (dR c a|||dR c b)else c
def pA(n:S)(c:W S)(b:S):W S:=(x3 n).foldl (nD b) c
def oM(r:W S):W S:=(x3 (V r)).foldl (pA (V r)) (dY r r)
def xV(r:W S):m:=r.any λx=>x != 0
def cJ(r:W S):m:=(x3 (V r)).any λi:S=>cD r (i:O) (i:O)
def CK(r:W S):m:=cJ (oM r)
abbrev YC:S:=18446744073709551616
structure WD(r:σ ν):Prop where
 len:V r<=64
 lt:∀x∈r,x<YC
theorem xU(i:O):cT i<YC:=by
 unfold cT
 split
 ·decide
 ·have:i.toNat<=63:=by omega
  exact Nat.lt_of_le_of_lt (Nat.pow_le_pow_right (by omega) this) (by decide)
theorem uG{a:S}(c:a<YC)(d:b<YC):a|||b<YC:=Nat.or_lt_two_pow (n:=64) c d
theorem Oa{a:S}(c:b<YC):a &&& b<YC:=Nat.and_lt_two_pow (n:=64) a c
theorem Ob(s:S)(n:O):ZL s n<YC:=by
 grind [ZL]
theorem Bg(r:W S)(i:S)(h:i<V r):r.getD i 0=r[i]:=by grind
theorem Bh(r:W S)(i:S)(h:V r<=i):r.getD i 0=0:=by grind
theorem oD(h:WD r)(a:O):dR r a<YC:=by
 unfold dR
 split
 ·decide
 ·by_cases hl:a.toNat<V r
  ·rw[Bg _ _ hl];exact h.lt _ (xq hl)
  grind
theorem tY(r:W S)(i:S):dR r (i:O)=r.getD i 0:=by
 simp_all [dR,χ]
theorem TA(r:W S)(i:S)(h:i<V r):dR r (i:O)=r[i]:=by
 grind [tY]
theorem Bi(r:W S)(a:O)(h:a<0\/(V r:O)<=a):dR r a=0:=by
 grind [dR,Bh]
theorem Bj(n:S)(h:n<=64):WD (WY n):=⟨by grind [WY],λx c=>by rw[List.eq_of_mem_replicate c];decide⟩
theorem TT(h:WD r)(i x:S)(d:x<YC):WD (r.set i x):=
 ⟨by simpa using h.len,λy c=>by rcases List.mem_or_eq_of_mem_set c with c|rfl;exact h.lt _ c;exact d⟩
theorem CP(r:W S)(a b:O):(dW r a b).length=V r:=by grind [dW]
theorem KU(h:WD r)(a b:O):WD (dW r a b):=by
 grind [dW,TT,uG,oD,xU]
def MK(r o:W S):(dY r o).length=V r:=by simp[dY]
def UD(r o:W S):(lR r o).length=V r:=by simp[lR]
def QB(r o:W S):(YB r o).length=V r:=by simp[YB]
theorem Bk{o:W S}(h:WD r)(k:WD o):WD (dY r o):=
 ⟨by rw[MK];exact h.len,λx c=>by grind [dY,uG,oD]⟩
theorem Oc{o:W S}(h:WD r)(k:WD o):WD (lR r o):=
 ⟨by rw[UD];exact h.len,λx c=>by grind [lR,Oa,oD]⟩
theorem Bl{o:W S}(k:WD o)(a:S)(l:W S):∀c,c<YC->l.foldl (oT r o a) c<YC:=by
 induction l with
 |nil=>intro c h;exact h
 |cons b q ih =>
  grind [oT,uG,oD]
def Od{o:W S}(h:WD r)(k:WD o):WD (YB r o):=
 ⟨by rw[QB];exact h.len,λx c=>by simp only[YB,List.mem_map]at c;obtain⟨i,_,rfl⟩:=c;exact Bl k _ _ _ (by decide)⟩
theorem jT(f:α->S->α)(x:α)(n:S):(x3 (n+1)).foldl f x=f ((x3 n).foldl f x) n:=by
 grind [List.range_succ]
theorem Bm(b:S)(c:W S)(a:S):(nD b c a).length=V c:=by grind [nD]
theorem Oe{c:W S}(h:WD c)(b a:S):WD (nD b c a):=by
 grind [nD,TT,uG,oD]
def KN(P:α->Prop)(f:α->S->α)(c:∀x i,P x->P (f x i))(l:W S):∀x,P x->P (l.foldl f x):=by
 induction l with
 |nil=>intro x h;exact h
 |cons i q ih=>intro x h;exact ih _ (c _ _ h)
theorem Of(n m b:S){c:W S}(h:WD c/\V c=m):WD (pA n c b)/\(pA n c b).length=m :=
 KN (λc=>WD c/\V c=m) _ (λx i d=>⟨Oe d.1 _ _,by grind [Bm]⟩) _ _ h
def Og(h:WD r):WD (oM r)/\(oM r).length=V r:=
 KN (λc=>WD c/\V c=V r) _ (λx i d=>Of _ _ _ d) _ _ ⟨Bk h h,MK _ _⟩
theorem Oh(r:W S)(a m:S){t:W S}(h:WD t/\V t=m):WD (wQ r t a)/\(wQ r t a).length=m :=
 KN (λc=>WD c/\V c=m) _ (λx i d=>by unfold uT;split;exact⟨KU d.1 _ _,by grind [CP]⟩;exact d) _ _ h
def Oi(h:V r<=64):WD (qM r)/\(qM r).length=V r:=
 KN (λc=>WD c/\V c=V r) _ (λx i d=>Oh _ _ _ d) _ _ ⟨Bj _ h,by simp[WY]⟩
end Q
def Tryz.infoSet:(prog.info? 178).map (λi=>(i.zero,i.size,i.bytes))=G (G (U .u64 0),1,8):=by kernel_rfl
theorem Oj(n:S)(h:n<64):IntKind.u64.wrap ((2:O)^n)=((2^n:S):O):=by
 have c:(2:O)^n=((2^n:S):O):=by grind
 rw[c];exact IntWalk.u64_in _ ⟨Int.natCast_nonneg _,Int.ofNat_le.2 (Nat.le_of_lt_succ (Nat.pow_lt_pow_right (by omega) h))⟩
def MD(i:O)(w:I):
  γ ζ 139 #[U E i] w λe w'=>e=D (U .u64 (Q.cT i:S))/\w'=w:=by
 by_cases h0:i<0
 ·have c:aC (Q.cT i=0):=by unfold aC Q.cT;rw[κ (Or.inl h0)]
  go_in;go_wp2;go_ret;rw[c.o];exact⟨Z,Z⟩
 by_cases h1:64<=i
 ·have c:aC (Q.cT i=0):=by unfold aC Q.cT;rw[κ (Or.inr h1)]
  go_in;go_wp2;go_ret;rw[c.o];exact⟨Z,Z⟩
 ·have c:aC (IntKind.u64.wrap ((2:O)^i.toNat)=(Q.cT i:S)):=by unfold aC Q.cT;rw[χ (by omega)];exact Oj _ (by omega)
  go_in;go_wp2;go_ret;exact⟨by first|(rw[<- c.o];rfl)|(simp;exact c),Z⟩
theorem Bn(s:S)(i:O)(w:I)(f:s<Q.YC):
  γ ζ 140 #[U .u64 (s:S),U E i] w λe w'=>e=D (T (Q.YF s i))/\w'=w:=by
 have j:=bits_and_u64_nat s (Q.cT i) f (Q.xU i);have d:aC (Q.YF s i=(s &&& Q.cT i != 0)):=Z;generalize(s &&& Q.cT i)=x at*;have c:aC ((x != 0)=((x:O) != 0)):=by grind [aC]
 cases hx:(x:O) != 0
 all_goals
  go_in;go_wp2_with(first|(go_at_call 139;refine(MD _ _).mono ?_;rintro e w' ⟨rfl,rfl⟩));go_ret;refine⟨?_,Z⟩;rw[d.o,c.o,hx]
  first|rfl|simp
def Ol(s:S)(i:O)(w:I)(d:s<Q.YC):
  γ ζ 160 #[U .u64 (s:S),U E i] w λe w'=>e=D (U .u64 (Q.ZL s i:S))/\w'=w:=by
 by_cases h0:i<0
 ·have c:aC (Q.ZL s i=0):=by unfold aC Q.ZL;rw[κ (Or.inl h0)]
  go_in;go_wp2;go_ret;rw[c.o];exact⟨Z,Z⟩
 by_cases h1:64<=i
 ·have c:aC (Q.ZL s i=0):=by unfold aC Q.ZL;rw[κ (Or.inr h1)]
  go_in;go_wp2;go_ret;rw[c.o];exact⟨Z,Z⟩
 ·have c:aC (IntKind.u64.wrap ((s:O)*(2:O)^i.toNat)=(Q.ZL s i:S)):=by
   unfold aC Q.ZL;rw[χ (by omega),IntKind.wrap_u64,Int.natCast_emod,Int.natCast_mul,Int.natCast_pow];rfl
  go_in;go_wp2;go_ret;exact⟨by first|(rw[<- c.o];rfl)|(simp;exact c),Z⟩
def xM(l:W S):f H:=(l.map λx=>xR .u64 (x:S)).toArray
def Bo(l:W S)(i:S)(h:i<V l):(xM l)[i]?=G (U .u64 (l[i]:S)):=by simp[xM,h]
theorem Om(l:W S)(i x:S):(xM l).setIfInBounds i (U .u64 (x:S))=xM (l.set i x):=by
 grind [xM]
def XA(w:I)(g:S)(l:W S):Prop:=w.heap[g]?=G (C (xM l) 178 (0,0))
def XA.lt(h:XA w g l):g<w.heap.size:=dC h
theorem XA.aG(h:XA w g l)(e:w'.heap[g]?=w.heap[g]?):XA w' g l:=by grind [XA]
def XA.X(h:XA w g l)(c:ρ w.heap.size w w'):XA w' g l:=h.aG (c.block g h.lt)
def XA.alloc(h:XA w g l)(o:Obj):XA (w.alloc o) g l:=h.aG (x2 _ _ _ h.lt)
def XA.cell(h:XA w g l)(i:ν)(c:i<V l):w.cell? ⟨g,i,Y⟩=G (U .u64 (l[i]:ν)):=by
 unfold XA at h;simp only[x1,h];exact Bo l i c
def XA.jN(h:XA w g l)(i:ν)(c:i<V l):w.cell? ⟨g,i,Y⟩=G (U .u64 (Q.dR l (i:φ):ν)):=by
 rw[Q.TA l i c];exact h.cell i c
def XA.free(h:XA w g l)(i:ν):w.frozen? ⟨g,i,Y⟩=M:=by
 unfold XA at h;simp[x6,h]
def XA.set(h:XA w g l)(i x:ν):XA (w.setCell ⟨g,i,Y⟩ (U .u64 (x:ν))) g (l.set i x):=by
 unfold XA at*;rw[cI h,Om]
def BN(g n:S)(l:W S)(a:O)(w:I)(h:XA w g l)(F:n=V l)(y:n<=64):
  γ ζ 104 #[K #[VV g n n],U E a] w λe w'=>e=D (U .u64 (Q.dR l a:S))/\ρ w.heap.size w w':=by
 have f:=h.lt;by_cases h0:a<0
 ·have d:aC (Q.dR l a=0):=Q.Bi l a (Or.inl h0);go_in;go_wp2;go_ret;rw[d.o];exact⟨Z,bB⟩
 have j:decide (a<0)=M:=by simpa using h0
 by_cases h1:(n:O)<=a
 ·have d:aC (Q.dR l a=0):=Q.Bi l a (Or.inr (by omega));go_in;go_wp2;go_ret;rw[d.o];exact⟨Z,bB⟩
 ·obtain⟨i,rfl⟩:=Int.eq_ofNat_of_zero_le (by omega:0<=a);have m:i<V l:=by omega
  have c:=h.jN i m;have q:(i:O)<n:=by omega
  generalize Q.dR l (i:O)=x at*;go_in;go_wp2;go_ret;exact⟨Z,bB⟩
def wH(g n:S)(l:W S)(a b:O)(w:I)(h:XA w g l)(j:n=V l)(c:Q.WD l):
  γ ζ 103 #[K #[VV g n n],U E a,U E b] w λe w'=>e=D (T (Q.cD l a b))/\ρ w.heap.size w w':=by
 have f:=c.len;have q:=aD c;have m:=aD (h.alloc (C #[VV g n n] 83));have d:=aD j;clear c h j;go_in;go_wp2_with(first
  |(go_at_call 104;refine(BN g n l a _ m d (by have:=d.o;omega)).mono ?_;rintro e w1 ⟨rfl,x⟩)
  |(go_at_call 140;refine(Bn _ _ _ (Q.oD q a)).mono ?_;rintro e w' ⟨rfl,rfl⟩))
 go_ret;exact⟨Z,(bB).trans (x.mono (by simp))⟩
namespace P
structure VZ where
 block:φ
 i:φ
 S:σ VW
structure Rd where
 H:σ VZ
 i:φ
 count:φ
 I:φ
 O:σ φ
 most:φ
def iQ:W VZ->VW->W VZ
 |[],_=>[]
 |[t],s=>[{t with S:=t.S++[s]}]
 |t::u::r,s=>t::iQ (u::r) s
theorem EC(c:W VZ)(t:VZ)(s:VW):iQ (c++[t]) s=c++[{t with S:=t.S++[s]}]:=by
 induction c with
 |nil=>rfl
 |cons a r ih=>cases r with
  |nil=>rfl
  |cons b q=>simpa[iQ]using ih
theorem Bp(c:W VZ)(s:VW):(iQ c s).length=V c:=by
 match c with
 |[]=>rfl
 |[_]=>rfl
 |t::u::r=>simpa[iQ]using Bp (u::r) s
def put(r:Rd)(s:VW):Rd:={r with H:=iQ r.H s}
def pZ(r:Rd)(s:VW):Rd×m :=
 match r.O.getLast? with
 |none=>(r,M)
 |some l=>(put {r with O:=r.O.dropLast} {s with label:=l},L)
def branch(r:Rd)(s:VW):Rd×m :=
 if 2<=V r.O then(r,M)else(put {r with I:=r.I+1,O:=r.O++[r.I+1]} {s with label:=r.I+1},L)
def lJ(r:Rd)(b l:O):Rd×m :=
 if 4<=V r.H\/0<V r.O then(r,M)else({r with H:=r.H++[⟨b,l,[]⟩],count:=0},L)
def fS(r:Rd)(st:VW):Rd×m :=
 if r.H.isEmpty then(r,M)
 else if st.kind==11 then pZ r st
 else if r.most<=r.count then(r,M)
 else if st.kind==10 then
  if 2<=V r.O then({r with count:=r.count+1},M)else branch {r with count:=r.count+1} st
 else(put {r with count:=r.count+1} st,L)
theorem On(r:Rd)(b l:O):(lJ r b l).1.i=r.i/\(lJ r b l).1.most=r.most:=by
 grind [lJ]
def Oo(r:Rd)(s:VW):(pZ r s).1.i=r.i/\(pZ r s).1.most=r.most:=by
 unfold pZ;split<;>exact⟨Z,Z⟩
theorem Oq(r:Rd)(s:VW):(branch r s).1.i=r.i/\(branch r s).1.most=r.most:=by
 unfold branch;split<;>exact⟨Z,Z⟩
theorem Ot(r:Rd)(s:VW):(fS r s).1.i=r.i/\(fS r s).1.most=r.most:=by
 unfold fS
 split
 ·exact⟨Z,Z⟩
 split
 ·exact Oo r s
 split
 ·exact⟨Z,Z⟩
 split
 ·grind [Oq]
 ·exact⟨Z,Z⟩
def bF(c:N):W N->W (W N)
 |[]=>[[]]
 |x::r=>if x=c then[]::bF c r else match bF c r with
  |h::t=>(x::h)::t
  |[]=>[[x]]
theorem vT(c:N)(l:W N):bF c l≠[]:=by
 cases l with
 |nil=>simp[bF]
 |cons x r =>
  grind [bF]
theorem Bq(c:N)(r:W N):bF c (c::r)=[]::bF c r:=by simp[bF]
theorem IW(c x:N)(r:W N)(h:x≠c)(a:W N)(b:W (W N))(e:bF c r=a::b):bF c (x::r)=(x::a)::b:=by simp[bF,h,e]
theorem MP(c x:N)(l:W N):∀(a:W (W N)) (b:W N),bF c l=a++[b]->bF c (l++[x])=if x=c then a++[b,[]]else a++[b++[x]]:=by
 induction l with
 |nil =>
  intro a b h;simp[bF]at h;have:a=[]/\b=[]:=by
   cases a with
   |nil=>simpa using h
   |cons p q=>simp at h
  grind [bF]
 |cons y r ih =>
  intro a b h;by_cases hy:y=c
  ·subst hy;rw[Bq]at h
   cases a with
   |nil =>
    grind [vT]
   |cons p q =>
    grind [Bq]
  ·cases hs:bF c r with
   |nil=>exact absurd hs (vT _ _)
   |cons p q =>
    rw[IW c y r hy p q hs]at h;rw[List.cons_append]
    cases a with
    |nil =>
     simp at h;obtain⟨rfl,rfl⟩:=h;have:=ih [] p (by simpa using hs);by_cases hx:x=c
     ·rw[κ hx]at this⊢
      grind [IW]
     ·rw[χ hx]at this⊢
      grind [IW]
    |cons p' q' =>
     simp at h;obtain⟨rfl,rfl⟩:=h;have:=ih (p::q') b (by simpa using hs);by_cases hx:x=c
     ·rw[κ hx]at this⊢
      grind [IW]
     ·rw[χ hx]at this⊢
      grind [IW]
end P
theorem mX(s:ψ)(m k:S):(s.extract m k).toList=(s.toList.take k).drop m:=by
 simp_all [xB,List.drop_take]
theorem yT(s:ψ)(k:S)(h:k<s.size):s.toList.take (k+1)=s.toList.take k++[s[k]]:=by
 rw[xB,List.take_succ_eq_append_getElem (by simpa using h)];rfl
def Tryz.infoStr:(prog.info? 9).map (λi=>(i.zero,i.size,i.bytes))=G (G (J ByteArray.empty),1,16):=by kernel_rfl
def Ou(c:N)(s:ψ)(k m:S)(d:W ψ)(j:k<s.size)(h:P.bF c (s.toList.take k)=d.map x5++[(s.toList.take k).drop m])(f:s[k]=c):
  P.bF c (s.toList.take (k+1))=(d++[s.extract m k]).map x5++[(s.toList.take (k+1)).drop (k+1)]:=by
 rw[yT s k j,P.MP _ _ _ _ _ h,κ f];simp[mX];omega
theorem Ov(c:N)(s:ψ)(k m:S)(d:W ψ)(j:k<s.size)(o:m<=k)(h:P.bF c (s.toList.take k)=d.map x5++[(s.toList.take k).drop m])(f:¬s[k]=c):
  P.bF c (s.toList.take (k+1))=d.map x5++[(s.toList.take (k+1)).drop m]:=by
 rw[yT s k j,P.MP _ _ _ _ _ h,χ f]
 grind [cV]
def EO(a:N)(n:S)(c:n<256):((a.toNat:O)==(n:O))=L↔a=UInt8.ofNat n:=by
 rw[Nz a n c];simp
theorem Br(s:ψ)(c:N)(k:S)(h:k<s.size):((s.extract k (k+1)).toList==(⟨#[c]⟩:ψ).toList)=decide (s[k]=c):=by
 have e:(s.extract k (k+1)).toList=[s[k]]:=by
  grind [mX,yT,List.drop_of_length_le]
 grind [xB]
theorem Ow(c:ω)(s:ψ)(w:ξ)(hs:s.size<=8192):
  γ ζ 78 #[J s,J ⟨#[c]⟩] w λe w'=>∃g cap,∃ws:σ ψ,e=D (VV g (V ws) cap)/\ws.map x5=P.bF c s.toList/\
   w'.ownsRow w.heap.size 9 1 (VV g (V ws) cap) (V ws) (ws.map xg)/\ρ w.heap.size w w':=by
 have ab:(⟨#[c]⟩:ψ).size=1:=Z;generalize F:(⟨#[c]⟩:ψ)=O at*;go_in;go_wp2;go_loopw[5,6,7] (λv f i wr=>∃k m:ν,∃y:σ ψ,k<=s.size/\m<=k/\i=U E k/\f=U E m/\V y<=k/\aC (P.bF c (s.toList.take k)=y.map x5++[(s.toList.take k).drop m])/\
   wr.ownsRow w.heap.size 9 1 v (V y) (y.map xg)/\ρ w.heap.size w wr) λ_ _ i _=>s.size-(Γ i).toNat
 case atStart=>exact⟨0,0,[],xh _,x4 _,Z,Z,x4 _,by grind [aC,P.bF],World.ownsRow_nil _ _ _ _,x9 _ _⟩
 case round =>
  obtain⟨k,m,y,hk,hm,rfl,rfl,ac,N,q,d⟩:=hrel;have ae:(m:φ)<=k:=by omega
  by_cases hlt:k<s.size
  ·have W:(k:φ)+1<=(s.size:φ):=by omega
   have ad:∀X,(Instr.slice 9 (J s) (G (U E (k:φ))) (G (U E ((k:φ)+1))) Y).run ζ X=.ok (J (s.extract k (k+1))) X:=λX=>by
    rw[run_slice_string X 9 s E E _ _ underlying9 (by omega) (by omega) (by omega),show (k:φ).toNat=k by omega,show((k:φ)+1).toNat=k+1 by omega]
   by_cases hc:s[k]=c
   ·have hq:((s.extract k (k+1)).toList==O.toList)=L:=by rw[<- F,Br s c k hlt];simpa using hc
    have HC:=aD hc;clear hc;go_wp2_with(first
     |(at_builtin;refine qH Tryz.infoStr underlying45 Z Z (.tmp 38) (.tmp 43) Z Z Z Z Z q (by omega) d.size ?_))
    intro g cap w1 x o H S;have R:=Ou c s k m y hlt N HC;have HR:=aD R;have I:ρ w.heap.size w w1:=(d.alloc d.size _).grown o (by have:=d.size;simp;omega) λj hj=>(q.lt j hj).1;clear R q o H N;go_wp2;go_roundw;exact⟨k+1,k+1,y++[s.extract m k],by omega,x4 _,by go_num,by go_num,by simp;omega,HR,by simpa using x,I⟩;simp[Γ];omega
   ·have hq:((s.extract k (k+1)).toList==O.toList)=M:=by rw[<- F,Br s c k hlt];simpa using hc
    have HR:=aD (Ov c s k m y hlt hm N hc);clear N hc;go_wp2
    grind [Γ]
  ·have W:¬(k:φ)+1<=(s.size:φ):=by omega
   have aa:aC ((y++[s.extract m s.size]).map x5=P.bF c s.toList):=by
    simp_all [aC,List.take_of_length_le,cV,mX]
   clear N;go_wp2_with(first
     |(at_builtin;refine qH Tryz.infoStr underlying45 Z Z (.tmp 49) (.tmp 53) Z Z Z Z Z q (by omega) d.size ?_))
   intro g cap w1 x o H S;have I:ρ w.heap.size w w1:=(d.alloc d.size _).grown o (by have:=d.size;simp;omega) λj hj=>(q.lt j hj).1;clear q o H;go_wp2;go_ret;exact⟨g,cap,y++[s.extract m s.size],by simp,aa,by simpa using x,I⟩
theorem RZ(h:w.ownsRow B 9 1 (VV g (V ws) cap) (V ws) (ws.map xg)):XO w g 0 ws/\V ws<=cap/\g<w.heap.size:=by
 refine⟨λi s f=>?_,?_,(h.lt g Z).2⟩
 ·have y:=(List.getElem?_eq_some_iff.1 f).1;rw[xi,h.cellAt i (by omega)];simp[f]
 ·rcases h.2 with⟨d,_⟩|⟨o,c,j,d,q,x,m,_⟩
  ·simp at d
  grind
def ZG:W P.VZ->W H->W H
 |t::ts,v::vs=>U E t.block::U E t.i::v::ZG ts vs
 |_,_=>[]
def mU(l:W P.VW):W H:=l.flatMap λs=>(aU s).toList
theorem Ox(l:W P.VW)(s:P.VW):mU (l++[s])=mU l++(aU s).toList:=by simp[mU]
def ZC(w:I)(B:S):W P.VZ->W H->Prop
 |[],[]=>True
 |t::ts,v::vs=>w.ownsRow B 137 11 v (V t.S) (mU t.S)/\(∀u∈vs,v.ownBlock=Y\/v.ownBlock≠u.ownBlock)/\ZC w B ts vs
 |_,_=>False
structure XZ(w:ξ)(B g:ν)(r:P.Rd)(tv ov:ι)(vs:σ ι):Prop where
 cells:w.heap[g]?=G (C #[tv,U E r.most,U E r.count,U E r.I,ov] 125 (0,0))
 H:w.ownsRow B 132 3 tv (V r.H) (ZG r.H vs)
 O:w.ownsRow B 3 1 ov (V r.O) (r.O.map (xR E))
 S:ZC w B r.H vs
def eM(w:I)(B g:S)(r:P.Rd):Prop:=∃tv ov vs,XZ w B g r tv ov vs
theorem bH(h:w.ownsRow B e sz v n xs)(j:∀k,v.ownBlock=G k->w'.heap[k]?=w.heap[k]?):w'.ownsRow B e sz v n xs:=by
 refine⟨h.1,?_⟩
 rcases h.2 with m|⟨g,cap,c,rfl,f,d,rest⟩
 ·exact .inl m
 ·exact .inr ⟨g,cap,c,Z,f,by rw[j g rfl];exact d,rest⟩
def ZC.AZ{w:ξ}{B:ν}:∀{c:σ P.VZ} {vs:σ ι},ZC w B c vs->V vs=V c
 |[],[],_=>Z
 |_::_,_::_,h=>by simp[ZC.AZ h.2.2]
def ZC.keep{w w':ξ}{B:ν}:∀{c:σ P.VZ} {vs:σ ι},ZC w B c vs->(∀v∈vs,∀k,v.ownBlock=G k->w'.heap[k]?=w.heap[k]?)->ZC w' B c vs
 |[],[],_,_=>trivial
 |_::_,v::_,h,hk=>⟨bH h.1 (hk v (by simp)),h.2.1,ZC.keep h.2.2 λu d=>hk u (by simp[d])⟩
def ZC.mem{w:ξ}{B:ν}:∀{d:σ P.VZ} {vs:σ ι},ZC w B d vs->∀v∈vs,∃n xs,w.ownsRow B 137 11 v n xs
 |[],[],_,u,c=>by simp at c
 |_::_,v::_,h,u,c=>by
  rcases List.mem_cons.1 c with rfl|c
  ·exact⟨_,_,h.1⟩
  ·exact ZC.mem h.2.2 u c
def XZ.lt{r:P.Rd}(h:XZ w B g r tv ov vs):g<w.heap.size:=dC h.cells
theorem XZ.keep{r:P.Rd}(h:XZ w B g r tv ov vs)(c:∀k,k<w.heap.size->w'.heap[k]?=w.heap[k]?):XZ w' B g r tv ov vs :=
 ⟨by grind [XZ.cells],bH h.H λk e=>c k (h.H.lt k e).2,bH h.O λk e=>c k (h.O.lt k e).2,
  h.S.keep λv f k e=>by obtain⟨n,xs,d⟩:=h.S.mem v f;exact c k (d.lt k e).2⟩
def eM.X{r:P.Rd}(h:eM w B g r)(c:ρ w.heap.size w w'):eM w' B g r:=by
 obtain⟨tv,ov,vs,h⟩:=h;exact⟨tv,ov,vs,h.keep c.block⟩
theorem gK(h:w.ownsRow B e sz v n xs)(f:v.ownBlock=G k):∃c,w.heap[k]?=G (C c e (0,0)):=by
 rcases h.2 with⟨rfl,_⟩|⟨g,cap,c,rfl,j,d,rest⟩
 ·simp[xa]at f
 grind [xa]
theorem kB{c:S}{f:H}{m:S}{d:W H}(h:w.ownsRow B e sz v n xs)(o:w.ownsRow B' e' c f m d)(j:e≠e')(q:v.ownBlock=G k):f.ownBlock≠G k:=by
 grind [gK]
theorem tM{cs:f H}(h:w.ownsRow B e sz v n xs)(d:w.heap[g]?=G (C cs e' fr))(c:e≠e'):v.ownBlock≠G g:=by
 grind [gK]
def JT:∀(c:W P.VZ) (vs:W H) (t:P.VZ) (v:H),V vs=V c->ZG (c++[t]) (vs++[v])=ZG c vs++[U E t.block,U E t.i,v]
 |[],[],_,_,_=>Z
 |a::r,b::q,t,v,h=>by simp[ZG,JT r q t v (by simpa using h)]
theorem LP:∀(c:W P.VZ) (vs:W H),V vs=V c->(ZG c vs).length=V c*3
 |[],[],_=>Z
 |a::r,b::q,h=>by simp[ZG,LP r q (by simpa using h)];omega
theorem EY{w:I}{B:S}:∀(c:W P.VZ) (vs:W H) (t:P.VZ) (v:H),ZC w B (c++[t]) (vs++[v])↔ZC w B c vs/\w.ownsRow B 137 11 v (V t.S) (mU t.S)/\∀u∈vs,u.ownBlock=Y\/u.ownBlock≠v.ownBlock
 |[],[],t,v=>by simp[ZC]
 |[],b::q,t,v=>by
  simp_all [ZC]
 |a::r,[],t,v=>by
  simp_all [ZC]
 |a::r,b::q,t,v=>by
  have ih:=EY (w:=w) (B:=B) r q t v
  grind [ZC]
def mQ(l:W α)(h:l≠[]):∃a b,l=a++[b]:=⟨l.dropLast,l.getLast h,(List.dropLast_concat_getLast h).symm⟩
def Tryz.infoStm:(prog.info? 137).map (λi=>(i.zero,i.size,i.bytes))=G (G (K (aU P.VW.zero)),11,88):=by kernel_rfl
theorem Oy{W0:ξ}{o x m:ν}{r:P.Rd}{ts:σ P.VZ}{t:P.VZ}{sv:H}{st:P.VW}(hr:r.H=ts++[t])(hn:V ts=n)(hm:V t.S=m)(h:XZ w B g r (VV o (n+1) x) ov (vs++[sv]))(hk:∀k,k<w.heap.size->W0.heap[k]?=w.heap[k]?)(an:w.heap.size<=W0.heap.size)(ag:W0.os=w.os)(aj:W0.tape=w.tape)(ah:W0.output=w.output)(hB:B<=w.heap.size)(al:w1.ownsRow B 137 11 (VV g1 (m+1) cap1) (m+1) (mU t.S++(aU st).toList))(d:W0.grownBy w1 sv.ownBlock)(ae:sv.ownBlock=G g1\/g1=W0.heap.size):
  eM (w1.setCell ⟨o,n*3+2,Y⟩ (VV g1 (m+1) cap1)) B g (P.put r st)/\ρ B w (w1.setCell ⟨o,n*3+2,Y⟩ (VV g1 (m+1) cap1)):=by
 have ac:=h.S;rw[hr,EY]at ac;obtain⟨y,X,ai⟩:=ac;have j:=h.H;have aa:=gK j (k:=o) Z;obtain⟨ad,q⟩:=aa;have N:o<w.heap.size:=dC q;have am:V vs=V ts:=y.AZ;have I:∀k c e fr,w.heap[k]?=G (C c e fr)->e≠137->sv.ownBlock≠G k:=λk c e fr hc he=>tM X hc (Ne.symm he)
 have same:∀k,k<w.heap.size->sv.ownBlock≠G k->k≠o->(w1.setCell ⟨o,n*3+2,Y⟩ (VV g1 (m+1) cap1)).heap[k]?=w.heap[k]?:=λk W h1 h2=>by
  rw[xW _ _ _ _ h2,d.block k (by omega) (Ne.symm h1),hk k W]
 have af:g1≠o:=by
  grind
 refine⟨⟨VV o (n+1) x,ov,vs++[VV g1 (m+1) cap1],?_,?_,?_,?_⟩,?_⟩
 ·have ab:g≠o:=λe=>by subst e;rw[h.cells]at q;simp at q
  rw[same g h.lt (I g _ _ _ h.cells (by decide)) ab];exact h.cells
 ·have h1:w1.ownsRow B 132 3 (VV o (n+1) x) (n+1) (ZG r.H (vs++[sv])):=by
   have e:V r.H=n+1:=by grind
   rw[e]at j;exact bH j λk f=>by
    simp[xa]at f;subst f;rw[d.block o (by omega) (Ne.symm (I o ad _ _ q (by decide))),hk o N]
  have h2:=(h1.stored (n*3+2) (VV g1 (m+1) cap1)).1
  simp_all [P.put,P.EC,JT,ZG,List.set_append_right,LP]
 ·refine bH h.O λk f=>?_;have hl:=h.O.lt k f;refine same k hl.2 ?_ ?_
  ·exact kB h.O X (by decide) f
  ·intro e;subst e;exact kB h.O j (by decide) f Z
 ·have e1:(P.put r st).H=ts++[{t with S:=t.S++[st]}]:=by simp only[P.put,hr,P.EC]
  rw[e1,EY];refine⟨y.keep λu hu k f=>?_,?_,λu hu=>?_⟩
  ·obtain⟨n',ak,F⟩:=y.mem u hu;have W:=(F.lt k f).2;refine same k W (λe=>?_) λe=>?_
   ·grind
   ·subst e;exact kB F j (by decide) f Z
  ·grind [Ox,bH,xa,xW]
  ·rcases ai u hu with hp|hp
   ·exact .inl hp
   ·rcases ae with ha|ha
    ·exact .inr (by rw[ha]at hp;exact hp)
    ·refine .inr λe=>?_;obtain⟨n',ak,F⟩:=y.mem u hu;have:=(F.lt g1 e).2;omega
 ·refine⟨d.os.trans ag,d.tape.trans aj,d.output.trans ah,?_,λk f=>?_⟩
  ·grind [World.grownBy.size,World.setCell]
  ·refine same k (by omega) (λe=>?_) λe=>?_
   ·have:=(X.lt k e).1;omega
   ·have:=(j.lt o Z).1;omega
def Oz(B g f n y:ν)(c:P.VW)(x:ι)(m:ν)(xs:σ ι)(w:ξ)(hg:w.cell? ⟨g,0,Y⟩=G (VV f (n+1) y))(hn:n<5)(hm:m<10000)(hc:w.cell? ⟨f,n*3+2,Y⟩=G x)(hf:w.frozen? ⟨f,n*3+2,Y⟩=M)(H:w.ownsRow B 137 11 x m xs)(O:G f≠x.ownBlock)(S:G g≠x.ownBlock)(hB:B<=w.heap.size)(N:g<w.heap.size)(F:f<w.heap.size)(Q:Ending->ξ->Prop)(hQ:∀g1 cap1 w1,w1.ownsRow B 137 11 (VV g1 (m+1) cap1) (m+1) (xs++(aU c).toList)->((w.alloc (C (aU c) 137)).drew.alloc (C (aU c) 137)).grownBy w1 x.ownBlock->x.ownBlock=G g1\/g1=w.heap.size+2 ->
   Q (D (.tuple #[])) (w1.setCell ⟨f,n*3+2,Y⟩ (VV g1 (m+1) cap1))):
  γ ζ 129 #[.pointer (G ⟨g,0,Y⟩),K (aU c)] w Q:=by
 obtain⟨i0,hi,aa,ab,ac⟩:=info_parts Tryz.infoStm;have q:((w.alloc (C (aU c) 137)).drew.alloc (C (aU c) 137)).ownsRow B 137 11 x m xs:=((H.alloc _).drew).alloc _;have HO:=aD q;have o:∀j u,(aU c).toList[j]?=G u->((w.alloc (C (aU c) 137)).drew.alloc (C (aU c) 137)).cell? ((⟨w.heap.size+1,0,Y⟩:Addr).add j)=G u:=xd (t:=137) (fr:=(0,0)) (by have:=δ (w.alloc (C (aU c) 137)).drew (C (aU c) 137);simpa using this);have HN:=aD o;have W:∀k,k<w.heap.size->((w.alloc (C (aU c) 137)).drew.alloc (C (aU c) 137)).heap[k]?=w.heap[k]?:=λk hk=>by
  rw[x2 _ _ _ (by simp;omega)];exact x2 _ _ _ hk
 have HC:aC (((w.alloc (C (aU c) 137)).drew.alloc (C (aU c) 137)).cell? ⟨f,n*3+2,Y⟩=G x):=(x8 (w:=w) (W f F)).trans hc;have HF:aC (((w.alloc (C (aU c) 137)).drew.alloc (C (aU c) 137)).frozen? ⟨f,n*3+2,Y⟩=M):=(xr (w:=w) (W f F)).trans hf;have HG:aC (((w.alloc (C (aU c) 137)).drew.alloc (C (aU c) 137)).cell? ⟨g,0,Y⟩=G (VV f (n+1) y)):=(x8 (w:=w) (W g N)).trans hg;have HQ:=aD hQ;clear q o W hQ H;have ae:(n:φ)<n+1:=by omega
 have af:(0:φ)<=n:=by omega
 simp only[aU];go_in;go_wp2_with fail;go_region_law(refine step_append_lies _ Z (.tmp 25) (.tmp 27) 130 Z B 137 i0 (K (aU P.VW.zero)) 11 88 underlying130 hi aa ab ac Z (by decide) x m xs (by simp[xb]) (by exact HO) ⟨w.heap.size+1,0,Y⟩ 1 1 (aU c).toList (by simp[xb]) Z (by exact HN) (by simp[aU,xe]) (by decide) (by unfold maxLen;omega) (by omega) (by simp;omega) (w.heap.size+2) (by simp) ?_;intro g1 cap1 w1 I d X ad;have c1:=(d.cell_far ⟨f,n*3+2,Y⟩ (by simp;omega) O).trans HC;have f1:=(d.frozen_far ⟨f,n*3+2,Y⟩ (by simp;omega) O).trans HF;have d1:=(d.cell_far ⟨g,0,Y⟩ (by simp;omega) S).trans HG)
 all_goals go_end0
 all_goals exact HQ _ _ _ I d X
def FY(N:S)(r:P.Rd):Prop:=V r.H<=4/\∀t∈r.H,V t.S<=N
theorem TI(B g N:S)(r:P.Rd)(W:P.VW)(w:ξ)(h:eM w B g r)(ab:r.H≠[])(hF:FY N r)(hN:N<10000)(hB:B<=w.heap.size):
  γ ζ 129 #[.pointer (G ⟨g,0,Y⟩),K (aU W)] w λe w'=>e=D (.tuple #[])/\eM w' B g (P.put r W)/\ρ B w w':=by
 obtain⟨tv,ov,vs,h⟩:=h;obtain⟨q,t,hr⟩:=mQ r.H ab;have hl:=h.S.AZ;have O:vs≠[]:=by grind
 obtain⟨ad,sv,rfl⟩:=mQ vs O;have y:V r.H=V q+1:=by grind
 have c:=h.H;rw[y]at c;obtain⟨X,d,rfl,_,f⟩:=c.form (by omega);have I:=h.S;rw[hr,EY]at I;obtain⟨ac,o,ag⟩:=I;have F:V ad=V q:=ac.AZ;have hc:w.cell? ⟨X,V q*3+2,Y⟩=G sv:=by
  rw[c.cellAt _ (by omega),hr,JT _ _ _ _ F,xt (by grind [LP]),LP _ _ F,show V q*3+2-V q*3=2 by omega];rfl
 have aa:w.cell? ⟨g,0,Y⟩=G (VV X (V q+1) d):=by
  simp[x1,h.cells]
 have hm:V t.S<=N:=hF.2 t (by grind);obtain⟨ae,x⟩:=gK c (k:=X) Z;refine Oz B g X (V q) d W sv (V t.S) (mU t.S) w aa (by have:=hF.1;omega) (by omega) hc (c.frozenAt _) o (Ne.symm (tM o x (by decide))) (Ne.symm (tM o h.cells (by decide))) hB h.lt f _ ?_;intro g1 cap1 w1 m j af;refine⟨Z,Oy (W0:=(w.alloc (C (aU W) 137)).drew.alloc (C (aU W) 137)) hr Z Z h (λk hk=>?_) (by simp;omega) Z Z Z hB m j (by simp_all)⟩;rw[x2 _ _ _ (by simp;omega)];exact x2 _ _ _ hk
theorem XZ.yZ{r:P.Rd}(f:P.Rd)(d:ι)(h:XZ w B g r tv ov vs)(i:ν)(u:ι)(o:f.H=r.H)(W:w.ownsRow B 3 1 d (V f.O) (f.O.map (xR E)))(q:(#[tv,U E r.most,U E r.count,U E r.I,ov]:π ι).setIfInBounds i u=#[tv,U E f.most,U E f.count,U E f.I,d]):
  XZ (w.setCell ⟨g,i,Y⟩ u) B g f tv d vs:=by
 have keep:∀k,(∃(c:π ι) (e:θ),w.heap[k]?=G (xj c e (0,0))/\e≠125)->(w.setCell ⟨g,i,Y⟩ u).heap[k]?=w.heap[k]?:=λk ⟨c,e,j,x⟩ =>
  xW _ _ _ _ λN=>by grind [XZ.cells]
 refine⟨by rw[cI h.cells,q],?_,?_,?_⟩
 ·rw[o];exact bH h.H λk m=>by obtain⟨c,j⟩:=gK h.H m;exact keep k ⟨c,_,j,by decide⟩
 ·grind [bH,gK]
 ·rw[o];exact h.S.keep λv y k m=>by
   obtain⟨n,xs,F⟩:=h.S.mem v y
   grind [gK]
def XZ.F{r:P.Rd}(h:XZ w B g r tv ov vs):g<w.heap.size/\(∀i,w.frozen? ⟨g,i,Y⟩=M)/\w.cell? ⟨g,0,Y⟩=G tv/\w.cell? ⟨g,1,Y⟩=G (U E r.most)/\
  w.cell? ⟨g,2,Y⟩=G (U E r.count)/\w.cell? ⟨g,3,Y⟩=G (U E r.I)/\w.cell? ⟨g,4,Y⟩=G ov:=by
 refine⟨h.lt,λi=>?_,?_,?_,?_,?_,?_⟩<;>simp[x1,x6,h.cells]
theorem O6{x:ι}(h:w.ownsRow B e 1 (VV k (n+1) cap) (n+1) (xs++[x])):w.ownsRow B e 1 (VV k n cap) n xs:=by
 have q:=h.1
 rcases h.2 with⟨d,_⟩|⟨I,o,c,d,y,F,H,f,j,m⟩
 ·simp at d
 ·simp only[Value.slice.injEq,Option.some.injEq,Addr.mk.injEq,and_true,true_and]at d;obtain⟨rfl,rfl⟩:=d;refine⟨by simp at q;omega,.inr ⟨k,cap,c,Z,y,F,by omega,f,j,?_⟩⟩;have N:V xs=n:=by simp at q;omega
  have e:c.toList.take n=(c.toList.take ((n+1)*1)).take n:=by grind
  grind
structure Ef(B g:ν)(w w':ξ):Prop where
 os:w'.os=w.os
 tape:w'.tape=w.tape
 output:w'.output=w.output
 size:w.heap.size<=w'.heap.size
 block:∀k,k<B->k≠g->w'.heap[k]?=w.heap[k]?
def Ef.refl(B g:ν)(w:ξ):Ef B g w w:=⟨Z,Z,Z,x4 _,λ_ _ _=>Z⟩
def Ef.of(h:ρ B w w'):Ef B g w w':=⟨h.os,h.tape,h.output,h.size,λk c _=>h.block k c⟩
def Ef.trans{b c:ξ}(h:Ef B g a b)(k:Ef B g b c):Ef B g a c :=
 ⟨k.os.trans h.os,k.tape.trans h.tape,k.output.trans h.output,xc h.size k.size,λi f d=>(k.block i f d).trans (h.block i f d)⟩
def Ef.drew(h:Ef B g a w):Ef B g a w.drew:=⟨h.os,h.tape,h.output,h.size,h.block⟩
def Ef.alloc(h:Ef B g a w)(c:B<=w.heap.size)(o:Obj):Ef B g a (w.alloc o):=
 h.trans (Ef.of ((x9 _ _).alloc c _))
theorem Ef.setCell(h:Ef B g a w)(u:ι):Ef B g a (w.setCell ⟨g,i,Y⟩ u):=
 h.trans ⟨Z,Z,Z,by simp_all,λk _ c=>xW _ _ _ _ c⟩
def Ef.grown{row:ο ν}(h:Ef B g a w)(d:w.grownBy w' row)(c:B<=w.heap.size)(f:∀k,row=G k->B<=k):Ef B g a w' :=
 h.trans (Ef.of ((x9 _ _).grown d c f))
def Ef.X(h:Ef B g w w')(c:B'<=B)(d:B'<=g):ρ B' w w':=⟨h.os,h.tape,h.output,h.size,λk f=>h.block k (by omega) (by omega)⟩
theorem O7(B g N:ν)(r:P.Rd)(m:P.VW)(w:ξ)(h:eM w B g r)(ac:r.H≠[])(hF:FY N r)(hN:N<10000)(hB:B<=w.heap.size)(ho:V r.O<10):
  γ ζ 127 #[.pointer (G ⟨g,0,Y⟩),K (aU m)] w λe w'=>e=D (T (P.pZ r m).2)/\eM w' B g (P.pZ r m).1/\Ef B g w w':=by
 have hA:=h;obtain⟨tv,ov,vs,h⟩:=h;by_cases he:r.O=[]
 ·have ad:ov=A Y 0 0\/∃k c,ov=VV k 0 c:=by
   have:=h.O;rw[he]at this
   rcases this.2 with⟨e,_⟩|⟨k,c,y,e,_⟩
   ·exact .inl e
   ·exact .inr ⟨k,c,e⟩
  obtain⟨S,I,g0,g1,g2,g3,g4⟩:=h.F;have x:aC (P.pZ r m=(r,M)):=by grind [aC,P.pZ]
  have W:eM (w.alloc (C (aU m) 137)) B g r:=hA.X bB
  rcases ad with rfl|⟨k,c,rfl⟩
  all_goals
   go_in;go_wp2;go_ret;rw[kS x];exact⟨Z,W,(Ef.refl _ _ _).alloc hB _⟩
 ·obtain⟨f,o,q⟩:=mQ r.O he;have d:=h.O;rw[q]at d;simp only[xu,xv,xk,xi,xw,List.map_cons,List.map_nil]at d;obtain⟨k,cap,rfl,ai,ah⟩:=d.form (by omega);have hc:w.cell? ⟨k,V f,Y⟩=G (U E o):=by
   rw[d.cellAt _ (by omega),xt (by simp)];simp
  obtain⟨S,I,g0,g1,g2,g3,g4⟩:=h.F;have an:V f<10:=by grind
  have x:aC (P.pZ r m=(P.put {r with O:=f} {m with label:=o},L)):=by grind [aC,P.pZ]
  have HR:aC (eM ((w.setCell ⟨g,4,Y⟩ (VV k (V f) cap)).alloc (C (aU {m with label:=o}) 137)) B g {r with O:=f}):=by
   have k2:=h.O;rw[q]at k2;simp only[xu,xv,xk,xi,xw,List.map_cons,List.map_nil]at k2;have k3:=h.yZ {r with O:=f} (VV k (V f) cap) 4 (VV k (V f) cap) Z (O6 k2) Z;exact⟨tv,_,vs,k3.keep λj hj=>x2 _ _ _ hj⟩
  have aa:aC (Ef B g w ((w.setCell ⟨g,4,Y⟩ (VV k (V f) cap)).alloc (C (aU {m with label:=o}) 137))):=
   ((Ef.refl _ _ _).setCell _).alloc (by simp;omega) _
  have am:V f+1<=cap:=by
   rcases d.2 with⟨h',_⟩|⟨g',ag,y,h',hb,hg,al,aj,ak,af⟩
   ·simp at h'
   grind
  simp only[aU];go_in;go_wp2_with(first
   |(go_at_call 129;refine(TI B g N {r with O:=f} {m with label:=o} _ (by exact HR) ac hF hN (by simp;omega)).mono ?_;rintro e w1 ⟨rfl,ae,ab⟩))
  go_ret;rw[kS x];exact⟨Z,ae,aa.trans (Ef.of ab)⟩
def Tryz.XE:(prog.info? 3).map (λi=>(i.zero,i.size,i.bytes))=G (G (U E 0),1,8):=by kernel_rfl
theorem O8{W0:ξ}{r:P.Rd}{x:φ}(h:XZ w B g r tv ov vs)(X:∀k,k<w.heap.size->W0.heap[k]?=w.heap[k]?)(aa:w.heap.size<=W0.heap.size)(m:w1.ownsRow B 3 1 (VV g1 (V r.O+1) cap1) (V r.O+1) (r.O.map (xR E)++[U E x]))(d:W0.grownBy w1 ov.ownBlock):
  XZ (w1.setCell ⟨g,4,Y⟩ (VV g1 (V r.O+1) cap1)) B g {r with O:=r.O++[x]} tv (VV g1 (V r.O+1) cap1) vs/\∀k,k<W0.heap.size->ov.ownBlock≠G k->k≠g->(w1.setCell ⟨g,4,Y⟩ (VV g1 (V r.O+1) cap1)).heap[k]?=W0.heap[k]?:=by
 have same:∀k,k<w.heap.size->ov.ownBlock≠G k->w1.heap[k]?=w.heap[k]?:=λk o q=>by
  rw[d.block k (by omega) (Ne.symm q),X k o]
 have nt:∀k,(∃(c:π H) (e:θ),w.heap[k]?=G (xj c e (0,0))/\e≠3)->ov.ownBlock≠G k:=λk ⟨c,e,j,F⟩=>tM h.O j (Ne.symm F)
 have keep:∀k,k<w.heap.size->(∃(c:π H) (e:θ),w.heap[k]?=G (xj c e (0,0))/\e≠3)->w1.heap[k]?=w.heap[k]?:=λk o q=>same k o (nt k q)
 have o:XZ w1 B g {r with O:=r.O++[x]} tv (VV g1 (V r.O+1) cap1) vs->True:=λ_=>trivial
 have y:w1.heap[g]?=w.heap[g]?:=keep g h.lt ⟨_,_,h.cells,by decide⟩;refine⟨⟨?_,?_,?_,?_⟩,λk o q N=>?_⟩
 ·have:=h.cells;rw[<- y]at this;rw[cI this];rfl
 ·refine bH h.H λk f=>?_;obtain⟨c,j⟩:=gK h.H f;rw[xW _ _ _ _ λe=>by simp at e;subst e;rw[h.cells]at j;simp at j]
  grind
 ·have W:=m;refine bH (by simpa using W) λk f=>xW _ _ _ _ λe=>?_;simp at e;subst e;obtain⟨c,j⟩:=gK m f;rw[y,h.cells]at j;simp at j
 ·refine h.S.keep λv hv k f=>?_;obtain⟨n,xs,I⟩:=h.S.mem v hv;obtain⟨c,j⟩:=gK I f;rw[xW _ _ _ _ λe=>by simp at e;subst e;rw[h.cells]at j;simp at j]
  grind
 ·rw[xW _ _ _ _ N,d.block k o (Ne.symm q)]
theorem O9(B g N:ν)(r:P.Rd)(f:P.VW)(w:ξ)(h:eM w B g r)(ad:r.H≠[])(hF:FY N r)(hN:N<10000)(hB:B<=w.heap.size)(ho:V r.O<2)(ao:0<=r.I)(ap:r.I<10000):
  γ ζ 128 #[.pointer (G ⟨g,0,Y⟩),K (aU f)] w λe w'=>e=D (T (P.branch r f).2)/\eM w' B g (P.branch r f).1/\Ef B g w w':=by
 obtain⟨tv,ov,vs,h⟩:=h;obtain⟨i0,hi,ag,ah,ai⟩:=info_parts Tryz.XE;have ae:∃a c,ov=A a (V r.O) c:=by
  rcases h.O.2 with⟨e,h0⟩|⟨k,c,ak,e,_⟩
  ·grind
  ·exact⟨_,c,e⟩
 obtain⟨y,S,rfl⟩:=ae;obtain⟨am,al,g0,g1,g2,g3,g4⟩:=h.F;have HE:aC (P.branch r f=(P.put {r with I:=r.I+1,O:=r.O++[r.I+1]} {f with label:=r.I+1},L)):=by
  simp_all [aC,P.branch,χ]
 have m:XZ ((w.setCell ⟨g,3,Y⟩ (U E (r.I+1))).alloc (C (aU {f with label:=r.I+1}) 137)) B g {r with I:=r.I+1} tv (A y (V r.O) S) vs :=
  (h.yZ {r with I:=r.I+1} (A y (V r.O) S) 3 (U E (r.I+1)) Z h.O Z).keep λj hj=>x2 _ _ _ hj
 have HO:aC ((((w.setCell ⟨g,3,Y⟩ (U E (r.I+1))).alloc (C (aU {f with label:=r.I+1}) 137)).drew.alloc (C #[U E (r.I+1)] 3)).ownsRow B 3 1 (A y (V r.O) S) (V r.O) (r.O.map (xR E))):=(m.O.drew).alloc _;have HN:aC (∀j u,[xR E (r.I+1)][j]?=G u->(((w.setCell ⟨g,3,Y⟩ (U E (r.I+1))).alloc (C (aU {f with label:=r.I+1}) 137)).drew.alloc (C #[U E (r.I+1)] 3)).cell? ((⟨w.heap.size+1,0,Y⟩:Addr).add j)=G u):=
  xd (cs:=#[U E (r.I+1)]) (t:=3) (fr:=(0,0)) (by have:=δ ((w.setCell ⟨g,3,Y⟩ (U E (r.I+1))).alloc (C (aU {f with label:=r.I+1}) 137)).drew (C #[U E (r.I+1)] 3);simpa using this)
 have q:G g≠(Value.slice y (V r.O) S).ownBlock:=Ne.symm (tM m.O m.cells (by decide));have eb:(((w.setCell ⟨g,3,Y⟩ (U E (r.I+1))).alloc (C (aU {f with label:=r.I+1}) 137)).drew.alloc (C #[U E (r.I+1)] 3)).heap[g]?=((w.setCell ⟨g,3,Y⟩ (U E (r.I+1))).alloc (C (aU {f with label:=r.I+1}) 137)).heap[g]?:=x2 _ _ _ m.lt;have HC:aC ((((w.setCell ⟨g,3,Y⟩ (U E (r.I+1))).alloc (C (aU {f with label:=r.I+1}) 137)).drew.alloc (C #[U E (r.I+1)] 3)).cell? ⟨g,4,Y⟩=G (A y (V r.O) S)):=by
  unfold aC;rw[x8 (w:=(w.setCell ⟨g,3,Y⟩ (U E (r.I+1))).alloc (C (aU {f with label:=r.I+1}) 137)) eb];simp[x1,m.cells]
 have HF:aC ((((w.setCell ⟨g,3,Y⟩ (U E (r.I+1))).alloc (C (aU {f with label:=r.I+1}) 137)).drew.alloc (C #[U E (r.I+1)] 3)).frozen? ⟨g,4,Y⟩=M):=by
  unfold aC;rw[xr (w:=(w.setCell ⟨g,3,Y⟩ (U E (r.I+1))).alloc (C (aU {f with label:=r.I+1}) 137)) eb];simp[x6,m.cells]
 have fin:∀X W w1,World.ownsRow w1 B 3 1 (VV X (V r.O+1) W) (V r.O+1) (r.O.map (xR E)++[U E (r.I+1)])->(((w.setCell ⟨g,3,Y⟩ (U E (r.I+1))).alloc (C (aU {f with label:=r.I+1}) 137)).drew.alloc (C #[U E (r.I+1)] 3)).grownBy w1 (Value.slice y (V r.O) S).ownBlock ->
   eM (w1.setCell ⟨g,4,Y⟩ (VV X (V r.O+1) W)) B g {r with I:=r.I+1,O:=r.O++[r.I+1]}/\bK (w1.setCell ⟨g,4,Y⟩ (VV X (V r.O+1) W)) w.heap.size {f with label:=r.I+1}/\Ef B g w (w1.setCell ⟨g,4,Y⟩ (VV X (V r.O+1) W)):=λX W w1 aa d=>by
  obtain⟨m1,m2⟩:=O8 (W0:=((w.setCell ⟨g,3,Y⟩ (U E (r.I+1))).alloc (C (aU {f with label:=r.I+1}) 137)).drew.alloc (C #[U E (r.I+1)] 3)) m (λk hk=>x2 _ _ _ hk) (by simp) aa d;have hs:bK ((w.setCell ⟨g,3,Y⟩ (U E (r.I+1))).alloc (C (aU {f with label:=r.I+1}) 137)) w.heap.size {f with label:=r.I+1}:=by
   have:=bK.new (w.setCell ⟨g,3,Y⟩ (U E (r.I+1))) {f with label:=r.I+1};simpa using this
  refine⟨⟨_,_,_,m1⟩,(bK.alloc (w:=((w.setCell ⟨g,3,Y⟩ (U E (r.I+1))).alloc (C (aU {f with label:=r.I+1}) 137)).drew) hs _).aG (m2 w.heap.size (by simp;omega) (tM m.O hs (by decide)) (by omega)),?_⟩;refine Ef.setCell (Ef.grown (((((Ef.refl B g w).setCell _).alloc (by simp;omega) _).drew).alloc (by simp;omega) _) d (by simp;omega) λk hk=>(m.O.lt k hk).1) _
 have ab:=aD fin;simp only[aU];go_in;go_wp2_with fail;go_region_law(refine step_append_lies _ Z (.tmp 27) (.tmp 32) 37 Z B 3 i0 (U E 0) 1 8 υ hi ag ah ai Z (by decide) (A y (V r.O) S) (V r.O) (r.O.map (xR E)) (by simp[xb]) (by exact HO) ⟨w.heap.size+1,0,Y⟩ 1 1 [U E (r.I+1)] (by simp[xb]) Z (by exact HN) (by simp[xe]) (by decide) (by unfold maxLen;omega) (by omega) (by simp;omega) (w.heap.size+2) (by simp) ?_;intro X W w1 x d an aj;have c1:=(d.cell_far ⟨g,4,Y⟩ (by simp;omega) q).trans HC;have f1:=(d.frozen_far ⟨g,4,Y⟩ (by simp;omega) q).trans HF;have aq:w.heap.size+2<=w1.heap.size:=by have:=d.size;simp at this;omega)
 all_goals
  obtain⟨q1,q2,q3⟩:=ab.o _ _ _ x d;have Q1:=aD q1;have Q2:=aD q2;go_wp2_with(first
   |(refine yS (.tmp 3) Z Z w.heap.size {f with label:=r.I+1} Z (by exact Q2) ?_)
   |(go_at_call 129;refine(TI B g N {r with I:=r.I+1,O:=r.O++[r.I+1]} {f with label:=r.I+1} _ (by exact Q1) ad hF hN (by simp;omega)).mono ?_;rintro e w2 ⟨rfl,af,ac⟩))
  go_ret;rw[kS HE];exact⟨Z,af,q3.trans (Ef.of ac)⟩
theorem Bs(x:ψ)(l:W N)(h:x.data.toList=l):x=⟨l.toArray⟩:=by
 subst h;cases x;simp
theorem NP(l:W N):(⟨l.toArray⟩:ψ).toList=l:=by simp_all
theorem tZ(a b:ψ):(a++b).toList=a.toList++b.toList:=by
 simp_all [xB]
theorem bI(l:f N):(⟨l⟩:ψ).toList=l.toList:=by rw[xB]
theorem qA(l:f N):(⟨l⟩:ψ).size=l.size:=rfl
def jZ(k:S)(s:ψ)(l:W N):Prop:=s.toList=l/\s.size<=k
def jZ.size{l:σ ω}(h:jZ k s l):s.size<=k:=h.2
namespace Q
def jW(b:W O):m:=b.all λx=>decide (1<=x)
def inc:W O->W O->W O×m
 |b::bs,d::ds=>if d+1<b then((d+1)::ds,L)else(0::(inc bs ds).1,(inc bs ds).2)
 |_,ds=>(ds,M)
end Q
def rH(l:W O):f H:=(l.map (xR E)).toArray
def WO(w:I)(g:S)(l:W O):Prop:=w.heap[g]?=G (C (rH l) 3 (0,0))
theorem WO.lt{l:σ φ}(h:WO w g l):g<w.heap.size:=dC h
theorem WO.aG{l:σ φ}(h:WO w g l)(e:w'.heap[g]?=w.heap[g]?):WO w' g l:=by grind [WO]
def WO.X{l:σ φ}(h:WO w g l)(c:ρ w.heap.size w w'):WO w' g l:=h.aG (c.block g h.lt)
def WO.cell{l:σ φ}(h:WO w g l)(i:ν)(c:i<V l):w.cell? ⟨g,i,Y⟩=G (U E l[i]):=by
 unfold WO at h;simp[x1,h,rH,c]
def WO.free{l:σ φ}(h:WO w g l)(i:ν):w.frozen? ⟨g,i,Y⟩=M:=by
 unfold WO at h;simp[x6,h]
def WO.set{l:σ φ}(h:WO w g l)(i:ν)(x:φ):WO (w.setCell ⟨g,i,Y⟩ (U E x)) g (l.set i x):=by
 unfold WO at*;rw[cI h];simp[rH,List.map_set]
structure YI(w:ξ)(gc o gb gd:ν)(bs ds:σ φ)(begun:τ):Prop where
 c0:w.cell? ⟨gc,o,Y⟩=G (VV gb (V bs) (V bs))
 c1:w.cell? ⟨gc,o+1,Y⟩=G (VV gd (V ds) (V ds))
 c2:w.cell? ⟨gc,o+2,Y⟩=G (T begun)
 free:∀j,w.frozen? ⟨gc,j,Y⟩=M
 lt:gc<w.heap.size
 bases:WO w gb bs
 digits:WO w gd ds
 cd:gc≠gd
 cb:gc≠gb
 bd:gb≠gd
 len:V ds=V bs
theorem Pa(q o y gd:ν)(c x:σ φ)(d:τ)(w:ξ)(h:YI w q o y gd c x d)(hn:V c<10000):
  γ ζ 141 #[.pointer (G ⟨q,o,Y⟩)] w λe w'=>e=D (T (Q.jW c))/\w'=w:=by
 obtain⟨I,N,O,S,cl,_,_,_,_,_,_⟩:=id h;have HB:=aD h.bases;go_in;go_wp2;go_loop [10] (λi=>∃k:ν,k<=V c/\i=U E k/\aC (Q.jW c=Q.jW (c.drop k))) λi=>V c-(Γ i).toNat
 case atStart=>exact⟨0,xh _,Z,Z⟩
 case round =>
  obtain⟨k,X,rfl,j⟩:=hrel;by_cases hlt:k<V c
  ·have F:=lI hlt;have W:=HB.cell k hlt;have m:aC (Q.jW (c.drop k)=(decide (1<=c[k])&&Q.jW (c.drop (k+1)))):=by
    unfold aC;rw[xl hlt];rfl
   generalize c[k]=b at*;by_cases hb:b<1
   ·have f:aC (Q.jW c=M):=by unfold aC;rw[j.o,m.o,decide_eq_false (by omega)];rfl
    go_wp2;go_ret;rw[f.o];exact⟨Z,Z⟩
   ·have H:aC (Q.jW c=Q.jW (c.drop (k+1))):=by unfold aC;rw[j.o,m.o,decide_eq_true (by omega)];rfl
    go_wp2
    grind [Γ]
  ·have f:aC (Q.jW c=L):=by unfold aC;rw[j.o,List.drop_eq_nil_of_le (by omega)];rfl
   go_wp2;go_ret;rw[f.o];exact⟨Z,Z⟩
theorem Pb(d c:W O)(k:S)(f:k<V d)(j:k<V c):Q.inc (d.drop k) (c.drop k)=if c[k]+1<d[k]then((c[k]+1)::c.drop (k+1),L)else(0::(Q.inc (d.drop (k+1)) (c.drop (k+1))).1,(Q.inc (d.drop (k+1)) (c.drop (k+1))).2):=by
 grind [xl,Q.inc]
theorem Bt(c:W O)(k:S)(d:k<V c)(x:O):(xF k 0++c.drop k).set k x=xF k 0++x::c.drop (k+1):=by
 have e:k-(xF k (0:O)).length=0:=by simp
 grind [xl]
theorem Pc(c:W O)(k:S)(d:k<V c):(xF k 0++c.drop k).set k 0=xF (k+1) 0++c.drop (k+1):=by
 grind [Bt,xx]
theorem Pd(c:W O)(k:S)(d:k<V c)(h:k<(xF k (0:O)++c.drop k).length):(xF k (0:O)++c.drop k)[k]=c[k]:=by
 grind
def Pe(d o q gd:S)(f m:W O)(w:ξ)(h:YI w d o q gd f m M)(I:V f<10000):
  γ ζ 107 #[.pointer (G ⟨d,o,Y⟩)] w λe w'=>e=D (T (Q.jW f))/\w'=w.setCell ⟨d,o+2,Y⟩ (T L):=by
 have x:aC (YI (w.setCell ⟨d,o+2,Y⟩ (T L)) d o q gd f m L):=
  ⟨(xy _ _ _ _ (by simp)).trans h.c0,(xy _ _ _ _ (by simp)).trans h.c1,World.cell?_setCell_same _ _ _ h.c2,λj=>by rw[World.frozen?_setCell];exact h.free j,by simpa using h.lt,
   h.bases.aG (xW _ _ _ _ λe=>h.cb e.symm),h.digits.aG (xW _ _ _ _ λe=>h.cd e.symm),h.cd,h.cb,h.bd,h.len⟩
 obtain⟨y,F,H,N,cl,_,_,_,_,_,_⟩:=id h;go_in;go_wp2_with(first|(go_at_call 141;refine(Pa d o q gd f m L _ x I).mono ?_;rintro e w' ⟨rfl,c⟩;have c:=c.symm;subst c));go_ret;exact⟨Z,Z⟩
theorem Pf(x o gb gd:ν)(f c:σ φ)(w:ξ)(h:YI w x o gb gd f c L)(hn:V f<10000)(hd:∀d∈c,0<=d/\d<1000000000):
  γ ζ 107 #[.pointer (G ⟨x,o,Y⟩)] w λe w'=>e=D (T (Q.inc f c).2)/\WO w' gd (Q.inc f c).1/\w.grownBy w' (G gd)/\w'.heap.size=w.heap.size:=by
 obtain⟨c0,c1,c2,cf,cl,ad,ai,ah,ag,af,am⟩:=h;have y:=aD ad;have S:=aD hd;go_in;go_wp2;go_loopw[20] (λi wr=>∃k:ν,k<=V f/\i=U E k/\aC (Q.inc f c=(xF k 0++(Q.inc (f.drop k) (c.drop k)).1,(Q.inc (f.drop k) (c.drop k)).2))/\aC (WO wr gd (xF k 0++c.drop k))/\w.grownBy wr (G gd)/\wr.heap.size=w.heap.size) λi _=>V f-(Γ i).toNat
 case atStart=>exact⟨0,xh _,Z,by simp[aC],by grind,nJ _ _,Z⟩
 case round =>
  obtain⟨k,hk,rfl,HI,F,O,q⟩:=hrel;have ac:wr.heap[x]?=w.heap[x]?:=O.block x cl (by grind);have d1:wr.cell? ⟨x,o+1,Y⟩=G (VV gd (V c) (V c)):=by rw[<- c1];simp only[x1,ac]
  have HB:aC (WO wr gb f):=y.aG (O.block gb y.lt (by grind));have aj:∀j,wr.frozen? ⟨gd,j,Y⟩=M:=λj=>F.free j
  by_cases hlt:k<V f
  ·have m:k<V c:=by omega
   have ak:=lI hlt;have ae:=HB.cell k hlt;have N:=F.cell k (by grind);rw[Pd c k m]at N;have an:=S.o c[k] (xq m);have X:=aD (Pb f c k hlt m);have I:=aD (F.set k (c[k]+1));have H:=aD ((F.set k (c[k]+1)).set k 0);have ab:(xF k (0:φ)++c.drop k).set k (c[k]+1)=xF k 0++(c[k]+1)::c.drop (k+1):=Bt c k m _;have aa:((xF k (0:φ)++c.drop k).set k (c[k]+1)).set k 0=xF (k+1) 0++c.drop (k+1):=by grind [List.set_set,Pc]
   rw[ab]at I;rw[aa]at H;generalize c[k]=d at*;generalize f[k]=b at*;by_cases hb:d+1<b
   ·have W:aC (Q.inc f c=(xF k 0++(d+1)::c.drop (k+1),L)):=by unfold aC;rw[HI.o,X.o,κ hb]
    go_wp2;go_ret;rw[W.o];exact⟨Z,I,kZ O _ _,by simpa using q⟩
   ·have HN:aC (Q.inc f c=(xF (k+1) 0++(Q.inc (f.drop (k+1)) (c.drop (k+1))).1,(Q.inc (f.drop (k+1)) (c.drop (k+1))).2)):=by
     simp_all [aC,xx]
    go_wp2;go_roundw;exact⟨k+1,by omega,by go_num,HN,H,kZ (kZ O _ _) _ _,by simpa using q⟩;simp[Γ];omega
  ·have al:k=V f:=by omega
   have W:aC (Q.inc f c=(xF k 0++c.drop k,M)):=by
    grind [Q.inc]
   go_wp2;go_ret;rw[W.o];exact⟨Z,F,O,q⟩
def MQ(l:W H)(o:S):W H->W H
 |[]=>l
 |v::vs=>MQ (l.set o v) (o+1) vs
theorem CM(b:S)(e:θ)(fr:S×S):∀(vs l:W H) (o:S) (w:I),w.heap[b]?=G (C l.toArray e fr)->(w.setCells b o vs).heap[b]?=G (C (MQ l o vs).toArray e fr)
 |[],l,o,w,h=>h
 |v::vs,l,o,w,h=>by
  have c:=cI h o v;rw[x7];exact CM b e fr vs (l.set o v) (o+1) _ (by grind)
theorem OY:∀(vs pre rest:W H),V rest=V vs->MQ (pre++rest) (V pre) vs=pre++vs
 |[],pre,rest,h=>by have:rest=[]:=List.eq_nil_of_length_eq_zero h;rw[this];rfl
 |v::vs,pre,[],h=>by simp at h
 |v::vs,pre,r::rest,h=>by
  have e:(pre++r::rest).set (V pre) v=pre++[v]++rest:=by grind
  have:=OY vs (pre++[v]) rest (by simpa using h)
  grind [MQ]
def EV(b:S):∀(vs:W H) (o:S) (w:I) (k:S),k≠b->(w.setCells b o vs).heap[k]?=w.heap[k]?
 |[],_,_,_,_=>Z
 |v::vs,o,w,k,h=>by rw[x7,EV b vs (o+1) _ k h,xW _ _ _ _ h]
theorem DZ(n:S):η #[U E 0] n=rH (xF n 0):=by
 apply xo;intro i;by_cases h:i<n
 ·simp[η,rH,h,Nat.mod_one]
 grind [η,rH]
def xX(b:S):∀(vs:W H) (o:S) (w:I),(w.setCells b o vs).heap.size=w.heap.size
 |[],_,_=>Z
 |v::vs,o,w=>by rw[x7,xX b vs (o+1)];simp
def Below.setCells{B b:ν}{a:ξ}(c:B<=b):∀(vs:σ ι) (o:ν) (w:ξ),ρ B a w->ρ B a (w.setCells b o vs)
 |[],_,_,h=>h
 |v::vs,o,w,h=>by rw[x7];exact Below.setCells c vs (o+1) _ (h.setCell c v)
def YA(w:I)(v:H)(l:W O):Prop:=v=A Y 0 0/\l=[]\/∃g cap,v=VV g (V l) cap/\(∀i (h:i<V l),w.cell? ⟨g,i,Y⟩=G (U E l[i]))/\g<w.heap.size/\V l<=cap
theorem NO(v:ι)(l:σ φ)(w:ξ)(h:YA w v l)(S:V l<10000):
  γ ζ 115 #[v] w λe w'=>∃g,e=D (VV g (V l) (V l))/\WO w' g l/\w.heap.size<=g/\ρ w.heap.size w w':=by
 have o:∀w,(xz 37 (U E (V l:φ)) (U E (V l:φ))).run ζ w=.ok (VV w.heap.size (V l) (V l)) (w.alloc (C (η #[U E 0] (V l)) 3)):=
  λw=>run_make_row' 37 3 (U E 0) 8 υ Tryz.XE Z E E (V l) (by omega) (by omega) w
 have c:(w.alloc (C (η #[U E 0] (V l)) 3)).heap[w.heap.size]?=G (C (rH (xF (V l) 0)) 3 (0,0)):=by grind [DZ,δ]
 have d:(prog.info? 3).map (·.size)=G 1:=by kernel_rfl
 rcases h with⟨rfl,rfl⟩|⟨g,cap,rfl,I,N,_⟩
 ·have H:=aD c;have q:∀w,(xz 37 (U E 0) (U E 0)).run ζ w=.ok (VV w.heap.size 0 0) (w.alloc (C (η #[U E 0] 0) 3)):=o;have f:∀W:ξ,(Builtin.copy_ #[37,37] 3 #[VV w.heap.size 0 0,A Y 0 0]).run ζ W=.ok (goInt 0) W:=λW=>run_copy_none W _ _ _ 3 _ _ 0 0 0 0 υ d Z
  go_in;go_wp2;go_ret;refine⟨w.heap.size,Z,?_,x4 _,bB⟩;exact H
 ·have O:∀j (m:j<V l),(w.alloc (C (η #[U E 0] (V l)) 3)).cell? ⟨g,j,Y⟩=G (U E l[j]):=λj m=>by
   rw[<- I j m];simp only[x1,x2 _ _ _ N]
  have f:(Builtin.copy_ #[37,37] 3 #[VV w.heap.size (V l) (V l),VV g (V l) cap]).run ζ (w.alloc (C (η #[U E 0] (V l)) 3))=.ok (goInt (l.map (xR E)).length) ((w.alloc (C (η #[U E 0] (V l)) 3)).setCells w.heap.size 0 (l.map (xR E))):=by
   refine run_copy_cells _ _ _ _ 3 _ _ _ _ _ _ _ _ υ d (by simp) ?_ ?_ ?_ ?_
   ·grind [Addr.add]
   ·intro j m;simp only[x1,c]
    grind [rH]
   ·simp_all
   ·intro v y;simp at y;obtain⟨x,_,rfl⟩:=y;rfl
  have F:aC (WO ((w.alloc (C (η #[U E 0] (V l)) 3)).setCells w.heap.size 0 (l.map (xR E))) w.heap.size l):=by
   unfold aC WO;have:=CM w.heap.size 3 (0,0) (l.map (xR E)) ((xF (V l) 0).map (xR E)) 0 _ c;rw[this];have e:=OY (l.map (xR E)) [] ((xF (V l) 0).map (xR E)) (by simp);simp only[List.nil_append,xk]at e;rw[e];rfl
  have HB:aC (ρ w.heap.size w ((w.alloc (C (η #[U E 0] (V l)) 3)).setCells w.heap.size 0 (l.map (xR E)))):=Below.setCells (x4 _) _ _ _ bB;go_in;go_wp2;go_ret;exact⟨w.heap.size,Z,F,x4 _,HB⟩
