import Derived.Shelf.Strconv.Itoa3
import Derived.Test.YteekngiepnnmjaaGreatDoorV04
set_option linter.all false
set_option maxHeartbeats 0
namespace Go.Proofs.YteekngiepnnmjaaGreatDoor
open Go Go.RowKit Go.Proofs.Tryz P Q
open scoped Classical
set_option maxRecDepth 1000000
open _root_ renaming ByteArray->I,ByteArray->σ,List->O,List->ν,UInt8->z,UInt8->ι,Int->S,Int->ω,congrArg->s,congrArg->ψ,Nat->N,Nat->τ,if_pos->γ,Bool->t
open Go renaming World->u,World->ξ,Calls->π,Value->ζ,heap_alloc_new->ε
open Go.RowKit renaming Below->φ,intOf->η
open Go.Proofs.Tryz renaming prog->v,prog->ρ,underlying9->δ
variable {w w' w0 w1 w2:ξ}{ws:ν σ}{B b cap g n:τ}{bv:ζ}{ops:Array Oper}{op:Oper}{a:Act}
open _root_.Array renaming size->K
open Go.World renaming heap->J
open List renaming length->V
open Option renaming none->Y,some->U
open Go.Value renaming string->C,int->M,slice->D,bool->W
open Bool renaming false->G,true->A
open Go.IntKind renaming i64->E
open Go.Ending renaming returned->H
open Go.Obj renaming cells->T
open _root_.ByteArray renaming toList->xF
open Nat renaming le_refl->xR,zero_le->x3,zero_add->x4,lt_of_lt_of_le->x9
open Go.Value renaming string->xW
open Go.Instr renaming slice->x1
open List renaming length_map->x2,take_of_length_le->x5,drop_eq_getElem_cons->x7,drop_of_length_le->x8,getElem?_append_right->xa,eq_nil_of_length_eq_zero->xb
open Go.Result renaming andThen_ok->x6
def Sh:Shelf.Ren:=⟨λ|171=>126|243=>152|246=>174|283=>199|284=>200|285=>201|286=>202|129=>221|317=>220|318=>222|319=>223|320=>224|337=>225|338=>226|n=>n,λ|3=>3|9=>9|2=>2|4=>4|171=>243|0=>0|53=>177|37=>102|5=>5|173=>246|212=>251|51=>252|20=>20|213=>253|46=>232|232=>256|233=>257|n=>n,λ|17=>0|18=>1|19=>2|n=>n⟩
def Si:LaysM.n171 v Sh where
 mixed:=by kernel_rfl
 f129:=func221.trans (s U (by kernel_rfl))
 f171:=func126.trans (s U (by kernel_rfl))
 f243:=func152.trans (s U (by kernel_rfl))
 f246:=func174.trans (s U (by kernel_rfl))
 f283:=func199.trans (s U (by kernel_rfl))
 f284:=func200.trans (s U (by kernel_rfl))
 f285:=func201.trans (s U (by kernel_rfl))
 f286:=func202.trans (s U (by kernel_rfl))
 f317:=func220.trans (s U (by kernel_rfl))
 f318:=func222.trans (s U (by kernel_rfl))
 f319:=func223.trans (s U (by kernel_rfl))
 f320:=func224.trans (s U (by kernel_rfl))
 f337:=func225.trans (s U (by kernel_rfl))
 f338:=func226.trans (s U (by kernel_rfl))
 t0:=underlying0
 a0:=isAgg0
 z0:=sizeOf0
 v0:=zeroValue0
 t2:=underlying2
 a2:=isAgg2
 z2:=sizeOf2
 v2:=zeroValue2
 t3:=underlying3
 a3:=isAgg3
 z3:=sizeOf3
 v3:=zeroValue3
 t4:=underlying4
 a4:=isAgg4
 z4:=sizeOf4
 v4:=zeroValue4
 t5:=underlying5
 a5:=isAgg5
 z5:=sizeOf5
 v5:=zeroValue5
 t9:=δ
 a9:=isAgg9
 z9:=sizeOf9
 v9:=zeroValue9
 t20:=underlying20
 a20:=isAgg20
 z20:=sizeOf20
 v20:=zeroValue20
 t37:=underlying102
 a37:=isAgg102
 z37:=sizeOf102
 v37:=zeroValue102
 t46:=underlying232
 a46:=isAgg232
 z46:=sizeOf232
 v46:=zeroValue232
 t51:=underlying252
 a51:=isAgg252
 z51:=sizeOf252
 v51:=zeroValue252
 t53:=underlying177
 a53:=isAgg177
 z53:=sizeOf177
 v53:=zeroValue177
 t171:=underlying243
 a171:=isAgg243
 z171:=sizeOf243
 v171:=zeroValue243
 t173:=underlying246
 a173:=isAgg246
 z173:=sizeOf246
 v173:=zeroValue246
 t212:=underlying251
 a212:=isAgg251
 z212:=sizeOf251
 v212:=zeroValue251
 t213:=underlying253
 a213:=isAgg253
 z213:=sizeOf253
 t232:=underlying256
 a232:=isAgg256
 z232:=sizeOf256
 v232:=zeroValue256
 t233:=underlying257
 a233:=isAgg257
 z233:=sizeOf257
 v233:=zeroValue257
 g17:=by kernel_rfl
 g18:=by kernel_rfl
 g19:=by kernel_rfl
 i0:=by kernel_rfl
 i2:=by kernel_rfl
 i3:=by kernel_rfl
 i4:=by kernel_rfl
 i5:=by kernel_rfl
 i9:=by kernel_rfl
 i20:=by kernel_rfl
 i37:=by kernel_rfl
 i46:=by kernel_rfl
 i51:=by kernel_rfl
 i53:=by kernel_rfl
 i171:=by kernel_rfl
 i173:=by kernel_rfl
 i212:=by kernel_rfl
 i232:=by kernel_rfl
 i233:=by kernel_rfl
 m17:=by kernel_rfl
 m18:=by kernel_rfl
 m19:=by kernel_rfl
def Tab(w:u):Prop:=Lib.TabIs v w "internal/strconv.uint64pow10" .u64 Lib.pow10Tab
theorem Tab.X(h:Tab w)(c:φ (K (J w)) w w'):Tab w':=by
 unfold Tab Lib.TabIs World.var? at*
 cases hg:prog.globalNamed "internal/strconv.uint64pow10" with
 |none=>simp[hg]at h
 |some g =>
  grind [Below.block]
theorem Sj(w:u)(k:N)(c:Array Obj):φ (K (J w)) w (Sort.grow (w.drewN k) c):=
 ⟨Z,Z,Z,by simp_all,λj d=>by show(w.heap++c)[j]?=w.heap[j]?;rw[Array.getElem?_append_left d]⟩
theorem Dn(n:N)(h:n<10000):(Lib.decDigits n).length<=4:=by
 grind [Lib.decDigits_length,Lib.nDigits_small,Lib.nDigits_big]
theorem Sk(n:S)(w:u)(f:0<=n)(h:n<10000)(c:Tab w):
  π v 126 #[M E n] w λe w'=>∃s,e=H (C s)/\jZ 4 s (dI n)/\φ (K (J w)) w w':=by
 refine(Any.strconv_Itoa Si n (by omega) (by omega) w c).mono ?_;rintro e w' ⟨rfl,k,d,rfl⟩;have e:Lib.itoa n=Lib.decDigits n.toNat:=by
  simp_all [Lib.itoa,if_neg,γ]
 refine⟨_,Z,⟨?_,?_⟩,Sj w k d⟩
 ·rw[e];exact NP _
 grind [cV,NP,Dn]
theorem Dp(n:S)(w:u)(d:0<=n)(h:n<10000)(f:Tab w):
  π v 87 #[M E n] w λe w'=>∃s,e=H (C s)/\jZ 5 s (YJ n)/\φ (K (J w)) w w':=by
 go_in;go_wp2_with(first|(go_at_call 126;refine(Sk n _ d h f).mono ?_;rintro e w' ⟨s,rfl,c,i⟩;have j:=c.size));go_ret;refine⟨_,Z,⟨?_,?_⟩,i⟩
 ·simp[tZ,bI,c.1,YJ]
 grind [qA]
theorem Sm(c:S)(l:O z)(f o sc:N)(d:sc<2):nL c l (f+1) (2*o+sc)=if YV c (o:S)&&l==rB (o:S) (sc:S)then U ((o:S),(sc:S))else nL c l f (2*o+sc+1):=by
 grind [nL]
def Sn(g:τ)(c:VW)(s:σ)(w:ξ)(h:bK w g c):
  π ρ 132 #[.pointer (U ⟨g,0,Y⟩),C s] w λe w'=>e=H (W (kD c s.toList).2)/\bK w' g (kD c s.toList).1/\w.grownBy w' (U g):=by
 obtain⟨y,x,S,X,g2,g3,g4,g5,g6,g7,g8,g9,v⟩:=h.F;have l:=aD h;clear h
 cases ho:rU c.kind
 ·have j:aC (kD c s.toList=(c,s.toList==[])):=by unfold aC kD;rw[ho];rfl
  cases hs:s.toList.isEmpty
  all_goals
   have f:(s.toList==[])=s.toList.isEmpty:=by cases s.toList<;>rfl
   go_in;go_wp2_with(first|(go_at_call 153;refine(Cf _ _).mono ?_;rintro e w' ⟨rfl,rfl⟩;rw[ho]));go_ret;rw[j.o,f,hs];exact⟨Z,l,nJ _ _⟩
 ·have j:aC (kD c s.toList=match nL c.kind s.toList 12 0 with|some (o,sc)=>({c with q:=o,scope:=sc},A)|none=>(c,G)):=by unfold aC kD;rw[ho];rfl
  go_in;go_wp2_with(first|(go_at_call 153;refine(Cf _ _).mono ?_;rintro e w' ⟨rfl,rfl⟩;rw[ho]));go_loop [5] (λi=>∃o:τ,o<=6/\i=M E o/\aC (nL c.kind s.toList 12 0=nL c.kind s.toList (12-2*o) (2*o))) λi=>6-(η i).toNat
  case atStart=>exact⟨0,by omega,Z,Z⟩
  case round =>
   obtain⟨o,L,rfl,r⟩:=hrel;by_cases hlt:o<6
   ·have z:(o:ω)<=5:=by omega
    go_wp2;go_loop [6] (λi=>∃sc:τ,sc<=2/\i=M E sc/\aC (nL c.kind s.toList 12 0=nL c.kind s.toList (12-2*o-sc) (2*o+sc))) λi=>2-(η i).toNat
    case atStart=>exact⟨0,by omega,Z,r⟩
    case round =>
     obtain⟨sc,N,rfl,k⟩:=hrel;by_cases hls:sc<2
     ·have I:(sc:ω)<=1:=by omega
      have d:aC (nL c.kind s.toList 12 0=if YV c.kind (o:ω)&&s.toList==rB (o:ω) (sc:ω)then U ((o:ω),(sc:ω))else nL c.kind s.toList (12-2*o-(sc+1)) (2*o+(sc+1))):=by
       unfold aC;rw[k.o,show 12-2*o-sc=12-2*o-(sc+1)+1 by omega,Sm _ _ _ _ _ hls];rfl
      cases ha:YV c.kind (o:ω)
      case' true=>cases hb:s.toList==rB (o:ω) (sc:ω)
      all_goals
       rw[ha]at d
       try(have HB:=aD hb;rw[hb]at d;clear hb)
       have u:=aD ((l.sI (o:ω)).jY (sc:ω));clear k;go_wp2_with(first|(go_at_call 154;refine(Nx _ _ _).mono ?_;rintro e w' ⟨rfl,rfl⟩;rw[ha])|(go_at_call 155;refine(Qm _ _ _).mono ?_;rintro e w' ⟨t,rfl,O,rfl⟩;have hq:=(show(s.toList==t.toList)=(s.toList==rB (o:ω) (sc:ω))from by rw[O.1]).trans HB))
       first
        |(go_round
          case rel=>exact⟨sc+1,by omega,by go_num,d⟩
          case measure=>simp[η];omega)
        |(go_ret
          rw[j.o,d.o];exact⟨Z,u,kZ (kZ (nJ _ _) _ _) _ _⟩)
     ·have f:sc=2:=by omega
      have m:aC (nL c.kind s.toList 12 0=nL c.kind s.toList (12-2*(o+1)) (2*(o+1))):=by
       unfold aC;rw[k.o,f,show 12-2*o-2=12-2*(o+1)by omega,show 2*o+2=2*(o+1)by omega]
      clear k;go_wp2;go_round;exact⟨o+1,by omega,by go_num,m⟩;simp[η];omega
   ·have p:o=6:=by omega
    have m:aC (kD c s.toList=(c,G)):=by unfold aC;rw[j.o,r.o,p];rfl
    go_wp2;go_ret;rw[m.o];exact⟨Z,l,nJ _ _⟩
def So(g:τ)(f:VW)(c:ι)(s:σ)(w:ξ)(h:bK w g f)(v:0<=f.label)(x:f.label<10000)(hT:Tab w):
  π ρ 156 #[.pointer (U ⟨g,0,Y⟩),M .u8 (c.toNat:ω),C s] w λe w'=>e=H (W (mV f c s.toList).2)/\bK w' g (mV f c s.toList).1/\w.grownBy w' (U g):=by
 obtain⟨u,r,y,I,L,N,O,S,g6,g7,g8,g9,q⟩:=h.F;have p:=aD h;clear h;have j:aC (mV f c s.toList=if((c.toNat:ω)==100)then({f with dest:=(eB s.toList).1},(eB s.toList).2)else if((c.toNat:ω)==118)then({f with z:=(gZ s.toList).1},(gZ s.toList).2)else if((c.toNat:ω)==97)then({f with a:=(dJ s.toList).1},(dJ s.toList).2)else if((c.toNat:ω)==98)then({f with b:=(dJ s.toList).1},(dJ s.toList).2)else(f,s.toList==YJ f.label)):=by
  unfold aC mV;simp only[show(((c.toNat:ω)==100)=A)=(c=100)from propext (EO c 100 (by omega)),show(((c.toNat:ω)==118)=A)=(c=118)from propext (EO c 118 (by omega)),show(((c.toNat:ω)==97)=A)=(c=97)from propext (EO c 97 (by omega)),show(((c.toNat:ω)==98)=A)=(c=98)from propext (EO c 98 (by omega))]
 cases h1:(c.toNat:ω)==100
 case' false =>
  cases h2:(c.toNat:ω)==118
  case' false =>
   cases h3:(c.toNat:ω)==97
   case' false =>
    cases h4:(c.toNat:ω)==98
    case' false=>cases hb:s.toList==YJ f.label
 all_goals
  rw[h1]at j
  try rw[h2]at j
  try rw[h3]at j
  try rw[h4]at j
  try(have HB:=aD hb;clear hb)
  go_in;go_wp2_with(first
   |(go_at_call 177;refine(Dh s _).mono ?_;rintro e w' ⟨rfl,d⟩;have d:=d.symm;subst d;have k:aC (bK (w.setCell ⟨g,2,Y⟩ (M E (eB s.toList).1)) g {f with dest:=(eB s.toList).1}):=p.set _ 2 _ Z)
   |(go_at_call 178;refine(Rt s _).mono ?_;rintro e w' ⟨rfl,d⟩;have d:=d.symm;subst d;have k:=aD (p.AF (gZ s.toList).1))
   |(go_at_call 179;refine(Ru s _).mono ?_;rintro e w1 ⟨rfl,l⟩;have i:=aD (p.X l);(first|(have _:=h4;have k:=aD ((i.bY (dJ s.toList).1).alloc (T #[W (dJ s.toList).1.VX,M E (dJ s.toList).1.n] 135)))|have k:=aD ((i.OD (dJ s.toList).1).alloc (T #[W (dJ s.toList).1.VX,M E (dJ s.toList).1.n] 135)));obtain⟨u,r,y,I,L,N,O,S,g6,g7,g8,g9,q⟩:=i.F)
   |(go_at_call 87;refine(Dp _ _ v x hT).mono ?_;rintro e w' ⟨t,rfl,ht,m⟩;have hq:=show(s.toList==t.toList)=(s.toList==YJ f.label)by rw[ht.1].trans HB))
  go_ret;rw[j.o]
  first
   |exact⟨Z,k,kZ (nJ _ _) _ _⟩
   |exact⟨Z,k,N6 (kZ (kZ (wK l _) _ _) _ _) _⟩
   |(rw[HB.o];exact⟨Z,p.X m,wK m _⟩)
theorem Sp(d:VW)(c:z)(l:O z):(mV d c l).1.label=d.label:=by
 grind [mV]
def Sq(c:VW)(cs:O z)(ws:O (O z))(k:N)(d:k<V cs)(e:k<V ws):
  nB c (cs.drop k) (ws.drop k)=if(mV c cs[k] ws[k]).2 then nB (mV c cs[k] ws[k]).1 (cs.drop (k+1)) (ws.drop (k+1))else(VW.zero,G):=by
 rw[x7 d,x7 e];rfl
theorem Sr(c:VW)(cs:O z)(ws:O (O z))(k:N)(h:V ws<=k):nB c (cs.drop k) (ws.drop k)=(c,A):=by
 rw[x8 (l:=ws) h]
 cases cs.drop k<;>rfl
def Ss(w:u):bK (w.alloc (T #[M E 0,M E 0,M E 0,M E 0,W G,M E 0,W G,M E 0,M E 0,M E 0,M E 0] 137)) (K (J w)) VW.zero:=bK.new w VW.zero
theorem Su(c:VW)(l:σ)(v:ζ)(ws:ν σ)(w:ξ)(h:wF w v ws)(ah:0<=c.label)(ai:c.label<10000)(hT:Tab w)(hz:l.size<=3)(hn:V ws<=8193):
  π ρ 133 #[.agg (aU c),C l,v] w λe w'=>e=H (BI (fY c l.toList (ws.map xF)))/\φ (K (J w)) w w':=by
 obtain⟨a,cap,rfl,am,(HW:aC _)⟩:=h
 cases hlen:(l.size:ω) != (V ws:ω)
 rotate_left
 ·have S:aC (fY c l.toList (ws.map xF)=(VW.zero,G)):=by
   unfold aC fY;have:(V l.toList != (ws.map xF).length)=A:=by
    rw[cV,x2,bne_iff_ne];rw[bne_iff_ne]at hlen;intro e;exact hlen (by rw[e])
   rw[this];rfl
  simp only[aU];go_in;go_wp2;rw[S.o];refine IM (p:=6) (u:=7) (K (J w)+1) VW.zero G (by kernel_rfl) Z Z ?_ Z ⟨Z,(bB).alloc (by simp) _⟩;have h9:bK ((w.alloc (T (aU c) 137)).alloc (T (aU VW.zero) 137)) (K (J w)+1) VW.zero:=by
   have:=bK.new (w.alloc (T (aU c) 137)) VW.zero;simpa using this
  exact h9
 ·have F:l.size=V ws:=by have h9:=hlen;simp at h9;omega
  have an:=aD F;have S:aC (fY c l.toList (ws.map xF)=nB c l.toList (ws.map xF)):=by
   grind [fY,cV]
  have ak:aC (bK ((w.alloc (T (aU c) 137)).alloc (T (aU VW.zero) 137)) (K (J w)) c):=(bK.new w c).alloc _;have aj:aC (bK ((w.alloc (T (aU c) 137)).alloc (T (aU VW.zero) 137)) (K (J w)+1) VW.zero):=by
   unfold aC;have:=bK.new (w.alloc (T (aU c) 137)) VW.zero;simpa using this
  have af:aC (φ (K (J w)) w ((w.alloc (T (aU c) 137)).alloc (T (aU VW.zero) 137))):=(bB).alloc (by simp) _;clear F;simp only[aU];go_in;go_wp2;go_loopw[19] (λi wr=>∃(k:τ) (q:VW),k<=V ws/\i=M E k/\aC (q.label=c.label)/\aC (nB c l.toList (ws.map xF)=nB q (l.toList.drop k) ((ws.map xF).drop k))/\aC (bK wr (K (J w)) q)/\aC (bK wr (K (J w)+1) VW.zero)/\φ (K (J w)) w wr) λi _=>V ws-(η i).toNat
  case atStart=>exact⟨0,c,x3 _,Z,Z,Z,ak,aj,af⟩
  case round =>
   obtain⟨k,q,hk,rfl,HL,O,HS,HR,d⟩:=hrel;have aq:=d.size;obtain⟨f1,f2,r0⟩:=HR.fs;by_cases hlt:k<V ws
   ·have ao:=lI hlt;obtain⟨b,rfl,N,al⟩:=HW.o (by grind);have ag:=(N.X d) k ws[k] (by simp[hlt]);simp only[x4]at ag;have z:k<l.size:=by grind
    have ap:=lI z;have ae:=aD (Sq q l.toList (ws.map xF) k (by grind [cV]) (by simpa using hlt));have ab:=aD (JF l k z);have I:(ws.map xF)[k]'(by simpa using hlt)=ws[k].toList:=by simp
    have ac:=aD I;generalize hx:ws[k]=x at*;clear hx I N;rw[ae.o,ab.o,ac.o]at O;have aa:aC ((mV q l[k] x.toList).1.label=c.label):=(Sp _ _ _).trans HL
    cases hp:(mV q l[k] x.toList).2
    all_goals
     rw[hp]at O;go_wp2_with(first|(go_at_call 156;refine(So (K (J w)) q l[k] x _ HS (by rw[HL.o];exact ah) (by rw[HL.o];exact ai) (hT.X d)).mono ?_;rintro e w1 ⟨rfl,L,r⟩;rw[hp];have ad:=aD L;have j:=aD (HR.aG (r.block _ f1 (by simp)));obtain⟨f1,f2,r0⟩:=j.fs;have y:=aD (sH d r (xR _));clear r L)|(refine KJ (.tmp 6) (.tmp 31) Z Z (K (J w)+1) VW.zero VW.zero Z Z j ?_;intro w2 t s;have m:=aD t;have f:=aD (sH y s (by omega))))
    ·rw[S.o,O.o];exact IM (p:=6) (u:=7) (K (J w)+1) VW.zero G (by kernel_rfl) Z Z m Z ⟨Z,f⟩
    ·go_roundw;exact⟨k+1,_,by omega,by go_num,aa,O,ad,j,y⟩;simp[η];omega
   ·have HN:aC (fY c l.toList (ws.map xF)=(q,A)):=by
     grind [aC,Sr]
    go_wp2_with(first|(refine yS (.tmp 3) Z Z (K (J w)) q Z HS ?_)|(refine KJ (.tmp 6) (.tmp 33) Z Z (K (J w)+1) VW.zero q Z Z HR ?_;intro w2 t s;have m:=aD t;have f:=aD (sH d s (by omega))));rw[HN.o];exact IM (p:=6) (u:=7) (K (J w)+1) q A (by kernel_rfl) Z Z m Z ⟨Z,f⟩
theorem Sv(L f:O z)(h:V L<=V f):L.isPrefixOf f=(f.take (V L)==L):=by
 grind [List.prefix_iff_eq_take]
def nH(k next:S):VW:=if k==10 then{VW.zero with kind:=k,label:=next}else{VW.zero with kind:=k}
def Sw(first:O z)(ops:O (O z))(next:S)(f:N)(k:S):jF first ops next (f+1) k =
  if(dE k).1.isPrefixOf first then if(kD (nH k next) (first.drop (dE k).1.length)).2 then fY (kD (nH k next) (first.drop (dE k).1.length)).1 (dE k).2 ops else jF first ops next f (k+1)else jF first ops next f (k+1):=by
 rw[jF];rfl
theorem Sx(c:VW)(l:O z):(kD c l).1.label=c.label:=by
 grind [kD]
theorem Sy(k next:S)(c:0<=next)(d:next<10000):0<=(nH k next).label/\(nH k next).label<10000:=by
 grind [nH,VW.zero]
theorem Sz(w:u)(k next:S)(h:(k==10)=A):bK (w.alloc (T #[M E k,M E 0,M E 0,M E 0,W G,M E 0,W G,M E 0,M E 0,M E 0,M E next] 137)) (K (J w)) (nH k next):=by
 have e:nH k next={VW.zero with kind:=k,label:=next}:=by grind [nH]
 rw[e];exact bK.new w {VW.zero with kind:=k,label:=next}
theorem S9(w:u)(k next:S)(h:(k==10)=G):bK (w.alloc (T #[M E k,M E 0,M E 0,M E 0,W G,M E 0,W G,M E 0,M E 0,M E 0,M E 0] 137)) (K (J w)) (nH k next):=by
 have e:nH k next={VW.zero with kind:=k}:=by grind [nH]
 rw[e];exact bK.new w {VW.zero with kind:=k}
def wF.X{v:ζ}(h:wF w v ws)(d:φ (K (J w)) w w'):wF w' v ws:=by
 obtain⟨a,cap,e,j,k⟩:=h;refine⟨a,cap,e,j,λc=>?_⟩;obtain⟨g,e1,f,i⟩:=k c;exact⟨g,e1,f.X d,x9 i d.size⟩
theorem Ta(s:σ)(next:ω)(w:ξ)(hs:s.size<=8192)(h0:0<=next)(h1:next<10000)(hT:Tab w):
  π ρ 90 #[C s,M E next] w λe w'=>e=H (BI (eJ s.toList next))/\φ (K (J w)) w w':=by
 go_in;go_wp2_with(first|(go_at_call 130;refine(Rs s _ hs).mono ?_;rintro e w1 ⟨f,v,ws,rfl,(HF:aC _),(ax:aC _),ah,aA,au,I⟩;obtain⟨va,vc,rfl,ar,aj⟩:=ah));have ac:aC (wF w1 (D va (V ws) vc) ws):=⟨va,vc,Z,ar,aj⟩;have ae:aC (bK w1 (K (J w)) VW.zero):=(Ss w).X I;have x:aC (φ (K (J w)) w w1):=(bB).trans (I.mono (by simp));have ak:K (J w)<K (J w1):=ae.lt;have HE:aC (eJ s.toList next=jF f.toList (ws.map xF) next 11 0):=by grind [aC,eJ]
 clear aj I;go_loopw[8] (λi wr=>∃k:τ,k<=11/\i=M E k/\aC (eJ s.toList next=jF f.toList (ws.map xF) next (11-k) (k:ω))/\aC (bK wr (K (J w)) VW.zero)/\φ (K (J w1)) w1 wr) λi _=>11-(η i).toNat
 case atStart=>exact⟨0,by omega,Z,HE,ae,Below.refl _ _⟩
 case round =>
  obtain⟨k,hk,rfl,HG,HZ,c⟩:=hrel;have al:=c.size;obtain⟨f1,f2,r0,r1,r2,r3,r4,r5,r6,r7,r8,r9,aF⟩:=HZ.F;by_cases hlt:k<11
  ·have aB:(k:ω)<=10:=by omega
   have l:aC (eJ s.toList next=if(dE (k:ω)).1.isPrefixOf f.toList then if(kD (nH k next) (f.toList.drop (dE (k:ω)).1.length)).2 then fY (kD (nH k next) (f.toList.drop (dE (k:ω)).1.length)).1 (dE (k:ω)).2 (ws.map xF)else jF f.toList (ws.map xF) next (11-(k+1)) ((k+1:τ):ω)else jF f.toList (ws.map xF) next (11-(k+1)) ((k+1:τ):ω)):=by
    unfold aC;rw[HG.o,show 11-k=11-(k+1)+1 by omega,Sw];rfl
   have ab:aC (V f.toList=f.size):=cV f;clear HG;by_cases hA:f.size<(dE (k:ω)).1.length
   ·have HN:aC (eJ s.toList next=jF f.toList (ws.map xF) next (11-(k+1)) ((k+1:τ):ω)):=by
     grind [aC]
    go_wp2_with(first|(go_at_call 131;refine(Cd _ _).mono ?_;rintro e w' ⟨b,t,rfl,hb,ht,j⟩;have j:=j.symm;subst j;have m:b.size=(dE (k:ω)).1.length:=(by rw[<- cV,hb.1]);have hc:(f.size:ω)<b.size:=by omega));go_roundw;exact⟨k+1,by omega,by go_num,HN,HZ,c⟩;simp[η];omega
   have r:=aD (Sv (dE (k:ω)).1 f.toList (by rw[ab.o];omega));have S:=aD (Sy (k:ω) next h0 h1);have aa:=aD (Sx (nH k next) (f.toList.drop (dE (k:ω)).1.length))
   cases hB:f.toList.take (dE (k:ω)).1.length==(dE (k:ω)).1
   case' true =>
    cases ho:(kD (nH k next) (f.toList.drop (dE (k:ω)).1.length)).2<;>cases h10:(k:ω)==10
   all_goals
    rw[r.o,hB]at l;have HB:=aD hB;clear hB r;generalize aq:(kD (nH k next) (f.toList.drop (dE (k:ω)).1.length)).1=st at*;go_wp2_with(first
     |(go_at_call 131;refine(Cd _ _).mono ?_;rintro e w' ⟨b,t,rfl,hb,ht,j⟩;have j:=j.symm;subst j;have m:b.size=(dE (k:ω)).1.length:=(by rw[<- cV,hb.1]);have hc:¬(f.size:ω)<b.size:=(by omega);have ay:decide ((f.size:ω)<b.size)=G:=decide_eq_false hc;have az:(b.size:ω)<=f.size:=(by omega);have hq:=(show((f.extract 0 b.size).toList==b.toList)=(f.toList.take (dE (k:ω)).1.length==(dE (k:ω)).1)from by rw[mX,hb.1,m,List.drop_zero]).trans HB;have aE:∀O,(x1 9 (C f) Y (U (M E (b.size:ω))) Y).run ρ O=.ok (C (f.extract 0 b.size)) O:=(λO=>by rw[run_slice_string_to_if _ _ _ _ _ δ,γ (by omega)];rfl);have ad:aC ((f.extract b.size f.size).toList=f.toList.drop (dE (k:ω)).1.length):=(by unfold aC;rw[mX,m,x5 (by rw[ab.o];exact xR _)]);have av:∀O,(x1 9 (C f) (U (M E (b.size:ω))) Y Y).run ρ O=.ok (C (f.extract b.size f.size)) O:=(λO=>by rw[run_slice_string_from_if _ _ _ _ _ δ,γ (by omega)];rfl);clear m)
     |(go_at_call 132;refine(Sn (K (J wr)) (nH (k:ω) next) (f.extract b.size f.size) _ (by first|exact Sz _ _ _ h10|exact S9 _ _ _ h10)).mono ?_;rw[ad.o,ho];rintro e w2 ⟨rfl,ai,q⟩;have an:=aD (aq▸ai);have af:=aD ((HZ.alloc _).aG (q.block (K (J w)) (by simp;omega) (by simp;omega)));have d:=aD (sH (c.alloc al _) q al);have aw:=q.size;clear ai q)
     |(refine yS (.tmp 11) Z Z (K (J wr)) st Z an ?_)|(go_at_call 133;refine(Su st t _ ws _ (ac.X d) (by rw[aa.o];exact S.1) (by rw[aa.o];exact S.2) ((hT.X x).X d) ht.2 au).mono ?_;rw[ht.1];rintro e w3 ⟨rfl,ag⟩;simp only[BI];have ao:=aD (af.X ag);have am:=aD (d.trans (ag.mono (by have:=d.size;omega))))|(refine KJ (.tmp 4) (.tmp 56) Z Z (K (J w)) VW.zero (fY st (dE (k:ω)).2 (ws.map xF)).1 Z Z ao ?_;intro w4 N L;have z:=aD N;have y:=aD (sH (x.trans (am.mono (Nat.le_of_lt ak))) L (xR _))))
    first
     |(go_roundw
       case rel=>first|exact⟨k+1,by omega,by go_num,l,HZ,c⟩|exact⟨k+1,by omega,by go_num,by rw[ho]at l;exact l,af,d⟩
       case measure=>simp[η];omega)
     |(rw[l.o,ho]
       exact IM (p:=4) (u:=5) (K (J w)) _ _ (by kernel_rfl) Z Z z Z ⟨Z,y⟩)
  ·have ap:k=11:=by omega
   have HN:aC (eJ s.toList next=(VW.zero,G)):=by unfold aC;rw[HG.o,ap];rfl
   have d:=aD (x.trans (c.mono (Nat.le_of_lt ak)));go_wp2_with(first|(refine KJ (.tmp 4) (.tmp 58) Z Z (K (J w)) VW.zero VW.zero Z Z HZ ?_;intro w4 N L;have z:=aD N;have y:=aD (sH d L (xR _))));rw[HN.o];exact IM (p:=4) (u:=5) (K (J w)) _ _ (by kernel_rfl) Z Z z Z ⟨Z,y⟩
theorem Tb(B g:τ)(r:Rd)(w:ξ)(h:eM w B g r)(L:V r.O<10):
  π ρ 86 #[.pointer (U ⟨g,0,Y⟩)] w λe w'=>e=H (M E (bJ r))/\w'=w:=by
 obtain⟨X,s,vs,h⟩:=h;by_cases he:r.O=[]
 ·have m:s=D Y 0 0\/∃k c,s=VV k 0 c:=by
   have:=h.O;rw[he]at this
   rcases this.2 with⟨e,_⟩|⟨k,c,t,e,_⟩
   ·exact .inl e
   ·exact .inr ⟨k,c,e⟩
  obtain⟨l,j,u,v,x,y,z⟩:=h.F;have i:aC (bJ r=0):=by grind [aC,bJ]
  clear h
  rcases m with rfl|⟨k,c,rfl⟩
  all_goals
   go_in;go_wp2;go_ret;rw[kS i];exact⟨Z,Z⟩
 ·obtain⟨q,o,f⟩:=mQ r.O he;have d:=h.O;rw[f]at d;simp only[List.length_append,List.length_cons,List.length_nil,x4,List.map_append,List.map_cons,List.map_nil]at d;obtain⟨k,cap,rfl,I,p⟩:=d.form (by omega);have S:w.cell? ⟨k,V q,Y⟩=U (M E o):=by
   rw[d.cellAt _ (by omega),xa (by simp)];simp
  obtain⟨l,j,u,v,x,y,z⟩:=h.F;have N:V q<10:=by grind
  have i:aC (bJ r=o):=by grind [aC,bJ]
  clear h d f he L;go_in;go_wp2;go_ret;rw[kS i];exact⟨Z,Z⟩
theorem Tc(B g:N)(r:Rd)(w:u)(h:eM w B g r)(m:0<=r.I)(o:r.I<10000):
  π v 89 #[.pointer (U ⟨g,0,Y⟩)] w λe w'=>e=H (M E (r.I+1))/\w'=w:=by
 obtain⟨q,p,s,h⟩:=h;obtain⟨d,c,f,i,j,k,l⟩:=h.F;clear h;go_in;go_wp2;go_ret
 simp_all
def Td(r:Rd)(l:O z)(k:N)(h:k<2)(c:∀j,j<k->(l==kY (j:S))=G)(d:(l==kY (k:S))=A):gM r l=lJ r (k:S) r.i:=by
 have e:=eq_of_beq d;unfold gM
 match k,h with
 |0,_=>rw[γ (show l=kY 0 from e)];rfl
 |1,_=>rw[if_neg (show ¬l=kY 0 from beq_eq_false_iff_ne.1 (c 0 (by omega))),γ (show l=kY 1 from e)];rfl
theorem Te(r:Rd)(l:O z)(c:∀j,j<2->(l==kY ((j:N):S))=G):gM r l=if bJ r != 0&&l==YJ (bJ r)++[58]then fS r {VW.zero with kind:=11,i:=r.i}
 else if !(eJ l (r.I+1)).2||(eJ l (r.I+1)).1.kind==5&&bJ r != 0 then(r,G)
 else fS r {(eJ l (r.I+1)).1 with i:=r.i}:=by
 have d:¬l=kY 0:=by have:=c 0 (by omega);simpa using this
 have e:¬l=kY 1:=by grind
 simp_all [gM]
def Tf(B g N:τ)(r:Rd)(s:I)(w:ξ)(h:eM w B g r)(hs:s.size<=8192)(hF:FY N r)(hN:N<10000)(L:B<=K (J w))(m:V r.O<10)(q:0<=r.I)(ad:r.I<9999)(x:0<=r.count)(y:r.count<10000)(aa:0<=bJ r)(ab:bJ r<10000)(hT:Tab w):
  π ρ 47 #[.pointer (U ⟨g,0,Y⟩),C s,M E r.i] w λe w'=>e=H (W (gM r s.toList).2)/\eM w' B g (gM r s.toList).1/\Ef B g w w':=by
 have l:=aD h;clear h;go_in;go_wp2;go_loop [7] (λi=>∃k:τ,k<=2/\i=M E k/\aC (∀j:τ,j<k->(s.toList==kY (j:ω))=G)) λi=>2-(η i).toNat
 case atStart=>exact⟨0,by omega,Z,λj S=>absurd S (by omega)⟩
 case round =>
  obtain⟨k,hk,rfl,z⟩:=hrel;by_cases hlt:k<2
  ·have ac:(k:ω)<2:=by omega
   cases u:s.toList==kY (k:ω)
   all_goals
    have v:=aD u;clear u;go_wp2_with(first
     |(go_at_call 84;refine(Qk _ _ (by omega) (by omega)).mono ?_;rintro e w' ⟨t,rfl,u,c⟩;have c:=c.symm;subst c;have hq:=(show(s.toList==t.toList)=(s.toList==kY (k:ω))from by rw[u.1];rfl).trans v)
     |(go_at_call 85;refine(Po B g r (k:ω) r.i _ l L (by have:=hF.1;omega) m).mono ?_;rintro e w2 ⟨rfl,f,d⟩))
   ·go_round;exact⟨k+1,by omega,by go_num,λj S=>(Nat.lt_succ_iff_lt_or_eq.1 S).elim (z j) λh=>h▸v.o⟩;simp[η];omega
   ·go_ret;rw[Td r s.toList k hlt z.o v.o];exact⟨Z,f,d⟩
  ·have ac:¬(k:ω)<2:=by omega
   have v:=aD (Te r s.toList λj S=>z j (by omega));have HB:=aD (Below.refl (K (J w)) w);have F:=aD hT;clear z hT;generalize hG:eJ s.toList (r.I+1)=sa at*;have HG:=aD hG;clear hG
   cases ho:bJ r != 0
   case' true =>
    cases hl:s.toList==YJ (bJ r)++[58]
    case' true=>have zE:=True.intro
   all_goals
    try(have HL:=aD hl;clear hl)
    cases hok:sa.2
    case' true=>cases h5:sa.1.kind==5
   all_goals
    go_wp2_with(first
     |(go_at_call 86;refine(Tb B g r _ l m).mono ?_;rintro e w' ⟨rfl,c⟩;have c:=c.symm;subst c)
     |(go_at_call 87;refine(Dp _ _ aa ab F).mono ?_;rintro e wL ⟨t,rfl,u,p⟩;have l:=aD (l.X p);have HB:=aD p;have F:=aD (F.X p);have ae:=u.size;have hq:=(show(s.toList==(t++⟨#[58]⟩).toList)=(s.toList==YJ (bJ r)++[58])from by rw[tZ,u.1,show(⟨#[58]⟩:I).toList=[58]from bI #[58]]).trans HL;clear p)
     |(go_at_call 89;refine(Tc B g r _ l q (by omega)).mono ?_;rintro e w' ⟨rfl,c⟩;have c:=c.symm;subst c)
     |(go_at_call 90;refine(Ta s (r.I+1) _ hs (by omega) (by omega) F).mono ?_;rintro e w1 ⟨he,p⟩;rw[HG.o]at he;simp only[BI,aU]at he;subst he;have l:=aD (l.X p);have HB:=aD (HB.trans (p.mono HB.size));clear p)
     |(have _:=zE;go_at_call 88;refine(Bx B g N r {VW.zero with kind:=11,i:=r.i} _ (by exact l) hF hN (by have:=HB.size;omega) m q (by omega) x y).mono ?_;rintro e w2 ⟨rfl,f,d⟩)
     |(go_at_call 88;refine(Bx B g N r {sa.1 with i:=r.i} _ (by exact l.alloc (T (aU {sa.1 with i:=r.i}) 137)) hF hN (by have:=HB.size;simp;omega) m q (by omega) x y).mono ?_;rintro e w2 ⟨rfl,f,d⟩))
    go_ret
    first
     |(rw[v.o,ho,HL.o];exact⟨Z,f,(Ef.of (HB.mono L)).trans d⟩)
     |(rw[v.o];(first|rw[ho,HL.o,hok]|rw[ho,hok]);(try rw[h5]);first|exact⟨Z,l.alloc _,Ef.of ((HB.mono L).alloc (by have:=HB.size;omega) _)⟩|exact⟨Z,f,(Ef.of ((HB.mono L).alloc (by have:=HB.size;omega) _)).trans d⟩)
def Tg(c:z)(s:I)(k:N)(e:O I)(d:I)(i:k<s.size)(h:bF c (s.toList.take k)=(e++[d]).map xF)(f:s[k]=c):
  bF c (s.toList.take (k+1))=(e++[d]++[(⟨#[]⟩:I)]).map xF:=by
 rw[yT s k i,MP _ _ _ (e.map xF) d.toList (by simpa using h),γ f];simp[bI]
theorem Ti(c:z)(s:I)(k:N)(e:O I)(d:I)(i:k<s.size)(h:bF c (s.toList.take k)=(e++[d]).map xF)(f:¬s[k]=c):
  bF c (s.toList.take (k+1))=(e++[d++s.extract k (k+1)]).map xF:=by
 rw[yT s k i,MP _ _ _ (e.map xF) d.toList (by simpa using h),if_neg f];have:(s.extract k (k+1)).toList=[s[k]]:=by
  grind [mX,yT,x8]
 simp[tZ,this]
def Dq(a c:z):((a.toNat:S)==(c.toNat:S))=decide (a=c):=by
 rw[Bool.eq_iff_iff];simp[<- UInt8.toNat_inj];omega
theorem Tj{e:TypeId}{c:O ζ}{x y:ζ}(h:w.ownsRow B e 1 (VV g (n+1) cap) (n+1) (c++[x])):(w.setCell ⟨g,n,Y⟩ y).ownsRow B e 1 (VV g (n+1) cap) (n+1) (c++[y]):=by
 have d:=(h.stored n y).1;have f:V c=n:=by have:=h.1;simp at this;omega
 simp_all
theorem IU(s:σ)(c:ι)(w:ξ)(hs:s.size<=8192):
  π ρ 13 #[C s,M .u8 (c.toNat:ω)] w λe w'=>∃g cap n d x,e=H (VV g n cap)/\aC (d.toList::x.map xF=bF c s.toList)/\w'.ownsRow (K (J w)) 9 1 (VV g n cap) n ((d::x).map xW)/\V x=n-1/\1<=n/\n<10000/\φ (K (J w)) w w':=by
 have ae:c.toNat<256:=UInt8.toNat_lt c;go_in;go_wp2;go_loopw[5,6] (λv i wr=>∃k n g cap:τ,∃q:ν σ,∃f:σ,k<=s.size/\i=M E k/\v=VV g (n+1) cap/\V q=n/\n<=k/\f.size<=k/\aC (bF c (s.toList.take k)=(q++[f]).map xF)/\wr.ownsRow (K (J w)) 9 1 (VV g (n+1) cap) (n+1) (q.map xW++[C f])/\φ (K (J w)) w wr) λ_ i _=>s.size-(η i).toNat
 case atStart =>
  refine⟨0,0,K (J w),1,[],⟨#[]⟩,x3 _,Z,Z,Z,xR _,by simp[qA],by grind [aC,bF,bI],?_,bB⟩;refine⟨by simp,.inr ⟨K (J w),1,#[C ⟨#[]⟩],Z,xR _,ε w _,by omega,by unfold maxLen;omega,Z,Z⟩⟩
 case round =>
  obtain⟨k,n,g,cap,q,f,hk,rfl,rfl,(p:aC _),ai,af,F,l,m⟩:=hrel;have ab:=m.size;by_cases hlt:k<s.size
  ·by_cases hc:s[k]=c
   ·have S:((s[k].toNat:ω)==(c.toNat:ω))=A:=by rw[Dq];simpa using hc
    have HR:=aD (Tg c s k q f hlt F hc);clear hc;go_wp2_with(first
     |(at_builtin;refine qH Tryz.infoStr underlying45 Z Z (.tmp 20) (.tmp 21) Z Z Z Z Z l (by omega) m.size ?_))
    intro gn cn w1 u t N z;have O:φ (K (J w)) w w1:=(m.alloc ab _).grown t (by simp;omega) λj hj=>(l.lt j hj).1;clear t N F;go_wp2;go_roundw;exact⟨k+1,n+1,gn,cn,q++[f],⟨#[]⟩,by omega,by go_num,Z,by have:=p.o;simp;omega,by omega,by simp[qA],HR,by simpa using u,O⟩;simp[η];omega
   ·have S:((s[k].toNat:ω)==(c.toNat:ω))=G:=by rw[Dq];simpa using hc
    have HR:=aD (Ti c s k q f hlt F hc);have X:wr.cell? ⟨g,n,Y⟩=U (C f):=by
     rw[l.cellAt n (by omega),xa (by rw[x2,p.o];exact xR _),x2,p.o];simp
    have ac:=l.frozenAt n;have z:g<K (J wr):=(l.lt g Z).2;have ah:(n:ω)<n+1:=by omega
    have ag:(s.extract k (k+1)).size<=1:=by grind [ByteArray.size_extract]
    have I:=aD (Tj (y:=C (f++s.extract k (k+1))) l);have L:K (J w)<=g:=(l.lt g Z).1;have aj:∀w,(x1 9 (C s) (U (M E (k:ω))) (U (M E ((k:ω)+1))) Y).run ρ w=.ok (C (s.extract k (k+1))) w:=λw=>by
     rw[run_slice_string w 9 s E E _ _ δ (by omega) (by omega) (by omega),show (k:ω).toNat=k by omega,show((k:ω)+1).toNat=k+1 by omega]
    have ak:IntKind.i64.wrap ((k:ω)+1)=(k:ω)+1:=by rw[IntKind.wrap_i64];omega
    clear F l hc;go_wp2;go_region
    all_goals go_wp2
    all_goals go_roundw
    case rel=>exact⟨k+1,n,g,cap,q,f++s.extract k (k+1),by omega,by go_num,Z,p,by omega,by simp;omega,HR,I.drew,(m.setCell L _).drew⟩
    case measure=>simp[η];omega
  ·have aa:k=s.size:=by omega
   subst aa;have ad:aC (bF c s.toList=(q++[f]).map xF):=by
    simp_all [x5,cV]
   have hl:=p.o;clear p;go_wp2;go_ret;obtain⟨d,x,hd⟩:∃d x,q++[f]=d::x:=by
    cases q with
    |nil=>exact⟨f,[],Z⟩
    |cons a r=>exact⟨a,r++[f],Z⟩
   refine⟨g,cap,n+1,d,x,Z,?_,?_,?_,by omega,by omega,m⟩
   ·simp_all [aC]
   ·rw[<- hd];simpa using l
   ·have:=ψ List.length hd;simp at this;omega
namespace R
def gW(w:O z)(k:S):O (O z)->S
 |[]=>-1
 |x::r=>if x==w&&w != []then k else gW w (k+1) r
def inn(w l:O z):S:=gW w 0 (bF 32 l)
theorem Dr(w:O z)(l:O (O z)):∀k,gW w k l=-1\/k<=gW w k l/\gW w k l<k+V l:=by
 induction l with
 |nil=>intro k;left;rfl
 |cons x r ih =>
  grind [gW]
end R
def vH(h:w.ownsRow B 9 1 (VV g n cap) n (ws.map xW))(c:V ws=n):XO w g 0 ws/\n<=cap/\g<K (J w):=by
 subst c;exact RZ h
def XO.get{off:τ}(h:XO w b off ws)(k:τ)(c:k<V ws):w.cell? ⟨b,off+k,Y⟩=U (C ws[k]):=h k _ (List.getElem?_eq_getElem c)
theorem Tk(v l:σ)(w:ξ)(O:l.size<=8192):
  π ρ 27 #[C v,C l] w λe w'=>e=H (M E (R.inn v.toList l.toList))/\φ (K (J w)) w w':=by
 go_in;go_wp2_with(first|(go_at_call 13;refine(IU l 32 _ O).mono ?_;rintro e w1 ⟨g,cap,n,d,f,rfl,X,p,N,F,I,j⟩;obtain⟨s,L,t⟩:=vH p (by simp;omega);have r:=aD s;have q:aC ((d::f).length=n):=by simp[aC];omega));go_loopw[6] (λi wr=>∃k:τ,k<=n/\i=M E k/\aC (R.inn v.toList l.toList=R.gW v.toList k (((d::f).map xF).drop k))/\wr=w1) λi _=>n-(η i).toNat
 case atStart=>exact⟨0,x3 _,Z,by grind [aC,R.inn],Z⟩
 case round =>
  obtain⟨k,hk,rfl,u,rfl⟩:=hrel;by_cases hlt:k<n
  ·have m:k<(d::f).length:=by rw[q.o];exact hlt
   have y:=r.get k m;rw[x4]at y;have S:=aD (CZ ((d::f).map xF) k (by simpa using m));have HX:aC (((d::f).map xF).drop k=(d::f)[k].toList::((d::f).map xF).drop (k+1)):=by
    grind
   generalize hx:(d::f)[k]=x at*;have z:=lI hlt;by_cases e1:x.toList=v.toList
   ·cases e2:v.toList.isEmpty
    ·have c:aC (R.inn v.toList l.toList=(k:ω)):=by
      simp_all [aC,R.gW]
     go_wp2;go_ret;rw[c.o];exact⟨Z,j⟩
    ·have c:aC (R.inn v.toList l.toList=R.gW v.toList ((k+1:τ):ω) (((d::f).map xF).drop (k+1))):=by
      simp_all [aC,R.gW]
     go_wp2;go_roundw;exact⟨k+1,by omega,by go_num,c,trivial⟩;simp[η];omega
   ·have c:aC (R.inn v.toList l.toList=R.gW v.toList ((k+1:τ):ω) (((d::f).map xF).drop (k+1))):=by
     simp_all [aC,R.gW]
    go_wp2;go_roundw;exact⟨k+1,by omega,by go_num,c,trivial⟩;simp[η];omega
  ·have c:aC (R.inn v.toList l.toList=-1):=by
    unfold aC;rw[u.o,List.drop_eq_nil_of_le (by grind)];rfl
   go_wp2;go_ret;rw[c.o];exact⟨Z,j⟩
namespace R
def regs:O z:=[114,48,32,114,49,32,114,50,32,114,51]
def uQ:O z:=[48,32,49,32,50,32,51]
def dM:O z:=[120,32,121,32,122]
def DP:O z:=[98,108,111,99,107,32,100,101,118,105,99,101]
def qD:O z:=[43,32,45,32,61,61]
def bV(v:O z):S×t:=if 0<=inn v regs then(-1-inn v regs,A)else(inn v uQ,decide (0<=inn v uQ))
theorem NZ(v l:O z):-1<=inn v l/\inn v l<=V l:=by
 grind [Dr,CG,inn]
end R
def lZ(v:I)(L:O z)(a:Array z)(w:u)(h:a.toList=L)(c:a.size<=8192):
  π ρ 27 #[C v,C ⟨a⟩] w λe w'=>e=H (M E (R.inn v.toList L))/\φ (K (J w)) w w':=by
 have:=Tk v ⟨a⟩ w c;rw[bI a,h]at this;exact this
def yO(v:I)(w:u):
  π ρ 16 #[C v] w λe w'=>e=H (.tuple #[M E (R.bV v.toList).1,W (R.bV v.toList).2])/\φ (K (J w)) w w':=by
 have k:=R.NZ v.toList R.regs;have l:=R.NZ v.toList R.uQ;have q:V R.regs=11:=Z;have s:V R.uQ=7:=Z;rw[q]at k;rw[s]at l;have i:aC (R.bV v.toList=if 0<=R.inn v.toList R.regs then(-1-R.inn v.toList R.regs,A)else(R.inn v.toList R.uQ,decide (0<=R.inn v.toList R.uQ))):=Z;generalize p:R.inn v.toList R.regs=r at*;generalize m:R.inn v.toList R.uQ=n at*;have HR:=aD p;have j:=aD m;go_in;go_wp2_with fail;refine(lZ v R.regs _ _ Z (by simp)).mono ?_;rintro e w1 ⟨rfl,c⟩;rw[HR.o];go_wp2_with fail;refine(lZ v R.uQ _ _ Z (by simp)).mono ?_;rintro e w2 ⟨rfl,f⟩;rw[j.o];have d:=c.trans (f.mono c.size);by_cases h0:0<=r
 ·go_wp2;go_ret2;rw[i.o,γ h0];exact⟨by simp,d⟩
 ·go_wp2;go_ret2;rw[i.o,if_neg (by omega)];exact⟨by simp,d⟩
namespace R
structure Lh where
 op:σ
 VX:ω
 z:ω
 a:ω
 b:ω
 sign:σ
 ord:σ
 scope:σ
def weak:O z:=[119,101,97,107]
def how(x:Lh)(orders:O z):O I->Lh×t
 |[]=>(x,G)
 |o::r =>
  if o.toList==weak then({x with ord:=o},decide (0<=inn o.toList orders)&&r.isEmpty)
  else if inn o.toList orders<0 then({x with ord:=o},G)
  else match r with
   |[s]=>({x with ord:=o,scope:=s},decide (0<=inn s.toList DP))
   |_=>({x with ord:=o},G)
theorem PW(x:Lh)(c:O z)(o:I)(r:O I)(h:(o.toList==weak)=A):how x c (o::r)=({x with ord:=o},decide (0<=inn o.toList c)&&r.isEmpty):=by simp[how,h]
theorem Ds(x:Lh)(c:O z)(o:I)(r:O I)(h:(o.toList==weak)=G)(d:inn o.toList c<0):how x c (o::r)=({x with ord:=o},G):=by simp[how,h,d]
def PP(x:Lh)(c:O z)(o:I)(r:O I)(h:(o.toList==weak)=G)(d:¬V r=1):how x c (o::r)=({x with ord:=o},G):=by
 match r,d with
 |[],_=>simp[how,h]
 |[_],d=>simp at d
 |_::_::_,_=>simp[how,h]
theorem Dt(x:Lh)(c:O z)(o s:I)(h:(o.toList==weak)=G)(d:0<=inn o.toList c):how x c [o,s]=({x with ord:=o,scope:=s},decide (0<=inn s.toList DP)):=by
 grind [how]
end R
def cO(x:R.Lh)(bv:ζ):Array ζ:=#[C x.op,M E x.VX,M E x.z,M E x.a,M E x.b,C x.sign,C x.ord,C x.scope,bv]
def XN(w:u)(g:N)(x:R.Lh)(bv:ζ):Prop:=w.heap[g]?=U (T (cO x bv) 52 (0,0))
def XN.F{x:R.Lh}(h:XN w g x bv):g<K (J w)/\(∀i,w.frozen? ⟨g,i,Y⟩=G)/\
  w.cell? ⟨g,0,Y⟩=U (C x.op)/\w.cell? ⟨g,1,Y⟩=U (M E x.VX)/\w.cell? ⟨g,2,Y⟩=U (M E x.z)/\w.cell? ⟨g,3,Y⟩=U (M E x.a)/\w.cell? ⟨g,4,Y⟩=U (M E x.b)/\
  w.cell? ⟨g,5,Y⟩=U (C x.sign)/\w.cell? ⟨g,6,Y⟩=U (C x.ord)/\w.cell? ⟨g,7,Y⟩=U (C x.scope)/\w.cell? ⟨g,8,Y⟩=U bv:=by
 have c:∀i,w.cell? ⟨g,i,Y⟩=(cO x bv)[i]?:=λi=>by unfold XN at h;simp[World.cell?,h]
 exact⟨dC h,λi=>by unfold XN at h;simp[World.frozen?,h],c 0,c 1,c 2,c 3,c 4,c 5,c 6,c 7,c 8⟩
def XN.lt{x:R.Lh}(h:XN w g x bv):g<K (J w):=dC h
theorem XN.aG{x:R.Lh}(h:XN w g x bv)(e:w'.heap[g]?=w.heap[g]?):XN w' g x bv:=by
 grind [XN]
def XN.X{x:R.Lh}(h:XN w g x bv)(c:φ (K (J w)) w w'):XN w' g x bv:=h.aG (c.block g h.lt)
def XN.alloc{x:R.Lh}(h:XN w g x bv)(o:Obj):XN (w.alloc o) g x bv:=h.aG (Below.heap_alloc _ _ _ h.lt)
def XN.drew{x:R.Lh}(h:XN w g x bv):XN w.drew g x bv:=h
def XN.new(w:ξ)(x:R.Lh)(bv:ζ):XN (w.alloc (T (cO x bv) 52)) (K (J w)) x bv:=ε w _
theorem XN.set{x:R.Lh}(y:R.Lh)(h:XN w g x bv)(i:τ)(u:ζ)(e:(cO x bv).setIfInBounds i u=cO y bv):XN (w.setCell ⟨g,i,Y⟩ u) g y bv:=by
 grind [XN,cI]
def XN.jM{x:R.Lh}(h:XN w g x bv)(s:σ):XN (w.setCell ⟨g,6,Y⟩ (C s)) g {x with ord:=s} bv:=h.set _ 6 _ Z
def XN.jY{x:R.Lh}(h:XN w g x bv)(s:σ):XN (w.setCell ⟨g,7,Y⟩ (C s)) g {x with scope:=s} bv:=h.set _ 7 _ Z
theorem GP(g b off n cap:τ)(x:R.Lh)(bv:ζ)(c:ν ι)(q:Array ι)(ws:ν σ)(w:ξ)(hg:XN w g x bv)(hw:XO w b off ws)(hn:V ws=n)(ab:b≠g)(af:q.toList=c)(k:q.size<=8192):
  π ρ 38 #[.pointer (U ⟨g,0,Y⟩),D (U ⟨b,off,Y⟩) n cap,C ⟨q⟩] w λe w'=>e=H (W (R.how x c ws).2)/\XN w' g (R.how x c ws).1 bv/\w.grownBy w' (U g):=by
 cases ws with
 |nil =>
  simp at hn;subst hn;go_in;go_wp2;go_ret;exact⟨Z,hg,nJ _ _⟩
 |cons o r =>
  obtain⟨hd,p,ah⟩:=hw.head;have ak:((n:ω)==0)=G:=by grind
  have ai:0<n:=by simp at hn;omega
  have ag:V r=n-1:=by simp at hn;omega
  have j:=aD af;have i:aC (∀w1:ξ,φ (K (J w)) w w1->XN w1 g x bv/\w1.cell? ⟨b,off,Y⟩=U (C o)/\b<K (J w1)/\XO w1 b (off+1) r):=λw1 d =>
   ⟨hg.X d,cK d p hd,x9 p d.size,ah.X d⟩
  cases hwk:o.toList==R.weak
  rotate_left
  ·have m:=aD (R.PW x c o r hwk);have aa:(o.toList==[119,101,97,107])=A:=hwk;have al:((n:ω)==1)=r.isEmpty:=by
    grind
   by_cases hk:0<=R.inn o.toList c
   ·go_in;go_wp2_with(first|(go_at_call 27;refine(lZ o c q _ j k).mono ?_;rintro e w1 ⟨rfl,d⟩;obtain⟨f,k2,k3,k4⟩:=i.o w1 d;obtain⟨f1,f2,u,v,y,z,I,L,N,O,S⟩:=f.F;have l:=aD f));go_ret;rw[kS m];exact⟨by simp[hk],l.jM _,kZ (wK d _) _ _⟩
   ·go_in;go_wp2_with(first|(go_at_call 27;refine(lZ o c q _ j k).mono ?_;rintro e w1 ⟨rfl,d⟩;obtain⟨f,k2,k3,k4⟩:=i.o w1 d;obtain⟨f1,f2,u,v,y,z,I,L,N,O,S⟩:=f.F;have l:=aD f));go_ret;rw[kS m];have ad:¬0<=R.inn o.toList c:=by omega
    exact⟨by simp[ad],l.jM _,kZ (wK d _) _ _⟩
  have aa:(o.toList==[119,101,97,107])=G:=hwk;by_cases hk:R.inn o.toList c<0
  ·have m:=aD (R.Ds x c o r hwk hk);go_in;go_wp2_with(first|(go_at_call 27;refine(lZ o c q _ j k).mono ?_;rintro e w1 ⟨rfl,d⟩;obtain⟨f,k2,k3,k4⟩:=i.o w1 d;obtain⟨f1,f2,u,v,y,z,I,L,N,O,S⟩:=f.F;have l:=aD f));go_ret;rw[kS m];exact⟨Z,l.jM _,kZ (wK d _) _ _⟩
  have ae:0<=R.inn o.toList c:=by omega
  have aj:decide (R.inn o.toList c<0)=G:=decide_eq_false hk;by_cases h2:n=2
  ·subst h2;obtain⟨s,rfl⟩:∃s,r=[s]:=by
    match r,ag with
    |[s],_=>exact⟨s,Z⟩
   have m:=aD (R.Dt x c o s hwk ae);go_in;go_wp2_with fail;refine(lZ o c q _ j k).mono ?_;rintro e w1 ⟨rfl,d⟩;obtain⟨f,k2,k3,k4⟩:=i.o w1 d;obtain⟨f1,f2,u,v,y,z,I,L,N,O,S⟩:=f.F;obtain⟨k5,_,_⟩:=k4.head;have l:=aD f;go_wp2_with fail;refine(lZ s R.DP _ _ Z (by simp)).mono ?_;rintro e w2 ⟨rfl,t⟩;have k6:=(l.jM o).X t;have k7:w2.cell? ⟨b,off+1,Y⟩=U (C s):=cK t (by simp;omega) ((fC ab).trans k5);have ac:w.grownBy w2 (U g):=NT (kZ (wK d _) _ _) (wK t _);have K6:=aD k6;obtain⟨f1,f2,u,v,y,z,I,L,N,O,S⟩:=k6.F;go_wp2;go_ret;rw[kS m];exact⟨Z,K6.jY _,kZ ac _ _⟩
  ·have m:=aD (R.PP x c o r hwk (by omega));have hx:((n:ω) != 2)=A:=by grind
   go_in;go_wp2_with(first|(go_at_call 27;refine(lZ o c q _ j k).mono ?_;rintro e w1 ⟨rfl,d⟩;obtain⟨f,k2,k3,k4⟩:=i.o w1 d;obtain⟨f1,f2,u,v,y,z,I,L,N,O,S⟩:=f.F;have l:=aD f));go_ret;rw[kS m];exact⟨Z,l.jM _,kZ (wK d _) _ _⟩
namespace R
def mP:I:=⟨#[98,97,114,114,105,101,114]⟩
def jS:I:=⟨#[102,101,110,99,101]⟩
def mD:I:=⟨#[115,116,111,114,101]⟩
def mG:I:=⟨#[108,111,97,100]⟩
def fD:I:=⟨#[115,101,116]⟩
def oFence:O z:=[97,99,113,114,101,108,32,115,99]
def oStore:O z:=[119,101,97,107,32,114,101,108,97,120,101,100,32,114,101,108,101,97,115,101]
def oLoad:O z:=[119,101,97,107,32,114,101,108,97,120,101,100,32,97,99,113,117,105,114,101]
def tB:O z:=[114,101,108,97,120,101,100,32,97,99,113,117,105,114,101,32,114,101,108,101,97,115,101,32,97,99,113,114,101,108]
def x0:Lh:=⟨⟨#[]⟩, -1, -1,0,0,⟨#[]⟩,⟨#[]⟩,⟨#[]⟩⟩
def z0:Lh:=⟨⟨#[]⟩,0,0,0,0,⟨#[]⟩,⟨#[]⟩,⟨#[]⟩⟩
def xN(p v:I)(r:O I):Lh×t :=
 let h:=how {x0 with op:=mD,z:=inn p.toList dM,a:=(bV v.toList).1} oStore r
 (h.1,(bV v.toList).2&&h.2&&decide (0<=inn p.toList dM))
def uR(d p:I)(r:O I):Lh×t :=
 let h:=how {x0 with VX:=inn d.toList regs,op:=mG,z:=inn p.toList dM} oLoad r
 (h.1,decide (0<=inn d.toList regs)&&h.2&&decide (0<=inn p.toList dM))
def uJ(d c p v:I)(r:O I):Lh×t :=
 let h:=how {x0 with VX:=inn d.toList regs,op:=c,z:=inn p.toList dM,a:=(bV v.toList).1} tB r
 (h.1,decide (0<=inn d.toList regs)&&h.2&&(bV v.toList).2&&decide (0<=inn p.toList dM))
def vA(d a:I):Lh×t :=
 ({x0 with VX:=inn d.toList regs,op:=fD,a:=(bV a.toList).1},decide (0<=inn d.toList regs)&&(bV a.toList).2)
def tW(d a s b:I):Lh×t :=
 ({x0 with VX:=inn d.toList regs,op:=fD,a:=(bV a.toList).1,sign:=s,b:=(bV b.toList).1},decide (0<=inn d.toList regs)&&(bV a.toList).2&&(bV b.toList).2&&decide (0<=inn s.toList qD))
def MU(d a:I):Lh×t:=({x0 with VX:=inn d.toList regs,op:=fD,a:=(bV a.toList).1},G)
def pV(d c:I)(r:O I):Lh×t :=
 if c.toList==[108,111,97,100]&&decide (2<=V r)then
  match r with
  |p::q=>uR d p q
  |[]=>(x0,G)
 else if(c.toList==[97,100,100]||c.toList==[115,119,97,112])&&decide (3<=V r)then
  match r with
  |p::v::q=>uJ d c p v q
  |_=>(x0,G)
 else match r with
  |[]=>vA d c
  |[s,b]=>tW d c s b
  |_=>MU d c
def jE(c:I)(r:O I):Lh×t :=
 if c.toList==[98,97,114,114,105,101,114]then({x0 with op:=mP},r.isEmpty)
 else if c.toList==[102,101,110,99,101]then how {x0 with op:=jS} oFence r
 else if c.toList==[115,116,111,114,101]&&decide (3<=V r)then
  match r with
  |p::v::q=>xN p v q
  |_=>(x0,G)
 else match r with
  |e::d::q=>if e.toList==[61]then pV c d q else(x0,G)
  |_=>(x0,G)
end R
def zK{rest:O Oper}{Q:Exit->Act->u->Prop}(x:Operand)(c:op.guard=Y)(e:op.op=.load 52 x)(g:N)(y:R.Lh)(bv:ζ)(f:a.eval x=.pointer (U ⟨g,0,Y⟩))(d:XN w g y bv)(h:wpList v ops Q rest (a.put op.dst (.agg (cO y bv))) w):wpList v ops Q (op::rest) a w :=
 RD c _ x e g f _ _ d _ underlying52 Z (by kernel_rfl) h
theorem xY{rest:O Oper}{Q:Exit->Act->u->Prop}(x y:Operand)(d:op.guard=Y)(j:op.op=.store 52 x y)(g:N)(z t:R.Lh)(e c:ζ)(f:c.oneCell'=A)(k:a.eval x=.pointer (U ⟨g,0,Y⟩))(l:a.eval y=.agg (cO t c))(i:XN w g z e)(h:∀w',XN w' g t c->w.grownBy w' (U g)->wpList v ops Q rest (a.put op.dst undef) w'):wpList v ops Q (op::rest) a w :=
 UC d _ x y j g (cO t c) (cO z e) _ k l i Z (by kernel_rfl) (by simp_all [cO,Value.oneCell']) h
def rF(r:R.Lh×t):ζ:=.tuple #[.agg (cO r.1 (D Y 0 0)),W r.2]
def lA{e:Func}{Q:Ending->ξ->Prop}{p u:Tmp}(g:N)(x:R.Lh)(d:t)(c:e.results=#[.cell p 52,.tmp u])(j:a.tmps.getD p undef=.pointer (U ⟨g,0,Y⟩))(k:a.tmps.getD u undef=W d)(h:XN w g x (D Y 0 0))(i:a.defers=[])(f:Q (H (rF (x,d))) w):bodyPost ρ e Q .ret a w:=by
 refine bodyPost_ret (v:=rF (x,d)) ?_ i f;rw[results_cell_tmp c,j,k];have:(asAddr (.pointer (U ⟨g,0,Y⟩))).run ρ w=.ok ⟨g,0,Y⟩ w:=Z;rw[this,x6,yM w g _ _ _ h _ underlying52 rfl (by kernel_rfl),x6];rfl
structure StAt(w0 w1:ξ)(b off:τ)(ws:ν σ)(x:R.Lh):Prop where
 xat:XN w1 (K (J w0)+1) x (D Y 0 0)
 res:XN w1 (K (J w0)) R.z0 (D Y 0 0)
 words:XO w1 b off ws
 bel:φ (K (J w0)) w0 w1
def StAt.start(w:ξ)(b off:τ)(ws:ν σ)(x:R.Lh)(c:XO w b off ws):StAt w ((w.alloc (T (cO R.z0 (D Y 0 0)) 52)).alloc (T (cO x (D Y 0 0)) 52)) b off ws x:=by
 refine⟨?_,(XN.new w R.z0 _).alloc _,(c.alloc _).alloc _,(bB).alloc (by simp) _⟩;have:=XN.new (w.alloc (T (cO R.z0 (D Y 0 0)) 52)) x (D Y 0 0);simpa using this
def StAt.X{off:τ}{x:R.Lh}(h:StAt w0 w1 b off ws x)(c:φ (K (J w1)) w1 w2):StAt w0 w2 b off ws x :=
 ⟨h.xat.X c,h.res.X c,h.words.X c,h.bel.trans (c.mono h.bel.size)⟩
def StAt.set{off:τ}{x:R.Lh}(y:R.Lh)(h:StAt w0 w1 b off ws x)(c:b<K (J w0))(i:τ)(u:ζ)(e:(cO x (D Y 0 0)).setIfInBounds i u=cO y (D Y 0 0)):StAt w0 (w1.setCell ⟨K (J w0)+1,i,Y⟩ u) b off ws y :=
 ⟨h.xat.set y i u e,h.res.aG (Below.heap_setCell _ _ _ _ (by simp)),h.words.set (by omega) _ _,h.bel.setCell (by simp) _⟩
theorem StAt.how{off:τ}{x y:R.Lh}(h:StAt w0 w1 b off ws x)(e:b<K (J w0))(d:XN w2 (K (J w0)+1) y (D Y 0 0))(c:w1.grownBy w2 (U (K (J w0)+1))):StAt w0 w2 b off ws y :=
 ⟨d,h.res.aG (c.block _ h.res.lt (by simp)),h.words.grown c (by omega),sH h.bel c (by omega)⟩
def StAt.done{off:τ}{x:R.Lh}(h:StAt w0 w1 b off ws x)(c:w1.grownBy w2 (U (K (J w0)))):φ (K (J w0)) w0 w2:=sH h.bel c (xR _)
theorem XO.drop{off:τ}(h:XO w b off ws)(k:τ):XO w b (off+k) (ws.drop k):=by
 intro i s c;have:=h (k+i) s (by simpa using c)
 grind
theorem Tl(g o n:N):(⟨g,o,Y⟩:Addr).add n=⟨g,o+n,Y⟩:=by by_cases h:n=0<;>simp[Addr.add,h]
theorem Du(g o n c:N)(p:n+1<=c):∃o' c',n<=c'/\(∀d,(x1 45 (D (U ⟨g,o,Y⟩) (n+1) c) (U (M E 1)) Y Y).run v d=.ok (D (U ⟨g,o',Y⟩) n c') d)/\∀(w:u) (x:I) (ws:O I),V ws=n->XO w g o (x::ws)->XO w g o' ws:=by
 have m:∀d,(x1 45 (D (U ⟨g,o,Y⟩) (n+1) c) (U (M E 1)) Y Y).run v d=.ok (sliced (U ⟨g,o,Y⟩) 1 (n+1) c 1) d:=λd=>by
  have f:=run_slice_l (w:=d) (P:=v) 45 (U ⟨g,o,Y⟩) (n+1) c (by kernel_rfl) E 1 (by omega) (by omega);rw[f,show(sizeOf (prog.elem 45)).run v d=.ok 1 d by kernel_rfl,x6];rfl
 by_cases h:c=1
 ·subst h;have e:n=0:=by omega
  subst e;refine⟨o,0,by omega,λd=>by grind [sliced],λw x ws k _=>?_⟩;rw[xb k];exact λi s j=>by simp at j
 ·refine⟨o+1,c-1,by omega,λd=>?_,λw x ws _ l=>l.head.2.2⟩
  grind [sliced,Tl]
def LH(w:u)(c:B<=K (J w))(ws:O I)(d:V ws<=100):(w.alloc (T (ws.map xW).toArray 9)).ownsRow B 9 1 (VV (K (J w)) (V ws) (V ws)) (V ws) (ws.map xW):=
 ⟨by simp,.inr ⟨K (J w),V ws,(ws.map xW).toArray,Z,c,ε w _,by omega,by unfold maxLen;omega,by simp,by simp[x5]⟩⟩
def Tm(b off n cap:N)(c:I)(r:O I)(w:ξ)(k:XO w b off (c::r))(d:(c::r).length=n)(f:b<K (J w))(m:(c.toList==[98,97,114,114,105,101,114])=A):
  π v 18 #[D (U ⟨b,off,Y⟩) n cap] w λe w'=>e=H (rF (({R.x0 with op:=R.mP},r.isEmpty)))/\φ (K (J w)) w w':=by
 obtain⟨l,_,_⟩:=k.head;have j:((n:S)==1)=r.isEmpty:=by
  cases r with
  |nil=>simp at d;simp;omega
  |cons a q=>simp at d;simp;omega
 have i:0<n:=by simp at d;omega
 go_in;go_wp2_with fail;exact lA (p:=2) (u:=3) (K (J w)) {R.x0 with op:=R.mP} r.isEmpty (by kernel_rfl) Z Z (by exact(XN.new w {R.x0 with op:=R.mP} _).alloc _) Z ⟨Z,(bB).alloc (by simp) _⟩
def Tn(b off n cap:τ)(c:σ)(r:O σ)(w:ξ)(v:XO w b off (c::r))(t:(c::r).length=n)(I:n<=cap)(i:b<K (J w))(y:(c.toList==[98,97,114,114,105,101,114])=G)(N:(c.toList==[102,101,110,99,101])=A):
  π ρ 18 #[D (U ⟨b,off,Y⟩) n cap] w λe w'=>e=H (rF (R.how {R.x0 with op:=R.jS} R.oFence r))/\φ (K (J w)) w w':=by
 obtain⟨L,_,q⟩:=v.head;have x:0<n:=by simp at t;omega
 have m:V r=n-1:=by simp at t;omega
 have l:=aD (StAt.start w b off (c::r) {R.x0 with op:=R.jS} v);have s:=aD q;by_cases hcap:cap=1
 ·have z:r=[]:=xb (by omega);subst z;go_in;go_wp2_with fail;refine(GP (K (J w)+1) b _ _ _ {R.x0 with op:=R.jS} (D Y 0 0) R.oFence _ [] _ (by exact l.xat) (XO.nil _ _ _) (by simp;omega) (by omega) Z (by simp)).mono ?_;rintro e w1 ⟨rfl,k,d⟩;have S:=StAt.how l i k d;go_wp2_with(first|(refine zK (.tmp 4) Z Z (K (J w)+1) _ (D Y 0 0) Z S.xat ?_)|(refine xY (.tmp 2) (.tmp 41) Z Z (K (J w)) _ _ (D Y 0 0) (D Y 0 0) Z Z Z (by exact S.res) ?_;intro F j f));exact lA (p:=2) (u:=3) (K (J w)) _ _ (by kernel_rfl) Z Z j Z ⟨Z,S.done f⟩
 ·go_in;go_wp2_with fail;refine(GP (K (J w)+1) b _ _ _ {R.x0 with op:=R.jS} (D Y 0 0) R.oFence _ r _ (by exact l.xat) (by exact(s.alloc _).alloc _) m (by omega) Z (by simp)).mono ?_;rintro e w1 ⟨rfl,k,d⟩;have S:=StAt.how l i k d;go_wp2_with(first|(refine zK (.tmp 4) Z Z (K (J w)+1) _ (D Y 0 0) Z S.xat ?_)|(refine xY (.tmp 2) (.tmp 41) Z Z (K (J w)) _ _ (D Y 0 0) (D Y 0 0) Z Z Z (by exact S.res) ?_;intro F j f));exact lA (p:=2) (u:=3) (K (J w)) _ _ (by kernel_rfl) Z Z j Z ⟨Z,S.done f⟩
def Dv(b off n cap:N)(c:I)(r:O I)(w:ξ)(m:XO w b off (c::r))(l:(c::r).length=n)(d:b<K (J w))(j:(c.toList==[98,97,114,114,105,101,114])=G)(k:(c.toList==[102,101,110,99,101])=G)(o:n<3):
  π v 18 #[D (U ⟨b,off,Y⟩) n cap] w λe w'=>e=H (rF ((R.x0,G)))/\φ (K (J w)) w w':=by
 obtain⟨q,_,_⟩:=m.head;have i:0<n:=by simp at l;omega
 have f:(n:S)<3:=by omega
 go_in;go_wp2_with fail
 all_goals exact lA (p:=2) (u:=3) (K (J w)) R.x0 G (by kernel_rfl) Z Z (by exact(XN.new w R.x0 _).alloc _) Z ⟨Z,(bB).alloc (by simp) _⟩
def Tp(b off n cap:N)(c e d:I)(r:O I)(w:ξ)(v:XO w b off (c::e::d::r))(f:(c::e::d::r).length=n)(j:b<K (J w))(q:(c.toList==[98,97,114,114,105,101,114])=G)(s:(c.toList==[102,101,110,99,101])=G)(t:(c.toList==[115,116,111,114,101]&&decide (4<=n))=G)(z:(e.toList==[61])=G):
  π ρ 18 #[D (U ⟨b,off,Y⟩) n cap] w λe w'=>e=H (rF ((R.x0,G)))/\φ (K (J w)) w w':=by
 obtain⟨y,_,i⟩:=v.head;obtain⟨l,_,_⟩:=i.head;have m:0<n:=by simp at f;omega
 have k:¬(n:S)<3:=by simp at f;omega
 have o:(1:S)<n:=by simp at f;omega
 cases hst:c.toList==[115,116,111,114,101]
 ·go_in;go_wp2_with fail
  all_goals exact lA (p:=2) (u:=3) (K (J w)) R.x0 G (by kernel_rfl) Z Z (by exact(XN.new w R.x0 _).alloc _) Z ⟨Z,(bB).alloc (by simp) _⟩
 ·have x:¬(3:S)<n:=by simp[hst]at t;omega
  go_in;go_wp2_with fail
  all_goals exact lA (p:=2) (u:=3) (K (J w)) R.x0 G (by kernel_rfl) Z Z (by exact(XN.new w R.x0 _).alloc _) Z ⟨Z,(bB).alloc (by simp) _⟩
