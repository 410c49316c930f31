import Derived.Test.YtlikcongbhhpfaaGreatDoorM14
set_option linter.unusedVariables false
set_option linter.unusedSimpArgs false
set_option maxHeartbeats 12800000
namespace Go.Proofs.YtlikcongbhhpfaaGreatDoor
open Go Go.RowKit Go.Proofs.Tryz P Q
set_option maxRecDepth 1000000
variable {w:World}{o:Value}{acc:List JR}{f st:JR}{bx:Array Value}{gf gs:Nat}
open _root_.Array renaming size->N
open Go.World renaming heap->M
open List renaming length->H
open Go.Value renaming int->Y,bool->I,agg->U
open Go.IntKind renaming i64->C
open Go.Obj renaming cells->O
open Bool renaming false->G
open Option renaming none->E
open Go.Value renaming oneCell'->xF
open Go.World renaming news_of_block->xR
open Go.RowKit.Below renaming refl->xW,heap_setCell->x1,heap_alloc->x2
open Nat renaming le_refl->x0
theorem L3(c:Int->Bool)(l:List JR)(k:Nat)(h:k<H l):dH c (l.take (k+1))=dH c (l.take k)++iL c l[k]:=by
 have jC:∀a b,dH c (a++b)=dH c a++dH c b:=fun a b=>by
  induction a with
  |nil=>rfl
  |cons s r ih=>simp[dH,ih]
 rw[List.take_succ_eq_append_getElem h,jC];simp[dH]
theorem L4(a:Int->Bool)(l:List JR):(dH a l).length<=3*H l:=by
 induction l with
 |nil=>simp[dH]
 |cons s r ih =>
  simp only[dH,List.length_append,List.length_cons];have:(iL a s).length<=3:=by
   unfold iL
   split
   ·cases P.rel s.q<;>cases acq s.q<;>simp
   ·simp
  omega
structure FI(w W:World)(o:Value)(acc:List JR)(st f:JR)(gs gf:Nat)(bx:Array Value):Prop where
 ow:W.ownsRow (N (M w)) 104 11 o (H acc) (MG acc)
 bel:Below (N (M w)) w W
 s:KH W gs st
 f:KH W gf f
 ns:o.ownBlock≠some gs
 nf:o.ownBlock≠some gf
 hs:N (M w)<=gs
 hf:N (M w)<=gf
 ne:gf≠gs
 box:W.heap[N (M w)]?=some (O bx 52 (0,0))
theorem FI.start{wr d:World}(l:Below (N (M w)) w wr)(a:wr.ownsRow (N (M w)) 104 11 o (H acc) (MG acc))(b:wr.heap[N (M w)]?=some (O bx 52 (0,0)))(c:Below (wr.alloc (O (aC st) 104)).heap.size (wr.alloc (O (aC st) 104)) d):
  FI w (d.alloc (O (aC f) 104)) o acc st f (N (M wr)) (N (M d)) bx:=by
 have g:Below (N (M wr)) wr d:=((xW (N (M wr)) wr).alloc (x0 _) _).trans (c.mono (by simp));have k:=l.size;have i:N (M w)<N (M wr):=(Array.getElem?_eq_some_iff.1 b).1;have n:N (M wr)<N (M d):=by have:=c.size;simp at this;omega
 refine⟨(aU a fun j m=>g.block j (a.lt j m).2).alloc _,(l.trans (g.mono k)).alloc (by omega) _,((KH.bA wr st).X c).alloc _,KH.bA d f,fun e=>?_,fun e=>?_,k,by omega,by omega,?_⟩
 ·have:=(a.lt _ e).2;omega
 ·have:=(a.lt _ e).2;omega
 ·rw[x2 _ _ _ (by omega),g.block _ i];exact b
theorem FI.jC{W n:World}{d a:Nat}(h:FI w W o acc st f gs gf bx)(x:JR)(m:Nat)(u:H acc=m)(b:(W.alloc (O (aC x) 104)).grownBy n o.ownBlock)(c:n.ownsRow (N (M w)) 104 11 (JQ d (m+1) a) (m+1) (MG acc++(aC x).toList))(p:o.ownBlock=some d\/d=N (M W)+1):
  FI w n (JQ d (m+1) a) (acc++[x]) st f gs gf bx:=by
 subst u;have r:N (M w)<N (M W):=(Array.getElem?_eq_some_iff.1 h.box).1;have keep:∀j,j<N (M W)->o.ownBlock≠some j->n.heap[j]?=W.heap[j]?:=fun j q t=>by
  rw[b.block j (by simp;omega) (Ne.symm t)];exact x2 _ _ _ q
 have l:=h.s.lt;have i:=h.f.lt;have k:∀g,g<N (M W)->o.ownBlock≠some g->(JQ d (H acc+1) a).ownBlock≠some g:=fun g y t e=>by
  simp[Value.ownBlock]at e;subst e
  rcases p with v|v
  ·exact t v
  ·omega
 refine⟨by rw[nK];simpa using c,(h.bel.alloc h.bel.size _).grown b (by have:=h.bel.size;simp;omega) fun j q=>(h.ow.lt j q).1,h.s.aA (keep gs l h.ns),h.f.aA (keep gf i h.nf),k gs l h.ns,k gf i h.nf,h.hs,h.hf,h.ne,?_⟩;rw[keep _ r (kE h.ow h.box (by decide))];exact h.box
theorem FI.oF{W:World}(h:FI w W o acc st f gs gf bx):FI w (W.setCell ⟨gs,8,E⟩ (Y C 1)) o acc {st with q:=1} f gs gf bx:=by
 have b:N (M w)≠gs:=fun e=>by
  have a:=h.s;rw[<- e]at a;unfold KH at a;rw[h.box]at a;simp at a
 refine⟨aU h.ow fun j c=>x1 _ _ _ _ fun e=>h.ns (by rw[c,e]),h.bel.setCell (p:=⟨gs,8,E⟩) h.hs _,h.s.dF 1,h.f.aA (x1 _ _ _ _ h.ne),h.ns,h.nf,h.hs,h.hf,h.ne,?_⟩;rw[x1 _ _ _ _ b];exact h.box
theorem L5(B bt n aa B2 m sc:Nat)(sa:Option Addr)(ts:List JV)(l:List JR)(w:World)(h:bK w B (JQ bt n aa) ts)(hn:n=H ts)(au:n<10)(ag:∀t∈ts,H t.S<10000)(ah:w.ownsRow B2 104 11 (.slice sa m sc) m (MG l))(hm:m=H l)(ay:m<10000):
  Calls prog 43 #[U #[JQ bt n aa],.slice sa m sc] w fun e w'=>∃v,e=.returned v/\w'.ownsRow (N (M w)) 104 11 v (dH (lM ts) l).length (MG (dH (lM ts) l))/\Below (N (M w)) w w':=by
 obtain⟨i0,hi,K,L,T⟩:=info_parts Tryz.infoStm;have HC:JP (∀(w2:World) (v:Int),Below (N (M w)) w w2->Calls prog 80 #[U #[JQ bt n aa],Y C v] w2 fun e w'=>e=.returned (I (lM ts v))/\Below (N (M w2)) w2 w'):=fun w2 v hb=>L0 B bt n aa v ts w2 (h.keep fun k hk=>hb.block k hk) hn au ag
 have HO:=JO ah;have HN:=JO hm;clear h hn ag ah hm;generalize lM ts=pr at*;go_enter func43,ntmps43;go_wp2;go_loopw[5,12] (fun o i wr=>∃(k:Nat) (acc:List JR),k<=m/\i=Y C k/\H acc<=3*k/\JP (acc=dH pr (l.take k))/\wr.ownsRow (N (M w)) 104 11 o (H acc) (MG acc)/\Below (N (M w)) w wr/\wr.heap[N (M w)]?=some (O #[JQ bt n aa] 52 (0,0))) fun _ i _=>m-(intOf i).toNat
 case atStart=>exact⟨0,[],Nat.zero_le _,Z,by simp,by unfold JP;simp[dH],by simpa[MG]using World.ownsRow_nil _ _ _ _,(xW _ _).alloc (x0 _) _,heap_alloc_new w _⟩
 case round =>
  obtain⟨k,acc,hk,rfl,ax,HR,af,ad,D⟩:=hrel;have e0:=aB D 0 _ Z;have aw:N (M w)<N (M wr):=(Array.getElem?_eq_some_iff.1 D).1;by_cases hlt:k<m
  ·obtain⟨b,rfl,ao⟩:=pJ HO.o (by omega);have ap:k<H l:=by rw[<- HN.o];exact hlt
   have hr:=JO (eH (kJ HO.o HN.o k ap) (ad.block b ao));have HS:=JO (L3 pr l k ap);have A:=JO af;have y:=JO ad;generalize ag:l[k]=st at*;clear ag af ad
   cases ha:OL st.k
   ·have HF:JP (acc++[st]=dH pr (l.take (k+1))):=by
     unfold JP;rw[HS.o,<- HR.o];simp[iL,ha]
    go_wp2_with(first
     |(refine dC (.tmp 14) Z Z b (k*11) st Z hr.o ?_)
     |(go_at_call 79;refine(oV _ _).mono ?_;rintro e w' ⟨rfl,rfl⟩;rw[ha])
     |(at_builtin;refine wpList_append_lies _ Z (.tmp 27) (.tmp 29) 94 Z (N (M w)) 104 i0 (U (aC JR.zero)) 11 88 underlying94 hi K L T Z (by decide) _ _ _ Z ((A.o.alloc _).alloc _) ⟨N (M wr)+1,0,E⟩ 1 1 (aC st).toList (by simp[Act.eval]) Z ?c1 ?c2 (by decide) ?c3 ?c4 ?c5 _ Z ?_))
    case c1=>exact DF wr (aC st) _ _
    case c2=>simp[aC,xF]
    case c3=>unfold maxLen;omega
    case c4=>omega
    case c5=>simp;omega
    intro g1 ae w1 a c g p;have ac:Below (N (M wr)) wr ((wr.alloc (O (aC st) 104)).alloc (O (aC st) 104)):=((xW _ _).alloc (x0 _) _).alloc (by simp) _;have aj:=JO (mV y.o ac A.o c);have ai:=JO (nO ac A.o c D (by decide));have ak:JP (w1.ownsRow (N (M w)) 104 11 (JQ g1 (H acc+1) ae) (acc++[st]).length (MG (acc++[st]))):=by
     unfold JP;rw[nK];simpa using a
    clear a c g A y ac;go_wp2;go_roundw
    case rel=>exact⟨k+1,acc++[st],by omega,by go_num,by simp;omega,HF,ak.o,aj.o,ai.o⟩
    case measure=>simp[intOf];omega
   ·cases hp:pr st.z
    ·have HF:JP (acc++[st]=dH pr (l.take (k+1))):=by
      unfold JP;rw[HS.o,<- HR.o];simp[iL,hp]
     go_wp2_with(first
      |(refine dC (.tmp 14) Z Z b (k*11) st Z hr.o ?_)
      |(go_at_call 79;refine(oV _ _).mono ?_;rintro e w' ⟨rfl,rfl⟩;rw[ha])
      |(go_at_call 80;refine(HC.o _ _ (y.o.alloc (by omega) _)).mono ?_;rintro e J ⟨rfl,x⟩;rw[hp];have hW:Below (N (M wr)) wr J:=((xW (N (M wr)) wr).alloc (x0 _) _).trans (x.mono (by simp));have GS:=(KH.bA wr st).X x;obtain⟨f1,f2,s0,s1,s2,s3,s4,s5,s6,s7,s8,s9,r⟩:=GS.F;have av:=hW.size)
      |(at_builtin;refine wpList_append_lies _ Z (.tmp 27) (.tmp 29) 94 Z (N (M w)) 104 i0 (U (aC JR.zero)) 11 88 underlying94 hi K L T Z (by decide) _ _ _ Z ((aU A.o fun j hj=>hW.block j (A.o.lt j hj).2).alloc _) ⟨N (M J),0,E⟩ 1 1 (aC st).toList Z Z ?c1 ?c2 (by decide) ?c3 ?c4 ?c5 _ Z ?_))
     case c1=>exact xR (t:=104) (fr:=(0,0)) (heap_alloc_new J _)
     case c2=>simp[aC,xF]
     case c3=>unfold maxLen;omega
     case c4=>omega
     case c5=>simp;omega
     intro g1 ae w1 a c g p;have ac:Below (N (M wr)) wr (J.alloc (O (aC st) 104)):=hW.alloc av _;have aj:=JO (mV y.o ac A.o c);have ai:=JO (nO ac A.o c D (by decide));have ak:JP (w1.ownsRow (N (M w)) 104 11 (JQ g1 (H acc+1) ae) (acc++[st]).length (MG (acc++[st]))):=by
      unfold JP;rw[nK];simpa using a
     clear a c g A y hW ac GS;go_wp2;go_roundw
     case rel=>exact⟨k+1,acc++[st],by omega,by go_num,by simp;omega,HF,ak.o,aj.o,ai.o⟩
     case measure=>simp[intOf];omega
    ·cases hrl:P.rel st.q<;>cases hac2:acq st.q
     ·have HF:JP (acc++[{st with q:=1}]=dH pr (l.take (k+1))):=by
       unfold JP;rw[HS.o,<- HR.o];simp[iL,ha,hp,hrl,hac2]
      go_wp2_with(first
       |(refine dC (.tmp 14) Z Z b (k*11) st Z hr.o ?_)
       |(go_at_call 79;refine(oV _ _).mono ?_;rintro e w' ⟨rfl,rfl⟩;rw[ha])
       |(go_at_call 80;refine(HC.o _ _ (y.o.alloc (by omega) _)).mono ?_;rintro e J ⟨rfl,x⟩;rw[hp];have GS:=(KH.bA wr st).X x;obtain⟨f1,f2,s0,s1,s2,s3,s4,s5,s6,s7,s8,s9,r⟩:=GS.F;have u:FI w (J.alloc (O (aC (bO st)) 104)) u5 acc st (bO st) (N (M wr)) (N (M J)) #[JQ bt n aa]:=FI.start y.o A.o D x;rw[show aC (bO st)=#[Y C 4,Y C st.i,Y C 0,Y C 0,I G,Y C 0,I G,Y C 0,Y C 4,Y C st.scope,Y C 0]from rfl]at u;have u:=JO u;clear GS)
       |(go_at_call 81;generalize J.alloc (O #[Y C 4,Y C st.i,Y C 0,Y C 0,I G,Y C 0,I G,Y C 0,Y C 4,Y C st.scope,Y C 0] 104)=W at*;clear f1 f2 s0 s1 s2 s3 s4 s5 s6 s7 s8 s9 r;obtain⟨f1,f2,s0,s1,s2,s3,s4,s5,s6,s7,s8,s9,r⟩:=u.o.s.F;have V:=JO u.o.oF;refine(wR _ _).mono ?_;rintro e w' ⟨rfl,d⟩;have d:=d.symm;subst d;rw[hrl])
       |(generalize W.setCell ⟨N (M wr),8,E⟩ (Y C 1)=W2 at*;refine eV (.tmp 7) Z Z (N (M wr)) {st with q:=1} Z (by exact V.o.s) ?_;simp only[aC])
       |(at_builtin;refine wpList_append_lies _ Z (.tmp 45) (.tmp 47) 94 Z (N (M w)) 104 i0 (U (aC JR.zero)) 11 88 underlying94 hi K L T Z (by decide) _ _ _ Z (V.o.ow.alloc _) ⟨N (M W2),0,E⟩ 1 1 (aC {st with q:=1}).toList Z Z ?c1 ?c2 (by decide) ?c3 ?c4 ?c5 _ Z ?_))
      case c1=>exact xR (t:=104) (fr:=(0,0)) (heap_alloc_new W2 _)
      case c2=>simp[aC,bO,MR.zero,xF]
      case c3=>unfold maxLen;first|omega|(simp;omega)
      case c4=>first|omega|(simp;omega)
      case c5=>have:=V.o.bel.size;simp;omega
      intro an ab wB a c g p;have GB:=JO (FI.jC V.o {st with q:=1} (H acc) (by first|rfl|simp) (by exact c) (by first|exact a|simpa using a) (by exact g));clear a c g p;go_wp2_with(first|(go_at_call 82;refine(wN _ _).mono ?_;rintro e w' ⟨rfl,d⟩;have d:=d.symm;subst d;rw[hac2]));go_roundw
      case rel=>exact⟨k+1,_,by omega,by go_num,by simp;omega,HF,by simpa using GB.o.ow,GB.o.bel,GB.o.box⟩
      case measure=>simp[intOf];omega
     ·have HF:JP (acc++[{st with q:=1}]++[bO st]=dH pr (l.take (k+1))):=by
       unfold JP;rw[HS.o,<- HR.o];simp[iL,ha,hp,hrl,hac2]
      go_wp2_with(first
       |(refine dC (.tmp 14) Z Z b (k*11) st Z hr.o ?_)
       |(go_at_call 79;refine(oV _ _).mono ?_;rintro e w' ⟨rfl,rfl⟩;rw[ha])
       |(go_at_call 80;refine(HC.o _ _ (y.o.alloc (by omega) _)).mono ?_;rintro e J ⟨rfl,x⟩;rw[hp];have GS:=(KH.bA wr st).X x;obtain⟨f1,f2,s0,s1,s2,s3,s4,s5,s6,s7,s8,s9,r⟩:=GS.F;have u:FI w (J.alloc (O (aC (bO st)) 104)) u5 acc st (bO st) (N (M wr)) (N (M J)) #[JQ bt n aa]:=FI.start y.o A.o D x;rw[show aC (bO st)=#[Y C 4,Y C st.i,Y C 0,Y C 0,I G,Y C 0,I G,Y C 0,Y C 4,Y C st.scope,Y C 0]from rfl]at u;have u:=JO u;clear GS)
       |(go_at_call 81;generalize J.alloc (O #[Y C 4,Y C st.i,Y C 0,Y C 0,I G,Y C 0,I G,Y C 0,Y C 4,Y C st.scope,Y C 0] 104)=W at*;clear f1 f2 s0 s1 s2 s3 s4 s5 s6 s7 s8 s9 r;obtain⟨f1,f2,s0,s1,s2,s3,s4,s5,s6,s7,s8,s9,r⟩:=u.o.s.F;have V:=JO u.o.oF;refine(wR _ _).mono ?_;rintro e w' ⟨rfl,d⟩;have d:=d.symm;subst d;rw[hrl])
       |(generalize W.setCell ⟨N (M wr),8,E⟩ (Y C 1)=W2 at*;refine eV (.tmp 7) Z Z (N (M wr)) {st with q:=1} Z (by exact V.o.s) ?_;simp only[aC])
       |(at_builtin;refine wpList_append_lies _ Z (.tmp 45) (.tmp 47) 94 Z (N (M w)) 104 i0 (U (aC JR.zero)) 11 88 underlying94 hi K L T Z (by decide) _ _ _ Z (V.o.ow.alloc _) ⟨N (M W2),0,E⟩ 1 1 (aC {st with q:=1}).toList Z Z ?c1 ?c2 (by decide) ?c3 ?c4 ?c5 _ Z ?_))
      case c1=>exact xR (t:=104) (fr:=(0,0)) (heap_alloc_new W2 _)
      case c2=>simp[aC,bO,MR.zero,xF]
      case c3=>unfold maxLen;first|omega|(simp;omega)
      case c4=>first|omega|(simp;omega)
      case c5=>have:=V.o.bel.size;simp;omega
      intro an ab wB a c g p;have GB:=JO (FI.jC V.o {st with q:=1} (H acc) (by first|rfl|simp) (by exact c) (by first|exact a|simpa using a) (by exact g));clear a c g p;go_wp2_with(first
       |(go_at_call 82;refine(wN _ _).mono ?_;rintro e w' ⟨rfl,d⟩;have d:=d.symm;subst d;rw[hac2])
       |(refine eV (.tmp 9) Z Z (N (M J)) (bO st) Z (by exact GB.o.f) ?_;simp only[aC,bO,MR.zero])
       |(at_builtin;refine wpList_append_lies _ Z (.tmp 51) (.tmp 53) 94 Z (N (M w)) 104 i0 (U (aC JR.zero)) 11 88 underlying94 hi K L T Z (by decide) _ _ _ Z (GB.o.ow.alloc _) ⟨N (M wB),0,E⟩ 1 1 (aC (bO st)).toList Z Z ?c1 ?c2 (by decide) ?c3 ?c4 ?c5 _ Z ?_))
      case c1=>exact xR (t:=104) (fr:=(0,0)) (heap_alloc_new wB _)
      case c2=>simp[aC,bO,MR.zero,xF]
      case c3=>unfold maxLen;first|omega|(simp;omega)
      case c4=>first|omega|(simp;omega)
      case c5=>have:=GB.o.bel.size;simp;omega
      intro ar am wC a c g p;have GC:=JO (FI.jC GB.o (bO st) (H acc+1) (by first|rfl|simp) (by exact c) (by first|exact a|simpa using a) (by exact g));clear a c g p;go_wp2;go_roundw
      case rel=>exact⟨k+1,_,by omega,by go_num,by simp;omega,HF,by simpa using GC.o.ow,GC.o.bel,GC.o.box⟩
      case measure=>simp[intOf];omega
     ·have HF:JP (acc++[bO st]++[{st with q:=1}]=dH pr (l.take (k+1))):=by
       unfold JP;rw[HS.o,<- HR.o];simp[iL,ha,hp,hrl,hac2]
      go_wp2_with(first
       |(refine dC (.tmp 14) Z Z b (k*11) st Z hr.o ?_)
       |(go_at_call 79;refine(oV _ _).mono ?_;rintro e w' ⟨rfl,rfl⟩;rw[ha])
       |(go_at_call 80;refine(HC.o _ _ (y.o.alloc (by omega) _)).mono ?_;rintro e J ⟨rfl,x⟩;rw[hp];have GS:=(KH.bA wr st).X x;obtain⟨f1,f2,s0,s1,s2,s3,s4,s5,s6,s7,s8,s9,r⟩:=GS.F;have u:FI w (J.alloc (O (aC (bO st)) 104)) u5 acc st (bO st) (N (M wr)) (N (M J)) #[JQ bt n aa]:=FI.start y.o A.o D x;rw[show aC (bO st)=#[Y C 4,Y C st.i,Y C 0,Y C 0,I G,Y C 0,I G,Y C 0,Y C 4,Y C st.scope,Y C 0]from rfl]at u;have u:=JO u;clear GS)
       |(go_at_call 81;generalize J.alloc (O #[Y C 4,Y C st.i,Y C 0,Y C 0,I G,Y C 0,I G,Y C 0,Y C 4,Y C st.scope,Y C 0] 104)=W at*;clear f1 f2 s0 s1 s2 s3 s4 s5 s6 s7 s8 s9 r;obtain⟨f1,f2,s0,s1,s2,s3,s4,s5,s6,s7,s8,s9,r⟩:=u.o.s.F;refine(wR _ _).mono ?_;rintro e w' ⟨rfl,d⟩;have d:=d.symm;subst d;rw[hrl])
       |(refine eV (.tmp 9) Z Z (N (M J)) (bO st) Z (by exact u.o.f) ?_;simp only[aC,bO,MR.zero])
       |(at_builtin;refine wpList_append_lies _ Z (.tmp 40) (.tmp 42) 94 Z (N (M w)) 104 i0 (U (aC JR.zero)) 11 88 underlying94 hi K L T Z (by decide) _ _ _ Z (u.o.ow.alloc _) ⟨N (M W),0,E⟩ 1 1 (aC (bO st)).toList Z Z ?c1 ?c2 (by decide) ?c3 ?c4 ?c5 _ Z ?_))
      case c1=>exact xR (t:=104) (fr:=(0,0)) (heap_alloc_new W _)
      case c2=>simp[aC,bO,MR.zero,xF]
      case c3=>unfold maxLen;first|omega|(simp;omega)
      case c4=>first|omega|(simp;omega)
      case c5=>have:=u.o.bel.size;simp;omega
      intro aq al wA a c g p;have GA:=JO (FI.jC u.o (bO st) (H acc) (by first|rfl|simp) (by exact c) (by first|exact a|simpa using a) (by exact g));clear a c g p;clear f1 f2 s0 s1 s2 s3 s4 s5 s6 s7 s8 s9 r;obtain⟨f1,f2,s0,s1,s2,s3,s4,s5,s6,s7,s8,s9,r⟩:=GA.o.s.F;have V:=JO GA.o.oF;go_wp2_with(first
       |(generalize wA.setCell ⟨N (M wr),8,E⟩ (Y C 1)=W2 at*;refine eV (.tmp 7) Z Z (N (M wr)) {st with q:=1} Z (by exact V.o.s) ?_;simp only[aC])
       |(at_builtin;refine wpList_append_lies _ Z (.tmp 45) (.tmp 47) 94 Z (N (M w)) 104 i0 (U (aC JR.zero)) 11 88 underlying94 hi K L T Z (by decide) _ _ _ Z (V.o.ow.alloc _) ⟨N (M W2),0,E⟩ 1 1 (aC {st with q:=1}).toList Z Z ?c1 ?c2 (by decide) ?c3 ?c4 ?c5 _ Z ?_))
      case c1=>exact xR (t:=104) (fr:=(0,0)) (heap_alloc_new W2 _)
      case c2=>simp[aC,bO,MR.zero,xF]
      case c3=>unfold maxLen;first|omega|(simp;omega)
      case c4=>first|omega|(simp;omega)
      case c5=>have:=V.o.bel.size;simp;omega
      intro an ab wB a c g p;have GB:=JO (FI.jC V.o {st with q:=1} (H acc+1) (by first|rfl|simp) (by exact c) (by first|exact a|simpa using a) (by exact g));clear a c g p;go_wp2_with(first|(go_at_call 82;refine(wN _ _).mono ?_;rintro e w' ⟨rfl,d⟩;have d:=d.symm;subst d;rw[hac2]));go_roundw
      case rel=>exact⟨k+1,_,by omega,by go_num,by simp;omega,HF,by simpa using GB.o.ow,GB.o.bel,GB.o.box⟩
      case measure=>simp[intOf];omega
     ·have HF:JP (acc++[bO st]++[{st with q:=1}]++[bO st]=dH pr (l.take (k+1))):=by
       unfold JP;rw[HS.o,<- HR.o];simp[iL,ha,hp,hrl,hac2]
      go_wp2_with(first
       |(refine dC (.tmp 14) Z Z b (k*11) st Z hr.o ?_)
       |(go_at_call 79;refine(oV _ _).mono ?_;rintro e w' ⟨rfl,rfl⟩;rw[ha])
       |(go_at_call 80;refine(HC.o _ _ (y.o.alloc (by omega) _)).mono ?_;rintro e J ⟨rfl,x⟩;rw[hp];have GS:=(KH.bA wr st).X x;obtain⟨f1,f2,s0,s1,s2,s3,s4,s5,s6,s7,s8,s9,r⟩:=GS.F;have u:FI w (J.alloc (O (aC (bO st)) 104)) u5 acc st (bO st) (N (M wr)) (N (M J)) #[JQ bt n aa]:=FI.start y.o A.o D x;rw[show aC (bO st)=#[Y C 4,Y C st.i,Y C 0,Y C 0,I G,Y C 0,I G,Y C 0,Y C 4,Y C st.scope,Y C 0]from rfl]at u;have u:=JO u;clear GS)
       |(go_at_call 81;generalize J.alloc (O #[Y C 4,Y C st.i,Y C 0,Y C 0,I G,Y C 0,I G,Y C 0,Y C 4,Y C st.scope,Y C 0] 104)=W at*;clear f1 f2 s0 s1 s2 s3 s4 s5 s6 s7 s8 s9 r;obtain⟨f1,f2,s0,s1,s2,s3,s4,s5,s6,s7,s8,s9,r⟩:=u.o.s.F;refine(wR _ _).mono ?_;rintro e w' ⟨rfl,d⟩;have d:=d.symm;subst d;rw[hrl])
       |(refine eV (.tmp 9) Z Z (N (M J)) (bO st) Z (by exact u.o.f) ?_;simp only[aC,bO,MR.zero])
       |(at_builtin;refine wpList_append_lies _ Z (.tmp 40) (.tmp 42) 94 Z (N (M w)) 104 i0 (U (aC JR.zero)) 11 88 underlying94 hi K L T Z (by decide) _ _ _ Z (u.o.ow.alloc _) ⟨N (M W),0,E⟩ 1 1 (aC (bO st)).toList Z Z ?c1 ?c2 (by decide) ?c3 ?c4 ?c5 _ Z ?_))
      case c1=>exact xR (t:=104) (fr:=(0,0)) (heap_alloc_new W _)
      case c2=>simp[aC,bO,MR.zero,xF]
      case c3=>unfold maxLen;first|omega|(simp;omega)
      case c4=>first|omega|(simp;omega)
      case c5=>have:=u.o.bel.size;simp;omega
      intro aq al wA a c g p;have GA:=JO (FI.jC u.o (bO st) (H acc) (by first|rfl|simp) (by exact c) (by first|exact a|simpa using a) (by exact g));clear a c g p;clear f1 f2 s0 s1 s2 s3 s4 s5 s6 s7 s8 s9 r;obtain⟨f1,f2,s0,s1,s2,s3,s4,s5,s6,s7,s8,s9,r⟩:=GA.o.s.F;have V:=JO GA.o.oF;go_wp2_with(first
       |(generalize wA.setCell ⟨N (M wr),8,E⟩ (Y C 1)=W2 at*;refine eV (.tmp 7) Z Z (N (M wr)) {st with q:=1} Z (by exact V.o.s) ?_;simp only[aC])
       |(at_builtin;refine wpList_append_lies _ Z (.tmp 45) (.tmp 47) 94 Z (N (M w)) 104 i0 (U (aC JR.zero)) 11 88 underlying94 hi K L T Z (by decide) _ _ _ Z (V.o.ow.alloc _) ⟨N (M W2),0,E⟩ 1 1 (aC {st with q:=1}).toList Z Z ?c1 ?c2 (by decide) ?c3 ?c4 ?c5 _ Z ?_))
      case c1=>exact xR (t:=104) (fr:=(0,0)) (heap_alloc_new W2 _)
      case c2=>simp[aC,bO,MR.zero,xF]
      case c3=>unfold maxLen;first|omega|(simp;omega)
      case c4=>first|omega|(simp;omega)
      case c5=>have:=V.o.bel.size;simp;omega
      intro an ab wB a c g p;have GB:=JO (FI.jC V.o {st with q:=1} (H acc+1) (by first|rfl|simp) (by exact c) (by first|exact a|simpa using a) (by exact g));clear a c g p;go_wp2_with(first
       |(go_at_call 82;refine(wN _ _).mono ?_;rintro e w' ⟨rfl,d⟩;have d:=d.symm;subst d;rw[hac2])
       |(refine eV (.tmp 9) Z Z (N (M J)) (bO st) Z (by exact GB.o.f) ?_;simp only[aC,bO,MR.zero])
       |(at_builtin;refine wpList_append_lies _ Z (.tmp 51) (.tmp 53) 94 Z (N (M w)) 104 i0 (U (aC JR.zero)) 11 88 underlying94 hi K L T Z (by decide) _ _ _ Z (GB.o.ow.alloc _) ⟨N (M wB),0,E⟩ 1 1 (aC (bO st)).toList Z Z ?c1 ?c2 (by decide) ?c3 ?c4 ?c5 _ Z ?_))
      case c1=>exact xR (t:=104) (fr:=(0,0)) (heap_alloc_new wB _)
      case c2=>simp[aC,bO,MR.zero,xF]
      case c3=>unfold maxLen;first|omega|(simp;omega)
      case c4=>first|omega|(simp;omega)
      case c5=>have:=GB.o.bel.size;simp;omega
      intro ar am wC a c g p;have GC:=JO (FI.jC GB.o (bO st) (H acc+2) (by first|rfl|simp) (by exact c) (by first|exact a|simpa using a) (by exact g));clear a c g p;go_wp2;go_roundw
      case rel=>exact⟨k+1,_,by omega,by go_num,by simp;omega,HF,by simpa using GC.o.ow,GC.o.bel,GC.o.box⟩
      case measure=>simp[intOf];omega
  ·have HE:JP (dH pr l=acc):=by
    unfold JP;rw[HR.o,List.take_of_length_le (by have:=HN.o;omega)]
   go_wp2;go_ret;exact⟨_,Z,by rw[HE.o];exact af,ad⟩
end Go.Proofs.YtlikcongbhhpfaaGreatDoor
