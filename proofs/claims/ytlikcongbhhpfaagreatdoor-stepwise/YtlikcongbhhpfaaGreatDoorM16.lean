import Derived.Test.YtlikcongbhhpfaaGreatDoorM15
set_option linter.unusedVariables false
set_option linter.unusedSimpArgs false
set_option maxHeartbeats 12800000
namespace Go.Proofs.YtlikcongbhhpfaaGreatDoor
open Go Go.RowKit Go.Proofs.Tryz P Q
set_option maxRecDepth 1000000
variable {w:World}{v:Value}{g n:Nat}{ops:Array Oper}{op:Oper}{a:Act}{b l:Int}{st:JR}{ts:List JV}
open _root_.Array renaming size->z
open Go.World renaming heap->M,frozen?->L
open List renaming length->H
open Go.Value renaming slice->Y,int->E,agg->N
open Option renaming none->C,some->I
open Go.Obj renaming cells->O
open Go.IntKind renaming i64->G
open Go.Ending renaming returned->U
open Go.RowKit.Below renaming refl->xF,heap_setCell->xW,heap_alloc->x0
open Nat renaming le_refl->xR,zero_le->x4,le_succ->x8
open Go.Value renaming oneCell'->x1,int->x6
open List renaming mem_cons_of_mem->x2,map_take->x9,take_succ_eq_append_getElem->xa,map_append->xb,length_cons->xc,getElem_mem->xd,take_of_length_le->xe,length_map->xg,mem_append->xh
open Go.World renaming frozen?->x3,ownsRow_nil->x5,news_of_block->x7
theorem L6(B2 m sc:Nat)(sa:Option Addr)(l:List JR)(w:World)(A:w.ownsRow B2 104 11 (Y sa m sc) m (MG l))(hm:m=H l)(ad:m<10000):
  Calls prog 41 #[Y sa m sc] w fun e w'=>∃v,e=U v/\w'.ownsRow (z (M w)) 104 11 v (bY 0 l).length (MG (bY 0 l))/\Below (z (M w)) w w':=by
 obtain⟨i0,hi,V,W,X⟩:=info_parts Tryz.infoStm;have HO:=JO A;have HN:=JO hm;clear A hm;go_enter func41,ntmps41;go_wp2;go_loopw[3,4,9] (fun c o i wr=>∃(k:Nat) (q:Int) (d:List JR),k<=m/\i=E G k/\c=E G q/\0<=q/\q<=k/\H d<=k/\JP (d++bY q (l.drop k)=bY 0 l)/\wr.ownsRow (z (M w)) 104 11 o (H d) (MG d)/\Below (z (M w)) w wr) fun _ _ i _=>m-(intOf i).toNat
 case atStart=>exact⟨0,0,[],x4 _,Z,Z,by omega,by omega,by simp,by unfold JP;simp,by simpa[MG]using x5 _ _ _ _,xF _ _⟩
 case round =>
  obtain⟨k,q,d,hk,rfl,rfl,ae,af,ac,HR,y,p⟩:=hrel;have ab:=p.size;by_cases hlt:k<m
  ·obtain⟨b,rfl,K⟩:=pJ HO.o (by omega);have S:k<H l:=by rw[<- HN.o];exact hlt
   have hr:=JO (eH (kJ HO.o HN.o k S) (p.block b K));have HD:=JO (kM l k S);have r:=JO y;have s:=JO p;generalize aa:l[k]=st at*;clear aa y p;have step:∀q':Int,bY q (st::l.drop (k+1))=st::bY q' (l.drop (k+1))->d++[st]++bY q' (l.drop (k+1))=bY 0 l:=fun q' h=>by
    rw[<- HR.o,HD.o,h];simp
   have t:=JO step;clear step;by_cases h5:st.k=5
   ·by_cases hq:q+1=2
    ·have J:JP (d++bY (q+1) (l.drop (k+1))=bY 0 l):=by
      unfold JP;rw[<- HR.o,HD.o];simp[bY,h5,hq]
     have b5:(st.k==5)=true:=by simp[h5]
     have bq:(q+1==2)=true:=by simp[hq]
     clear h5 hq t;go_wp2_with(first|(refine dC (.tmp 11) Z Z b (k*11) st Z hr.o ?_));go_roundw
     case rel=>exact⟨k+1,q+1,d,by omega,by go_num,by go_num,by omega,by omega,by omega,J,r.o.alloc _,s.o.alloc ab _⟩
     case measure=>simp[intOf];omega
    ·have b5:(st.k==5)=true:=by simp[h5]
     have bq:(q+1==2)=false:=by simp[hq]
     have J:JP (d++[st]++bY (q+1) (l.drop (k+1))=bY 0 l):=t.o (q+1) (by simp[bY,h5,hq]);clear h5 hq t;go_wp2_with(first
      |(refine dC (.tmp 11) Z Z b (k*11) st Z hr.o ?_)
      |(at_builtin;refine wpList_append_lies _ Z (.tmp 20) (.tmp 22) 94 Z (z (M w)) 104 i0 (N (aC JR.zero)) 11 88 underlying94 hi V W X Z (by decide) _ _ _ Z ((r.o.alloc _).alloc _) ⟨z (M wr)+1,0,C⟩ 1 1 (aC st).toList (by simp[Act.eval]) Z ?c1 ?c2 (by decide) ?c3 ?c4 ?c5 _ Z ?_))
     case c1=>exact DF wr (aC st) _ _
     case c2=>simp[aC,x1]
     case c3=>unfold maxLen;omega
     case c4=>omega
     case c5=>simp;omega
     intro g1 u w1 j f F T;have x:Below (z (M wr)) wr ((wr.alloc (O (aC st) 104)).alloc (O (aC st) 104)):=((xF _ _).alloc (xR _) _).alloc (by simp) _;have B:=JO (mV s.o x r.o f);have D:JP (w1.ownsRow (z (M w)) 104 11 (JQ g1 (H d+1) u) (d++[st]).length (MG (d++[st]))):=by
      unfold JP;rw[nK];simpa using j
     clear j f F r s x;go_wp2;go_roundw
     case rel=>exact⟨k+1,q+1,d++[st],by omega,by go_num,by go_num,by omega,by omega,by simp;omega,J,D.o,B.o⟩
     case measure=>simp[intOf];omega
   ·have b5:(st.k==5)=false:=by simp[h5]
    have J:JP (d++[st]++bY q (l.drop (k+1))=bY 0 l):=t.o q (by simp[bY,h5]);clear h5 t;go_wp2_with(first
     |(refine dC (.tmp 11) Z Z b (k*11) st Z hr.o ?_)
     |(at_builtin;refine wpList_append_lies _ Z (.tmp 20) (.tmp 22) 94 Z (z (M w)) 104 i0 (N (aC JR.zero)) 11 88 underlying94 hi V W X Z (by decide) _ _ _ Z ((r.o.alloc _).alloc _) ⟨z (M wr)+1,0,C⟩ 1 1 (aC st).toList (by simp[Act.eval]) Z ?c1 ?c2 (by decide) ?c3 ?c4 ?c5 _ Z ?_))
    case c1=>exact DF wr (aC st) _ _
    case c2=>simp[aC,x1]
    case c3=>unfold maxLen;omega
    case c4=>omega
    case c5=>simp;omega
    intro g1 u w1 j f F T;have x:Below (z (M wr)) wr ((wr.alloc (O (aC st) 104)).alloc (O (aC st) 104)):=((xF _ _).alloc (xR _) _).alloc (by simp) _;have B:=JO (mV s.o x r.o f);have D:JP (w1.ownsRow (z (M w)) 104 11 (JQ g1 (H d+1) u) (d++[st]).length (MG (d++[st]))):=by
     unfold JP;rw[nK];simpa using j
    clear j f F r s x;go_wp2;go_roundw
    case rel=>exact⟨k+1,q,d++[st],by omega,by go_num,Z,by omega,by omega,by simp;omega,J,D.o,B.o⟩
    case measure=>simp[intOf];omega
  ·have HE:JP (bY 0 l=d):=by
    unfold JP;rw[<- HR.o,List.drop_eq_nil_of_le (by have:=HN.o;omega)];simp[bY]
   go_wp2;go_ret;exact⟨_,Z,by rw[HE.o];exact y,p⟩
theorem tI{B:Nat}{j:List Value}{e:TypeId}{i:Nat}(h:w.ownsRow B e i v n j):∃a c,v=Y a n c:=by
 rcases h.2 with⟨e,f⟩|⟨k,c,d,e,_⟩
 ·exact⟨C,0,by rw[e,f]⟩
 ·exact⟨_,c,e⟩
theorem EK{wr W y:World}{o:Value}{c:List JV}{s:List Value}{t:JV}{T m K:Nat}(hb:Below (z (M w)) w wr)(p:wr.ownsRow (z (M w)) 96 3 o n (OA c s))(hn:H c=n)(f:NU wr (z (M w)) c s)(V:Below (z (M wr)) wr W)(hB:z (M wr)<=K)(x:W.ownsRow K 104 11 v (H t.S) (MG t.S))(d:W.grownBy y o.ownBlock)(r:y.ownsRow (z (M w)) 96 3 (JQ T (n+1) m) (n+1) (OA c s++[E G t.block,E G t.i,v])):
  y.ownsRow (z (M w)) 96 3 (JQ T (n+1) m) (n+1) (OA (c++[t]) (s++[v]))/\NU y (z (M w)) (c++[t]) (s++[v]):=by
 have hl:=f.qB;have h1:=hb.size;have h2:=V.size;refine⟨by rw[uG _ _ _ _ hl];exact r,(tW _ _ _ _).2 ⟨f.keep fun u D k q=>?_,?_,fun u D=>?_⟩⟩
 ·obtain⟨n',J,j⟩:=f.mem u D;have A:=(j.lt k q).2;rw[d.block k (by omega) (Ne.symm (eX j p (by decide) q)),V.block k A]
 ·have F:W.ownsRow (z (M w)) 104 11 v (H t.S) (MG t.S):=PG x (by omega);refine aU F fun k q=>d.block k (x.lt k q).2 fun e=>?_;have X:=(x.lt k q).1;have h4:=(p.lt k e.symm).2;omega
 ·obtain⟨n',J,j⟩:=f.mem u D
  cases q:u.ownBlock with
  |none=>exact .inl Z
  |some k =>
   refine .inr fun e=>?_;have X:=(x.lt k e.symm).1;have h4:=(j.lt k q).2;omega
theorem IJ{rest:List Oper}{Q:Exit->Act->World->Prop}(x:Operand)(c:op.guard=C)(e:op.op=.load 96 x)(g:Nat)(b l:Int)(v:Value)(f:a.eval x=.pointer (I ⟨g,0,C⟩))(d:w.heap[g]?=I (O #[E G b,E G l,v] 96 (0,0)))(h:wpList prog ops Q rest (a.put op.dst (N #[E G b,E G l,v])) w):wpList prog ops Q (op::rest) a w :=
 AX c _ x e g f _ _ d _ underlying96 Z (by kernel_rfl) h
theorem vJ(h:w.heap[g]?=I (O #[E G b,E G l,v] 96 (0,0))):g<z (M w)/\w.cell? ⟨g,0,C⟩=I (E G b)/\w.cell? ⟨g,1,C⟩=I (E G l)/\w.cell? ⟨g,2,C⟩=I v/\L w ⟨g,0,C⟩=false/\L w ⟨g,1,C⟩=false/\L w ⟨g,2,C⟩=false:=by
 refine⟨(Array.getElem?_eq_some_iff.1 h).1,?_,?_,?_,?_,?_,?_⟩<;>simp[World.cell?,x3,h]
theorem CY(h:w.heap[g]?=I (O #[E G b,E G l,v] 96 (0,0)))(u:Value):(w.setCell ⟨g,2,C⟩ u).heap[g]?=I (O #[E G b,E G l,u] 96 (0,0)):=by
 rw[bC h];rfl
theorem WU{d:Func}{R:Ending->World->Prop}{p:Tmp}(g:Nat)(f:Value)(c:d.results=#[.cell p 52])(k:a.tmps.getD p undef=.pointer (I ⟨g,0,C⟩))(h:w.heap[g]?=I (O #[f] 52 (0,0)))(j:a.defers=[])(i:R (U (N #[f])) w):bodyPost prog d R .ret a w:=by
 refine bodyPost_ret (v:=N #[f]) ?_ j i;have e:(results d a.tmps).run prog w=((asAddr (a.tmps.getD p undef)).run prog w).andThen fun a m=>(loadVar 52 a).run prog m:=by
  simp only[results,c];simp[Sem.run_bind,Result.andThen]
 rw[e,k];have:(asAddr (.pointer (I ⟨g,0,C⟩))).run prog w=.ok ⟨g,0,C⟩ w:=Z;rw[this,Result.andThen_ok,rQ w g _ _ _ h _ underlying52 rfl (by kernel_rfl)]
theorem L7(ts:List JV)(k:Nat)(h:k<H ts):(ts.take (k+1)).map (kB ts)=(ts.take k).map (kB ts)++[kB ts ts[k]]:=by
 rw[xa h,xb];rfl
theorem WV(l:List JR):∀c,(bY c l).length<=H l:=by
 induction l with
 |nil=>intro c;simp[bY]
 |cons s r ih =>
  intro c;simp only[bY];have d:=ih (c+1);have e:=ih c
  repeat' split
  all_goals simp only[xc];omega
theorem L8(l:List JR):∀p,(cC p l).length<=H l:=by
 induction l with
 |nil=>intro p;simp[cC]
 |cons s r ih =>
  intro p;simp only[cC];have c:=ih p;have d:=ih (I s)
  split
  all_goals simp only[xc];omega
theorem WX(B bt n J:Nat)(ts:List JV)(w:World)(h:bK w B (JQ bt n J) ts)(hn:n=H ts)(aJ:n<10)(h0:0<n)(aL:∀t∈ts,H t.S<10000):
  Calls prog 24 #[N #[JQ bt n J]] w fun e w'=>∃bt' cap',e=U (N #[JQ bt' n cap'])/\bK w' (z (M w)) (JQ bt' n cap') (jR ts)/\Below (z (M w)) w w':=by
 obtain⟨i0,hi,aN,aO,aP⟩:=info_parts Tryz.infoThr;have HA:=JO h;have HN:=JO hn;have HS:=JO aL;clear h hn aL;go_enter func24,ntmps24;go_wp2;go_loopw[3,10] (fun o i wr=>∃(k:Nat) (vs:List Value),k<=n/\i=E G k/\wr.ownsRow (z (M w)) 96 3 o k (OA ((ts.take k).map (kB ts)) vs)/\JP (NU wr (z (M w)) ((ts.take k).map (kB ts)) vs)/\Below (z (M w)) w wr/\wr.heap[z (M w)]?=I (O #[JQ bt n J] 52 (0,0))/\wr.heap[z (M w)+1]?=I (O #[Y C 0 0] 52 (0,0))) fun _ i _=>n-(intOf i).toNat
 case atStart =>
  refine⟨0,[],x4 _,Z,by simpa[OA]using x5 _ _ _ _,by unfold JP;simp[NU],((xF _ _).alloc (xR _) _).alloc (by simp) _,?_,?_⟩
  ·rw[x0 _ _ _ (by simp)];exact heap_alloc_new w _
  ·have:=heap_alloc_new (w.alloc (O #[JQ bt n J] 52)) (O #[Y C 0 0] 52);simpa using this
 case round =>
  obtain⟨k,vs,hk,rfl,V,ap,K,ab,m⟩:=hrel;have e0:=aB ab 0 _ Z;have ak:z (M w)<z (M wr):=(Array.getElem?_eq_some_iff.1 ab).1;have aY:z (M w)+1<z (M wr):=(Array.getElem?_eq_some_iff.1 m).1;by_cases hlt:k<n
  ·have az:k<H ts:=by rw[<- HN.o];exact hlt
   obtain⟨ay,sa,sc,c0,c1,c2,ho⟩:=kP HA.o HN.o k az;have d0:=JS K ay c0;have d1:=JS K ay c1;have d2:=JS K ay c2;have aA:=HS.o ts[k] (xd az);have aG:=JO (L7 ts k az);have aF:JP (((ts.take k).map (kB ts)).length=k):=by unfold JP;simp;omega
   generalize ts[k]=t at*;have aH:JP (kB ts t={t with S:=cC C (mR ts t.block (eC ts t.S))}):=Z;have aE:JP (∀w2:World,Below (z (M w)) w w2->Calls prog 39 #[N #[JQ bt n J],Y sa (H t.S) sc] w2 fun e w'=>∃v,e=U v/\w'.ownsRow (z (M w2)) 104 11 v (H t.S) (MG (eC ts t.S))/\Below (z (M w2)) w2 w'):=fun w2 hb=>L2 B bt n J B (H t.S) sc sa ts t.S w2 (HA.o.keep fun k hk=>hb.block k hk) HN.o aJ h0 HS.o (aU ho fun j T=>hb.block j (ho.lt j T).2) Z aA
   have aD:JP (∀w2:World,Below (z (M w)) w w2->Calls prog 40 #[N #[JQ bt n J],E G t.block] w2 fun e w'=>e=U (.bool (gT ts t.block))/\Below (z (M w2)) w2 w'):=fun w2 hb=>K7 B bt n J t.block ts w2 (HA.o.keep fun k hk=>hb.block k hk) HN.o aJ HS.o
   have d:=JO V;have A:=JO K;have an:JP ((eC ts t.S).length=H t.S):=by unfold JP;simp[eC]
   generalize bb:eC ts t.S=f at*
   cases hid:gT ts t.block
   ·skip
    have ae:JP (kB ts t={t with S:=cC C (f)}):=by unfold JP;rw[aH.o];simp[mR,hid]
    go_wp2_with(first
     |(go_at_call 39;refine(aE.o _ (A.o.alloc (by omega) _)).mono ?_;rintro e w3 ⟨v3,rfl,aj,ah⟩;obtain⟨a3,c3,rfl⟩:=tI aj;have x:Below (z (M wr)) wr w3:=((xF (z (M wr)) wr).alloc (xR _) _).trans (ah.mono (by simp));have ar:Below (z (M w)) w w3:=A.o.trans (x.mono (by omega));have af:w3.heap[z (M wr)]?=I (O #[E G t.block,E G t.i,Y sa (H t.S) sc] 96 (0,0)):=(ah.block _ (by simp)).trans (heap_alloc_new wr _);obtain⟨p1,p2,p3,p4,p5,p6,p7⟩:=vJ af;have e3:=JS x ak e0;have ad:=JO aj;have aC:=x.size)
     |(go_at_call 40;refine(aD.o _ ar).mono ?_;rintro e w4 ⟨rfl,y⟩;rw[hid];have av:Below (z (M wr)) wr w4:=x.trans (y.mono aC);have aX:=y.size;have aq:=(y.block _ p1).trans af;have ao:JP (w4.ownsRow (z (M wr)+1) 104 11 (Y a3 (H t.S) c3) (H t.S) (MG f)):=aU (PG ad.o (by simp)) fun j T=>y.block j (ad.o.lt j T).2)
     |(go_at_call 42;refine(WT _ (H t.S) c3 a3 f _ ao.o an.o.symm aA).mono ?_;rintro e w6 ⟨v6,rfl,aa,ai⟩;obtain⟨D,F,rfl⟩:=tI aa;have aw:Below (z (M wr)) wr w6:=av.trans (ai.mono (by omega));have ag:=(ai.block _ (by omega)).trans aq;obtain⟨q1,q2,q3,q4,q5,q6,q7⟩:=vJ ag;have TS:=JO (CY ag (Y D (cC C f).length F));have WS:=JO (aw.setCell (p:=⟨z (M wr),2,C⟩) (xR _) (Y D (cC C f).length F));have VS:JP ((w6.setCell ⟨z (M wr),2,C⟩ (Y D (cC C f).length F)).ownsRow (z (M wr)+1) 104 11 (Y D (cC C f).length F) (cC C f).length (MG (cC C f))):=(aU (PG aa (by omega)) fun j T=>xW _ _ _ _ fun ej=>by have h1:=(aa.lt j T).1;have h2:j=z (M wr):=ej;omega);have aM:=WS.o.size)
     |(generalize w6.setCell ⟨z (M wr),2,C⟩ (Y D (cC C f).length F)=W at*;refine IJ (.tmp 5) Z Z (z (M wr)) t.block t.i (Y D (cC C f).length F) Z (by exact TS.o) ?_)
     |(at_builtin;refine wpList_append_lies _ Z (.tmp 27) (.tmp 29) 50 Z (z (M w)) 96 i0 (N #[E G 0,E G 0,Y C 0 0]) 3 40 underlying50 hi aN aO aP Z (by decide) _ _ _ Z ((aU d.o fun j T=>WS.o.block j (d.o.lt j T).2).alloc _) ⟨z (M W),0,C⟩ 1 1 [x6 G t.block,E G t.i,Y D (cC C f).length F] Z Z ?c1 ?c2 (by decide) ?c3 ?c4 ?c5 _ Z ?_))
    case c1=>exact x7 (t:=96) (fr:=(0,0)) (heap_alloc_new W _)
    case c2=>simp[x1]
    case c3=>unfold maxLen;omega
    case c4=>omega
    case c5=>simp;omega
    intro g1 q w1 r c aT aI;have s:Below (z (M wr)) wr (W.alloc (O #[E G t.block,E G t.i,Y D (cC C f).length F] 96)):=WS.o.alloc (by omega) _;have ac:=JO (mV A.o s d.o c);have al:=JO (nO s d.o c ab (by decide));have am:=JO (nO s d.o c m (by decide));have X:=JO (EK (t:=kB ts t) A.o d.o aF.o ap.o s (x8 _) (by rw[ae.o];exact VS.o.alloc _) c (by rw[ae.o];rw[<- x9]at r;exact r));rw[<- aG.o]at X;go_wp2;go_roundw
    case rel=>exact⟨k+1,_,by omega,by go_num,X.o.1,X.o.2,ac.o,al.o,am.o⟩
    case measure=>simp[intOf];omega
   ·skip
    have ae:JP (kB ts t={t with S:=cC C (bY 0 f)}):=by unfold JP;rw[aH.o];simp[mR,hid]
    go_wp2_with(first
     |(go_at_call 39;refine(aE.o _ (A.o.alloc (by omega) _)).mono ?_;rintro e w3 ⟨v3,rfl,aj,ah⟩;obtain⟨a3,c3,rfl⟩:=tI aj;have x:Below (z (M wr)) wr w3:=((xF (z (M wr)) wr).alloc (xR _) _).trans (ah.mono (by simp));have ar:Below (z (M w)) w w3:=A.o.trans (x.mono (by omega));have af:w3.heap[z (M wr)]?=I (O #[E G t.block,E G t.i,Y sa (H t.S) sc] 96 (0,0)):=(ah.block _ (by simp)).trans (heap_alloc_new wr _);obtain⟨p1,p2,p3,p4,p5,p6,p7⟩:=vJ af;have e3:=JS x ak e0;have ad:=JO aj;have aC:=x.size)
     |(go_at_call 40;refine(aD.o _ ar).mono ?_;rintro e w4 ⟨rfl,y⟩;rw[hid];have av:Below (z (M wr)) wr w4:=x.trans (y.mono aC);have aX:=y.size;have aq:=(y.block _ p1).trans af;have ao:JP (w4.ownsRow (z (M wr)+1) 104 11 (Y a3 (H t.S) c3) (H t.S) (MG f)):=aU (PG ad.o (by simp)) fun j T=>y.block j (ad.o.lt j T).2)
     |(go_at_call 41;refine(L6 _ (H t.S) c3 a3 f _ ao.o an.o.symm aA).mono ?_;rintro e w5 ⟨v5,rfl,aK,ax⟩;obtain⟨a5,c5,rfl⟩:=tI aK;have aS:Below (z (M wr)) wr w5:=av.trans (ax.mono (by omega));have bc:=ax.size;have aR:=(ax.block _ (by omega)).trans aq;have aQ:=JO aK)
     |(go_at_call 42;refine(WT _ (bY 0 f).length c5 a5 (bY 0 f) _ aQ.o Z (by have:=WV f 0;have:=an.o;omega)).mono ?_;rintro e w6 ⟨v6,rfl,aa,ai⟩;obtain⟨D,F,rfl⟩:=tI aa;have aw:Below (z (M wr)) wr w6:=aS.trans (ai.mono (by omega));have ag:=(ai.block _ (by omega)).trans aR;obtain⟨q1,q2,q3,q4,q5,q6,q7⟩:=vJ ag;have TS:=JO (CY ag (Y D (cC C (bY 0 f)).length F));have WS:=JO (aw.setCell (p:=⟨z (M wr),2,C⟩) (xR _) (Y D (cC C (bY 0 f)).length F));have VS:JP ((w6.setCell ⟨z (M wr),2,C⟩ (Y D (cC C (bY 0 f)).length F)).ownsRow (z (M wr)+1) 104 11 (Y D (cC C (bY 0 f)).length F) (cC C (bY 0 f)).length (MG (cC C (bY 0 f)))):=(aU (PG aa (by omega)) fun j T=>xW _ _ _ _ fun ej=>by have h1:=(aa.lt j T).1;have h2:j=z (M wr):=ej;omega);have aM:=WS.o.size)
     |(generalize w6.setCell ⟨z (M wr),2,C⟩ (Y D (cC C (bY 0 f)).length F)=W at*;refine IJ (.tmp 5) Z Z (z (M wr)) t.block t.i (Y D (cC C (bY 0 f)).length F) Z (by exact TS.o) ?_)
     |(at_builtin;refine wpList_append_lies _ Z (.tmp 27) (.tmp 29) 50 Z (z (M w)) 96 i0 (N #[E G 0,E G 0,Y C 0 0]) 3 40 underlying50 hi aN aO aP Z (by decide) _ _ _ Z ((aU d.o fun j T=>WS.o.block j (d.o.lt j T).2).alloc _) ⟨z (M W),0,C⟩ 1 1 [x6 G t.block,E G t.i,Y D (cC C (bY 0 f)).length F] Z Z ?c1 ?c2 (by decide) ?c3 ?c4 ?c5 _ Z ?_))
    case c1=>exact x7 (t:=96) (fr:=(0,0)) (heap_alloc_new W _)
    case c2=>simp[x1]
    case c3=>unfold maxLen;omega
    case c4=>omega
    case c5=>simp;omega
    intro g1 q w1 r c aT aI;have s:Below (z (M wr)) wr (W.alloc (O #[E G t.block,E G t.i,Y D (cC C (bY 0 f)).length F] 96)):=WS.o.alloc (by omega) _;have ac:=JO (mV A.o s d.o c);have al:=JO (nO s d.o c ab (by decide));have am:=JO (nO s d.o c m (by decide));have X:=JO (EK (t:=kB ts t) A.o d.o aF.o ap.o s (x8 _) (by rw[ae.o];exact VS.o.alloc _) c (by rw[ae.o];rw[<- x9]at r;exact r));rw[<- aG.o]at X;go_wp2;go_roundw
    case rel=>exact⟨k+1,_,by omega,by go_num,X.o.1,X.o.2,ac.o,al.o,am.o⟩
    case measure=>simp[intOf];omega
  ·have aV:k=n:=by omega
   subst aV;have HT:JP (ts.take k=ts):=xe (by have:=HN.o;omega);obtain⟨g1,q,rfl,aZ,ba⟩:=V.form h0;have r0:=aB m 0 _ Z;have r1:L wr ⟨z (M w)+1,0,C⟩=false:=by simp[x3,m]
   have ac:JP (bK (wr.setCell ⟨z (M w)+1,0,C⟩ (JQ g1 k q)) (z (M w)) (JQ g1 k q) (jR ts)/\Below (z (M w)) w (wr.setCell ⟨z (M w)+1,0,C⟩ (JQ g1 k q))):=by
    have au:=ap.o;rw[HT.o]at V au;refine⟨⟨vs,?_,?_⟩,K.setCell (p:=⟨z (M w)+1,0,C⟩) (by simp) _⟩
    ·have e1:(jR ts).length=k:=by unfold jR;rw[xg,<- HN.o]
     rw[e1];exact aU V fun j T=>xW _ _ _ _ fun e=>kE V m (by decide) (by rw[T,e])
    ·exact au.keep fun u hu j T=>xW _ _ _ _ fun e=>by
      obtain⟨n',bd,aW⟩:=au.mem u hu;exact kE aW m (by decide) (by rw[T,e])
   go_wp2;refine WU (z (M w)+1) (JQ g1 k q) Z Z (by rw[bC m];rfl) Z ⟨g1,q,Z,ac.o⟩
theorem L9(ts:List JV)(k:Nat)(h:k<H ts):(ts.take (k+1)).map (lR ts)=(ts.take k).map (lR ts)++[lR ts ts[k]]:=by
 rw[xa h,xb];rfl
theorem WY(B bt n s:Nat)(ts:List JV)(w:World)(h:bK w B (JQ bt n s) ts)(hn:n=H ts)(ar:n<10)(h0:0<n)(ai:∀t∈ts,H t.S<10000):
  Calls prog 25 #[N #[JQ bt n s]] w fun e w'=>∃bt' cap',e=U (N #[JQ bt' n cap'])/\bK w' (z (M w)) (JQ bt' n cap') (lZ ts)/\Below (z (M w)) w w':=by
 obtain⟨i0,hi,av,aw,ax⟩:=info_parts Tryz.infoThr;have HA:=JO h;have HN:=JO hn;have HS:=JO ai;clear h hn ai;go_enter func25,ntmps25;go_wp2;go_loopw[3,9] (fun o i wr=>∃(k:Nat) (vs:List Value),k<=n/\i=E G k/\wr.ownsRow (z (M w)) 96 3 o k (OA ((ts.take k).map (lR ts)) vs)/\JP (NU wr (z (M w)) ((ts.take k).map (lR ts)) vs)/\Below (z (M w)) w wr/\wr.heap[z (M w)]?=I (O #[JQ bt n s] 52 (0,0))/\wr.heap[z (M w)+1]?=I (O #[Y C 0 0] 52 (0,0))) fun _ i _=>n-(intOf i).toNat
 case atStart =>
  refine⟨0,[],x4 _,Z,by simpa[OA]using x5 _ _ _ _,by unfold JP;simp[NU],((xF _ _).alloc (xR _) _).alloc (by simp) _,?_,?_⟩
  ·rw[x0 _ _ _ (by simp)];exact heap_alloc_new w _
  ·have:=heap_alloc_new (w.alloc (O #[JQ bt n s] 52)) (O #[Y C 0 0] 52);simpa using this
 case round =>
  obtain⟨k,vs,hk,rfl,r,ae,q,x,c⟩:=hrel;have e0:=aB x 0 _ Z;have aA:z (M w)<z (M wr):=(Array.getElem?_eq_some_iff.1 x).1;have az:z (M w)+1<z (M wr):=(Array.getElem?_eq_some_iff.1 c).1;by_cases hlt:k<n
  ·have ac:k<H ts:=by rw[<- HN.o];exact hlt
   obtain⟨ab,sa,sc,c0,c1,c2,ho⟩:=kP HA.o HN.o k ac;have d0:=JS q ab c0;have d1:=JS q ab c1;have d2:=JS q ab c2;have aq:=HS.o ts[k] (xd ac);have an:=JO (L9 ts k ac);have am:JP (((ts.take k).map (lR ts)).length=k):=by unfold JP;simp;omega
   generalize ts[k]=t at*;have af:JP (lR ts t={t with S:=dH (lM ts) t.S}):=Z;have al:JP (∀w2:World,Below (z (M w)) w w2->Calls prog 43 #[N #[JQ bt n s],Y sa (H t.S) sc] w2 fun e w'=>∃v,e=U v/\w'.ownsRow (z (M w2)) 104 11 v (dH (lM ts) t.S).length (MG (dH (lM ts) t.S))/\Below (z (M w2)) w2 w'):=fun w2 hb=>L5 B bt n s B (H t.S) sc sa ts t.S w2 (HA.o.keep fun k hk=>hb.block k hk) HN.o ar HS.o (aU ho fun j F=>hb.block j (ho.lt j F).2) Z aq
   have d:=JO r;have X:=JO q;generalize aG:dH (lM ts) t.S=A at*;go_wp2_with(first
    |(go_at_call 43;refine(al.o _ (X.o.alloc (by omega) _)).mono ?_;rintro e w6 ⟨v3,rfl,ad,ah⟩;obtain⟨J,K,rfl⟩:=tI ad;have ao:Below (z (M wr)) wr w6:=((xF (z (M wr)) wr).alloc (xR _) _).trans (ah.mono (by simp));have ag:w6.heap[z (M wr)]?=I (O #[E G t.block,E G t.i,Y sa (H t.S) sc] 96 (0,0)):=(ah.block _ (by simp)).trans (heap_alloc_new wr _);obtain⟨q1,q2,q3,q4,q5,q6,q7⟩:=vJ ag;have TS:=JO (CY ag (Y J (H A) K));have WS:=JO (ao.setCell (p:=⟨z (M wr),2,C⟩) (xR _) (Y J (H A) K));have VS:JP ((w6.setCell ⟨z (M wr),2,C⟩ (Y J (H A) K)).ownsRow (z (M wr)+1) 104 11 (Y J (H A) K) (H A) (MG A)):=(aU (PG ad (by simp)) fun j F=>xW _ _ _ _ fun ej=>by have h1:=(ad.lt j F).1;have h2:j=z (M wr):=ej;simp at h1;omega);have aC:=WS.o.size)
    |(generalize w6.setCell ⟨z (M wr),2,C⟩ (Y J (H A) K)=W at*;refine IJ (.tmp 5) Z Z (z (M wr)) t.block t.i (Y J (H A) K) Z (by exact TS.o) ?_)
    |(at_builtin;refine wpList_append_lies _ Z (.tmp 18) (.tmp 20) 50 Z (z (M w)) 96 i0 (N #[E G 0,E G 0,Y C 0 0]) 3 40 underlying50 hi av aw ax Z (by decide) _ _ _ Z ((aU d.o fun j F=>WS.o.block j (d.o.lt j F).2).alloc _) ⟨z (M W),0,C⟩ 1 1 [x6 G t.block,E G t.i,Y J (H A) K] Z Z ?c1 ?c2 (by decide) ?c3 ?c4 ?c5 _ Z ?_))
   case c1=>exact x7 (t:=96) (fr:=(0,0)) (heap_alloc_new W _)
   case c2=>simp[x1]
   case c3=>unfold maxLen;omega
   case c4=>omega
   case c5=>simp;omega
   intro g1 f w1 y m aD ay;have D:Below (z (M wr)) wr (W.alloc (O #[E G t.block,E G t.i,Y J (H A) K] 96)):=WS.o.alloc (by omega) _;have T:=JO (mV X.o D d.o m);have aj:=JO (nO D d.o m x (by decide));have ak:=JO (nO D d.o m c (by decide));have V:=JO (EK (t:=lR ts t) X.o d.o am.o ae.o D (x8 _) (by rw[af.o];exact VS.o.alloc _) m (by rw[af.o];rw[<- x9]at y;exact y));rw[<- an.o]at V;go_wp2;go_roundw
   case rel=>exact⟨k+1,_,by omega,by go_num,V.o.1,V.o.2,T.o,aj.o,ak.o⟩
   case measure=>simp[intOf];omega
  ·have ap:k=n:=by omega
   subst ap;have HT:JP (ts.take k=ts):=xe (by have:=HN.o;omega);obtain⟨g1,f,rfl,aE,aF⟩:=r.form h0;have r0:=aB c 0 _ Z;have r1:L wr ⟨z (M w)+1,0,C⟩=false:=by simp[x3,c]
   have T:JP (bK (wr.setCell ⟨z (M w)+1,0,C⟩ (JQ g1 k f)) (z (M w)) (JQ g1 k f) (lZ ts)/\Below (z (M w)) w (wr.setCell ⟨z (M w)+1,0,C⟩ (JQ g1 k f))):=by
    have aa:=ae.o;rw[HT.o]at r aa;refine⟨⟨vs,?_,?_⟩,q.setCell (p:=⟨z (M w)+1,0,C⟩) (by simp) _⟩
    ·have e1:(lZ ts).length=k:=by unfold lZ;rw[xg,<- HN.o]
     rw[e1];exact aU r fun j F=>xW _ _ _ _ fun e=>kE r c (by decide) (by rw[F,e])
    ·exact aa.keep fun u hu j F=>xW _ _ _ _ fun e=>by
      obtain⟨n',aH,au⟩:=aa.mem u hu;exact kE au c (by decide) (by rw[F,e])
   go_wp2;refine WU (z (M w)+1) (JQ g1 k f) Z Z (by rw[bC c];rfl) Z ⟨g1,f,Z,T.o⟩
namespace P
def QV(way:Int):Bool:=way==2||way==3
def QW(way:Int):Bool:=way==1||way==3
def OV(l:List UInt8)(way:Int):List UInt8×Int×Int :=
 if way<0\/4<=way then([],5,0)else if(KM l).2.1 != 0 then([],(KM l).2.1,(KM l).2.2)else(write (QH (KM l).1 (QV way) (QW way)),0,0)
structure OkT(n:Nat)(ts:List JV):Prop where
 len:∀t∈ts,H t.S<n
 sm:∀t∈ts,0<=t.block/\t.block<100/\∀x∈t.S,NY x
theorem WZ(h:NY st)(o s:Int):NY {st with q:=o,scope:=s}:=⟨h.d0,h.d1,h.a0,h.a1,h.b0,h.b1,h.l0,h.l1⟩
theorem Ma(h:NY st)(ts:List JV):NY (iA ts st):=by
 unfold iA;split
 ·exact WZ h st.q 0
 ·exact h
theorem XA(st:JR):NY (bO st):=⟨by simp[bO],by simp[bO],by simp[bO,MR.zero],by simp[bO,MR.zero],by simp[bO,MR.zero],by simp[bO,MR.zero],by simp[bO],by simp[bO]⟩
theorem XB(l:List JR):∀c,∀x∈bY c l,x∈l:=by
 induction l with
 |nil=>intro c x h;simp[bY]at h
 |cons s r ih =>
  intro c x h;simp only[bY]at h
  split at h
  ·split at h
   ·exact x2 _ (ih _ x h)
   ·rcases List.mem_cons.1 h with h|h
    ·simp[h]
    ·exact x2 _ (ih _ x h)
  ·rcases List.mem_cons.1 h with h|h
   ·simp[h]
   ·exact x2 _ (ih _ x h)
theorem XC(l:List JR):∀p,∀x∈cC p l,x∈l:=by
 induction l with
 |nil=>intro c x h;simp[cC]at h
 |cons s r ih =>
  intro c x h;simp only[cC]at h
  split at h
  ·exact x2 _ (ih _ x h)
  ·rcases List.mem_cons.1 h with h|h
   ·simp[h]
   ·exact x2 _ (ih _ x h)
theorem OkT.mH(h:OkT n ts):OkT n (jR ts):=by
 refine⟨fun t d=>?_,fun t d=>?_⟩
 ·obtain⟨u,f,rfl⟩:=List.mem_map.1 d;have j:=h.len u f;have k:=L8 (mR ts u.block (eC ts u.S)) C;have m:(mR ts u.block (eC ts u.S)).length<=H u.S:=by
   unfold mR;have e:(eC ts u.S).length=H u.S:=by simp[eC]
   split
   ·have:=WV (eC ts u.S) 0;omega
   ·omega
  simp only[kB];omega
 ·obtain⟨u,f,rfl⟩:=List.mem_map.1 d;obtain⟨j,k,m⟩:=h.sm u f;refine⟨j,k,fun x c=>?_⟩;have c:=XC _ _ x c;have o:x∈eC ts u.S:=by
   unfold mR at c
   split at c
   ·exact XB _ _ x c
   ·exact c
  obtain⟨y,i,rfl⟩:=List.mem_map.1 o;exact Ma (m y i) ts
theorem OkT.fence(h:OkT n ts):OkT (3*n) (lZ ts):=by
 refine⟨fun t e=>?_,fun t e=>?_⟩
 ·obtain⟨u,f,rfl⟩:=List.mem_map.1 e;have i:=h.len u f;have j:=L4 (lM ts) u.S;simp only[lR];omega
 ·obtain⟨u,f,rfl⟩:=List.mem_map.1 e;obtain⟨i,j,d⟩:=h.sm u f;refine⟨i,j,?_⟩;simp only[lR];generalize lM ts=o;generalize u.S=l at d
  induction l with
  |nil=>intro x c;simp[dH]at c
  |cons s r ih =>
   intro x c;simp only[dH,xh]at c
   rcases c with c|c
   ·have k:=d s (by simp);unfold iL at c
    split at c
    ·simp only[xh]at c
     rcases c with(c|c)|c
     ·split at c
      ·simp at c;rw[c];exact XA s
      ·simp at c
     ·simp at c;rw[c];exact WZ k 1 s.scope
     ·split at c
      ·simp at c;rw[c];exact XA s
      ·simp at c
    ·simp at c;rw[c];exact k
   ·exact ih (fun y m=>d y (by simp[m])) x c
end P
theorem Mc(l:List UInt8)(h:(KM l).2.1=0):0<(KM l).1.length:=by
 unfold KM at h⊢
 split at h
 ·simp at h
 ·rename_i d;rw[if_neg d]
  split at h
  ·simp at h
  ·rename_i c;rw[if_neg c]
   split at h
   ·simp at h
   ·rename_i e;rw[if_neg e]
    split at h
    ·simp at h
    ·rename_i f;rw[if_neg f]
     split at h
     ·simp at h
     ·rename_i i;rw[if_neg i];have:=(qW l (by simpa using c)).1;exact List.length_pos_iff.2 this
theorem AR{rest:List Oper}{Q:Exit->Act->World->Prop}(x:Operand)(c:op.guard=C)(e:op.op=.load 52 x)(g:Nat)(v:Value)(f:a.eval x=.pointer (I ⟨g,0,C⟩))(d:w.heap[g]?=I (O #[v] 52 (0,0)))(h:wpList prog ops Q rest (a.put op.dst (N #[v])) w):wpList prog ops Q (op::rest) a w :=
 AX c _ x e g f _ _ d _ underlying52 Z (by kernel_rfl) h
theorem Md(h:w.heap[g]?=I (O #[v] 52 (0,0))):g<z (M w)/\w.cell? ⟨g,0,C⟩=I v/\L w ⟨g,0,C⟩=false:=by
 refine⟨(Array.getElem?_eq_some_iff.1 h).1,?_,?_⟩<;>simp[World.cell?,x3,h]
theorem yG{W d:World}{e c:Nat}(f:Below (z (M w)) w W)(q:W.heap[g]?=I (O #[v] 52 (0,0)))(k:z (M w)<=g)(j:bK d (z (M W)) (JQ e n c) ts)(o:Below (z (M W)) W d):
  bK (d.setCell ⟨g,0,C⟩ (JQ e n c)) g (JQ e n c) ts/\Below (z (M w)) w (d.setCell ⟨g,0,C⟩ (JQ e n c))/\(d.setCell ⟨g,0,C⟩ (JQ e n c)).heap[g]?=I (O #[JQ e n c] 52 (0,0))/\d.cell? ⟨g,0,C⟩=I v/\L d ⟨g,0,C⟩=false/\g<z (M d):=by
 have i:g<z (M W):=(Array.getElem?_eq_some_iff.1 q).1;have m:=(o.block g i).trans q;obtain⟨r,s,t⟩:=Md m;refine⟨(j.base (by omega)).set _,(f.trans (o.mono f.size)).setCell (p:=⟨g,0,C⟩) k _,?_,s,t,r⟩;rw[bC m];rfl
theorem Me(s:ByteArray)(c:Int)(w:World)(hs:s.size<=8192):
  Calls prog 13 #[.string s,E G c] w fun e w'=>∃t,e=U (.tuple #[.string t,E G (OV s.toList c).2.1,E G (OV s.toList c).2.2])/\iO 10000000 t (OV s.toList c).1/\Below (z (M w)) w w':=by
 by_cases h1:c<0
 ·have HE:JP (OV s.toList c=([],5,0)):=by unfold JP OV;rw[if_pos (Or.inl h1)]
  go_enter func13,ntmps13;go_wp2;go_ret3;rw[HE.o];exact⟨_,Z,⟨by rw[eK],by simp[fA]⟩,xF _ _⟩
 by_cases h2:4<=c
 ·have HE:JP (OV s.toList c=([],5,0)):=by unfold JP OV;rw[if_pos (Or.inr h2)]
  go_enter func13,ntmps13;go_wp2;go_ret3;rw[HE.o];exact⟨_,Z,⟨by rw[eK],by simp[fA]⟩,xF _ _⟩
 have h3:¬(c<0\/4<=c):=by omega
 cases hf:(KM s.toList).2.1 != 0
 rotate_left
 ·have HE:JP (OV s.toList c=([],(KM s.toList).2.1,(KM s.toList).2.2)):=by unfold JP OV;rw[if_neg h3,hf];rfl
  go_enter func13,ntmps13;go_wp2_with(first
   |(go_at_call 18;refine(QI s _ hs).mono ?_;rintro e d ⟨tv,rfl,⟨ta,tm,i,rfl⟩,h2,u⟩))
  go_ret3;rw[HE.o];exact⟨_,Z,⟨by rw[eK],by simp[fA]⟩,u.alloc u.size _⟩
 have aa:(KM s.toList).2.1=0:=by simpa using hf
 have HE:JP (OV s.toList c=(write (QH (KM s.toList).1 (QV c) (QW c)),0,0)):=by unfold JP OV;rw[if_neg h3,hf];rfl
 have aj:c=0\/c=1\/c=2\/c=3:=by omega
 have ab:JP (0<(KM s.toList).1.length):=Mc s.toList aa
 rcases aj with rfl|rfl|rfl|rfl
 ·go_enter func13,ntmps13;go_wp2_with(first
   |(go_at_call 18;refine(QI s _ hs).mono ?_;rintro e d ⟨tv,rfl,h1,h2,u⟩;obtain⟨j,i,rfl,K,k1,k2,k3⟩:=h2 aa;have HT:=JO K;have f:JP (OkT 3000 (KM s.toList).1):=⟨k2,k3⟩;have J:0<(KM s.toList).1.length:=ab.o;have D:Below (z (M w)) w (d.alloc (O #[Y (I ⟨j,0,C⟩) (KM s.toList).1.length i] 52)):=u.alloc u.size _;have B:JP (bK (d.alloc (O #[Y (I ⟨j,0,C⟩) (KM s.toList).1.length i] 52)) (z (M w)) (Y (I ⟨j,0,C⟩) (KM s.toList).1.length i) (KM s.toList).1):=HT.o.keep fun k hk=>x0 _ _ _ hk;have p:=JO D)
   |(go_at_call 26;refine(AP (z (M w)) j _ i (KM s.toList).1 _ (by exact B.o) Z (by omega) fun t m=>by have:=f.o.len t m;omega f.o.sm).mono ?_;rintro e wz ⟨t,rfl,m,F⟩))
  go_ret3;rw[HE.o];exact⟨t,Z,m,p.o.trans (F.mono p.o.size)⟩
 ·go_enter func13,ntmps13;go_wp2_with(first
   |(go_at_call 18;refine(QI s _ hs).mono ?_;rintro e d ⟨tv,rfl,h1,h2,u⟩;obtain⟨j,i,rfl,K,k1,k2,k3⟩:=h2 aa;have HT:=JO K;have f:JP (OkT 3000 (KM s.toList).1):=⟨k2,k3⟩;have J:0<(KM s.toList).1.length:=ab.o;have D:Below (z (M w)) w (d.alloc (O #[Y (I ⟨j,0,C⟩) (KM s.toList).1.length i] 52)):=u.alloc u.size _;have V:(d.alloc (O #[Y (I ⟨j,0,C⟩) (KM s.toList).1.length i] 52)).heap[z (M d)]?=I (O #[Y (I ⟨j,0,C⟩) (KM s.toList).1.length i] 52 (0,0)):=heap_alloc_new d _;have B:JP (bK (d.alloc (O #[Y (I ⟨j,0,C⟩) (KM s.toList).1.length i] 52)) (z (M w)) (Y (I ⟨j,0,C⟩) (KM s.toList).1.length i) (KM s.toList).1):=HT.o.keep fun k hk=>x0 _ _ _ hk;have T:=u.size;have q:=JO V;have p:=JO D)
   |(go_at_call 25;refine(WY (z (M w)) j _ i (KM s.toList).1 _ (by exact B.o) Z (by omega) J fun t m=>by have:=f.o.len t m;omega).mono ?_;rintro e w2 ⟨r,y,rfl,x,X⟩;obtain⟨g1,g2,g3,g4,g5,g6⟩:=yG p.o q.o T x X;have W:=JO g1;have A:=JO g2;have S:=JO g3)
   |(generalize w2.setCell ⟨z (M d),0,C⟩ (JQ r (KM s.toList).1.length y)=W2 at*;refine AR (.tmp 7) Z Z (z (M d)) _ Z (by exact S.o) ?_)
   |(go_at_call 26;refine(AP (z (M d)) r _ y (lZ (KM s.toList).1) _ (by exact W.o) (by simp[lZ]) (by omega) fun t m=>by have:=f.o.fence.len t m;omega f.o.fence.sm).mono ?_;rintro e wz ⟨t,rfl,m,F⟩))
  go_ret3;rw[HE.o];exact⟨t,Z,m,A.o.trans (F.mono A.o.size)⟩
 ·go_enter func13,ntmps13;go_wp2_with(first
   |(go_at_call 18;refine(QI s _ hs).mono ?_;rintro e d ⟨tv,rfl,h1,h2,u⟩;obtain⟨j,i,rfl,K,k1,k2,k3⟩:=h2 aa;have HT:=JO K;have f:JP (OkT 3000 (KM s.toList).1):=⟨k2,k3⟩;have J:0<(KM s.toList).1.length:=ab.o;have D:Below (z (M w)) w (d.alloc (O #[Y (I ⟨j,0,C⟩) (KM s.toList).1.length i] 52)):=u.alloc u.size _;have V:(d.alloc (O #[Y (I ⟨j,0,C⟩) (KM s.toList).1.length i] 52)).heap[z (M d)]?=I (O #[Y (I ⟨j,0,C⟩) (KM s.toList).1.length i] 52 (0,0)):=heap_alloc_new d _;have B:JP (bK (d.alloc (O #[Y (I ⟨j,0,C⟩) (KM s.toList).1.length i] 52)) (z (M w)) (Y (I ⟨j,0,C⟩) (KM s.toList).1.length i) (KM s.toList).1):=HT.o.keep fun k hk=>x0 _ _ _ hk;have T:=u.size;have q:=JO V;have p:=JO D)
   |(go_at_call 24;refine(WX (z (M w)) j _ i (KM s.toList).1 _ (by exact B.o) Z (by omega) J fun t m=>by have:=f.o.len t m;omega).mono ?_;rintro e w2 ⟨r,y,rfl,x,X⟩;obtain⟨g1,g2,g3,g4,g5,g6⟩:=yG p.o q.o T x X;have W:=JO g1;have A:=JO g2;have S:=JO g3)
   |(generalize w2.setCell ⟨z (M d),0,C⟩ (JQ r (KM s.toList).1.length y)=W2 at*;refine AR (.tmp 7) Z Z (z (M d)) _ Z (by exact S.o) ?_)
   |(go_at_call 26;refine(AP (z (M d)) r _ y (jR (KM s.toList).1) _ (by exact W.o) (by simp[jR]) (by omega) fun t m=>by have:=f.o.mH.len t m;omega f.o.mH.sm).mono ?_;rintro e wz ⟨t,rfl,m,F⟩))
  go_ret3;rw[HE.o];exact⟨t,Z,m,A.o.trans (F.mono A.o.size)⟩
 ·go_enter func13,ntmps13;go_wp2_with(first
   |(go_at_call 18;refine(QI s _ hs).mono ?_;rintro e d ⟨tv,rfl,h1,h2,u⟩;obtain⟨j,i,rfl,K,k1,k2,k3⟩:=h2 aa;have HT:=JO K;have f:JP (OkT 3000 (KM s.toList).1):=⟨k2,k3⟩;have J:0<(KM s.toList).1.length:=ab.o;have D:Below (z (M w)) w (d.alloc (O #[Y (I ⟨j,0,C⟩) (KM s.toList).1.length i] 52)):=u.alloc u.size _;have V:(d.alloc (O #[Y (I ⟨j,0,C⟩) (KM s.toList).1.length i] 52)).heap[z (M d)]?=I (O #[Y (I ⟨j,0,C⟩) (KM s.toList).1.length i] 52 (0,0)):=heap_alloc_new d _;have B:JP (bK (d.alloc (O #[Y (I ⟨j,0,C⟩) (KM s.toList).1.length i] 52)) (z (M w)) (Y (I ⟨j,0,C⟩) (KM s.toList).1.length i) (KM s.toList).1):=HT.o.keep fun k hk=>x0 _ _ _ hk;have T:=u.size;have q:=JO V;have p:=JO D)
   |(go_at_call 24;refine(WX (z (M w)) j _ i (KM s.toList).1 _ (by exact B.o) Z (by omega) J fun t m=>by have:=f.o.len t m;omega).mono ?_;rintro e w2 ⟨r,y,rfl,x,X⟩;obtain⟨g1,g2,g3,g4,g5,g6⟩:=yG p.o q.o T x X;have W:=JO g1;have A:=JO g2;have S:=JO g3)
   |(generalize w2.setCell ⟨z (M d),0,C⟩ (JQ r (KM s.toList).1.length y)=W2 at*;refine AR (.tmp 7) Z Z (z (M d)) _ Z (by exact S.o) ?_)
   |(go_at_call 25;refine(WY (z (M d)) r _ y (jR (KM s.toList).1) _ (by exact W.o) (by simp[jR]) (by omega) J fun t m=>by have:=f.o.mH.len t m;omega).mono ?_;rintro e w3 ⟨ad,af,rfl,ae,ai⟩;obtain⟨g1,g2,g3,g7,g8,g9⟩:=yG A.o S.o T ae ai;have ah:=JO g1;have ac:=JO g2;have ag:=JO g3)
   |(generalize w3.setCell ⟨z (M d),0,C⟩ (JQ ad (KM s.toList).1.length af)=W3 at*;refine AR (.tmp 7) Z Z (z (M d)) _ Z (by exact ag.o) ?_)
   |(go_at_call 26;refine(AP (z (M d)) ad _ af (lZ (jR (KM s.toList).1)) _ (by exact ah.o) (by simp[jR,lZ]) (by omega) fun t m=>by have:=f.o.mH.fence.len t m;omega f.o.mH.fence.sm).mono ?_;rintro e wz ⟨t,rfl,m,F⟩))
  go_ret3;rw[HE.o];exact⟨t,Z,m,ac.o.trans (F.mono ac.o.size)⟩
end Go.Proofs.YtlikcongbhhpfaaGreatDoor
