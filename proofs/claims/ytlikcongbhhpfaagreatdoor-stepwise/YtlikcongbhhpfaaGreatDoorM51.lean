import Derived.Test.YtlikcongbhhpfaaGreatDoorM50
set_option linter.unusedVariables false
set_option linter.unusedSimpArgs false
set_option maxHeartbeats 12800000
namespace Go.Proofs.YtlikcongbhhpfaaGreatDoor
open Go Go.RowKit Go.Proofs.Tryz P Q
set_option maxRecDepth 1000000
variable {w w1:World}{K M:Sk}{gb t:Nat}{rows:List (List ByteArray)}{ts us:List JV}{di:Int->Bool}{ps:List Nat}{regs:List (List Int)}{vars:List Int}{a:Act}{K3 K8 P2:Act->World->Prop}{R0:Ending->World->Prop}
open List renaming length->O
open Bool renaming false->Y,true->C
open Go.Exit renaming inBlock->xF
open Or renaming inr->xR,inl->xW
open List renaming length_map->x2,getElem?_map->x3,getD_eq_getElem?_getD->x4
open Nat renaming mod_eq_of_lt->x5
open Int renaming tmod_eq_emod_of_nonneg->x6
theorem Wb{f:List (List UInt8)}{b:JR}(c:mD f b):0<=b.k/\b.k<=11:=by
 rcases c with⟨_,_,_,_,_,_,_,_,_,rfl⟩|⟨_,_,_,_,_,_,_,_,_,rfl⟩|⟨_,_,_,_,_,_,_,_,_,_,_,rfl⟩|⟨_,_,_,_,_,_,_,_,_,_,_,rfl⟩|⟨_,_,_,_,_,rfl⟩|⟨_,rfl⟩|⟨_,_,_,rfl⟩|⟨_,rfl⟩|⟨_,_,_,_,_,rfl⟩|⟨_,_,_,_,_,_,_,_,d,rfl⟩
 all_goals try(dsimp only;decide)
 show 0<=(cX _).1/\(cX _).1<=11
 rcases xT d with e|e|e<;>rw[e]<;>decide
structure CX(K:Sk)(rows:List (List ByteArray))(ts us:List JV)(di:Int->Bool):Prop where
 n:K.n=O ts
 pos:0<O ts
 le:O ts<=4
 both:Both ts us di
 bl:∀k,k<O ts->(ts.getD k JZ).block=0\/(ts.getD k JZ).block=1
 br:∀k k',k<O ts->k'<O ts->(ts.getD k JZ).block=(ts.getD k' JZ).block->LF (ts.getD k JZ).S=LF (ts.getD k' JZ).S
 rw:∀k,k<O ts->RG (rows.getD k []) (ts.getD k JZ)
 ln:∀k,k<O ts->(ts.getD k JZ).S.length<=16
structure StW(w1 w:World)(K:Sk)(gb:Nat)(rows:List (List ByteArray))(ts us:List JV)(di:Int->Bool)(ps:List Nat)(regs:List (List Int))(vars:List Int)(JT:List Bool):Prop where
 mm:MK w K rows ps regs vars JT
 lk:Lk ts us di ps regs vars JT
 vs:Vs regs vars
 bl:BlAt w K.W gb (LQ ts)
 xf:XF K.W w1 w
theorem StW.X{c:World}{JT:List Bool}(h:StW w1 w K gb rows ts us di ps regs vars JT)(b:Below w.heap.size w c):StW w1 c K gb rows ts us di ps regs vars JT :=
 ⟨h.mm.xf b,h.lk,h.vs,h.bl.xf (XF.aX b),h.xf.X b⟩
theorem Wc{a b:JR}(h:StL a b)(more:List Int)(p:Nat)(c d:List Int)(e:Bool):dJ b more p c d e=dJ a more p c d e:=by rw[h.eq];rfl
theorem Gx{α β:Type}{R:α->β->Prop}:∀{x:List α} {y:List β},gH R x y->∀(i:Nat) (a:α),x[i]?=some a->∃b,y[i]?=some b/\R a b
 |[],_,_,i,a,e=>by simp at e
 |x::xs,[],h,_,_,_=>h.elim
 |x::xs,y::ys,h,0,a,e=>⟨y,Z,by simp at e;rw[<- e];exact h.1⟩
 |x::xs,y::ys,h,i+1,a,e=>by
  obtain⟨b,c,d⟩:=Gx h.2 i a (by simpa using e);exact⟨b,by simpa using c,d⟩
theorem doX{JT:List Bool}(h:StW w1 w K gb rows ts us di ps regs vars JT)(c:CX K rows ts us di)(g:t<O ts)(F:ps.getD t 0<(ts.getD t JZ).S.length)(hw:JT.getD t Y=Y):
  Calls prog 11 #[.pointer (some ⟨K.gm,0,none⟩),.int .i64 (t:Int)] w fun e j=>e=.returned (.tuple #[])/\∃ps' regs' vars' wait',StW w1 j K gb rows ts us di ps' regs' vars' wait'/\jI ts ps' wait'<jI ts ps JT:=by
 obtain⟨H,rz⟩:=c.rw t g;have o:=wX H;rw[x2]at o;have X:=c.ln t g;have u:t<K.n:=by rw[c.n];exact g
 have B:ps.getD t 0<(rows.getD t []).length:=by omega
 have f:(rows.getD t [])[ps.getD t 0]?=some (rows.getD t [])[ps.getD t 0]:=List.getElem?_eq_getElem B;have KP:∀(i:Nat) (x:ByteArray),(rows.getD t [])[i]?=some x->∃s b,(ts.getD t JZ).S[i]?=some b/\mD (KD 32 x.toList) s/\StL s b:=fun i x y=>by
  obtain⟨b,z,s,L,N⟩:=Gx H i x.toList (by rw[x3,y];rfl);exact⟨s,b,z,XW L,N⟩
 obtain⟨s,b,z,A,E⟩:=KP _ _ f;have D:(ts.getD t JZ).S.getD (ps.getD t 0) JR.zero=b:=by rw[x4,z];rfl
 have m:b.k=s.k:=by rw[E.eq]
 have d:=h.lk.go c.both h.vs g F hw D (by rw[m];exact Wb A) Z;rw[Wc E]at d;have l:∀e j,e=Ending.returned (.tuple #[])/\MK j K rows (ps.set t (dJ s (((ts.getD t JZ).S.map fun s=>s.k).drop (ps.getD t 0+1)) (ps.getD t 0) (regs.getD t []) vars (JT.getD t Y)).p) (regs.set t (dJ s (((ts.getD t JZ).S.map fun s=>s.k).drop (ps.getD t 0+1)) (ps.getD t 0) (regs.getD t []) vars (JT.getD t Y)).rg) (dJ s (((ts.getD t JZ).S.map fun s=>s.k).drop (ps.getD t 0+1)) (ps.getD t 0) (regs.getD t []) vars (JT.getD t Y)).vr (JT.set t (dJ s (((ts.getD t JZ).S.map fun s=>s.k).drop (ps.getD t 0+1)) (ps.getD t 0) (regs.getD t []) vars (JT.getD t Y)).wt)/\XF K.W w j->e=Ending.returned (.tuple #[])/\∃ps' regs' vars' wait',StW w1 j K gb rows ts us di ps' regs' vars' wait'/\jI ts ps' wait'<jI ts ps JT:=fun e j ⟨q1,q2,G⟩ =>
  ⟨q1,_,_,_,_,⟨q2,d.1,d.2.1,h.bl.xf G,h.xf.trans G fun _ _ e=>e⟩,d.2.2⟩
 have q:∀x∈rows.getD t [],x.size<=10000000:=fun x y=>Nat.le_trans (rz x y) (by omega)
 by_cases h10:s.k=10
 ·refine(U8 K rows ps regs vars JT t _ _ s ((ts.getD t JZ).S.map fun s=>s.k) w h.mm u (by rw[c.n];have:=c.le;omega) Z f q (by omega) A (h.vs.r t) h.vs.v (by rw[x2];omega) (fun i x y=>?_) h10 (Gq (c.both.wf t g) (c.both.bal t g) F (by rw[D,m];exact h10))).mono l;obtain⟨I,J,T,U,V⟩:=KP i x y;refine⟨I,U,?_⟩;rw[x4,x3,T];show I.k=J.k;rw[V.eq]
 ·exact(U6 K rows ps regs vars JT t _ _ s ((ts.getD t JZ).S.map fun s=>s.k) w h.mm u (by rw[c.n];have:=c.le;omega) Z f q (by omega) A (h.vs.r t) h.vs.v h10).mono l
def Gy:Option Value->Nat
 |some (.bool C)=>0
 |_=>1
def mW(K:Sk)(ts:List JV)(w:World):Nat:=((List.range (O ts)).map fun k=>2*((ts.getD k JZ).S.length-(intOf ((w.cell? ⟨K.ga,k,none⟩).getD undef)).toNat)+Gy (w.cell? ⟨K.gw,k,none⟩)).sum
theorem Gz{JT:List Bool}(h:MK w K rows ps regs vars JT)(d:K.n=O ts):mW K ts w=jI ts ps JT:=by
 unfold mW jI
 congr 1
 refine List.map_congr_left fun k c=>?_
 have b:k<K.n:=by rw[d];exact List.mem_range.1 c
 rw[(h.jX b).1,(h.gY b).1]
 cases JT.getD k Y<;>simp[intOf,Gy]
structure Fr where
 s:ByteArray
 wy:Int
 ov:Value
 gm:Nat
 pg:Nat
 pc:Nat
 n:Nat
 gb:Nat
 cb:Nat
structure SG(a:Act)(F:Fr)(x:Int)(more:Bool):Prop where
 sz:a.tmps.size=237
 df:a.defers=[]
 s0:gA a 0=.string F.s
 s1:gA a 1=.int .i64 F.wy
 s7:gA a 7=F.ov
 s11:gA a 11=.pointer (some ⟨F.gm,0,none⟩)
 s12:gA a 12=JQ F.pg F.n F.pc
 s13:gA a 13=JQ F.gb F.n F.cb
 s18:gA a 18=.int .i64 x
 s19:gA a 19=.bool more
theorem We{n f:Nat}(d:f<n){P:Nat->Prop}(h:∀i,i<n->P ((f+i)%n)):∀t,t<n->P t:=fun t b=>by
 by_cases c:f<=t
 ·have:=h (t-f) (by omega)
  rwa [show f+(t-f)=t by omega,x5 b]at this
 ·have:=h (n+t-f) (by omega)
  rwa [show f+(n+t-f)=t+n by omega,Nat.add_mod_right,x5 b]at this
theorem MK.IY{JT:List Bool}(h:MK w K rows ps regs vars JT)(e:t<K.n):∃a c,w.cell? ⟨K.gl,t,none⟩=some (.slice a (rows.getD t []).length c)/\K.gl<w.heap.size:=by
 have b:t<O rows:=by rw[h.nl];exact e
 obtain⟨v,d,a,c,rfl,_⟩:=h.l t b;rw[PP _ _ _ b];exact⟨a,c,d,h.gl⟩
theorem stH{JT:List Bool}{F:Fr}{x:Int}{B:Nat}(c:CX M rows ts us di)(hF:F.n=O ts/\F.gm=M.gm)(hW:StW w1 w M gb rows ts us di ps regs vars JT)(hf:SG a F x Y)(an:B<O ts)(u:gA a 20=.int .i64 (B:Int))(s:gA a 21=.int .i64 0)(h:JP (∀(a:Act) (w:World) (more:Bool) (q:List Nat) (l:List (List Int)) (m:List Int) (d:List Bool),StW w1 w M gb rows ts us di q l m d->SG a F x more->(more=C/\jI ts q d<jI ts ps JT\/more=Y/\q=ps/\d=JT/\∀t,t<O ts->JT.getD t Y=C\/ps.getD t 0=(ts.getD t JZ).S.length)->NN prog ((sU Tryz.f5).drop 5) (xF 3 (Exit.then K3 (Exit.then P2 (xF 2 (Exit.then K8 (bodyPost prog Tryz.f5 R0)))))) a w)):
  NN prog ((sU Tryz.f5).drop 4) (xF 3 (Exit.then K3 (Exit.then P2 (xF 2 (Exit.then K8 (bodyPost prog Tryz.f5 R0)))))) a w:=by
 refine LG 4 (by rw[oU];decide) fun K0 g=>?_;have ab:=JO g;clear g;rw[sU4];refine wp_block (wp_loop (fun a w=>∃(k:Nat) (more:Bool) (q:List Nat) (l:List (List Int)) (m:List Int) (d:List Bool),k<=O ts/\StW w1 w M gb rows ts us di q l m d/\SG a F x more/\gA a 20=.int .i64 (B:Int)/\gA a 21=.int .i64 (k:Int)/\(more=C/\jI ts q d<jI ts ps JT\/more=Y/\q=ps/\d=JT/\∀i,i<k->JT.getD ((B+i)%O ts) Y=C\/ps.getD ((B+i)%O ts) 0=(ts.getD ((B+i)%O ts) JZ).S.length)) (fun a _=>O ts-(intOf (gA a 21)).toNat) ⟨0,Y,ps,regs,vars,JT,Nat.zero_le _,hW,hf,u,s,xR ⟨Z,Z,Z,fun i hi=>by omega⟩⟩ fun a w hL=>?_);clear hf hW u s;obtain⟨k,more,q,l,m,d,hk,hW,hf,u,s,ag⟩:=hL;refine PR _ _ _ _ ?_;show NN prog ((sH Tryz.f5).drop 0) _ a w;have J:O ts-(intOf (gA a 21)).toNat=O ts-k:=by rw[s];simp[intOf]
 obtain⟨sz,df,s0,s1,s7,U,V,aj,ak,al⟩:=hf;rw[hF.1]at V;rw[hF.2]at U;have y:=JO hF;have z:=JO hW;have A:=JO ag;have HC:=JO c;have au:=c.le;clear hW ag c hF;refine LG 0 (by rw[pH];decide) fun K1 g=>?_;have j:=JO g;clear g;rw[OR sz df];simp only[fL,s0,s1,s7,U,V,aj,ak,al,u,s];generalize gA a=f;clear s0 s1 s7 U V aj ak al u s sz df
 conv=>arg 2;whnf
 cases more
 ·rcases A.o with⟨e,_⟩|⟨_,e1,e2,ae⟩
  ·cases e
  subst e1 e2;clear A;have G:=JO ae;clear ae;by_cases hlt:k<O ts
  ·have af:(k:Int)<(O ts:Int):=by omega
   go_wp2_with fail;refine j.o _ _ ?_;clear j;refine LG 1 (by rw[pH];decide) fun K g=>?_;have j:=JO g;clear g
   conv=>arg 2;whnf
   go_wp2_with fail;refine j.o _ _ ?_;clear j;refine LG 2 (by rw[pH];decide) fun K2 g=>?_;have r:=JO g;clear g;rw[sH2];refine wp_block (PR _ _ _ _ ?_);show NN prog ((sV Tryz.f5).drop 0) _ _ w;obtain⟨t,hq⟩:∃t,(B+k)%O ts=t:=⟨_,Z⟩;have E:t<O ts:=by rw[<- hq];exact Nat.mod_lt _ (by omega)
   have ah:((B:Int)+(k:Int))%(O ts:Int)=(t:Int):=by rw[<- Int.natCast_add,<- hq];exact(Int.natCast_emod _ _).symm
   have ap:((B:Int)+(k:Int)).tmod (O ts:Int)=(t:Int):=by rw[x6 (by omega)];exact ah
   have ai:¬O ts=0:=by omega
   have HQ:=JO hq;clear hq;refine LG 0 (by rw[qX];decide) fun K g=>?_;have j:=JO g;clear g
   conv=>arg 2;whnf
   go_wp2_with fail;refine j.o _ _ ?_;clear j;clear ah ap ai;have N:t<M.n:=by rw[HC.o.n];exact E
   obtain⟨f0,f1,_,_,f4,f5⟩:=z.o.mm.MF;obtain⟨a1,_,a3⟩:=z.o.mm.jX N;obtain⟨b1,_,b3⟩:=z.o.mm.gY N;obtain⟨ra,rc,l1,l3⟩:=z.o.mm.IY N;rw[HC.o.n]at f0 f1 f4;have av:(t:Int)<(O ts:Int):=by omega
   have D:(ts.getD t JZ).S.length=(rows.getD t []).length:=by
    have:=wX (HC.o.rw t E).1;rw[x2]at this;exact this
   have ao:=z.o.lk.le t E;have HX:=JO fun(w':World) (aq:StW w1 w' M gb rows ts us di q l m d) h1 h2=>doX (t:=t) aq HC.o E (by rw[D];exact h1) h2;rw[D]at ao;generalize hp:q.getD t 0=p at*;generalize hb:d.getD t Y=b at*;generalize hL:(rows.getD t []).length=L at*;have HP:=JO hp;have HB:=JO hb;have ac:=JO D;clear hp hb D hL;by_cases hlt2:p<L
   ·have I:(p:Int)<(L:Int):=by omega
    cases b
    ·refine LG 1 (by rw[qX];decide) fun K g=>?_;have j:=JO g;clear g
     conv=>arg 2;whnf
     go_quiet (fail);refine j.o _ _ ?_;clear j;refine LG 2 (by rw[qX];decide) fun K g=>?_;have j:=JO g;clear g
     conv=>arg 2;whnf
     go_wp2_with(first|(go_at_call 11;refine(HX.o _ (z.o.X (dO _ _ _)) hlt2 Z).mono ?_;rintro e w3 ⟨rfl,ar,T,W,aa,ad,v⟩;have am:=JO ad;have H:=JO v;clear ad v;dsimp only));refine j.o _ _ ?_;clear j;refine r.o _ _ ?_;clear r;refine LG 3 (by rw[pH];decide) fun K g=>?_;have j:=JO g;clear g
     conv=>arg 2;whnf
     go_wp2_with fail;refine j.o _ _ ?_;clear j;exact⟨⟨k+1,C,ar,T,W,aa,hlt,am.o,⟨Z,Z,Z,Z,Z,by rw[y.o.2];rfl,by rw[y.o.1];rfl,Z,Z,Z⟩,Z,by push_cast;rfl,xW ⟨Z,H.o⟩⟩,by rw[J];show O ts-((k:Int)+1).toNat<O ts-k;omega⟩
    ·refine LG 1 (by rw[qX];decide) fun K g=>?_;have j:=JO g;clear g
     conv=>arg 2;whnf
     go_quiet (fail);refine j.o _ _ ?_;clear j;refine LG 2 (by rw[qX];decide) fun K g=>?_;have j:=JO g;clear g
     conv=>arg 2;whnf
     go_wp2_with fail;refine j.o _ _ ?_;clear j;refine r.o _ _ ?_;clear r;refine LG 3 (by rw[pH];decide) fun K g=>?_;have j:=JO g;clear g
     conv=>arg 2;whnf
     go_wp2_with fail;refine j.o _ _ ?_;clear j;refine⟨⟨k+1,Y,q,l,m,d,hlt,z.o.X (dO _ _ _),⟨Z,Z,Z,Z,Z,by rw[y.o.2];rfl,by rw[y.o.1];rfl,Z,Z,Z⟩,Z,by push_cast;rfl,xR ⟨Z,Z,Z,fun i hi=>?_⟩⟩,by rw[J];show O ts-((k:Int)+1).toNat<O ts-k;omega⟩;by_cases c:i=k
     ·rw[c,HQ.o,HP.o,HB.o,ac.o];exact xW Z
     ·exact G.o i (by omega)
   ·have I:¬(p:Int)<(L:Int):=by omega
    refine LG 1 (by rw[qX];decide) fun K g=>?_;have j:=JO g;clear g
    conv=>arg 2;whnf
    go_quiet (fail);refine j.o _ _ ?_;clear j;refine LG 2 (by rw[qX];decide) fun K g=>?_;have j:=JO g;clear g
    conv=>arg 2;whnf
    go_wp2_with fail;refine j.o _ _ ?_;clear j;refine r.o _ _ ?_;clear r;refine LG 3 (by rw[pH];decide) fun K g=>?_;have j:=JO g;clear g
    conv=>arg 2;whnf
    go_wp2_with fail;refine j.o _ _ ?_;clear j;refine⟨⟨k+1,Y,q,l,m,d,hlt,z.o.X (dO _ _ _),⟨Z,Z,Z,Z,Z,by rw[y.o.2];rfl,by rw[y.o.1];rfl,Z,Z,Z⟩,Z,by push_cast;rfl,xR ⟨Z,Z,Z,fun i hi=>?_⟩⟩,by rw[J];show O ts-((k:Int)+1).toNat<O ts-k;omega⟩;by_cases c:i=k
    ·rw[c,HQ.o,HP.o,HB.o,ac.o];exact xR (by omega)
    ·exact G.o i (by omega)
  ·have af:¬(k:Int)<(O ts:Int):=by omega
   go_wp2_with fail;refine j.o _ _ ?_;clear j;refine LG 1 (by rw[pH];decide) fun K g=>?_;clear g
   conv=>arg 2;whnf
   go_wp2_with fail;refine ab.o _ _ ?_;exact h.o _ _ Y q l m d z.o ⟨Z,Z,Z,Z,Z,by rw[y.o.2];rfl,by rw[y.o.1];rfl,Z,Z,Z⟩ (xR ⟨Z,Z,Z,We an fun i hi=>G.o i (by omega)⟩)
 ·rcases A.o with⟨_,v⟩|⟨e,_⟩
  rotate_left
  ·cases e
  have H:=JO v;clear v A;by_cases hlt:(k:Int)<(O ts:Int)
  all_goals
   go_wp2_with fail;refine j.o _ _ ?_;clear j;refine LG 1 (by rw[pH];decide) fun K g=>?_;clear g
   conv=>arg 2;whnf
   go_wp2_with fail;refine ab.o _ _ ?_;exact h.o _ _ C q l m d z.o ⟨Z,Z,Z,Z,Z,by rw[y.o.2];rfl,by rw[y.o.1];rfl,Z,Z,Z⟩ (xW ⟨Z,H.o⟩)
def nA(JT:List Bool)(k:Nat):Bool:=(List.range k).any fun i=>JT.getD i Y
theorem Wf(JT:List Bool)(k:Nat):nA JT (k+1)=(nA JT k||JT.getD k Y):=by
 unfold nA;rw[List.range_succ,List.any_append];simp
theorem stJ{JT:List Bool}{F:Fr}{x:Int}{N:Act->World->Prop}(c:CX M rows ts us di)(G:F.n=O ts/\F.gm=M.gm)(y:StW w1 w M gb rows ts us di ps regs vars JT)(H:SG a F x Y)(j:gA a 23=.bool Y)(i:gA a 24=.int .i64 0)(h:JP (∀(a:Act) (w:World),StW w1 w M gb rows ts us di ps regs vars JT->SG a F x Y->gA a 23=.bool (nA JT (O ts))->NN prog ((sI Tryz.f5).drop 3) (Exit.then N (xF 3 (Exit.then K3 (Exit.then P2 (xF 2 (Exit.then K8 (bodyPost prog Tryz.f5 R0))))))) a w)):
  NN prog ((sI Tryz.f5).drop 2) (Exit.then N (xF 3 (Exit.then K3 (Exit.then P2 (xF 2 (Exit.then K8 (bodyPost prog Tryz.f5 R0))))))) a w:=by
 refine LG 2 (by rw[rB];decide) fun K0 d=>?_;have J:=JO d;clear d;rw[sI2];refine wp_block (wp_loop (fun a w=>∃k:Nat,k<=O ts/\StW w1 w M gb rows ts us di ps regs vars JT/\SG a F x Y/\gA a 23=.bool (nA JT k)/\gA a 24=.int .i64 (k:Int)) (fun a _=>O ts-(intOf (gA a 24)).toNat) ⟨0,Nat.zero_le _,y,H,j,i⟩ fun a w hL=>?_);clear H y j i;obtain⟨k,hk,y,H,j,i⟩:=hL;refine PR _ _ _ _ ?_;show NN prog ((sJ Tryz.f5).drop 0) _ a w;have A:O ts-(intOf (gA a 24)).toNat=O ts-k:=by rw[i];simp[intOf]
 obtain⟨V,S,s0,T,U,m,p,B,D,E⟩:=H;rw[G.1]at p;rw[G.2]at m;have r:=JO G;have u:=JO y;have aa:=c.le;have L:=JO c.n;have s:=JO (Wf JT k);have I:JP (k=O ts->nA JT k=nA JT (O ts)):=fun e=>by rw[e]
 clear y c G;generalize nA JT k=b at*;refine LG 0 (by rw[sP];decide) fun K1 d=>?_;have g:=JO d;clear d;rw[OR V S];simp only[fL,s0,T,U,m,p,B,D,E,j,i];generalize gA a=f;clear s0 T U m p B D E j i V S
 conv=>arg 2;whnf
 by_cases hlt:k<O ts
 ·have z:(k:Int)<(O ts:Int):=by omega
  go_wp2_with fail;refine g.o _ _ ?_;clear g;refine LG 1 (by rw[sP];decide) fun K d=>?_;have g:=JO d;clear d
  conv=>arg 2;whnf
  go_wp2_with fail;refine g.o _ _ ?_;clear g;refine LG 2 (by rw[sP];decide) fun K2 d=>?_;have l:=JO d;clear d;obtain⟨_,_,_,_,X,v⟩:=u.o.mm.MF;obtain⟨b1,_,b3⟩:=u.o.mm.gY (by rw[L.o];exact hlt);rw[L.o]at X;generalize JT.getD k Y=q at*
  conv=>arg 2;whnf
  cases b
  ·go_wp2_with fail;refine l.o _ _ ?_;clear l;refine LG 3 (by rw[sP];decide) fun K d=>?_;have g:=JO d;clear d
   conv=>arg 2;whnf
   go_wp2_with fail;refine g.o _ _ ?_;clear g;exact⟨⟨k+1,hlt,u.o,⟨Z,Z,Z,Z,Z,by rw[r.o.2];rfl,by rw[r.o.1];rfl,Z,Z,Z⟩,by rw[s.o];rfl,by push_cast;rfl⟩,by rw[A];show O ts-((k:Int)+1).toNat<O ts-k;omega⟩
  ·go_wp2_with fail;refine l.o _ _ ?_;clear l;refine LG 3 (by rw[sP];decide) fun K d=>?_;have g:=JO d;clear d
   conv=>arg 2;whnf
   go_wp2_with fail;refine g.o _ _ ?_;clear g;exact⟨⟨k+1,hlt,u.o,⟨Z,Z,Z,Z,Z,by rw[r.o.2];rfl,by rw[r.o.1];rfl,Z,Z,Z⟩,by rw[s.o];rfl,by push_cast;rfl⟩,by rw[A];show O ts-((k:Int)+1).toNat<O ts-k;omega⟩
 ·have z:¬(k:Int)<(O ts:Int):=by omega
  have W:=JO (I.o (by omega));go_wp2_with fail;refine g.o _ _ ?_;clear g;refine LG 1 (by rw[sP];decide) fun K d=>?_;clear d
  conv=>arg 2;whnf
  go_wp2_with fail;refine J.o _ _ ?_;exact h.o _ _ u.o ⟨Z,Z,Z,Z,Z,by rw[r.o.2];rfl,by rw[r.o.1];rfl,Z,Z,Z⟩ (by rw[<- W.o];rfl)
def FF:Value->Nat
 |.bool C=>1
 |_=>0
theorem sU6:(sU f5).getD 6 .skip=.cond (.tmp 167) (SN ((sU f5).getD 6 .skip)) .skip:=by kernel_rfl
theorem stU{JT:List Bool}{F:Fr}{x:Int}(c:CX M rows ts us di)(hF:F.n=O ts/\F.gm=M.gm/\F.gb=gb)(hW:StW w1 w M gb rows ts us di ps regs vars JT)(hf:SG a F x C)(hx:0<=x/\x<2147483648)(h:JP (∀(a:Act) (w:World) (x':Int) (more:Bool) (A:List Nat) (s:List (List Int)) (u:List Int) (j:List Bool),StW w1 w M gb rows ts us di A s u j->SG a F x' more->0<=x'/\x'<2147483648->(more=C/\jI ts A j<jI ts ps JT\/more=Y/\A=ps/\j=JT/\∀t,t<O ts->ps.getD t 0=(ts.getD t JZ).S.length)->K3 a w)):
  NN prog ((sU f5).drop 0) (xF 3 (Exit.then K3 (Exit.then P2 (xF 2 (Exit.then K8 (bodyPost prog f5 R0)))))) a w:=by
 obtain⟨G,B,s0,D,E,d,g,i,p,q⟩:=hf;rw[hF.1]at g i;rw[hF.2.1]at d;have r:=JO hF;have HW:=JO hW;have I:=JO c;have aq:=c.le;have ap:=c.pos;obtain⟨x0,x1⟩:=hx;clear hW c hF;obtain⟨y,hy⟩:∃y,(x*1103515245+12345).tmod 2147483648=y:=⟨_,Z⟩;have ao:(x*1103515245+12345)%2147483648=y:=by rw[<- hy];exact(x6 (by omega)).symm
 have y0:0<=y/\y<2147483648:=by omega
 rw[OR G B];simp only[fL,s0,D,E,d,g,i,p,q];generalize gA a=f;clear s0 D E d g i p q G B;refine LG 0 (by rw[oU];decide) fun K m=>?_;have l:=JO m;clear m
 conv=>arg 2;whnf
 go_wp2_with fail;refine l.o _ _ ?_;clear l;refine LG 1 (by rw[oU];decide) fun K m=>?_;have l:=JO m;clear m
 conv=>arg 2;whnf
 go_wp2_with fail;refine l.o _ _ ?_;clear l;clear hy ao x0 x1;obtain⟨y0,y1⟩:=y0;refine LG 2 (by rw[oU];decide) fun K m=>?_;have l:=JO m;clear m
 conv=>arg 2;whnf
 go_wp2_with fail;refine l.o _ _ ?_;clear l;obtain⟨fr,ae⟩:∃fr:Nat,y/256%(O ts:Int)=(fr:Int):=⟨(y/256%(O ts:Int)).toNat,by have:=Int.emod_nonneg (y/256) (b:=(O ts:Int)) (by omega);omega⟩;have an:fr<O ts:=by have:=Int.emod_lt_of_pos (y/256) (b:=(O ts:Int)) (by omega);omega
 rw[ae];clear ae;refine LG 3 (by rw[oU];decide) fun K m=>?_;have l:=JO m;clear m
 conv=>arg 2;whnf
 go_wp2_with fail;refine l.o _ _ ?_;clear l;refine stH I.o ⟨r.o.1,r.o.2.1⟩ HW.o ⟨Z,Z,Z,Z,Z,by rw[r.o.2.1];rfl,by rw[r.o.1];rfl,by rw[r.o.1];rfl,Z,Z⟩ an Z Z (JO fun a w more A s u j L N ai=>?_);have V:=JO L;clear L HW;cases more
 ·rcases ai with⟨e,_⟩|⟨_,e1,e2,af⟩
  ·cases e
  subst e1 e2;have J:=JO af;clear af;obtain⟨G,B,s0,D,E,d,g,i,p,q⟩:=N;rw[r.o.1]at g i;rw[r.o.2.1]at d;rw[OR G B];simp only[fL,s0,D,E,d,g,i,p,q];generalize gA a=f;clear s0 D E d g i p q G B;refine LG 5 (by rw[oU];decide) fun K m=>?_;have l:=JO m;clear m
  conv=>arg 2;whnf
  go_wp2_with fail;refine l.o _ _ ?_;clear l;refine LG 6 (by rw[oU];decide) fun K6 T=>?_;have ab:JP (∀a w,K3 a w->K6 a w):=fun a w h=>T a w h
  clear T;rw[sU6];refine wp_cond_true Z (PR _ _ _ _ ?_);show NN prog ((sI f5).drop 0) _ _ w;refine LG 0 (by rw[rB];decide) fun K m=>?_;have l:=JO m;clear m
  conv=>arg 2;whnf
  go_wp2_with fail;refine l.o _ _ ?_;clear l;refine LG 1 (by rw[rB];decide) fun K m=>?_;have l:=JO m;clear m
  conv=>arg 2;whnf
  go_wp2_with fail;refine l.o _ _ ?_;clear l;refine stJ I.o ⟨r.o.1,r.o.2.1⟩ V.o ⟨Z,Z,Z,Z,Z,by rw[r.o.2.1];rfl,by rw[r.o.1];rfl,by rw[r.o.1];rfl,Z,Z⟩ Z Z (JO fun a w L N H=>?_);have v:=JO L;clear L V
  cases han:nA j (O ts)
  ·rw[han]at H;have ak:JP (∀t,t<O ts->A.getD t 0=(ts.getD t JZ).S.length):=fun t ht=>by
    rcases J.o t ht with e|e
    ·unfold nA at han;rw[List.any_eq_false]at han;exact absurd e (han t (List.mem_range.2 ht))
    ·exact e
   clear han J;obtain⟨G,B,s0,D,E,d,g,i,p,q⟩:=N;rw[r.o.1]at g i;rw[r.o.2.1]at d;rw[OR G B];simp only[fL,s0,D,E,d,g,i,p,q,H];generalize gA a=f;clear s0 D E d g i p q G B H;refine LG 3 (by rw[rB];decide) fun K m=>?_;have l:=JO m;clear m
   conv=>arg 2;whnf
   go_wp2_with fail;refine l.o _ _ ?_;clear l;refine LG 4 (by rw[rB];decide) fun K m=>?_;have l:=JO m;clear m
   conv=>arg 2;whnf
   go_wp2_with fail;refine l.o _ _ ?_;clear l;refine ab.o _ _ ?_;exact h.o _ _ y Y A s u j v.o ⟨Z,Z,Z,Z,Z,by rw[r.o.2.1];rfl,by rw[r.o.1];rfl,by rw[r.o.1];rfl,Z,Z⟩ ⟨y0,y1⟩ (xR ⟨Z,Z,Z,ak.o⟩)
  ·rw[han]at H;obtain⟨k0,W,X⟩:∃k0,k0<O ts/\j.getD k0 Y=C:=by
    unfold nA at han;rw[List.any_eq_true]at han;obtain⟨k0,h1,h2⟩:=han;exact⟨k0,List.mem_range.1 h1,h2⟩
   have al:=JO (v.o.lk.free I.o.both I.o.bl I.o.br J.o W X);have U:=JO (Vu v.o.lk I.o.both I.o.bl I.o.br J.o W X);have ac:JP (∀z∈A,z<100000):=fun z hz=>by
    obtain⟨k,hk,e⟩:=List.mem_iff_getElem.1 hz;have h1:k<O ts:=by rw[<- v.o.lk.np];exact hk
    have h2:=v.o.lk.le k h1;have h3:=I.o.ln k h1;rw[PP _ _ _ hk,e]at h2;omega
   have aa:=JO (Vo M rows A s u j gb F.cb (LQ ts) w v.o.mm v.o.bl (by rw[I.o.n];simp[LQ]) (by rw[I.o.n];omega) ac.o);rw[I.o.n,<- r.o.2.2]at aa;clear han J X W ac;obtain⟨G,B,s0,D,E,d,g,i,p,q⟩:=N;rw[r.o.1]at g i;rw[r.o.2.1]at d;rw[OR G B];simp only[fL,s0,D,E,d,g,i,p,q,H];generalize gA a=f;clear s0 D E d g i p q G B H;refine LG 3 (by rw[rB];decide) fun K m=>?_;have l:=JO m;clear m
   conv=>arg 2;whnf
   go_wp2_with fail;refine l.o _ _ ?_;clear l;refine LG 4 (by rw[rB];decide) fun K m=>?_;have l:=JO m;clear m
   conv=>arg 2;whnf
   go_wp2_with(first|(go_at_call 12;refine aa.o.mono ?_;rintro e w3 ⟨rfl,ag,aj⟩;have am:=JO ag;have ad:=JO aj;clear ag aj;dsimp only));refine l.o _ _ ?_;clear l;refine ab.o _ _ ?_;exact h.o _ _ y C _ s u _ ⟨am.o,al.o.1,v.o.vs,v.o.bl.xf ad.o,v.o.xf.trans ad.o fun _ _ e=>e⟩ ⟨Z,Z,Z,Z,Z,by rw[r.o.2.1];rfl,by rw[r.o.1];rfl,by rw[r.o.1];rfl,Z,Z⟩ ⟨y0,y1⟩ (xW ⟨Z,U.o⟩)
 ·rcases ai with⟨_,ah⟩|⟨e,_⟩
  rotate_left
  ·cases e
  have U:=JO ah;clear ah;obtain⟨G,B,s0,D,E,d,g,i,p,q⟩:=N;rw[r.o.1]at g i;rw[r.o.2.1]at d;rw[OR G B];simp only[fL,s0,D,E,d,g,i,p,q];generalize gA a=f;clear s0 D E d g i p q G B;refine LG 5 (by rw[oU];decide) fun K m=>?_;have l:=JO m;clear m
  conv=>arg 2;whnf
  go_wp2_with fail;refine l.o _ _ ?_;clear l;refine LG 6 (by rw[oU];decide) fun K6 T=>?_;rw[sU6];refine wp_cond_false Z (wp_skip (T _ _ ?_));exact h.o _ _ y C A s u j V.o ⟨Z,Z,Z,Z,Z,by rw[r.o.2.1];rfl,by rw[r.o.1];rfl,by rw[r.o.1];rfl,Z,Z⟩ ⟨y0,y1⟩ (xW ⟨Z,U.o⟩)
theorem stG{JT:List Bool}{F:Fr}{x:Int}(c:CX M rows ts us di)(N:F.n=O ts/\F.gm=M.gm/\F.gb=gb)(z:StW w1 w M gb rows ts us di ps regs vars JT)(D:SG a F x C)(T:0<=x/\x<2147483648)(h:JP (∀(a:Act) (w:World) (s:Int) (i:List Nat) (d:List (List Int)) (g:List Int) (b:List Bool),StW w1 w M gb rows ts us di i d g b->SG a F s Y->(∀t,t<O ts->i.getD t 0=(ts.getD t JZ).S.length)->NN prog ((sF f5).drop 12) (bodyPost prog f5 R0) a w)):
  NN prog ((sF f5).drop 11) (bodyPost prog f5 R0) a w:=by
 refine LG 11 (by rw[OK];decide) fun K0 j=>?_;have V:=JO j;clear j;rw[Hg];refine wp_block (wp_loop (fun a w=>∃(s:Int) (more:Bool) (i:List Nat) (d:List (List Int)) (g:List Int) (b:List Bool),(0<=s/\s<2147483648)/\StW w1 w M gb rows ts us di i d g b/\SG a F s more/\(more=Y->∀t,t<O ts->i.getD t 0=(ts.getD t JZ).S.length)) (fun a w=>mW M ts w+FF (gA a 19)) ⟨x,C,ps,regs,vars,JT,T,z,D,fun e=>by cases e⟩ fun a w hL=>?_);clear D z T;obtain⟨s,more,i,d,g,b,T,z,D,B⟩:=hL;refine PR _ _ _ _ ?_;show NN prog ((sG f5).drop 0) _ a w;have G:mW M ts w+FF (gA a 19)=jI ts i b+FF (.bool more):=by rw[D.s19,Gz z.mm c.n]
 have k:=JO N;have HW:=JO z;have HC:=JO c;have W:=JO G;have U:=JO B;obtain⟨sz,df,s0,s1,s7,I,J,L,ac,p⟩:=D;rw[N.1]at J L;rw[N.2.1]at I;clear z c N G B;refine LG 0 (by rw[yN];decide) fun K1 j=>?_;have u:=JO j;clear j;rw[OR sz df];simp only[fL,s0,s1,s7,I,J,L,ac,p];generalize gA a=f
 conv=>arg 2;whnf
 cases more
 ·go_wp2_with fail;refine u.o _ _ ?_;refine LG 1 (by rw[yN];decide) fun K j=>?_
  conv=>arg 2;whnf
  go_wp2_with fail;refine V.o _ _ ?_;exact h.o _ _ s i d g b HW.o ⟨Z,Z,Z,Z,Z,by rw[k.o.2.1];rfl,by rw[k.o.1];rfl,by rw[k.o.1];rfl,Z,Z⟩ (U.o (by trivial))
 ·go_wp2_with fail;refine u.o _ _ ?_;clear u;refine LG 1 (by rw[yN];decide) fun K j=>?_;have u:=JO j;clear j
  conv=>arg 2;whnf
  go_wp2_with fail;refine u.o _ _ ?_;clear u;refine LG 2 (by rw[yN];decide) fun K2 aa=>?_;rw[sG2];refine wp_block (PR _ _ _ _ ?_);show NN prog ((sU f5).drop 0) _ _ w;refine stU HC.o k.o HW.o ⟨Z,Z,Z,Z,Z,by rw[k.o.2.1];rfl,by rw[k.o.1];rfl,by rw[k.o.1];rfl,Z,Z⟩ T (JO fun a w y l ab m q r A E hy H=>aa _ _ ?_);refine⟨⟨y,l,ab,m,q,r,hy,A,E,?_⟩,?_⟩
  ·intro e
   rcases H with⟨v,_⟩|⟨_,X,_,e3⟩
   ·rw[e]at v;cases v
   ·rw[X];exact e3
  ·rw[E.s19,Gz A.mm HC.o.n,W.o]
   rcases H with⟨v,e3⟩|⟨v,X,e4,_⟩
   ·rw[v];show _+1<_+1;omega
   ·rw[v,X,e4];show _+0<_+1;omega
end Go.Proofs.YtlikcongbhhpfaaGreatDoor
