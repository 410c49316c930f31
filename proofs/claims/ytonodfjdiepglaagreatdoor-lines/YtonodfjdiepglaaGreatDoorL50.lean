import Derived.Test.YtonodfjdiepglaaGreatDoorL49
set_option linter.unusedVariables false
set_option linter.unusedSimpArgs false
set_option maxHeartbeats 12800000
namespace Go.Proofs.YtonodfjdiepglaaGreatDoor
open Go Go.RowKit Go.Proofs.Tryz P Q R
set_option maxRecDepth 1000000
variable {α:Type} {i j k now v:Nat} {m:ED} {st:Stm} {p:ED × Nat} {t:Thr}
open List renaming length_append→xF,getD_eq_getElem?_getD→xW,length_map→x1,foldl_append→x2,length_cons→x3,append_assoc→x4
open Bool renaming false_eq_true→xR,or_eq_true→x5
open Nat renaming lt_of_lt_of_le→x6,add_sub_cancel_left→x7
namespace Q
section
variable {k:Int} {m:ED} {s t:P.Stm}
end
def kBz (o:Nat):List (List Ev)->List Ev
 | []=>[]
 | p::ps=>p.map (zNI o)++kBz (o+p.length) ps
def kAL:List (List Ev)->Nat->Nat
 | _,0=>0
 | [],_+1=>0
 | p::ps,i+1=>p.length+kAL ps i
def lP:List (List Ev)->Nat->Nat × Nat
 | [],_=>(0,0)
 | p::ps,m=>if m<p.length then (0,m) else ((lP ps (m-p.length)).1+1,(lP ps (m-p.length)).2)
theorem kGz (o:Nat):∀ a:List (List Ev),(kBz o a).length=kAL a a.length:=by
 intro a
 induction a generalizing o with
 | nil=>rfl
 | cons p a ih=>rw[kBz,xF,x1,ih,x3,kAL]
theorem kIZ:∀ (a:List (List Ev)) (o i l:Nat),l<(a.getD i []).length->ev (kBz o a) (kAL a i+l)=zNI (o+kAL a i) (ev (a.getD i []) l)
 | [],o,i,l,h=>by simp at h
 | p::a,o,0,l,h=>by
  have b:l<p.length:=by simpa using h
  rw[kBz,kAL,Nat.zero_add,Nat.add_zero,kAF,if_pos (by simpa using b),kDg,if_pos b];rfl
 | p::a,o,i+1,l,h=>by
  have b:l<(a.getD i []).length:=by simpa using h
  have ih:=kIZ a (o+p.length) i l b;rw[kBz,kAL,kAF,if_neg (by simp;omega),x1,show p.length+kAL a i+l-p.length=kAL a i+l by omega,ih];have e:(p::a).getD (i+1) []=a.getD i []:=by simp
  rw[e,show o+p.length+kAL a i=o+(p.length+kAL a i) by omega]
theorem CV:∀ (a:List (List Ev)) (i:Nat),i<a.length->kAL a (i+1)=kAL a i+(a.getD i []).length
 | [],i,h=>by simp at h
 | p::a,0,_=>by simp[kAL]
 | p::a,i+1,h=>by
  have ih:=CV a i (by simpa using h);rw[kAL,kAL,ih];have e:(p::a).getD (i+1) []=a.getD i []:=by simp
  rw[e];omega
theorem xV (a:List (List Ev)):∀ (i k:Nat),i<k->k<=a.length->kAL a i+(a.getD i []).length<=kAL a k:=by
 intro i k h b
 induction k with
 | zero=>omega
 | succ k ih =>
  by_cases c:i=k
  ·rw[c,CV a k (by omega)];omega
  ·have:=ih (by omega) (by omega);rw[CV a k (by omega)];omega
theorem FK:∀ (a:List (List Ev)) (m:Nat),m<kAL a a.length->(lP a m).1<a.length/\(lP a m).2<(a.getD (lP a m).1 []).length/\m=kAL a (lP a m).1+(lP a m).2
 | [],m,h=>by simp[kAL] at h
 | p::a,m,h=>by
  rw[x3,kAL] at h;rw[lP];by_cases c:m<p.length
  ·rw[if_pos c];exact⟨by simp,by simpa using c,by simp[kAL]⟩
  ·rw[if_neg c];obtain⟨d,b,e⟩:=FK a (m-p.length) (by omega);refine⟨by simp;omega,by simpa using b,?_⟩;rw[kAL];omega
theorem kLA (d:List (List Ev)) (i l:Nat) (n:i<d.length) (r:l<(d.getD i []).length):lP d (kAL d i+l)=(i,l):=by
 have o:kAL d i+l<kAL d d.length:=by
  have:=xV d i d.length n (Nat.le_refl _);omega
 obtain⟨e,f,g⟩:=FK d _ o;generalize lP d (kAL d i+l)=q at e f g;obtain⟨a,b⟩:=q;simp only at e f g;by_cases c:a=i
 ·subst c;have:b=l:=by omega
  rw[this]
 ·exfalso;by_cases c2:a<i
  ·have:=xV d a i c2 (by omega);omega
  ·have:=xV d i a (by omega) (by omega);omega
theorem kFY:∀ (a:List Run) (W:Wd),(a.foldl Wd.join W).Ea=W.Ea++kBz W.Ea.length (a.map Run.Ea)/\(a.foldl Wd.join W).regs=W.regs++(a.map Run.regs).flatten
 | [],W=>⟨by simp[kBz],by simp⟩
 | r::a,W=>by
  obtain⟨b,c⟩:=kFY a (W.join r);rw[List.foldl_cons];refine⟨?_,?_⟩
  ·rw[b,List.map_cons,kBz];show (W.Ea++r.Ea.map (zNI W.Ea.length))++kBz (W.Ea++r.Ea.map (zNI W.Ea.length)).length _=_;rw[x4,xF,x1]
  ·rw[c,List.map_cons,List.flatten_cons];show (W.regs++r.regs)++_=_;rw[x4]
theorem rJ:zNn.length=3:=rfl
theorem kLa (a:List (List Ev)) (i l:Nat) (h:l<(a.getD i []).length):ev (zNn++kBz 3 a) (3+kAL a i+l)=zNI (3+kAL a i) (ev (a.getD i []) l):=by
 rw[kAF,if_neg (by rw[rJ];omega),rJ,show 3+kAL a i+l-3=kAL a i+l by omega,kIZ a 3 i l h]
theorem kBg (a:List (List Ev)) (i:Nat) (h:i<3):ev (zNn++kBz 3 a) i=zMN (i:Int):=by
 rw[kAF,if_pos (by rw[rJ];exact h)];exact kFG.fst i h
section
variable {n:Nat} {sg:Nat->Nat} {ps ps':List (List Ev)}
end
theorem kMm (l:List α) (k:Nat) (d:α) (h:k<l.length):l.getD k d=l[k]:=by rw[xW,List.getElem?_eq_getElem h];rfl
theorem kIo (l:List α) (k:Nat) (d:α) (h:k<l.length):l.getD k d∈l:=by rw[kMm l k d h];exact List.getElem_mem h
def kMr:Run:=⟨[],[]⟩
def kAD:Thr:=⟨0,0,[]⟩
theorem kDU:∀ (a:List Thr) (i k:Nat),k<a.length->(kAi i a).getD k []=zOD (a.getD k kAD) (i+k)
 | [],_,k,h=>by simp at h
 | t::a,i,0,_=>by simp[kAi]
 | t::a,i,k+1,h=>by
  have:=kDU a (i+1) k (by simpa using h);rw[show i+1+k=i+(k+1) by omega] at this;simpa [kAi] using this
theorem DI:∀ (a:List Thr) (i:Nat),(kAi i a).length=a.length
 | [],_=>rfl
 | t::a,i=>by simp[kAi,DI a (i+1)]
def ED.un (m:ED) (u:Nat):ED:={ m with unread:=u }
section
variable {m:ED} {st:P.Stm}
theorem kJg (d x:Int) (s u:Nat):(m.un u).bK d x s=(m.bK d x s).un u:=by
 unfold ED.bK;split<;>rfl
theorem kLE (c:v<4) (u:Nat):(m.un (v+4*u)).aU st=((m.un v).aU st).un u:=by
 have a:(v+4*u) % 4=v % 4:=by omega
 have b:(v+4*u) / 4=u:=by omega
 unfold ED.aU ED.un;simp only[a,b];rfl
theorem kMf (c:reads st.kind=true) (g:v<4) (u:Nat):(m.un (v+4*u)).bG st=((m.un v).bG st).un u:=by
 have f:=kLE (m:=m) (st:=st) g u;unfold reads at c;simp only[x5,beq_iff_eq] at c;have b:∀ (q:ED) (d:Int) (r:Nat),(q.un u).aY d r=(q.aY d r).un u:=fun q d r=>kJg d _ _ u
 rcases c with (e | e) | e
 ·unfold ED.bG;rw[e];show ((m.un (v+4*u)).aU st).aY st.dest m.Ea.length=(((m.un v).aU st).aY st.dest m.Ea.length).un u;rw[f,b]
 ·unfold ED.bG;rw[e];show (m.un (v+4*u)).step st=((m.un v).step st).un u;unfold ED.step;rw[f,e];exact b (((m.un v).aU st).bX st (((m.un v).value st.a+((m.un v).aU st).aV (m.un v).Ea.length) % 4) ((m.un v).Ed st.a ||| cY ((m.un v).Ea.length:Nat))) _ _
 ·unfold ED.bG;rw[e];show (m.un (v+4*u)).step st=((m.un v).step st).un u;unfold ED.step;rw[f,e];exact b (((m.un v).aU st).bX st ((m.un v).value st.a) ((m.un v).Ed st.a)) _ _
theorem kMa (a:reads st.kind=false) (u:Nat):(m.un u).bG st=((m.un 0).bG st).un u:=by
 unfold reads at a;simp only[Bool.or_eq_false_iff] at a;obtain⟨⟨b,c⟩,d⟩:=a;unfold ED.bG;rw[b,c,d];simp only[xR,if_false,Bool.or_self]
 split
 ·rfl
 split
 ·rfl
 split
 ·rfl
 split
 ·exact kJg (m:=m.un 0) _ _ _ u
 ·rfl
end
def bL (p:ED × Nat) (st:Stm) (v:Nat):ED × Nat:=((carry (p.1.un v,p.2) st).1.un 0,(carry (p.1.un v,p.2) st).2)
def dM (p:ED × Nat) (st:Stm) (v:Nat):List Ev:=kCU (p.1.un v,p.2) st
theorem kEa (p:ED × Nat) (st:Stm) (v:Nat):(bL p st v).1.Ea=p.1.Ea++dM p st v:=kCb (p.1.un v,p.2) st
theorem kMg (b:reads st.kind=true) (c:v<4) (u:Nat):carry (m.un (v+4*u),0) st=((carry (m.un v,0) st).1.un u,(carry (m.un v,0) st).2):=by
 have a:(st.kind==10)=false:=by
  unfold reads at b;simp only[x5,beq_iff_eq] at b;rw[beq_eq_false_iff_ne];omega
 unfold carry;simp only[a];show ((m.un (v+4*u)).bG st,0)=(((m.un v).bG st).un u,0);rw[kMf b c]
theorem kKl {d:Nat} (b:d=0->reads st.kind=false) (u:Nat):carry (m.un u,d) st=((carry (m.un 0,d) st).1.un u,(carry (m.un 0,d) st).2):=by
 unfold carry;by_cases c:d=0
 ·subst c;simp only[beq_self_eq_true,if_true]
  split
  ·rfl
  ·rw[kMa (b rfl)]
 ·have a:(d==0)=false:=by simpa using c
  simp only[a,xR,if_false]
  split
  ·rfl
  ·split<;>rfl
theorem kFX (a:List Stm) (st:Stm):kBm (a++[st])=if reads st.kind then kBm a*4 else kBm a:=by
 unfold kBm;rw[x2];rfl
def kFk (i:Nat) (b:Int) (ex:List Stm) (p:ED × Nat):Prop:=∀ u,∃ c,c<kBm ex*(u+1)/\ex.foldl carry (ED.start i b c,0)=(p.1.un u,p.2)
theorem kHU (i:Nat) (b:Int):kFk i b [] (ED.start i b 0,0):=fun u=>⟨u,by simp[kBm],rfl⟩
theorem kFk.step {b:Int} {n:List Stm} (h:kFk i b n p) (st:Stm) (q:v<4):kFk i b (n++[st]) (bL p st v):=by
 intro u;obtain⟨m,d⟩:=p;by_cases a:d=0/\reads st.kind=true
 ·obtain⟨o,a⟩:=a;subst o;obtain⟨c,g,l⟩:=h (v+4*u);refine⟨c,?_,?_⟩
  ·rw[kFX,if_pos a];refine x6 g ?_;rw[Nat.mul_assoc];exact Nat.mul_le_mul_left _ (by omega)
  ·rw[x2,l];show carry (m.un (v+4*u),0) st=_;rw[kMg a q];rfl
 ·have f:d=0->reads st.kind=false:=fun e=>by
   cases c:reads st.kind
   ·rfl
   ·exact absurd ⟨e,c⟩ a
  obtain⟨c,g,l⟩:=h u;refine⟨c,?_,?_⟩
  ·refine x6 g (Nat.mul_le_mul_right _ ?_);rw[kFX]
   split<;>omega
  ·rw[x2,l];show carry (m.un u,d) st=_;unfold bL;rw[kKl f u,kKl f v];rfl
theorem kFk.run (h:kFk i t.block t.Eb p):(⟨p.1.Ea,p.1.regs⟩:Run)∈zOD t i:=by
 obtain⟨c,b,a⟩:=h 0;unfold zOD zNs;have e:kBs t i c=p.1.un 0:=by unfold kBs zOl;rw[a]
 refine List.mem_map.2 ⟨c,List.mem_filter.2 ⟨List.mem_range.2 (by omega),by rw[e];rfl⟩,by rw[e];rfl⟩
def MH (m:ED):Prop:=∀ i,i<m.Ea.length->HB i (ev m.Ea i).Ef
theorem kLm (h:MInv m) (st:Stm):∀ j,j<(kDK m st).length->HB (m.Ea.length+j) (ev (kDK m st) j).Ef:=by
 have c:=h.ab;have d:HB (m.Ea.length+1) m.Ee:=c.mono (by omega);have f:=h.Ed st.a;have g:HB (m.Ea.length+1) (m.Ed st.a):=f.mono (by omega);unfold kDK
 rcases kCf st.kind with e | e | e | e | e | e | ⟨l,n,o,q,r,s⟩
 ·rw[e];intro j b;have:j=0:=by simpa using b
  subst this;exact c
 ·rw[e];intro j b;have:j=0:=by simpa using b
  subst this;exact c.or f
 ·rw[e];intro j b;have:j=0\/j=1:=by have:j<2:=b;omega
  rcases this with rfl | rfl
  ·exact c
  ·exact d.or (g.or (vZ _))
 ·rw[e];intro j b;have:j=0\/j=1:=by have:j<2:=b;omega
  rcases this with rfl | rfl
  ·exact c
  ·exact d.or g
 ·rw[e];intro j b;have:j=0:=by simpa using b
  subst this;exact kBp _
 ·rw[e];intro j b;have:j=0\/j=1:=by have:j<2:=b;omega
  rcases this with rfl | rfl<;>exact kBp _
 ·rw[l,n,o,q,r,s];intro j b;simp at b
theorem MH.step (h:MH p.1) (a:MInv p.1) (st:Stm) (v:Nat):MH (bL p st v).1:=by
 intro i f;rw[kEa] at f ⊢;rw[kAF];by_cases c:i<p.1.Ea.length
 ·rw[if_pos c];exact h i c
 ·rw[if_neg c];rw[xF] at f;have b:MInv (p.1.un v):=⟨a.evs,a.mb,a.ab,a.sr,a.sw⟩;have e:∀ j,j<(dM p st v).length->HB (p.1.Ea.length+j) (ev (dM p st v) j).Ef:=by
   unfold dM kCU
   split
   ·split
    ·intro j d;simp at d
    ·exact kLm b st
   ·intro j d;simp at d
  have:=e (i-p.1.Ea.length) (by omega);rw[show p.1.Ea.length+(i-p.1.Ea.length)=i by omega] at this;exact this
theorem MInv.bL (a:MInv p.1) (c:StV st) (v:Nat):MInv (bL p st v).1:=by
 have b:MInv (p.1.un v):=⟨a.evs,a.mb,a.ab,a.sr,a.sw⟩;have:=MInv.carry (p:=(p.1.un v,p.2)) b c;exact⟨this.evs,this.mb,this.ab,this.sr,this.sw⟩
theorem ED.Ok.bL {n:Nat} (h:p.1.Ok n) (c:kCY st) (d:v<4):(bL p st v).1.Ok (n+1):=by
 have b:(p.1.un v).Ok n:=⟨h.regs,h.made,h.Ee,h.evs,h.len,h.bars,by show v<1000000000;omega⟩;have a:=CQ (p:=(p.1.un v,p.2)) b c;exact⟨a.regs,a.made,a.Ee,a.evs,a.len,a.bars,by show (0:Nat)<1000000000;omega⟩
structure kCM (L:List Ev) (x v:Int):Prop where
 len:L.length<=2
 kind:∀ j,j<L.length->0<=(ev L j).kind/\(ev L j).kind<3
 rd:∀ j,j<L.length->(ev L j).kind=0->j=0/\(ev L j).var=x/\(ev L j).value=v
 wr:∀ j,j<L.length->(ev L j).kind=1->j+1=L.length/\(ev L j).var=x
 half:∀ j,j<L.length->(ev L j).kind=1->(ev L j).step=true->j≠0
theorem EH (x v:Int):kCM [] x v:=⟨by simp,fun j a=>by simp at a,fun j a=>by simp at a,fun j a=>by simp at a,fun j a=>by simp at a⟩
theorem EQ {e:Ev} {x v:Int} (d:0<=e.kind/\e.kind<3) (f:e.kind=0->e.var=x/\e.value=v) (c:e.kind=1->e.var=x/\e.step=false):kCM [e] x v:=by
 have b:∀ j,j<[e].length->j=0:=fun j a=>by simpa using a
 refine⟨by simp,fun j a=>?_,fun j a k=>?_,fun j a k=>?_,fun j a k s=>?_⟩
 ·rw[b j a];exact d
 ·rw[b j a] at k ⊢;exact⟨rfl,f k⟩
 ·rw[b j a] at k ⊢;exact⟨rfl,(c k).1⟩
 ·rw[b j a] at k s;have:=(c k).2;rw[show ev [e] 0=e from rfl,this] at s;cases s
theorem kGu {r w:Ev} {x v:Int} (c:r.kind=0) (d:r.var=x/\r.value=v) (e:w.kind=1) (f:w.var=x):kCM [r,w] x v:=by
 have b:∀ j,j<[r,w].length->j=0\/j=1:=fun j a=>by have:j<2:=a;omega
 refine⟨by simp,fun j a=>?_,fun j a k=>?_,fun j a k=>?_,fun j a k s=>?_⟩
 ·rcases b j a with rfl | rfl
  ·show 0<=r.kind/\r.kind<3;omega
  ·show 0<=w.kind/\w.kind<3;omega
 ·rcases b j a with rfl | rfl
  ·exact⟨rfl,d⟩
  ·rw[show ev [r,w] 1=w from rfl,e] at k;omega
 ·rcases b j a with rfl | rfl
  ·rw[show ev [r,w] 0=r from rfl,c] at k;omega
  ·exact⟨rfl,f⟩
 ·rcases b j a with rfl | rfl
  ·rw[show ev [r,w] 0=r from rfl,c] at k;omega
  ·omega
theorem kGB (p:ED × Nat) (st:Stm) (q:v<4) (o:¬ (p.2=0/\st.kind=5)):kCM (dM p st v) st.var (v:Int):=by
 have a:((v % 4:Nat):Int)=(v:Int):=by omega
 unfold dM kCU;by_cases c:p.2=0
 ·rw[if_pos (by simpa using c)]
  split
  ·exact EH _ _
  ·have n:st.kind≠5:=fun e=>o ⟨c,e⟩
   unfold kDK
   rcases kCf st.kind with e | e | e | e | e | e | ⟨b,d,f,g,a,l⟩
   ·rw[e];exact EQ ⟨by simp[ED.event],by simp[ED.event]⟩ (fun _=>⟨rfl,a⟩) (fun k=>by simp[ED.event] at k)
   ·rw[e];exact EQ ⟨by simp[ED.event],by simp[ED.event]⟩ (fun k=>by simp[ED.event] at k) (fun _=>⟨rfl,by simp[ED.event,e]⟩)
   ·rw[e];exact kGu rfl ⟨rfl,a⟩ rfl rfl
   ·rw[e];exact kGu rfl ⟨rfl,a⟩ rfl rfl
   ·rw[e];exact EQ ⟨by simp[ED.event],by simp[ED.event]⟩ (fun k=>by simp[ED.event] at k) (fun k=>by simp[ED.event] at k)
   ·exact absurd e n
   ·rw[b,d,f,g,a,l];exact EH _ _
 ·rw[if_neg (by simpa using c)];exact EH _ _
theorem tL (p:ED × Nat) (st:Stm) (v:Nat):(bL p st v).1.thread=p.1.thread/\(bL p st v).1.block=p.1.block/\(bL p st v).1.bars=p.1.bars+if p.2=0/\st.kind=5 then 1 else 0:=by
 unfold bL carry;by_cases c:p.2=0
 ·simp only[c,beq_self_eq_true,if_true,true_and];by_cases c10:st.kind=10
  ·simp only[c10,beq_self_eq_true,if_true];exact⟨rfl,rfl,rfl⟩
  ·rw[if_neg (by simpa using c10)];have b:∀ (q:ED) (d x:Int) (s:Nat),(q.bK d x s).thread=q.thread/\(q.bK d x s).block=q.block/\(q.bK d x s).bars=q.bars:=fun q d x s=>by unfold ED.bK;split<;>exact⟨rfl,rfl,rfl⟩
   show ((p.1.un v).bG st).thread=_/\((p.1.un v).bG st).block=_/\((p.1.un v).bG st).bars=_;unfold ED.bG
   rcases kCf st.kind with e | e | e | e | e | e | ⟨l,n,o,r,u,f⟩
   ·rw[e];exact b _ _ _ _
   ·rw[e];exact⟨rfl,rfl,rfl⟩
   ·have:=b (((p.1.un v).aU st).bX st (((p.1.un v).value st.a+((p.1.un v).aU st).aV (p.1.un v).Ea.length) % 4) ((p.1.un v).Ed st.a ||| cY ((p.1.un v).Ea.length:Nat)));rw[e];show ((p.1.un v).step st).thread=_/\((p.1.un v).step st).block=_/\((p.1.un v).step st).bars=_;unfold ED.step;rw[e];exact this _ _ _
   ·have:=b (((p.1.un v).aU st).bX st ((p.1.un v).value st.a) ((p.1.un v).Ed st.a));rw[e];show ((p.1.un v).step st).thread=_/\((p.1.un v).step st).block=_/\((p.1.un v).step st).bars=_;unfold ED.step;rw[e];exact this _ _ _
   ·rw[e];exact⟨rfl,rfl,rfl⟩
   ·rw[e];exact⟨rfl,rfl,rfl⟩
   ·have y:st.kind≠5:=by simpa using f
    rw[l,n,o,r,u,f,if_neg y];simp only[xR,if_false,Bool.or_self]
    split
    ·exact b _ _ _ _
    ·exact⟨rfl,rfl,rfl⟩
 ·have g:(p.2==0)=false:=by simpa using c
  simp only[g,xR,if_false,c,false_and,Nat.add_zero]
  split
  ·exact⟨rfl,rfl,rfl⟩
  ·split<;>exact⟨rfl,rfl,rfl⟩
theorem kIS (m:ED) (st:Stm) (v:Nat) (h:st.kind=5):dM (m,0) st v=[(m.un v).event 3 st,(m.un v).event 4 st]:=by
 unfold dM kCU kDK;rw[h];rfl
structure GT where
 p:ED × Nat
 ex:List Stm
 rest:List Stm
 tm:List Nat
def GT.T (x:GT) (j:Nat):Nat:=x.tm.getD j 0
def GT.es (x:GT):List Ev:=x.p.1.Ea
def GT.cZ (x:GT) (st:Stm) (now v:Nat):GT:=⟨bL x.p st v,x.ex++[st],x.rest.tail,x.tm++(List.range (dM x.p st v).length).map fun j=>now+j⟩
structure WF (t:Thr):Prop where
 ends:∀ a b,t.Eb=a++b->cnt iE a<=cnt iB a
 bar:∀ a st b,t.Eb=a++st::b->st.kind=5->cnt iB a=cnt iE a
 var:∀ s∈t.Eb,StV s
 ok:∀ s∈t.Eb,kCY s
structure TInv (t:Thr) (k now:Nat) (x:GT):Prop where
 sp:x.ex++x.rest=t.Eb
 cod:kFk k t.block x.ex x.p
 mi:MInv x.p.1
 mh:MH x.p.1
 ok:∃ N,x.p.1.Ok N
 thr:x.p.1.thread=(k:Int)
 blk:x.p.1.block=t.block
 dep:(x.p.2:Int)<=cnt iB x.ex-cnt iE x.ex
 brs:(x.p.1.bars:Int)=bars x.ex
 len:x.tm.length=x.es.length
 lo:∀ j,j<x.es.length->3<=x.T j/\x.T j<now
 inc:∀ i j,i<j->j<x.es.length->x.T i<x.T j
 half:∀ j,j+1<x.es.length->(ev x.es (j+1)).kind=1->(ev x.es (j+1)).step=true->x.T (j+1)=x.T j+1
 knd:∀ j,j<x.es.length->0<=(ev x.es j).kind
theorem TInv.vT {a:Nat} {x:GT} (h:TInv t k now x) (e:now<=a):TInv t k a x :=
 ⟨h.sp,h.cod,h.mi,h.mh,h.ok,h.thr,h.blk,h.dep,h.brs,h.len,fun j b=>by have:=h.lo j b;omega,h.inc,h.half,h.knd⟩
theorem yG (x:GT) (st:Stm) (now v:Nat):(x.cZ st now v).es=x.es++dM x.p st v:=kEa x.p st v
theorem oO {x:GT} (b:x.tm.length=x.es.length) (st:Stm) (now v:Nat) (a:j<x.es.length):ev (x.cZ st now v).es j=ev x.es j/\(x.cZ st now v).T j=x.T j:=by
 refine⟨by rw[yG,kAF,if_pos a],?_⟩;unfold GT.T GT.cZ;simp only;rw[xW,List.getElem?_append_left (by omega),xW]
theorem rR {x:GT} (b:x.tm.length=x.es.length) (st:Stm) (now v:Nat) (a:j<(dM x.p st v).length):ev (x.cZ st now v).es (x.es.length+j)=ev (dM x.p st v) j/\(x.cZ st now v).T (x.es.length+j)=now+j:=by
 refine⟨by rw[yG,kAF,if_neg (by omega),x7],?_⟩;unfold GT.T GT.cZ;simp only;rw[xW,List.getElem?_append_right (by omega),b,x7];simp[a]
theorem qQ (x:GT) (st:Stm) (now v:Nat):(x.cZ st now v).es.length=x.es.length+(dM x.p st v).length:=by rw[yG,xF]
theorem kLL (p:ED × Nat) (st:Stm) (l:v<4):(dM p st v).length<=2/\(∀ j,j<(dM p st v).length->0<=(ev (dM p st v) j).kind)/\∀ j,j<(dM p st v).length->(ev (dM p st v) j).kind=1->(ev (dM p st v) j).step=true->j≠0:=by
 by_cases c:p.2=0/\st.kind=5
 ·obtain⟨m,d⟩:=p;obtain⟨f,g⟩:=c;simp only at f;subst f;rw[kIS m st v g];have b:∀ j,j<2->(ev [(m.un v).event 3 st,(m.un v).event 4 st] j).kind=3\/(ev [(m.un v).event 3 st,(m.un v).event 4 st] j).kind=4:=fun j a=>by
   have:j=0\/j=1:=by omega
   rcases this with rfl | rfl
   ·exact Or.inl rfl
   ·exact Or.inr rfl
  exact⟨by simp,fun j a=>by rcases b j a with e | e<;>omega,fun j a k=>by rcases b j a with e | e<;>omega⟩
 ·have h:=kGB p st l c;exact⟨h.len,fun j a=>(h.kind j a).1,h.half⟩
theorem kJJ (p:ED × Nat) (st:Stm) (v:Nat):((bL p st v).2:Int)<=p.2+(if st.kind==10 then 1 else 0)-(if st.kind==11/\p.2≠0 then 1 else 0):=by
 unfold bL carry;by_cases c:p.2=0
 ·simp only[c,beq_self_eq_true,if_true]
  split
  ·rename_i h;have:¬ ((st.kind==11)=true/\(0:Nat)≠0):=fun h=>h.2 rfl
   rw[if_neg this];simp only
   split<;>simp
  ·rename_i h;have:¬ ((st.kind==11)=true/\(0:Nat)≠0):=fun h=>h.2 rfl
   rw[if_neg this];simp
 ·have a:(p.2==0)=false:=by simpa using c
  simp only[a,xR,if_false];by_cases h10:st.kind=10
  ·simp[h10]
  ·by_cases h11:st.kind=11
   ·simp[h11,c];omega
   ·simp[h10,h11]
theorem TInv.cZ {x:GT} (o:WF t) (h:TInv t k now x) {r:List Stm} (C:x.rest=st::r) (z:v<4) (U:3<=now):TInv t k (now+2) (x.cZ st now v):=by
 have f:t.Eb=x.ex++st::r:=by rw[<- C];exact h.sp.symm
 have B:st∈t.Eb:=by rw[f];simp
 obtain⟨X,H,I⟩:=kLL x.p st z;have G:=qQ x st now v;obtain⟨J,K,L⟩:=tL x.p st v;have d:∀ j,j<(x.cZ st now v).es.length->(j<x.es.length/\ev (x.cZ st now v).es j=ev x.es j/\(x.cZ st now v).T j=x.T j)\/(∃ i,i<(dM x.p st v).length/\j=x.es.length+i/\ev (x.cZ st now v).es j=ev (dM x.p st v) i/\(x.cZ st now v).T j=now+i):=fun j g=>by
  by_cases c:j<x.es.length
  ·exact Or.inl ⟨c,oO h.len st now v c⟩
  ·refine Or.inr ⟨j-x.es.length,by omega,by omega,?_⟩;have:=rR h.len st now v (j:=j-x.es.length) (by omega);rw[show x.es.length+(j-x.es.length)=j by omega] at this;exact this
 refine⟨?_,h.cod.step st z,h.mi.bL (o.var st B) v,h.mh.step h.mi st v,?_,J.trans h.thr,K.trans h.blk,?_,?_,?_,?_,?_,?_,?_⟩
 ·show (x.ex++[st])++x.rest.tail=t.Eb;rw[f,C];simp
 ·obtain⟨N,F⟩:=h.ok;exact⟨N+1,F.bL (o.ok st B) z⟩
 ·show ((bL x.p st v).2:Int)<=cnt iB (x.ex++[st])-cnt iE (x.ex++[st]);have M:=kJJ x.p st v;have O:=h.dep;have S:=o.ends (x.ex++[st]) r (by rw[f];simp);rw[zNY,zNY] at *;simp only[cnt,iB,iE] at *;by_cases h11:st.kind=11
  ·have:(bL x.p st v).2=x.p.2-1:=by
    unfold bL carry;by_cases c:x.p.2=0
    ·simp[c,h11]
    ·simp[c,h11]
   simp only[h11] at *;simp at *;omega
  ·simp only[h11] at *;simp at *;omega
 ·show ((bL x.p st v).1.bars:Int)=bars (x.ex++[st]);rw[L,yE];have:=h.brs;simp only[bars];by_cases h5:st.kind=5
  ·have A:=o.bar x.ex st r f h5;have V:=h.dep;rw[if_pos ⟨by omega,h5⟩,h5];simp;omega
  ·rw[if_neg (fun e=>h5 e.2)];simp[h5];omega
 ·show (x.tm++_).length=_;rw[G,xF,h.len];simp
 ·intro j g
  rcases d j g with ⟨c,_,e⟩ | ⟨i,W,_,_,e⟩
  ·have:=h.lo j c;omega
  ·omega
 ·intro i j y g
  rcases d j g with ⟨c,_,e⟩ | ⟨a,n,D,_,e⟩
  ·have:=h.inc i j y c;rw[e,(oO h.len st now v (by omega)).2];exact this
  ·rcases d i (by omega) with ⟨c,_,u⟩ | ⟨b,A,E,_,u⟩
   ·have:=h.lo i c;omega
   ·omega
 ·intro j g q s
  rcases d (j+1) g with ⟨c,l,e⟩ | ⟨a,n,D,l,e⟩
  ·rw[l] at q s;rw[e,(oO h.len st now v (by omega)).2];exact h.half j c q s
  ·rw[l] at q s;have:=I a n q s
   rcases d j (by omega) with ⟨c,_,u⟩ | ⟨b,A,E,_,u⟩
   ·omega
   ·omega
 ·intro j g
  rcases d j g with ⟨c,l,_⟩ | ⟨a,n,_,l,_⟩
  ·rw[l];exact h.knd j c
  ·rw[l];exact H a n
end Q
end Go.Proofs.YtonodfjdiepglaaGreatDoor
