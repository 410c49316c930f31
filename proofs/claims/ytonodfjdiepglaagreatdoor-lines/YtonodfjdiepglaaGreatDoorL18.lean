import Derived.Test.YtonodfjdiepglaaGreatDoorL17
set_option linter.unusedVariables false
set_option linter.unusedSimpArgs false
set_option maxHeartbeats 12800000
namespace Go.Proofs.YtonodfjdiepglaaGreatDoor
open Go Go.RowKit Go.Proofs.Tryz P Q R
set_option maxRecDepth 1000000
variable {A B C c e h0 l p v w:List UInt8} {hs m r:List (List UInt8)} {k o s:Int} {st:Stm}
open Prod renaming ext→xF
open Nat renaming le_refl→xR
open Bool renaming false_eq_true→xW
open List renaming takeWhile_append_of_pos→x3,eq_nil_of_length_eq_zero→x4
namespace P
theorem zJ:∀ r∈eK,r.1<5->∀ st:Stm,st.kind=r.1->st.scope=0->dY st (fA r.2.1 r.2.2)=({ st with order:=r.2.1,scope:=r.2.2 },true):=by
 rw[kJj];simp only[List.forall_mem_cons];refine⟨?_,?_,?_,?_,?_,?_,?_,?_,?_,?_,?_,?_,?_,?_,?_,?_,?_,?_,?_,?_,?_,?_,?_,?_,?_,?_,?_,?_,?_,?_,?_,?_,?_,?_,?_,by simp⟩
 all_goals
  intro f st g i;obtain⟨k,l,d,v,a,b,o,s,j⟩:=st;simp only at g i;subst g i
  first | rfl | (exfalso;revert f;decide)
theorem mW (c:UInt8) (w:List UInt8):(bA c w).length<=2:=by
 unfold bA
 split
 ·split<;>simp
 ·split
  ·split<;>simp
  ·split<;>simp
 ·simp
theorem kKM (h:(cD A).2=true):∃ d,A=[114,d]:=by
 match A,h with
 | [a,b],h =>
  simp only[cD] at h;by_cases e:a=114
  ·exact⟨b,by rw[e]⟩
  ·rw[if_neg e] at h;cases h
theorem rO (h:(cD A).2=true):dD (A::e::c::r)=gC (A::e::c::r):=by
 obtain⟨d,rfl⟩:=kKM h;simp[dD]
theorem rY (a:A.length<=2) (h:(cD A).2=false):(dD (A::e::c::r)).2=false:=by
 have b:(A==[115,116,111,114,101])=false:=by rw[beq_eq_false_iff_ne];intro e;rw[e] at a;simp at a
 have d:(A==[102,101,110,99,101])=false:=by rw[beq_eq_false_iff_ne];intro e;rw[e] at a;simp at a
 have f:(A==[98,97,114,114,105,101,114])=false:=by rw[beq_eq_false_iff_ne];intro e;rw[e] at a;simp at a
 have g:(A==[101,110,100])=false:=by rw[beq_eq_false_iff_ne];intro e;rw[e] at a;simp at a
 simp only[dD,b,d,f,g,xW,if_false]
 split
 ·rfl
 ·simp only[gC,h]
  split<;>rfl
section
variable {k o s:Int}
theorem kLh (hr:(k,o,s)∈eK) (q:k=0) (x0 a:List UInt8):(dD (fD k o s (dF (kd k) [x0,a]))).2=(zMD (dO k o s) (kAk k).2 [x0,a]).2/\((zMD (dO k o s) (kAk k).2 [x0,a]).2=true->(dD (fD k o s (dF (kd k) [x0,a]))).1=(zMD (dO k o s) (kAk k).2 [x0,a]).1):=by
 subst q;have t:=zJ _ hr (by show (0:Int)<5;decide);have i:fD 0 o s (dF (kd 0) [x0,a])=bA 100 x0::cV::kD::bA 118 a::fA o s:=rfl;have j:zMD (dO 0 o s) (kAk 0).2 [x0,a]=if (zME x0).2 then (if (zNe a).2 then ({ dO 0 o s with dest:=(zME x0).1,var:=(zNe a).1 },true) else (Stm.zero,false)) else (Stm.zero,false):=rfl
 obtain⟨b,f⟩:=vI x0;obtain⟨d,g⟩:=AD a;rw[i,j]
 cases hR:(zME x0).2
 ·rw[hR] at b;rw[rY (mW _ _) b.symm];exact⟨rfl,fun h=>by cases h⟩
 ·rw[hR] at b f;rw[rO b.symm];have n:gC (bA 100 x0::cV::kD::bA 118 a::fA o s)=load { Stm.zero with dest:=(cD (bA 100 x0)).1 } (bA 118 a::fA o s):=by
   simp[gC,cV,kD,<- b]
  rw[n,<- f rfl]
  cases hV:(zNe a).2
  ·rw[hV] at d;rw[yM _ _ _ d.symm];exact⟨rfl,fun h=>by cases h⟩
  ·rw[hV] at d g;rw[zG _ _ _ d.symm,t _ rfl rfl,<- g rfl];exact⟨rfl,fun _=>rfl⟩
theorem kKC (hr:(k,o,s)∈eK) (j:k=1) (x0 b:List UInt8):(dD (fD k o s (dF (kd k) [x0,b]))).2=(zMD (dO k o s) (kAk k).2 [x0,b]).2/\((zMD (dO k o s) (kAk k).2 [x0,b]).2=true->(dD (fD k o s (dF (kd k) [x0,b]))).1=(zMD (dO k o s) (kAk k).2 [x0,b]).1):=by
 subst j;have n:=zJ _ hr (by show (1:Int)<5;decide);have g:dD (fD 1 o s (dF (kd 1) [x0,b]))=if (eQ (bA 118 x0)).2 then (if (cA (bA 97 b)).2 then dY { Stm.zero with kind:=1,var:=(eQ (bA 118 x0)).1,a:=(cA (bA 97 b)).1 } (fA o s) else (Stm.zero,false)) else (Stm.zero,false):=by
  show store (lI::bA 118 x0::bA 97 b::fA o s)=_;simp only[store,kAp]
  cases (eQ (bA 118 x0)).2<;>cases (cA (bA 97 b)).2<;>rfl
 have i:zMD (dO 1 o s) (kAk 1).2 [x0,b]=if (zNe x0).2 then (if (zMA b).2 then ({ dO 1 o s with var:=(zNe x0).1,a:=(zMA b).1 },true) else (Stm.zero,false)) else (Stm.zero,false):=rfl
 obtain⟨q,t⟩:=AD x0;obtain⟨d,f⟩:=rC b;rw[g,i,<- q,<- d]
 cases hV:(zNe x0).2
 ·exact⟨rfl,fun h=>by cases h⟩
 cases hA:(zMA b).2
 ·exact⟨rfl,fun h=>by cases h⟩
 rw[<- t hV,<- f hA];simp only[if_true];rw[n _ rfl rfl];exact⟨rfl,fun _=>rfl⟩
theorem kLv (hr:(k,o,s)∈eK) (g:k=2\/k=3) (x0 b d:List UInt8):(dD (fD k o s (dF (kd k) [x0,b,d]))).2=(zMD (dO k o s) (kAk k).2 [x0,b,d]).2/\((zMD (dO k o s) (kAk k).2 [x0,b,d]).2=true->(dD (fD k o s (dF (kd k) [x0,b,d]))).1=(zMD (dO k o s) (kAk k).2 [x0,b,d]).1):=by
 have x:=zJ _ hr (by show k<5;omega);have q:fD k o s (dF (kd k) [x0,b,d])=bA 100 x0::cV::(if k==2 then dE else jW)::bA 118 b::bA 97 d::fA o s:=by rcases g with rfl | rfl<;>rfl
 have t:zMD (dO k o s) (kAk k).2 [x0,b,d]=if (zME x0).2 then (if (zNe b).2 then (if (zMA d).2 then ({ dO k o s with dest:=(zME x0).1,var:=(zNe b).1,a:=(zMA d).1 },true) else (Stm.zero,false)) else (Stm.zero,false)) else (Stm.zero,false):=by rcases g with rfl | rfl<;>rfl
 obtain⟨f,i⟩:=vI x0;obtain⟨y,z⟩:=AD b;obtain⟨j,n⟩:=rC d;rw[q,t]
 cases hR:(zME x0).2
 ·rw[hR] at f;rw[rY (mW _ _) f.symm];exact⟨rfl,fun h=>by cases h⟩
 ·rw[hR] at f i;rw[rO f.symm];have u:(gC (bA 100 x0::cV::(if k==2 then dE else jW)::bA 118 b::bA 97 d::fA o s))=step { Stm.zero with dest:=(cD (bA 100 x0)).1 } k (bA 118 b::bA 97 d::fA o s):=by
   rcases g with rfl | rfl<;>simp[gC,cV,dE,jW,<- f]
  rw[u,<- i rfl];simp only[step,kAp];rw[<- y,<- j]
  cases hV:(zNe b).2
  ·exact⟨rfl,fun h=>by cases h⟩
  cases hA:(zMA d).2
  ·exact⟨rfl,fun h=>by cases h⟩
  rw[<- z hV,<- n hA];simp only[if_true];rw[x _ rfl rfl];exact⟨rfl,fun _=>rfl⟩
theorem kLd (hr:(k,o,s)∈eK) (b:k=4):(dD (fD k o s (dF (kd k) []))).2=(zMD (dO k o s) (kAk k).2 []).2/\((zMD (dO k o s) (kAk k).2 []).2=true->(dD (fD k o s (dF (kd k) []))).1=(zMD (dO k o s) (kAk k).2 []).1):=by
 subst b;have d:=zJ _ hr (by show (4:Int)<5;decide) { Stm.zero with kind:=4 } rfl rfl;have a:dD (fD 4 o s (dF (kd 4) []))=dY { Stm.zero with kind:=4 } (fA o s):=rfl;rw[a,d];exact⟨rfl,fun _=>rfl⟩
theorem EP (hr:(k,o,s)∈eK) (a:5<=k):o=0/\s=0:=by
 have:∀ r∈eK,5<=r.1->r.2.1=0/\r.2.2=0:=by decide
 exact this _ hr a
theorem kLV (hr:(k,o,s)∈eK) (a:k=5):(dD (fD k o s (dF (kd k) []))).2=(zMD (dO k o s) (kAk k).2 []).2/\((zMD (dO k o s) (kAk k).2 []).2=true->(dD (fD k o s (dF (kd k) []))).1=(zMD (dO k o s) (kAk k).2 []).1):=by
 subst a;obtain⟨rfl,rfl⟩:=EP hr (by decide);exact⟨rfl,fun _=>rfl⟩
theorem kLy (hr:(k,o,s)∈eK) (u:k=6) (x0 b:List UInt8):(dD (fD k o s (dF (kd k) [x0,b]))).2=(zMD (dO k o s) (kAk k).2 [x0,b]).2/\((zMD (dO k o s) (kAk k).2 [x0,b]).2=true->(dD (fD k o s (dF (kd k) [x0,b]))).1=(zMD (dO k o s) (kAk k).2 [x0,b]).1):=by
 subst u;obtain⟨rfl,rfl⟩:=EP hr (by decide);have n:fD 6 0 0 (dF (kd 6) [x0,b])=[bA 100 x0,cV,bA 97 b]:=rfl;have q:zMD (dO 6 0 0) (kAk 6).2 [x0,b]=if (zME x0).2 then (if (zMA b).2 then ({ dO 6 0 0 with dest:=(zME x0).1,a:=(zMA b).1 },true) else (Stm.zero,false)) else (Stm.zero,false):=rfl
 obtain⟨f,j⟩:=vI x0;obtain⟨g,i⟩:=rC b;rw[n,q]
 cases hR:(zME x0).2
 ·rw[hR] at f;rw[rY (mW _ _) f.symm];exact⟨rfl,fun h=>by cases h⟩
 ·rw[hR] at f j;rw[rO f.symm];have t:gC [bA 100 x0,cV,bA 97 b]=sum { Stm.zero with dest:=(cD (bA 100 x0)).1 } [bA 97 b]:=by
   have d:=mW 97 b;have x:bA 97 b≠[108,111,97,100]:=fun e=>by rw[e] at d;simp at d
   have y:bA 97 b≠[97,100,100]:=fun e=>by rw[e] at d;simp at d
   have z:bA 97 b≠[115,119,97,112]:=fun e=>by rw[e] at d;simp at d
   simp[gC,cV,<- f,x,y,z]
  rw[t,<- j rfl]
  cases hA:(zMA b).2
  ·rw[hA] at g;rw[xJ _ _ _ g.symm];exact⟨rfl,fun h=>by cases h⟩
  ·rw[hA] at g i;rw[kJk _ _ g.symm,<- i rfl];exact⟨rfl,fun _=>rfl⟩
theorem kLS (hr:(k,o,s)∈eK) (q:k=7\/k=8\/k=9) (x0 d f:List UInt8):(dD (fD k o s (dF (kd k) [x0,d,f]))).2=(zMD (dO k o s) (kAk k).2 [x0,d,f]).2/\((zMD (dO k o s) (kAk k).2 [x0,d,f]).2=true->(dD (fD k o s (dF (kd k) [x0,d,f]))).1=(zMD (dO k o s) (kAk k).2 [x0,d,f]).1):=by
 obtain⟨rfl,rfl⟩:=EP hr (by omega);have D:fD k 0 0 (dF (kd k) [x0,d,f])=[bA 100 x0,cV,bA 97 d,if k==7 then [43] else if k==8 then [45] else [61,61],bA 97 f]:=by rcases q with rfl | rfl | rfl<;>rfl
 have E:zMD (dO k 0 0) (kAk k).2 [x0,d,f]=if (zME x0).2 then (if (zMA d).2 then (if (zMA f).2 then ({ dO k 0 0 with dest:=(zME x0).1,a:=(zMA d).1,b:=(zMA f).1 },true) else (Stm.zero,false)) else (Stm.zero,false)) else (Stm.zero,false):=by rcases q with rfl | rfl | rfl<;>rfl
 obtain⟨j,u⟩:=vI x0;obtain⟨n,t⟩:=rC d;obtain⟨y,z⟩:=rC f;rw[D,E]
 cases hR:(zME x0).2
 ·rw[hR] at j;rw[rY (mW _ _) j.symm];exact⟨rfl,fun h=>by cases h⟩
 ·rw[hR] at j u;rw[rO j.symm];have g:sign (if k==7 then [43] else if k==8 then [45] else [61,61])=(k,true):=by rcases q with rfl | rfl | rfl<;>rfl
  generalize (if k==7 then [43] else if k==8 then [45] else [61,61]:List UInt8)=x at g ⊢;have F:gC [bA 100 x0,cV,bA 97 d,x,bA 97 f]=sum { Stm.zero with dest:=(cD (bA 100 x0)).1 } [bA 97 d,x,bA 97 f]:=by
   have i:=mW 97 d;have G:bA 97 d≠[108,111,97,100]:=fun e=>by rw[e] at i;simp at i
   have H:bA 97 d≠[97,100,100]:=fun e=>by rw[e] at i;simp at i
   have I:bA 97 d≠[115,119,97,112]:=fun e=>by rw[e] at i;simp at i
   simp[gC,cV,<- j,G,H,I]
  rw[F,<- u rfl]
  cases hA:(zMA d).2
  ·rw[hA] at n;rw[xJ _ _ _ n.symm];exact⟨rfl,fun h=>by cases h⟩
  ·rw[hA] at n t;rw[kIL _ _ _ _ n.symm (by rw[g]),<- t rfl,g,<- y]
   cases hB:(zMA f).2
   ·exact⟨rfl,fun h=>by cases h⟩
   ·rw[<- z hB];exact⟨rfl,fun _=>rfl⟩
end
theorem kLW (a:(k,o,s)∈eK):(kd k).length=(kAk k).2.length:=by
 have:∀ r∈eK,(kd r.1).length=(kAk r.1).2.length:=by decide
 exact this _ a
theorem kKz (a:(k,o,s)∈eK):k=0\/k=1\/(k=2\/k=3)\/k=4\/k=5\/k=6\/(k=7\/k=8\/k=9):=by
 have:∀ r∈eK,r.1=0\/r.1=1\/(r.1=2\/r.1=3)\/r.1=4\/r.1=5\/r.1=6\/(r.1=7\/r.1=8\/r.1=9):=by decide
 exact this _ a
theorem kLg (b:(k,o,s)∈eK) (a:List (List UInt8)) (d:a.length=(kd k).length):(dD (fD k o s (dF (kd k) a))).2=(zMD (dO k o s) (kAk k).2 a).2/\((zMD (dO k o s) (kAk k).2 a).2=true->(dD (fD k o s (dF (kd k) a))).1=(zMD (dO k o s) (kAk k).2 a).1):=by
 rcases kKz b with h | h | h | h | h | h | h
 ·have e:(kd k).length=2:=by rw[h];rfl
  match a,d.trans e with
  | [x0,x1],_=>exact kLh b h x0 x1
 ·have e:(kd k).length=2:=by rw[h];rfl
  match a,d.trans e with
  | [x0,x1],_=>exact kKC b h x0 x1
 ·have e:(kd k).length=3:=by rcases h with h | h<;>rw[h]<;>rfl
  match a,d.trans e with
  | [x0,x1,x2],_=>exact kLv b h x0 x1 x2
 ·have e:(kd k).length=0:=by rw[h];rfl
  match a,d.trans e with
  | [],_=>exact kLd b h
 ·have e:(kd k).length=0:=by rw[h];rfl
  match a,d.trans e with
  | [],_=>exact kLV b h
 ·have e:(kd k).length=2:=by rw[h];rfl
  match a,d.trans e with
  | [x0,x1],_=>exact kLy b h x0 x1
 ·have e:(kd k).length=3:=by rcases h with h | h | h<;>rw[h]<;>rfl
  match a,d.trans e with
  | [x0,x1,x2],_=>exact kLS b h x0 x1 x2
def rD (p:List UInt8):Prop:=p≠[]/\(32:UInt8) ∉ p/\(44:UInt8) ∉ p
theorem kHw (h:(zME w).2=true):rD w:=by
 rcases rW w with ⟨d,rfl,_,e⟩ | ⟨e,_⟩
 ·rcases DJ d with ⟨rfl,_⟩ | ⟨rfl,_⟩ | ⟨rfl,_⟩ | ⟨rfl,_⟩ | ⟨_,_,_,_,a⟩
  ·exact⟨by simp,by decide,by decide⟩
  ·exact⟨by simp,by decide,by decide⟩
  ·exact⟨by simp,by decide,by decide⟩
  ·exact⟨by simp,by decide,by decide⟩
  ·rw[e] at a;cases a
 ·rw[h] at e;cases e
theorem kKj (h:(zNe w).2=true):rD w:=by
 unfold zNe at h;have g:∀ v:Int,v=0\/v=1\/v=2->rD (cX v):=fun v a=>by
  rcases a with rfl | rfl | rfl<;>exact⟨by decide,by decide,by decide⟩
 split at h
 ·rename_i e;rw[e];exact g 0 (by simp)
 split at h
 ·rename_i e;rw[e];exact g 1 (by simp)
 split at h
 ·rename_i e;rw[e];exact g 2 (by simp)
 ·cases h
theorem yD (h:(zMA w).2=true):rD w:=by
 have a:bP 0=[48]:=jO 0 (by decide);have b:bP 1=[49]:=jO 1 (by decide);have d:bP 2=[50]:=jO 2 (by decide);have f:bP 3=[51]:=jO 3 (by decide);unfold zMA at h;rw[a,b,d,f] at h
 split at h
 ·rename_i e;rw[e];exact⟨by decide,by decide,by decide⟩
 split at h
 ·rename_i e;rw[e];exact⟨by decide,by decide,by decide⟩
 split at h
 ·rename_i e;rw[e];exact⟨by decide,by decide,by decide⟩
 split at h
 ·rename_i e;rw[e];exact⟨by decide,by decide,by decide⟩
 ·exact kHw h
theorem kJG {c:UInt8} (a:c=100\/c=118\/c=97\/c=98) (h:(kAR st c w).2=true):rD w:=by
 rcases a with rfl | rfl | rfl | rfl
 ·exact kHw h
 ·exact kKj h
 ·exact yD h
 ·exact yD h
theorem kFA:∀ (cs:List UInt8) (b:List (List UInt8)) (st:Stm),cs.length=b.length->(∀ c∈cs,c=100\/c=118\/c=97\/c=98)->(zOe st cs b).2=true->∀ w∈b,rD w
 | [],[],_,_,_,_,w,a=>by simp at a
 | c::cs,x::b,st,hl,hc,h,w,a=>by
  rw[zOe] at h
  split at h
  ·rename_i e
   rcases List.mem_cons.1 a with rfl | a
   ·exact kJG (hc c (by simp)) e
   ·exact kFA cs b _ (by simpa using hl) (fun c h=>hc c (List.mem_cons_of_mem _ h)) h w a
  ·cases h
 | [],_::_,_,hl,_,_,_,_=>by simp at hl
 | _::_,[],_,hl,_,_,_,_=>by simp at hl
theorem CT (l:List UInt8):∃ w0 ws,zMi 32 l=w0::ws/\(eN l).1=w0/\((ws=[]/\(eN l).2=[])\/∃ q,ws=zMi 32 q/\(eN l).2=dB 44 32 q):=by
 unfold eN
 rcases mF 32 l with ⟨f,d⟩ | ⟨x,r,rfl,d,i⟩
 ·refine⟨l,[],d,?_,Or.inl ⟨rfl,?_⟩⟩
  ·simp only;have:=x3 (l₁:=l) (l₂:=[]) (p:=fun c=>c != 32) (fun a b=>by
    simp only[bne_iff_ne,ne_eq];exact fun e=>f (by rw[<- e];exact b))
   simpa using this
  ·have:l.any (fun c=>c==32)=false:=by
    rw[List.any_eq_false];intro a b e;exact f (by rw[<- beq_iff_eq.1 e];exact b)
   simp only[this];rfl
 ·have g:∀ a∈x,(a != 32)=true:=fun a b=>by
   simp only[bne_iff_ne,ne_eq];exact fun e=>d (by rw[<- e];exact b)
  refine⟨x,zMi 32 r,i,?_,Or.inr ⟨r,rfl,?_⟩⟩
  ·simp only;rw[x3 g];simp
  ·have:(x++32::r).any (fun c=>c==32)=true:=by
    rw[List.any_eq_true];exact⟨32,by simp,rfl⟩
   simp only[this,if_true];rw[List.dropWhile_append_of_pos g];simp
theorem kIF (a:(k,o,s)∈eK):((kZ k o s).isEmpty||(kZ k o s).getLast?==some 44)=false:=by
 have:∀ r∈eK,((kZ r.1 r.2.1 r.2.2).isEmpty||(kZ r.1 r.2.1 r.2.2).getLast?==some 44)=false:=by decide
 exact this _ a
theorem kHW (a:(k,o,s)∈eK):∀ c∈(kAk k).2,c=100\/c=118\/c=97\/c=98:=by
 have:∀ r∈eK,∀ c∈(kAk r.1).2,c=100\/c=118\/c=97\/c=98:=by decide
 exact this _ a
theorem kLx {next:Int} (h:(kAv l next).2=true) (n:(kAv l next).1.kind≠10):(eX l).2=true/\(dD (eX l).1).2=true/\(dD (eX l).1).1=(kAv l next).1:=by
 obtain⟨H,G,D,E,F⟩:=CT l;unfold kAv at h n ⊢;obtain⟨⟨k,o,s⟩,f,j⟩:=kJy h n;simp only at j;rw[j,kHM _ _ _ f] at h n ⊢;rw[E] at j;simp only at h n ⊢;have a:(eN l).2.length=(kAk k).2.length:=by
  unfold zMD at h
  split at h
  ·cases h
  ·rename_i c;have z:(kAk k).2.length=(eN l).2.length:=by simpa using c
   exact z.symm
 have b:∀ w∈(eN l).2,rD w:=by
  unfold zMD at h;rw[if_neg (by simpa using a.symm)] at h;exact kFA _ _ _ a.symm (kHW f) h
 have u:fE [] G=some (eN l).2:=by
  rcases F with ⟨rfl,t⟩ | ⟨q,rfl,t⟩
  ·rw[t];rfl
  ·rw[t] at b ⊢;exact kJq q.length q (xR _) b []
 obtain⟨h0,hs,x,y⟩:=zPJ (eN l).2 _ f;simp only at x y;have g:=kLW f;have d:eX l=(fD k o s (dF (kd k) (eN l).2),true):=by
  unfold eX;rw[D];simp only;rw[u,lJ,j,kIF f];simp only[xW,if_false];rw[x];simp only;rw[y,if_neg (by rw[a,g];simp)]
 have i:=kLg f (eN l).2 (by rw[a,g]);rw[d];exact⟨rfl,by rw[i.1];exact h,i.2 h⟩
theorem kIB (c:UInt8):∀ (n:Nat) (a b:List UInt8),a.length<=n->zMi c a=zMi c b->a=b:=by
 intro n
 induction n with
 | zero =>
  intro a b h e;have j:a=[]:=x4 (by omega);subst j
  rcases mF c b with ⟨_,d⟩ | ⟨x,r,rfl,_,f⟩
  ·rw[d] at e;simpa [zMi] using e
  ·rw[f] at e;rw[show zMi c []=[[]] from rfl,List.cons.injEq] at e;exact absurd e.2.symm (mB c r)
 | succ n ih =>
  intro a b h e
  rcases mF c a with ⟨_,d⟩ | ⟨x,r,rfl,_,f⟩
  ·rcases mF c b with ⟨_,g⟩ | ⟨y,q,rfl,_,i⟩
   ·rw[d,g] at e;simpa using e
   ·rw[d,i] at e;rw[List.cons.injEq] at e;exact absurd e.2.symm (mB c q)
  ·rcases mF c b with ⟨_,g⟩ | ⟨y,q,rfl,_,i⟩
   ·rw[f,g] at e;rw[List.cons.injEq] at e;exact absurd e.2 (mB c r)
   ·rw[f,i] at e;simp only[List.cons.injEq] at e;rw[e.1,ih r q (by simp at h;omega) e.2]
end P
namespace R
theorem kMh (v:List UInt8):inn v sA=if v=[97,99,113,95,114,101,108] then 0 else if v=[99,116,97] then 1 else if v=[103,112,117] then 2 else -1:=by
 unfold inn;rw[show zMi 32 sA=[[97,99,113,95,114,101,108],[99,116,97],[103,112,117]] by decide];by_cases h1:v=[97,99,113,95,114,101,108]
 ·subst h1;decide
 by_cases h2:v=[99,116,97]
 ·subst h2;decide
 by_cases h3:v=[103,112,117]
 ·subst h3;decide
 simp[eS,Ne.symm h1,Ne.symm h2,Ne.symm h3,h1,h2,h3]
theorem kLZ (v:List UInt8):inn v sB=if v=[97,99,113,114,101,108] then 0 else if v=[98,108,111,99,107] then 1 else if v=[100,101,118,105,99,101] then 2 else -1:=by
 unfold inn;rw[show zMi 32 sB=[[97,99,113,114,101,108],[98,108,111,99,107],[100,101,118,105,99,101]] by decide];by_cases h1:v=[97,99,113,114,101,108]
 ·subst h1;decide
 by_cases h2:v=[98,108,111,99,107]
 ·subst h2;decide
 by_cases h3:v=[100,101,118,105,99,101]
 ·subst h3;decide
 simp[eS,Ne.symm h1,Ne.symm h2,Ne.symm h3,h1,h2,h3]
def back (y:List UInt8):List UInt8:=if y=[97,99,113,114,101,108] then [97,99,113,95,114,101,108] else if y=[98,108,111,99,107] then [99,116,97] else if y=[100,101,118,105,99,101] then [103,112,117] else y
theorem kJn {h y:List UInt8} (e:pJ h=some y):h=back y:=by
 unfold pJ at e;rw[kMh,kLZ] at e;by_cases b1:h=[97,99,113,114,101,108]
 ·rw[if_pos b1] at e;simp at e
 by_cases b2:h=[98,108,111,99,107]
 ·rw[if_neg b1,if_pos b2] at e;simp at e
 by_cases b3:h=[100,101,118,105,99,101]
 ·rw[if_neg b1,if_neg b2,if_pos b3] at e;simp at e
 rw[if_neg b1,if_neg b2,if_neg b3] at e;by_cases a1:h=[97,99,113,95,114,101,108]
 ·subst a1;simp[sV] at e;rw[<- e];rfl
 by_cases a2:h=[99,116,97]
 ·subst a2;simp[sV] at e;rw[<- e];rfl
 by_cases a3:h=[103,112,117]
 ·subst a3;simp[sV] at e;rw[<- e];rfl
 rw[if_neg a1,if_neg a2,if_neg a3] at e;simp at e;rw[<- e];unfold back;rw[if_neg b1,if_neg b2,if_neg b3]
theorem oT:∀ (hs out a:List (List UInt8)),dW out hs=(a,true)->∃ m,a=out++m/\hs=m.map back
 | [],out,a,h=>⟨[],by simp[dW] at h;simp[h],rfl⟩
 | x::r,out,a,h=>by
  rw[dW] at h
  cases e:pJ x with
  | none=>rw[e] at h;simp at h
  | some y =>
   rw[e] at h;obtain⟨m,b,d⟩:=oT r _ _ h;exact⟨y::m,by rw[b];simp,by rw[d,kJn e];rfl⟩
def AG (k o s:Int):List (List UInt8) :=
 if k==0 then [108,100]::(fA o s).map back
 else if k==1 then [115,116]::(fA o s).map back
 else if k==2 then [97,116,111,109]::dE::(fA o s).map back
 else if k==3 then [97,116,111,109]::eZ::(fA o s).map back
 else if k==4 then [102,101,110,99,101]::(fA o s).map back
 else if k==5 then [[98,97,114],qZ]
 else if k==6 then [[109,111,118]]
 else if k==7 then [[97,100,100]]
 else if k==8 then [[115,117,98]]
 else [[115,101,116,101,113]]
theorem kKc:∀ r∈eK,zMi 46 (kZ r.1 r.2.1 r.2.2)=AG r.1 r.2.1 r.2.2:=by decide
end R
namespace P
theorem kJB {o:List UInt8} (h:(order o).2=true):0<=(order o).1/\(order o).1<6/\o=EL (order o).1:=by
 unfold order at h ⊢
 repeat' split at h
 all_goals first | (cases h;done) | skip
 all_goals (rename_i e;simp_all [EL])
theorem kJC {s:List UInt8} (h:(scope s).2=true):((scope s).1=0\/(scope s).1=1)/\s=if (scope s).1==0 then [98,108,111,99,107] else [100,101,118,105,99,101]:=by
 unfold scope at h ⊢
 repeat' split at h
 all_goals first | (cases h;done) | skip
 all_goals (rename_i e;simp_all)
theorem kIU:∀ k∈([0,1,2,3,4]:List Int),∀ o∈([0,1,2,3,4,5]:List Int),∀ s∈([0,1]:List Int),zMU k o=true->(o != 0||s==0)=true->(k,o,s)∈eK:=by decide
theorem yW (j:0<=st.kind/\st.kind<5) (h:(dY st m).2=true):∃ o s,(st.kind,o,s)∈eK/\m=fA o s:=by
 have d:st.kind∈([0,1,2,3,4]:List Int):=by simp;omega
 cases m with
 | nil=>cases h
 | cons o r =>
  have h0:(if (order o).2&&zMU st.kind (order o).1 then (if (order o).1==0 then (({ st with order:=(order o).1 }),r.isEmpty) else (match r with | [s]=>({ st with order:=(order o).1,scope:=(scope s).1 },(scope s).2) | _=>({ st with order:=(order o).1 },false))) else (st,false)).2=true:=by
   rcases r with _ | ⟨s,_ | ⟨t,r⟩⟩<;>(simp only[dY] at h;split at h<;>simp_all)
  split at h0
  ·rename_i c;rw[Bool.and_eq_true] at c;obtain⟨n,q,b⟩:=kJB c.1;have g:(order o).1∈([0,1,2,3,4,5]:List Int):=by simp;omega
   split at h0
   ·rename_i a;have e:(order o).1=0:=by simpa using a
    have f:r=[]:=by simpa using h0
    refine⟨0,0,kIU _ d 0 (by simp) 0 (by simp) (by rw[<- e];exact c.2) rfl,?_⟩;rw[f,b,e];rfl
   ·rename_i a
    rcases r with _ | ⟨s,_ | ⟨t,r⟩⟩
    ·cases h0
    ·obtain⟨u,i⟩:=kJC h0;refine⟨(order o).1,(scope s).1,kIU _ d _ g _ (by simp;omega) c.2 (by rw[Bool.or_eq_true];exact Or.inl (by simpa using a)),?_⟩;unfold fA;rw[if_neg a,<- b,<- i]
    ·cases h0
  ·cases h0
theorem kKr (b:A.length<=2) (h:(dD (A::cV::kD::B::m)).2=true):∃ o s,((0:Int),o,s)∈eK/\m=fA o s:=by
 cases hR:(cD A).2
 ·rw[rY b hR] at h;cases h
 ·rw[rO hR] at h;have a:gC (A::cV::kD::B::m)=load { Stm.zero with dest:=(cD A).1 } (B::m):=by
   simp[gC,cV,kD,hR]
  rw[a] at h
  cases hV:(eQ B).2
  ·rw[yM _ _ _ hV] at h;cases h
  ·rw[zG _ _ _ hV] at h;exact yW ⟨by show (0:Int)<=0;decide,by show (0:Int)<5;decide⟩ h
theorem kJm (h:(dD (lI::p::v::m)).2=true):∃ o s,((1:Int),o,s)∈eK/\m=fA o s:=by
 have e:dD (lI::p::v::m)=store (lI::p::v::m):=rfl;rw[e] at h;simp only[store] at h
 split at h
 ·have a:(kAp { Stm.zero with kind:=1 } p v).1.kind=1:=by unfold kAp;split<;>rfl
  have:=yW (by rw[a];constructor<;>decide) h
  rwa [a] at this
 ·cases h
theorem zPp (f:k=2\/k=3) (d:A.length<=2) (h:(dD (A::cV::(if k==2 then dE else jW)::p::v::m)).2=true):∃ o s,(k,o,s)∈eK/\m=fA o s:=by
 cases hR:(cD A).2
 ·rw[rY d hR] at h;cases h
 ·rw[rO hR] at h;have b:gC (A::cV::(if k==2 then dE else jW)::p::v::m)=step { Stm.zero with dest:=(cD A).1 } k (p::v::m):=by
   rcases f with rfl | rfl<;>simp[gC,cV,dE,jW,hR]
  rw[b] at h;simp only[step] at h
  split at h
  ·have a:(kAp { { Stm.zero with dest:=(cD A).1 } with kind:=k } p v).1.kind=k:=by unfold kAp;split<;>rfl
   have:=yW (by rw[a];omega) h
   rwa [a] at this
  ·cases h
theorem kKa (h:(dD (nD::m)).2=true):∃ o s,((4:Int),o,s)∈eK/\m=fA o s:=by
 have e:dD (nD::m)=dY { Stm.zero with kind:=4 } m:=rfl;rw[e] at h;exact yW (by constructor<;>decide) h
end P
namespace R
def rG (h0:List UInt8) (hs:List (List UInt8)):Prop:=∃ r∈eK,h0::hs=AG r.1 r.2.1 r.2.2
theorem kMe (i:A.length<=2) (g:(dW [A,cV,kD,B] hs).2=true) (a:(dD (dW [A,cV,kD,B] hs).1).2=true):rG [108,100] hs:=by
 obtain⟨m,b,d⟩:=oT hs [A,cV,kD,B] (dW [A,cV,kD,B] hs).fst (xF rfl g);rw[b] at a;obtain⟨o,s,j,f⟩:=kKr i a;exact⟨(0,o,s),j,by rw[d,show m=_ from f];rfl⟩
theorem kLT (g:(dW [lI,A,B] hs).2=true) (a:(dD (dW [lI,A,B] hs).1).2=true):rG [115,116] hs:=by
 obtain⟨m,b,d⟩:=oT hs [lI,A,B] (dW [lI,A,B] hs).fst (xF rfl g);rw[b] at a;obtain⟨o,s,i,f⟩:=kJm a;exact⟨(1,o,s),i,by rw[d,show m=_ from f];rfl⟩
theorem kMc (i:A.length<=2) (g:(dW [A,cV,dE,B,C] hs).2=true) (a:(dD (dW [A,cV,dE,B,C] hs).1).2=true):rG [97,116,111,109] (dE::hs):=by
 obtain⟨m,b,d⟩:=oT hs [A,cV,dE,B,C] (dW [A,cV,dE,B,C] hs).fst (xF rfl g);rw[b] at a;obtain⟨o,s,j,f⟩:=zPp (k:=2) (Or.inl rfl) i a;exact⟨(2,o,s),j,by rw[d,show m=_ from f];rfl⟩
theorem kLU (i:A.length<=2) (g:(dW [A,cV,jW,B,C] hs).2=true) (a:(dD (dW [A,cV,jW,B,C] hs).1).2=true):rG [97,116,111,109] (eZ::hs):=by
 obtain⟨m,b,d⟩:=oT hs [A,cV,jW,B,C] (dW [A,cV,jW,B,C] hs).fst (xF rfl g);rw[b] at a;obtain⟨o,s,j,f⟩:=zPp (k:=3) (Or.inr rfl) i a;exact⟨(3,o,s),j,by rw[d,show m=_ from f];rfl⟩
theorem kLX (g:(dW [nD] hs).2=true) (a:(dD (dW [nD] hs).1).2=true):rG [102,101,110,99,101] hs:=by
 obtain⟨m,b,d⟩:=oT hs [nD] (dW [nD] hs).fst (xF rfl g);rw[b] at a;obtain⟨o,s,i,f⟩:=kKa a;exact⟨(4,o,s),i,by rw[d,show m=_ from f];rfl⟩
theorem vJ (k:Int) (a:k∈([5,6,7,8,9]:List Int)) (e:h0::hs=AG k 0 0):rG h0 hs:=by
 refine⟨(k,0,0),?_,e⟩;have:∀ k∈([5,6,7,8,9]:List Int),(k,(0:Int),(0:Int))∈eK:=by decide
 exact this k a
theorem kIJ {f:List (List UInt8)} (j:(pB h0 hs f).2=true) (t:(dD (pB h0 hs f).1).2=true):rG h0 hs:=by
 have u:∀ n:Nat,f.length=n->(n=0->f=[])/\(n=2->∃ x y,f=[x,y])/\(n=3->∃ x y z,f=[x,y,z]):=by
  intro n D;refine⟨fun e=>x4 (by omega),fun e=>?_,fun e=>?_⟩
  ·match f,D.trans e with
   | [x,y],_=>exact⟨x,y,rfl⟩
  ·match f,D.trans e with
   | [x,y,z],_=>exact⟨x,y,z,rfl⟩
 have b:∀ (p:Nat),mP h0 nN=p->p<9->f.length=(oB.getD p []).length/\(kN p (dF (oB.getD p []) f) hs).2=true/\(dD (kN p (dF (oB.getD p []) f) hs).1).2=true:=by
  intro p E G;unfold pB at j t;rw[E,if_neg (by omega)] at j t;by_cases hl:f.length=(oB.getD p []).length
  ·rw[if_neg (fun e=>e hl)] at j t;exact⟨hl,j,t⟩
  ·rw[if_pos hl] at j;cases j
 by_cases c0:h0=[108,100]
 ·subst c0;obtain⟨g,a,d⟩:=b 0 rfl (by decide);obtain⟨x,y,rfl⟩:=(u 2 g).2.1 rfl;exact kMe (A:=bA 100 x) (mW _ _) a d
 by_cases c1:h0=[115,116]
 ·subst c1;obtain⟨g,a,d⟩:=b 1 rfl (by decide);obtain⟨x,y,rfl⟩:=(u 2 g).2.1 rfl;exact kLT a d
 by_cases c2:h0=[97,116,111,109]
 ·subst c2;obtain⟨g,a,d⟩:=b 2 rfl (by decide);obtain⟨x,y,z,rfl⟩:=(u 3 g).2.2 rfl
  cases hs with
  | nil=>cases a
  | cons h r =>
   simp only[kN] at a d;by_cases d1:h=dE
   ·rw[if_pos d1] at a d;subst d1;exact kMc (A:=bA 100 x) (mW _ _) a d
   ·rw[if_neg d1] at a d;by_cases d2:h=eZ
    ·rw[if_pos d2] at a d;subst d2;exact kLU (A:=bA 100 x) (mW _ _) a d
    ·rw[if_neg d2] at a;cases a
 by_cases c3:h0=[102,101,110,99,101]
 ·subst c3;obtain⟨g,a,d⟩:=b 3 rfl (by decide);exact kLX a d
 by_cases c4:h0=[98,97,114]
 ·subst c4;obtain⟨g,a,d⟩:=b 4 rfl (by decide);have e:hs=[qZ]:=by simpa [kN] using a
  exact vJ 5 (by simp) (by rw[e];rfl)
 have i:∀ p,5<=p->(kN p (dF (oB.getD p []) f) hs).2=true->hs=[]:=by
  intro p E h;obtain⟨q,rfl⟩:∃ q,p=q+5:=⟨p-5,by omega⟩
  cases q with
  | zero=>simpa [kN] using h
  | succ q=>simpa [kN] using h
 by_cases c5:h0=[109,111,118]
 ·subst c5;obtain⟨g,a,d⟩:=b 5 rfl (by decide);exact vJ 6 (by simp) (by rw[i 5 (by decide) a];rfl)
 by_cases c6:h0=[97,100,100]
 ·subst c6;obtain⟨g,a,d⟩:=b 6 rfl (by decide);exact vJ 7 (by simp) (by rw[i 6 (by decide) a];rfl)
 by_cases c7:h0=[115,117,98]
 ·subst c7;obtain⟨g,a,d⟩:=b 7 rfl (by decide);exact vJ 8 (by simp) (by rw[i 7 (by decide) a];rfl)
 by_cases c8:h0=[115,101,116,101,113]
 ·subst c8;obtain⟨g,a,d⟩:=b 8 rfl (by decide);exact vJ 9 (by simp) (by rw[i 8 (by decide) a];rfl)
 have F:mP h0 nN=9:=by
  simp only[nN,mP];rw[if_neg (Ne.symm c0),if_neg (Ne.symm c1),if_neg (Ne.symm c2),if_neg (Ne.symm c3),if_neg (Ne.symm c4),if_neg (Ne.symm c5),if_neg (Ne.symm c6),if_neg (Ne.symm c7),if_neg (Ne.symm c8)]
 unfold pB at j;rw[if_pos F] at j;cases j
end R
namespace P
theorem kHd {cs:List UInt8} {a:List (List UInt8)} (h:(zMD st cs a).2=true):(zMD st cs a).1.kind=st.kind:=by
 unfold zMD at h ⊢
 split at h
 ·cases h
 ·rename_i c;rw[if_neg c];exact zX _ _ _ h
theorem kLl (next:Int) (a:(eX l).2=true) (b:(dD (eX l).1).2=true):(kAv l next).2=true/\(kAv l next).1.kind≠10:=by
 obtain⟨g,E,x,y,z⟩:=CT l;unfold eX at a b;rw[x] at a b;simp only at a b
 cases hgo:fE [] E with
 | none=>rw[hgo] at a;cases a
 | some xs =>
  rw[hgo] at a b;have n:xs=(eN l).2:=by
   rcases z with ⟨rfl,i⟩ | ⟨q,rfl,i⟩
   ·rw[i];simpa [fE] using hgo.symm
   ·rw[i];simpa using kHX q.length q (xR _) [] xs hgo
  rw[lJ] at a b
  split at a
  ·cases a
  rename_i c;rw[if_neg c] at b
  cases e5:zMi 46 g with
  | nil=>rw[e5] at a;cases a
  | cons h0 hs =>
   rw[e5] at a b;simp only at a b;rw[wH] at a b;obtain⟨⟨k,o,s⟩,d,D⟩:=kIJ a b;have t:g=kZ k o s:=kIB 46 g.length g _ (xR _) (by rw[e5,D];exact (kKc _ d).symm);obtain⟨g0,F,f,u⟩:=zPJ xs _ d;simp only at f u;rw[<- t,e5] at f;injection f with f s1'
   subst f s1';rw[<- wH,u] at a b;by_cases hl:xs.length=(kd k).length
   ·rw[if_neg (fun e=>e hl)] at b;have j:=kLg d xs hl;unfold kAv;rw[y,t,kHM _ _ _ d,<- n];simp only;rw[j.1] at b;refine⟨b,?_⟩;rw[kHd b];have:∀ r∈eK,(dO r.1 r.2.1 r.2.2).kind≠10:=by decide
    exact this _ d
   ·rw[if_pos hl] at a;cases a
end P
end Go.Proofs.YtonodfjdiepglaaGreatDoor
