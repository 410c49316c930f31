import Derived.Test.YtonodfjdiepglaaGreatDoorL44
set_option linter.unusedVariables false
set_option linter.unusedSimpArgs false
set_option maxHeartbeats 12800000
namespace Go.Proofs.YtonodfjdiepglaaGreatDoor
open Go Go.RowKit Go.Proofs.Tryz P Q R
set_option maxRecDepth 1000000
variable {w w1 w2:World} {capr gr k n nc oc ol tc tl:Nat} {na oa ta:Option Addr} {A:AS} {ovs tvs:List Value} {G:List Nat} {nms:List ByteArray} {a:Act} {Q Q0:Exit->Act->World->Prop} {K K0:Act->World->Prop} {i:Int} {l:List UInt8}
open _root_.ByteArray renaming toList→xF
open Go.Exit renaming inBlock→xR
open Nat renaming le_refl→xW
open Go.RowKit.Below renaming refl→x1,heap_alloc→x4
open List renaming map_cons→x2,map_append→x6
open Go.World renaming news_of_block→x3
open Bool renaming false_eq_true→x5
structure AFr (a:Act) (gr n capr:Nat) (tv ov nv:Value) (A:AS) (k:Nat):Prop where
 sz:a.tmps.size=324
 df:a.defers=[]
 s5:gA a 5=.slice (some ⟨gr,0,none⟩) (n+1) capr
 s6:gA a 6=.int .i64 (n:Int)
 s7:gA a 7=tv
 s8:gA a 8=ov
 s9:gA a 9=nv
 s10:gA a 10=.int .i64 A.lb
 s11:gA a 11=.int .i64 A.s.count
 s12:gA a 12=.int .i64 (k:Int)
structure AC (w1 w:World) (gr n:Nat) (ta oa na:Option Addr) (tl tc ol oc nc:Nat) (A:AS) (k:Nat) (x:ByteArray) (tvs ovs:List Value) (G:List Nat) (nms:List ByteArray):Prop where
 htl:tl=A.s.ts.length
 hol:ol=A.s.opn.length
 mem:AsM w w1.heap.size A (.slice ta tl tc) (.slice oa ol oc) (.slice na ol nc) tvs ovs G nms
 nm:NmA A k
 bel:Below w1.heap.size w1 w
 lt:k<n
 nn:n<2001
 row:w1.cell? ⟨gr,k,none⟩=some (.string x)
 gr1:gr<w1.heap.size
 xs:x.size<=2000
def qT (w1:World) (A:AS) (k:Nat) (x:ByteArray) (Q0:Exit->Act->World->Prop):Prop :=
 ∀ (a:Act) (w:World),a.tmps.size=324->a.defers=[]->gA a 2=.slice none 0 0->gA a 3=.int .i64 2->gA a 4=.int .i64 ((k:Int)+1)->dG A ((k:Int)+1) x.toList=none->Below w1.heap.size w1 w->Q0 .ret a w
def tH (w1:World) (gr n capr:Nat) (A:AS) (k:Nat) (x:ByteArray) (K0:Act->World->Prop):Prop :=
 ∀ (a:Act) (w:World) (A':AS) (tv ov nv:Value) (tvs ovs:List Value) (G:List Nat) (nms:List ByteArray),dG A ((k:Int)+1) x.toList=some A'->RdM w w1.heap.size tv ov A'.s.ts A'.s.opn tvs ovs G->w.ownsRow w1.heap.size 9 1 nv nms.length (nms.map Value.string)->nms.map xF=A'.nm->Below w1.heap.size w1 w->AFr a gr n capr tv ov nv A' k->K0 a w
structure AP (w1 w:World) (a:Act) (gr n capr:Nat) (tv ov nv:Value) (A:AS) (k gx:Nat) (xl:Lh) (bv:Value) (b:List Tree) (tvs ovs:List Value) (G F:List Nat) (nms:List ByteArray):Prop where
 fr:AFr a gr n capr tv ov nv A k
 s16:gA a 16=.pointer (some ⟨gx,0,none⟩)
 mem:RdM w w1.heap.size tv ov A.s.ts A.s.opn tvs ovs G
 ln:zBG w gx xl bv
 kids:zAq w w1.heap.size bv b F
 dis:∀ j∈F,j ∉ G
 nm:w.ownsRow w1.heap.size 9 1 nv nms.length (nms.map Value.string)
 eq:nms.map xF=A.nm
 bel:Below w1.heap.size w1 w
def yL (w1:World) (gr n capr:Nat) (A:AS) (k:Nat) (x:ByteArray) (K:Act->World->Prop):Prop :=
 ∀ (A2:AS) (xl:Lh) (b:List Tree) (a:Act) (w:World) (tv ov nv:Value) (gx:Nat) (bv:Value) (tvs ovs:List Value) (G F:List Nat) (nms:List ByteArray),dG A ((k:Int)+1) x.toList=some { A2 with s:=R.put A2.s (.mk xl b) }->A2.s.ts=A.s.ts->AP w1 w a gr n capr tv ov nv A2 k gx xl bv b tvs ovs G F nms->K a w
theorem xX {W0 o:World} {B m s:Nat} {e:TypeId} {v j:Value} {g t:List Value} (h:w.ownsRow B 9 1 j m g) (r:w.ownsRow B e s v n t) (q:∀ k,k<w.heap.size->W0.heap[k]?=w.heap[k]?) (f:w.heap.size<=W0.heap.size) (b:W0.grownBy o v.ownBlock) (d:e≠9):o.ownsRow B 9 1 j m g :=
 aX h (fun k e=>by obtain⟨c,p⟩:=eC h e;exact lM r q f b p d)
theorem AC.q {x:ByteArray} (c:AC w1 w gr n ta oa na tl tc ol oc nc A k x tvs ovs G nms):tl<=4/\ol<=2/\0<=A.s.count/\A.s.count<=40/\0<=A.lb/\A.lb<2001/\w1.heap.size<=w.heap.size/\nms.length=ol:=by
 have h:=c.mem.sz;have e:=h.sum;have f:=AO A.s.ts;have g:=AN A.s.opn;have d:=c.nm.lb0;have j:=c.nm.lbk;have m:=c.lt;have o:=c.nn;have b:=congrArg List.length c.mem.eq;rw[List.length_map,c.nm.len,<- c.hol] at b;refine⟨by rw[c.htl];exact h.nth,by rw[c.hol];exact h.nop,by omega,h.cnt,d,by omega,c.bel.size,b⟩
theorem agA {x:ByteArray} (c:AC w1 w gr n ta oa na tl tc ol oc nc A k x tvs ovs G nms) (q:AFr a gr n capr (.slice ta tl tc) (.slice oa ol oc) (.slice na ol nc) A k) (h:Hid (∀ a,AFr a gr n capr (.slice ta tl tc) (.slice oa ol oc) (.slice na ol nc) A k->gA a 13=.string x->gA a 59=.bool (thB x.toList).isSome->dK prog ((aL f5).drop 2) Q a w)) :
  dK prog ((aL f5).drop 0) Q a w:=by
 have m:=(c.bel.cell (p:=⟨gr,k,none⟩) c.gr1).trans c.row;have t:=c.lt;have u:=c.nn;have r:gr<w.heap.size:=by have:=c.gr1;have:=c.bel.size;omega
 have s:(k:Int)<(n:Int)+1:=by omega
 have HB:Hid ((thB x.toList).isSome=((x.toList==[46,116,104,114,101,97,100,32,48])||(x.toList==[46,116,104,114,101,97,100,32,49]))):=by
  unfold Hid thB
  split<;>simp_all
 obtain⟨D,o,v,y,z,B,C,e,g,j⟩:=q;refine aR 0 (by rw[eV];decide) (fun K d=>?_);have b:=zAa d;clear d;rw[hD D o];simp only[gF,v,y,z,B,C,e,g,j]
 conv=>arg 2;whnf
 go_wp2_with fail;refine b.out _ _ ?_;clear b;generalize gA a=f
 cases h0:(x.toList==[46,116,104,114,101,97,100,32,48])
 ·cases h1:(x.toList==[46,116,104,114,101,97,100,32,49])
  all_goals
   refine aR 1 (by rw[eV];decide) (fun K d=>?_);have b:=zAa d;clear d
   conv=>arg 2;whnf
   go_wp2_with fail;refine b.out _ _ ?_;clear b;exact h.out _ ⟨rfl,rfl,rfl,rfl,rfl,rfl,rfl,rfl,rfl,rfl⟩ rfl (by rw[HB.out,h0,h1];rfl)
 ·refine aR 1 (by rw[eV];decide) (fun K d=>?_);have b:=zAa d;clear d
  conv=>arg 2;whnf
  go_wp2_with fail;refine b.out _ _ ?_;clear b;exact h.out _ ⟨rfl,rfl,rfl,rfl,rfl,rfl,rfl,rfl,rfl,rfl⟩ rfl (by rw[HB.out,h0];rfl)
theorem agT {x:ByteArray} (c:AC w1 w gr n ta oa na tl tc ol oc nc A k x tvs ovs G nms) (hf:AFr a gr n capr (.slice ta tl tc) (.slice oa ol oc) (.slice na ol nc) A k) (T:Hid (qT w1 A k x Q0)) (hN:Hid (tH w1 gr n capr A k x K0)) (C:gA a 13=.string x) (D:gA a 59=.bool true) {b:Int} (g:thB x.toList=some b) :
  dK prog ((aL f5).drop 2) (xR 1 (Exit.then K0 Q0)) a w:=by
 obtain⟨q1,q2,_,_,_,_,q3,q4⟩:=c.q;have aa:=c.lt;have ab:=c.nn;have p:Hid (dG A ((k:Int)+1) x.toList=if A.s.opn.isEmpty&&!(A.s.ts.length==4) then some { A with s:={ A.s with ts:=A.s.ts++[⟨b,[],(k:Int)+1⟩],count:=0 } } else none):=by unfold Hid dG;rw[g]
 have L:(x=⟨#[46,116,104,114,101,97,100,32,48]⟩/\b=0)\/(x=⟨#[46,116,104,114,101,97,100,32,49]⟩/\b=1):=by
  rw[<- sK x];unfold thB at g
  split at g
  ·rename_i h;rw[h];injection g with g;exact .inl ⟨rfl,g.symm⟩
  ·rename_i h;rw[h];injection g with g;exact .inr ⟨rfl,g.symm⟩
  ·cases g
 obtain⟨sz,df,s5,s6,s7,s8,s9,M,N,O⟩:=hf;refine aR 2 (by rw[eV];decide) (fun K hK=>?_);clear hK;rw[hD sz df];simp only[gF,s5,s6,s7,s8,s9,M,N,O,C,D];generalize gA a=f
 conv=>arg 2;whnf
 by_cases hol:ol=0
 ·have r:A.s.opn=[]:=List.length_eq_zero_iff.1 (by rw[<- c.hol];exact hol);subst hol;by_cases htl:tl=4
  ·have u:Hid (dG A ((k:Int)+1) x.toList=none):=by unfold Hid;rw[p.out,<- c.htl,htl];simp
   subst htl;go_wp2_with fail;exact T.out _ _ rfl rfl rfl rfl rfl u.out c.bel
  ·have u:Hid (dG A ((k:Int)+1) x.toList=some { A with s:={ A.s with ts:=A.s.ts++[⟨b,[],(k:Int)+1⟩],count:=0 } }):=by unfold Hid;rw[p.out,<- c.htl,r];simp[htl]
   have X:((tl:Int)==4)=false:=by simp;omega
   have H:RdM w w1.heap.size (.slice ta tl tc) (.slice oa 0 oc) A.s.ts [] tvs ovs G:=by have:=c.mem.mem;rw[r] at this;exact this
   have m:Hid (w.ownsRow w1.heap.size 42 3 (.slice ta tl tc) tl (zAX A.s.ts tvs)):=by have:=H.th;rw[<- c.htl] at this;exact this
   obtain⟨Y,U,y,z,B⟩:=info_parts Tryz.infoTh;have Z:=zAa H;clear H htl
   rcases L with ⟨rfl,rfl⟩ | ⟨rfl,rfl⟩
   all_goals
    go_wp2_with (first
     | (at_builtin;refine wpList_append_lies _ rfl (.tmp 70) (.tmp 78) 26 rfl w1.heap.size 42 Y (.agg #[.int .i64 0,.slice none 0 0,.int .i64 0]) 3 40 underlying26 U y z B rfl (by decide) _ _ _ rfl (m.out.alloc _) ⟨w.heap.size,0,none⟩ 1 1 [.int .i64 0,.slice none 0 0,.int .i64 ((k:Int)+1)] rfl rfl (by exact x3 (cs:=#[.int .i64 0,.slice none 0 0,.int .i64 ((k:Int)+1)]) (t:=42) (fr:=(0,0)) (heap_alloc_new w _)) ?c2 (by decide) ?c3 ?c4 ?c5 _ rfl ?_)
     | (at_builtin;refine wpList_append_lies _ rfl (.tmp 70) (.tmp 78) 26 rfl w1.heap.size 42 Y (.agg #[.int .i64 0,.slice none 0 0,.int .i64 0]) 3 40 underlying26 U y z B rfl (by decide) _ _ _ rfl (m.out.alloc _) ⟨w.heap.size,0,none⟩ 1 1 [.int .i64 1,.slice none 0 0,.int .i64 ((k:Int)+1)] rfl rfl (by exact x3 (cs:=#[.int .i64 1,.slice none 0 0,.int .i64 ((k:Int)+1)]) (t:=42) (fr:=(0,0)) (heap_alloc_new w _)) ?c2 (by decide) ?c3 ?c4 ?c5 _ rfl ?_))
    case c2=>simp[Value.oneCell']
    case c3=>unfold maxLen;omega
    case c4=>omega
    case c5=>omega
    intro g1 S w4 o d E V;have I:=RdM.thread Z.out (fun j v=>x4 _ _ _ v) (by simp) (by rw[<- c.htl];exact o) d;have F:Below w1.heap.size w1 w4:=Below.grown (c.bel.alloc q3 _) d (by simp;omega) (fun j v=>(m.out.lt j v).1);have J:=xX c.mem.nm m.out (fun j v=>x4 _ _ _ v) (by simp) d (by decide);clear o d E;go_wp2_with fail;exact hN.out _ _ _ _ _ _ _ _ _ nms u.out (by rw[r];exact I) J c.mem.eq F ⟨rfl,rfl,rfl,rfl,rfl,rfl,rfl,rfl,rfl,rfl⟩
 ·have u:Hid (dG A ((k:Int)+1) x.toList=none):=by
   have:A.s.opn.isEmpty=false:=by cases e:A.s.opn with
    | nil=>exact absurd (by rw[c.hol,e];rfl) hol
    | cons _ _=>rfl
   unfold Hid;rw[p.out,this];rfl
  have W:(0:Int)<(ol:Int):=by omega
  clear hol;go_wp2_with fail;exact T.out _ _ rfl rfl rfl rfl rfl u.out c.bel
namespace R
def lH (A:AS) (l:List UInt8):Bool:=match A.nm.getLast? with
 | some n=>l==n++[58]
 | none=>false
theorem kIe (h:thB l=none) (b:A.s.ts=[]):dG A i l=none:=by
 unfold dG;rw[h,b];rfl
theorem zPa (h:thB l=none) (d:A.s.ts≠[]) (b:lH A l=false):dG A i l=fO A l:=by
 have e:A.s.ts.isEmpty=false:=by cases h:A.s.ts with
  | nil=>exact absurd h d
  | cons _ _=>rfl
 unfold dG;rw[h];simp only[e,x5,if_false]
 split
 ·rename_i f n _ c;unfold lH at b;rw[c] at b;rw[if_neg (by simpa using b)]
 ·rfl
theorem kJW {nn:List UInt8} {b:List Fr} {f:Fr} {c:List (List UInt8)} (h:thB l=none) (m:A.s.ts≠[]) (j:A.s.opn=b++[f]) (g:A.nm=c++[nn]) (d:l=nn++[58]):dG A i l=some { A with s:=put { A.s with opn:=b } (.mk (iA f.a) f.l),nm:=c }:=by
 have e:A.s.ts.isEmpty=false:=by cases h:A.s.ts with
  | nil=>exact absurd h m
  | cons _ _=>rfl
 unfold dG;rw[h];simp only[e,x5,if_false,j,g,List.getLast?_append,List.getLast?_singleton,Option.some_or,List.dropLast_concat];rw[if_pos d]
theorem kKO (A:AS):fO A []=none:=by
 have h:(eX []).2=false:=by decide
 unfold fO
 split
 ·rfl
 ·rw[if_neg (by decide),h];rfl
end R
theorem agN {x:ByteArray} (c:AC w1 w gr n ta oa na tl tc ol oc nc A k x tvs ovs G nms) (Z:AFr a gr n capr (.slice ta tl tc) (.slice oa ol oc) (.slice na ol nc) A k) (N:Hid (qT w1 A k x Q0)) (D:gA a 13=.string x) (E:gA a 59=.bool false) (S:thB x.toList=none)
  (h:Hid (∀ (a:Act) (w2:World),A.s.ts≠[]->x.toList≠[]->Below w.heap.size w w2->zBG w2 w.heap.size z0 (.slice none 0 0)->AFr a gr n capr (.slice ta tl tc) (.slice oa ol oc) (.slice na ol nc) A k->gA a 13=.string x->gA a 15=.int .i64 ((ol:Int)-1)->gA a 16=.pointer (some ⟨w.heap.size,0,none⟩)->gA a 104=.bool (lH A x.toList)->dK prog ((aL f5).drop 8) (xR 1 (Exit.then K0 Q0)) a w2)) :
  dK prog ((aL f5).drop 2) (xR 1 (Exit.then K0 Q0)) a w:=by
 obtain⟨q1,q2,_,_,_,_,q3,y⟩:=c.q;have aa:=c.lt;have ac:=c.nn;obtain⟨sz,Y,s5,s6,s7,s8,s9,I,J,L⟩:=Z;refine aR 2 (by rw[eV];decide) (fun K b=>?_);have d:=zAa b;clear b;rw[hD sz Y];simp only[gF,s5,s6,s7,s8,s9,I,J,L,D,E];generalize gA a=f
 conv=>arg 2;whnf
 go_wp2_with fail;refine d.out _ _ ?_;clear d;by_cases htl:tl=0
 ·have B:Hid (dG A ((k:Int)+1) x.toList=none):=kIe S (List.length_eq_zero_iff.1 (by rw[<- c.htl];exact htl));subst htl;refine aR 3 (by rw[eV];decide) (fun K b=>?_);have d:=zAa b;clear b
  conv=>arg 2;whnf
  go_wp2_with fail;refine d.out _ _ ?_;clear d;refine aR 4 (by rw[eV];decide) (fun K b=>?_);clear b
  conv=>arg 2;whnf
  go_wp2_with fail;exact N.out _ _ rfl rfl rfl rfl rfl B.out c.bel
 have W:((tl:Int)==0)=false:=by simp;omega
 have r:A.s.ts≠[]:=fun e=>htl (by rw[c.htl,e];rfl)
 cases hx0:x.toList.isEmpty
 rotate_left
 ·have B:Hid (dG A ((k:Int)+1) x.toList=none):=by
   have e:x.toList=[]:=List.isEmpty_iff.1 hx0;unfold Hid;rw[zPa S r (by rw[e];unfold lH;split<;>simp),e,kKO]
  refine aR 3 (by rw[eV];decide) (fun K b=>?_);have d:=zAa b;clear b
  conv=>arg 2;whnf
  go_wp2_with fail;refine d.out _ _ ?_;clear d;refine aR 4 (by rw[eV];decide) (fun K b=>?_);clear b
  conv=>arg 2;whnf
  go_wp2_with fail;exact N.out _ _ rfl rfl rfl rfl rfl B.out c.bel
 have v:x.toList≠[]:=fun e=>by rw[e] at hx0;simp at hx0
 refine aR 3 (by rw[eV];decide) (fun K b=>?_);have d:=zAa b;clear b
 conv=>arg 2;whnf
 go_wp2_with fail;refine d.out _ _ ?_;clear d;refine aR 4 (by rw[eV];decide) (fun K b=>?_);have d:=zAa b;clear b
 conv=>arg 2;whnf
 go_wp2_with fail;refine d.out _ _ ?_;clear d;have O:=zBG.bT w z0 (.slice none 0 0);have M:=zAa O;clear O htl;by_cases hol:ol=0
 ·have z:lH A x.toList=false:=by
   have:A.nm=[]:=List.length_eq_zero_iff.1 (by rw[c.nm.len,<- c.hol];exact hol);unfold lH;rw[this];rfl
  subst hol;refine aR 5 (by rw[eV];decide) (fun K b=>?_);have d:=zAa b;clear b
  conv=>arg 2;whnf
  go_wp2_with fail;refine d.out _ _ ?_;clear d;refine aR 6 (by rw[eV];decide) (fun K b=>?_);have d:=zAa b;clear b
  conv=>arg 2;whnf
  go_wp2_with fail;refine d.out _ _ ?_;clear d;refine aR 7 (by rw[eV];decide) (fun K b=>?_);have d:=zAa b;clear b
  conv=>arg 2;whnf
  go_wp2_with fail;refine d.out _ _ ?_;clear d;exact h.out _ _ r v ((x1 _ _).alloc (xW _) _) M.out ⟨rfl,rfl,rfl,rfl,rfl,rfl,rfl,rfl,rfl,rfl⟩ rfl rfl rfl (by rw[z];rfl)
 ·obtain⟨m,rfl⟩:∃ m,ol=m+1:=⟨ol-1,by omega⟩;have g:=c.mem.nm;rw[y] at g;obtain⟨C,X,V,_,F⟩:=g.form (by omega);simp only[Value.slice.injEq,true_and] at V;obtain⟨rfl,rfl⟩:=V;obtain⟨u,_,_⟩:=nI g y;obtain⟨ns,t,rfl⟩:=iD nms (by intro e;rw[e] at y;simp at y);have j:=u m t (by rw[<- show ns.length=m by simpa using y];simp);rw[Nat.zero_add] at j;have U:∀ o:Obj,(w.alloc o).cell? ⟨C,m,none⟩=some (.string t):=fun o=>(((x1 w.heap.size w).alloc (xW _) o).cell (p:=⟨C,m,none⟩) F).trans j
  have z:lH A x.toList=(x.toList==(t++(⟨#[58]⟩:ByteArray)).toList):=by
   unfold lH;rw[<- c.mem.eq,kO,aP];simp
  have ad:t.size<=5:=by
   have:=c.nm.nms t.toList (by rw[<- c.mem.eq];simp);rw[bS] at this;exact this
  have H:(((m+1:Nat):Int)-1)=(m:Int):=by omega
  have ab:(m:Int)<((m+1:Nat):Int):=by omega
  have T:C<w.heap.size+1:=by omega
  clear u j g;refine aR 5 (by rw[eV];decide) (fun K b=>?_);have d:=zAa b;clear b
  conv=>arg 2;whnf
  go_wp2_with fail;refine d.out _ _ ?_;clear d;refine aR 6 (by rw[eV];decide) (fun K b=>?_);have d:=zAa b;clear b
  conv=>arg 2;whnf
  go_wp2_with fail;refine d.out _ _ ?_;clear d
  cases hq:(x.toList==(t++(⟨#[58]⟩:ByteArray)).toList)
  all_goals
   rw[hq] at z;refine aR 7 (by rw[eV];decide) (fun K b=>?_);have d:=zAa b;clear b
   conv=>arg 2;whnf
   go_wp2_with fail;refine d.out _ _ ?_;clear d;exact h.out _ _ r v ((x1 _ _).alloc (xW _) _) M.out ⟨rfl,rfl,rfl,rfl,rfl,rfl,rfl,rfl,rfl,rfl⟩ rfl (by show Value.int IntKind.i64 _=_;rw[H]) rfl (by rw[z];rfl)
theorem agL {x:ByteArray} (c:AC w1 w gr n ta oa na tl tc ol oc nc A k x tvs ovs G nms) (hf:AFr a gr n capr (.slice ta tl tc) (.slice oa ol oc) (.slice na ol nc) A k) (hP:Hid (yL w1 gr n capr A k x (fun a w=>dK prog ((aL f5).drop 9) Q a w))) (hb:thB x.toList=none) (an:A.s.ts≠[]) (S:Below w.heap.size w w2) (hX:Hid (zBG w2 w.heap.size z0 (.slice none 0 0))) (ae:gA a 13=.string x) (V:gA a 15=.int .i64 ((ol:Int)-1)) (af:gA a 16=.pointer (some ⟨w.heap.size,0,none⟩)) (U:gA a 104=.bool true) (M:lH A x.toList=true) :
  dK prog ((aL f5).drop 8) Q a w2:=by
 obtain⟨q1,q2,_,_,_,_,q3,q4⟩:=c.q;have al:nms≠[]:=fun e=>by
  have:=c.mem.eq;rw[e] at this;unfold lH at M;rw[<- this] at M;simp at M
 obtain⟨O,nn,rfl⟩:=iD nms al;obtain⟨m,rfl⟩:∃ m,ol=m+1:=⟨ol-1,by simp at q4;omega⟩;have hm:O.length=m:=by simpa using q4
 have am:A.s.opn≠[]:=fun e=>by have:=c.hol;rw[e] at this;simp at this
 obtain⟨T,f,ho⟩:=iD A.s.opn am;have J:T.length=m:=by have:=c.hol;rw[ho] at this;simpa using this.symm
 have Z:ovs≠[]:=fun e=>by have:=c.mem.mem.lo;rw[e,ho] at this;simp at this
 obtain⟨aa,u,rfl⟩:=iD ovs Z;have HR:Hid (dG A ((k:Int)+1) x.toList=some { A with s:=R.put { A.s with opn:=T } (.mk (iA f.a) f.l),nm:=O.map xF }):=by
  have z:=c.mem.eq;rw[x6,x2,List.map_nil] at z;refine kJW (nn:=nn.toList) hb an ho z.symm ?_;unfold lH at M;rw[<- z] at M;simpa using M
 have b:=c.mem.mem;rw[ho] at b;have B:aa.length=T.length:=by simpa using b.lo
 have r:=b.fr;rw[show (T++[f]).length=m+1 by simp[J]] at r;obtain⟨y,aB,z,_,ai⟩:=r.form (by omega);simp only[Value.slice.injEq,true_and] at z;obtain⟨rfl,rfl⟩:=z;have d:∀ j,j<10->w2.cell? ⟨y,m*10+j,none⟩=(nV f.a u)[j]?:=fun j X=>by
  rw[S.cell (p:=⟨y,m*10+j,none⟩) ai,r.cellAt _ (by omega),vR _ _ _ _ B,List.getElem?_append_right (by rw[pZ _ _ B];omega),pZ _ _ B,J,show m*10+j-m*10=j by omega];simp[zBn]
 have Y:w2.rangeAt y (m*10+1) (bV (iA f.a) (.slice none 0 0)).toList:=by
  intro j v hv;have X:j<9:=(List.getElem?_eq_some_iff.1 hv).1;have:=d (1+j) (by omega);rw[show m*10+1+j=m*10+(1+j) by omega,this,Nat.add_comm 1 j,nV,List.getElem?_cons_succ];exact hv
 have ao:w2.cell? ⟨y,m*10,none⟩=some u:=by
  have:=d 0 (by omega);simp [nV]
 have ah:y≠w.heap.size:=by omega
 have W:y<w2.heap.size:=by have:=S.size;omega
 obtain⟨Ga,F,E,t,D⟩:=RdM.pop (n:=m) b J.symm;have aj:m+1<=oc:=by
  rcases r.2 with ⟨h',_⟩ | ⟨g',ax,ad,h',_,_,aF,_⟩
  ·simp at h'
  ·simp only[Value.slice.injEq] at h';omega
 have ap:∃ a c,u=.slice a f.l.length c:=by
  obtain⟨aI,aq⟩:=t.pS
  rcases aq.2 with ⟨e,h0⟩ | ⟨k,c,ad,e,_⟩
  ·exact⟨none,0,by rw[e,h0]⟩
  ·exact⟨_,c,e⟩
 obtain⟨ua,uc,rfl⟩:=ap;have o:=c.mem.nm;rw[q4] at o;obtain⟨bn,ay,z,_,aC⟩:=o.form (by omega);simp only[Value.slice.injEq,true_and] at z;obtain⟨rfl,rfl⟩:=z;obtain⟨_,az,_⟩:=nI o q4;rw[x6] at o;have N:=zHo o (by simp[hm]);rw[<- hm] at N;have ak:(((m+1:Nat):Int)-1)=(m:Int):=by omega
 have aE:(m:Int)<((m+1:Nat):Int):=by omega
 have h3:m<=oc:=by omega
 have h4:m<=nc:=by omega
 have HP:=zAa E;have HL:=zAa t;have HD:=zAa D;have ab:=zAa Y;have H:=zAa N;have aA:Hid (O.map xF=O.map xF):=rfl;clear E t D Y N o d r b B M;rw[ak] at V;obtain⟨sz,df,s5,s6,s7,s8,s9,au,av,aw⟩:=hf;refine aR 8 (by rw[eV];decide) (fun K hK=>?_);have HK:=zAa hK;clear hK;rw[hD sz df];simp only[gF,s5,s6,s7,s8,s9,au,av,aw,ae,V,af,U];generalize gA a=ff
 conv=>arg 2;whnf
 go_wp2_with (first
  | (refine zDQ (.tmp 108) rfl rfl y (m*10+1) (iA f.a) (.slice none 0 0) rfl ab.out ?_)
  | (refine nL (.tmp 16) (.tmp 109) rfl rfl w.heap.size z0 (iA f.a) (.slice none 0 0) (.slice none 0 0) rfl rfl rfl hX.out ?_;intro w4 C L;have ac:=zAa C;have aG:=(World.cell?_of_block (w:=w2) (a:=⟨y,m*10,none⟩) (L.block y W (by simpa using ah))).trans ao;have aD:=C.facts.2.1;have aH:=C.facts.2.2.2.2.2.2.2.2.2.2;have G4:=zAa L;clear L C))
 refine HK.out _ _ ?_;have ar:=ac.out.oG (.slice ua f.l.length uc);have G5:=gD G4.out 8 (.slice ua f.l.length uc);have I:∀ j,j<w.heap.size->(w4.setCell ⟨w.heap.size,8,none⟩ (.slice ua f.l.length uc)).heap[j]?=w.heap[j]?:=fun j X=>by
  rw[G5.block j (by have:=S.size;omega) (by simp;omega),S.block j X]
 have ag:Below w1.heap.size w1 (w4.setCell ⟨w.heap.size,8,none⟩ (.slice ua f.l.length uc)):=kM (c.bel.trans (S.mono q3)) G5 q3;exact hP.out { A with s:={ A.s with opn:=T },nm:=O.map xF } (iA f.a) f.l _ _ _ _ _ _ _ _ _ _ _ O HR.out rfl ⟨⟨rfl,rfl,rfl,rfl,rfl,rfl,rfl,rfl,rfl,rfl⟩,rfl,HP.out.keep I,ar,HL.out.keep (fun j X=>I j (HL.out.gO j X).2),HD.out,aX (by rw[hm] at H ⊢;exact H.out) (fun j e=>I j (H.out.lt j e).2),rfl,ag⟩
theorem aL8:(aL f5).getD 8 .skip=.cond (.tmp 104) (zK ((aL f5).getD 8 .skip)) (wP ((aL f5).getD 8 .skip)):=by kernel_rfl
theorem ET:(aE f5).getD 4 .skip=.cond (.tmp 135) (zK ((aE f5).getD 4 .skip)) (wP ((aE f5).getD 4 .skip)):=by kernel_rfl
theorem zLS:wP ((aE f5).getD 4 .skip)=.skip:=by kernel_rfl
theorem zLA (x:ByteArray) (j:Nat) (h:j<=x.size) (b:World):(Instr.slice 9 (.string x) none (some (.int .i64 (j:Int))) none).run prog b=.ok (.string (x.extract 0 j)) b:=by
 rw[run_slice_string_to_if _ _ _ _ _ underlying9,if_pos (by omega)];rfl
theorem agE {x:ByteArray} (c:AC w1 w gr n ta oa na tl tc ol oc nc A k x tvs ovs G nms) (I:AFr a gr n capr (.slice ta tl tc) (.slice oa ol oc) (.slice na ol nc) A k) (H:Hid (qT w1 A k x Q0)) (D:Hid (dG A ((k:Int)+1) x.toList=fO A x.toList)) (C:Below w.heap.size w w2) (r:gA a 13=.string x) (t:gA a 16=.pointer (some ⟨w.heap.size,0,none⟩)) (j:gA a 104=.bool false)
  (h:Hid (∀ (a:Act) (K:Act->World->Prop),A.s.count<40->AFr a gr n capr (.slice ta tl tc) (.slice oa ol oc) (.slice na ol nc) { A with s:={ A.s with count:=A.s.count+1 } } k->gA a 13=.string x->gA a 16=.pointer (some ⟨w.heap.size,0,none⟩)->(iH x.toList=true->dK prog ((aZ f5).drop 0) (Exit.then K (xR 1 (Exit.then K0 Q0))) a w2)/\(iH x.toList=false->Hid (∀ a w,dK prog ((aL f5).drop 9) (xR 1 (Exit.then K0 Q0)) a w->K a w)->dK prog ((aE f5).drop 5) (Exit.then K (xR 1 (Exit.then K0 Q0))) a w2))) :
  dK prog ((aL f5).drop 8) (xR 1 (Exit.then K0 Q0)) a w2:=by
 obtain⟨Y,Z,q5,q6,q7,q8,N,q4⟩:=c.q;have L:=c.lt;have M:=c.nn;refine aR 8 (by rw[eV];decide) (fun p m=>?_);rw[aL8];refine wp_cond_false j (pQ _ _ _ _ ?_);show dK prog ((aE f5).drop 0) (Exit.then p (xR 1 (Exit.then K0 Q0))) a w2;have g:=zAa m;clear m;obtain⟨W,F,O,S,T,U,V,y,z,B⟩:=I;refine aR 0 (by rw[eU];decide) (fun X b=>?_);have d:=zAa b;clear b;rw[hD W F];simp only[gF,O,S,T,U,V,y,z,B,r,t];generalize gA a=f
 conv=>arg 2;whnf
 go_wp2_with fail;refine d.out _ _ ?_;clear d;by_cases hc:A.s.count<40
 rotate_left
 ·have E:Hid (dG A ((k:Int)+1) x.toList=none):=by unfold Hid;rw[D.out];unfold fO;rw[if_pos (by omega)]
  have v:(40:Int)<A.s.count+1:=by omega
  clear hc;refine aR 1 (by rw[eU];decide) (fun K b=>?_);have d:=zAa b;clear b
  conv=>arg 2;whnf
  go_wp2_with fail;refine d.out _ _ ?_;clear d;refine aR 2 (by rw[eU];decide) (fun K b=>?_);clear b
  conv=>arg 2;whnf
  go_wp2_with fail;exact H.out _ _ rfl rfl rfl rfl rfl E.out (c.bel.trans (C.mono N))
 have v:¬ (40:Int)<A.s.count+1:=by omega
 refine aR 1 (by rw[eU];decide) (fun K b=>?_);have d:=zAa b;clear b
 conv=>arg 2;whnf
 go_wp2_with fail;refine d.out _ _ ?_;clear d;refine aR 2 (by rw[eU];decide) (fun K b=>?_);have d:=zAa b;clear b
 conv=>arg 2;whnf
 go_wp2_with fail;refine d.out _ _ ?_;clear d;by_cases h3:3<x.size
 ·have u:(3:Int)<(x.size:Int):=by omega
  have r1:=zLA x 3 (by omega);have HB:Hid (iH x.toList=((x.extract 0 3).toList==[98,122,32])):=by
   unfold Hid iH;rw[fW,bS,decide_eq_true h3];simp
  cases hq:((x.extract 0 3).toList==[98,122,32])
  all_goals
   rw[hq] at HB;refine aR 3 (by rw[eU];decide) (fun K b=>?_);have d:=zAa b;clear b
   conv=>arg 2;whnf
   go_wp2_with fail;refine d.out _ _ ?_;clear d
  ·refine aR 4 (by rw[eU];decide) (fun o b=>?_);rw[ET,zLS];refine wp_cond_false rfl (wp_skip (b _ _ ?_));exact (h.out _ p hc ⟨rfl,rfl,rfl,rfl,rfl,rfl,rfl,rfl,rfl,rfl⟩ rfl rfl).2 HB.out g
  ·refine aR 4 (by rw[eU];decide) (fun o b=>?_);rw[ET];refine wp_cond_true rfl (wp_mono (pQ _ _ _ _ ((h.out _ o hc ⟨rfl,rfl,rfl,rfl,rfl,rfl,rfl,rfl,rfl,rfl⟩ rfl rfl).1 HB.out)) ?_);intro e a w J
   cases e<;>exact J
 ·have u:¬ (3:Int)<(x.size:Int):=by omega
  have HB:Hid (iH x.toList=false):=by unfold Hid iH;rw[bS,decide_eq_false h3];rfl
  refine aR 3 (by rw[eU];decide) (fun K b=>?_);have d:=zAa b;clear b
  conv=>arg 2;whnf
  go_wp2_with fail;refine d.out _ _ ?_;clear d;refine aR 4 (by rw[eU];decide) (fun o b=>?_);rw[ET,zLS];refine wp_cond_false rfl (wp_skip (b _ _ ?_));exact (h.out _ p hc ⟨rfl,rfl,rfl,rfl,rfl,rfl,rfl,rfl,rfl,rfl⟩ rfl rfl).2 HB.out g
namespace R
def nW (rs:List ByteArray) (want:List UInt8) (ol:Nat):Bool:=(match rs with
 | [e]=>e.toList==want
 | _=>false)&&decide (ol<2)
theorem kLI {d:ByteArray} {b:List ByteArray} (j:A.s.count<40) (c:iH l=true) (g:d.toList::b.map xF=zMi 32 (l.drop 3)):fO A l=if nW b (kAO (A.lb+1)) A.s.opn.length&&decide (2<=d.size)&&(d.toList.getLast?==some 44)&&(aW (bA 97 d.toList.dropLast)).2 then some ⟨{ A.s with count:=A.s.count+1,opn:=A.s.opn++[⟨[],(aW (bA 97 d.toList.dropLast)).1⟩] },A.nm++[kAO (A.lb+1)],A.lb+1⟩ else none:=by
 unfold fO;rw[if_neg (by omega),if_pos c];unfold rF nW;rw[<- g]
 match b with
 | []=>simp
 | [e] =>
  simp only[x2,List.map_nil,bS];by_cases q1:e.toList=kAO (A.lb+1)
  ·by_cases q2:2<=d.size
   ·by_cases q3:d.toList.getLast?=some 44
    ·simp[q1,q2,q3]
    ·simp[q1,q2,q3]
   ·simp[q1,q2]
  ·simp[q1]
 | e::f::r=>simp
end R
theorem zLY {A1:AS} {x:ByteArray} (c:AC w1 w gr n ta oa na tl tc ol oc nc A k x tvs ovs G nms) (v:A1.lb=A.lb) (hf:AFr a gr n capr (.slice ta tl tc) (.slice oa ol oc) (.slice na ol nc) A1 k) (F:iH x.toList=true) (Z:gA a 13=.string x)
  (h:Hid (∀ (a:Act) (U:World) (g H L:Nat) (d:ByteArray) (C:List ByteArray) (m:ByteArray),Below w2.heap.size w2 U->d.toList::C.map xF=zMi 32 (x.toList.drop 3)->m.toList=kAO (A.lb+1)->U.cell? ⟨g,0,none⟩=some (.string d)->g<U.heap.size->d.size<=2000->1<=H->AFr a gr n capr (.slice ta tl tc) (.slice oa ol oc) (.slice na ol nc) A1 k->gA a 17=.slice (some ⟨g,0,none⟩) H L->gA a 18=.string m->gA a 19=.bool (nW C (kAO (A.lb+1)) ol)->gA a 20=.int .i64 ((d.size:Int)-1)->dK prog ((aZ f5).drop 4) Q a U)) :
  dK prog ((aZ f5).drop 0) Q a w2:=by
 obtain⟨q1,q2,q5,q6,q7,q8,q3,q4⟩:=c.q;have an:3<x.size:=by
  unfold iH at F;simp only[Bool.and_eq_true,decide_eq_true_eq,bS] at F;exact F.1
 have ao:=c.xs;have ah:(x.extract 3 x.size).size<=2000:=by have:=EZ x 3 x.size;omega
 have V:Hid ((x.extract 3 x.size).toList=x.toList.drop 3):=by
  unfold Hid;rw[fW,List.take_of_length_le (i:=x.size) (by rw[bS];exact xW _)]
 obtain⟨sz,df,s5,s6,s7,s8,s9,T,ac,ad⟩:=hf;rw[v] at T;rw[hD sz df];simp only[gF,s5,s6,s7,s8,s9,T,ac,ad,Z];generalize gA a=f;refine aR 0 (by rw[eM];decide) (fun K j=>?_);have b:=zAa j;clear j
 conv=>arg 2;whnf
 go_wp2_with (first | (go_at_call 8;refine (uR (x.extract 3 x.size) 32 _ (by omega)).mono ?_;rintro e U ⟨g,L,H,d,C,rfl,J,B,N,ak,al,M⟩;obtain⟨S,af,ai⟩:=nI B (by simp;omega);have Y:=zAa S;have I:=zAa N;clear S B N));refine b.out _ _ ?_;clear b;have z:d.size<=2000:=by
  have h9:=sU 32 (x.extract 3 x.size).toList d.toList (by rw[<- J.out];simp);rw[bS,bS] at h9;omega
 refine aR 1 (by rw[eM];decide) (fun K j=>?_);have b:=zAa j;clear j
 conv=>arg 2;whnf
 go_wp2_with (first | (go_at_call 9;refine (zKo (A.lb+1) _ (by omega) (by omega)).mono ?_;rintro e w4 ⟨wd,rfl,D,E⟩;have W:=zAa D;have am:=D.size;clear D));refine b.out _ _ ?_;clear b;have ae:=E.size;have t:g<w4.heap.size:=by omega
 obtain⟨y,_,O⟩:=(Y.out.below E).head;have X:=zAa O;have u:Hid (((⟨#[76]⟩:ByteArray)++wd).toList=kAO (A.lb+1)):=by unfold Hid;rw[kO,aP,W.out.1];rfl
 generalize ((⟨#[76]⟩:ByteArray)++wd)=m at *;have s:Below w2.heap.size w2 w4:=M.trans (E.mono M.size);have p:Hid (d.toList::C.map xF=zMi 32 (x.toList.drop 3)):=by unfold Hid;rw[<- V.out];exact J.out
 have ag:(0:Int)<(H:Int):=by omega
 clear O;by_cases hn:H=2
 ·obtain⟨e,rfl⟩:∃ e,C=[e]:=List.length_eq_one_iff.1 (by have:=I.out;omega);obtain⟨aa,_,_⟩:=X.out.head;subst hn;rw[Nat.zero_add] at aa;have o:Hid (nW [e] (kAO (A.lb+1)) ol=((e.toList==m.toList)&&decide (ol<2))):=by unfold Hid nW;rw[u.out]
  cases hq:(e.toList==m.toList)
  ·rw[hq] at o;refine aR 2 (by rw[eM];decide) (fun K j=>?_);have b:=zAa j;clear j
   conv=>arg 2;whnf
   go_wp2_with fail;refine b.out _ _ ?_;clear b;refine aR 3 (by rw[eM];decide) (fun K j=>?_);have b:=zAa j;clear j
   conv=>arg 2;whnf
   go_wp2_with fail;refine b.out _ _ ?_;clear b;exact h.out _ _ _ _ _ d [e] m s p.out u.out y t z (by omega) ⟨rfl,rfl,rfl,rfl,rfl,rfl,rfl,by rw[v];rfl,rfl,rfl⟩ rfl rfl (by rw[o.out];rfl) rfl
  ·rw[hq] at o;by_cases ho:ol<2
   ·have ab:(ol:Int)<2:=by omega
    refine aR 2 (by rw[eM];decide) (fun K j=>?_);have b:=zAa j;clear j
    conv=>arg 2;whnf
    go_wp2_with fail;refine b.out _ _ ?_;clear b;refine aR 3 (by rw[eM];decide) (fun K j=>?_);have b:=zAa j;clear j
    conv=>arg 2;whnf
    go_wp2_with fail;refine b.out _ _ ?_;clear b;exact h.out _ _ _ _ _ d [e] m s p.out u.out y t z (by omega) ⟨rfl,rfl,rfl,rfl,rfl,rfl,rfl,by rw[v];rfl,rfl,rfl⟩ rfl rfl (by rw[o.out,decide_eq_true ho];rfl) rfl
   ·have ab:¬ (ol:Int)<2:=by omega
    refine aR 2 (by rw[eM];decide) (fun K j=>?_);have b:=zAa j;clear j
    conv=>arg 2;whnf
    go_wp2_with fail;refine b.out _ _ ?_;clear b;refine aR 3 (by rw[eM];decide) (fun K j=>?_);have b:=zAa j;clear j
    conv=>arg 2;whnf
    go_wp2_with fail;refine b.out _ _ ?_;clear b;exact h.out _ _ _ _ _ d [e] m s p.out u.out y t z (by omega) ⟨rfl,rfl,rfl,rfl,rfl,rfl,rfl,by rw[v];rfl,rfl,rfl⟩ rfl rfl (by rw[o.out,decide_eq_false ho];rfl) rfl
 ·have aj:((H:Int)==2)=false:=by simp;omega
  have o:Hid (nW C (kAO (A.lb+1)) ol=false):=by
   unfold Hid nW
   match C,I.out with
   | [],_=>rfl
   | [e],h=>simp at h;omega
   | e::f::r,_=>rfl
  refine aR 2 (by rw[eM];decide) (fun K j=>?_);have b:=zAa j;clear j
  conv=>arg 2;whnf
  go_wp2_with fail;refine b.out _ _ ?_;clear b;refine aR 3 (by rw[eM];decide) (fun K j=>?_);have b:=zAa j;clear j
  conv=>arg 2;whnf
  go_wp2_with fail;refine b.out _ _ ?_;clear b;exact h.out _ _ _ _ _ d C m s p.out u.out y t z (by omega) ⟨rfl,rfl,rfl,rfl,rfl,rfl,rfl,by rw[v];rfl,rfl,rfl⟩ rfl rfl (by rw[o.out];rfl) rfl
theorem R.kJD (c:A.s.count<40) (b:iH l=false):fO A l=if (eX l).2&&(jB (eX l).1).2&&!(isB (jB (eX l).1).1&&!A.s.opn.isEmpty) then some { A with s:=R.put { A.s with count:=A.s.count+1 } (.mk (jB (eX l).1).1 []) } else none:=by
 unfold fO;rw[if_neg (by omega),b];rfl
theorem zMa {W:World} {x:ByteArray} (c:AC w1 w gr n ta oa na tl tc ol oc nc A k x tvs ovs G nms) (Z:AFr a gr n capr (.slice ta tl tc) (.slice oa ol oc) (.slice na ol nc) { A with s:={ A.s with count:=A.s.count+1 } } k) (U:Hid (qT w1 A k x Q0)) (V:Hid (yL w1 gr n capr A k x K)) {gy:Nat} {y:Lh} {fine:Bool}
  (T:Hid (dG A ((k:Int)+1) x.toList=if fine&&!(isB y&&!A.s.opn.isEmpty) then some { A with s:=R.put { A.s with count:=A.s.count+1 } (.mk y []) } else none)) (C:Below w.heap.size w W) (H:Hid (zBG W w.heap.size z0 (.slice none 0 0))) (I:Hid (zBG W gy y (.slice none 0 0))) (aa:w.heap.size<gy) (D:gA a 16=.pointer (some ⟨w.heap.size,0,none⟩)) (E:gA a 27=.pointer (some ⟨gy,0,none⟩)) (F:gA a 28=.bool fine) :
  dK prog ((aE f5).drop 9) (Exit.then K (xR 1 (Exit.then K0 Q0))) a W:=by
 obtain⟨q1,q2,q5,q6,q7,q8,L,q4⟩:=c.q;have ab:=c.lt;have ac:=c.nn;have p:=c.bel.trans (C.mono L);obtain⟨yl,_,l0,_⟩:=I.out.facts;have xl:=H.out.lt;obtain⟨sz,Y,s5,s6,s7,s8,s9,M,N,O⟩:=Z;rw[hD sz Y];simp only[gF,s5,s6,s7,s8,s9,M,N,O,D,E,F];generalize gA a=f;have z:Hid ((fine&&!(isB y&&!A.s.opn.isEmpty))=false->dG A ((k:Int)+1) x.toList=none):=fun e=>by rw[T.out,e];rfl
 have B:A.s.opn.isEmpty=decide (ol=0):=by rw[c.hol];cases A.s.opn<;>simp
 cases fine
 ·refine aR 9 (by rw[eU];decide) (fun K b=>?_);have d:=zAa b;clear b
  conv=>arg 2;whnf
  go_wp2_with fail;refine d.out _ _ ?_;clear d;refine aR 10 (by rw[eU];decide) (fun K b=>?_);clear b
  conv=>arg 2;whnf
  go_wp2_with fail;exact U.out _ _ rfl rfl rfl rfl rfl (z.out rfl) p
 have r:Hid (!(isB y&&!A.s.opn.isEmpty))->Hid (dG A ((k:Int)+1) x.toList=some { A with s:=R.put { A.s with count:=A.s.count+1 } (.mk y []) }):=fun e=>by unfold Hid at e ⊢;rw[T.out];simp only[Bool.true_and];rw[if_pos e]
 cases hq:(y.op.toList==[98,97,114,114,105,101,114])
 ·have v:=r (by unfold Hid isB;rw[show cW.toList=[98,97,114,114,105,101,114] from aP _,hq];rfl);refine aR 9 (by rw[eU];decide) (fun K b=>?_);have d:=zAa b;clear b
  conv=>arg 2;whnf
  go_wp2_with fail;refine d.out _ _ ?_;clear d;refine aR 10 (by rw[eU];decide) (fun K b=>?_);have d:=zAa b;clear b
  conv=>arg 2;whnf
  go_wp2_with fail;refine d.out _ _ ?_;clear d;refine aR 11 (by rw[eU];decide) (fun K b=>?_);have d:=zAa b;clear b
  conv=>arg 2;whnf
  go_wp2_with (first | (refine oV (.tmp 27) rfl rfl gy y (.slice none 0 0) rfl I.out ?_) | (refine nL (.tmp 16) (.tmp 235) rfl rfl w.heap.size z0 y (.slice none 0 0) (.slice none 0 0) rfl rfl rfl H.out ?_;intro S o m;have t:=zAa o;have u:=zAa m;clear o m));refine d.out _ _ ?_;clear d;have g:∀ j,j<w.heap.size->S.heap[j]?=w.heap[j]?:=fun j J=>by
   rw[u.out.block j (by omega) (by simp;omega),C.block j J]
  exact V.out { A with s:={ A.s with count:=A.s.count+1 } } y [] _ _ _ _ _ _ _ tvs ovs G [] nms v.out rfl ⟨⟨rfl,rfl,rfl,rfl,rfl,rfl,rfl,rfl,rfl,rfl⟩,rfl,c.mem.mem.keep g,t.out,zAq.nil _ _,by simp,aX c.mem.nm (fun j e=>g j (c.mem.nm.lt j e).2),c.mem.eq,kM p u.out L⟩
 ·by_cases hol:ol=0
  ·have v:=r (by unfold Hid;rw[B,hol];simp);subst hol;refine aR 9 (by rw[eU];decide) (fun K b=>?_);have d:=zAa b;clear b
   conv=>arg 2;whnf
   go_wp2_with fail;refine d.out _ _ ?_;clear d;refine aR 10 (by rw[eU];decide) (fun K b=>?_);have d:=zAa b;clear b
   conv=>arg 2;whnf
   go_wp2_with fail;refine d.out _ _ ?_;clear d;refine aR 11 (by rw[eU];decide) (fun K b=>?_);have d:=zAa b;clear b
   conv=>arg 2;whnf
   go_wp2_with (first | (refine oV (.tmp 27) rfl rfl gy y (.slice none 0 0) rfl I.out ?_) | (refine nL (.tmp 16) (.tmp 235) rfl rfl w.heap.size z0 y (.slice none 0 0) (.slice none 0 0) rfl rfl rfl H.out ?_;intro S o m;have t:=zAa o;have u:=zAa m;clear o m));refine d.out _ _ ?_;clear d;have g:∀ j,j<w.heap.size->S.heap[j]?=w.heap[j]?:=fun j J=>by
    rw[u.out.block j (by omega) (by simp;omega),C.block j J]
   exact V.out { A with s:={ A.s with count:=A.s.count+1 } } y [] _ _ _ _ _ _ _ tvs ovs G [] nms v.out rfl ⟨⟨rfl,rfl,rfl,rfl,rfl,rfl,rfl,rfl,rfl,rfl⟩,rfl,c.mem.mem.keep g,t.out,zAq.nil _ _,by simp,aX c.mem.nm (fun j e=>g j (c.mem.nm.lt j e).2),c.mem.eq,kM p u.out L⟩
  ·have v:=z.out (by unfold isB;rw[show cW.toList=[98,97,114,114,105,101,114] from aP _,hq,B];simp[hol]);have X:(0:Int)<(ol:Int):=by omega
   clear hol;refine aR 9 (by rw[eU];decide) (fun K b=>?_);have d:=zAa b;clear b
   conv=>arg 2;whnf
   go_wp2_with fail;refine d.out _ _ ?_;clear d;refine aR 10 (by rw[eU];decide) (fun K b=>?_);clear b
   conv=>arg 2;whnf
   go_wp2_with fail;exact U.out _ _ rfl rfl rfl rfl rfl v p
theorem agS {x:ByteArray} (c:AC w1 w gr n ta oa na tl tc ol oc nc A k x tvs ovs G nms) (hf:AFr a gr n capr (.slice ta tl tc) (.slice oa ol oc) (.slice na ol nc) { A with s:={ A.s with count:=A.s.count+1 } } k) (hE:Hid (qT w1 A k x Q0)) (hP:Hid (yL w1 gr n capr A k x K))
  (Z:Hid (dG A ((k:Int)+1) x.toList=fO A x.toList)) (hc:A.s.count<40) (O:iH x.toList=false) (H:Below w.heap.size w w2) (hX:Hid (zBG w2 w.heap.size z0 (.slice none 0 0))) (L:gA a 13=.string x) (M:gA a 16=.pointer (some ⟨w.heap.size,0,none⟩)) :
  dK prog ((aE f5).drop 5) (Exit.then K (xR 1 (Exit.then K0 Q0))) a w2:=by
 obtain⟨q1,q2,q5,q6,q7,q8,q3,q4⟩:=c.q;have ad:=c.lt;have ae:=c.nn;have C:=c.bel.trans (H.mono q3);have ag:=hX.out.lt;have F:x.size<=8192:=by have:=c.xs;omega
 have u:Hid (dG A ((k:Int)+1) x.toList=_):=Z.out.trans (kJD hc O);clear Z;obtain⟨sz,df,s5,s6,s7,s8,s9,V,W,X⟩:=hf;rw[hD sz df];simp only[gF,s5,s6,s7,s8,s9,V,W,X,L,M];generalize gA a=f
 cases hs:(eX x.toList).2
 ·refine aR 5 (by rw[eU];decide) (fun K j=>?_);have m:=zAa j;clear j
  conv=>arg 2;whnf
  go_wp2_with (first | (go_at_call 12;refine (zHe x _ F).mono ?_;rintro e Y ⟨v,rfl,_,_,p⟩;rw[hs];have o:=p.mono (xW _);dsimp only));refine m.out _ _ ?_;clear m;refine aR 6 (by rw[eU];decide) (fun K j=>?_);have m:=zAa j;clear j
  conv=>arg 2;whnf
  go_wp2_with fail;refine m.out _ _ ?_;clear m;refine aR 7 (by rw[eU];decide) (fun K j=>?_);clear j
  conv=>arg 2;whnf
  go_wp2_with fail;exact hE.out _ _ rfl rfl rfl rfl rfl (by rw[u.out,hs];rfl) (C.trans (p.mono C.size))
 ·refine aR 5 (by rw[eU];decide) (fun K j=>?_);have m:=zAa j;clear j
  conv=>arg 2;whnf
  go_wp2_with (first | (go_at_call 12;refine (zHe x _ F).mono ?_;rintro e Y ⟨v,rfl,_,hv,p⟩;obtain⟨g,cc,ws,rfl,U,af,D,E,ac⟩:=hv hs;rw[hs];have J:=zAa E;have z:=zAa D;clear E D hv;dsimp only));refine m.out _ _ ?_;clear m;have S:ws≠[]:=fun e=>by
   obtain⟨c0,r0,h0,_⟩:=EN hs;have:=z.out;rw[e,h0] at this;simp at this
  obtain⟨d,r,rfl⟩:=List.exists_cons_of_ne_nil S;have T:jB (eX x.toList).1=fG d r:=by
   rw[<- z.out,x2];show fG (iU d.toList) ((r.map xF).map iU)=_;rw[sK,List.map_map]
   congr 1
   conv=>rhs;rw[<- List.map_id r]
   exact List.map_congr_left fun b _=>by simp[sK]
  rw[T,hs] at u;have I:Hid (∀ t:World,Below Y.heap.size Y t->Calls prog 13 #[.slice (some ⟨g,0,none⟩) (d::r).length cc] t fun e w'=>e=.returned (.tuple #[.agg #[.string (fG d r).1.op,.int .i64 (fG d r).1.reg,.int .i64 (fG d r).1.var,.int .i64 (fG d r).1.a,.int .i64 (fG d r).1.b,.string (fG d r).1.sign,.string (fG d r).1.ord,.string (fG d r).1.scope,.slice none 0 0],.bool (fG d r).2])/\Below t.heap.size t w'):=fun t o =>
   zLk g 0 _ cc d r t (J.out.below o) rfl U (by have:=o.size;omega)
  have aa:=p.size;have B:=H.size;generalize (d::r).length=wl at *;refine aR 6 (by rw[eU];decide) (fun K j=>?_);have m:=zAa j;clear j
  conv=>arg 2;whnf
  go_wp2_with fail;refine m.out _ _ ?_;clear m;refine aR 7 (by rw[eU];decide) (fun K j=>?_);have m:=zAa j;clear j
  conv=>arg 2;whnf
  go_wp2_with fail;refine m.out _ _ ?_;clear m;refine aR 8 (by rw[eU];decide) (fun K j=>?_);have m:=zAa j;clear j
  conv=>arg 2;whnf
  go_wp2_with (first | (go_at_call 13;refine (I.out _ (x1 _ _)).mono ?_;rintro e t ⟨rfl,o⟩;have ab:=o.size;dsimp only));refine m.out _ _ ?_;clear m;have N:Below w.heap.size w (t.alloc (.cells (bV (fG d r).1 (.slice none 0 0)) 44)):=((H.trans (p.mono B)).trans (o.mono (by omega))).alloc (by omega) _;exact zMa c ⟨rfl,rfl,rfl,rfl,rfl,rfl,rfl,rfl,rfl,rfl⟩ hE hP (gy:=t.heap.size) (y:=(fG d r).1) (fine:=(fG d r).2) (by simpa using u) N (((hX.out.below p).below o).alloc _) (zBG.bT _ _ _) (by omega) rfl rfl rfl
end Go.Proofs.YtonodfjdiepglaaGreatDoor
