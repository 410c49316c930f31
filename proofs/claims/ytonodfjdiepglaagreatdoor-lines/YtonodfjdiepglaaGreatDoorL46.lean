import Derived.Test.YtonodfjdiepglaaGreatDoorL45
set_option linter.unusedVariables false
set_option linter.unusedSimpArgs false
set_option maxHeartbeats 12800000
namespace Go.Proofs.YtonodfjdiepglaaGreatDoor
open Go Go.RowKit Go.Proofs.Tryz P Q R
set_option maxRecDepth 1000000
variable {w w1:World} {ovs tvs:List Value} {G:List Nat} {capr gr k n nc oc ol tc tl:Nat} {na oa ta:Option Addr} {A:AS} {nms:List ByteArray} {a:Act} {K0:Act->World->Prop} {Q0:Exit->Act->World->Prop}
open Go.RowKit.Below renaming heap_alloc→xF
open Go.World renaming news_of_block→xR
open Go.Value renaming oneCell'→xW
open List renaming map_append→x1
theorem RdM.wD {g:World} {B m:Nat} {r p o:Value} {q:List R.Th} {l:List Fr} {s:List Value} (h:RdM w B r p q l tvs ovs G) (j:w.ownsRow B 9 1 o m s) (i:∀ k,k<w.heap.size->g.heap[k]?=w.heap[k]?) (d:w.heap.size<=g.heap.size) (b:g.grownBy w1 o.ownBlock):RdM w1 B r p q l tvs ovs G :=
 ⟨aX h.th (fun k e=>by obtain⟨c,f⟩:=eC h.th e;exact lM j i d b f (by decide)),aX h.fr (fun k e=>by obtain⟨c,f⟩:=eC h.fr e;exact lM j i d b f (by decide)),h.lt,h.lo,h.kids.keep (fun k e=>by obtain⟨c,f⟩:=h.kids.eP k e;exact lM j i d b f (by decide))⟩
theorem zLZ {D:World} {x:ByteArray} (c:AC w1 w gr n ta oa na tl tc ol oc nc A k x tvs ovs G nms) (hf:AFr a gr n capr (.slice ta tl tc) (.slice oa ol oc) (.slice na ol nc) { A with s:={ A.s with count:=A.s.count+1 } } k) {K:Act->World->Prop} (hN:Hid (tH w1 gr n capr A k x K0)) (U:Below w.heap.size w D) {v:Int} {b:ByteArray} (ag:Hid (b.toList=kAO (A.lb+1)))
  (HR:Hid (dG A ((k:Int)+1) x.toList=some ⟨{ A.s with count:=A.s.count+1,opn:=A.s.opn++[⟨[],v⟩] },A.nm++[kAO (A.lb+1)],A.lb+1⟩)) (Z:gA a 18=.string b) (aa:gA a 22=.int .i64 v) (ho:ol<2) :
  dK prog ((aZ f5).drop 10) (Exit.then K (Exit.inBlock 1 (Exit.then K0 Q0))) a D:=by
 obtain⟨q1,q2,q5,q6,q7,q8,q3,q4⟩:=c.q;have ar:=c.lt;have au:=c.nn;have L:=c.bel.trans (U.mono q3);have ab:=L.size;have HM:=zAa (c.mem.mem.keep (w':=D) (fun j m=>U.block j m));have o:w.ownsRow w1.heap.size 9 1 (.slice na ol nc) ol (nms.map Value.string):=by have:=c.mem.nm;rw[q4] at this;exact this
 have B:=zAa (aX o (w':=D) (fun j e=>U.block j (o.lt j e).2));have E:Hid (∀ W,RdM W w1.heap.size (.slice ta tl tc) (.slice oa ol oc) A.s.ts A.s.opn tvs ovs G->W.ownsRow w1.heap.size 46 10 (.slice oa ol oc) ol (zBn A.s.opn ovs)):=fun W h=>by have:=h.fr;rw[<- c.hol] at this;exact this
 have Y:=zAa q4;clear o q4;obtain⟨i0,hi,ah,ai,aj⟩:=info_parts Tryz.infoStr;obtain⟨i1,af,O,S,T⟩:=info_parts Tryz.infoFr;obtain⟨sz,df,s5,s6,s7,s8,s9,ak,al,am⟩:=hf;rw[hD sz df];simp only[gF,s5,s6,s7,s8,s9,ak,al,am,Z,aa];generalize gA a=f;refine aR 10 (by rw[eM];decide) (fun K g=>?_);have i:=zAa g;clear g
 conv=>arg 2;whnf
 go_wp2_with fail;refine i.out _ _ ?_;clear i;refine aR 11 (by rw[eM];decide) (fun K g=>?_);have i:=zAa g;clear g
 conv=>arg 2;whnf
 go_wp2_with (first | (at_builtin;refine wpList_append_lies _ rfl (.tmp 196) (.tmp 198) 37 rfl w1.heap.size 9 i0 (.string ByteArray.empty) 1 16 underlying37 hi ah ai aj rfl (by decide) _ _ _ rfl (B.out.alloc _) ⟨D.heap.size,0,none⟩ 1 1 [.string b] rfl rfl ?c1 ?c2 (by decide) ?c3 ?c4 ?c5 _ rfl ?_))
 case c1=>exact xR (cs:=#[.string b]) (t:=9) (fr:=(0,0)) (heap_alloc_new D _)
 case c2=>simp[xW]
 case c3=>unfold maxLen;omega
 case c4=>omega
 case c5=>simp;omega
 intro g1 an w4 u l ad ap;have H:=zAa u;have z:=zAa l;clear u l ad;go_wp2_with fail;refine i.out _ _ ?_;clear i;have F:=zAa (HM.out.wD B.out (fun j m=>xF _ _ _ m) (by simp) z.out);have J:Below w1.heap.size w1 w4:=Below.grown (L.alloc ab _) z.out (by simp;omega) (fun j m=>(B.out.lt j m).1);have ac:=J.size;have y:=zAa (E.out _ F.out);clear z HM E;refine aR 12 (by rw[eM];decide) (fun K g=>?_);have i:=zAa g;clear g
 conv=>arg 2;whnf
 go_wp2_with (first | (at_builtin;refine wpList_append_lies _ rfl (.tmp 200) (.tmp 204) 39 rfl w1.heap.size 46 i1 (.agg (#[.slice none 0 0]++bV z0 (.slice none 0 0))) 10 144 underlying39 af O S T rfl (by decide) _ _ _ rfl (y.out.alloc _) ⟨w4.heap.size,0,none⟩ 1 1 (nV v (.slice none 0 0)) rfl rfl ?c1 ?c2 (by decide) ?c3 ?c4 ?c5 _ rfl ?_))
 case c1=>exact xR (cs:=(nV v (.slice none 0 0)).toArray) (t:=46) (fr:=(0,0)) (heap_alloc_new w4 _)
 case c2=>simp[nV,bV,xW]
 case c3=>unfold maxLen;omega
 case c4=>omega
 case c5=>simp;omega
 intro g2 ao w5 p d I aq;have C:=zAa p;have r:=zAa d;clear p d I;go_wp2_with fail;refine i.out _ _ ?_;clear i;have M:=RdM.branch F.out (fun j m=>xF _ _ _ m) (by simp) (by rw[<- c.hol];exact C.out) r.out;have ae:Below w1.heap.size w1 w5:=Below.grown (J.alloc ac _) r.out (by simp;omega) (fun j m=>(y.out.lt j m).1);have N:=xX H.out y.out (fun j m=>xF _ _ _ m) (by simp) r.out (by decide);have V:=zAa M;have X:=zAa N;clear M N r;refine aR 13 (by rw[eM];decide) (fun K g=>?_);have i:=zAa g;clear g
 conv=>arg 2;whnf
 go_wp2_with fail;refine i.out _ _ ?_;clear i;refine aR 14 (by rw[eM];decide) (fun K g=>?_);clear g
 conv=>arg 2;whnf
 go_wp2_with fail;exact hN.out _ _ _ _ _ _ _ _ _ (nms++[b]) HR.out V.out (by rw[List.length_append,x1,Y.out];exact X.out) (by rw[x1,c.mem.eq,List.map_cons,ag.out];rfl) ae ⟨rfl,rfl,rfl,rfl,rfl,rfl,rfl,rfl,rfl,rfl⟩
theorem agZ {w2:World} {x:ByteArray} (c:AC w1 w gr n ta oa na tl tc ol oc nc A k x tvs ovs G nms) (hf:AFr a gr n capr (.slice ta tl tc) (.slice oa ol oc) (.slice na ol nc) { A with s:={ A.s with count:=A.s.count+1 } } k) {K9:Act->World->Prop} (L:Hid (qT w1 A k x Q0)) (hN:Hid (tH w1 gr n capr A k x K0)) (X:Hid (dG A ((k:Int)+1) x.toList=fO A x.toList)) (hc:A.s.count<40) (D:iH x.toList=true) (W:Below w.heap.size w w2) (v:gA a 13=.string x) :
  dK prog ((aZ f5).drop 0) (Exit.then K9 (Exit.inBlock 1 (Exit.then K0 Q0))) a w2:=by
 obtain⟨q1,q2,q5,q6,q7,q8,q3,q4⟩:=c.q;have ae:=c.lt;have ag:=c.nn;refine zLY (A1:={ A with s:={ A.s with count:=A.s.count+1 } }) c rfl hf D v ?_;intro a w3 g nw ab d rs aa O E F ac hg ad ah U y z l B;clear hf v;have i:Hid (dG A ((k:Int)+1) x.toList=_):=X.out.trans (kLI hc D E);rw[<- c.hol] at i;clear X E;have N:=zAa F;have M:Below w.heap.size w w3:=W.trans (O.mono W.size);have m:=c.bel.trans (M.mono q3);have af:(0:Int)<(nw:Int):=by omega
 clear F;obtain⟨sz,df,s5,s6,s7,s8,s9,H,I,J⟩:=U;rw[hD sz df]
 cases hok:nW rs (kAO (A.lb+1)) ol
 ·rw[hok] at l i;simp only[gF,s5,s6,s7,s8,s9,H,I,J,y,z,l,B];generalize gA a=f;refine aR 4 (by rw[eM];decide) (fun K b=>?_);have j:=zAa b;clear b
  conv=>arg 2;whnf
  go_wp2_with fail;refine j.out _ _ ?_;clear j;refine aR 5 (by rw[eM];decide) (fun K b=>?_);clear b
  conv=>arg 2;whnf
  go_wp2_with fail;exact L.out _ _ rfl rfl rfl rfl rfl i.out m
 rw[hok] at l i;have ho:ol<2:=by unfold nW at hok;simp only[Bool.and_eq_true,decide_eq_true_eq] at hok;exact hok.2
 simp only[gF,s5,s6,s7,s8,s9,H,I,J,y,z,l,B];generalize gA a=f;by_cases hd2:2<=d.size
 rotate_left
 ·have T:(d.size:Int)-1<1:=by omega
  rw[decide_eq_false hd2] at i;refine aR 4 (by rw[eM];decide) (fun K b=>?_);have j:=zAa b;clear b
  conv=>arg 2;whnf
  go_wp2_with fail;refine j.out _ _ ?_;clear j;refine aR 5 (by rw[eM];decide) (fun K b=>?_);clear b
  conv=>arg 2;whnf
  go_wp2_with fail;exact L.out _ _ rfl rfl rfl rfl rfl i.out m
 have T:¬ (d.size:Int)-1<1:=by omega
 rw[decide_eq_true hd2] at i;have hw:wrap64 ((d.size:Int)-1)=(d.size:Int)-1:=by unfold wrap64;omega
 have aj:(0:Int)<=(d.size:Int)-1:=by omega
 have ak:(d.size:Int)-1<(d.size:Int):=by omega
 have al:d.size-1<d.size:=by omega
 have Y:Hid ((d.toList.getLast?==some 44)=(((d[d.size-1]'al).toNat:Int)==44)):=DM d (by omega);have o:(((d[d.size-1]'al).toNat:Int) != 44)=!(((d[d.size-1]'al).toNat:Int)==44):=rfl;rw[Y.out] at i
 cases hbc:(((d[d.size-1]'al).toNat:Int)==44)
 ·rw[hbc] at o i;refine aR 4 (by rw[eM];decide) (fun K b=>?_);have j:=zAa b;clear b
  conv=>arg 2;whnf
  go_wp2_with fail;refine j.out _ _ ?_;clear j;refine aR 5 (by rw[eM];decide) (fun K b=>?_);clear b
  conv=>arg 2;whnf
  go_wp2_with fail;exact L.out _ _ rfl rfl rfl rfl rfl i.out m
 rw[hbc] at o i;refine aR 4 (by rw[eM];decide) (fun K b=>?_);have j:=zAa b;clear b
 conv=>arg 2;whnf
 go_wp2_with fail;refine j.out _ _ ?_;clear j;refine aR 5 (by rw[eM];decide) (fun K b=>?_);have j:=zAa b;clear b
 conv=>arg 2;whnf
 go_wp2_with fail;refine j.out _ _ ?_;clear j;have ai:∀ V,(Instr.slice 9 (.string d) none (some (.int .i64 ((d.size:Int)-1))) none).run prog V=.ok (.string (d.extract 0 (d.size-1))) V:=fun V=>by
  rw[run_slice_string_to_if _ _ _ _ _ underlying9,if_pos (by omega)]
  congr 3;omega
 have HU:Hid (d.toList.dropLast=(d.extract 0 (d.size-1)).toList):=by
  unfold Hid;rw[fW,List.dropLast_eq_take,bS];simp
 rw[HU.out] at i;clear HU Y hbc o;generalize d.extract 0 (d.size-1)=u at *;refine aR 6 (by rw[eM];decide) (fun K b=>?_);have j:=zAa b;clear b
 conv=>arg 2;whnf
 go_wp2_with (first | (go_at_call 10;refine (zFy u 97 _).mono ?_;rintro e w4 ⟨rfl,p⟩;have p:=p.symm;subst p;dsimp only));refine j.out _ _ ?_;clear j;have Z:Hid (bA 97 u.toList=(iU (bA 97 u.toList)).toList):=(pX _).symm;rw[Z.out] at i;clear Z;generalize iU (bA 97 u.toList)=t at *;refine aR 7 (by rw[eM];decide) (fun K b=>?_);have j:=zAa b;clear b
 conv=>arg 2;whnf
 go_wp2_with (first | (go_at_call 11;refine (nY t _).mono ?_;rintro e w4 ⟨rfl,S⟩;dsimp only));refine j.out _ _ ?_;clear j;have r:=M.trans (S.mono M.size);have C:=c.bel.trans (r.mono q3)
 cases hop:(aW t.toList).2
 ·rw[hop] at i;refine aR 8 (by rw[eM];decide) (fun K b=>?_);have j:=zAa b;clear b
  conv=>arg 2;whnf
  go_wp2_with fail;refine j.out _ _ ?_;clear j;refine aR 9 (by rw[eM];decide) (fun K b=>?_);clear b
  conv=>arg 2;whnf
  go_wp2_with fail;exact L.out _ _ rfl rfl rfl rfl rfl i.out C
 ·rw[hop] at i;refine aR 8 (by rw[eM];decide) (fun K b=>?_);have j:=zAa b;clear b
  conv=>arg 2;whnf
  go_wp2_with fail;refine j.out _ _ ?_;clear j;refine aR 9 (by rw[eM];decide) (fun K b=>?_);have j:=zAa b;clear b
  conv=>arg 2;whnf
  go_wp2_with fail;refine j.out _ _ ?_;clear j;exact zLZ c ⟨rfl,rfl,rfl,rfl,rfl,rfl,rfl,rfl,rfl,rfl⟩ hN r N i rfl rfl ho
end Go.Proofs.YtonodfjdiepglaaGreatDoor
