import Derived.Test.YtkmebkbpfmoeaaaGreatE20
set_option linter.unusedVariables false
set_option linter.unusedSimpArgs false
set_option maxHeartbeats 12800000
namespace Go.Proofs.YtkmebkbpfmoeaaaGreat
open Go Go.RowKit
set_option maxRecDepth 100000
namespace Q
def mayTo (es:List Ev) (i k:Nat):List Int:=((List.range k).filter (mayR es i)).map fun k:Nat=>(k:Int)
theorem mayTo_succ (es:List Ev) (i k:Nat):mayTo es i (k+1)=mayTo es i k++if mayR es i k then [(k:Int)] else []:=by
 unfold mayTo
 rw[List.range_succ,List.filter_append,List.map_append]
 congr 1
 cases h:mayR es i k<;>simp[List.filter,h]
theorem zKd (es:List Ev) (i k:Nat):(mayTo es i k).length≤k:=by
 unfold mayTo
 rw[List.length_map]
 have:=List.length_filter_le (mayR es i) (List.range k)
 simpa using this
end Q
theorem zAR.grownT {w w':World} {g:Nat} {e:Q.Ev} {u:Value} {B n sz:Nat} {t:TypeId} {xs:List Value} (h:zAR w g e) (ho:w.ownsRow B t sz u n xs) (ht:t≠129) (hg:w.grownBy w' u.ownBlock):zAR w' g e:=by
 have h2:=h.lt
 unfold zAR at *
 rw[hg.block g h2 (fun e=>by
  rcases ho.2 with ⟨e1,_⟩ | ⟨g',cap,cur,e1,_,hh,_⟩
  ·rw[e1] at e;simp[Value.ownBlock] at e
  ·rw[e1] at e;simp[Value.ownBlock] at e
   subst e
   rw[h] at hh;simp at hh;exact ht hh.2.symm)]
 exact h
theorem zFi (ev rg:Value) (es:List Q.Ev) (i:Nat) (w:World) (he:zAX w ev es) (hrg:∃ a n c,rg=.slice a n c) (hi:i<es.length) (hn:es.length≤64) :
  Calls Tryz.prog 106 #[.agg #[ev,rg],.int .i64 (i:Int)] w fun e w'=>∃ v,e=.returned v∧zBF w' v (Q.zJh es i)∧(∀ k,v.ownBlock=some k→w.heap.size≤k)∧Below w.heap.size w w':=by
 obtain⟨i0,hi0,hz0,hz1,hz2⟩:=info_parts Tryz.infoIntM
 obtain⟨ea,ec,rfl,hea⟩:=he.form
 obtain⟨ra,rn,rc,rfl⟩:=hrg
 obtain⟨be,rfl,hbe⟩:=hea (by omega)
 obtain⟨k0,hsz,hbw⟩:=zBw w #[.slice (some ⟨be,0,none⟩) es.length ec,.slice ra rn rc] 61
 have HE0:=zAa he
 have BW0:=zAa hbw
 have HR0:Hid (∀ W:World,Below w.heap.size w W→∀ k,k<es.length→W.rangeAt be (k*10) (zAb (Q.ev es k)).toList):=fun W hb k hk=>zAA (HE0.out.range' rfl k hk) (hb.block be hbe)
 have hil:(i:Int)<(es.length:Int):=by omega
 have HMR:Hid (Q.zJh es i=if (Q.ev es i).kind==0 then Q.mayTo es i es.length else [-1]):=rfl
 have HMB:Hid (∀ k,Q.mayR es i k=((Q.ev es k).kind==1&&(Q.ev es k).var==(Q.ev es i).var&&(Q.ev es k).value==(Q.ev es i).value&&!((Q.ev es i).step&&k==i+1))):=fun _=>rfl
 clear hbw he hea
 go_enter Tryz.func106,Tryz.ntmps106
 go_upto_region 1 with fail
 generalize hE:w.alloc (.cells #[.slice (some ⟨be,0,none⟩) es.length ec,.slice ra rn rc] 61)=W0 at *
 have c00:=ceL k0 0 _ rfl
 have l0:w.heap.size<W0.heap.size:=by omega
 have lbe:be<W0.heap.size:=by omega
 have HRI:=zAa (HR0.out W0 BW0.out i hi)
 have ck:=HRI.out 0 (.int .i64 (Q.ev es i).kind) rfl
 have hd0:decide ((i:Int)<0)=false:=decide_eq_false (by omega)
 have hd1:decide ((es.length:Int)≤(i:Int))=false:=decide_eq_false (by omega)
 clear hE k0 hsz
 have hzz:((Q.ev es i).kind != 0)=!((Q.ev es i).kind==0):=rfl
 generalize hei:Q.ev es i=ei at *
 simp only[Nat.add_zero] at ck
 cases z0:(ei.kind==0)
 ·rw[z0] at hzz
  have HV:Hid (Q.zJh es i=[-1]):=by unfold Hid;rw[HMR.out,z0];rfl
  go_wp2
  go_ret
  refine⟨_,rfl,?_,fun k hk=>by simp[Value.ownBlock] at hk;omega,BW0.out.alloc (by have:=BW0.out.size;omega) _⟩
  rw[HV.out]
  refine Or.inr ⟨W0.heap.size,1,rfl,fun j hj=>?_,by simp⟩
  have hj0:j=0:=by simp at hj;omega
  subst hj0
  have h1:=heap_alloc_new W0 (.cells #[.int .i64 (-1)] 3)
  simp only[World.cell?,h1];rfl
 ·rw[z0] at hzz
  have HV:Hid (Q.zJh es i=Q.mayTo es i es.length):=by unfold Hid;rw[HMR.out,z0];rfl
  have HA0:Hid (zAR (W0.alloc (.cells (zAb ei) 129)) W0.heap.size ei):=zAR.new W0 ei
  have HB0:Hid (Below W0.heap.size W0 (W0.alloc (.cells (zAb ei) 129))):=(Below.refl _ _).alloc (Nat.le_refl _) _
  go_wp2_with (first | (refine zAg (.tmp 32) rfl rfl be (i*10) ei rfl HRI.out ?_))
  go_loopw [6,37] (fun a j wr=>∃ (k:Nat) (v:Value),k≤es.length∧j=.int .i64 k∧a=v∧Hid (wr.ownsRow W0.heap.size 3 1 v (Q.mayTo es i k).length ((Q.mayTo es i k).map (Value.int .i64)))∧Hid (Below W0.heap.size W0 wr)∧Hid (zAR wr W0.heap.size ei)) (fun _ j _=>es.length-(intOf j).toNat)
  case atStart=>exact⟨0,_,Nat.zero_le _,rfl,rfl,by simpa [Hid,Q.mayTo] using World.ownsRow_nil _ _ _ _,HB0,HA0⟩
  case round =>
   clear HA0 HB0
   obtain⟨k,v,hk,rfl,hav,HO,HB,HA⟩:=hrel
   have hav:=hav.symm
   subst hav
   have hform:∃ a c,v=.slice a (Q.mayTo es i k).length c:=by
    rcases HO.out.2 with ⟨e,h0⟩ | ⟨g',c,cur,e,_⟩
    ·exact⟨none,0,by rw[e,h0]⟩
    ·exact⟨_,c,e⟩
   obtain⟨va,vc,rfl⟩:=hform
   by_cases hlt:k<es.length
   ·have hin:(k:Int)<(es.length:Int):=by omega
    have HRK:=zAa (HR0.out wr (zAo BW0.out (Nat.le_refl _) HB.out) k hlt)
    have lb:=Nat.lt_of_lt_of_le lbe HB.out.size
    have HS:=zAa (Q.mayTo_succ es i k)
    have HMK:=zAa (HMB.out k)
    rw[HMK.out] at HS
    have hml:=Q.zKd es i k
    generalize Q.ev es k=e1 at *
    have HB1:Hid (Below W0.heap.size W0 (wr.alloc (.cells (zAb e1) 129))):=HB.out.alloc HB.out.size _
    have HA1:=zAa (HA.out.alloc (.cells (zAb e1) 129))
    have HO1:Hid ((wr.alloc (.cells (zAb e1) 129)).ownsRow W0.heap.size 3 1 (.slice va (Q.mayTo es i k).length vc) (Q.mayTo es i k).length ((Q.mayTo es i k).map (Value.int .i64))):=zAd HO.out (fun y e=>Below.heap_alloc _ _ _ (HO.out.lt y e).2)
    obtain⟨x0,x1,x2,x3,x4,x5,x6,x7,x8,x9,xf,xl⟩:=HA1.out.facts
    clear x0 x1 x2 x5 x6 x7 x9
    simp only[zAb] at x3 x4 x8 xf xl
    have hkk:((k:Int)==(i:Int)+1)=(k==i+1):=by
     by_cases h:k=i+1
     ·have h':(k:Int)=(i:Int)+1:=by omega
      rw[beq_iff_eq.2 h',beq_iff_eq.2 h]
     ·have h':¬ ((k:Int)=(i:Int)+1):=by omega
      rw[beq_eq_false_iff_ne.2 h',beq_eq_false_iff_ne.2 h]
    have HNO:Hid (∀ b:Bool,b=false→Q.mayTo es i (k+1)=Q.mayTo es i k++(if b then [(k:Int)] else [])→Q.mayTo es i (k+1)=Q.mayTo es i k):=fun b hb h=>by rw[h,hb];simp
    generalize hstp:ei.step=sp at *
    clear hstp
    cases sp
    ·skip
     cases z1:(e1.kind==1)
     ·have HN:Hid (Q.mayTo es i (k+1)=Q.mayTo es i k):=HNO.out _ (by simp[z1]) HS.out
      go_wp2_with (first | (refine zAg (.tmp 40) rfl rfl be (k*10) e1 rfl HRK.out ?_))
      go_roundw
      case rel=>exact⟨k+1,_,by omega,by go_num,rfl,by rw[HN.out];exact HO1,HB1,HA1⟩
      case measure=>simp[intOf];omega
     cases z2:(e1.var==ei.var)
     ·have HN:Hid (Q.mayTo es i (k+1)=Q.mayTo es i k):=HNO.out _ (by simp[z1,z2]) HS.out
      go_wp2_with (first | (refine zAg (.tmp 40) rfl rfl be (k*10) e1 rfl HRK.out ?_))
      go_roundw
      case rel=>exact⟨k+1,_,by omega,by go_num,rfl,by rw[HN.out];exact HO1,HB1,HA1⟩
      case measure=>simp[intOf];omega
     cases z3:(e1.value==ei.value)
     ·have HN:Hid (Q.mayTo es i (k+1)=Q.mayTo es i k):=HNO.out _ (by simp[z1,z2,z3]) HS.out
      go_wp2_with (first | (refine zAg (.tmp 40) rfl rfl be (k*10) e1 rfl HRK.out ?_))
      go_roundw
      case rel=>exact⟨k+1,_,by omega,by go_num,rfl,by rw[HN.out];exact HO1,HB1,HA1⟩
      case measure=>simp[intOf];omega
     ·have HN:Hid (Q.mayTo es i (k+1)=Q.mayTo es i k++[(k:Int)]):=by unfold Hid;rw[HS.out];simp[z1,z2,z3]
      have hwl:W0.heap.size≤wr.heap.size:=HB.out.size
      have BA:Below (wr.alloc (.cells (zAb e1) 129)).heap.size (wr.alloc (.cells (zAb e1) 129)) ((wr.alloc (.cells (zAb e1) 129)).alloc (.cells #[.int .i64 (k:Int)] 3)):=(Below.refl _ _).alloc (Nat.le_refl _) _
      have HO2:Hid (((wr.alloc (.cells (zAb e1) 129)).alloc (.cells #[.int .i64 (k:Int)] 3)).ownsRow W0.heap.size 3 1 (.slice va (Q.mayTo es i k).length vc) (Q.mayTo es i k).length ((Q.mayTo es i k).map (Value.int .i64))):=zAd HO1.out (fun y e=>BA.block y (HO1.out.lt y e).2)
      have HN2:Hid (∀ j u,[Value.int .i64 (k:Int)][j]?=some u→((wr.alloc (.cells (zAb e1) 129)).alloc (.cells #[.int .i64 (k:Int)] 3)).cell? ((⟨wr.heap.size+1,0,none⟩:Addr).add j)=some u):=World.news_of_block (cs:=#[.int .i64 (k:Int)]) (t:=3) (fr:=(0,0)) (by have:=heap_alloc_new (wr.alloc (.cells (zAb e1) 129)) (.cells #[.int .i64 (k:Int)] 3);simpa using this)
      have HB2:Hid (Below W0.heap.size W0 ((wr.alloc (.cells (zAb e1) 129)).alloc (.cells #[.int .i64 (k:Int)] 3))):=HB1.out.alloc (by simp;omega) _
      have HA2:=zAa (HA1.out.below BA)
      clear BA
      go_wp2_with (first | (refine zAg (.tmp 40) rfl rfl be (k*10) e1 rfl HRK.out ?_) | (at_builtin;refine wpList_append_lies _ rfl (.tmp 71) (.tmp 73) 31 rfl W0.heap.size 3 i0 (.int .i64 0) 1 8 Tryz.underlying31 hi0 hz0 hz1 hz2 rfl (by decide) _ (Q.mayTo es i k).length ((Q.mayTo es i k).map (Value.int .i64)) rfl (by exact HO2.out) ⟨wr.heap.size+1,0,none⟩ 1 1 [.int .i64 (k:Int)] rfl rfl (by exact HN2.out) (by simp[Value.oneCell']) (by decide) (by unfold maxLen;omega) (by omega) (by simp;omega) _ rfl ?_;intro gn cn w5 hown5 hgrow5 hat5 hlt5))
      have HB5:Hid (Below W0.heap.size W0 w5):=HB2.out.trans ⟨hgrow5.os,hgrow5.tape,hgrow5.output,hgrow5.size,fun y hy=>hgrow5.block y (by simp;omega) (fun e=>by have:=(HO2.out.lt y e.symm).1;omega)⟩
      have HA5:=zAa (HA2.out.grownT HO2.out (by decide) hgrow5)
      have HO5:Hid (w5.ownsRow W0.heap.size 3 1 (.slice (some ⟨gn,0,none⟩) ((Q.mayTo es i k).length+1) cn) (Q.mayTo es i (k+1)).length ((Q.mayTo es i (k+1)).map (Value.int .i64))):=by
       unfold Hid;rw[HN.out,List.map_append,List.length_append];exact hown5
      clear hown5 hgrow5
      go_roundw
      case rel=>exact⟨k+1,_,by omega,by go_num,rfl,HO5,HB5,HA5⟩
      case measure=>simp[intOf];omega
    cases z5:(k==i+1)
    ·rw[z5] at hkk
     cases z1:(e1.kind==1)
     ·have HN:Hid (Q.mayTo es i (k+1)=Q.mayTo es i k):=HNO.out _ (by simp[z1,z5]) HS.out
      go_wp2_with (first | (refine zAg (.tmp 40) rfl rfl be (k*10) e1 rfl HRK.out ?_))
      go_roundw
      case rel=>exact⟨k+1,_,by omega,by go_num,rfl,by rw[HN.out];exact HO1,HB1,HA1⟩
      case measure=>simp[intOf];omega
     cases z2:(e1.var==ei.var)
     ·have HN:Hid (Q.mayTo es i (k+1)=Q.mayTo es i k):=HNO.out _ (by simp[z1,z2,z5]) HS.out
      go_wp2_with (first | (refine zAg (.tmp 40) rfl rfl be (k*10) e1 rfl HRK.out ?_))
      go_roundw
      case rel=>exact⟨k+1,_,by omega,by go_num,rfl,by rw[HN.out];exact HO1,HB1,HA1⟩
      case measure=>simp[intOf];omega
     cases z3:(e1.value==ei.value)
     ·have HN:Hid (Q.mayTo es i (k+1)=Q.mayTo es i k):=HNO.out _ (by simp[z1,z2,z3,z5]) HS.out
      go_wp2_with (first | (refine zAg (.tmp 40) rfl rfl be (k*10) e1 rfl HRK.out ?_))
      go_roundw
      case rel=>exact⟨k+1,_,by omega,by go_num,rfl,by rw[HN.out];exact HO1,HB1,HA1⟩
      case measure=>simp[intOf];omega
     ·have HN:Hid (Q.mayTo es i (k+1)=Q.mayTo es i k++[(k:Int)]):=by unfold Hid;rw[HS.out];simp[z1,z2,z3,z5]
      have hwl:W0.heap.size≤wr.heap.size:=HB.out.size
      have BA:Below (wr.alloc (.cells (zAb e1) 129)).heap.size (wr.alloc (.cells (zAb e1) 129)) ((wr.alloc (.cells (zAb e1) 129)).alloc (.cells #[.int .i64 (k:Int)] 3)):=(Below.refl _ _).alloc (Nat.le_refl _) _
      have HO2:Hid (((wr.alloc (.cells (zAb e1) 129)).alloc (.cells #[.int .i64 (k:Int)] 3)).ownsRow W0.heap.size 3 1 (.slice va (Q.mayTo es i k).length vc) (Q.mayTo es i k).length ((Q.mayTo es i k).map (Value.int .i64))):=zAd HO1.out (fun y e=>BA.block y (HO1.out.lt y e).2)
      have HN2:Hid (∀ j u,[Value.int .i64 (k:Int)][j]?=some u→((wr.alloc (.cells (zAb e1) 129)).alloc (.cells #[.int .i64 (k:Int)] 3)).cell? ((⟨wr.heap.size+1,0,none⟩:Addr).add j)=some u):=World.news_of_block (cs:=#[.int .i64 (k:Int)]) (t:=3) (fr:=(0,0)) (by have:=heap_alloc_new (wr.alloc (.cells (zAb e1) 129)) (.cells #[.int .i64 (k:Int)] 3);simpa using this)
      have HB2:Hid (Below W0.heap.size W0 ((wr.alloc (.cells (zAb e1) 129)).alloc (.cells #[.int .i64 (k:Int)] 3))):=HB1.out.alloc (by simp;omega) _
      have HA2:=zAa (HA1.out.below BA)
      clear BA
      go_wp2_with (first | (refine zAg (.tmp 40) rfl rfl be (k*10) e1 rfl HRK.out ?_) | (at_builtin;refine wpList_append_lies _ rfl (.tmp 71) (.tmp 73) 31 rfl W0.heap.size 3 i0 (.int .i64 0) 1 8 Tryz.underlying31 hi0 hz0 hz1 hz2 rfl (by decide) _ (Q.mayTo es i k).length ((Q.mayTo es i k).map (Value.int .i64)) rfl (by exact HO2.out) ⟨wr.heap.size+1,0,none⟩ 1 1 [.int .i64 (k:Int)] rfl rfl (by exact HN2.out) (by simp[Value.oneCell']) (by decide) (by unfold maxLen;omega) (by omega) (by simp;omega) _ rfl ?_;intro gn cn w5 hown5 hgrow5 hat5 hlt5))
      have HB5:Hid (Below W0.heap.size W0 w5):=HB2.out.trans ⟨hgrow5.os,hgrow5.tape,hgrow5.output,hgrow5.size,fun y hy=>hgrow5.block y (by simp;omega) (fun e=>by have:=(HO2.out.lt y e.symm).1;omega)⟩
      have HA5:=zAa (HA2.out.grownT HO2.out (by decide) hgrow5)
      have HO5:Hid (w5.ownsRow W0.heap.size 3 1 (.slice (some ⟨gn,0,none⟩) ((Q.mayTo es i k).length+1) cn) (Q.mayTo es i (k+1)).length ((Q.mayTo es i (k+1)).map (Value.int .i64))):=by
       unfold Hid;rw[HN.out,List.map_append,List.length_append];exact hown5
      clear hown5 hgrow5
      go_roundw
      case rel=>exact⟨k+1,_,by omega,by go_num,rfl,HO5,HB5,HA5⟩
      case measure=>simp[intOf];omega
    ·rw[z5] at hkk
     cases z1:(e1.kind==1)
     ·have HN:Hid (Q.mayTo es i (k+1)=Q.mayTo es i k):=HNO.out _ (by simp[z1,z5]) HS.out
      go_wp2_with (first | (refine zAg (.tmp 40) rfl rfl be (k*10) e1 rfl HRK.out ?_))
      go_roundw
      case rel=>exact⟨k+1,_,by omega,by go_num,rfl,by rw[HN.out];exact HO1,HB1,HA1⟩
      case measure=>simp[intOf];omega
     cases z2:(e1.var==ei.var)
     ·have HN:Hid (Q.mayTo es i (k+1)=Q.mayTo es i k):=HNO.out _ (by simp[z1,z2,z5]) HS.out
      go_wp2_with (first | (refine zAg (.tmp 40) rfl rfl be (k*10) e1 rfl HRK.out ?_))
      go_roundw
      case rel=>exact⟨k+1,_,by omega,by go_num,rfl,by rw[HN.out];exact HO1,HB1,HA1⟩
      case measure=>simp[intOf];omega
     cases z3:(e1.value==ei.value)
     ·have HN:Hid (Q.mayTo es i (k+1)=Q.mayTo es i k):=HNO.out _ (by simp[z1,z2,z3,z5]) HS.out
      go_wp2_with (first | (refine zAg (.tmp 40) rfl rfl be (k*10) e1 rfl HRK.out ?_))
      go_roundw
      case rel=>exact⟨k+1,_,by omega,by go_num,rfl,by rw[HN.out];exact HO1,HB1,HA1⟩
      case measure=>simp[intOf];omega
     ·have HN:Hid (Q.mayTo es i (k+1)=Q.mayTo es i k):=HNO.out _ (by simp[z1,z2,z3,z5]) HS.out
      go_wp2_with (first | (refine zAg (.tmp 40) rfl rfl be (k*10) e1 rfl HRK.out ?_))
      go_roundw
      case rel=>exact⟨k+1,_,by omega,by go_num,rfl,by rw[HN.out];exact HO1,HB1,HA1⟩
      case measure=>simp[intOf];omega
   ·have hkn:k=es.length:=by omega
    go_wp2
    go_ret
    refine⟨_,rfl,?_,fun y hy=>by have:=(HO.out.lt y hy).1;omega,zAo BW0.out (Nat.le_refl _) HB.out⟩
    rw[HV.out,← hkn]
    exact zCE HO.out rfl
theorem zBF.grownT {w w':World} {v:Value} {l:List Int} {row:Option Nat} (h:zBF w v l) (hg:w.grownBy w' row) (hne:∀ k,v.ownBlock=some k→some k≠row):zBF w' v l:=by
 refine h.own w' (fun k e=>hg.block k ?_ (hne k e)) hg.size
 rcases h with ⟨e1,_⟩ | ⟨g',cap,e1,_,hg'⟩
 ·rw[e1] at e;simp[Value.ownBlock] at e
 ·rw[e1] at e;simp[Value.ownBlock] at e;omega
def zHZ (w w':World) (cs:List (List Int)) (e:Ending):Prop:=∃ cv vs gb gd,e=.returned (.agg #[cv,.slice (some ⟨gb,0,none⟩) cs.length cs.length,.slice (some ⟨gd,0,none⟩) cs.length cs.length,.bool false])∧RowsI w' w.heap.size cv cs vs∧zAq w' gb (Q.lens cs)∧zAq w' gd (Q.zeros cs.length)∧w.heap.size≤gb∧w.heap.size≤gd∧gb≠gd∧cv.ownBlock≠some gd∧(∀ u∈vs,∀ k,u.ownBlock=some k→w.heap.size≤k∧k≠gd)∧Below w.heap.size w w'
namespace Q
def chTo (es:List Ev) (k:Nat):List (List Int):=(List.range k).map (zJh es)
theorem chTo_succ (es:List Ev) (k:Nat):chTo es (k+1)=chTo es k++[zJh es k]:=by unfold chTo;rw[List.range_succ,List.map_append];rfl
theorem chTo_len (es:List Ev) (k:Nat):(chTo es k).length=k:=by simp[chTo]
theorem zKn (es:List Ev):chTo es es.length=zIh es:=rfl
theorem lens_snoc (cs:List (List Int)) (c:List Int):lens (cs++[c])=lens cs++[(c.length:Int)]:=by simp[lens]
theorem zJc (cs:List (List Int)):(lens cs).length=cs.length:=by simp[lens]
end Q
theorem zBA {w w':World} {B B' n n' sz sz':Nat} {t t':TypeId} {v u:Value} {xs xs':List Value} (h:w.ownsRow B t sz v n xs) (ho:w.ownsRow B' t' sz' u n' xs') (ht:t≠t') (hg:w.grownBy w' u.ownBlock):w'.ownsRow B t sz v n xs∧∀ k,v.ownBlock=some k→u.ownBlock≠some k:=by
 have hne:∀ k,v.ownBlock=some k→u.ownBlock≠some k:=fun k e e2=>by
  rcases h.2 with ⟨e1,_⟩ | ⟨g1,c1,cur1,e1,_,h1,_⟩
  ·rw[e1] at e;simp[Value.ownBlock] at e
  ·rcases ho.2 with ⟨e3,_⟩ | ⟨g2,c2,cur2,e3,_,h2,_⟩
   ·rw[e3] at e2;simp[Value.ownBlock] at e2
   ·rw[e1] at e;rw[e3] at e2
    simp[Value.ownBlock] at e e2
    rw[e] at h1;rw[e2,h1] at h2
    simp at h2;exact ht h2.2
 exact⟨zAd h (fun k e=>hg.block k (h.lt k e).2 (fun e2=>hne k e e2.symm)),hne⟩
theorem RowsI.snoc {w w1:World} {B:Nat} {v v' u:Value} {rs:List (List Int)} {vs:List Value} {r:List Int} (h:RowsI w B v rs vs) (hu:zBF w u r) (hown:w1.ownsRow B 31 1 v' (rs.length+1) (vs++[u])) (hg:w.grownBy w1 v.ownBlock) (hne:∀ x∈vs++[u],∀ k,x.ownBlock=some k→v.ownBlock≠some k):RowsI w1 B v' (rs++[r]) (vs++[u]):=by
 refine⟨by simpa using hown,by simp[h.len],fun i hi x hx=>?_⟩
 have hx':=hne x (List.mem_of_getElem? hx)
 by_cases hlt:i<rs.length
 ·rw[List.getElem?_append_left (by rw[h.len];exact hlt)] at hx
  rw[List.getElem_append_left hlt]
  exact (h.rows i hlt x hx).grownT hg (fun k e=>fun e2=>hx' k e e2.symm)
 ·simp at hi
  have hie:i=rs.length:=by omega
  subst hie
  rw[List.getElem?_append_right (by rw[h.len];exact Nat.le_refl _),h.len] at hx
  simp at hx
  subst hx
  simp
  exact hu.grownT hg (fun k e=>fun e2=>hx' k e e2.symm)
theorem RowsI.grown {w w1:World} {B:Nat} {v:Value} {rs:List (List Int)} {vs:List Value} {row:Option Nat} (h:RowsI w B v rs vs) (hg:w.grownBy w1 row) (hv:∀ k,v.ownBlock=some k→row≠some k) (hne:∀ x∈vs,∀ k,x.ownBlock=some k→row≠some k):RowsI w1 B v rs vs :=
 ⟨zAd h.own (fun k e=>hg.block k (h.own.lt k e).2 (fun e2=>hv k e e2.symm)),h.len,fun i hi x hx=>(h.rows i hi x hx).grownT hg (fun k e=>fun e2=>hne x (List.mem_of_getElem? hx) k e e2.symm)⟩
theorem zBF.ownlt {w:World} {v:Value} {l:List Int} (h:zBF w v l) (k:Nat) (e:v.ownBlock=some k):k<w.heap.size:=by
 rcases h with ⟨e1,_⟩ | ⟨g',cap,e1,_,hg'⟩
 ·rw[e1] at e;simp[Value.ownBlock] at e
 ·rw[e1] at e;simp[Value.ownBlock] at e;omega
theorem zDa (ev rg:Value) (es:List Q.Ev) (w:World) (he:zAX w ev es) (hrg:∃ a n c,rg=.slice a n c) (hn:es.length≤64) :
  Calls Tryz.prog 71 #[.agg #[ev,rg]] w fun e w'=>zHZ w w' (Q.zIh es) e:=by
 obtain⟨i0,hi0,hz0,hz1,hz2⟩:=info_parts Tryz.infoIntM
 obtain⟨j0,hj0,hy0,hy1,hy2⟩:=info_parts Tryz.infoRow
 obtain⟨ea,ec,rfl,hea⟩:=he.form
 obtain⟨ra,rn,rc,rfl⟩:=hrg
 obtain⟨k0,k1,hsz,hbw⟩:=zBO w #[.slice ea es.length ec,.slice ra rn rc] #[.slice none 0 0,.slice none 0 0,.slice none 0 0,.bool false] 61 73
 have HE0:=zAa (he.below hbw)
 have BW0:=zAa hbw
 clear hbw he hea
 go_enter Tryz.func71,Tryz.ntmps71
 go_upto_region 1 with fail
 generalize hE:(w.alloc (.cells #[.slice ea es.length ec,.slice ra rn rc] 61)).alloc (.cells #[.slice none 0 0,.slice none 0 0,.slice none 0 0,.bool false] 73)=W0 at *
 have c00:=ceL k0 0 _ rfl
 have c01:=ceL k0 1 _ rfl
 have l0:w.heap.size<W0.heap.size:=by omega
 have l1:w.heap.size+1<W0.heap.size:=by omega
 have hszl:w.heap.size+2≤W0.heap.size:=by omega
 have K1:=zAa k1
 clear hE k0 k1 hsz
 go_wp2
 go_loopw [3,4,10] (fun a b j wr=>∃ (k:Nat) (cv bv:Value) (vs:List Value),k≤es.length∧j=.int .i64 k∧a=cv∧b=bv∧Hid (RowsI wr W0.heap.size cv (Q.chTo es k) vs)∧Hid (wr.ownsRow W0.heap.size 3 1 bv k ((Q.lens (Q.chTo es k)).map (Value.int .i64)))∧Hid (∀ u∈vs,∀ y,u.ownBlock=some y→W0.heap.size≤y∧y<wr.heap.size∧bv.ownBlock≠some y∧cv.ownBlock≠some y)∧Hid (Below W0.heap.size W0 wr)) (fun _ _ j _=>es.length-(intOf j).toNat)
 case atStart=>exact⟨0,_,_,[],Nat.zero_le _,rfl,rfl,rfl,⟨by simpa [Q.chTo] using World.ownsRow_nil _ _ _ _,rfl,fun i h=>by simp[Q.chTo] at h⟩,by simpa [Hid,Q.chTo,Q.lens] using World.ownsRow_nil _ _ _ _,by simp[Hid],Below.refl _ _⟩
 case round =>
  obtain⟨k,cv,bv,vs,hk,rfl,hcv,hbv,HC,HO,HD,HB⟩:=hrel
  have hcv:=hcv.symm
  subst hcv
  have hbv:=hbv.symm
  subst hbv
  by_cases hlt:k<es.length
  ·have hin:(k:Int)<(es.length:Int):=by omega
   have d0:=cfL HB.out l0 c00
   have d1:=cfL HB.out l0 c01
   have lw:=Nat.lt_of_lt_of_le l0 HB.out.size
   have HEk:=zAa (HE0.out.below HB.out)
   have HS:=zAa (Q.chTo_succ es k)
   have hmb:(Q.zJh es k).length≤64:=by
    unfold Q.zJh
    split
    ·have:=Q.zKd es k es.length;unfold Q.mayTo at this;omega
    ·simp
   have hclen:=Q.chTo_len es k
   obtain⟨ca,cc,hcf,_⟩:=HC.out.form
   rw[hclen] at hcf
   go_upto_region 7 with (first | (go_at_call 106;refine (zFi _ _ es k _ HEk.out ⟨_,_,_,rfl⟩ hlt hn).mono ?_;rintro e w1 ⟨mv,rfl,hmr,hmf,hb1⟩))
   obtain⟨ma,mc,hmv,_⟩:=hmr.form
   generalize hmm:Q.zJh es k=mr at *
   subst hmv
   have B1:Hid (Below W0.heap.size W0 w1):=zAo HB.out (Nat.le_refl _) hb1
   have C1:=zAa (HC.out.below hb1)
   have O1:Hid (w1.ownsRow W0.heap.size 3 1 bv k ((Q.lens (Q.chTo es k)).map (Value.int .i64))):=zAd HO.out (fun y e=>hb1.block y (HO.out.lt y e).2)
   have M1:=zAa hmr
   have hwr1:=hb1.size
   have hW1:W0.heap.size≤w1.heap.size:=B1.out.size
   have HCL:Hid ((Q.chTo es k).length=k):=hclen
   have C1o:Hid ((w1.alloc (.cells #[.slice ma mr.length mc] 31)).ownsRow W0.heap.size 31 1 cv k vs):=by
    have h1:=C1.out.own
    rw[hclen] at h1
    exact zAd h1 (fun y e=>Below.heap_alloc _ _ _ (h1.lt y e).2)
   have HN1:Hid (∀ j u,[Value.slice ma mr.length mc][j]?=some u→(w1.alloc (.cells #[.slice ma mr.length mc] 31)).cell? ((⟨w1.heap.size,0,none⟩:Addr).add j)=some u):=World.news_of_block (cs:=#[.slice ma mr.length mc]) (t:=31) (fr:=(0,0)) (heap_alloc_new w1 _)
   clear hclen
   subst hcf
   go_upto_region 8 with (first | (at_builtin;refine wpList_append_lies _ rfl (.tmp 16) (.tmp 18) 27 rfl W0.heap.size 31 j0 (.slice none 0 0) 1 24 Tryz.underlying27 hj0 hy0 hy1 hy2 rfl (by decide) (.slice ca k cc) k vs rfl (by exact C1o.out) ⟨w1.heap.size,0,none⟩ 1 1 [.slice ma mr.length mc] rfl rfl (by exact HN1.out) (by simp[Value.oneCell']) (by decide) (by unfold maxLen;omega) (by omega) (by simp;omega) _ rfl ?_;intro gn cn w2 hown2 hgrow2 hat2 hlt2))
   have hcl1:∀ y,(Value.slice ca k cc).ownBlock=some y→y<wr.heap.size:=fun y e=>(HC.out.own.lt y e).2
   have hbl1:∀ y,bv.ownBlock=some y→y<wr.heap.size:=fun y e=>(HO.out.lt y e).2
   have BA:Below w1.heap.size w1 (w1.alloc (.cells #[.slice ma mr.length mc] 31)):=(Below.refl _ _).alloc (Nat.le_refl _) _
   have hdv:∀ x∈vs++[Value.slice ma mr.length mc],∀ y,x.ownBlock=some y→(Value.slice ca k cc).ownBlock≠some y∧bv.ownBlock≠some y∧W0.heap.size≤y∧y<w1.heap.size:=fun x hx y e=>by
    rcases List.mem_append.1 hx with hx | hx
    ·obtain⟨q1,q2,q3,q4⟩:=HD.out x hx y e
     exact⟨q4,q3,q1,by omega⟩
    ·simp at hx
     subst hx
     have q1:=hmf y e
     have q2:=M1.out.ownlt y e
     exact⟨fun e2=>by have:=hcl1 y e2;omega,fun e2=>by have:=hbl1 y e2;omega,by have:=HB.out.size;omega,q2⟩
   have C2:Hid (RowsI w2 W0.heap.size (.slice (some ⟨gn,0,none⟩) (k+1) cn) (Q.chTo es (k+1)) (vs++[.slice ma mr.length mc])):=by
    unfold Hid
    rw[HS.out]
    exact (C1.out.below BA).snoc (M1.out.below BA) (by rw[HCL.out];exact hown2) hgrow2 (fun x hx y e=>(hdv x hx y e).1)
   have O2:=zBA (zAd O1.out (fun y e=>BA.block y (O1.out.lt y e).2)) C1o.out (by decide) hgrow2
   have O2h:=zAa O2.1
   have hW2:w1.heap.size+1≤w2.heap.size:=by have:=hgrow2.size;simp at this;omega
   have B2:Hid (Below W0.heap.size W0 w2):=(B1.out.alloc hW1 _).trans ⟨hgrow2.os,hgrow2.tape,hgrow2.output,hgrow2.size,fun y hy=>hgrow2.block y (by simp;omega) (fun e=>by have:=(C1o.out.lt y e.symm).1;omega)⟩
   have AT2:Hid ((Value.slice ca k cc).ownBlock=some gn∨w1.heap.size≤gn):=by
    rcases hat2 with h1 | h1
    ·exact Or.inl h1
    ·exact Or.inr (by simp at h1;omega)
   have HDV:=zAa hdv
   have HCB:Hid (∀ y,bv.ownBlock=some y→(Value.slice ca k cc).ownBlock≠some y∧y<wr.heap.size):=fun y e=>⟨O2.2 y e,hbl1 y e⟩
   have HCC:=zAa hcl1
   have hml:mr.length≤64:=hmb
   have O2o:Hid ((w2.alloc (.cells #[.int .i64 (mr.length:Int)] 3)).ownsRow W0.heap.size 3 1 bv k ((Q.lens (Q.chTo es k)).map (Value.int .i64))):=zAd O2.1 (fun y e=>Below.heap_alloc _ _ _ (O2.1.lt y e).2)
   have HN2:Hid (∀ j u,[Value.int .i64 (mr.length:Int)][j]?=some u→(w2.alloc (.cells #[.int .i64 (mr.length:Int)] 3)).cell? ((⟨w2.heap.size,0,none⟩:Addr).add j)=some u):=World.news_of_block (cs:=#[.int .i64 (mr.length:Int)]) (t:=3) (fr:=(0,0)) (heap_alloc_new w2 _)
   obtain⟨ba,bc,hbf⟩:∃ a c,bv=.slice a k c:=by
    rcases HO.out.2 with ⟨e,h0⟩ | ⟨g',c,cur,e,_⟩
    ·exact⟨none,0,by rw[e,h0]⟩
    ·exact⟨_,c,e⟩
   clear hown2 hgrow2 hat2 O2 BA hdv hcl1 hbl1 hmf hmr hb1
   subst hbf
   go_wp2_with (first | (at_builtin;refine wpList_append_lies _ rfl (.tmp 20) (.tmp 23) 31 rfl W0.heap.size 3 i0 (.int .i64 0) 1 8 Tryz.underlying31 hi0 hz0 hz1 hz2 rfl (by decide) (.slice ba k bc) k ((Q.lens (Q.chTo es k)).map (Value.int .i64)) rfl (by exact O2o.out) ⟨w2.heap.size,0,none⟩ 1 1 [.int .i64 (mr.length:Int)] rfl rfl (by exact HN2.out) (by simp[Value.oneCell']) (by decide) (by unfold maxLen;omega) (by omega) (by simp;omega) _ rfl ?_;intro g3 c3 w3 hown3 hgrow3 hat3 hlt3))
   have BA3:Below w2.heap.size w2 (w2.alloc (.cells #[.int .i64 (mr.length:Int)] 3)):=(Below.refl _ _).alloc (Nat.le_refl _) _
   have C3:Hid (RowsI w3 W0.heap.size (.slice (some ⟨gn,0,none⟩) (k+1) cn) (Q.chTo es (k+1)) (vs++[.slice ma mr.length mc])):=(C2.out.below BA3).grown hgrow3 (fun y e e2=>by
    simp[Value.ownBlock] at e
    obtain⟨q1,q2⟩:=HCB.out y e2
    rcases AT2.out with h4 | h4
    ·exact q1 (by rw[h4,e])
    ·omega) (fun x hx y e=>(HDV.out x hx y e).2.1)
   have O3:Hid (w3.ownsRow W0.heap.size 3 1 (.slice (some ⟨g3,0,none⟩) (k+1) c3) (k+1) ((Q.lens (Q.chTo es (k+1))).map (Value.int .i64))):=by
    unfold Hid;rw[HS.out,Q.lens_snoc,List.map_append];exact hown3
   have B3:Hid (Below W0.heap.size W0 w3):=(B2.out.alloc (by omega) _).trans ⟨hgrow3.os,hgrow3.tape,hgrow3.output,hgrow3.size,fun y hy=>hgrow3.block y (by simp;omega) (fun e=>by have:=(O2o.out.lt y e.symm).1;omega)⟩
   have hW3:w2.heap.size+1≤w3.heap.size:=by have:=hgrow3.size;simp at this;omega
   have D3:Hid (∀ u∈vs++[Value.slice ma mr.length mc],∀ y,u.ownBlock=some y→W0.heap.size≤y∧y<w3.heap.size∧(Value.slice (some ⟨g3,0,none⟩) (k+1) c3).ownBlock≠some y∧(Value.slice (some ⟨gn,0,none⟩) (k+1) cn).ownBlock≠some y):=fun u hu y e=>by
    obtain⟨q1,q2,q3,q4⟩:=HDV.out u hu y e
    refine⟨q3,by omega,fun e2=>?_,fun e2=>?_⟩
    ·simp[Value.ownBlock] at e2
     rcases hat3 with h4 | h4
     ·exact q2 (by rw[h4,e2])
     ·simp at h4;omega
    ·simp[Value.ownBlock] at e2
     rcases AT2.out with h4 | h4
     ·exact q1 (by rw[h4,e2])
     ·omega
   clear hown3 hgrow3 hat3
   go_roundw
   case rel=>exact⟨k+1,_,_,_,by omega,by go_num,rfl,rfl,C3,O3,D3,B3⟩
   case measure=>simp[intOf];omega
  ·have hkn:k=es.length:=by omega
   have HL:Hid ((Q.lens (Q.zIh es)).length=(Q.zIh es).length):=Q.zJc _
   have HLC:Hid ((Q.zIh es).length=es.length):=by simp[Hid,Q.zIh]
   have C0:Hid (RowsI wr W0.heap.size cv (Q.zIh es) vs):=by have h1:=HC.out;rw[hkn,Q.zKn] at h1;exact h1
   have O0:Hid (zBF wr bv (Q.lens (Q.zIh es))):=by
    have h1:=HO.out
    rw[hkn,Q.zKn] at h1
    exact zCE h1 (by rw[HL.out,HLC.out])
   have HCO:=zAa (fun y e=>(HC.out.own.lt y e).2:∀ y,cv.ownBlock=some y→y<wr.heap.size)
   obtain⟨ca,cc,hcf,_⟩:=C0.out.form
   obtain⟨ba,bc,hbf,_⟩:=O0.out.form
   clear HC HO
   subst hcf hbf
   go_wp2_with (first | (go_at_call 66;refine (zBS _ (Q.lens (Q.zIh es)) _ O0.out (by rw[HL.out,HLC.out];omega)).mono ?_;rintro e w2 ⟨v1,v2,v3,rfl,⟨gb,gd,rfl,rfl,rfl,hib,hid,hgb,hgd,hne⟩,hb2⟩;have B2:Hid (Below W0.heap.size W0 w2):=zAo HB.out (Nat.le_refl _) hb2;have K2:=zAa ((B2.out.block _ l1).trans K1.out);obtain⟨t0,t1,t2,t3,tf,tl⟩:=zCb K2.out;have IB:=zAa hib;have ID:=zAa hid;have C2:=zAa (C0.out.below hb2);rw[HL.out]))
   obtain⟨s0,s1,s2⟩:=zHX (s0:=.slice ca (Q.zIh es).length cc) (s1:=.slice (some ⟨gb,0,none⟩) (Q.zIh es).length (Q.zIh es).length) (s2:=.slice (some ⟨gd,0,none⟩) (Q.zIh es).length (Q.zIh es).length) (s3:=.bool false) K2.out
   have hws:=HB.out.size
   have hID:=ID.out
   rw[HL.out] at hID
   have hnr:∀ {B n sz:Nat} {t:TypeId} {v:Value} {xs:List Value},w2.ownsRow B t sz v n xs→t≠73→∀ k,v.ownBlock=some k→k≠w.heap.size+1:=fun h ht k e e2=>by
    rcases h.2 with ⟨e1,_⟩ | ⟨g1,c1,cur1,e1,_,h1,_⟩
    ·rw[e1] at e;simp[Value.ownBlock] at e
    ·rw[e1] at e;simp[Value.ownBlock] at e
     rw[e,e2,K2.out] at h1;simp at h1;exact ht h1.2.symm
   refine zBf (p:=2) (w.heap.size+1) _ (by kernel_rfl) Tryz.underlying73 rfl (by kernel_rfl) rfl (by exact s0) rfl ⟨_,vs,gb,gd,rfl,⟨?_,C2.out.len,fun i hi x hx=>?_⟩,IB.out.of_block (s1 _ (by omega)),hID.of_block (s1 _ (by omega)),by omega,by omega,hne,fun e=>by have:=HCO.out gd e;omega,fun u hu y e=>⟨by have:=(HD.out u hu y e).1;omega,by have:=(HD.out u hu y e).2.1;omega⟩,s2 _ _ (by omega) (zAo BW0.out (Nat.le_refl _) B2.out)⟩
   ·have h1:=zAd C2.out.own (fun k e=>s1 k (hnr C2.out.own (by decide) k e))
    refine⟨h1.1,?_⟩
    rcases h1.2 with h0 | ⟨g',cap,cur,e,hge,q⟩
    ·exact Or.inl h0
    ·exact Or.inr ⟨g',cap,cur,e,by omega,q⟩
   ·have hr:=C2.out.rows i hi x hx
    refine hr.own _ (fun k e=>s1 k (by have:=(HD.out x (List.mem_of_getElem? hx) k e).1;omega)) ?_
    have:=(s2 w2 0 (Nat.zero_le _) (Below.refl _ _)).size;exact this
end Go.Proofs.YtkmebkbpfmoeaaaGreat
