import Derived.Test.YtgceflcbckjjiaaGreatDoorD48
set_option linter.unusedVariables false
set_option linter.unusedSimpArgs false
set_option maxHeartbeats 12800000
namespace Go.Proofs.YtgceflcbckjjiaaGreatDoor
open Go Go.RowKit
set_option maxRecDepth 100000
namespace P
def zMf:List UInt8:=[32,97,99,113,114,101,108,32]
def zLC:List UInt8:=[32,97,99,113,117,105,114,101,32]
def zLD:List UInt8:=[32,114,101,108,101,97,115,101,32]
def weakL:List UInt8:=[32,119,101,97,107,10]
def zLk:List UInt8:=[32,98,108,111,99,107,10]
def fenL:List UInt8:=[102,101,110,99,101]
def more2 (x:List UInt8):Bool:=hasB (x++[10]) zMf&&!zKQ (x++[10]) fenL
def more1 (x:List UInt8):Bool:=hasB (x++[10]) zLC||hasB (x++[10]) zLD
def zKi (way:Int) (p:Nat × Bool) (x:List UInt8):Nat × Bool:=(p.1+1+(if way==1&&more2 x then 2 else 0)+(if way==1&&more1 x then 1 else 0),p.2||more2 x)
def zMJ (way:Int) (s:List UInt8):Nat × Bool:=((zJZ 10 s).dropLast).foldl (zKi way) (0,false)
def zMg (s:List UInt8) (way:Int):Bool :=
 if (zKq s way).2.1 != 0 then (zKq s way).1==[] else if decide (2≤way) then !((zKq s way).1==[])
 else if way==1&&(hasB s weakL||hasB s zLk||(zMJ way s).2) then decide ((zJZ 10 (zKq s way).1).dropLast.length≤(zMJ way s).1) else decide ((zJZ 10 (zKq s way).1).dropLast.length=(zMJ way s).1)
end P
theorem zBr {w:World} {B n sz:Nat} {t:TypeId} {v:Value} {xs:List Value} (h:w.ownsRow B t sz v n xs):∃ a c,v=.slice a n c:=by
 rcases h.2 with ⟨e,h0⟩ | ⟨g',c,cur,e,_⟩
 ·exact⟨none,0,by rw[e,h0]⟩
 ·exact⟨_,c,e⟩
theorem zIB (l:List UInt8):l.isEmpty=(l==[]):=by cases l<;>rfl
theorem zDb (a b:Nat):((a:Int)==(b:Int))=decide (a=b):=by
 by_cases h:a=b
 ·subst h;simp
 ·have h2:¬ ((a:Int)=(b:Int)):=by omega
  rw[beq_eq_false_iff_ne.2 h2,decide_eq_false h]
theorem zBQ (a b:Nat):decide ((a:Int)≤(b:Int))=decide (a≤b):=by
 by_cases h:a≤b
 ·rw[decide_eq_true h,decide_eq_true (by omega)]
 ·rw[decide_eq_false h,decide_eq_false (by omega)]
theorem zFU (s:ByteArray) (way:Int) (w:World) (hs:s.size≤8192) (h0:0≤way) (h4:way<4) :
  Calls Tryz.prog 8 #[.string s,.int .i64 way] w fun e w'=>e=.returned (.bool (P.zMg s.toList way))∧Below w.heap.size w w':=by
 generalize hcb:P.zMg s.toList way=cb
 have HCB:=zAa hcb
 clear hcb
 unfold P.zMg at HCB
 have HCW:=zAa (zFl s way w hs)
 cases ze:((P.zKq s.toList way).2.1 != 0)
 rotate_left
 ·rw[ze,if_pos rfl] at HCB
  generalize hE:(P.zKq s.toList way).2.1=er at *
  generalize (P.zKq s.toList way).1=L at *
  generalize (P.zKq s.toList way).2.2=ln at *
  go_enter Tryz.func8,Tryz.ntmps8
  go_wp2_with (first
   | (go_at_call 15;refine HCW.out.mono ?_;rintro e w1 ⟨t,rfl,ht,hb1⟩;have HT:=zAa ht.1;have B1:=zAa hb1;have hts:t.size≤10000000:=ht.2;clear ht hb1;have hem:t.toList.isEmpty=cb:=(by rw[HT.out,zIB];exact HCB.out)))
  go_ret
  exact⟨by rw[← hem];rfl,B1.out⟩
 ·have he0:(P.zKq s.toList way).2.1=0:=by simpa using ze
  rw[ze,if_neg (by simp)] at HCB
  rw[he0] at HCW
  clear ze he0
  generalize (P.zKq s.toList way).1=L at *
  generalize (P.zKq s.toList way).2.2=ln at *
  by_cases h2:2≤way
  ·have hd2:decide (2≤way)=true:=decide_eq_true h2
   rw[hd2,if_pos rfl] at HCB
   go_enter Tryz.func8,Tryz.ntmps8
   go_wp2_with (first
    | (go_at_call 15;refine HCW.out.mono ?_;rintro e w1 ⟨t,rfl,ht,hb1⟩;have HT:=zAa ht.1;have B1:=zAa hb1;have hts:t.size≤10000000:=ht.2;clear ht hb1;have hem:(!t.toList.isEmpty)=cb:=(by rw[HT.out,zIB];exact HCB.out)))
   go_ret
   exact⟨by rw[← hem];rfl,B1.out⟩
  ·have hd2:decide (2≤way)=false:=decide_eq_false h2
   rw[hd2,if_neg (by simp)] at HCB
   have hhd:way=0∨way=1:=by omega
   clear hd2 h2 h0 h4
   have HCN:Hid (P.zMJ way s.toList=((P.zJZ 10 s.toList).dropLast).foldl (P.zKi way) (0,false)):=rfl
   generalize P.zMJ way s.toList=CN at *
   go_enter Tryz.func8,Tryz.ntmps8
   rcases hhd with rfl | rfl
   ·go_wp2_with (first
     | (go_at_call 15;refine HCW.out.mono ?_;rintro e w1 ⟨t,rfl,ht,hb1⟩;have HT:=zAa ht.1;have B1:=zAa hb1;have hts:t.size≤10000000:=ht.2;clear ht hb1)
     | (go_at_call_of 16 (Value.string s);refine (zBg s _ (by omega)).mono ?_;rintro e w2 ⟨v,ws,rfl,hws,hxs,hown,hb2⟩;have HWS:=zAa hws;have HXS:=zAa hxs;have HOW:=zAa hown;have B2:=zAa (zAr B1.out (Nat.le_refl _) hb2);obtain⟨va,vc,hv⟩:=zBr hown;subst hv;clear hws hxs hown hb2))
    have hwl:ws.length≤8192:=by
     have h6:=congrArg List.length HWS.out
     rw[List.length_map,List.length_dropLast] at h6
     have h7:=P.zKB 10 s.toList
     rw[zAu] at h7
     omega
    rw[← HWS.out] at HCN
    clear HWS HCW
    go_loopw [8,9,11] (fun nv sv iv wr=>∃ (j n:Nat) (b:Bool),j≤ws.length∧iv=.int .i64 (j:Int)∧nv=.int .i64 (n:Int)∧sv=.bool b∧n≤j*4∧Hid (((ws.take j).map ByteArray.toList).foldl (P.zKi 0) (0,false)=(n,b))∧wr=w2) (fun _ _ iv _=>ws.length-(intOf iv).toNat)
    case atStart=>exact⟨0,0,false,Nat.zero_le _,rfl,rfl,rfl,by omega,rfl,rfl⟩
    case round =>
     obtain⟨j,n,b,hj,rfl,rfl,rfl,hn4,HFO,rfl⟩:=hrel
     by_cases hlt:j<ws.length
     ·have hlt':(j:Int)<(ws.length:Int):=by omega
      obtain⟨gl,hva⟩:∃ gl,va=some ⟨gl,0,none⟩:=by
       rcases HOW.out.2 with ⟨e1,h9⟩ | ⟨gl,c2,cur,e1,_⟩
       ·omega
       ·simp only[Value.slice.injEq] at e1
        exact⟨gl,e1.1⟩
      subst hva
      have cj:=HOW.out.cellAt j (by omega)
      simp only[List.getElem?_map,List.getElem?_eq_getElem hlt,Option.map_some] at cj
      have lgl:=(HOW.out.lt gl rfl).2
      have HST:Hid (((ws.take (j+1)).map ByteArray.toList).foldl (P.zKi 0) (0,false)=P.zKi 0 (n,b) ws[j].toList):=by
       unfold Hid
       rw[List.take_succ_eq_append_getElem hlt,List.map_append,List.foldl_append,HFO.out];rfl
      have hxz:ws[j].size≤8192:=Nat.le_trans (HXS.out _ (List.getElem_mem hlt)) hs
      generalize ws[j]=x at *
      have hxx:(x.size:Int)≤8192:=by omega
      have eY:(x++⟨#[10]⟩:ByteArray).toList=x.toList++[10]:=by simp only[zAq,zAc]
      have hyz:(x++⟨#[10]⟩:ByteArray).size≤1000000000:=by
       rw[← zAu,eY,List.length_append,zAu]
       simp;omega
      have hn8:n≤40000:=by omega
      obtain⟨vb,zb⟩:∃ v,P.hasB (x.toList++[10]) P.zMf=v:=⟨_,rfl⟩
      have zb':Hid (P.hasB (x++⟨#[10]⟩:ByteArray).toList (⟨#[32,97,99,113,114,101,108,32]⟩:ByteArray).toList=vb):=by unfold Hid;rw[eY,show (⟨#[32,97,99,113,114,101,108,32]⟩:ByteArray).toList=P.zMf from zAc _];exact zb
      obtain⟨vf,zf⟩:∃ v,P.zKQ (x.toList++[10]) P.fenL=v:=⟨_,rfl⟩
      have zf':Hid (P.zKQ (x++⟨#[10]⟩:ByteArray).toList (⟨#[102,101,110,99,101]⟩:ByteArray).toList=vf):=by unfold Hid;rw[eY,show (⟨#[102,101,110,99,101]⟩:ByteArray).toList=P.fenL from zAc _];exact zf
      obtain⟨va,za⟩:∃ v,P.hasB (x.toList++[10]) P.zLC=v:=⟨_,rfl⟩
      have za':Hid (P.hasB (x++⟨#[10]⟩:ByteArray).toList (⟨#[32,97,99,113,117,105,114,101,32]⟩:ByteArray).toList=va):=by unfold Hid;rw[eY,show (⟨#[32,97,99,113,117,105,114,101,32]⟩:ByteArray).toList=P.zLC from zAc _];exact za
      obtain⟨vr,zr⟩:∃ v,P.hasB (x.toList++[10]) P.zLD=v:=⟨_,rfl⟩
      have zr':Hid (P.hasB (x++⟨#[10]⟩:ByteArray).toList (⟨#[32,114,101,108,101,97,115,101,32]⟩:ByteArray).toList=vr):=by unfold Hid;rw[eY,show (⟨#[32,114,101,108,101,97,115,101,32]⟩:ByteArray).toList=P.zLD from zAc _];exact zr
      have HSV:Hid (P.zKi 0 (n,b) x.toList=(n+1+(if false&&(vb&&!vf) then 2 else 0)+(if false&&(va||vr) then 1 else 0),b||(vb&&!vf))):=by unfold Hid P.zKi P.more2 P.more1;rw[zb,zf,za,zr];rfl
      clear eY zb zf za zr
      go_upto_region 14 with fail
      generalize hyy:(x++⟨#[10]⟩:ByteArray)=yy at *
      clear hyy
      go_upto_region 18 with (first
       | (go_at_call 17;refine (zBG yy _ _ hyz (by simp[zAF])).mono ?_;rintro e wb ⟨rfl,hwb⟩;subst hwb;(first | rw[zb'.out] | rw[za'.out] | rw[zr'.out]))
       | (go_at_call 18;refine (zDG yy _ _).mono ?_;rintro e wb ⟨rfl,hwb⟩;subst hwb;rw[zf'.out]))
      clear zb' zf' za' zr' hyz hxx hxz cj lgl
      cases vb
      ·cases vf
       ·have HS5:Hid (((ws.take (j+1)).map ByteArray.toList).foldl (P.zKi 0) (0,false)=(n+1,b)):=by
         unfold Hid
         rw[HST.out,HSV.out];simp
        clear HST HSV
        go_wp2
        go_roundw
        case rel=>exact⟨j+1,n+1,_,by omega,by go_num,by go_num,rfl,by omega,HS5,by first | rfl | trivial⟩
        case measure=>simp[intOf];omega
       ·have HS5:Hid (((ws.take (j+1)).map ByteArray.toList).foldl (P.zKi 0) (0,false)=(n+1,b)):=by
         unfold Hid
         rw[HST.out,HSV.out];simp
        clear HST HSV
        go_wp2
        go_roundw
        case rel=>exact⟨j+1,n+1,_,by omega,by go_num,by go_num,rfl,by omega,HS5,by first | rfl | trivial⟩
        case measure=>simp[intOf];omega
      ·cases vf
       ·have HS5:Hid (((ws.take (j+1)).map ByteArray.toList).foldl (P.zKi 0) (0,false)=(n+1,true)):=by
         unfold Hid
         rw[HST.out,HSV.out];simp
        clear HST HSV
        go_wp2
        go_roundw
        case rel=>exact⟨j+1,n+1,_,by omega,by go_num,by go_num,rfl,by omega,HS5,by first | rfl | trivial⟩
        case measure=>simp[intOf];omega
       ·have HS5:Hid (((ws.take (j+1)).map ByteArray.toList).foldl (P.zKi 0) (0,false)=(n+1,b)):=by
         unfold Hid
         rw[HST.out,HSV.out];simp
        clear HST HSV
        go_wp2
        go_roundw
        case rel=>exact⟨j+1,n+1,_,by omega,by go_num,by go_num,rfl,by omega,HS5,by first | rfl | trivial⟩
        case measure=>simp[intOf];omega
     ·have hnlt:decide ((j:Int)<(ws.length:Int))=false:=decide_eq_false (by omega)
      have hje:j=ws.length:=by omega
      have hpr:CN=(n,b):=by rw[HCN.out,← HFO.out,hje,List.take_length]
      rw[hpr] at HCB
      clear hje HCN HFO hpr HXS HOW
      have HC0:Hid (cb=decide ((P.zJZ 10 L).dropLast.length=n)):=by have h9:=HCB.out;simp only[show ((0:Int)==1)=false from rfl,Bool.false_and,Bool.false_eq_true,if_false] at h9;exact h9.symm
      go_wp2_with (first
       | (go_at_call_of 16 (Value.string t);refine (zBg t _ hts).mono ?_;rintro e w3 ⟨v3,ws3,rfl,hws3,_,hown3,hb3⟩;have B3:=zAa (zAr B2.out (Nat.le_refl _) hb3);obtain⟨va3,vc3,hv3⟩:=zBr hown3;subst hv3;have hl3:ws3.length=(P.zJZ 10 L).dropLast.length:=(by have h6:=congrArg List.length hws3;rw[List.length_map,HT.out] at h6;exact h6);have hfe:((ws3.length:Int)==(n:Int))=decide ((P.zJZ 10 L).dropLast.length=n):=(by rw[← hl3];exact zDb _ _);have hfl:decide ((ws3.length:Int)≤(n:Int))=decide ((P.zJZ 10 L).dropLast.length≤n):=(by rw[← hl3];exact zBQ _ _);clear hl3 hws3 hown3 hb3;rw[← HC0.out] at hfe)
       | (go_at_call 17;refine (zBG s _ _ (by omega) (by simp[zAF])).mono ?_;rintro e wb ⟨rfl,hwb⟩;subst hwb;skip))
      go_ret
      exact⟨by first | rfl | (rw[← hfe];rfl),B3.out⟩
   ·go_wp2_with (first
     | (go_at_call 15;refine HCW.out.mono ?_;rintro e w1 ⟨t,rfl,ht,hb1⟩;have HT:=zAa ht.1;have B1:=zAa hb1;have hts:t.size≤10000000:=ht.2;clear ht hb1)
     | (go_at_call_of 16 (Value.string s);refine (zBg s _ (by omega)).mono ?_;rintro e w2 ⟨v,ws,rfl,hws,hxs,hown,hb2⟩;have HWS:=zAa hws;have HXS:=zAa hxs;have HOW:=zAa hown;have B2:=zAa (zAr B1.out (Nat.le_refl _) hb2);obtain⟨va,vc,hv⟩:=zBr hown;subst hv;clear hws hxs hown hb2))
    have hwl:ws.length≤8192:=by
     have h6:=congrArg List.length HWS.out
     rw[List.length_map,List.length_dropLast] at h6
     have h7:=P.zKB 10 s.toList
     rw[zAu] at h7
     omega
    rw[← HWS.out] at HCN
    clear HWS HCW
    go_loopw [8,9,11] (fun nv sv iv wr=>∃ (j n:Nat) (b:Bool),j≤ws.length∧iv=.int .i64 (j:Int)∧nv=.int .i64 (n:Int)∧sv=.bool b∧n≤j*4∧Hid (((ws.take j).map ByteArray.toList).foldl (P.zKi 1) (0,false)=(n,b))∧wr=w2) (fun _ _ iv _=>ws.length-(intOf iv).toNat)
    case atStart=>exact⟨0,0,false,Nat.zero_le _,rfl,rfl,rfl,by omega,rfl,rfl⟩
    case round =>
     obtain⟨j,n,b,hj,rfl,rfl,rfl,hn4,HFO,rfl⟩:=hrel
     by_cases hlt:j<ws.length
     ·have hlt':(j:Int)<(ws.length:Int):=by omega
      obtain⟨gl,hva⟩:∃ gl,va=some ⟨gl,0,none⟩:=by
       rcases HOW.out.2 with ⟨e1,h9⟩ | ⟨gl,c2,cur,e1,_⟩
       ·omega
       ·simp only[Value.slice.injEq] at e1
        exact⟨gl,e1.1⟩
      subst hva
      have cj:=HOW.out.cellAt j (by omega)
      simp only[List.getElem?_map,List.getElem?_eq_getElem hlt,Option.map_some] at cj
      have lgl:=(HOW.out.lt gl rfl).2
      have HST:Hid (((ws.take (j+1)).map ByteArray.toList).foldl (P.zKi 1) (0,false)=P.zKi 1 (n,b) ws[j].toList):=by
       unfold Hid
       rw[List.take_succ_eq_append_getElem hlt,List.map_append,List.foldl_append,HFO.out];rfl
      have hxz:ws[j].size≤8192:=Nat.le_trans (HXS.out _ (List.getElem_mem hlt)) hs
      generalize ws[j]=x at *
      have hxx:(x.size:Int)≤8192:=by omega
      have eY:(x++⟨#[10]⟩:ByteArray).toList=x.toList++[10]:=by simp only[zAq,zAc]
      have hyz:(x++⟨#[10]⟩:ByteArray).size≤1000000000:=by
       rw[← zAu,eY,List.length_append,zAu]
       simp;omega
      have hn8:n≤40000:=by omega
      obtain⟨vb,zb⟩:∃ v,P.hasB (x.toList++[10]) P.zMf=v:=⟨_,rfl⟩
      have zb':Hid (P.hasB (x++⟨#[10]⟩:ByteArray).toList (⟨#[32,97,99,113,114,101,108,32]⟩:ByteArray).toList=vb):=by unfold Hid;rw[eY,show (⟨#[32,97,99,113,114,101,108,32]⟩:ByteArray).toList=P.zMf from zAc _];exact zb
      obtain⟨vf,zf⟩:∃ v,P.zKQ (x.toList++[10]) P.fenL=v:=⟨_,rfl⟩
      have zf':Hid (P.zKQ (x++⟨#[10]⟩:ByteArray).toList (⟨#[102,101,110,99,101]⟩:ByteArray).toList=vf):=by unfold Hid;rw[eY,show (⟨#[102,101,110,99,101]⟩:ByteArray).toList=P.fenL from zAc _];exact zf
      obtain⟨va,za⟩:∃ v,P.hasB (x.toList++[10]) P.zLC=v:=⟨_,rfl⟩
      have za':Hid (P.hasB (x++⟨#[10]⟩:ByteArray).toList (⟨#[32,97,99,113,117,105,114,101,32]⟩:ByteArray).toList=va):=by unfold Hid;rw[eY,show (⟨#[32,97,99,113,117,105,114,101,32]⟩:ByteArray).toList=P.zLC from zAc _];exact za
      obtain⟨vr,zr⟩:∃ v,P.hasB (x.toList++[10]) P.zLD=v:=⟨_,rfl⟩
      have zr':Hid (P.hasB (x++⟨#[10]⟩:ByteArray).toList (⟨#[32,114,101,108,101,97,115,101,32]⟩:ByteArray).toList=vr):=by unfold Hid;rw[eY,show (⟨#[32,114,101,108,101,97,115,101,32]⟩:ByteArray).toList=P.zLD from zAc _];exact zr
      have HSV:Hid (P.zKi 1 (n,b) x.toList=(n+1+(if true&&(vb&&!vf) then 2 else 0)+(if true&&(va||vr) then 1 else 0),b||(vb&&!vf))):=by unfold Hid P.zKi P.more2 P.more1;rw[zb,zf,za,zr];rfl
      clear eY zb zf za zr
      go_upto_region 14 with fail
      generalize hyy:(x++⟨#[10]⟩:ByteArray)=yy at *
      clear hyy
      go_upto_region 18 with (first
       | (go_at_call 17;refine (zBG yy _ _ hyz (by simp[zAF])).mono ?_;rintro e wb ⟨rfl,hwb⟩;subst hwb;(first | rw[zb'.out] | rw[za'.out] | rw[zr'.out]))
       | (go_at_call 18;refine (zDG yy _ _).mono ?_;rintro e wb ⟨rfl,hwb⟩;subst hwb;rw[zf'.out]))
      clear zb' zf' za' zr' hyz hxx hxz cj lgl
      cases vb
      ·cases vf
       ·cases va
        ·cases vr
         ·have HS5:Hid (((ws.take (j+1)).map ByteArray.toList).foldl (P.zKi 1) (0,false)=(n+1,b)):=by
           unfold Hid
           rw[HST.out,HSV.out];simp
          clear HST HSV
          go_wp2
          go_roundw
          case rel=>exact⟨j+1,n+1,_,by omega,by go_num,by go_num,rfl,by omega,HS5,by first | rfl | trivial⟩
          case measure=>simp[intOf];omega
         ·have HS5:Hid (((ws.take (j+1)).map ByteArray.toList).foldl (P.zKi 1) (0,false)=(n+2,b)):=by
           unfold Hid
           rw[HST.out,HSV.out];simp
          clear HST HSV
          go_wp2
          go_roundw
          case rel=>exact⟨j+1,n+2,_,by omega,by go_num,by go_num,rfl,by omega,HS5,by first | rfl | trivial⟩
          case measure=>simp[intOf];omega
        ·cases vr
         ·have HS5:Hid (((ws.take (j+1)).map ByteArray.toList).foldl (P.zKi 1) (0,false)=(n+2,b)):=by
           unfold Hid
           rw[HST.out,HSV.out];simp
          clear HST HSV
          go_wp2
          go_roundw
          case rel=>exact⟨j+1,n+2,_,by omega,by go_num,by go_num,rfl,by omega,HS5,by first | rfl | trivial⟩
          case measure=>simp[intOf];omega
         ·have HS5:Hid (((ws.take (j+1)).map ByteArray.toList).foldl (P.zKi 1) (0,false)=(n+2,b)):=by
           unfold Hid
           rw[HST.out,HSV.out];simp
          clear HST HSV
          go_wp2
          go_roundw
          case rel=>exact⟨j+1,n+2,_,by omega,by go_num,by go_num,rfl,by omega,HS5,by first | rfl | trivial⟩
          case measure=>simp[intOf];omega
       ·cases va
        ·cases vr
         ·have HS5:Hid (((ws.take (j+1)).map ByteArray.toList).foldl (P.zKi 1) (0,false)=(n+1,b)):=by
           unfold Hid
           rw[HST.out,HSV.out];simp
          clear HST HSV
          go_wp2
          go_roundw
          case rel=>exact⟨j+1,n+1,_,by omega,by go_num,by go_num,rfl,by omega,HS5,by first | rfl | trivial⟩
          case measure=>simp[intOf];omega
         ·have HS5:Hid (((ws.take (j+1)).map ByteArray.toList).foldl (P.zKi 1) (0,false)=(n+2,b)):=by
           unfold Hid
           rw[HST.out,HSV.out];simp
          clear HST HSV
          go_wp2
          go_roundw
          case rel=>exact⟨j+1,n+2,_,by omega,by go_num,by go_num,rfl,by omega,HS5,by first | rfl | trivial⟩
          case measure=>simp[intOf];omega
        ·cases vr
         ·have HS5:Hid (((ws.take (j+1)).map ByteArray.toList).foldl (P.zKi 1) (0,false)=(n+2,b)):=by
           unfold Hid
           rw[HST.out,HSV.out];simp
          clear HST HSV
          go_wp2
          go_roundw
          case rel=>exact⟨j+1,n+2,_,by omega,by go_num,by go_num,rfl,by omega,HS5,by first | rfl | trivial⟩
          case measure=>simp[intOf];omega
         ·have HS5:Hid (((ws.take (j+1)).map ByteArray.toList).foldl (P.zKi 1) (0,false)=(n+2,b)):=by
           unfold Hid
           rw[HST.out,HSV.out];simp
          clear HST HSV
          go_wp2
          go_roundw
          case rel=>exact⟨j+1,n+2,_,by omega,by go_num,by go_num,rfl,by omega,HS5,by first | rfl | trivial⟩
          case measure=>simp[intOf];omega
      ·cases vf
       ·cases va
        ·cases vr
         ·have HS5:Hid (((ws.take (j+1)).map ByteArray.toList).foldl (P.zKi 1) (0,false)=(n+3,true)):=by
           unfold Hid
           rw[HST.out,HSV.out];simp
          clear HST HSV
          go_wp2
          go_roundw
          case rel=>exact⟨j+1,n+3,_,by omega,by go_num,by go_num,rfl,by omega,HS5,by first | rfl | trivial⟩
          case measure=>simp[intOf];omega
         ·have HS5:Hid (((ws.take (j+1)).map ByteArray.toList).foldl (P.zKi 1) (0,false)=(n+4,true)):=by
           unfold Hid
           rw[HST.out,HSV.out];simp
          clear HST HSV
          go_wp2
          go_roundw
          case rel=>exact⟨j+1,n+4,_,by omega,by go_num,by go_num,rfl,by omega,HS5,by first | rfl | trivial⟩
          case measure=>simp[intOf];omega
        ·cases vr
         ·have HS5:Hid (((ws.take (j+1)).map ByteArray.toList).foldl (P.zKi 1) (0,false)=(n+4,true)):=by
           unfold Hid
           rw[HST.out,HSV.out];simp
          clear HST HSV
          go_wp2
          go_roundw
          case rel=>exact⟨j+1,n+4,_,by omega,by go_num,by go_num,rfl,by omega,HS5,by first | rfl | trivial⟩
          case measure=>simp[intOf];omega
         ·have HS5:Hid (((ws.take (j+1)).map ByteArray.toList).foldl (P.zKi 1) (0,false)=(n+4,true)):=by
           unfold Hid
           rw[HST.out,HSV.out];simp
          clear HST HSV
          go_wp2
          go_roundw
          case rel=>exact⟨j+1,n+4,_,by omega,by go_num,by go_num,rfl,by omega,HS5,by first | rfl | trivial⟩
          case measure=>simp[intOf];omega
       ·cases va
        ·cases vr
         ·have HS5:Hid (((ws.take (j+1)).map ByteArray.toList).foldl (P.zKi 1) (0,false)=(n+1,b)):=by
           unfold Hid
           rw[HST.out,HSV.out];simp
          clear HST HSV
          go_wp2
          go_roundw
          case rel=>exact⟨j+1,n+1,_,by omega,by go_num,by go_num,rfl,by omega,HS5,by first | rfl | trivial⟩
          case measure=>simp[intOf];omega
         ·have HS5:Hid (((ws.take (j+1)).map ByteArray.toList).foldl (P.zKi 1) (0,false)=(n+2,b)):=by
           unfold Hid
           rw[HST.out,HSV.out];simp
          clear HST HSV
          go_wp2
          go_roundw
          case rel=>exact⟨j+1,n+2,_,by omega,by go_num,by go_num,rfl,by omega,HS5,by first | rfl | trivial⟩
          case measure=>simp[intOf];omega
        ·cases vr
         ·have HS5:Hid (((ws.take (j+1)).map ByteArray.toList).foldl (P.zKi 1) (0,false)=(n+2,b)):=by
           unfold Hid
           rw[HST.out,HSV.out];simp
          clear HST HSV
          go_wp2
          go_roundw
          case rel=>exact⟨j+1,n+2,_,by omega,by go_num,by go_num,rfl,by omega,HS5,by first | rfl | trivial⟩
          case measure=>simp[intOf];omega
         ·have HS5:Hid (((ws.take (j+1)).map ByteArray.toList).foldl (P.zKi 1) (0,false)=(n+2,b)):=by
           unfold Hid
           rw[HST.out,HSV.out];simp
          clear HST HSV
          go_wp2
          go_roundw
          case rel=>exact⟨j+1,n+2,_,by omega,by go_num,by go_num,rfl,by omega,HS5,by first | rfl | trivial⟩
          case measure=>simp[intOf];omega
     ·have hnlt:decide ((j:Int)<(ws.length:Int))=false:=decide_eq_false (by omega)
      have hje:j=ws.length:=by omega
      have hpr:CN=(n,b):=by rw[HCN.out,← HFO.out,hje,List.take_length]
      rw[hpr] at HCB
      clear hje HCN HFO hpr HXS HOW
      cases zw:P.hasB s.toList P.weakL
      ·cases zk:P.hasB s.toList P.zLk
       ·cases b
        ·have zw':Hid (P.hasB s.toList (⟨#[32,119,101,97,107,10]⟩:ByteArray).toList=false):=by unfold Hid;rw[show (⟨#[32,119,101,97,107,10]⟩:ByteArray).toList=P.weakL from zAc _];exact zw
         have zk':Hid (P.hasB s.toList (⟨#[32,98,108,111,99,107,10]⟩:ByteArray).toList=false):=by unfold Hid;rw[show (⟨#[32,98,108,111,99,107,10]⟩:ByteArray).toList=P.zLk from zAc _];exact zk
         have HC0:Hid (cb=decide ((P.zJZ 10 L).dropLast.length=n)):=by have h9:=HCB.out;rw[zw,zk] at h9;simp only[show ((1:Int)==1)=true from rfl,Bool.true_and,Bool.or_false,Bool.or_true,Bool.false_or,Bool.true_or,Bool.false_eq_true,if_false,if_true] at h9;exact h9.symm
         clear zw zk
         go_wp2_with (first
          | (go_at_call_of 16 (Value.string t);refine (zBg t _ hts).mono ?_;rintro e w3 ⟨v3,ws3,rfl,hws3,_,hown3,hb3⟩;have B3:=zAa (zAr B2.out (Nat.le_refl _) hb3);obtain⟨va3,vc3,hv3⟩:=zBr hown3;subst hv3;have hl3:ws3.length=(P.zJZ 10 L).dropLast.length:=(by have h6:=congrArg List.length hws3;rw[List.length_map,HT.out] at h6;exact h6);have hfe:((ws3.length:Int)==(n:Int))=decide ((P.zJZ 10 L).dropLast.length=n):=(by rw[← hl3];exact zDb _ _);have hfl:decide ((ws3.length:Int)≤(n:Int))=decide ((P.zJZ 10 L).dropLast.length≤n):=(by rw[← hl3];exact zBQ _ _);clear hl3 hws3 hown3 hb3;rw[← HC0.out] at hfe)
          | (go_at_call 17;refine (zBG s _ _ (by omega) (by simp[zAF])).mono ?_;rintro e wb ⟨rfl,hwb⟩;subst hwb;(first | rw[zw'.out] | rw[zk'.out] | skip)))
         go_ret
         exact⟨by first | rfl | (rw[← hfe];rfl) | (rw[← hfl,zBQ];rfl),B3.out⟩
        ·have zw':Hid (P.hasB s.toList (⟨#[32,119,101,97,107,10]⟩:ByteArray).toList=false):=by unfold Hid;rw[show (⟨#[32,119,101,97,107,10]⟩:ByteArray).toList=P.weakL from zAc _];exact zw
         have zk':Hid (P.hasB s.toList (⟨#[32,98,108,111,99,107,10]⟩:ByteArray).toList=false):=by unfold Hid;rw[show (⟨#[32,98,108,111,99,107,10]⟩:ByteArray).toList=P.zLk from zAc _];exact zk
         have HC0:Hid (cb=decide ((P.zJZ 10 L).dropLast.length≤n)):=by have h9:=HCB.out;rw[zw,zk] at h9;simp only[show ((1:Int)==1)=true from rfl,Bool.true_and,Bool.or_false,Bool.or_true,Bool.false_or,Bool.true_or,Bool.false_eq_true,if_false,if_true] at h9;exact h9.symm
         clear zw zk
         go_wp2_with (first
          | (go_at_call_of 16 (Value.string t);refine (zBg t _ hts).mono ?_;rintro e w3 ⟨v3,ws3,rfl,hws3,_,hown3,hb3⟩;have B3:=zAa (zAr B2.out (Nat.le_refl _) hb3);obtain⟨va3,vc3,hv3⟩:=zBr hown3;subst hv3;have hl3:ws3.length=(P.zJZ 10 L).dropLast.length:=(by have h6:=congrArg List.length hws3;rw[List.length_map,HT.out] at h6;exact h6);have hfe:((ws3.length:Int)==(n:Int))=decide ((P.zJZ 10 L).dropLast.length=n):=(by rw[← hl3];exact zDb _ _);have hfl:decide ((ws3.length:Int)≤(n:Int))=decide ((P.zJZ 10 L).dropLast.length≤n):=(by rw[← hl3];exact zBQ _ _);clear hl3 hws3 hown3 hb3;rw[← HC0.out] at hfl)
          | (go_at_call 17;refine (zBG s _ _ (by omega) (by simp[zAF])).mono ?_;rintro e wb ⟨rfl,hwb⟩;subst hwb;(first | rw[zw'.out] | rw[zk'.out] | skip)))
         go_ret
         exact⟨by first | rfl | (rw[← hfl];rfl) | (rw[← hfl,zBQ];rfl),B3.out⟩
       ·cases b
        ·have zw':Hid (P.hasB s.toList (⟨#[32,119,101,97,107,10]⟩:ByteArray).toList=false):=by unfold Hid;rw[show (⟨#[32,119,101,97,107,10]⟩:ByteArray).toList=P.weakL from zAc _];exact zw
         have zk':Hid (P.hasB s.toList (⟨#[32,98,108,111,99,107,10]⟩:ByteArray).toList=true):=by unfold Hid;rw[show (⟨#[32,98,108,111,99,107,10]⟩:ByteArray).toList=P.zLk from zAc _];exact zk
         have HC0:Hid (cb=decide ((P.zJZ 10 L).dropLast.length≤n)):=by have h9:=HCB.out;rw[zw,zk] at h9;simp only[show ((1:Int)==1)=true from rfl,Bool.true_and,Bool.or_false,Bool.or_true,Bool.false_or,Bool.true_or,Bool.false_eq_true,if_false,if_true] at h9;exact h9.symm
         clear zw zk
         go_wp2_with (first
          | (go_at_call_of 16 (Value.string t);refine (zBg t _ hts).mono ?_;rintro e w3 ⟨v3,ws3,rfl,hws3,_,hown3,hb3⟩;have B3:=zAa (zAr B2.out (Nat.le_refl _) hb3);obtain⟨va3,vc3,hv3⟩:=zBr hown3;subst hv3;have hl3:ws3.length=(P.zJZ 10 L).dropLast.length:=(by have h6:=congrArg List.length hws3;rw[List.length_map,HT.out] at h6;exact h6);have hfe:((ws3.length:Int)==(n:Int))=decide ((P.zJZ 10 L).dropLast.length=n):=(by rw[← hl3];exact zDb _ _);have hfl:decide ((ws3.length:Int)≤(n:Int))=decide ((P.zJZ 10 L).dropLast.length≤n):=(by rw[← hl3];exact zBQ _ _);clear hl3 hws3 hown3 hb3;rw[← HC0.out] at hfl)
          | (go_at_call 17;refine (zBG s _ _ (by omega) (by simp[zAF])).mono ?_;rintro e wb ⟨rfl,hwb⟩;subst hwb;(first | rw[zw'.out] | rw[zk'.out] | skip)))
         go_ret
         exact⟨by first | rfl | (rw[← hfl];rfl) | (rw[← hfl,zBQ];rfl),B3.out⟩
        ·have zw':Hid (P.hasB s.toList (⟨#[32,119,101,97,107,10]⟩:ByteArray).toList=false):=by unfold Hid;rw[show (⟨#[32,119,101,97,107,10]⟩:ByteArray).toList=P.weakL from zAc _];exact zw
         have zk':Hid (P.hasB s.toList (⟨#[32,98,108,111,99,107,10]⟩:ByteArray).toList=true):=by unfold Hid;rw[show (⟨#[32,98,108,111,99,107,10]⟩:ByteArray).toList=P.zLk from zAc _];exact zk
         have HC0:Hid (cb=decide ((P.zJZ 10 L).dropLast.length≤n)):=by have h9:=HCB.out;rw[zw,zk] at h9;simp only[show ((1:Int)==1)=true from rfl,Bool.true_and,Bool.or_false,Bool.or_true,Bool.false_or,Bool.true_or,Bool.false_eq_true,if_false,if_true] at h9;exact h9.symm
         clear zw zk
         go_wp2_with (first
          | (go_at_call_of 16 (Value.string t);refine (zBg t _ hts).mono ?_;rintro e w3 ⟨v3,ws3,rfl,hws3,_,hown3,hb3⟩;have B3:=zAa (zAr B2.out (Nat.le_refl _) hb3);obtain⟨va3,vc3,hv3⟩:=zBr hown3;subst hv3;have hl3:ws3.length=(P.zJZ 10 L).dropLast.length:=(by have h6:=congrArg List.length hws3;rw[List.length_map,HT.out] at h6;exact h6);have hfe:((ws3.length:Int)==(n:Int))=decide ((P.zJZ 10 L).dropLast.length=n):=(by rw[← hl3];exact zDb _ _);have hfl:decide ((ws3.length:Int)≤(n:Int))=decide ((P.zJZ 10 L).dropLast.length≤n):=(by rw[← hl3];exact zBQ _ _);clear hl3 hws3 hown3 hb3;rw[← HC0.out] at hfl)
          | (go_at_call 17;refine (zBG s _ _ (by omega) (by simp[zAF])).mono ?_;rintro e wb ⟨rfl,hwb⟩;subst hwb;(first | rw[zw'.out] | rw[zk'.out] | skip)))
         go_ret
         exact⟨by first | rfl | (rw[← hfl];rfl) | (rw[← hfl,zBQ];rfl),B3.out⟩
      ·cases zk:P.hasB s.toList P.zLk
       ·cases b
        ·have zw':Hid (P.hasB s.toList (⟨#[32,119,101,97,107,10]⟩:ByteArray).toList=true):=by unfold Hid;rw[show (⟨#[32,119,101,97,107,10]⟩:ByteArray).toList=P.weakL from zAc _];exact zw
         have zk':Hid (P.hasB s.toList (⟨#[32,98,108,111,99,107,10]⟩:ByteArray).toList=false):=by unfold Hid;rw[show (⟨#[32,98,108,111,99,107,10]⟩:ByteArray).toList=P.zLk from zAc _];exact zk
         have HC0:Hid (cb=decide ((P.zJZ 10 L).dropLast.length≤n)):=by have h9:=HCB.out;rw[zw,zk] at h9;simp only[show ((1:Int)==1)=true from rfl,Bool.true_and,Bool.or_false,Bool.or_true,Bool.false_or,Bool.true_or,Bool.false_eq_true,if_false,if_true] at h9;exact h9.symm
         clear zw zk
         go_wp2_with (first
          | (go_at_call_of 16 (Value.string t);refine (zBg t _ hts).mono ?_;rintro e w3 ⟨v3,ws3,rfl,hws3,_,hown3,hb3⟩;have B3:=zAa (zAr B2.out (Nat.le_refl _) hb3);obtain⟨va3,vc3,hv3⟩:=zBr hown3;subst hv3;have hl3:ws3.length=(P.zJZ 10 L).dropLast.length:=(by have h6:=congrArg List.length hws3;rw[List.length_map,HT.out] at h6;exact h6);have hfe:((ws3.length:Int)==(n:Int))=decide ((P.zJZ 10 L).dropLast.length=n):=(by rw[← hl3];exact zDb _ _);have hfl:decide ((ws3.length:Int)≤(n:Int))=decide ((P.zJZ 10 L).dropLast.length≤n):=(by rw[← hl3];exact zBQ _ _);clear hl3 hws3 hown3 hb3;rw[← HC0.out] at hfl)
          | (go_at_call 17;refine (zBG s _ _ (by omega) (by simp[zAF])).mono ?_;rintro e wb ⟨rfl,hwb⟩;subst hwb;(first | rw[zw'.out] | rw[zk'.out] | skip)))
         go_ret
         exact⟨by first | rfl | (rw[← hfl];rfl) | (rw[← hfl,zBQ];rfl),B3.out⟩
        ·have zw':Hid (P.hasB s.toList (⟨#[32,119,101,97,107,10]⟩:ByteArray).toList=true):=by unfold Hid;rw[show (⟨#[32,119,101,97,107,10]⟩:ByteArray).toList=P.weakL from zAc _];exact zw
         have zk':Hid (P.hasB s.toList (⟨#[32,98,108,111,99,107,10]⟩:ByteArray).toList=false):=by unfold Hid;rw[show (⟨#[32,98,108,111,99,107,10]⟩:ByteArray).toList=P.zLk from zAc _];exact zk
         have HC0:Hid (cb=decide ((P.zJZ 10 L).dropLast.length≤n)):=by have h9:=HCB.out;rw[zw,zk] at h9;simp only[show ((1:Int)==1)=true from rfl,Bool.true_and,Bool.or_false,Bool.or_true,Bool.false_or,Bool.true_or,Bool.false_eq_true,if_false,if_true] at h9;exact h9.symm
         clear zw zk
         go_wp2_with (first
          | (go_at_call_of 16 (Value.string t);refine (zBg t _ hts).mono ?_;rintro e w3 ⟨v3,ws3,rfl,hws3,_,hown3,hb3⟩;have B3:=zAa (zAr B2.out (Nat.le_refl _) hb3);obtain⟨va3,vc3,hv3⟩:=zBr hown3;subst hv3;have hl3:ws3.length=(P.zJZ 10 L).dropLast.length:=(by have h6:=congrArg List.length hws3;rw[List.length_map,HT.out] at h6;exact h6);have hfe:((ws3.length:Int)==(n:Int))=decide ((P.zJZ 10 L).dropLast.length=n):=(by rw[← hl3];exact zDb _ _);have hfl:decide ((ws3.length:Int)≤(n:Int))=decide ((P.zJZ 10 L).dropLast.length≤n):=(by rw[← hl3];exact zBQ _ _);clear hl3 hws3 hown3 hb3;rw[← HC0.out] at hfl)
          | (go_at_call 17;refine (zBG s _ _ (by omega) (by simp[zAF])).mono ?_;rintro e wb ⟨rfl,hwb⟩;subst hwb;(first | rw[zw'.out] | rw[zk'.out] | skip)))
         go_ret
         exact⟨by first | rfl | (rw[← hfl];rfl) | (rw[← hfl,zBQ];rfl),B3.out⟩
       ·cases b
        ·have zw':Hid (P.hasB s.toList (⟨#[32,119,101,97,107,10]⟩:ByteArray).toList=true):=by unfold Hid;rw[show (⟨#[32,119,101,97,107,10]⟩:ByteArray).toList=P.weakL from zAc _];exact zw
         have zk':Hid (P.hasB s.toList (⟨#[32,98,108,111,99,107,10]⟩:ByteArray).toList=true):=by unfold Hid;rw[show (⟨#[32,98,108,111,99,107,10]⟩:ByteArray).toList=P.zLk from zAc _];exact zk
         have HC0:Hid (cb=decide ((P.zJZ 10 L).dropLast.length≤n)):=by have h9:=HCB.out;rw[zw,zk] at h9;simp only[show ((1:Int)==1)=true from rfl,Bool.true_and,Bool.or_false,Bool.or_true,Bool.false_or,Bool.true_or,Bool.false_eq_true,if_false,if_true] at h9;exact h9.symm
         clear zw zk
         go_wp2_with (first
          | (go_at_call_of 16 (Value.string t);refine (zBg t _ hts).mono ?_;rintro e w3 ⟨v3,ws3,rfl,hws3,_,hown3,hb3⟩;have B3:=zAa (zAr B2.out (Nat.le_refl _) hb3);obtain⟨va3,vc3,hv3⟩:=zBr hown3;subst hv3;have hl3:ws3.length=(P.zJZ 10 L).dropLast.length:=(by have h6:=congrArg List.length hws3;rw[List.length_map,HT.out] at h6;exact h6);have hfe:((ws3.length:Int)==(n:Int))=decide ((P.zJZ 10 L).dropLast.length=n):=(by rw[← hl3];exact zDb _ _);have hfl:decide ((ws3.length:Int)≤(n:Int))=decide ((P.zJZ 10 L).dropLast.length≤n):=(by rw[← hl3];exact zBQ _ _);clear hl3 hws3 hown3 hb3;rw[← HC0.out] at hfl)
          | (go_at_call 17;refine (zBG s _ _ (by omega) (by simp[zAF])).mono ?_;rintro e wb ⟨rfl,hwb⟩;subst hwb;(first | rw[zw'.out] | rw[zk'.out] | skip)))
         go_ret
         exact⟨by first | rfl | (rw[← hfl];rfl) | (rw[← hfl,zBQ];rfl),B3.out⟩
        ·have zw':Hid (P.hasB s.toList (⟨#[32,119,101,97,107,10]⟩:ByteArray).toList=true):=by unfold Hid;rw[show (⟨#[32,119,101,97,107,10]⟩:ByteArray).toList=P.weakL from zAc _];exact zw
         have zk':Hid (P.hasB s.toList (⟨#[32,98,108,111,99,107,10]⟩:ByteArray).toList=true):=by unfold Hid;rw[show (⟨#[32,98,108,111,99,107,10]⟩:ByteArray).toList=P.zLk from zAc _];exact zk
         have HC0:Hid (cb=decide ((P.zJZ 10 L).dropLast.length≤n)):=by have h9:=HCB.out;rw[zw,zk] at h9;simp only[show ((1:Int)==1)=true from rfl,Bool.true_and,Bool.or_false,Bool.or_true,Bool.false_or,Bool.true_or,Bool.false_eq_true,if_false,if_true] at h9;exact h9.symm
         clear zw zk
         go_wp2_with (first
          | (go_at_call_of 16 (Value.string t);refine (zBg t _ hts).mono ?_;rintro e w3 ⟨v3,ws3,rfl,hws3,_,hown3,hb3⟩;have B3:=zAa (zAr B2.out (Nat.le_refl _) hb3);obtain⟨va3,vc3,hv3⟩:=zBr hown3;subst hv3;have hl3:ws3.length=(P.zJZ 10 L).dropLast.length:=(by have h6:=congrArg List.length hws3;rw[List.length_map,HT.out] at h6;exact h6);have hfe:((ws3.length:Int)==(n:Int))=decide ((P.zJZ 10 L).dropLast.length=n):=(by rw[← hl3];exact zDb _ _);have hfl:decide ((ws3.length:Int)≤(n:Int))=decide ((P.zJZ 10 L).dropLast.length≤n):=(by rw[← hl3];exact zBQ _ _);clear hl3 hws3 hown3 hb3;rw[← HC0.out] at hfl)
          | (go_at_call 17;refine (zBG s _ _ (by omega) (by simp[zAF])).mono ?_;rintro e wb ⟨rfl,hwb⟩;subst hwb;(first | rw[zw'.out] | rw[zk'.out] | skip)))
         go_ret
         exact⟨by first | rfl | (rw[← hfl];rfl) | (rw[← hfl,zBQ];rfl),B3.out⟩
end Go.Proofs.YtgceflcbckjjiaaGreatDoor
