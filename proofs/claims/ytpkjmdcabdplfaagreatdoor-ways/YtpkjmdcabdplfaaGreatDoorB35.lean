import Derived.Test.YtpkjmdcabdplfaaGreatDoorB34
import Derived.Test.YtpkjmdcabdplfaaGreatDoorB33
set_option linter.unusedVariables false
set_option linter.unusedSimpArgs false
namespace Go.Proofs.YtpkjmdcabdplfaaGreatDoor
open Go Go.RowKit
set_option maxRecDepth 100000
theorem mem_app (a b:List R.Lh):R.memN (a++b)=R.memN a+R.memN b:=by
 induction a with
 | nil=>simp[R.memN]
 | cons x r ih=>simp only[List.cons_append,R.memN,ih];omega
theorem mem_le (a:List R.Lh):0≤R.memN a∧R.memN a≤a.length:=by
 induction a with
 | nil=>simp[R.memN]
 | cons x r ih=>simp only[R.memN,R.mem1,List.length_cons];split<;>omega
set_option maxHeartbeats 6400000 in
theorem stretch_any {w:World} {B:Nat} {v:Value} {l:List R.Tree} {F:List Nat} (h:LinesAt w B v l F) (hsz:R.sizeL l<10000) :
  Calls Tryz.prog 37 #[v,.int .i64 2] w fun e w'=>e=.returned (.int .i64 (R.strGo 0 l))∧Below w.heap.size w w':=by
 cases h using LinesAt.cs with
 | @row v l vs Fs how hv hF hc hnd =>
 have hsv:∃ a c,v=.slice a l.length c∧(0<l.length→∃ b,a=some ⟨b,0,none⟩∧b<w.heap.size∧l.length≤c):=by
  rcases how.2 with ⟨e,h0⟩ | ⟨k,c,cur,e,_,_,hcap,_⟩
  ·exact⟨none,0,by rw[e,h0],fun h=>by omega⟩
  ·exact⟨_,c,e,fun _=>⟨k,rfl,(how.lt k (by rw[e];rfl)).2,hcap⟩⟩
 obtain⟨sa,sc,rfl,hsa⟩:=hsv
 have hlen:=R.size_len l
 have HO:=hide how
 have HV:=hide hv
 have HF:=hide hF
 have HCC:=hide hc
 have HS:=hide hsz
 have hn:l.length<10000:=by omega
 generalize hN:l.length=n at *
 have HL:=hide hN
 clear hN how hv hF hc hnd hsz hlen
 go_enter Tryz.func37,Tryz.ntmps37
 go_wp2
 go_loopw [5,6,7] (fun nn bb i wr=>∃ (k:Nat) (s q:Int),k≤n∧i=.int .i64 k∧nn=.int .i64 s∧bb=.int .i64 q∧0≤q∧q≤k∧0≤s∧s≤R.sizeL (l.take k)∧Hid (s+R.strGo q (l.drop k)=R.strGo 0 l)∧Below w.heap.size w wr) (fun _ _ i _=>n-(intOf i).toNat)
 case atStart=>exact⟨0,0,0,Nat.zero_le _,rfl,rfl,rfl,by omega,by omega,by omega,by simp[R.sizeL,R.numL_nil],by unfold Hid;simp,Below.refl _ _⟩
 case round =>
  obtain⟨k,s,q,hk,rfl,rfl,rfl,hq0,hq1,hs0,hs1,HR,hbel⟩:=hrel
  have hws:=hbel.size
  by_cases hlt:k<n
  ·obtain⟨b,rfl,hblt,hcap⟩:=hsa (by omega)
   have hkl:k<l.length:=by rw[HL.out];exact hlt
   have hin:(k:Int)<(n:Int):=by omega
   have hkv:k<vs.length:=by rw[HV.out];exact hlt
   have hkf:k<Fs.length:=by rw[HF.out];exact hlt
   have hsg:=R.sizeL_get l k hkl
   have hsb:=R.sizeL_nn l[k].body
   have HS1:=HS.out
   have ZS:R.sizeL (l.take (k+1))=R.sizeL (l.take k)+(1+R.sizeL l[k].body):=by
    unfold R.sizeL
    have:=R.numL_snoc (fun _=>true) l k hkl
    simpa using this
   have CE:=LinesAt.line HO.out HL.out.symm (by rw[HV.out,HL.out]) k hkl vs[k] (by simp[hkv])
   have d0:wr.cell? ⟨b,k*9,none⟩=some (.string l[k].x.op):=(World.cell?_of_block (w:=w) (a:=⟨b,k*9,none⟩) (hbel.block b hblt)).trans (CE 0 (by omega))
   have hrg:=rangeAt_keep2 (range_ln HO.out HL.out.symm (by rw[HV.out,HL.out]) k hkl vs[k] (by simp[hkv])) (hbel.block b hblt)
   have hch:=HCC.out k l[k] vs[k] Fs[k] (by simp[hkl]) (by simp[hkv]) (by simp[hkf])
   have HC:Hid (∀ c:Nat,Calls Tryz.prog 40 #[.slice (some ⟨b,k*9,none⟩) 1 c] wr fun e w'=>∃ (v':Value) (ys:List R.Tree) (us:List Value),e=.returned v'∧ys.map R.Tree.x=l[k].x::R.flatL l[k].body∧us.length=ys.length∧(ys.length:Int)≤1+R.sizeL l[k].body∧w'.ownsRow wr.heap.size 49 9 v' ys.length (rowLn ys us)∧Below wr.heap.size wr w'):=fun c =>
    all_one (B:=B) hrg (by omega) (hch.keep (fun j hj=>hbel.block j (hch.bound j hj).2)) (by omega)
   have HD:=hide (P.drop_cons l k hkl)
   generalize l[k]=t at *
   clear CE hrg hch HCC
   cases hb:(t.x.op.toList==[98,97,114,114,105,101,114])
   ·have hb':Hid (R.isB t.x=false):=by unfold Hid;simpa [R.isB,R.sBarrier,lit_toList] using hb
    by_cases hq:q=1
    ·have bq:(q != 1)=false:=by simp[hq]
     have HN2:Hid (s+(R.memN (t.x::R.flatL t.body)+R.strGo q (l.drop (k+1)))=R.strGo 0 l):=by
      have h1:=HR.out
      rw[HD.out] at h1
      have bq1:(q==1)=true:=by simp[hq]
      simp only[R.strGo,hb'.out,bq1,Bool.false_eq_true,if_false,if_true,flat_one] at h1
      exact h1
     clear hq
     go_wp2_with (first | (go_at_call 40;refine (HC.out _).mono ?_;rintro e w1 ⟨v',ys,us,rfl,hfl,hul,hyl,hown,hb1⟩))
     have hsv:∃ a c,v'=.slice a ys.length c∧(0<ys.length→∃ b,a=some ⟨b,0,none⟩∧b<w1.heap.size):=by
      rcases hown.2 with ⟨e,h0⟩ | ⟨k,c,cur,e,hb,hg,_⟩
      ·exact⟨none,0,by rw[e,h0],fun h=>by omega⟩
      ·exact⟨_,c,e,fun _=>⟨k,rfl,(Array.getElem?_eq_some_iff.1 hg).1⟩⟩
     obtain⟨ya,yc,rfl,hya⟩:=hsv
     have HOW:=hide hown
     have HFL:=hide hfl
     have HBW:=hide (hbel.trans (hb1.mono hws))
     have hyn:ys.length<10000:=by omega
     clear hown hfl hbel hb1 HC d0
     go_loopw [5,9] (fun nn j w2=>∃ (m:Nat) (s':Int),m≤ys.length∧j=.int .i64 m∧nn=.int .i64 s'∧0≤s'∧s'≤s+m∧Hid (s'=s+R.memN ((ys.take m).map R.Tree.x))∧w2=w1) (fun _ j _=>ys.length-(intOf j).toNat)
     case atStart=>exact⟨0,s,Nat.zero_le _,rfl,rfl,hs0,by omega,by unfold Hid;simp[R.memN],rfl⟩
     case round =>
      obtain⟨m,s',hm,rfl,rfl,hp0,hp1,HM,rfl⟩:=hrel
      by_cases hml:m<ys.length
      ·obtain⟨b2,rfl,hb2⟩:=hya (by omega)
       have hmi:(m:Int)<(ys.length:Int):=by omega
       have hmu:m<us.length:=by omega
       have CE:=LinesAt.line HOW.out rfl hul m hml us[m] (by simp[hmu])
       have d0:wr.cell? ⟨b2,m*9,none⟩=some (.string ys[m].x.op):=CE 0 (by omega)
       have HYS:=hide (ys_snoc ys m hml)
       generalize ys[m]=y at *
       clear CE
       have MB:=mem_le ((ys.take m).map R.Tree.x)
       cases e1:(y.x.op.toList==[115,101,116])
       ·cases e2:(y.x.op.toList==[105,102])
        ·have HM2:Hid (s'+1=s+R.memN ((ys.take (m+1)).map R.Tree.x)):=by
          unfold Hid
          rw[HYS.out,mem_app,HM.out]
          have:R.mem1 y.x=1:=by simp only[R.mem1,R.sSet,R.sIf,lit_toList,bne,e1,e2];rfl
          simp only[R.memN,this];omega
         go_wp2
         go_roundw
         case rel=>exact⟨m+1,s'+1,by omega,by go_num,by go_num,by omega,by omega,HM2,trivial⟩
         case measure=>simp[intOf];omega
        ·have HM2:Hid (s'=s+R.memN ((ys.take (m+1)).map R.Tree.x)):=by
          unfold Hid
          rw[HYS.out,mem_app,HM.out]
          have:R.mem1 y.x=0:=by simp only[R.mem1,R.sSet,R.sIf,lit_toList,bne,e1,e2];rfl
          simp only[R.memN,this];omega
         go_wp2
         go_roundw
         case rel=>exact⟨m+1,s',by omega,by go_num,rfl,by omega,by omega,HM2,trivial⟩
         case measure=>simp[intOf];omega
       ·have HM2:Hid (s'=s+R.memN ((ys.take (m+1)).map R.Tree.x)):=by
         unfold Hid
         rw[HYS.out,mem_app,HM.out]
         have:R.mem1 y.x=0:=by simp only[R.mem1,R.sSet,R.sIf,lit_toList,bne,e1];simp
         simp only[R.memN,this];omega
        go_wp2
        go_roundw
        case rel=>exact⟨m+1,s',by omega,by go_num,rfl,by omega,by omega,HM2,trivial⟩
        case measure=>simp[intOf];omega
      ·have hmm:m=ys.length:=by omega
       have HFN:Hid (s'+R.strGo q (l.drop (k+1))=R.strGo 0 l):=by
        have h1:=HM.out
        rw[List.take_of_length_le (by omega),HFL.out] at h1
        have h2:=HN2.out
        unfold Hid;omega
       go_wp2
       go_roundw
       case rel=>exact⟨k+1,s',q,by omega,by go_num,rfl,rfl,hq0,by omega,hp0,by omega,HFN,HBW.out⟩
       case measure=>simp[intOf];omega
    ·have bq:(q != 1)=true:=by simp[hq]
     have HN2:Hid (s+R.strGo q (l.drop (k+1))=R.strGo 0 l):=by
      have h1:=HR.out
      rw[HD.out] at h1
      have bq1:(q==1)=false:=by simp[hq]
      simp only[R.strGo,hb'.out,bq1,Bool.false_eq_true,if_false] at h1
      exact h1
     clear hq
     go_wp2
     go_roundw
     case rel=>exact⟨k+1,s,q,by omega,by go_num,rfl,rfl,hq0,by omega,hs0,by omega,HN2,hbel⟩
     case measure=>simp[intOf];omega
   ·have HN2:Hid (s+R.strGo (q+1) (l.drop (k+1))=R.strGo 0 l):=by
     have h1:=HR.out
     have hb':R.isB t.x=true:=by simpa [R.isB,R.sBarrier,lit_toList] using hb
     rw[HD.out] at h1
     simp only[R.strGo,hb',if_true] at h1
     exact h1
    go_wp2
    go_roundw
    case rel=>exact⟨k+1,s,q+1,by omega,by go_num,rfl,by go_num,by omega,by omega,hs0,by omega,HN2,hbel⟩
    case measure=>simp[intOf];omega
  ·have HE:Hid (R.strGo 0 l=s):=by
    unfold Hid
    rw[← HR.out,List.drop_eq_nil_of_le (by have:=HL.out;omega)];simp[R.strGo]
   go_wp2
   go_ret
   exact⟨by rw[HE.out];rfl,hbel⟩
theorem thCells_set (ts:List R.Th):∀ (vs:List Value),vs.length=ts.length→∀ (k:Nat) (t:R.Th),ts[k]?=some t→∀ (b:List R.Tree) (nv:Value),(thCells ts vs).set (k*3+1) nv=thCells (ts.set k { t with body:=b }) (vs.set k nv):=by
 induction ts with
 | nil=>intro vs _ k t h;simp at h
 | cons t0 l ih =>
  intro vs hl k t ht b nv
  cases vs with
  | nil=>simp at hl
  | cons v0 vs =>
   cases k with
   | zero =>
    simp at ht
    subst ht
    simp[thCells]
   | succ k =>
    simp at ht
    have:=ih vs (by simpa using hl) k t ht b nv
    rw[show (k+1)*3+1=k*3+1+3 by omega]
    simp[thCells,this]
theorem ThsAt.setBody {w:World} {B bt n cap:Nat} {ts:List R.Th} {vs:List Value} {Fs:List (List Nat)} (h:ThsAt w B (.slice (some ⟨bt,0,none⟩) n cap) ts vs Fs) (hn:n=ts.length) (k:Nat) (t:R.Th) (ht:ts[k]?=some t) (b:List R.Tree) (nv:Value) (G:List Nat) (hc:LinesAt w B nv b G) :
  ThsAt (w.setCell ⟨bt,k*3+1,none⟩ nv) B (.slice (some ⟨bt,0,none⟩) n cap) (ts.set k { t with body:=b }) (vs.set k nv) (Fs.set k G):=by
 have ho:=h.own
 rw[← hn] at ho
 obtain⟨cur,hcur⟩:=own_type ho (k:=bt) rfl
 have far:∀ {u:Value} {l:List R.Tree} {F:List Nat},LinesAt w B u l F→LinesAt (w.setCell ⟨bt,k*3+1,none⟩ nv) B u l F:=fun hL=>hL.keep (fun j hj=>Below.heap_setCell _ _ _ _ (fun e=>by
  obtain⟨c,hc⟩:=hL.typed j hj
  rw[e,hcur] at hc
  simp at hc))
 refine⟨?_,by simp[h.lv],by simp[h.lF],fun i s u F hs hu hF=>?_⟩
 ·rw[List.length_set,← hn,← thCells_set ts vs h.lv k t ht b nv]
  exact (ho.stored (k*3+1) nv).1
 ·by_cases hi:i=k
  ·subst hi
   have hk:i<ts.length:=(List.getElem?_eq_some_iff.1 ht).1
   have h1:=h.lv
   have h2:=h.lF
   simp[hk] at hs
   simp[show i<vs.length by omega] at hu
   simp[show i<Fs.length by omega] at hF
   subst hs hu hF
   exact far hc
  ·rw[List.getElem?_set_ne (Ne.symm hi)] at hs hu hF
   exact far (h.kid i s u F hs hu hF)
theorem ThsAt.getL2 {w:World} {B bt n cap:Nat} {ts:List R.Th} {vs:List Value} {Fs:List (List Nat)} (h:ThsAt w B (.slice (some ⟨bt,0,none⟩) n cap) ts vs Fs) (hn:n=ts.length) (k:Nat) (hk:k<ts.length) :
  bt<w.heap.size∧∃ u F,w.cell? ⟨bt,k*3,none⟩=some (.int .i64 ts[k].block)∧w.cell? ⟨bt,k*3+1,none⟩=some u∧LinesAt w B u ts[k].body F:=by
 have hv:k<vs.length:=by rw[h.lv];exact hk
 have hF:k<Fs.length:=by rw[h.lF];exact hk
 have ho:=h.own
 rw[← hn] at ho
 obtain⟨c0,c1,c2⟩:=thCells_at ts vs h.lv k ts[k] vs[k] (by simp[hk]) (by simp[hv])
 refine⟨(ho.lt bt rfl).2,vs[k],Fs[k],?_,?_,h.kid k ts[k] vs[k] Fs[k] (by simp[hk]) (by simp[hv]) (by simp[hF])⟩
 ·rw[ho.cellAt _ (by omega)];exact c0
 ·rw[ho.cellAt _ (by omega)];exact c1
theorem ThsAt.app {w wr W w1:World} {o v:Value} {ts:List R.Th} {vs:List Value} {Fs:List (List Nat)} {t:R.Th} {g1 cap1 n B':Nat} {G:List Nat} (hT:ThsAt wr w.heap.size o ts vs Fs) (hn:ts.length=n) (hbw:w.heap.size≤wr.heap.size) (hW:Below wr.heap.size wr W) (hB:wr.heap.size≤B')
  (hc:LinesAt W B' v t.body G) (hgrow:W.grownBy w1 o.ownBlock) (hown1:w1.ownsRow w.heap.size 46 3 (.slice (some ⟨g1,0,none⟩) (n+1) cap1) (n+1) (thCells ts vs++[.int .i64 t.block,v,.int .i64 t.row])) :
  ThsAt w1 w.heap.size (.slice (some ⟨g1,0,none⟩) (n+1) cap1) (ts++[t]) (vs++[v]) (Fs++[G]):=by
 subst hn
 have h2:=hW.size
 have keepL:∀ {u:Value} {l:List R.Tree} {F:List Nat} {B'':Nat},LinesAt W B'' u l F→LinesAt w1 B'' u l F:=fun hL=>hL.keep (fun j hj=>by
  refine hgrow.block j (hL.bound j hj).2 (fun e=>?_)
  obtain⟨c,hc⟩:=hL.typed j hj
  have hoW:W.ownsRow w.heap.size 46 3 o ts.length (thCells ts vs):=ownsRow_keep hT.own (fun k hk=>hW.block k (hT.own.lt k hk).2)
  exact own_ne_blk hoW hc (by decide) e.symm)
 refine⟨by simpa [thCells_append _ _ _ _ hT.lv,thCells] using hown1,by simp[hT.lv],by simp[hT.lF],fun i s u F hs hu hF=>?_⟩
 by_cases hi:i<ts.length
 ·rw[List.getElem?_append_left hi] at hs
  rw[List.getElem?_append_left (by have:=hT.lv;omega)] at hu
  rw[List.getElem?_append_left (by have:=hT.lF;omega)] at hF
  have hL:=hT.kid i s u F hs hu hF
  exact keepL (hL.keep (fun j hj=>hW.block j (hL.bound j hj).2))
 ·have hi':i=ts.length:=by
   have:=(List.getElem?_eq_some_iff.1 hs).1
   simp at this;omega
  subst hi'
  rw[List.getElem?_append_right (by omega)] at hs
  rw[List.getElem?_append_right (by have:=hT.lv;omega)] at hu
  rw[List.getElem?_append_right (by have:=hT.lF;omega)] at hF
  simp at hs
  simp[hT.lv] at hu
  simp[hT.lF] at hF
  subst hs hu hF
  exact keepL (hc.base (by omega))
end Go.Proofs.YtpkjmdcabdplfaaGreatDoor
namespace Go.Proofs.YtpkjmdcabdplfaaGreatDoor
open Go
structure GT (n:Nat) (ts:List R.Th):Prop where
 len:ts.length=n
 blk:∀ t∈ts,t.block=0∨t.block=1
 sz:∀ t∈ts,R.sizeL t.body≤8
 ok:∀ t∈ts,R.okL t.body
theorem GT.start {n:Nat} {ts:List R.Th} (hn:n=ts.length) (hm:R.Sm ts) (hok:∀ t∈ts,R.okL t.body):GT n ts:=⟨hn.symm,hm.blk,hm.all,hok⟩
theorem size_nar (f:R.Lh→R.Lh) (l:List R.Tree):R.sizeL (R.narL f l)=R.sizeL l:=by
 unfold R.sizeL
 induction l using R.flatL.induct with
 | case1=>simp[R.narL]
 | case2 x b r h1 h2=>simp only[R.narL,R.numL_cons,R.numT,h1,h2]
theorem fit_nar (one:Int→Bool) (bo:Bool) (x:R.Lh) (h:R.Fit x):R.Fit (R.narX one bo x):=by
 unfold R.narX
 split
 ·obtain⟨⟨r0,r1,v0,v1,a0,a1,b0,b1,o,s⟩,op⟩:=h
  exact⟨⟨r0,r1,v0,v1,a0,a1,b0,b1,o,by simp[R.bBlock,lit_size]⟩,op⟩
 ·exact h
theorem ok_nar (one:Int→Bool) (bo:Bool) (l:List R.Tree):R.okL l→R.okL (R.narL (R.narX one bo) l):=by
 induction l using R.flatL.induct with
 | case1=>intro _;simp[R.narL,R.okL_nil]
 | case2 x b r h1 h2 =>
  intro h
  simp only[R.narL,R.okL_cons,R.okT] at h ⊢
  exact⟨⟨fit_nar one bo x h.1.1,h1 h.1.2⟩,h2 h.2⟩
theorem size_drop (l:List R.Tree):∀ k,R.sizeL (R.dropL k l)≤R.sizeL l:=by
 unfold R.sizeL
 induction l with
 | nil=>intro k;simp[R.dropL]
 | cons t r ih =>
  intro k
  have h1:=ih (k-1)
  have h2:=ih k
  have h3:0≤R.numT (fun _=>true) t:=by
   have:=(R.numL_bd (fun _=>true) t.body).1
   simp only[R.numT,if_true];omega
  simp only[R.dropL,R.numL_cons]
  repeat' split
  all_goals (try simp only[R.numL_cons]);omega
theorem ok_drop (l:List R.Tree):∀ k,R.okL l→R.okL (R.dropL k l):=by
 induction l with
 | nil=>intro k h;simpa [R.dropL] using h
 | cons t r ih =>
  intro k h
  rw[R.okL_cons] at h
  simp only[R.dropL]
  repeat' split
  ·exact ih _ h.2
  ·rw[R.okL_cons];exact⟨h.1,ih _ h.2⟩
  ·rw[R.okL_cons];exact⟨h.1,ih _ h.2⟩
theorem GT.step1 {n:Nat} {ts:List R.Th} (h:GT n ts):GT n (R.step1 ts):=by
 refine⟨by unfold R.step1;rw[List.length_map];exact h.len,fun t ht=>?_,fun t ht=>?_,fun t ht=>?_⟩
 all_goals obtain⟨u,hu,rfl⟩:=List.mem_map.1 ht
 ·exact h.blk u hu
 ·simp only[R.narT,size_nar];exact h.sz u hu
 ·exact ok_nar _ _ _ (h.ok u hu)
theorem GT.drop {n:Nat} {ts:List R.Th} (h:GT n ts) (b:Int):GT n (ts.map (R.dropT b)):=by
 refine⟨by rw[List.length_map];exact h.len,fun t ht=>?_,fun t ht=>?_,fun t ht=>?_⟩
 all_goals obtain⟨u,hu,rfl⟩:=List.mem_map.1 ht
 ·unfold R.dropT;split<;>exact h.blk u hu
 ·unfold R.dropT
  have h1:=h.sz u hu
  have h2:=size_drop u.body 2
  split
  ·simp only[];omega
  ·exact h1
 ·unfold R.dropT
  split
  ·exact ok_drop _ _ (h.ok u hu)
  ·exact h.ok u hu
theorem GT.step2 {n:Nat} {ts:List R.Th} (h:GT n ts) (b:Int):GT n (R.step2 b ts):=by
 unfold R.step2
 split
 ·exact h.drop b
 ·exact h
theorem size_thin (l:List R.Tree):∀ p,R.sizeL (R.thinL p l)≤R.sizeL l:=by
 unfold R.sizeL
 induction l using R.flatL.induct with
 | case1=>intro p;simp[R.thinL]
 | case2 x b r h1 h2 =>
  intro p
  have a1:=h1 none
  have a2:=h2 p
  have a3:=h2 (some x)
  have a4:=(R.numL_bd (fun _=>true) b).1
  simp only[R.thinL,R.numL_cons,R.numT,if_true]
  split
  ·omega
  ·simp only[R.numL_cons,R.numT,if_true];omega
theorem ok_thin (l:List R.Tree):∀ p,R.okL l→R.okL (R.thinL p l):=by
 induction l using R.flatL.induct with
 | case1=>intro p h;simpa [R.thinL] using h
 | case2 x b r h1 h2 =>
  intro p h
  simp only[R.okL_cons,R.okT] at h
  simp only[R.thinL]
  split
  ·exact h2 p h.2
  ·simp only[R.okL_cons,R.okT];exact⟨⟨h.1.1,h1 none h.1.2⟩,h2 _ h.2⟩
theorem GT.better {n:Nat} {ts:List R.Th} (h:GT n ts):GT n (R.better ts):=by
 have h3:=(h.step1.step2 0).step2 1
 unfold R.better
 refine⟨by rw[List.length_map];exact h3.len,fun t ht=>?_,fun t ht=>?_,fun t ht=>?_⟩
 all_goals obtain⟨u,hu,rfl⟩:=List.mem_map.1 ht
 ·exact h3.blk u hu
 ·have h1:=h3.sz u hu
  have h2:=size_thin u.body none
  simp only[R.thinT];omega
 ·exact ok_thin _ _ (h3.ok u hu)
end Go.Proofs.YtpkjmdcabdplfaaGreatDoor
