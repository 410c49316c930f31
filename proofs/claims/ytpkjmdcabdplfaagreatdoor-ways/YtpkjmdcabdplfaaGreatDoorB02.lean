import Derived.Test.YtpkjmdcabdplfaaGreatDoorB01
set_option linter.unusedVariables false
set_option linter.unusedSimpArgs false
namespace Go.Proofs.YtpkjmdcabdplfaaGreatDoor
open Go Go.RowKit
set_option maxRecDepth 100000
theorem cut_same (c:UInt8) (s:ByteArray) (k:Nat) (bs:List ByteArray) (cur:ByteArray) (hk:k<s.size) (h:P.splitAt c (s.toList.take k)=(bs++[cur]).map ByteArray.toList) (hc:s[k]=c) :
  P.splitAt c (s.toList.take (k+1))=(bs++[cur]++[(⟨#[]⟩:ByteArray)]).map ByteArray.toList:=by
 rw[take_snoc s k hk,P.splitAt_snoc _ _ _ (bs.map ByteArray.toList) cur.toList (by simpa using h),if_pos hc]
 simp[lit_toList]
theorem cut_more (c:UInt8) (s:ByteArray) (k:Nat) (bs:List ByteArray) (cur:ByteArray) (hk:k<s.size) (h:P.splitAt c (s.toList.take k)=(bs++[cur]).map ByteArray.toList) (hc:¬ s[k]=c) :
  P.splitAt c (s.toList.take (k+1))=(bs++[cur++s.extract k (k+1)]).map ByteArray.toList:=by
 rw[take_snoc s k hk,P.splitAt_snoc _ _ _ (bs.map ByteArray.toList) cur.toList (by simpa using h),if_neg hc]
 have:(s.extract k (k+1)).toList=[s[k]]:=by
  rw[extract_toList,take_snoc s k hk,List.drop_append_of_le_length (by rw[List.length_take,size_toList];omega),List.drop_of_length_le (by rw[List.length_take,size_toList];omega)];rfl
 simp[app_toList,this]
theorem byte_cmp (a c:UInt8):((a.toNat:Int)==(c.toNat:Int))=decide (a=c):=by
 rw[Bool.eq_iff_iff];simp[← UInt8.toNat_inj];omega
theorem set_last {w:World} {B g n cap:Nat} {e:TypeId} {xs:List Value} {x y:Value} (h:w.ownsRow B e 1 (.slice (some ⟨g,0,none⟩) (n+1) cap) (n+1) (xs++[x])):(w.setCell ⟨g,n,none⟩ y).ownsRow B e 1 (.slice (some ⟨g,0,none⟩) (n+1) cap) (n+1) (xs++[y]):=by
 have h1:=(h.stored n y).1
 have hl:xs.length=n:=by have:=h.1;simp at this;omega
 have:(xs++[x]).set n y=xs++[y]:=by rw[List.set_append_right _ _ (by omega),hl,Nat.sub_self];rfl
 rw[this] at h1;exact h1
set_option maxHeartbeats 3200000 in
theorem cut_any (s:ByteArray) (c:UInt8) (w:World) (hs:s.size≤8192) :
  Calls Tryz.prog 13 #[.string s,.int .u8 (c.toNat:Int)] w fun e w'=>∃ g cap n d rs,e=.returned (.slice (some ⟨g,0,none⟩) n cap)∧Hid (d.toList::rs.map ByteArray.toList=P.splitAt c s.toList)∧w'.ownsRow w.heap.size 9 1 (.slice (some ⟨g,0,none⟩) n cap) n ((d::rs).map Value.string)∧rs.length=n-1∧1≤n∧n<10000∧Below w.heap.size w w':=by
 obtain⟨i0,hi,hz0,hz1,hz2⟩:=info_parts Tryz.infoStr
 have hcb:c.toNat<256:=UInt8.toNat_lt c
 go_enter Tryz.func13,Tryz.ntmps13
 go_wp2
 go_loopw [5,6] (fun v i wr=>∃ k n g cap:Nat,∃ bs:List ByteArray,∃ cur:ByteArray,k≤s.size∧i=.int .i64 k∧v=.slice (some ⟨g,0,none⟩) (n+1) cap∧bs.length=n∧n≤k∧cur.size≤k∧Hid (P.splitAt c (s.toList.take k)=(bs++[cur]).map ByteArray.toList)∧wr.ownsRow w.heap.size 9 1 (.slice (some ⟨g,0,none⟩) (n+1) cap) (n+1) (bs.map Value.string++[.string cur])∧Below w.heap.size w wr) (fun _ i _=>s.size-(intOf i).toNat)
 case atStart =>
  refine⟨0,0,w.heap.size,1,[],⟨#[]⟩,Nat.zero_le _,rfl,rfl,rfl,Nat.le_refl _,by simp[lit_size],by unfold Hid;simp[P.splitAt,lit_toList],?_,(Below.refl _ _).alloc (Nat.le_refl _) _⟩
  refine⟨by simp,.inr ⟨w.heap.size,1,#[.string ⟨#[]⟩],rfl,Nat.le_refl _,heap_alloc_new w _,by omega,by unfold maxLen;omega,rfl,rfl⟩⟩
 case round =>
  obtain⟨k,n,g,cap,bs,cur,hk,rfl,rfl,hbl,hnk,hcs,HS,hown,hbel⟩:=hrel
  have HBL:=hide hbl
  clear hbl
  have hws:=hbel.size
  by_cases hlt:k<s.size
  ·by_cases hc:s[k]=c
   ·have hc':((s[k].toNat:Int)==(c.toNat:Int))=true:=by rw[byte_cmp];simpa using hc
    have HR:=hide (cut_same c s k bs cur hlt HS.out hc)
    clear hc
    go_wp2_with (first
     | (at_builtin;refine wpList_append_lies _ rfl (.tmp 20) (.tmp 21) 40 rfl w.heap.size 9 i0 (.string ByteArray.empty) 1 16 Tryz.underlying40 hi hz0 hz1 hz2 rfl (by decide) _ _ _ rfl (hown.alloc _) ⟨wr.heap.size,0,none⟩ 1 1 [.string ⟨#[]⟩] rfl rfl ?c1 ?c2 (by decide) ?c3 ?c4 ?c5 _ rfl ?_))
    case c1 =>
     intro j u hj
     match j,hj with
     | 0,hj=>simp at hj;subst hj;simp[Addr.add]
    case c2=>intro u hu;simp at hu;subst hu;rfl
    case c3=>unfold maxLen;omega
    case c4=>omega
    case c5=>simp;omega
    intro gn cn w1 hown' hgrow hat hglt
    have hb1:Below w.heap.size w w1:=(hbel.alloc hws _).grown hgrow (by simp;omega) (fun j hj=>(hown.lt j hj).1)
    clear hgrow hat HS
    go_wp2
    go_roundw
    case rel=>exact⟨k+1,n+1,gn,cn,bs++[cur],⟨#[]⟩,by omega,by go_num,rfl,by have:=HBL.out;simp;omega,by omega,by simp[lit_size],HR,by simpa using hown',hb1⟩
    case measure=>simp[intOf];omega
   ·have hc':((s[k].toNat:Int)==(c.toNat:Int))=false:=by rw[byte_cmp];simpa using hc
    have HR:=hide (cut_more c s k bs cur hlt HS.out hc)
    have hcell:wr.cell? ⟨g,n,none⟩=some (.string cur):=by
     rw[hown.cellAt n (by omega),List.getElem?_append_right (by rw[List.length_map,HBL.out];exact Nat.le_refl _),List.length_map,HBL.out];simp
    have hfro:=hown.frozenAt n
    have hglt:g<wr.heap.size:=(hown.lt g rfl).2
    have hin:(n:Int)<(n:Int)+1:=by omega
    have hex:(s.extract k (k+1)).size≤1:=by simp[ByteArray.size_extract];omega
    have HOW:=hide (set_last (y:=.string (cur++s.extract k (k+1))) hown)
    have hBg:w.heap.size≤g:=(hown.lt g rfl).1
    have hsl:∀ w,(Instr.slice 9 (.string s) (some (.int .i64 (k:Int))) (some (.int .i64 ((k:Int)+1))) none).run Tryz.prog w=.ok (.string (s.extract k (k+1))) w:=fun w=>by
     rw[run_slice_string w 9 s .i64 .i64 _ _ Tryz.underlying9 (by omega) (by omega) (by omega),show ((k:Int)).toNat=k by omega,show ((k:Int)+1).toNat=k+1 by omega]
    have hwr:IntKind.i64.wrap ((k:Int)+1)=(k:Int)+1:=by rw[IntKind.wrap_i64];omega
    clear HS hown hc
    go_wp2
    go_region
    all_goals go_wp2
    all_goals go_roundw
    case rel=>exact⟨k+1,n,g,cap,bs,cur++s.extract k (k+1),by omega,by go_num,rfl,HBL.out,by omega,by simp;omega,HR,HOW.out.drew,(hbel.setCell hBg _).drew⟩
    case measure=>simp[intOf];omega
  ·have hks:k=s.size:=by omega
   subst hks
   have HS2:Hid (P.splitAt c s.toList=(bs++[cur]).map ByteArray.toList):=by
    unfold Hid
    have:=HS.out
    rw[List.take_of_length_le (by rw[size_toList];exact Nat.le_refl _)] at this
    exact this
   have hl:=HBL.out
   clear HBL
   go_wp2
   go_ret
   obtain⟨d,rs,hd⟩:∃ d rs,bs++[cur]=d::rs:=by
    cases bs with
    | nil=>exact⟨cur,[],rfl⟩
    | cons a r=>exact⟨a,r++[cur],rfl⟩
   refine⟨g,cap,n+1,d,rs,rfl,?_,?_,?_,by omega,by omega,hbel⟩
   ·unfold Hid;rw[HS2.out,hd];rfl
   ·rw[← hd];simpa using hown
   ·have:=congrArg List.length hd;simp at this;omega
end Go.Proofs.YtpkjmdcabdplfaaGreatDoor
namespace Go.Proofs.YtpkjmdcabdplfaaGreatDoor
namespace P
structure Thr where
 block:Int
 line:Int
 stmts:List Stm
structure Rd where
 threads:List Thr
 line:Int
 count:Int
 ifs:Int
 opn:List Int
 most:Int
def Rd.zero:Rd:=⟨[],0,0,0,[],8⟩
def putLast:List Thr→Stm→List Thr
 | [],_=>[]
 | [t],s=>[{ t with stmts:=t.stmts++[s] }]
 | t::u::r,s=>t::putLast (u::r) s
theorem putLast_snoc (ts:List Thr) (t:Thr) (s:Stm):putLast (ts++[t]) s=ts++[{ t with stmts:=t.stmts++[s] }]:=by
 induction ts with
 | nil=>rfl
 | cons a r ih=>cases r with
  | nil=>rfl
  | cons b q=>simpa [putLast] using ih
theorem putLast_length (ts:List Thr) (s:Stm):(putLast ts s).length=ts.length:=by
 match ts with
 | []=>rfl
 | [_]=>rfl
 | t::u::r=>simpa [putLast] using putLast_length (u::r) s
def put (r:Rd) (s:Stm):Rd:={ r with threads:=putLast r.threads s }
def ends (r:Rd) (s:Stm):Rd × Bool :=
 match r.opn.getLast? with
 | none=>(r,false)
 | some l=>(put { r with opn:=r.opn.dropLast } { s with label:=l },true)
def branch (r:Rd) (s:Stm):Rd × Bool :=
 if 2≤r.opn.length then (r,false) else (put { r with ifs:=r.ifs+1,opn:=r.opn++[r.ifs+1] } { s with label:=r.ifs+1 },true)
def begins (r:Rd) (ws:List (List UInt8)):Rd × Bool :=
 if 4≤r.threads.length∨0<r.opn.length then (r,false)
 else match ws with
  | [_,[c]]=>if (digit c 2).2 then ({ r with threads:=r.threads++[⟨(digit c 2).1,r.line,[]⟩],count:=0 },true) else (r,false)
  | _=>(r,false)
def takes (r:Rd) (ws:List (List UInt8)):Rd × Bool :=
 if ws.head?==some [116,104,114,101,97,100] then begins r ws
 else if r.threads.isEmpty then (r,false)
 else
  let st:={ (statement ws).1 with line:=r.line }
  if (statement ws).2 then
   if st.kind==11 then ends r st
   else if 8≤r.count then (r,false)
   else if st.kind==10 then
    if 2≤r.opn.length then ({ r with count:=r.count+1 },false) else branch { r with count:=r.count+1 } st
   else (put { r with count:=r.count+1 } st,true)
  else (r,false)
def beginD (r:Rd) (b l:Int):Rd × Bool :=
 if 4≤r.threads.length∨0<r.opn.length then (r,false) else ({ r with threads:=r.threads++[⟨b,l,[]⟩],count:=0 },true)
def putD (r:Rd) (st:Stm):Rd × Bool :=
 if r.threads.isEmpty then (r,false)
 else if st.kind==11 then ends r st
 else if r.most≤r.count then (r,false)
 else if st.kind==10 then
  if 2≤r.opn.length then ({ r with count:=r.count+1 },false) else branch { r with count:=r.count+1 } st
 else (put { r with count:=r.count+1 } st,true)
theorem begins_D (r:Rd) (a:List UInt8) (c:UInt8):begins r [a,[c]]=if (digit c 2).2 then beginD r (digit c 2).1 r.line else (r,false):=by
 unfold begins beginD
 by_cases h:4≤r.threads.length∨0<r.opn.length
 ·simp only[if_pos h];split<;>rfl
 ·simp only[if_neg h]
theorem takes_D (r:Rd) (c:List UInt8) (rs:List (List UInt8)) (h:(c==[116,104,114,101,97,100])=false) (hm:r.most=8) :
  takes r (c::rs)=if (statement (c::rs)).2 then putD r { (statement (c::rs)).1 with line:=r.line } else (r,false):=by
 have h':((c::rs).head?==some [116,104,114,101,97,100])=false:=by simpa using h
 unfold takes putD
 rw[h',hm]
 simp only[Bool.false_eq_true,if_false]
 cases ht:r.threads.isEmpty
 ·simp only[Bool.false_eq_true,if_false]
 ·simp
theorem ends_keep (r:Rd) (s:Stm):(ends r s).1.line=r.line∧(ends r s).1.most=r.most:=by
 unfold ends;split<;>exact⟨rfl,rfl⟩
theorem branch_keep (r:Rd) (s:Stm):(branch r s).1.line=r.line∧(branch r s).1.most=r.most:=by
 unfold branch;split<;>exact⟨rfl,rfl⟩
theorem putD_keep (r:Rd) (s:Stm):(putD r s).1.line=r.line∧(putD r s).1.most=r.most:=by
 unfold putD
 split
 ·exact⟨rfl,rfl⟩
 split
 ·exact ends_keep r s
 split
 ·exact⟨rfl,rfl⟩
 split
 ·split
  ·exact⟨rfl,rfl⟩
  ·exact branch_keep _ s
 ·exact⟨rfl,rfl⟩
theorem begins_keep (r:Rd) (ws:List (List UInt8)):(begins r ws).1.line=r.line∧(begins r ws).1.most=r.most:=by
 unfold begins
 split
 ·exact⟨rfl,rfl⟩
 split
 ·split<;>exact⟨rfl,rfl⟩
 ·exact⟨rfl,rfl⟩
theorem takes_keep (r:Rd) (ws:List (List UInt8)) (hm:r.most=8):(takes r ws).1.line=r.line∧(takes r ws).1.most=8:=by
 cases ws with
 | nil =>
  unfold takes
  simp only[List.head?_nil]
  have:((none:Option (List UInt8))==some [116,104,114,101,97,100])=false:=rfl
  rw[this]
  simp only[Bool.false_eq_true,if_false]
  have hs:(statement []).2=false:=by rfl
  rw[hs]
  simp only[Bool.false_eq_true,if_false]
  split<;>exact⟨rfl,hm⟩
 | cons c rs =>
  cases h:(c==[116,104,114,101,97,100])
  ·rw[takes_D r c rs h hm]
   split
   ·have:=putD_keep r { (statement (c::rs)).1 with line:=r.line }
    exact⟨this.1,this.2.trans hm⟩
   ·exact⟨rfl,hm⟩
  ·have h':((c::rs).head?==some [116,104,114,101,97,100])=true:=by simpa using h
   unfold takes
   rw[h',if_pos rfl]
   have:=begins_keep r (c::rs)
   exact⟨this.1,this.2.trans hm⟩
end P
namespace P
def runLines (r:Rd):List (List UInt8)→Rd × Bool
 | []=>(r,true)
 | x::xs =>
  if (takes { r with line:=r.line+1 } (splitAt 32 x)).2 then runLines (takes { r with line:=r.line+1 } (splitAt 32 x)).1 xs
  else ((takes { r with line:=r.line+1 } (splitAt 32 x)).1,false)
theorem runLines_snoc (xs:List (List UInt8)):∀ (r r':Rd) (x:List UInt8),runLines r xs=(r',true)→runLines r (xs++[x])=takes { r' with line:=r'.line+1 } (splitAt 32 x):=by
 induction xs with
 | nil =>
  intro r r' x h
  simp[runLines] at h
  subst h
  simp only[List.nil_append,runLines]
  cases ht:(takes { r with line:=r.line+1 } (splitAt 32 x)).2
  ·simp[← ht]
  ·simp[← ht]
 | cons y ys ih =>
  intro r r' x h
  simp only[runLines] at h
  simp only[List.cons_append,runLines]
  cases ht:(takes { r with line:=r.line+1 } (splitAt 32 y)).2
  ·simp[ht] at h
  ·simp only[ht,if_true] at h ⊢
   exact ih _ _ _ h
theorem runLines_more (xs:List (List UInt8)):∀ (r:Rd) (ys:List (List UInt8)),(runLines r xs).2=false→runLines r (xs++ys)=runLines r xs:=by
 induction xs with
 | nil=>intro r ys h;simp[runLines] at h
 | cons y zs ih =>
  intro r ys h
  simp only[List.cons_append,runLines] at h ⊢
  cases ht:(takes { r with line:=r.line+1 } (splitAt 32 y)).2
  ·simp
  ·simp only[ht,if_true] at h ⊢
   exact ih _ _ h
def lines (l:List UInt8):List Thr × Int :=
 let q:=runLines Rd.zero (splitAt 10 l).dropLast
 if q.2 then
  if (splitAt 10 l).getLast?≠some []∨q.1.opn≠[]∨q.1.threads=[] then ([],q.1.line+1) else (q.1.threads,0)
 else ([],q.1.line)
theorem drop_cons {α:Type} (l:List α) (k:Nat) (h:k<l.length):l.drop k=l[k]::l.drop (k+1):=(List.drop_eq_getElem_cons h)
theorem splitAt_length (c:UInt8) (l:List UInt8):(splitAt c l).length≤l.length+1:=by
 induction l with
 | nil=>simp[splitAt]
 | cons x r ih =>
  unfold splitAt
  split
  ·simp;omega
  ·split
   ·rename_i h t e;rw[e] at ih;simp at ih ⊢;omega
   ·simp
structure Good (k:Nat) (r:Rd):Prop where
 few:r.threads.length≤4
 stm:∀ t∈r.threads,t.stmts.length≤k
 opn:r.opn.length≤2
 ifs0:0≤r.ifs
 ifs1:r.ifs≤k
 cnt:0≤r.count
 lin0:0≤r.line
 lin1:r.line≤k
theorem good_zero:Good 0 Rd.zero:=⟨by simp[Rd.zero],by simp[Rd.zero],by simp[Rd.zero],by simp[Rd.zero],by simp[Rd.zero],by simp[Rd.zero],by simp[Rd.zero],by simp[Rd.zero]⟩
theorem putLast_mem (ts:List Thr) (s:Stm) (k:Nat) (h:∀ t∈ts,t.stmts.length≤k):∀ t∈putLast ts s,t.stmts.length≤k+1:=by
 match ts,h with
 | [],h=>intro t ht;simp[putLast] at ht
 | [a],h =>
  intro t ht
  simp[putLast] at ht
  subst ht
  have:=h a (by simp)
  simp;omega
 | a::b::r,h =>
  intro t ht
  simp only[putLast,List.mem_cons] at ht
  rcases ht with rfl | ht
  ·have:=h t (by simp);omega
  ·exact putLast_mem (b::r) s k (fun t ht=>h t (by simp at ht ⊢;right;exact ht)) t ht
theorem good_takes {k:Nat} {r:Rd} (ws:List (List UInt8)) (h:Good k r) (hl:r.line+1≤k+1):Good (k+1) (takes { r with line:=r.line+1 } ws).1:=by
 have h0:Good (k+1) { r with line:=r.line+1 }:=⟨h.few,fun t ht=>by have:=h.stm t ht;omega,h.opn,h.ifs0,by have:=h.ifs1;simp;omega,h.cnt,by have:=h.lin0;simp;omega,by simpa using hl⟩
 have hp:∀ (o:List Int) (i c:Int) (s:Stm),o.length≤2→0≤i→i≤k+1→0≤c→Good (k+1) (put { r with line:=r.line+1,opn:=o,ifs:=i,count:=c } s):=fun o i c s h1 h2 h3 h4 =>
  ⟨by simp only[put,putLast_length];exact h.few,putLast_mem _ _ _ h.stm,h1,h2,by simpa [put] using h3,h4,h0.lin0,h0.lin1⟩
 unfold takes
 split
 ·unfold begins
  by_cases hf':4≤r.threads.length∨0<r.opn.length
  ·rw[if_pos (by exact hf')];exact h0
  ·rw[if_neg (by exact hf')]
   split
   ·split
    ·
     refine⟨by simp;omega,?_,h0.opn,h0.ifs0,h0.ifs1,by simp,h0.lin0,h0.lin1⟩
     intro t ht
     simp at ht
     rcases ht with ht | rfl
     ·exact h0.stm t ht
     ·simp
    ·exact h0
   ·exact h0
 ·split
  ·exact h0
  ·simp only[]
   split
   ·split
    ·unfold ends
     split
     ·exact h0
     ·rename_i l hl
      refine hp _ r.ifs r.count _ ?_ h.ifs0 (by have:=h.ifs1;omega) h.cnt
      have:=h.opn
      simp;omega
    ·split
     ·exact h0
     ·split
      ·split
       ·exact⟨h0.few,h0.stm,h0.opn,h0.ifs0,h0.ifs1,by have:=h.cnt;simp;omega,h0.lin0,h0.lin1⟩
       ·rename_i ho
        unfold branch
        rw[if_neg ho]
        refine hp _ _ _ _ ?_ (by have:=h.ifs0;simp;omega) (by have:=h.ifs1;simp;omega) (by have:=h.cnt;simp;omega)
        simp at ho ⊢;omega
      ·exact hp r.opn r.ifs _ _ h.opn h.ifs0 (by have:=h.ifs1;omega) (by have:=h.cnt;omega)
   ·exact h0
end P
end Go.Proofs.YtpkjmdcabdplfaaGreatDoor
namespace Go.Proofs.YtpkjmdcabdplfaaGreatDoor
open Go Go.RowKit
set_option maxRecDepth 100000
namespace R
def idxFrom (w:List UInt8) (k:Int):List (List UInt8)→Int
 | []=>-1
 | x::r=>if x==w&&w != [] then k else idxFrom w (k+1) r
def inn (w l:List UInt8):Int:=idxFrom w 0 (P.splitAt 32 l)
theorem idx_bd (w:List UInt8) (l:List (List UInt8)):∀ k,idxFrom w k l=-1∨(k≤idxFrom w k l∧idxFrom w k l<k+l.length):=by
 induction l with
 | nil=>intro k;left;rfl
 | cons x r ih =>
  intro k
  simp only[idxFrom]
  split
  ·right;simp;omega
  ·rcases ih (k+1) with h | h
   ·left;exact h
   ·right;simp at h ⊢;omega
end R
theorem own_words2 {w:World} {B g cap n:Nat} {ws:List ByteArray} (h:w.ownsRow B 9 1 (.slice (some ⟨g,0,none⟩) n cap) n (ws.map Value.string)) (hn:ws.length=n):WordsAt w g 0 ws∧n≤cap∧g<w.heap.size:=by
 subst hn;exact own_words h
theorem WordsAt.get {w:World} {b off:Nat} {ws:List ByteArray} (h:WordsAt w b off ws) (k:Nat) (hk:k<ws.length):w.cell? ⟨b,off+k,none⟩=some (.string ws[k]):=h k _ (List.getElem?_eq_getElem hk)
set_option maxHeartbeats 3200000 in
theorem in_any (v l:ByteArray) (w:World) (hs:l.size≤8192) :
  Calls Tryz.prog 14 #[.string v,.string l] w fun e w'=>e=.returned (.int .i64 (R.inn v.toList l.toList))∧Below w.heap.size w w':=by
 go_enter Tryz.func14,Tryz.ntmps14
 go_wp2_with (first | (go_at_call 13;refine (cut_any l 32 _ hs).mono ?_;rintro e w1 ⟨g,cap,n,d,rs,rfl,HW,hown,hrn,hn1,hnb,hb1⟩;obtain⟨hwa,hnc,hglt⟩:=own_words2 hown (by simp;omega);have HWA:=hide hwa;have HRN:Hid ((d::rs).length=n):=(by simp[Hid];omega);clear hown hwa hrn))
 go_loopw [6] (fun i wr=>∃ k:Nat,k≤n∧i=.int .i64 k∧Hid (R.inn v.toList l.toList=R.idxFrom v.toList k (((d::rs).map ByteArray.toList).drop k))∧wr=w1) (fun i _=>n-(intOf i).toNat)
 case atStart=>exact⟨0,Nat.zero_le _,rfl,by unfold Hid R.inn;rw[← HW.out];rfl,rfl⟩
 case round =>
  obtain⟨k,hk,rfl,HI,rfl⟩:=hrel
  by_cases hlt:k<n
  ·have hkl:k<(d::rs).length:=by rw[HRN.out];exact hlt
   have hc:=HWA.out.get k hkl
   rw[Nat.zero_add] at hc
   have HD:=hide (P.drop_cons ((d::rs).map ByteArray.toList) k (by simpa using hkl))
   have HX:Hid (((d::rs).map ByteArray.toList).drop k=((d::rs)[k]).toList::((d::rs).map ByteArray.toList).drop (k+1)):=by
    have:=HD.out;unfold Hid;rw[this,List.getElem_map]
   generalize hx:(d::rs)[k]=x at *
   clear hx HD hkl
   have hin:(k:Int)<(n:Int):=by omega
   by_cases e1:x.toList=v.toList
   ·cases e2:v.toList.isEmpty
    ·have HI':Hid (R.inn v.toList l.toList=(k:Int)):=by
      have hv:v.toList≠[]:=by simpa using e2
      unfold Hid;rw[HI.out,HX.out,R.idxFrom,if_pos (by simp[e1,hv])]
     clear HX
     go_wp2
     go_ret
     rw[HI'.out]
     exact⟨rfl,hb1⟩
    ·have HI':Hid (R.inn v.toList l.toList=R.idxFrom v.toList ((k+1:Nat):Int) (((d::rs).map ByteArray.toList).drop (k+1))):=by
      unfold Hid;rw[HI.out,HX.out,R.idxFrom,if_neg (by simp[List.isEmpty_iff.1 e2])];rfl
     clear HX
     go_wp2
     go_roundw
     case rel=>exact⟨k+1,by omega,by go_num,HI',trivial⟩
     case measure=>simp[intOf];omega
   ·have HI':Hid (R.inn v.toList l.toList=R.idxFrom v.toList ((k+1:Nat):Int) (((d::rs).map ByteArray.toList).drop (k+1))):=by
     unfold Hid;rw[HI.out,HX.out,R.idxFrom,if_neg (by simp[e1])];rfl
    clear HX
    go_wp2
    go_roundw
    case rel=>exact⟨k+1,by omega,by go_num,HI',trivial⟩
    case measure=>simp[intOf];omega
  ·have HI':Hid (R.inn v.toList l.toList=-1):=by
    unfold Hid;rw[HI.out,List.drop_eq_nil_of_le (by have:=HRN.out;simp at this ⊢;omega)];rfl
   go_wp2
   go_ret
   rw[HI'.out]
   exact⟨rfl,hb1⟩
namespace R
def regs:List UInt8:=[114,48,32,114,49,32,114,50,32,114,51]
def nums:List UInt8:=[48,32,49,32,50,32,51]
def vars:List UInt8:=[120,32,121,32,122]
def scopes:List UInt8:=[98,108,111,99,107,32,100,101,118,105,99,101]
def signs:List UInt8:=[43,32,45,32,61,61]
def opd (v:List UInt8):Int × Bool:=if 0≤inn v regs then (-1-inn v regs,true) else (inn v nums,decide (0≤inn v nums))
theorem inn_bd (v l:List UInt8):-1≤inn v l∧inn v l≤l.length:=by
 have h:=idx_bd v (P.splitAt 32 l) 0
 have h2:=P.splitAt_length 32 l
 unfold inn
 omega
end R
theorem in_lst (v:ByteArray) (L:List UInt8) (a:Array UInt8) (w:World) (h:a.toList=L) (hs:a.size≤8192) :
  Calls Tryz.prog 14 #[.string v,.string ⟨a⟩] w fun e w'=>e=.returned (.int .i64 (R.inn v.toList L))∧Below w.heap.size w w':=by
 have:=in_any v ⟨a⟩ w hs
 rw[lit_toList a,h] at this
 exact this
set_option maxHeartbeats 800000 in
theorem opdR_any (v:ByteArray) (w:World) :
  Calls Tryz.prog 15 #[.string v] w fun e w'=>e=.returned (.tuple #[.int .i64 (R.opd v.toList).1,.bool (R.opd v.toList).2])∧Below w.heap.size w w':=by
 have h1:=R.inn_bd v.toList R.regs
 have h2:=R.inn_bd v.toList R.nums
 have l1:R.regs.length=11:=rfl
 have l2:R.nums.length=7:=rfl
 rw[l1] at h1
 rw[l2] at h2
 have HO:Hid (R.opd v.toList=if 0≤R.inn v.toList R.regs then (-1-R.inn v.toList R.regs,true) else (R.inn v.toList R.nums,decide (0≤R.inn v.toList R.nums))):=rfl
 generalize hr:R.inn v.toList R.regs=r at *
 generalize hn:R.inn v.toList R.nums=n at *
 have HR:=hide hr
 have HN:=hide hn
 clear hr hn l1 l2
 go_enter Tryz.func15,Tryz.ntmps15
 go_wp2_with fail
 refine (in_lst v R.regs _ _ rfl (by simp)).mono ?_
 rintro e w1 ⟨rfl,hb1⟩
 rw[HR.out]
 go_wp2_with fail
 refine (in_lst v R.nums _ _ rfl (by simp)).mono ?_
 rintro e w2 ⟨rfl,hb2⟩
 rw[HN.out]
 have hbl:=hb1.trans (hb2.mono hb1.size)
 by_cases h0:0≤r
 ·go_wp2
  go_ret2
  rw[HO.out,if_pos h0]
  exact⟨by simp,hbl⟩
 ·go_wp2
  go_ret2
  rw[HO.out,if_neg (by omega)]
  exact⟨by simp,hbl⟩
namespace R
structure Lh where
 op:ByteArray
 reg:Int
 var:Int
 a:Int
 b:Int
 sign:ByteArray
 ord:ByteArray
 scope:ByteArray
def weak:List UInt8:=[119,101,97,107]
def how (x:Lh) (orders:List UInt8):List ByteArray→Lh × Bool
 | []=>(x,false)
 | o::r =>
  if o.toList==weak then ({ x with ord:=o },decide (0≤inn o.toList orders)&&r.isEmpty)
  else if inn o.toList orders<0 then ({ x with ord:=o },false)
  else match r with
   | [s]=>({ x with ord:=o,scope:=s },decide (0≤inn s.toList scopes))
   | _=>({ x with ord:=o },false)
theorem how_weak (x:Lh) (orders:List UInt8) (o:ByteArray) (r:List ByteArray) (h:(o.toList==weak)=true):how x orders (o::r)=({ x with ord:=o },decide (0≤inn o.toList orders)&&r.isEmpty):=by simp[how,h]
theorem how_no (x:Lh) (orders:List UInt8) (o:ByteArray) (r:List ByteArray) (h:(o.toList==weak)=false) (h2:inn o.toList orders<0):how x orders (o::r)=({ x with ord:=o },false):=by simp[how,h,h2]
theorem how_len (x:Lh) (orders:List UInt8) (o:ByteArray) (r:List ByteArray) (h:(o.toList==weak)=false) (h2:¬ r.length=1):how x orders (o::r)=({ x with ord:=o },false):=by
 match r,h2 with
 | [],_=>simp[how,h]
 | [_],h2=>simp at h2
 | _::_::_,_=>simp[how,h]
theorem how_two (x:Lh) (orders:List UInt8) (o s:ByteArray) (h:(o.toList==weak)=false) (h2:0≤inn o.toList orders):how x orders [o,s]=({ x with ord:=o,scope:=s },decide (0≤inn s.toList scopes)):=by
 have:¬ inn o.toList orders<0:=by omega
 simp[how,h,this]
end R
def lnCells (x:R.Lh) (bv:Value):Array Value:=#[.string x.op,.int .i64 x.reg,.int .i64 x.var,.int .i64 x.a,.int .i64 x.b,.string x.sign,.string x.ord,.string x.scope,bv]
def LnAt (w:World) (g:Nat) (x:R.Lh) (bv:Value):Prop:=w.heap[g]?=some (.cells (lnCells x bv) 49 (0,0))
theorem LnAt.facts {w:World} {g:Nat} {x:R.Lh} {bv:Value} (h:LnAt w g x bv):g<w.heap.size∧(∀ i,w.frozen? ⟨g,i,none⟩=false) ∧
  w.cell? ⟨g,0,none⟩=some (.string x.op)∧w.cell? ⟨g,1,none⟩=some (.int .i64 x.reg)∧w.cell? ⟨g,2,none⟩=some (.int .i64 x.var)∧w.cell? ⟨g,3,none⟩=some (.int .i64 x.a)∧w.cell? ⟨g,4,none⟩=some (.int .i64 x.b) ∧
  w.cell? ⟨g,5,none⟩=some (.string x.sign)∧w.cell? ⟨g,6,none⟩=some (.string x.ord)∧w.cell? ⟨g,7,none⟩=some (.string x.scope)∧w.cell? ⟨g,8,none⟩=some bv:=by
 have h1:∀ i,w.cell? ⟨g,i,none⟩=(lnCells x bv)[i]?:=fun i=>by unfold LnAt at h;simp[World.cell?,h]
 have h2:∀ i,w.frozen? ⟨g,i,none⟩=false:=fun i=>by unfold LnAt at h;simp[World.frozen?,h]
 exact⟨(Array.getElem?_eq_some_iff.1 h).1,h2,h1 0,h1 1,h1 2,h1 3,h1 4,h1 5,h1 6,h1 7,h1 8⟩
theorem LnAt.lt {w:World} {g:Nat} {x:R.Lh} {bv:Value} (h:LnAt w g x bv):g<w.heap.size:=(Array.getElem?_eq_some_iff.1 h).1
theorem LnAt.of_block {w w':World} {g:Nat} {x:R.Lh} {bv:Value} (h:LnAt w g x bv) (e:w'.heap[g]?=w.heap[g]?):LnAt w' g x bv:=by
 unfold LnAt at *;rw[e];exact h
theorem LnAt.below {w w':World} {g:Nat} {x:R.Lh} {bv:Value} (h:LnAt w g x bv) (hb:Below w.heap.size w w'):LnAt w' g x bv:=h.of_block (hb.block g h.lt)
theorem LnAt.alloc {w:World} {g:Nat} {x:R.Lh} {bv:Value} (h:LnAt w g x bv) (o:Obj):LnAt (w.alloc o) g x bv:=h.of_block (Below.heap_alloc _ _ _ h.lt)
theorem LnAt.drew {w:World} {g:Nat} {x:R.Lh} {bv:Value} (h:LnAt w g x bv):LnAt w.drew g x bv:=h
theorem LnAt.new (w:World) (x:R.Lh) (bv:Value):LnAt (w.alloc (.cells (lnCells x bv) 49)) w.heap.size x bv:=heap_alloc_new w _
theorem LnAt.set {w:World} {g:Nat} {x:R.Lh} {bv:Value} (y:R.Lh) (h:LnAt w g x bv) (i:Nat) (u:Value) (e:(lnCells x bv).setIfInBounds i u=lnCells y bv):LnAt (w.setCell ⟨g,i,none⟩ u) g y bv:=by
 unfold LnAt at *
 rw[setCell_block h,e]
theorem LnAt.setVar {w:World} {g:Nat} {x:R.Lh} {bv:Value} (h:LnAt w g x bv) (n:Int):LnAt (w.setCell ⟨g,2,none⟩ (.int .i64 n)) g { x with var:=n } bv:=h.set _ 2 _ rfl
theorem LnAt.setA {w:World} {g:Nat} {x:R.Lh} {bv:Value} (h:LnAt w g x bv) (n:Int):LnAt (w.setCell ⟨g,3,none⟩ (.int .i64 n)) g { x with a:=n } bv:=h.set _ 3 _ rfl
theorem LnAt.setB {w:World} {g:Nat} {x:R.Lh} {bv:Value} (h:LnAt w g x bv) (n:Int):LnAt (w.setCell ⟨g,4,none⟩ (.int .i64 n)) g { x with b:=n } bv:=h.set _ 4 _ rfl
theorem LnAt.setOrd {w:World} {g:Nat} {x:R.Lh} {bv:Value} (h:LnAt w g x bv) (s:ByteArray):LnAt (w.setCell ⟨g,6,none⟩ (.string s)) g { x with ord:=s } bv:=h.set _ 6 _ rfl
theorem LnAt.setScope {w:World} {g:Nat} {x:R.Lh} {bv:Value} (h:LnAt w g x bv) (s:ByteArray):LnAt (w.setCell ⟨g,7,none⟩ (.string s)) g { x with scope:=s } bv:=h.set _ 7 _ rfl
set_option maxHeartbeats 1600000 in
theorem how_any (g b off n cap:Nat) (x:R.Lh) (bv:Value) (orders:List UInt8) (oa:Array UInt8) (ws:List ByteArray) (w:World) (hg:LnAt w g x bv) (hw:WordsAt w b off ws) (hn:ws.length=n) (hbg:b≠g) (hoa:oa.toList=orders) (hos:oa.size≤8192) :
  Calls Tryz.prog 34 #[.pointer (some ⟨g,0,none⟩),.slice (some ⟨b,off,none⟩) n cap,.string ⟨oa⟩] w fun e w'=>e=.returned (.bool (R.how x orders ws).2)∧LnAt w' g (R.how x orders ws).1 bv∧w.grownBy w' (some g):=by
 cases ws with
 | nil =>
  simp at hn;subst hn
  go_enter Tryz.func34,Tryz.ntmps34
  go_wp2
  go_ret
  exact⟨rfl,hg,grown_refl _ _⟩
 | cons o r =>
  obtain⟨hd,hblt,hw'⟩:=hw.head
  have hnz:((n:Int)==0)=false:=by simp at hn;simp;omega
  have hi0:0<n:=by simp at hn;omega
  have hrl:r.length=n-1:=by simp at hn;omega
  clear hn
  have HOA:=hide hoa
  clear hoa
  have AFT:Hid (∀ w1:World,Below w.heap.size w w1→LnAt w1 g x bv∧w1.cell? ⟨b,off,none⟩=some (.string o)∧b<w1.heap.size∧WordsAt w1 b (off+1) r):=fun w1 hb1 =>
   ⟨hg.below hb1,(hb1.cell (p:=⟨b,off,none⟩) hblt).trans hd,Nat.lt_of_lt_of_le hblt hb1.size,hw'.below hb1⟩
  cases hwk:(o.toList==R.weak)
  rotate_left
  ·have HE:=hide (R.how_weak x orders o r hwk)
   have hwk':(o.toList==[119,101,97,107])=true:=hwk
   have hr1:((n:Int)==1)=r.isEmpty:=by
    cases r with
    | nil=>simp at hrl;simp;omega
    | cons a q=>simp at hrl;simp;omega
   by_cases hk:0≤R.inn o.toList orders
   ·go_enter Tryz.func34,Tryz.ntmps34
    go_wp2_with (first | (go_at_call 14;refine (in_lst o orders oa _ HOA.out hos).mono ?_;rintro e w1 ⟨rfl,hb1⟩;obtain⟨k1,k2,k3,k4⟩:=AFT.out w1 hb1;obtain⟨f1,f2,c0,c1,c2,c3,c4,c5,c6,c7,c8⟩:=k1.facts;have K1:=hide k1;clear k1))
    go_ret
    rw[unhide HE]
    exact⟨by simp[hk],K1.out.setOrd _,grown_setCell (grown_of_below hb1 _) _ _⟩
   ·go_enter Tryz.func34,Tryz.ntmps34
    go_wp2_with (first | (go_at_call 14;refine (in_lst o orders oa _ HOA.out hos).mono ?_;rintro e w1 ⟨rfl,hb1⟩;obtain⟨k1,k2,k3,k4⟩:=AFT.out w1 hb1;obtain⟨f1,f2,c0,c1,c2,c3,c4,c5,c6,c7,c8⟩:=k1.facts;have K1:=hide k1;clear k1))
    go_ret
    rw[unhide HE]
    have hk':¬ 0≤R.inn o.toList orders:=by omega
    exact⟨by simp[hk'],K1.out.setOrd _,grown_setCell (grown_of_below hb1 _) _ _⟩
  have hwk':(o.toList==[119,101,97,107])=false:=hwk
  by_cases hk:R.inn o.toList orders<0
  ·have HE:=hide (R.how_no x orders o r hwk hk)
   go_enter Tryz.func34,Tryz.ntmps34
   go_wp2_with (first | (go_at_call 14;refine (in_lst o orders oa _ HOA.out hos).mono ?_;rintro e w1 ⟨rfl,hb1⟩;obtain⟨k1,k2,k3,k4⟩:=AFT.out w1 hb1;obtain⟨f1,f2,c0,c1,c2,c3,c4,c5,c6,c7,c8⟩:=k1.facts;have K1:=hide k1;clear k1))
   go_ret
   rw[unhide HE]
   exact⟨rfl,K1.out.setOrd _,grown_setCell (grown_of_below hb1 _) _ _⟩
  have hk0:0≤R.inn o.toList orders:=by omega
  have hkd:decide (R.inn o.toList orders<0)=false:=decide_eq_false hk
  by_cases h2:n=2
  ·subst h2
   obtain⟨s,rfl⟩:∃ s,r=[s]:=by
    match r,hrl with
    | [s],_=>exact⟨s,rfl⟩
   have HE:=hide (R.how_two x orders o s hwk hk0)
   clear hrl
   go_enter Tryz.func34,Tryz.ntmps34
   go_wp2_with fail
   refine (in_lst o orders oa _ HOA.out hos).mono ?_
   rintro e w1 ⟨rfl,hb1⟩
   obtain⟨k1,k2,k3,k4⟩:=AFT.out w1 hb1
   obtain⟨f1,f2,c0,c1,c2,c3,c4,c5,c6,c7,c8⟩:=k1.facts
   obtain⟨k5,_,_⟩:=k4.head
   have K1:=hide k1
   clear k1
   go_wp2_with fail
   refine (in_lst s R.scopes _ _ rfl (by simp)).mono ?_
   rintro e w2 ⟨rfl,hb2⟩
   have k6:=(K1.out.setOrd o).below hb2
   have k7:w2.cell? ⟨b,off+1,none⟩=some (.string s):=(hb2.cell (p:=⟨b,off+1,none⟩) (by simp;omega)).trans ((cell_set_ne hbg).trans k5)
   have k8:b<w2.heap.size:=by have:=hb2.size;simp at this;omega
   have hgr:w.grownBy w2 (some g):=grown_trans (grown_setCell (grown_of_below hb1 _) _ _) (grown_of_below hb2 _)
   have K6:=hide k6
   clear c0 c1 c2 c3 c4 c5 c6 c7 c8 f1 f2 k2 k3 k4 k5 hb1 hb2
   obtain⟨f1,f2,c0,c1,c2,c3,c4,c5,c6,c7,c8⟩:=k6.facts
   clear k6
   go_wp2
   go_ret
   rw[unhide HE]
   exact⟨rfl,K6.out.setScope _,grown_setCell hgr _ _⟩
  ·have HE:=hide (R.how_len x orders o r hwk (by omega))
   have hx:((n:Int) != 2)=true:=by rw[bne_iff_ne];omega
   go_enter Tryz.func34,Tryz.ntmps34
   go_wp2_with (first | (go_at_call 14;refine (in_lst o orders oa _ HOA.out hos).mono ?_;rintro e w1 ⟨rfl,hb1⟩;obtain⟨k1,k2,k3,k4⟩:=AFT.out w1 hb1;obtain⟨f1,f2,c0,c1,c2,c3,c4,c5,c6,c7,c8⟩:=k1.facts;have K1:=hide k1;clear k1))
   go_ret
   rw[unhide HE]
   exact⟨rfl,K1.out.setOrd _,grown_setCell (grown_of_below hb1 _) _ _⟩
end Go.Proofs.YtpkjmdcabdplfaaGreatDoor
