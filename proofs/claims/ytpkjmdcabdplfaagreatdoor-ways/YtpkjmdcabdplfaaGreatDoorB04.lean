import Derived.Test.YtpkjmdcabdplfaaGreatDoorB03
set_option linter.unusedVariables false
set_option linter.unusedSimpArgs false
namespace Go.Proofs.YtpkjmdcabdplfaaGreatDoor
open Go Go.RowKit
set_option maxRecDepth 100000
namespace R
def repl (a b:List UInt8):Nat→List UInt8→List UInt8
 | 0,_=>[]
 | n+1,l =>
  if decide (a.length≤l.length)&&l.take a.length==a&&decide (0<l.length) then b++repl a b n (l.drop a.length)
  else match l with
   | []=>[]
   | x::r=>x::repl a b n r
theorem repl_no (a b:List UInt8) (n:Nat) (x:UInt8) (r:List UInt8) (h:(decide (a.length≤(x::r).length)&&(x::r).take a.length==a&&decide (0<(x::r).length))=false):repl a b (n+1) (x::r)=x::repl a b n r:=by
 simp only[repl,h];rfl
theorem repl_yes (a b:List UInt8) (n:Nat) (l:List UInt8) (h:(decide (a.length≤l.length)&&l.take a.length==a&&decide (0<l.length))=true):repl a b (n+1) l=b++repl a b n (l.drop a.length):=by
 simp only[repl,h,if_true]
theorem repl_nil (a b:List UInt8) (n:Nat):repl a b n []=[]:=by
 cases n with
 | zero=>rfl
 | succ n=>simp[repl]
end R
theorem slice_run (s:ByteArray) (i j:Nat) (hij:i≤j) (hj:j≤s.size) (w:World):(Instr.slice 9 (.string s) (some (.int .i64 (i:Int))) (some (.int .i64 (j:Int))) none).run Tryz.prog w=.ok (.string (s.extract i j)) w:=by
 rw[run_slice_string w 9 s .i64 .i64 _ _ Tryz.underlying9 (by omega) (by omega) (by omega),show ((i:Int)).toNat=i by omega,show ((j:Int)).toNat=j by omega]
set_option maxHeartbeats 1600000 in
theorem repl_any (s a b:ByteArray) (w:World) (hs:s.size≤8192) (ha:a.size≤20) (hb:b.size≤20) (ha0:0<a.size) :
  Calls Tryz.prog 66 #[.string s,.string a,.string b] w fun e w'=>∃ t,e=.returned (.string t)∧Txt (s.size*21) t (R.repl a.toList b.toList (s.size+1) s.toList)∧w'=w:=by
 go_enter Tryz.func66,Tryz.ntmps66
 go_wp2
 go_loop [7,8] (fun t i=>∃ k m:Nat,∃ u:ByteArray,k≤s.size∧s.size<k+m∧i=.int .i64 k∧t=.string u∧u.size≤k*21∧Hid (u.toList++R.repl a.toList b.toList m (s.toList.drop k)=R.repl a.toList b.toList (s.size+1) s.toList)) (fun _ i=>s.size-(intOf i).toNat)
 case atStart=>exact⟨0,s.size+1,⟨#[]⟩,Nat.zero_le _,by omega,rfl,rfl,by simp[lit_size],by unfold Hid;simp[lit_toList]⟩
 case round =>
  obtain⟨k,m,u,hk,hm,rfl,rfl,hu,HI⟩:=hrel
  have hal:=size_toList a
  by_cases hlt:k<s.size
  ·obtain⟨m',rfl⟩:∃ m',m=m'+1:=⟨m-1,by omega⟩
   have hdl:(s.toList.drop k).length=s.size-k:=by rw[List.length_drop,size_toList]
   have hdrop:s.toList.drop k=s[k]::s.toList.drop (k+1):=by
    rw[List.drop_eq_getElem_cons (by rw[size_toList];exact hlt)]
    congr 1
    simp only[toList_data];rfl
   have hsl1:∀ w,(Instr.slice 9 (.string s) (some (.int .i64 (k:Int))) (some (.int .i64 ((k:Int)+1))) none).run Tryz.prog w=.ok (.string (s.extract k (k+1))) w:=fun w=>by
    have:=slice_run s k (k+1) (by omega) (by omega) w
    simpa using this
   by_cases hfit:a.size≤s.size-k
   ·have hex:(s.extract k (k+a.size)).toList=(s.toList.drop k).take a.size:=by
     rw[extract_toList,List.drop_take,show k+a.size-k=a.size by omega]
    have hf':(a.size:Int)≤(s.size:Int)-(k:Int):=by omega
    have hsl:∀ w,(Instr.slice 9 (.string s) (some (.int .i64 (k:Int))) (some (.int .i64 ((k:Int)+(a.size:Int)))) none).run Tryz.prog w=.ok (.string (s.extract k (k+a.size))) w:=fun w=>by
     have:=slice_run s k (k+a.size) (by omega) (by omega) w
     simpa using this
    cases hq:((s.extract k (k+a.size)).toList==a.toList)
    ·have one:(s.extract k (k+1)).toList=[s[k]]:=by
      rw[extract_toList,take_snoc s k hlt,List.drop_append_of_le_length (by rw[List.length_take,size_toList];omega),List.drop_of_length_le (by rw[List.length_take,size_toList];omega)];rfl
     have HI':Hid ((u++s.extract k (k+1)).toList++R.repl a.toList b.toList m' (s.toList.drop (k+1))=R.repl a.toList b.toList (s.size+1) s.toList):=by
      unfold Hid
      have h1:=HI.out
      rw[hdrop,R.repl_no _ _ _ _ _ (by rw[← hdrop,hal,← hex,hq];simp)] at h1
      rw[app_toList,one,← h1];simp
     have hex1:(s.extract k (k+1)).size≤1:=by simp[ByteArray.size_extract];omega
     clear hdrop hdl HI one hex
     go_wp2
     go_round
     case rel=>exact⟨k+1,m',u++s.extract k (k+1),by omega,by omega,by go_num,rfl,by simp;omega,HI'⟩
     case measure=>simp[intOf];omega
    ·have HI':Hid ((u++b).toList++R.repl a.toList b.toList m' (s.toList.drop (k+a.size))=R.repl a.toList b.toList (s.size+1) s.toList):=by
      unfold Hid
      have h1:=HI.out
      rw[R.repl_yes _ _ _ _ (by rw[hal,← hex,hq,hdl];simp;omega),hal,List.drop_drop] at h1
      rw[app_toList,← h1];simp
     clear hdrop hdl HI hex
     go_wp2
     go_round
     case rel=>exact⟨k+a.size,m',u++b,by omega,by omega,by go_num,rfl,by simp;omega,HI'⟩
     case measure=>simp[intOf];omega
   ·have hf':¬ (a.size:Int)≤(s.size:Int)-(k:Int):=by omega
    have one:(s.extract k (k+1)).toList=[s[k]]:=by
     rw[extract_toList,take_snoc s k hlt,List.drop_append_of_le_length (by rw[List.length_take,size_toList];omega),List.drop_of_length_le (by rw[List.length_take,size_toList];omega)];rfl
    have HI':Hid ((u++s.extract k (k+1)).toList++R.repl a.toList b.toList m' (s.toList.drop (k+1))=R.repl a.toList b.toList (s.size+1) s.toList):=by
     unfold Hid
     have h1:=HI.out
     rw[hdrop,R.repl_no _ _ _ _ _ (by rw[← hdrop,hal,hdl];simp;omega)] at h1
     rw[app_toList,one,← h1];simp
    have hex1:(s.extract k (k+1)).size≤1:=by simp[ByteArray.size_extract];omega
    clear hdrop hdl HI one
    go_wp2
    go_round
    case rel=>exact⟨k+1,m',u++s.extract k (k+1),by omega,by omega,by go_num,rfl,by simp;omega,HI'⟩
    case measure=>simp[intOf];omega
  ·have hks:k=s.size:=by omega
   subst hks
   have HI':Hid (u.toList=R.repl a.toList b.toList (s.size+1) s.toList):=by
    unfold Hid
    have h1:=HI.out
    rw[List.drop_of_length_le (by rw[size_toList];exact Nat.le_refl _)] at h1
    rw[R.repl_nil] at h1;simpa using h1
   go_wp2
   go_ret
   exact⟨u,rfl,⟨HI'.out,hu⟩,rfl⟩
namespace R
def aqr:List UInt8:=[97,99,113,114,101,108]
def aqr2:List UInt8:=[97,99,113,95,114,101,108]
def blk:List UInt8:=[98,108,111,99,107]
def cta:List UInt8:=[99,116,97]
def dvc:List UInt8:=[100,101,118,105,99,101]
def gpu:List UInt8:=[103,112,117]
def rep (a b s:List UInt8):List UInt8:=repl a b (s.length+1) s
def scopd (ord scope:List UInt8):List UInt8 :=
 if ord==weak then rep aqr aqr2 ord else rep aqr aqr2 ord++[46]++rep dvc gpu (rep blk cta scope)
end R
theorem rep_lst (s:ByteArray) (a b:Array UInt8) (A Bl:List UInt8) (w:World) (hA:a.toList=A) (hB:b.toList=Bl) (hs:s.size≤8192) (ha:a.size≤20) (hb:b.size≤20) (ha0:0<a.size) :
  Calls Tryz.prog 66 #[.string s,.string ⟨a⟩,.string ⟨b⟩] w fun e w'=>∃ t,e=.returned (.string t)∧Txt (s.size*21) t (R.rep A Bl s.toList)∧w'=w:=by
 have:=repl_any s ⟨a⟩ ⟨b⟩ w hs ha hb ha0
 rw[lit_toList,lit_toList,hA,hB] at this
 unfold R.rep
 rw[size_toList]
 exact this
set_option maxHeartbeats 800000 in
theorem scoped_any (o c:ByteArray) (w:World) (ho:o.size≤10) (hc:c.size≤10) :
  Calls Tryz.prog 42 #[.string o,.string c] w fun e w'=>∃ t,e=.returned (.string t)∧Txt 10000 t (R.scopd o.toList c.toList)∧w'=w:=by
 cases hw:(o.toList==R.weak)
 ·have HE:Hid (R.scopd o.toList c.toList=R.rep R.aqr R.aqr2 o.toList++[46]++R.rep R.dvc R.gpu (R.rep R.blk R.cta c.toList)):=by unfold Hid R.scopd;rw[hw];rfl
  have hw':(o.toList==[119,101,97,107])=false:=hw
  go_enter Tryz.func42,Tryz.ntmps42
  go_wp2_with fail
  refine (rep_lst o _ _ R.aqr R.aqr2 _ rfl rfl (by omega) (by simp) (by simp) (by simp)).mono ?_
  rintro e w' ⟨t1,rfl,h1,rfl⟩
  have z1:=h1.size
  go_wp2_with fail
  refine (rep_lst c _ _ R.blk R.cta _ rfl rfl (by omega) (by simp) (by simp) (by simp)).mono ?_
  rintro e w' ⟨t2,rfl,h2,rfl⟩
  have z2:=h2.size
  go_wp2_with fail
  refine (rep_lst t2 _ _ R.dvc R.gpu _ rfl rfl (by omega) (by simp) (by simp) (by simp)).mono ?_
  rintro e w' ⟨t3,rfl,h3,rfl⟩
  have z3:=h3.size
  go_wp2
  go_ret
  refine⟨_,rfl,⟨?_,?_⟩,rfl⟩
  ·rw[HE.out];simp[app_toList,lit_toList,h1.1,h3.1,h2.1]
  ·simp[lit_size];omega
 ·have HE:Hid (R.scopd o.toList c.toList=R.rep R.aqr R.aqr2 o.toList):=by unfold Hid R.scopd;rw[hw];rfl
  have hw':(o.toList==[119,101,97,107])=true:=hw
  go_enter Tryz.func42,Tryz.ntmps42
  go_wp2_with fail
  refine (rep_lst o _ _ R.aqr R.aqr2 _ rfl rfl (by omega) (by simp) (by simp) (by simp)).mono ?_
  rintro e w' ⟨t1,rfl,h1,rfl⟩
  have z1:=h1.size
  go_wp2
  go_ret
  exact⟨_,rfl,⟨by rw[HE.out,h1.1],by omega⟩,rfl⟩
end Go.Proofs.YtpkjmdcabdplfaaGreatDoor
namespace Go.Proofs.YtpkjmdcabdplfaaGreatDoor
open Go
def oW:List UInt8:=[119,101,97,107]
def oR:List UInt8:=[114,101,108,97,120,101,100]
def oA:List UInt8:=[97,99,113,117,105,114,101]
def oL:List UInt8:=[114,101,108,101,97,115,101]
def oQ:List UInt8:=[97,99,113,114,101,108]
def oS:List UInt8:=[115,99]
theorem order_six (o:List UInt8) (h:(P.order o).2=true):o=oW∨o=oR∨o=oA∨o=oL∨o=oQ∨o=oS:=by
 unfold P.order at h
 by_cases h1:o=oW
 ·exact .inl h1
 by_cases h2:o=oR
 ·exact .inr (.inl h2)
 by_cases h3:o=oA
 ·exact .inr (.inr (.inl h3))
 by_cases h4:o=oL
 ·exact .inr (.inr (.inr (.inl h4)))
 by_cases h5:o=oQ
 ·exact .inr (.inr (.inr (.inr (.inl h5))))
 by_cases h6:o=oS
 ·exact .inr (.inr (.inr (.inr (.inr h6))))
 exfalso
 simp only[oW,oR,oA,oL,oQ,oS] at h1 h2 h3 h4 h5 h6
 simp[h1,h2,h3,h4,h5,h6] at h
theorem order_else (o:List UInt8) (h1:¬ o=oW) (h2:¬ o=oR) (h3:¬ o=oA) (h4:¬ o=oL) (h5:¬ o=oQ) (h6:¬ o=oS):(P.order o).2=false:=by
 cases h:(P.order o).2
 ·rfl
 ·rcases order_six o h with h | h | h | h | h | h<;>contradiction
theorem scope_two (s:List UInt8):(P.scope s).2=decide (0≤R.inn s R.scopes)∧((P.scope s).2=true→s=[98,108,111,99,107]∨s=[100,101,118,105,99,101]):=by
 have e:P.splitAt 32 R.scopes=[[98,108,111,99,107],[100,101,118,105,99,101]]:=by decide
 rw[inn_lit s R.scopes _ e]
 by_cases h1:s=[98,108,111,99,107]
 ·subst h1;decide
 by_cases h2:s=[100,101,118,105,99,101]
 ·subst h2;decide
 have:(P.scope s).2=false:=by unfold P.scope;simp[h1,h2]
 rw[this]
 simp[R.idxFrom,Ne.symm h1,Ne.symm h2]
def Agree (kind:Int) (orders:List UInt8):Prop:=∀ o,((P.order o).2&&P.allows kind (P.order o).1)=decide (0≤R.inn o orders)
theorem agree_of (kind:Int) (orders:List UInt8) (ws:List (List UInt8)) (hs:P.splitAt 32 orders=ws) (hsub:∀ x∈ws,x=oW∨x=oR∨x=oA∨x=oL∨x=oQ∨x=oS)
  (hW:((P.order oW).2&&P.allows kind (P.order oW).1)=decide (0≤R.idxFrom oW 0 ws)) (hR:((P.order oR).2&&P.allows kind (P.order oR).1)=decide (0≤R.idxFrom oR 0 ws)) (hA:((P.order oA).2&&P.allows kind (P.order oA).1)=decide (0≤R.idxFrom oA 0 ws))
  (hL:((P.order oL).2&&P.allows kind (P.order oL).1)=decide (0≤R.idxFrom oL 0 ws)) (hQ:((P.order oQ).2&&P.allows kind (P.order oQ).1)=decide (0≤R.idxFrom oQ 0 ws)) (hS:((P.order oS).2&&P.allows kind (P.order oS).1)=decide (0≤R.idxFrom oS 0 ws)):Agree kind orders:=by
 intro o
 rw[inn_lit o orders ws hs]
 by_cases h1:o=oW
 ·subst h1;exact hW
 by_cases h2:o=oR
 ·subst h2;exact hR
 by_cases h3:o=oA
 ·subst h3;exact hA
 by_cases h4:o=oL
 ·subst h4;exact hL
 by_cases h5:o=oQ
 ·subst h5;exact hQ
 by_cases h6:o=oS
 ·subst h6;exact hS
 rw[order_else o h1 h2 h3 h4 h5 h6]
 have:∀ (l:List (List UInt8)) (k:Int),(∀ x∈l,x=oW∨x=oR∨x=oA∨x=oL∨x=oQ∨x=oS)→R.idxFrom o k l=-1:=by
  intro l
  induction l with
  | nil=>intro k _;rfl
  | cons x r ih =>
   intro k hx
   have hne:(x==o)=false:=by
    cases hb:(x==o)
    ·rfl
    ·have e:x=o:=by simpa using hb
     subst e
     rcases hx x (by simp) with h | h | h | h | h | h<;>contradiction
   simp only[R.idxFrom,hne]
   exact ih (k+1) (fun y hy=>hx y (by simp[hy]))
 rw[this ws 0 hsub]
 rfl
theorem agree_fence:Agree 4 R.oFence:=agree_of 4 R.oFence [oQ,oS] (by decide) (by decide) (by decide) (by decide) (by decide) (by decide) (by decide) (by decide)
theorem agree_store:Agree 1 R.oStore:=agree_of 1 R.oStore [oW,oR,oL] (by decide) (by decide) (by decide) (by decide) (by decide) (by decide) (by decide) (by decide)
theorem agree_load:Agree 0 R.oLoad:=agree_of 0 R.oLoad [oW,oR,oA] (by decide) (by decide) (by decide) (by decide) (by decide) (by decide) (by decide) (by decide)
theorem agree_add:Agree 2 R.oStep:=agree_of 2 R.oStep [oR,oA,oL,oQ] (by decide) (by decide) (by decide) (by decide) (by decide) (by decide) (by decide) (by decide)
theorem agree_swap:Agree 3 R.oStep:=agree_of 3 R.oStep [oR,oA,oL,oQ] (by decide) (by decide) (by decide) (by decide) (by decide) (by decide) (by decide) (by decide)
def ordW (o:Int):List UInt8:=if o==0 then oW else if o==1 then oR else if o==2 then oA else if o==3 then oL else if o==4 then oQ else oS
def scW (o s:Int):List UInt8:=if o==0 then [] else if s==0 then [98,108,111,99,107] else [100,101,118,105,99,101]
structure OkOS (o s:Int):Prop where
 o0:0≤o
 o1:o<6
 s0:s=0∨s=1
 w:o=0→s=0
structure Same (st st':P.Stm) (x x':R.Lh):Prop where
 suf:P.sufT st'=46::R.scopd x'.ord.toList x'.scope.toList
 sc:(st'.order==5)=(x'.ord.toList==oS)
 stm:st'={ st with order:=st'.order,scope:=st'.scope }
 ln:x'={ x with ord:=x'.ord,scope:=x'.scope }
 od:x'.ord.toList=ordW st'.order
 sp:x'.scope.toList=scW st'.order st'.scope
 ok:OkOS st'.order st'.scope
theorem how_eq (st:P.Stm) (x:R.Lh) (orders:List UInt8) (hA:Agree st.kind orders) (hsc:x.scope.toList=[]) (hst:st.scope=0) (ws:List ByteArray) :
  (P.ordering st (ws.map ByteArray.toList)).2=(R.how x orders ws).2∧((R.how x orders ws).2=true→Same st (P.ordering st (ws.map ByteArray.toList)).1 x (R.how x orders ws).1):=by
 match ws with
 | []=>exact⟨rfl,fun h=>by simp[R.how] at h⟩
 | o::r =>
  have ha:=hA o.toList
  rw[List.map_cons]
  cases hk:decide (0≤R.inn o.toList orders)
  ·rw[hk] at ha
   have hno:P.ordering st (o.toList::r.map ByteArray.toList)=(st,false):=by
    unfold P.ordering
    simp only[ha];rfl
   rw[hno]
   have hlt:R.inn o.toList orders<0:=by have:=of_decide_eq_false hk;omega
   cases hw:(o.toList==R.weak)
   ·rw[R.how_no x orders o r hw hlt];simp
   ·rw[R.how_weak x orders o r hw];simp[hk]
  ·rw[hk] at ha
   have hge:0≤R.inn o.toList orders:=of_decide_eq_true hk
   obtain⟨h1,h2⟩:(P.order o.toList).2=true∧P.allows st.kind (P.order o.toList).1=true:=by simpa using ha
   cases hw:(o.toList==R.weak)
   ·have hnw:((P.order o.toList).1==0)=false:=by
     have hne:¬ o.toList=oW:=by intro e;rw[e] at hw;revert hw;decide
     rcases order_six _ h1 with h | h | h | h | h | h
     ·exact absurd h hne
     all_goals (rw[h];decide)
    match r with
    | []=>rw[R.how_len x orders o [] hw (by simp)];simp only[List.map_nil];rw[P.ordering_short st _ h1 h2 hnw];simp
    | [s] =>
     rw[R.how_two x orders o s hw hge]
     simp only[List.map_cons,List.map_nil]
     rw[P.ordering_two st _ _ h1 h2 hnw]
     have hs2:=scope_two s.toList
     refine⟨hs2.1,fun h=>?_⟩
     rw[← hs2.1] at h
     refine⟨?_,?_,rfl,rfl,?_,?_,?_⟩
     ·have hne:¬ o.toList=oW:=by intro e;rw[e] at hw;revert hw;decide
      unfold P.sufT
      simp only[hnw]
      rcases order_six _ h1 with e | e | e | e | e | e
      ·exact absurd e hne
      all_goals (rcases hs2.2 h with e2 | e2<;>(simp only[e,e2];decide))
     ·rcases order_six _ h1 with e | e | e | e | e | e<;>(simp only[e];decide)
     ·rcases order_six _ h1 with e | e | e | e | e | e<;>(simp only[e];decide)
     ·have hne:¬ o.toList=oW:=by intro e;rw[e] at hw;revert hw;decide
      rcases order_six _ h1 with e | e | e | e | e | e
      ·exact absurd e hne
      all_goals (rcases hs2.2 h with e2 | e2<;>(simp only[e,e2];decide))
     ·have hne:¬ o.toList=oW:=by intro e;rw[e] at hw;revert hw;decide
      rcases order_six _ h1 with e | e | e | e | e | e
      ·exact absurd e hne
      all_goals (rcases hs2.2 h with e2 | e2<;>(simp only[e,e2];exact⟨by decide,by decide,by decide,by decide⟩))
    | _::_::_=>rw[R.how_len x orders o _ hw (by simp)];simp only[List.map_cons];rw[P.ordering_long st _ _ _ _ h1 h2 hnw];simp
   ·have he:o.toList=oW:=by simpa [R.weak,oW] using hw
    have hz:(P.order o.toList).1=0:=by rw[he];decide
    rw[R.how_weak x orders o r hw,P.ordering_weak st _ _ h1 h2 hz]
    refine⟨by rw[hk];simp,fun _=>⟨?_,?_,rfl,rfl,?_,?_,?_⟩⟩
    ·unfold P.sufT
     simp only[he,hsc,hst]
     decide
    ·simp only[he];decide
    ·simp only[he];decide
    ·simp only[hsc];rfl
    ·simp only[hst];exact⟨by decide,by decide,by decide,fun _=>rfl⟩
namespace R
def lAdd:List UInt8:=[97,100,100]
def lSwap:List UInt8:=[115,119,97,112]
def celT (v:Int):List UInt8:=if 0≤v then [91]++P.varT v++[93] else []
def regT (x:Lh):List UInt8:=shown (-1-x.reg)
def lineT (x:Lh):List UInt8 :=
 if x.op.toList==sLoad.toList then [108,100,46]++scopd x.ord.toList x.scope.toList++[32]++regT x++[44,32]++celT x.var
 else if x.op.toList==sStore.toList then [115,116,46]++scopd x.ord.toList x.scope.toList++[32]++celT x.var++[44,32]++shown x.a
 else if x.op.toList==lAdd then [97,116,111,109,46,97,100,100,46]++scopd x.ord.toList x.scope.toList++[32]++regT x++[44,32]++celT x.var++[44,32]++shown x.a
 else if x.op.toList==lSwap then [97,116,111,109,46,101,120,99,104,46]++scopd x.ord.toList x.scope.toList++[32]++regT x++[44,32]++celT x.var++[44,32]++shown x.a
 else if x.op.toList==sFence.toList then [102,101,110,99,101,46]++scopd x.ord.toList x.scope.toList
 else if x.op.toList==sBarrier.toList then [98,97,114,46,115,121,110,99]
 else
  if inn x.sign.toList signs<0 then [109,111,118,32]++regT x++[44,32]++shown x.a
  else (if inn x.sign.toList signs==0 then [97,100,100] else if inn x.sign.toList signs==1 then [115,117,98] else [115,101,116,101,113])++[32]++regT x++[44,32]++shown x.a++[44,32]++shown x.b
def isR (x:Lh):Bool:=x.op.toList==sLoad.toList||x.op.toList==lAdd||x.op.toList==lSwap
def isW (x:Lh):Bool:=x.op.toList==sStore.toList||x.op.toList==lAdd||x.op.toList==lSwap
def isF (x:Lh):Bool:=x.op.toList==sFence.toList&&x.ord.toList==oS
def isB (x:Lh):Bool:=x.op.toList==sBarrier.toList
end R
namespace R
def sIf:ByteArray:=⟨#[105,102]⟩
def lIf (a:Int):Lh:={ x0 with op:=sIf,a:=a }
def bl:List UInt8:=[48,32,49]
structure Tree where
 mk ::
 x:Lh
 body:List Tree
structure Th where
 block:Int
 body:List Tree
 row:Int
structure Fr where
 l:List Tree
 a:Int
structure St where
 ts:List Th
 opn:List Fr
 count:Int
 inner:Int
def St.zero:St:=⟨[],[],0,0⟩
def addLast:List Th→Tree→List Th
 | [],_=>[]
 | [t],s=>[{ t with body:=t.body++[s] }]
 | t::u::r,s=>t::addLast (u::r) s
def addTop:List Fr→Tree→List Fr
 | [],_=>[]
 | [t],s=>[{ t with l:=t.l++[s] }]
 | t::u::r,s=>t::addTop (u::r) s
theorem addLast_snoc (ts:List Th) (t:Th) (s:Tree):addLast (ts++[t]) s=ts++[{ t with body:=t.body++[s] }]:=by
 induction ts with
 | nil=>rfl
 | cons a r ih=>cases r with
  | nil=>rfl
  | cons b q=>simpa [addLast] using ih
theorem addTop_snoc (ts:List Fr) (t:Fr) (s:Tree):addTop (ts++[t]) s=ts++[{ t with l:=t.l++[s] }]:=by
 induction ts with
 | nil=>rfl
 | cons a r ih=>cases r with
  | nil=>rfl
  | cons b q=>simpa [addTop] using ih
def put (s:St) (x:Tree):St:=if s.opn.isEmpty then { s with ts:=addLast s.ts x } else { s with opn:=addTop s.opn x }
def begins (s:St) (i:Int) (r:List ByteArray):Option St :=
 match r with
 | [d]=>if decide (0≤inn d.toList bl)&&s.opn.isEmpty&&!(s.ts.length==4) then some { s with ts:=s.ts++[⟨inn d.toList bl,[],i⟩],count:=0 } else none
 | _=>none
def ends (s:St) (r:List ByteArray):Option St :=
 match s.opn.getLast? with
 | none=>none
 | some f=>if r.isEmpty then some (put { s with opn:=s.opn.dropLast } (.mk (lIf f.a) f.l)) else none
def branch (s:St) (r:List ByteArray):Option St :=
 match r with
 | [a]=>if decide (s.count<8)&&decide (s.opn.length<2)&&(opd a.toList).2 then some { s with count:=s.count+1,opn:=s.opn++[⟨[],(opd a.toList).1⟩] } else none
 | _=>none
def one (s:St) (i:Int) (c:ByteArray) (r:List ByteArray):Option St :=
 if decide (s.count<8)&&(stmt c r).2 then
  some (put { s with count:=s.count+1,inner:=if isB (stmt c r).1&&!s.opn.isEmpty&&s.inner==0 then i else s.inner } (.mk (stmt c r).1 []))
 else none
def step (s:St) (i:Int) (c:ByteArray) (r:List ByteArray):Option St :=
 if c.toList==[116,104,114,101,97,100] then begins s i r
 else if s.ts.isEmpty then none
 else if c.toList==[101,110,100] then ends s r
 else if c.toList==[105,102] then branch s r
 else one s i c r
end R
namespace R
def mkB (l:List UInt8):ByteArray:=⟨l.toArray⟩
theorem mkB_toList (l:List UInt8):(mkB l).toList=l:=by rw[mkB,lit_toList]
theorem mkB_eta (b:ByteArray):mkB b.toList=b:=by
 rw[mkB,toList_data]
def run (s:St) (i:Int):List (List UInt8)→Option St × Int
 | []=>(some s,i)
 | x::xs=>match (P.splitAt 32 x).map mkB with
  | []=>(none,i+1)
  | c::w=>match step s (i+1) c w with
   | none=>(none,i+1)
   | some s'=>run s' (i+1) xs
def numL (p:Lh→Bool):List Tree→Int
 | []=>0
 | ⟨x,b⟩::r=>((if p x then 1 else 0)+numL p b)+numL p r
def numT (p:Lh→Bool) (t:Tree):Int:=(if p t.x then 1 else 0)+numL p t.body
theorem numL_nil (p:Lh→Bool):numL p []=0:=by simp only[numL]
theorem numL_cons (p:Lh→Bool) (t:Tree) (r:List Tree):numL p (t::r)=numT p t+numL p r:=by cases t;simp only[numL,numT]
def unevenGo (f0 f1:Int):List Th→Int
 | []=>0
 | t::r =>
  let n:=numL isB t.body
  let f:=if t.block==0 then f0 else f1
  let g:=if f<0 then n else f
  if g != n||decide (2<n) then t.row
  else if t.block==0 then unevenGo g f1 r else unevenGo f0 g r
def uneven (ts:List Th):Int:=unevenGo (-1) (-1) ts
def totT (p:Lh→Bool):List Th→Int
 | []=>0
 | t::r=>numL p t.body+totT p r
def within (ts:List Th):Bool:=decide (totT isR ts≤4)&&decide (totT isW ts≤3)&&decide (totT isF ts≤3)
def read (l:List UInt8):List Th × Int × Int :=
 if 2000<l.length then ([],1,0)
 else match run St.zero 0 (P.splitAt 10 l).dropLast with
  | (none,i)=>([],2,i)
  | (some s,n) =>
   if (P.splitAt 10 l).getLast?≠some []∨n=0∨s.opn≠[] then ([],2,n+1)
   else
    let inner:=if s.inner==0 then uneven s.ts else s.inner
    if 0<inner then ([],3,inner) else if within s.ts then (s.ts,0,0) else ([],4,0)
def textL (n:Int):List Tree→List UInt8 × Int
 | []=>([],n)
 | ⟨x,b⟩::r =>
  let p:=if x.op.toList==[105,102] then ([98,122,32]++shown x.a++[44,32]++P.labT (n+1)++[10]++(textL (n+1) b).1++P.labT (n+1)++[58,10],(textL (n+1) b).2) else (lineT x++[10],n)
  (p.1++(textL p.2 r).1,(textL p.2 r).2)
def textT (n:Int) (t:Tree):List UInt8 × Int :=
 if t.x.op.toList==[105,102] then ([98,122,32]++shown t.x.a++[44,32]++P.labT (n+1)++[10]++(textL (n+1) t.body).1++P.labT (n+1)++[58,10],(textL (n+1) t.body).2) else (lineT t.x++[10],n)
end R
theorem inn_bl (v:List UInt8):R.inn v R.bl=if v=[48] then 0 else if v=[49] then 1 else -1:=by
 rw[inn_lit v R.bl [[48],[49]] (by decide)]
 by_cases h1:v=[48]
 ·subst h1;decide
 by_cases h2:v=[49]
 ·subst h2;decide
 simp[R.idxFrom,Ne.symm h1,Ne.symm h2,h1,h2]
end Go.Proofs.YtpkjmdcabdplfaaGreatDoor
namespace Go.Proofs.YtpkjmdcabdplfaaGreatDoor
open Go Go.RowKit
set_option maxRecDepth 100000
def thrCells:List P.Thr→List Value→List Value
 | t::ts,v::vs=>.int .i64 t.block::.int .i64 t.line::v::thrCells ts vs
 | _,_=>[]
def flatStm (l:List P.Stm):List Value:=l.flatMap (fun s=>(stmCells s).toList)
theorem flatStm_snoc (l:List P.Stm) (s:P.Stm):flatStm (l++[s])=flatStm l++(stmCells s).toList:=by simp[flatStm]
def StmtsAt (w:World) (B:Nat):List P.Thr→List Value→Prop
 | [],[]=>True
 | t::ts,v::vs=>w.ownsRow B 80 11 v t.stmts.length (flatStm t.stmts)∧(∀ u∈vs,v.ownBlock=none∨v.ownBlock≠u.ownBlock)∧StmtsAt w B ts vs
 | _,_=>False
structure RdIn (w:World) (B g:Nat) (r:P.Rd) (tv ov:Value) (vs:List Value):Prop where
 cells:w.heap[g]?=some (.cells #[tv,.int .i64 r.most,.int .i64 r.count,.int .i64 r.ifs,ov] 93 (0,0))
 threads:w.ownsRow B 73 3 tv r.threads.length (thrCells r.threads vs)
 opn:w.ownsRow B 3 1 ov r.opn.length (r.opn.map (Value.int .i64))
 stmts:StmtsAt w B r.threads vs
def RdAt (w:World) (B g:Nat) (r:P.Rd):Prop:=∃ tv ov vs,RdIn w B g r tv ov vs
theorem ownsRow_keep {w w':World} {B:Nat} {e:TypeId} {sz:Nat} {v:Value} {n:Nat} {xs:List Value} (h:w.ownsRow B e sz v n xs) (hk:∀ k,v.ownBlock=some k→w'.heap[k]?=w.heap[k]?):w'.ownsRow B e sz v n xs:=by
 refine⟨h.1,?_⟩
 rcases h.2 with hn | ⟨g,cap,cur,rfl,hb,hgg,rest⟩
 ·exact .inl hn
 ·exact .inr ⟨g,cap,cur,rfl,hb,by rw[hk g rfl];exact hgg,rest⟩
theorem StmtsAt.length {w:World} {B:Nat}:∀ {ts:List P.Thr} {vs:List Value},StmtsAt w B ts vs→vs.length=ts.length
 | [],[],_=>rfl
 | _::_,_::_,h=>by simp[StmtsAt.length h.2.2]
theorem StmtsAt.keep {w w':World} {B:Nat}:∀ {ts:List P.Thr} {vs:List Value},StmtsAt w B ts vs→(∀ v∈vs,∀ k,v.ownBlock=some k→w'.heap[k]?=w.heap[k]?)→StmtsAt w' B ts vs
 | [],[],_,_=>trivial
 | _::_,v::_,h,hk=>⟨ownsRow_keep h.1 (hk v (by simp)),h.2.1,StmtsAt.keep h.2.2 (fun u hu=>hk u (by simp[hu]))⟩
theorem StmtsAt.mem {w:World} {B:Nat}:∀ {ts:List P.Thr} {vs:List Value},StmtsAt w B ts vs→∀ v∈vs,∃ n xs,w.ownsRow B 80 11 v n xs
 | [],[],_,u,hu=>by simp at hu
 | _::_,v::_,h,u,hu=>by
  rcases List.mem_cons.1 hu with rfl | hu
  ·exact⟨_,_,h.1⟩
  ·exact StmtsAt.mem h.2.2 u hu
theorem RdIn.lt {w:World} {B g:Nat} {r:P.Rd} {tv ov:Value} {vs:List Value} (h:RdIn w B g r tv ov vs):g<w.heap.size:=(Array.getElem?_eq_some_iff.1 h.cells).1
theorem RdIn.keep {w w':World} {B g:Nat} {r:P.Rd} {tv ov:Value} {vs:List Value} (h:RdIn w B g r tv ov vs) (hk:∀ k,k<w.heap.size→w'.heap[k]?=w.heap[k]?):RdIn w' B g r tv ov vs :=
 ⟨by rw[hk g h.lt];exact h.cells,ownsRow_keep h.threads (fun k e=>hk k (h.threads.lt k e).2),ownsRow_keep h.opn (fun k e=>hk k (h.opn.lt k e).2),
  h.stmts.keep (fun v hv k e=>by obtain⟨n,xs,ho⟩:=h.stmts.mem v hv;exact hk k (ho.lt k e).2)⟩
theorem RdAt.below {w w':World} {B g:Nat} {r:P.Rd} (h:RdAt w B g r) (hb:Below w.heap.size w w'):RdAt w' B g r:=by
 obtain⟨tv,ov,vs,h⟩:=h
 exact⟨tv,ov,vs,h.keep hb.block⟩
theorem own_type {w:World} {B:Nat} {e:TypeId} {sz:Nat} {v:Value} {n:Nat} {xs:List Value} (h:w.ownsRow B e sz v n xs) {k:Nat} (hk:v.ownBlock=some k):∃ cur,w.heap[k]?=some (.cells cur e (0,0)):=by
 rcases h.2 with ⟨rfl,_⟩ | ⟨g,cap,cur,rfl,hb,hgg,rest⟩
 ·simp[Value.ownBlock] at hk
 ·simp[Value.ownBlock] at hk;subst hk;exact⟨cur,hgg⟩
theorem own_ne {w:World} {B B':Nat} {e e':TypeId} {sz sz':Nat} {v v':Value} {n n':Nat} {xs xs':List Value} (h:w.ownsRow B e sz v n xs) (h':w.ownsRow B' e' sz' v' n' xs') (hne:e≠e') {k:Nat} (hk:v.ownBlock=some k):v'.ownBlock≠some k:=by
 intro hk'
 obtain⟨c,hc⟩:=own_type h hk
 obtain⟨c',hc'⟩:=own_type h' hk'
 rw[hc] at hc';simp at hc';exact hne hc'.2
theorem own_ne_blk {w:World} {B:Nat} {e e':TypeId} {sz:Nat} {v:Value} {n:Nat} {xs:List Value} {g:Nat} {cs:Array Value} {fr:Nat × Nat} (h:w.ownsRow B e sz v n xs) (h':w.heap[g]?=some (.cells cs e' fr)) (hne:e≠e'):v.ownBlock≠some g:=by
 intro hk
 obtain⟨c,hc⟩:=own_type h hk
 rw[hc] at h';simp at h';exact hne h'.2.1
theorem thrCells_snoc:∀ (ts:List P.Thr) (vs:List Value) (t:P.Thr) (v:Value),vs.length=ts.length→thrCells (ts++[t]) (vs++[v])=thrCells ts vs++[.int .i64 t.block,.int .i64 t.line,v]
 | [],[],_,_,_=>rfl
 | a::r,b::q,t,v,h=>by simp[thrCells,thrCells_snoc r q t v (by simpa using h)]
theorem thrCells_length:∀ (ts:List P.Thr) (vs:List Value),vs.length=ts.length→(thrCells ts vs).length=ts.length*3
 | [],[],_=>rfl
 | a::r,b::q,h=>by simp[thrCells,thrCells_length r q (by simpa using h)];omega
theorem StmtsAt_snoc {w:World} {B:Nat}:∀ (ts:List P.Thr) (vs:List Value) (t:P.Thr) (v:Value),StmtsAt w B (ts++[t]) (vs++[v]) ↔ StmtsAt w B ts vs∧w.ownsRow B 80 11 v t.stmts.length (flatStm t.stmts)∧∀ u∈vs,u.ownBlock=none∨u.ownBlock≠v.ownBlock
 | [],[],t,v=>by simp[StmtsAt]
 | [],b::q,t,v=>by
  cases q with
  | nil=>simp[StmtsAt]
  | cons c q=>simp[StmtsAt]
 | a::r,[],t,v=>by
  cases r with
  | nil=>simp[StmtsAt]
  | cons c q=>simp[StmtsAt]
 | a::r,b::q,t,v=>by
  have ih:=StmtsAt_snoc (w:=w) (B:=B) r q t v
  simp only[List.cons_append,StmtsAt,ih]
  constructor
  ·rintro ⟨h1,h2,h3,h4,h5⟩
   refine⟨⟨h1,fun u hu=>h2 u (by simp[hu]),h3⟩,h4,fun u hu=>?_⟩
   rcases List.mem_cons.1 hu with rfl | hu
   ·exact h2 v (by simp)
   ·exact h5 u hu
  ·rintro ⟨⟨h1,h2,h3⟩,h4,h5⟩
   refine⟨h1,fun u hu=>?_,h3,h4,fun u hu=>h5 u (by simp[hu])⟩
   rcases List.mem_append.1 hu with hu | hu
   ·exact h2 u hu
   ·simp at hu;subst hu;exact h5 b (by simp)
theorem snoc_of {α:Type} (l:List α) (h:l≠[]):∃ a b,l=a++[b]:=⟨l.dropLast,l.getLast h,(List.dropLast_concat_getLast h).symm⟩
end Go.Proofs.YtpkjmdcabdplfaaGreatDoor
