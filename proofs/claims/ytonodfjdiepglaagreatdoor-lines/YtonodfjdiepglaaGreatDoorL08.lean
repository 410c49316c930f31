import Derived.Test.YtonodfjdiepglaaGreatDoorL06
set_option linter.unusedVariables false
set_option linter.unusedSimpArgs false
set_option maxHeartbeats 12800000
namespace Go.Proofs.YtonodfjdiepglaaGreatDoor
open Go Go.RowKit Go.Proofs.Tryz P R
set_option maxRecDepth 1000000
variable {fn:Func} {p u v:Tmp} {a b:UInt8} {w:World} {B j m:Nat} {tv:Value} {ts:List Thr} {s:List UInt8} {bs:List (List UInt8)}
open Nat renaming le_refl→xF,zero_le→x7
open Go.Instr renaming slice→xR
open Go.Value renaming string→xW
open _root_.ByteArray renaming toList→x1,empty→xl
open Go.RowKit.Below renaming refl→x2,heap_alloc→x6,heap_setCell→xd
open Go.Result renaming andThen_ok→x3
open Go.Lib renaming decDigits→x4,smalls→x8,digits36→x9,extract_data→xe
open List renaming take_of_length_le→x5,take_append_drop→xa,length_take→xb,eq_nil_of_length_eq_zero→xc,cons_append→xg,drop_of_length_le→xh,drop_eq_getElem_cons→xi,drop_append_of_le_length→xj,map_append→xk
theorem zDA {e:TypeId} (h:fn.results=#[.cell p e,.tmp u,.tmp v]) (c:Array Value) (d:Program) (w:World) :
  (results fn c).run d w=((asAddr (c.getD p undef)).run d w).andThen fun a f=>((loadVar e a).run d f).andThen fun x g=>.ok (.tuple #[x,c.getD u undef,c.getD v undef]) g:=by
 simp only[results,h];simp[Sem.run_bind,Result.andThen]
theorem tJ {R:Ending->World->Prop} {a:Act} (g:Nat) (tv d e:Value) (c:fn.results=#[.cell p 32,.tmp u,.tmp v])
  (k:a.tmps.getD p undef=.pointer (some ⟨g,0,none⟩)) (l:a.tmps.getD u undef=d) (n:a.tmps.getD v undef=e) (h:w.heap[g]?=some (.cells #[tv] 32 (0,0))) (i:a.defers=[]) (f:R (.returned (.tuple #[.agg #[tv],d,e])) w):bodyPost prog fn R .ret a w:=by
 refine bodyPost_ret (v:=.tuple #[.agg #[tv],d,e]) ?_ i f;rw[zDA c,k,l,n];have:(asAddr (.pointer (some ⟨g,0,none⟩))).run prog w=.ok ⟨g,0,none⟩ w:=rfl;rw[this,x3,qX w g _ _ _ h _ underlying32 rfl (by kernel_rfl),x3]
theorem eF.base {c:Nat} (h:eF w B tv ts) (d:c<=B):eF w c tv ts:=by
 obtain⟨g,e,f⟩:=h;exact⟨g,yV e d,f.base d⟩
theorem eF.form (h:eF w B tv ts):∃ a c,tv=.slice a ts.length c/\(ts≠[]->∃ bt,a=some ⟨bt,0,none⟩):=by
 obtain⟨n,i,l⟩:=h
 rcases i.2 with ⟨e,f⟩ | ⟨k,c,g,e,_⟩
 ·exact⟨none,0,by rw[e,f],fun d=>absurd (xc f) d⟩
 ·exact⟨_,c,e,fun _=>⟨k,rfl⟩⟩
theorem eF.set (h:eF w (B+1) tv ts) (u:Value):eF (w.setCell ⟨B,0,none⟩ u) B tv ts:=by
 obtain⟨i,d,e⟩:=h;refine⟨i,yV (aX d (fun k c=>?_)) (by omega),(e.keep (fun v g k c=>?_)).base (by omega)⟩
 ·have:=(d.lt k c).1;exact xd _ _ _ _ (by simp;omega)
 ·obtain⟨n,l,f⟩:=e.mem v g;have:=(f.lt k c).1;exact xd _ _ _ _ (by simp;omega)
theorem zGr {c e:World} (l:eF c B tv ts) (g:Below w.heap.size w c) (d:c.heap[w.heap.size]?=some (.cells #[.slice none 0 0] 32 (0,0)))
  (f:Below (c.alloc (.cells #[tv] 32)).heap.size (c.alloc (.cells #[tv] 32)) e) (n:w.heap.size+1<=B:=by simp) :
  eF e (w.heap.size+1) tv ts/\Below w.heap.size w e/\e.heap[w.heap.size]?=some (.cells #[.slice none 0 0] 32 (0,0))/\e.heap[c.heap.size]?=some (.cells #[tv] 32 (0,0))/\c.heap.size<e.heap.size:=by
 have i:w.heap.size<c.heap.size:=(Array.getElem?_eq_some_iff.1 d).1;refine⟨(l.keep (fun k o=>?_)).base n,?_,?_,?_,?_⟩
 ·rw[f.block k (by simp;omega)];exact x6 _ _ _ o
 ·exact (g.alloc g.size _).trans (f.mono (by simp;omega))
 ·rw[f.block _ (by simp;omega),x6 _ _ _ i];exact d
 ·rw[f.block _ (by simp)];exact heap_alloc_new c _
 ·have:=f.size;simp at this;omega
theorem zIM (i:Nat) (w:World) (h:i<100) :
  Calls prog 148 #[.int .i64 (i:Int)] w fun e g=>e=.returned (.string ⟨(x4 i).toArray⟩)/\g=w:=by
 go_enter func148,ntmps148;go_name_bytes_deep 45 SM hSM;have d:SM=x8:=by rw[<- hSM];decide +kernel
 subst d;clear hSM;go_name_bytes_deep 30 DG hDG;have c:DG=x9:=by rw[<- hDG];decide +kernel
 subst c;clear hDG;by_cases h10:i<10
 ·have f:∀ w,(xR 9 (.string x9) (some (.int .i64 (i:Int))) (some (.int .i64 ((i:Int)+1))) none).run prog w=.ok (.string (Lib.digits36.extract i (i+1))) w:=fun w=>by
   rw[run_slice_string w 9 x9 .i64 .i64 _ _ underlying9 (by omega) (by omega) (by rw[Lib.digits36_size];omega),show ((i:Int)).toNat=i by omega,show ((i:Int)+1).toNat=i+1 by omega]
  go_wp2;go_ret;refine⟨?_,rfl⟩;show Ending.returned (xW (Lib.digits36.extract i (i+1)))=_;rw[zLt (Lib.digits36.extract i (i+1)) (x4 i) (by rw[xe];exact Lib.digits36_piece h10)]
 ·have f:∀ w,(xR 9 (.string x8) (some (.int .i64 ((i:Int)*2))) (some (.int .i64 ((i:Int)*2+2))) none).run prog w=.ok (.string (Lib.smalls.extract (i*2) (i*2+2))) w:=fun w=>by
   rw[run_slice_string w 9 x8 .i64 .i64 _ _ underlying9 (by omega) (by omega) (by rw[Lib.smalls_size];omega),show ((i:Int)*2).toNat=i*2 by omega,show ((i:Int)*2+2).toNat=i*2+2 by omega]
  go_wp2;go_ret;refine⟨?_,rfl⟩;show Ending.returned (xW (Lib.smalls.extract (i*2) (i*2+2)))=_;rw[zLt (Lib.smalls.extract (i*2) (i*2+2)) (x4 i) (by rw[xe];exact Lib.smalls_piece h10 h)]
theorem zHH (i:Nat) (w:World) (h:i<100) :
  Calls prog 130 #[.int .i64 (i:Int),.int .i64 10] w fun e c=>e=.returned (.string ⟨(x4 i).toArray⟩)/\c=w:=by
 have d:(0:Int)<=(i:Int):=by omega
 have f:(i:Int)<100:=by omega
 go_enter func130,ntmps130;go_wp2_with (first | (go_at_call 148;refine (zIM i _ h).mono ?_;rintro e c ⟨rfl,rfl⟩));go_ret;exact⟨rfl,rfl⟩
theorem zJX (n:Int) (w:World) (d:0<=n) (h:n<100) :
  Calls prog 96 #[.int .i64 n] w fun e c=>e=.returned (.string ⟨(x4 n.toNat).toArray⟩)/\c=w:=by
 obtain⟨i,rfl⟩:=Int.eq_ofNat_of_zero_le d;rw[Int.toNat_natCast];go_enter func96,ntmps96;go_wp2_with (first | (go_at_call 130;refine (zHH i _ (by omega)).mono ?_;rintro e c ⟨rfl,rfl⟩) | go_in);go_ret;exact⟨rfl,rfl⟩
theorem CX (n:Int) (w:World) (d:0<=n) (h:n<100) :
  Calls prog 96 #[.int .i64 n] w fun e c=>∃ s,e=.returned (.string s)/\fM 2 s (bP n)/\c=w:=by
 refine (zJX n w d h).mono ?_;rintro e c ⟨rfl,rfl⟩;refine⟨_,rfl,⟨wT _,?_⟩,rfl⟩;have:=kLH n h;rw[<- bS,wT];exact this
theorem DP (n:Int) (w:World) (f:0<=n) (h:n<100) :
  Calls prog 152 #[.int .i64 n] w fun e d=>∃ s,e=.returned (.string s)/\fM 4 s (P.bQ n)/\d=w:=by
 go_enter func152,ntmps152;go_wp2_with (first | (go_at_call 96;refine (CX n _ f h).mono ?_;rintro e d ⟨s,rfl,c,rfl⟩;have g:=c.size));go_ret;refine⟨_,rfl,⟨?_,?_⟩,rfl⟩
 ·simp[kO,aP,c.1,P.bQ]
 ·simp[kA];omega
theorem zGX (n:Int) (w:World) :
  Calls prog 153 #[.int .i64 n] w fun e c=>∃ s,e=.returned (.string s)/\fM 3 s (P.cX n)/\c=w:=by
 go_enter func153,ntmps153;go_wp2
 all_goals go_ret
 all_goals refine⟨_,rfl,⟨?_,by simp[kA]⟩,rfl⟩
 all_goals simp[P.cX,DN,aP, *]
theorem zJY (n:Int) (w:World) :
  Calls prog 132 #[.int .i64 n] w fun e c=>∃ s,e=.returned (.string s)/\fM 8 s ([46]++wI n)/\c=w:=by
 go_enter func132,ntmps132;go_wp2
 all_goals go_ret
 all_goals refine⟨_,rfl,⟨?_,by simp[kA]⟩,rfl⟩
 all_goals simp[wI,aP, *]
theorem zGY (n:Int) (w:World) (f:0<=n) (h:n<100) :
  Calls prog 60 #[.int .i64 n] w fun e d=>∃ s,e=.returned (.string s)/\fM 10 s ([46,116,104,114,101,97,100,32]++bP n)/\d=w:=by
 go_enter func60,ntmps60;go_wp2_with (first | (go_at_call 96;refine (CX n _ f h).mono ?_;rintro e d ⟨s,rfl,c,rfl⟩;have g:=c.size));go_ret;refine⟨_,rfl,⟨?_,?_⟩,rfl⟩
 ·simp[kO,aP,c.1]
 ·simp[kA];omega
theorem zGZ (o:Opd) (w:World) (g:0<=o.n) (h:o.n<100) :
  Calls prog 154 #[.agg #[.bool o.reg,.int .i64 o.n]] w fun e f=>∃ s,e=.returned (.string s)/\fM 4 s (kCm o)/\Below w.heap.size w f:=by
 cases hr:o.reg
 ·go_enter func154,ntmps154;go_wp2_with (first | (go_at_call 96;refine (CX o.n _ g h).mono ?_;rintro e f ⟨s,rfl,c,rfl⟩;have d:=c.size));go_ret;refine⟨_,rfl,⟨?_,by omega⟩,(x2 _ _).alloc (xF _) _⟩;rw[c.1];simp[kCm,hr]
 ·go_enter func154,ntmps154;go_wp2_with (first | (go_at_call 152;refine (DP o.n _ g h).mono ?_;rintro e f ⟨s,rfl,c,rfl⟩;have d:=c.size));go_ret;refine⟨_,rfl,⟨?_,by omega⟩,(x2 _ _).alloc (xF _) _⟩;rw[c.1];simp[kCm,hr]
namespace P
def lC (o sc:Int):List UInt8:=if o==0 then [46,119,101,97,107] else [46]++wI o++(if sc==0 then [46,99,116,97] else [46,103,112,117])
end P
theorem zHa (o c:Int) (w:World) :
  Calls prog 118 #[.int .i64 o,.int .i64 c] w fun e f=>∃ s,e=.returned (.string s)/\fM 20 s (lC o c)/\f=w:=by
 cases h0:(o==0)
 ·cases h1:(c==0)
  all_goals
   go_enter func118,ntmps118;go_wp2_with (first | (go_at_call 132;refine (zJY o _).mono ?_;rintro e f ⟨s,rfl,d,rfl⟩;have g:=d.size));go_ret;refine⟨_,rfl,⟨?_,?_⟩,rfl⟩
   ·simp[kO,aP,d.1,lC,h0,h1]
   ·simp[kA];omega
 ·go_enter func118,ntmps118;go_wp2;go_ret;refine⟨_,rfl,⟨?_,by simp[kA]⟩,rfl⟩;simp[aP,lC,h0]
namespace P
def kAk (k:Int):List UInt8 × List UInt8 :=
 if k==0 then ([108,100],[100,118])
 else if k==1 then ([115,116],[118,97])
 else if k==2 then ([97,116,111,109,46,97,100,100],[100,118,97])
 else if k==3 then ([97,116,111,109,46,101,120,99,104],[100,118,97])
 else if k==4 then ([102,101,110,99,101],[])
 else if k==5 then ([98,97,114,46,115,121,110,99],[])
 else if k==6 then ([109,111,118],[100,97])
 else if k==7 then ([97,100,100],[100,97,98])
 else if k==8 then ([115,117,98],[100,97,98])
 else if k==9 then ([115,101,116,101,113],[100,97,98])
 else ([98,122],[97,108])
def mK (k:Int):Bool:=(k==0||k==1||k==2||k==3)||k==4
end P
theorem yQ (k:Int) (w:World) :
  Calls prog 101 #[.int .i64 k] w fun e c=>∃ s t,e=.returned (.tuple #[.string s,.string t])/\fM 9 s (kAk k).1/\fM 3 t (kAk k).2/\c=w:=by
 go_enter func101,ntmps101;go_wp2
 all_goals go_ret2
 all_goals refine⟨_,_,rfl,⟨?_,by simp[kA]⟩,⟨?_,by simp[kA]⟩,rfl⟩
 all_goals simp[kAk,aP, *]
namespace P
def dB (a b:UInt8):List UInt8->List (List UInt8)
 | []=>[[]]
 | [x]=>[[x]]
 | x::y::r=>if x=a/\y=b then []::dB a b r else match dB a b (y::r) with
  | h::t=>(x::h)::t
  | []=>[[x]]
def lW (c:List UInt8):List (List UInt8)->List (List UInt8)
 | h::t=>(c++h)::t
 | []=>[c]
theorem sD (a b:UInt8):∀ l:List UInt8,dB a b l≠[]
 | []=>by simp[dB]
 | [x]=>by simp[dB]
 | x::y::r=>by
  unfold dB
  split
  ·simp
  ·split<;>simp
theorem kFB (a b:UInt8) (r:List UInt8):dB a b (a::b::r)=[]::dB a b r:=by simp[dB]
theorem vK (a b x:UInt8) (q:List UInt8) (h:¬ (x=a/\q.head?=some b)):dB a b (x::q)=lW [x] (dB a b q):=by
 cases q with
 | nil=>simp[dB,lW]
 | cons y r =>
  have c:¬ (x=a/\y=b):=fun e=>h ⟨e.1,by simp[e.2]⟩
  rw[dB,if_neg c]
  cases hs:dB a b (y::r) with
  | nil=>exact absurd hs (sD _ _ _)
  | cons p t=>rfl
theorem kJu (c d:List UInt8) (l:List (List UInt8)) (h:l≠[]):lW c (lW d l)=lW (c++d) l:=by
 cases l with
 | nil=>exact absurd rfl h
 | cons p t=>simp[lW]
theorem zPl (l:List (List UInt8)) (h:l≠[]):lW [] l=l:=by
 cases l with
 | nil=>exact absurd rfl h
 | cons p t=>simp[lW]
theorem kHb (a b:UInt8) (l:List UInt8) (h:l.length<=1):dB a b l=[l]:=by
 match l,h with
 | [],_=>rfl
 | [x],_=>rfl
theorem zL (a b:UInt8):∀ (l:List UInt8),(dB a b l).length<=l.length+1
 | []=>by simp[dB]
 | [x]=>by simp[dB]
 | x::y::r=>by
  unfold dB;have d:=zL a b r;have c:=zL a b (y::r)
  split
  ·simp;omega
  ·split
   ·rename_i e;rw[e] at c;simp at c ⊢;omega
   ·simp
def eN (l:List UInt8):List UInt8 × List (List UInt8) :=
 (l.takeWhile (fun c=>c != 32),if l.any (fun c=>c==32) then dB 44 32 ((l.dropWhile (fun c=>c != 32)).drop 1) else [])
def zME (w:List UInt8):Int × Bool:=if w=bQ 0 then (0,true) else if w=bQ 1 then (1,true) else if w=bQ 2 then (2,true) else if w=bQ 3 then (3,true) else (0,false)
def zNe (w:List UInt8):Int × Bool:=if w=cX 0 then (0,true) else if w=cX 1 then (1,true) else if w=cX 2 then (2,true) else (0,false)
def zMA (w:List UInt8):Opd × Bool :=
 if w=bP 0 then (⟨false,0⟩,true) else if w=bP 1 then (⟨false,1⟩,true) else if w=bP 2 then (⟨false,2⟩,true) else if w=bP 3 then (⟨false,3⟩,true) else (⟨true,(zME w).1⟩,(zME w).2)
def gE (kind:Int) (w:List UInt8):Nat->Nat->Option (Int × Int)
 | 0,_=>none
 | f+1,k=>if zMU kind ((k / 2:Nat):Int)&&w==lC ((k / 2:Nat):Int) ((k % 2:Nat):Int) then some (((k / 2:Nat):Int),((k % 2:Nat):Int)) else gE kind w f (k+1)
def zMB (st:Stm) (w:List UInt8):Stm × Bool :=
 if mK st.kind then match gE st.kind w 12 0 with
  | some (o,s)=>({ st with order:=o,scope:=s },true)
  | none=>(st,false)
 else (st,w==[])
def kAR (st:Stm) (c:UInt8) (w:List UInt8):Stm × Bool :=
 if c=100 then ({ st with dest:=(zME w).1 },(zME w).2)
 else if c=118 then ({ st with var:=(zNe w).1 },(zNe w).2)
 else if c=97 then ({ st with a:=(zMA w).1 },(zMA w).2)
 else if c=98 then ({ st with b:=(zMA w).1 },(zMA w).2)
 else (st,w==kAO st.label)
def zOe (st:Stm):List UInt8->List (List UInt8)->Stm × Bool
 | c::cs,w::ws=>if (kAR st c w).2 then zOe (kAR st c w).1 cs ws else (Stm.zero,false)
 | _,_=>(st,true)
def zMD (st:Stm) (cs:List UInt8) (ws:List (List UInt8)):Stm × Bool :=
 if cs.length != ws.length then (Stm.zero,false) else zOe st cs ws
def kAV (first:List UInt8) (ops:List (List UInt8)) (next:Int):Nat->Int->Stm × Bool
 | 0,_=>(Stm.zero,false)
 | f+1,k =>
  if (kAk k).1.isPrefixOf first then
   let st:Stm:=if k==10 then { Stm.zero with kind:=k,label:=next } else { Stm.zero with kind:=k }
   if (zMB st (first.drop (kAk k).1.length)).2 then zMD (zMB st (first.drop (kAk k).1.length)).1 (kAk k).2 ops
   else kAV first ops next f (k+1)
  else kAV first ops next f (k+1)
def kAv (l:List UInt8) (next:Int):Stm × Bool:=kAV (eN l).1 (eN l).2 next 11 0
def fS (b:Int):List UInt8:=[46,116,104,114,101,97,100,32]++bP b
def openL (r:Rd):Int:=r.opn.getLast?.getD 0
def kAt (r:Rd) (l:List UInt8):Rd × Bool :=
 if l=fS 0 then zNr r 0 r.line else if l=fS 1 then zNr r 1 r.line
 else if openL r != 0&&l==kAO (openL r)++[58] then kAT r { Stm.zero with kind:=11,line:=r.line }
 else if !(kAv l (r.ifs+1)).2||((kAv l (r.ifs+1)).1.kind==5&&openL r != 0) then (r,false)
 else kAT r { (kAv l (r.ifs+1)).1 with line:=r.line }
def kAS (r:Rd):List (List UInt8)->Rd × Bool
 | []=>(r,true)
 | x::xs=>if (kAt { r with line:=r.line+1 } x).2 then kAS (kAt { r with line:=r.line+1 } x).1 xs else ((kAt { r with line:=r.line+1 } x).1,false)
def Rd.zeroA:Rd:=⟨[],0,0,0,[],40⟩
def zMr (l:List UInt8):List Thr × Int :=
 let q:=kAS Rd.zeroA (zMi 10 l).dropLast
 if q.2 then
  if (zMi 10 l).getLast?≠some []\/q.1.opn≠[]\/q.1.Ec=[] then ([],q.1.line+1) else (q.1.Ec,0)
 else ([],q.1.line)
theorem zOC (r:Rd) (l:List UInt8):(kAt r l).1.line=r.line/\(kAt r l).1.most=r.most:=by
 unfold kAt
 split
 ·exact kEy _ _ _
 split
 ·exact kEy _ _ _
 split
 ·exact kGv _ _
 split
 ·exact⟨rfl,rfl⟩
 ·exact kGv _ _
theorem zOU (d:List (List UInt8)):∀ (r c:Rd) (x:List UInt8),kAS r d=(c,true)->kAS r (d++[x])=kAt { c with line:=c.line+1 } x:=by
 induction d with
 | nil =>
  intro r c x h;simp[kAS] at h;subst h;simp only[List.nil_append,kAS]
  cases ht:(kAt { r with line:=r.line+1 } x).2
  ·simp[<- ht]
  ·simp[<- ht]
 | cons y ys ih =>
  intro r c x h;simp only[kAS] at h;simp only[xg,kAS]
  cases ht:(kAt { r with line:=r.line+1 } y).2
  ·simp[ht] at h
  ·simp only[ht,if_true] at h ⊢;exact ih _ _ _ h
theorem kKd (c:List (List UInt8)):∀ (r:Rd) (d:List (List UInt8)),(kAS r c).2=false->kAS r (c++d)=kAS r c:=by
 induction c with
 | nil=>intro r d h;simp[kAS] at h
 | cons y zs ih =>
  intro r d h;simp only[xg,kAS] at h ⊢
  cases ht:(kAt { r with line:=r.line+1 } y).2
  ·simp
  ·simp only[ht,if_true] at h ⊢;exact ih _ _ h
end P
theorem zKH (s:ByteArray) (a b:UInt8) (k:Nat) (h:k+2<=s.size):((s.extract k (k+2)).toList==(⟨#[a,b]⟩:ByteArray).toList)=decide (s.toList.drop k=a::b::s.toList.drop (k+2)):=by
 have i:s.toList.length=s.size:=bS s;have e:(s.extract k (k+2)).toList=(s.toList.drop k).take 2:=by
  rw[fW,List.take_drop]
 have d:(⟨#[a,b]⟩:ByteArray).toList=[a,b]:=by rw[kS]
 have c:s.toList.drop k=(s.toList.drop k).take 2++s.toList.drop (k+2):=by
  have:=(xa 2 (s.toList.drop k)).symm
  rwa [List.drop_drop] at this
 rw[e,d];by_cases hc:(s.toList.drop k).take 2=[a,b]
 ·rw[hc] at c ⊢;have:s.toList.drop k=a::b::s.toList.drop (k+2):=by rw[c];rfl
  simp[this]
 ·have g:¬ s.toList.drop k=a::b::s.toList.drop (k+2):=fun f=>hc (by rw[f];rfl)
  rw[decide_eq_false g];simpa using hc
def jZ (a b:UInt8) (s:List UInt8) (m j:Nat) (bs:List (List UInt8)):Prop:=bs++lW ((s.take j).drop m) (dB a b (s.drop j))=dB a b s
theorem zHI (a b:UInt8) (s:List UInt8):jZ a b s 0 0 []:=by unfold jZ;simp[zPl _ (sD a b s)]
theorem zJZ (h:jZ a b s m j bs) (c:s.drop j=a::b::s.drop (j+2)):jZ a b s (j+2) (j+2) (bs++[(s.take j).drop m]):=by
 unfold jZ at *;rw[c,kFB] at h;rw[<- h];have e:(s.take (j+2)).drop (j+2)=[]:=xh (by rw[xb];omega);rw[e,zPl _ (sD _ _ _)];simp[lW]
theorem zIN (h:jZ a b s m j bs) (k:m<=j) (f:j<s.length) (i:¬ s.drop j=a::b::s.drop (j+2)):jZ a b s m (j+1) bs:=by
 unfold jZ at *;have e:s.drop j=s[j]::s.drop (j+1):=xi f;have d:¬ (s[j]=a/\(s.drop (j+1)).head?=some b):=by
  rintro ⟨g,c⟩;apply i;rw[e,g]
  congr 1
  cases hx:s.drop (j+1) with
  | nil=>rw[hx] at c;simp at c
  | cons y q =>
   rw[hx] at c;simp at c;have:s.drop (j+2)=q:=by rw[show j+2=(j+1)+1 by omega,<- List.drop_drop,hx];rfl
   rw[this,c]
 rw[e,vK a b _ _ d,kJu _ _ _ (sD _ _ _)] at h;rw[<- h,List.take_succ_eq_append_getElem f,xj (by rw[xb];omega)]
theorem zKa (h:jZ a b s m j bs) (d:m<=j) (c:s.length<=j+1):bs++[s.drop m]=dB a b s:=by
 unfold jZ at h;rw[kHb a b (s.drop j) (by simp;omega)] at h;rw[<- h];simp only[lW];by_cases hl:j<=s.length
 ·rw[<- xj (by rw[xb];omega),xa]
 ·rw[x5 (by omega),xh (l:=s) (i:=j) (by omega),List.append_nil]
theorem zHJ (a b:UInt8) (s:ByteArray) (w:World) (hs:s.size<=8192) :
  Calls prog 59 #[.string s,.string ⟨#[a,b]⟩] w fun e V=>∃ g o,∃ L:List ByteArray,e=.returned (.slice (some ⟨g,0,none⟩) L.length o)/\L.map x1=dB a b s.toList /\
   V.ownsRow w.heap.size 9 1 (.slice (some ⟨g,0,none⟩) L.length o) L.length (L.map xW)/\Below w.heap.size w V:=by
 obtain⟨U,S,I,J,K⟩:=info_parts Tryz.infoStr;have T:(⟨#[a,b]⟩:ByteArray).size=2:=rfl;generalize r:(⟨#[a,b]⟩:ByteArray)=C at *;go_enter func59,ntmps59;go_wp2;go_loopw [5,6,7] (fun v f i wr=>∃ k m:Nat,∃ bs:List ByteArray,k<=s.size/\m<=k+1/\m<=s.size/\i=.int .i64 k/\f=.int .i64 m/\bs.length<=k/\Hid (jZ a b s.toList m (max k m) (bs.map x1)) /\
   wr.ownsRow w.heap.size 9 1 v bs.length (bs.map xW)/\Below w.heap.size w wr) (fun _ _ i _=>s.size-(intOf i).toNat)
 case atStart=>exact⟨0,0,[],x7 _,x7 _,x7 _,rfl,rfl,xF _,zHI _ _ _,World.ownsRow_nil _ _ _ _,x2 _ _⟩
 case round =>
  obtain⟨k,m,bs,hk,hm,aa,rfl,rfl,X,q,d,c⟩:=hrel;by_cases hlt:k+2<=s.size
  ·have E:(k:Int)+2<=(s.size:Int):=by omega
   have Y:∀ M,(xR 9 (.string s) (some (.int .i64 (k:Int))) (some (.int .i64 ((k:Int)+2))) none).run prog M=.ok (.string (s.extract k (k+2))) M:=fun M=>by
    rw[run_slice_string M 9 s .i64 .i64 _ _ underlying9 (by omega) (by omega) (by omega),show ((k:Int)).toNat=k by omega,show ((k:Int)+2).toNat=k+2 by omega]
   by_cases hmk:m<=k
   ·have F:(m:Int)<=(k:Int):=by omega
    have G:max k m=k:=by omega
    by_cases hc:s.toList.drop k=a::b::s.toList.drop (k+2)
    ·have hq:((s.extract k (k+2)).toList==C.toList)=true:=by rw[<- r,zKH s a b k hlt];simpa using hc
     have A:Hid (jZ a b s.toList (k+2) (k+2) ((bs++[s.extract m k]).map x1)):=by
      have x:=q.out;rw[G] at x;have W:=zJZ x hc;rw[xk,List.map_cons,List.map_nil,fW];exact W
     clear hc q;go_wp2_with (first
      | (at_builtin;refine wpList_append_lies _ rfl (.tmp 38) (.tmp 43) 37 rfl w.heap.size 9 U (.string xl) 1 16 underlying37 S I J K rfl (by decide) _ _ _ rfl (d.alloc _) ⟨wr.heap.size,0,none⟩ 1 1 [.string (s.extract m k)] rfl rfl ?c1 ?c2 (by decide) ?c3 ?c4 ?c5 _ rfl ?_))
     case c1 =>
      intro j u t
      match j,t with
      | 0,t=>simp at t;subst t;simp[Addr.add]
     case c2=>intro u H;simp at H;subst H;rfl
     case c3=>unfold maxLen;omega
     case c4=>omega
     case c5=>have:=c.size;simp;omega
     intro g o O n l y D;have z:Below w.heap.size w O:=(c.alloc c.size _).grown l (by have:=c.size;simp;omega) (fun j t=>(d.lt j t).1);clear d l y;go_wp2;go_roundw
     case rel=>exact⟨k+1,k+2,bs++[s.extract m k],by omega,by omega,by omega,by go_num,by go_num,by simp;omega,by rw[show max (k+1) (k+2)=k+2 by omega];exact A,by simpa using n,z⟩
     case measure=>simp[intOf];omega
    ·have hq:((s.extract k (k+2)).toList==C.toList)=false:=by rw[<- r,zKH s a b k hlt];simpa using hc
     have A:Hid (jZ a b s.toList m (max (k+1) m) (bs.map x1)):=by
      have x:=q.out;rw[G] at x;unfold Hid;rw[show max (k+1) m=k+1 by omega];exact zIN x hmk (by rw[bS];omega) hc
     clear q hc;go_wp2;go_roundw
     case rel=>exact⟨k+1,m,bs,by omega,by omega,by omega,by go_num,rfl,by omega,A,d,c⟩
     case measure=>simp[intOf];omega
   ·have F:¬ (m:Int)<=(k:Int):=by omega
    have Z:decide ((m:Int)<=(k:Int))=false:=decide_eq_false F;have A:Hid (jZ a b s.toList m (max (k+1) m) (bs.map x1)):=by
     have x:=q.out;unfold Hid;rw[show max (k+1) m=max k m by omega];exact x
    clear q;go_wp2;go_roundw
    case rel=>exact⟨k+1,m,bs,by omega,by omega,by omega,by go_num,rfl,by omega,A,d,c⟩
    case measure=>simp[intOf];omega
  ·have E:¬ ((k:Int)+2<=(s.size:Int)):=by omega
   have ab:(m:Int)<=(s.size:Int):=by omega
   have N:Hid ((bs++[s.extract m s.size]).map x1=dB a b s.toList):=by
    unfold Hid;rw[xk,List.map_cons,List.map_nil,fW,x5 (by rw[bS];exact xF _)];exact zKa q.out (by omega) (by rw[bS];omega)
   clear q;go_wp2_with (first
     | (at_builtin;refine wpList_append_lies _ rfl (.tmp 49) (.tmp 53) 37 rfl w.heap.size 9 U (.string xl) 1 16 underlying37 S I J K rfl (by decide) _ _ _ rfl (d.alloc _) ⟨wr.heap.size,0,none⟩ 1 1 [.string (s.extract m s.size)] rfl rfl ?d1 ?d2 (by decide) ?d3 ?d4 ?d5 _ rfl ?_))
   case d2=>first | rfl | (intro u H;simp at H;subst H;rfl)
   case d3=>unfold maxLen;omega
   case d4=>omega
   case d5=>have:=c.size;simp;omega
   intro g o O n l y D;have z:Below w.heap.size w O:=(c.alloc c.size _).grown l (by have:=c.size;simp;omega) (fun j t=>(d.lt j t).1);clear d l y;go_wp2;go_ret;exact⟨g,o,bs++[s.extract m s.size],by simp,N.out,by simpa using n,z⟩
theorem zEM (k:Int) (w:World) :
  Calls prog 131 #[.int .i64 k] w fun e c=>e=.returned (.bool (k==0||k==1||k==2||k==3))/\c=w:=by
 go_enter func131,ntmps131;go_wp2
 all_goals go_ret
 all_goals simp[*]
theorem zFD (k:Int) (w:World) :
  Calls prog 116 #[.int .i64 k] w fun e c=>e=.returned (.bool (mK k))/\c=w:=by
 cases h1:(k==0||k==1||k==2||k==3)
 ·go_enter func116,ntmps116;go_wp2_with (first | (go_at_call 131;refine (zEM _ _).mono ?_;rintro e c ⟨rfl,rfl⟩;rw[h1]));go_ret;refine⟨?_,rfl⟩;simp[mK,h1]
 ·go_enter func116,ntmps116;go_wp2_with (first | (go_at_call 131;refine (zEM _ _).mono ?_;rintro e c ⟨rfl,rfl⟩;rw[h1]));go_ret;refine⟨?_,rfl⟩;simp[mK,h1]
theorem xQ (s:ByteArray) (k:Nat) (h:k<s.size):s.toList[k]'(by rw[bS];exact h)=s[k]:=by
 have e:s.toList=s.data.toList:=kS s;simp only[e];rfl
theorem zKV (l:List UInt8) (k:Nat) (g:k<l.length) (i:∀ c∈l.take k,c≠32) (d:l[k]=32):eN l=(l.take k,dB 44 32 (l.drop (k+1))):=by
 have e:l=l.take k++32::l.drop (k+1):=by
  conv=>lhs;rw[<- xa k l]
  rw[xi g,d]
 have f:∀ (p q:List UInt8),(∀ c∈p,c≠32)->(p++32::q).takeWhile (fun c=>c != 32)=p/\(p++32::q).dropWhile (fun c=>c != 32)=32::q/\(p++32::q).any (fun c=>c==32)=true:=by
  intro p q
  induction p with
  | nil=>intro _;simp
  | cons x r ih =>
   intro h;have n:x≠32:=h x (by simp);obtain⟨a,b,c⟩:=ih (fun c d=>h c (by simp[d]));simp[n,a,b]
 obtain⟨a,b,c⟩:=f (l.take k) (l.drop (k+1)) i;unfold eN;rw[<- e] at a b c;rw[a,b,c];simp
theorem zIO (l:List UInt8) (e:∀ c∈l,c≠32):eN l=(l,[]):=by
 unfold eN;have f:l.takeWhile (fun c=>c != 32)=l:=by
  induction l with
  | nil=>rfl
  | cons x r ih=>have i:x≠32:=e x (by simp);simp[i,ih (fun c d=>e c (by simp[d]))]
 have g:l.any (fun c=>c==32)=false:=by
  rw[List.any_eq_false];intro c d;simpa using e c d
 rw[f,g];rfl
def oC (w:World) (v:Value) (ws:List ByteArray):Prop:=∃ a cap,v=.slice a ws.length cap/\ws.length<=cap/\(ws≠[]->∃ g,a=some ⟨g,0,none⟩/\zAp w g 0 ws/\g<w.heap.size)
def zLv (s:ByteArray) (w w':World) (e:Ending):Prop:=∃ (f:ByteArray) (v:Value) (ws:List ByteArray),e=.returned (.tuple #[.string f,v])/\f.toList=(eN s.toList).1/\ws.map x1=(eN s.toList).2/\oC w' v ws/\f.size<=s.size/\ws.length<=8193/\Below w.heap.size w w'
theorem zKb (s:ByteArray) (w:World) (Y:s.size<=8192) :
  Calls prog 100 #[.string s] w fun e V=>zLv s w V e:=by
 go_enter func100,ntmps100;go_wp2;go_loop [4] (fun i=>∃ k:Nat,k<=s.size/\i=.int .i64 k/\Hid (∀ c∈s.toList.take k,c≠32)) (fun i=>s.size-(intOf i).toNat)
 case atStart=>exact⟨0,x7 _,rfl,by unfold Hid;simp⟩
 case round =>
  obtain⟨k,X,rfl,q⟩:=hrel;by_cases hlt:k<s.size
  ·by_cases hc:s[k]=32
   ·have y:((s[k].toNat:Int)==32)=true:=by simp[hc]
    have l:Hid (eN s.toList=(s.toList.take k,dB 44 32 (s.toList.drop (k+1)))):=zKV _ k (by rw[bS];exact hlt) q.out (by rw[xQ s k hlt];exact hc);have N:=EZ s (k+1) s.size;have I:(k:Int)+1<=(s.size:Int):=by omega
    have J:(k:Int)<=(s.size:Int):=by omega
    have K:(k:Int)<(s.size:Int):=by omega
    have z:((k:Int)+1).toNat=k+1:=by omega
    have H:(0:Int)<=(k:Int):=by omega
    have F:(0:Int)<=(k:Int)+1:=by omega
    have D:Hid ((s.extract 0 k).toList=s.toList.take k/\(s.extract (k+1) s.size).toList=s.toList.drop (k+1)):=by
     unfold Hid;rw[fW,fW,x5 (i:=s.size) (by rw[bS];exact xF _)];simp
    have A:=EZ s 0 k;have O:IntKind.i64.wrap ((k:Int)+1)=(k:Int)+1:=by simp[IntKind.wrap,IntKind.signed,IntKind.bits];omega
    have L:∀ f,(xR 9 (.string s) (some (.int .i64 ((k:Int)+1))) none none).run prog f=.ok (.string (s.extract (k+1) s.size)) f:=fun f=>by
     rw[run_slice_string_from_if _ _ _ _ _ underlying9,if_pos (by omega),z]
    have M:∀ f,(xR 9 (.string s) none (some (.int .i64 (k:Int))) none).run prog f=.ok (.string (s.extract 0 k)) f:=fun f=>by
     rw[run_slice_string_to_if _ _ _ _ _ underlying9,if_pos (by omega)];rfl
    clear hc;go_wp2;go_region_with (go_at_call 59;refine (zHJ 44 32 (s.extract (k+1) s.size) _ (by omega)).mono ?_;rintro e Z ⟨g,t,W,rfl,o,d,x⟩;have C:=zAa o;have G:=zAa d;clear o d)
    all_goals
     go_wp2;go_ret2;obtain⟨S,T,U⟩:=FG G.out;refine⟨_,_,W,rfl,?_,?_,⟨_,t,rfl,T,fun _=>⟨g,rfl,S,U⟩⟩,?_,?_,?_⟩
     ·rw[l.out];exact D.out.1
     ·rw[l.out,C.out,D.out.2]
     ·exact A
     ·have:=zL 44 32 (s.extract (k+1) s.size).toList;rw[<- C.out,List.length_map,bS] at this;omega
     ·exact ((x2 w.heap.size w).drew).trans (x.mono (by simp))
   ·have y:((s[k].toNat:Int)==32)=false:=by
     cases hx:((s[k].toNat:Int)==32)
     ·rfl
     ·exact absurd ((wB _ 32 (by omega)).1 hx) hc
    have r:Hid (∀ c∈s.toList.take (k+1),c≠32):=by
     intro c n;rw[rB s k hlt] at n
     rcases List.mem_append.1 n with h | h
     ·exact q.out c h
     ·simp at h;rw[h];exact hc
    clear hc;go_wp2;go_round
    case rel=>exact⟨k+1,by omega,by go_num,r⟩
    case measure=>simp[intOf];omega
  ·have l:Hid (eN s.toList=(s.toList,[])):=zIO _ (by have E:=q.out;rw[x5 (by rw[bS];omega)] at E;exact E);go_wp2;go_ret2;refine⟨s,.slice none 0 0,[],rfl,by rw[l.out],by rw[l.out];rfl,⟨none,0,rfl,xF _,fun h=>absurd rfl h⟩,xF _,by simp,x2 _ _⟩
theorem zIP (g o n:Nat):(⟨g,o,none⟩:Addr).add n=⟨g,o+n,none⟩:=by by_cases h:n=0<;>simp[Addr.add,h]
theorem zHc (g o n c:Nat) (y:n+1<=c):∃ o' c',n<=c'/\(∀ d,(xR 37 (.slice (some ⟨g,o,none⟩) (n+1) c) (some (.int .i64 1)) none none).run prog d=.ok (.slice (some ⟨g,o',none⟩) n c') d)/\∀ (w:World) (x:ByteArray) (f:List ByteArray),f.length=n->zAp w g o (x::f)->zAp w g o' f:=by
 have e:∀ d,(xR 37 (.slice (some ⟨g,o,none⟩) (n+1) c) (some (.int .i64 1)) none none).run prog d=.ok (sliced (some ⟨g,o,none⟩) 1 (n+1) c 1) d:=fun d=>by
  have l:=run_slice_l (w:=d) (P:=prog) 37 (some ⟨g,o,none⟩) (n+1) c (by kernel_rfl) .i64 1 (by omega) (by omega);rw[l,show (sizeOf (prog.elem 37)).run prog d=.ok 1 d by kernel_rfl,x3];rfl
 by_cases h:c=1
 ·subst h;have k:n=0:=by omega
  subst k;refine⟨o,0,by omega,fun d=>by rw[e];simp[sliced],fun w x f r _=>?_⟩;rw[xc r];exact fun i s q=>by simp at q
 ·refine⟨o+1,c-1,by omega,fun d=>?_,fun w x f _ t=>t.head.2.2⟩;rw[e];unfold sliced;simp[zIP];omega
theorem vH (w:World) (d:B<=w.heap.size) (c:List ByteArray) (e:c.length<=100):(w.alloc (.cells (c.map xW).toArray 9)).ownsRow B 9 1 (.slice (some ⟨w.heap.size,0,none⟩) c.length c.length) c.length (c.map xW) :=
 ⟨by simp,.inr ⟨w.heap.size,c.length,(c.map xW).toArray,rfl,d,heap_alloc_new w _,by omega,by unfold maxLen;omega,by simp,by simp[x5]⟩⟩
theorem zHY (l:List UInt8) (k:Nat) (g:k<4) (f:∀ j:Nat,j<k->(l==P.bQ (j:Int))=false) (h:(l==P.bQ (k:Int))=true):zME l=((k:Int),true):=by
 have d:l=P.bQ (k:Int):=by simpa using h
 have c:∀ j:Nat,j<k->¬ l=P.bQ (j:Int):=fun j e=>by simpa using f j e
 have:k=0\/k=1\/k=2\/k=3:=by omega
 unfold zME
 rcases this with rfl | rfl | rfl | rfl
 ·rw[if_pos (show l=P.bQ 0 from d)];rfl
 ·rw[if_neg (show ¬ l=P.bQ 0 from c 0 (by omega)),if_pos (show l=P.bQ 1 from d)];rfl
 ·rw[if_neg (show ¬ l=P.bQ 0 from c 0 (by omega)),if_neg (show ¬ l=P.bQ 1 from c 1 (by omega)),if_pos (show l=P.bQ 2 from d)];rfl
 ·rw[if_neg (show ¬ l=P.bQ 0 from c 0 (by omega)),if_neg (show ¬ l=P.bQ 1 from c 1 (by omega)),if_neg (show ¬ l=P.bQ 2 from c 2 (by omega)),if_pos (show l=P.bQ 3 from d)];rfl
theorem zFO (l:List UInt8) (e:∀ j:Nat,j<4->(l==P.bQ (j:Int))=false):zME l=(0,false):=by
 have c:∀ j:Nat,j<4->¬ l=P.bQ (j:Int):=fun j d=>by simpa using e j d
 unfold zME;rw[if_neg (show ¬ l=P.bQ 0 from c 0 (by omega)),if_neg (show ¬ l=P.bQ 1 from c 1 (by omega)),if_neg (show ¬ l=P.bQ 2 from c 2 (by omega)),if_neg (show ¬ l=P.bQ 3 from c 3 (by omega))]
theorem zHZ (l:List UInt8) (k:Nat) (g:k<3) (f:∀ j:Nat,j<k->(l==P.cX (j:Int))=false) (h:(l==P.cX (k:Int))=true):zNe l=((k:Int),true):=by
 have d:l=P.cX (k:Int):=by simpa using h
 have c:∀ j:Nat,j<k->¬ l=P.cX (j:Int):=fun j e=>by simpa using f j e
 have:k=0\/k=1\/k=2:=by omega
 unfold zNe
 rcases this with rfl | rfl | rfl
 ·rw[if_pos (show l=P.cX 0 from d)];rfl
 ·rw[if_neg (show ¬ l=P.cX 0 from c 0 (by omega)),if_pos (show l=P.cX 1 from d)];rfl
 ·rw[if_neg (show ¬ l=P.cX 0 from c 0 (by omega)),if_neg (show ¬ l=P.cX 1 from c 1 (by omega)),if_pos (show l=P.cX 2 from d)];rfl
theorem zFP (l:List UInt8) (e:∀ j:Nat,j<3->(l==P.cX (j:Int))=false):zNe l=(0,false):=by
 have c:∀ j:Nat,j<3->¬ l=P.cX (j:Int):=fun j d=>by simpa using e j d
 unfold zNe;rw[if_neg (show ¬ l=P.cX 0 from c 0 (by omega)),if_neg (show ¬ l=P.cX 1 from c 1 (by omega)),if_neg (show ¬ l=P.cX 2 from c 2 (by omega))]
theorem zIa (l:List UInt8) (k:Nat) (g:k<4) (f:∀ j:Nat,j<k->(l==bP (j:Int))=false) (h:(l==bP (k:Int))=true):zMA l=(⟨false,(k:Int)⟩,true):=by
 have d:l=bP (k:Int):=by simpa using h
 have c:∀ j:Nat,j<k->¬ l=bP (j:Int):=fun j e=>by simpa using f j e
 have:k=0\/k=1\/k=2\/k=3:=by omega
 unfold zMA
 rcases this with rfl | rfl | rfl | rfl
 ·rw[if_pos (show l=bP 0 from d)];rfl
 ·rw[if_neg (show ¬ l=bP 0 from c 0 (by omega)),if_pos (show l=bP 1 from d)];rfl
 ·rw[if_neg (show ¬ l=bP 0 from c 0 (by omega)),if_neg (show ¬ l=bP 1 from c 1 (by omega)),if_pos (show l=bP 2 from d)];rfl
 ·rw[if_neg (show ¬ l=bP 0 from c 0 (by omega)),if_neg (show ¬ l=bP 1 from c 1 (by omega)),if_neg (show ¬ l=bP 2 from c 2 (by omega)),if_pos (show l=bP 3 from d)];rfl
theorem zFQ (l:List UInt8) (e:∀ j:Nat,j<4->(l==bP (j:Int))=false):zMA l=(⟨true,(zME l).1⟩,(zME l).2):=by
 have c:∀ j:Nat,j<4->¬ l=bP (j:Int):=fun j d=>by simpa using e j d
 unfold zMA;rw[if_neg (show ¬ l=bP 0 from c 0 (by omega)),if_neg (show ¬ l=bP 1 from c 1 (by omega)),if_neg (show ¬ l=bP 2 from c 2 (by omega)),if_neg (show ¬ l=bP 3 from c 3 (by omega))]
theorem zEq (s:ByteArray) (w:World) :
  Calls prog 133 #[.string s] w fun e l=>e=.returned (.tuple #[.int .i64 (zME s.toList).1,.bool (zME s.toList).2])/\l=w:=by
 go_enter func133,ntmps133;go_wp2;go_loop [4] (fun i=>∃ k:Nat,k<=4/\i=.int .i64 k/\Hid (∀ j:Nat,j<k->(s.toList==P.bQ (j:Int))=false)) (fun i=>4-(intOf i).toNat)
 case atStart=>exact⟨0,by omega,rfl,fun j n=>by omega⟩
 case round =>
  obtain⟨k,r,rfl,d⟩:=hrel;by_cases hlt:k<4
  ·have o:(k:Int)<4:=by omega
   cases hb:(s.toList==P.bQ (k:Int))
   ·have f:Hid (∀ j:Nat,j<k+1->(s.toList==P.bQ (j:Int))=false):=fun j n=>by
     by_cases e:j=k
     ·rw[e];exact hb
     ·exact d.out j (by omega)
    have HB:=zAa hb;clear hb;go_wp2_with (first | (go_at_call 152;refine (DP _ _ (by omega) (by omega)).mono ?_;rintro e l ⟨t,rfl,g,rfl⟩;have q:(s.toList==t.toList)=false:=(by rw[g.1];exact HB.out)));go_round
    case rel=>exact⟨k+1,by omega,by go_num,f⟩
    case measure=>simp[intOf];omega
   ·have c:=zAa (zHY s.toList k hlt d.out hb);have HB:=zAa hb;clear hb;go_wp2_with (first | (go_at_call 152;refine (DP _ _ (by omega) (by omega)).mono ?_;rintro e l ⟨t,rfl,g,rfl⟩;have q:(s.toList==t.toList)=true:=(by rw[g.1];exact HB.out)));go_ret2;rw[c.out];exact⟨rfl,rfl⟩
  ·have c:Hid (zME s.toList=(0,false)):=zFO _ (fun j n=>d.out j (by omega));go_wp2;go_ret2;rw[c.out];exact⟨rfl,rfl⟩
theorem zGA (s:ByteArray) (w:World) :
  Calls prog 134 #[.string s] w fun e l=>e=.returned (.tuple #[.int .i64 (zNe s.toList).1,.bool (zNe s.toList).2])/\l=w:=by
 go_enter func134,ntmps134;go_wp2;go_loop [4] (fun i=>∃ k:Nat,k<=3/\i=.int .i64 k/\Hid (∀ j:Nat,j<k->(s.toList==P.cX (j:Int))=false)) (fun i=>3-(intOf i).toNat)
 case atStart=>exact⟨0,by omega,rfl,fun j n=>by omega⟩
 case round =>
  obtain⟨k,r,rfl,d⟩:=hrel;by_cases hlt:k<3
  ·have o:(k:Int)<3:=by omega
   cases hb:(s.toList==P.cX (k:Int))
   ·have f:Hid (∀ j:Nat,j<k+1->(s.toList==P.cX (j:Int))=false):=fun j n=>by
     by_cases e:j=k
     ·rw[e];exact hb
     ·exact d.out j (by omega)
    have HB:=zAa hb;clear hb;go_wp2_with (first | (go_at_call 153;refine (zGX _ _).mono ?_;rintro e l ⟨t,rfl,g,rfl⟩;have q:(s.toList==t.toList)=false:=(by rw[g.1];exact HB.out)));go_round
    case rel=>exact⟨k+1,by omega,by go_num,f⟩
    case measure=>simp[intOf];omega
   ·have c:=zAa (zHZ s.toList k hlt d.out hb);have HB:=zAa hb;clear hb;go_wp2_with (first | (go_at_call 153;refine (zGX _ _).mono ?_;rintro e l ⟨t,rfl,g,rfl⟩;have q:(s.toList==t.toList)=true:=(by rw[g.1];exact HB.out)));go_ret2;rw[c.out];exact⟨rfl,rfl⟩
  ·have c:Hid (zNe s.toList=(0,false)):=zFP _ (fun j n=>d.out j (by omega));go_wp2;go_ret2;rw[c.out];exact⟨rfl,rfl⟩
theorem zJi {R:Ending->World->Prop} {a:Act} (g:Nat) (o:Opd) (d:Value) (c:fn.results=#[.cell p 107,.tmp u])
  (i:a.tmps.getD p undef=.pointer (some ⟨g,0,none⟩)) (k:a.tmps.getD u undef=d) (h:w.heap[g]?=some (.cells #[.bool o.reg,.int .i64 o.n] 107 (0,0))) (f:a.defers=[]) (e:R (.returned (.tuple #[.agg #[.bool o.reg,.int .i64 o.n],d])) w):bodyPost prog fn R .ret a w:=by
 refine bodyPost_ret (v:=.tuple #[.agg #[.bool o.reg,.int .i64 o.n],d]) ?_ f e;rw[results_cell_tmp c,i,k];have:(asAddr (.pointer (some ⟨g,0,none⟩))).run prog w=.ok ⟨g,0,none⟩ w:=rfl;rw[this,x3,qX w g _ _ _ h _ underlying107 rfl (by kernel_rfl),x3]
theorem BK {g:Nat} {a b:Value} {t:TypeId} (h:w.heap[g]?=some (.cells #[a,b] t (0,0))):g<w.heap.size/\w.cell? ⟨g,0,none⟩=some a/\w.cell? ⟨g,1,none⟩=some b/\w.frozen? ⟨g,0,none⟩=false/\w.frozen? ⟨g,1,none⟩=false:=by
 refine⟨(Array.getElem?_eq_some_iff.1 h).1,?_,?_,?_,?_⟩<;>simp[World.cell?,World.frozen?,h]
theorem zEs (s:ByteArray) (w:World) :
  Calls prog 135 #[.string s] w fun e E=>e=.returned (.tuple #[.agg #[.bool (zMA s.toList).1.reg,.int .i64 (zMA s.toList).1.n],.bool (zMA s.toList).2])/\Below w.heap.size w E:=by
 go_enter func135,ntmps135;go_wp2;go_loopw [4] (fun i wr=>∃ k:Nat,k<=4/\i=.int .i64 k/\Hid (∀ j:Nat,j<k->(s.toList==bP (j:Int))=false)/\Hid (wr.heap[w.heap.size]?=some (.cells #[.bool false,.int .i64 0] 107 (0,0)))/\Below w.heap.size w wr) (fun i _=>4-(intOf i).toNat)
 case atStart=>exact⟨0,by omega,rfl,fun j D=>by omega,heap_alloc_new w _,(x2 _ _).alloc (xF _) _⟩
 case round =>
  obtain⟨k,H,rfl,r,f,c⟩:=hrel;obtain⟨z0,V,W,X,Y⟩:=BK f.out;have o:=c.size;by_cases hlt:k<4
  ·have F:(k:Int)<4:=by omega
   cases hb:(s.toList==bP (k:Int))
   ·have x:Hid (∀ j:Nat,j<k+1->(s.toList==bP (j:Int))=false):=fun j D=>by
     by_cases e:j=k
     ·rw[e];exact hb
     ·exact r.out j (by omega)
    have HB:=zAa hb;clear hb;go_wp2_with (first | (go_at_call 154;refine (zGZ ⟨false,(k:Int)⟩ _ (by simp) (by simp;omega)).mono ?_;rintro e C ⟨t,rfl,A,d⟩;have G:(s.toList==t.toList)=false:=(by rw[A.1];exact HB.out)));go_roundw
    case rel=>exact⟨k+1,by omega,by go_num,x,by unfold Hid;rw[d.block _ (by simp;omega),x6 _ _ _ z0];exact f.out,(c.alloc o _).trans (d.mono (by simp;omega))⟩
    case measure=>simp[intOf];omega
   ·have q:=zAa (zIa s.toList k hlt r.out hb);have HB:=zAa hb;clear hb;go_wp2_with (first | (go_at_call 154;refine (zGZ ⟨false,(k:Int)⟩ _ (by simp) (by simp;omega)).mono ?_;rintro e C ⟨t,rfl,A,d⟩;have G:(s.toList==t.toList)=true:=(by rw[A.1];exact HB.out);have l:C.heap[wr.heap.size]?=some (.cells #[.bool false,.int .i64 (k:Int)] 107 (0,0)):=(d.block _ (by simp)).trans (heap_alloc_new wr _);have g:C.heap[w.heap.size]?=some (.cells #[.bool false,.int .i64 0] 107 (0,0)):=(d.block _ (by simp;omega)).trans ((x6 _ _ _ z0).trans f.out);obtain⟨N,O,S,T,U⟩:=BK l;obtain⟨I,J,K,L,M⟩:=BK g;have y:=zAa g;have z:=zAa ((c.alloc o _).trans (d.mono (by simp;omega)));clear l g));rw[q.out];refine zJi (p:=2) (u:=3) w.heap.size ⟨false,(k:Int)⟩ _ (by kernel_rfl) rfl rfl ?_ rfl ⟨rfl,?_⟩
    ·rw[bH (bH y.out _ _)];rfl
    ·exact (z.out.setCell (xF _) _).setCell (xF _) _
  ·have q:Hid (zMA s.toList=(⟨true,(zME s.toList).1⟩,(zME s.toList).2)):=zFQ _ (fun j D=>r.out j (by omega));go_wp2_with (first | (go_at_call 133;refine (zEq s _).mono ?_;rintro e E ⟨rfl,rfl⟩));rw[q.out];refine zJi (p:=2) (u:=3) w.heap.size ⟨true,(zME s.toList).1⟩ _ (by kernel_rfl) rfl rfl ?_ rfl ⟨rfl,?_⟩
   ·rw[bH (bH f.out _ _)];rfl
   ·exact (c.setCell (xF _) _).setCell (xF _) _
end Go.Proofs.YtonodfjdiepglaaGreatDoor
