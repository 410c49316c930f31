import Derived.Laws.IdiomCopy
import Derived.Test.YtonodfjdiepglaaGreatDoorL09
set_option linter.unusedVariables false
set_option linter.unusedSimpArgs false
set_option maxHeartbeats 12800000
namespace Go.Proofs.YtonodfjdiepglaaGreatDoor
open Go Go.RowKit Go.Proofs.Tryz P Q R
set_option maxRecDepth 1000000
variable {w w':World} {b g:Nat} {l:List Int} {t:TypeId}
open List renaming range→xF,replicate→xR,drop_eq_getElem_cons→x3,drop_eq_nil_of_le→x7,set_append_right→x8,replicate_succ'→x9,append_assoc→xa,flatMap_cons→xc
open Go.Value renaming int→xW
open Go.World renaming cell?→x1,setCells→x4,frozen?→x5,cell?_setCell_other→xb
open Nat renaming le_refl→x2
open Go.RowKit.Below renaming heap_setCell→x6
open _root_.Array renaming getElem?_eq_none→xd
open Go.Instr renaming makeSlice→xe
namespace Q
def fF (b:List Int):Bool:=b.all fun x=>decide (1<=x)
def inc:List Int->List Int->List Int × Bool
 | b::bs,d::ds=>if d+1<b then ((d+1)::ds,true) else (0::(inc bs ds).1,(inc bs ds).2)
 | _,ds=>(ds,false)
end Q
def lL (l:List Int):Array Value:=(l.map (xW .i64)).toArray
def zAt (w:World) (g:Nat) (l:List Int):Prop:=w.heap[g]?=some (.cells (lL l) 3 (0,0))
theorem zAt.lt (h:zAt w g l):g<w.heap.size:=(Array.getElem?_eq_some_iff.1 h).1
theorem zAt.aA (h:zAt w g l) (e:w'.heap[g]?=w.heap[g]?):zAt w' g l:=by unfold zAt at *;rw[e];exact h
theorem zAt.below (h:zAt w g l) (a:Below w.heap.size w w'):zAt w' g l:=h.aA (a.block g h.lt)
theorem zAt.cell (h:zAt w g l) (i:Nat) (a:i<l.length):w.cell? ⟨g,i,none⟩=some (.int .i64 l[i]):=by
 unfold zAt at h;simp[x1,h,lL,a]
theorem zAt.free (h:zAt w g l) (i:Nat):w.frozen? ⟨g,i,none⟩=false:=by
 unfold zAt at h;simp[x5,h]
theorem zAt.set (h:zAt w g l) (i:Nat) (x:Int):zAt (w.setCell ⟨g,i,none⟩ (.int .i64 x)) g (l.set i x):=by
 unfold zAt at *;rw[bH h];simp[lL,List.map_set]
structure CtrAt (w:World) (gc o gb gd:Nat) (bs ds:List Int) (begun:Bool):Prop where
 c0:w.cell? ⟨gc,o,none⟩=some (.slice (some ⟨gb,0,none⟩) bs.length bs.length)
 c1:w.cell? ⟨gc,o+1,none⟩=some (.slice (some ⟨gd,0,none⟩) ds.length ds.length)
 c2:w.cell? ⟨gc,o+2,none⟩=some (.bool begun)
 free:∀ j,w.frozen? ⟨gc,j,none⟩=false
 lt:gc<w.heap.size
 bases:zAt w gb bs
 digits:zAt w gd ds
 cd:gc≠gd
 cb:gc≠gb
 bd:gb≠gd
 len:ds.length=bs.length
theorem zIT (m o q r:Nat) (a p:List Int) (c:Bool) (w:World) (h:CtrAt w m o q r a p c) (D:a.length<10000) :
  Calls prog 111 #[.pointer (some ⟨m,o,none⟩)] w fun e w'=>e=.returned (.bool (fF a))/\w'=w:=by
 obtain⟨x,y,z,A,cl,_,_,_,_,_,_⟩:=id h;have HB:=zAa h.bases;clear h;go_enter func111,ntmps111;go_wp2;go_loop [10] (fun i=>∃ k:Nat,k<=a.length/\i=.int .i64 k/\Hid (fF a=fF (a.drop k))) (fun i=>a.length-(intOf i).toNat)
 case atStart=>exact⟨0,Nat.zero_le _,rfl,rfl⟩
 case round =>
  obtain⟨k,C,rfl,f⟩:=hrel;by_cases hlt:k<a.length
  ·have v:(k:Int)<(a.length:Int):=by omega
   have B:=HB.out.cell k hlt;have s:=HB.out.free k;have u:=HB.out.lt;have j:Hid (fF (a.drop k)=(decide (1<=a[k])&&fF (a.drop (k+1)))):=by
    unfold Hid;rw[x3 hlt];rfl
   generalize a[k]=b at *;by_cases hb:b<1
   ·have d:Hid (fF a=false):=by unfold Hid;rw[f.out,j.out,decide_eq_false (by omega)];rfl
    go_wp2;go_ret;rw[d.out];exact⟨rfl,rfl⟩
   ·have n:Hid (fF a=fF (a.drop (k+1))):=by unfold Hid;rw[f.out,j.out,decide_eq_true (by omega)];rfl
    go_wp2;go_round
    case rel=>exact⟨k+1,by omega,by go_num,n⟩
    case measure=>simp[intOf];omega
  ·have d:Hid (fF a=true):=by unfold Hid;rw[f.out,x7 (by omega)];rfl
   go_wp2;go_ret;rw[d.out];exact⟨rfl,rfl⟩
theorem zKd (c a:List Int) (k:Nat) (d:k<c.length) (e:k<a.length):inc (c.drop k) (a.drop k)=if a[k]+1<c[k] then ((a[k]+1)::a.drop (k+1),true) else (0::(inc (c.drop (k+1)) (a.drop (k+1))).1,(inc (c.drop (k+1)) (a.drop (k+1))).2):=by
 rw[x3 d,x3 e,inc]
theorem zFI (a:List Int) (k:Nat) (c:k<a.length) (x:Int):(xR k 0++a.drop k).set k x=xR k 0++x::a.drop (k+1):=by
 have e:k-(xR k (0:Int)).length=0:=by simp
 rw[x8 _ _ (by simp),e,x3 c];rfl
theorem zHM (a:List Int) (k:Nat) (c:k<a.length):(xR k 0++a.drop k).set k 0=xR (k+1) 0++a.drop (k+1):=by
 rw[zFI a k c,x9,xa];rfl
theorem zIU (a:List Int) (k:Nat) (c:k<=a.length):(xR k (0:Int)++a.drop k).length=a.length:=by simp;omega
theorem zIV (a:List Int) (k:Nat) (c:k<a.length) (h:k<(xR k (0:Int)++a.drop k).length):(xR k (0:Int)++a.drop k)[k]=a[k]:=by
 rw[List.getElem_append_right (by simp)];simp
theorem zHN (c o i k:Nat) (d f:List Int) (w:World) (h:CtrAt w c o i k d f false) (r:d.length<10000) :
  Calls prog 84 #[.pointer (some ⟨c,o,none⟩)] w fun e w'=>e=.returned (.bool (fF d))/\w'=w.setCell ⟨c,o+2,none⟩ (.bool true):=by
 have m:Hid (CtrAt (w.setCell ⟨c,o+2,none⟩ (.bool true)) c o i k d f true) :=
  ⟨(xb _ _ _ _ (by simp)).trans h.c0,(xb _ _ _ _ (by simp)).trans h.c1,World.cell?_setCell_same _ _ _ h.c2,fun j=>by rw[World.frozen?_setCell];exact h.free j,by simpa using h.lt,
   h.bases.aA (x6 _ _ _ _ (fun e=>h.cb e.symm)),h.digits.aA (x6 _ _ _ _ (fun e=>h.cd e.symm)),h.cd,h.cb,h.bd,h.len⟩
 obtain⟨n,p,q,s,cl,_,_,_,_,_,_⟩:=id h;clear h;go_enter func84,ntmps84;go_wp2_with (first | (go_at_call 111;refine (zIT c o i k d f true _ m.out r).mono ?_;rintro e w' ⟨rfl,a⟩;have a:=a.symm;subst a));go_ret;exact⟨rfl,rfl⟩
theorem zIW (m o C p:Nat) (c a:List Int) (w:World) (h:CtrAt w m o C p c a true) (hn:c.length<10000) (L:∀ d∈a,0<=d/\d<1000000000) :
  Calls prog 84 #[.pointer (some ⟨m,o,none⟩)] w fun e w'=>e=.returned (.bool (inc c a).2)/\zAt w' p (inc c a).1/\w.grownBy w' (some p)/\w'.heap.size=w.heap.size:=by
 obtain⟨N,O,c2,S,cl,H,J,I,U,G,ab⟩:=h;have s:=zAa H;have D:=zAa L;clear L;go_enter func84,ntmps84;go_wp2;go_loopw [20] (fun i wr=>∃ k:Nat,k<=c.length/\i=.int .i64 k/\Hid (inc c a=(xR k 0++(inc (c.drop k) (a.drop k)).1,(inc (c.drop k) (a.drop k)).2))/\Hid (zAt wr p (xR k 0++a.drop k))/\w.grownBy wr (some p)/\wr.heap.size=w.heap.size) (fun i _=>c.length-(intOf i).toNat)
 case atStart=>exact⟨0,Nat.zero_le _,rfl,by simp[Hid],by simpa [Hid] using J,jM _ _,rfl⟩
 case round =>
  obtain⟨k,hk,rfl,F,r,B,q⟩:=hrel;have n:wr.heap[m]?=w.heap[m]?:=B.block m cl (by simp;exact I);have d0:wr.cell? ⟨m,o,none⟩=some (.slice (some ⟨C,0,none⟩) c.length c.length):=by rw[<- N];simp only[x1,n]
  have d1:wr.cell? ⟨m,o+1,none⟩=some (.slice (some ⟨p,0,none⟩) a.length a.length):=by rw[<- O];simp only[x1,n]
  have df:∀ j,wr.frozen? ⟨m,j,none⟩=false:=fun j=>by rw[<- S j];simp only[x5,n]
  have dl:m<wr.heap.size:=by omega
  have HB:Hid (zAt wr C c):=s.out.aA (B.block C s.out.lt (by simp;exact G));have X:=r.out.lt;have W:=HB.out.lt;have V:∀ j,wr.frozen? ⟨p,j,none⟩=false:=fun j=>r.out.free j
  by_cases hlt:k<c.length
  ·have f:k<a.length:=by omega
   have Y:(k:Int)<(c.length:Int):=by omega
   have Z:(k:Int)<(a.length:Int):=by omega
   have K:=HB.out.cell k hlt;have A:=r.out.cell k (by rw[zIU a k (by omega)];exact f);rw[zIV a k f] at A;have ac:=D.out a[k] (List.getElem_mem f);have x:=zAa (zKd c a k hlt f);have v:=zAa (r.out.set k (a[k]+1));have u:=zAa ((r.out.set k (a[k]+1)).set k 0);have z:(xR k (0:Int)++a.drop k).set k (a[k]+1)=xR k 0++(a[k]+1)::a.drop (k+1):=zFI a k f _;have y:((xR k (0:Int)++a.drop k).set k (a[k]+1)).set k 0=xR (k+1) 0++a.drop (k+1):=by rw[List.set_set];exact zHM a k f
   rw[z] at v;rw[y] at u;clear z y;generalize a[k]=d at *;generalize c[k]=b at *;by_cases hb:d+1<b
   ·have E:Hid (inc c a=(xR k 0++(d+1)::a.drop (k+1),true)):=by unfold Hid;rw[F.out,x.out,if_pos hb]
    go_wp2;go_ret;rw[E.out];exact⟨rfl,v.out,gD B _ _,by simpa using q⟩
   ·have M:Hid (inc c a=(xR (k+1) 0++(inc (c.drop (k+1)) (a.drop (k+1))).1,(inc (c.drop (k+1)) (a.drop (k+1))).2)):=by
     unfold Hid;rw[F.out,x.out,if_neg hb,x9,xa];rfl
    go_wp2;go_roundw
    case rel=>exact⟨k+1,by omega,by go_num,M,u,gD (gD B _ _) _ _,by simpa using q⟩
    case measure=>simp[intOf];omega
  ·have aa:k=c.length:=by omega
   have E:Hid (inc c a=(xR k 0++a.drop k,false)):=by
    have T:c.drop k=[]:=x7 (by omega);unfold Hid;rw[F.out,T];simp[inc]
   go_wp2;go_ret;rw[E.out];exact⟨rfl,r.out,B,q⟩
namespace Q
structure ED where
 thread:Int
 block:Int
 unread:Nat
 regs:List Int
 made:List Nat
 Ee:Nat
 bars:Nat
 Ea:List Ev
def ED.start (t b:Int) (u:Nat):ED:=⟨t,b,u,[0,0,0,0],[0,0,0,0],0,0,[]⟩
def ED.value (m:ED) (a:Opd):Int:=if a.reg then (if a.n<0\/4<=a.n then 0 else m.regs.getD a.n.toNat 0) else a.n
def ED.Ed (m:ED) (a:Opd):Nat:=if a.reg then (if a.n<0\/4<=a.n then 0 else m.made.getD a.n.toNat 0) else 0
def ED.aV (m:ED) (i:Nat):Int:=(m.Ea.getD i Ev.zero).value
def ED.bK (m:ED) (d v:Int) (s:Nat):ED:=if d<0\/4<=d then m else { m with regs:=m.regs.set d.toNat v,made:=m.made.set d.toNat s }
def ED.aY (m:ED) (d:Int) (r:Nat):ED:=m.bK d (m.aV r) (cY r)
def ED.put (m:ED) (e:Ev):ED:={ m with Ea:=m.Ea++[e] }
def ED.event (m:ED) (kind:Int) (st:Stm):Ev :=
 ⟨kind,m.thread,m.block,st.var,0,st.order,st.scope,if kind==3||kind==4 then m.bars else 0,(kind==0||kind==1)&&(st.kind==2||st.kind==3),if kind==0||kind==1 then m.Ee else 0⟩
def ED.aU (m:ED) (st:Stm):ED:={ m with unread:=m.unread / 4,Ea:=m.Ea++[{ m.event 0 st with value:=(m.unread % 4:Nat) }] }
def ED.bX (m:ED) (st:Stm) (v:Int) (s:Nat):ED:=m.put { m.event 1 st with value:=v,Ef:=m.Ee ||| s }
def ED.store (m:ED) (st:Stm):ED:=m.bX st (m.value st.a) (m.Ed st.a)
def ED.dC (m:ED) (st:Stm):ED:={ m with Ea:=m.Ea++[m.event 3 st,m.event 4 st],bars:=m.bars+1 }
def ED.step (m:ED) (st:Stm):ED :=
 (if st.kind==2 then (m.aU st).bX st ((m.value st.a+(m.aU st).aV m.Ea.length) % 4) (m.Ed st.a ||| cY (m.Ea.length:Nat)) else (m.aU st).bX st (m.value st.a) (m.Ed st.a)).aY st.dest m.Ea.length
def ED.bF (m:ED) (st:Stm):Int :=
 if st.kind==7 then (m.value st.a+m.value st.b) % 4 else if st.kind==8 then (m.value st.a+4-m.value st.b) % 4 else if st.kind==9 then (if m.value st.a==m.value st.b then 1 else 0) else m.value st.a
def ED.bG (m:ED) (st:Stm):ED :=
 if st.kind==0 then (m.aU st).aY st.dest m.Ea.length
 else if st.kind==1 then m.store st
 else if st.kind==2||st.kind==3 then m.step st
 else if st.kind==4 then m.put (m.event 2 st)
 else if st.kind==5 then m.dC st
 else if st.kind==6||st.kind==7||st.kind==8||st.kind==9 then m.bK st.dest (m.bF st) (m.Ed st.a ||| m.Ed st.b)
 else m
def ED.kV (m:ED) (st:Stm):ED:={ m with Ee:=m.Ee ||| m.Ed st.a }
def carry (p:ED × Nat) (st:Stm):ED × Nat :=
 if p.2==0 then (if st.kind==10 then (p.1.kV st,if p.1.value st.a==0 then 1 else 0) else (p.1.bG st,0))
 else if st.kind==10 then (p.1,p.2+1) else if st.kind==11 then (p.1,p.2-1) else p
def zOl (m:ED) (ss:List Stm):ED:=(ss.foldl carry (m,0)).1
structure Run where
 Ea:List Ev
 regs:List Int
def ED.run (m:ED):Run:=⟨m.Ea,m.regs⟩
def kBm (ss:List Stm):Nat:=ss.foldl (fun c st=>if reads st.kind then c*4 else c) 1
def kBs (t:Thr) (i:Nat) (code:Nat):ED:=zOl (ED.start i t.block code) t.Eb
def zNs (t:Thr) (i:Nat) (k:Nat):List Run:=((xF k).filter fun c=>(kBs t i c).unread==0).map fun c=>(kBs t i c).run
def zOD (t:Thr) (i:Nat):List Run:=zNs t i (kBm t.Eb)
def kAi (i:Nat):List Thr->List (List Run)
 | []=>[]
 | t::ts=>zOD t i::kAi (i+1) ts
def runs (ts:List Thr):List (List Run):=kAi 0 ts
structure Wd where
 Ea:List Ev
 regs:List Int
def zNI (n:Nat) (e:Ev):Ev:={ e with Ef:=kBu e.Ef n }
def Wd.join (w:Wd) (r:Run):Wd:=⟨w.Ea++r.Ea.map (zNI w.Ea.length),w.regs++r.regs⟩
def zMN (v:Int):Ev:=⟨1, -1,0,v,0,0,0,0,false,0⟩
def zNn:List Ev:=[zMN 0,zMN 1,zMN 2]
def zPf:Wd->List (List Run)->List Int->Wd
 | w,rs::rest,d::ds=>zPf (if h:d.toNat<rs.length then w.join rs[d.toNat] else w) rest ds
 | w,_,_=>w
def zMj (rss:List (List Run)) (ds:List Int):Wd:=zPf ⟨zNn,[]⟩ rss ds
def zMH:List Int->List (List Int)
 | []=>[[]]
 | b::bs=>(zMH bs).flatMap fun r=>(xF b.toNat).map fun d:Nat=>(d:Int)::r
def ev (es:List Ev) (i:Nat):Ev:=es.getD i Ev.zero
def oI (es:List Ev) (i k:Nat):Bool:=(ev es k).kind==1&&(ev es k).var==(ev es i).var&&(ev es k).value==(ev es i).value&&!((ev es i).step&&k==i+1)
def kE (es:List Ev) (i:Nat):List Int:=if (ev es i).kind==0 then ((xF es.length).filter (oI es i)).map (fun k:Nat=>(k:Int)) else [-1]
def zMf (es:List Ev):List (List Int):=(xF es.length).map (kE es)
def kBl (cs:List (List Int)):List Int:=cs.map fun c=>(c.length:Int)
def gB (cs:List (List Int)) (ds:List Int):List Int:=(xF cs.length).map fun i=>(cs.getD i []).getD (ds.getD i 0).toNat (-1)
def aM (es:List Ev):List Int:=es.map fun e=>if e.kind==1 then e.var else -1
def zMg (es:List Ev):List Int:=es.map fun e=>if kAC e then 0 else -1
def iC (es:List Ev) (rs:List Int) (i k:Nat):Bool:=rs.getD i (-1) != -1&&rs.getD k (-1)==rs.getD i (-1)&&(ev es k).thread != -1
def iP (es:List Ev) (rs:List Int) (i:Nat):Int:=1+(((xF i).filter (iC es rs i)).length:Nat)
def zMh (es:List Ev) (rs:List Int):List Int:=(xF rs.length).map (iP es rs)
def iL (rs:List Int) (i:Nat):Int:=(((xF i).filter fun k=>rs.getD k (-1)==rs.getD i (-1)).length:Nat)
def jJ (rs:List Int) (i:Nat) (p:List Int) (k:Nat):List Int:=if rs.getD k (-1)==rs.getD i (-1)&&decide (p.getD i 0<=p.getD k 0) then p.set k (p.getD k 0+1) else p
def fN (rs ds:List Int) (p:List Int) (i:Nat):List Int:=if rs.getD i (-1) == -1 then p.set i (-1) else (xF i).foldl (jJ rs i) (p.set i (iL rs i-ds.getD i 0))
def zMm (rs ds:List Int):List Int:=(xF rs.length).foldl (fN rs ds) (xR rs.length 0)
def kR (v:Int) (ps:List Int) (es:List Ev) (a:Int × Int) (i:Nat):Int × Int:=if (ev es i).kind==1&&(ev es i).var==v&&decide (a.2<ps.getD i 0) then ((ev es i).value,ps.getD i 0) else a
def jA (es:List Ev) (v:Int) (ps:List Int):Int:=((xF es.length).foldl (kR v ps es) (0, -1)).1
def gK (w:Wd) (ps:List Int):List Int:=w.regs++[jA w.Ea 0 ps,jA w.Ea 1 ps,jA w.Ea 2 ps]
def cC:List Int->List Int->Int
 | [],b=>- (b.length:Int)
 | _::_,[]=>1
 | a::x,b::y=>if a != b then a-b else cC x y
def eW:List (List Int)->List Int->List (List Int)
 | [],r=>[r]
 | x::xs,r=>if cC x r<0 then x::eW xs r else if cC x r==0 then x::xs else r::x::xs
structure EE where
 Ea:List Ev
 ahead:List Nat
 strong:List Nat
 gathers:List Nat
 fences:List Nat
 rows:List Nat
 Ef:List Nat
 halves:List Nat
 sends:List Nat
 takes:List Nat
def aJ (c:Bool) (r:List Nat) (i k:Nat):List Nat:=if c then bJ r (i:Int) (k:Int) else r
def isRow (i:Nat) (a:Ev) (k:Nat) (b:Ev):Bool:=zMl i a k b&&zNz a&&zNz b&&a.var==b.var
def zMq (i:Nat) (a:Ev) (k:Nat) (b:Ev):Bool:=i != k&&strong a b
def zMp (i:Nat) (a:Ev) (k:Nat) (b:Ev):Bool:=i != k&&strong a b&&kAC a&&kAC b
def zNt (i:Nat) (a:Ev) (k:Nat):Bool:=a.kind==1&&a.step&&k+1==i
def zOg (i:Nat) (a:Ev) (k:Nat) (b:Ev):Bool:=(i==k&&(a.kind==1&&P.rel a.order))||(zMl i a k b&&a.kind==2&&b.kind==1)
def zPm (i:Nat) (a:Ev) (k:Nat) (b:Ev):Bool:=(i==k&&(a.kind==0&&acq a.order))||(zMl i a k b&&a.kind==0&&b.kind==2)
def EE.gG (f:EE) (i:Nat) (a:Ev) (k:Nat) (b:Ev):EE :=
 { f with ahead:=aJ (zMl i a k b) f.ahead i k,rows:=aJ (isRow i a k b) f.rows i k,strong:=aJ (zMq i a k b) f.strong i k,fences:=aJ (zMp i a k b) f.fences i k,gathers:=aJ (zMG a b) f.gathers i k,Ef:=aJ (kAU a.Ef (k:Nat)) f.Ef i k,halves:=aJ (zNt i a k) f.halves i k,sends:=aJ (zOg i a k b) f.sends i k,takes:=aJ (zPm i a k b) f.takes i k }
def EE.bT (es:List Ev):EE:=⟨es,aS es.length,aS es.length,aS es.length,aS es.length,aS es.length,aS es.length,aS es.length,aS es.length,aS es.length⟩
def mN (es:List Ev) (f:EE) (i:Nat):EE:=(xF es.length).foldl (fun f k=>f.gG i (ev es i) k (ev es k)) f
def zMv (es:List Ev):EE:=(xF es.length).foldl (mN es) (EE.bT es)
def EE.reads (f:EE) (rs:List Int):List Nat:=(xF rs.length).foldl (fun (r:List Nat) (i:Nat)=>bJ r (i:Int) (rs.getD i (-1))) (aS f.Ea.length)
def EE.cH (f:EE) (rd:List Nat):Bool:=cK (cS f.Ef rd)
def EE.cI (f:EE) (rd:List Nat):List Nat:=fV rd f.strong
def EE.aN (f:EE) (rd:List Nat):List Nat:=cS (f.cI rd) (kAg (jD (kAg (f.cI rd) f.halves)) (f.cI rd))
def nX (es:List Ev) (aN:List Nat) (r:Nat) (h:List Nat) (w:Nat):List Nat:=if bR aN r w&&(ev es r).order != 0&&(ev es w).order != 0 then bJ h w r else h
def oX (es:List Ev) (aN:List Nat) (h:List Nat) (r:Nat):List Nat:=(xF es.length).foldl (nX es aN r) h
def dU (es:List Ev) (aN:List Nat):List Nat:=(xF es.length).foldl (oX es aN) (aS es.length)
def EE.cP (f:EE) (aN:List Nat):List Nat:=fV (kAg (kAg f.sends (dU f.Ea aN)) f.takes) f.strong
def zPE (es:List Ev) (ps:List Int) (i k:Nat):Bool:=(ev es i).kind==1&&(ev es k).kind==1&&(ev es i).var==(ev es k).var&&decide (ps.getD i 0<ps.getD k 0)
def nT (es:List Ev) (ps:List Int) (i:Nat) (b:List Nat) (k:Nat):List Nat:=aJ (zPE es ps i k) b i k
def tB (es:List Ev) (ps:List Int) (b:List Nat) (i:Nat):List Nat:=(xF es.length).foldl (nT es ps i) b
def zMT (es:List Ev) (ps:List Int):List Nat:=(xF es.length).foldl (tB es ps) (aS es.length)
def pG (f:List Nat) (ps:List Int) (i:Nat) (b:List Nat) (k:Nat):List Nat:=aJ (bR f i k&&decide (ps.getD i 0<ps.getD k 0)) b i k
def nS (f:List Nat) (ps:List Int) (b:List Nat) (i:Nat):List Nat:=(xF ps.length).foldl (pG f ps i) b
def EE.Eg (f:EE) (ps:List Int):List Nat:=(xF ps.length).foldl (nS f.fences ps) (aS f.Ea.length)
def rM (rd bh ms:List Nat):List Nat:=cS (cS (kU rd) bh) ms
def EE.dX (f:EE) (ms bh:List Nat):Bool:=bB (kAg (kAg f.halves ms) bh)
def EE.bW (f:EE) (i:Nat) (a:Ev) (k:Nat) (b:Ev):Bool:=a.kind==1&&i != k&&!bR f.strong i k&&a.var==b.var&&zNz b
def EE.bY (f:EE) (bf:List Nat) (i k:Nat):Bool:=f.bW i (ev f.Ea i) k (ev f.Ea k)&&!bR bf i k&&!bR bf k i
def EE.cL (f:EE) (bf:List Nat):Bool:=(xF f.Ea.length).any fun i=>(xF f.Ea.length).any fun k=>f.bY bf i k
def EE.before (f:EE) (rd:List Nat):List Nat:=jD (cS (cS f.ahead (f.cP (f.aN rd))) f.gathers)
def EE.eJ (f:EE) (bf lk:List Nat):Bool:=cK (fV (cS bf (kAg (kAg bf lk) bf)) f.fences)
def linked (rd bh:List Nat):List Nat:=jD (rM rd bh (kAg rd bh))
def EE.kB (f:EE) (rd bf:List Nat) (ps:List Int):Bool :=
 if bB bf then false else if f.dX (kAg rd (zMT f.Ea ps)) (zMT f.Ea ps) then false else if bB (kAg bf (linked rd (zMT f.Ea ps))) then false else !f.eJ bf (linked rd (zMT f.Ea ps))
structure Ans where
 rows:List (List Int)
 clash:Bool
def DO (w:Wd) (f:EE) (rd bf:List Nat) (a:Ans) (ds:List Int):Ans :=
 if f.kB rd bf (zMm (aM w.Ea) ds) then ⟨eW a.rows (gK w (zMm (aM w.Ea) ds)),if a.clash then true else f.cL bf⟩ else a
def kGl (w:Wd) (f:EE) (rd bf:List Nat) (a:Ans):Ans:=(zMH (zMh w.Ea (aM w.Ea))).foldl (DO w f rd bf) a
structure Cand where
 wd:Wd
 facts:EE
 reads:List Nat
def uI (w:Wd) (f:EE):List Cand :=
 ((zMH (kBl (zMf w.Ea))).map fun ds=>Cand.mk w f (f.reads (gB (zMf w.Ea) ds))).filter fun c=>!c.facts.cH c.reads
def pA (ts:List Thr):List Cand:=(zMH ((runs ts).map fun r=>(r.length:Int))).flatMap fun ds=>uI (zMj (runs ts) ds) (zMv (zMj (runs ts) ds).Ea)
def zU (a:Ans) (c:Cand):Ans:=kGl c.wd c.facts c.reads (c.facts.before c.reads) a
def xK (ts:List Thr):Ans:=(pA ts).foldl zU ⟨[],false⟩
def yC (ahead cR:List Nat):List Nat:=jD (cS (cS cR (kAg cR ahead)) (kAg ahead (cS cR (kAg cR ahead))))
def EE.cause (f:EE) (aN cR:List Nat):List Nat:=cS (cS (yC f.ahead cR) f.ahead) (kAg (kU aN) (yC f.ahead cR))
def zMY (rd cause fences:List Nat):Bool:=if bB cause||bB (kAg fences cause) then false else !dH (fV rd cause)
def EE.mayStand (f:EE) (rd bh ms:List Nat):Bool:=if f.dX ms bh then false else !cK (cS f.rows (fV (rM rd bh ms) f.strong))
def zPF (cause bh ms:List Nat):Bool:=!bB (kAg (cS bh ms) cause)
def EE.cR (f:EE) (rd:List Nat):List Nat:=cS (f.cP (f.aN rd)) f.gathers
def EE.causeAt (f:EE) (rd:List Nat) (w:Wd) (ds:List Int):List Nat:=f.cause (f.aN rd) (cS (f.cR rd) (f.Eg (zMm (zMg w.Ea) ds)))
def EE.bU (f:EE) (rd:List Nat) (w:Wd):List (List Nat) :=
 ((zMH (zMh w.Ea (zMg w.Ea))).filter fun ds=>zMY rd (f.causeAt rd w ds) (f.Eg (zMm (zMg w.Ea) ds))).map (f.causeAt rd w)
def jL (o:List Int) (f:EE) (bh ms:List Nat) (a:Ans) (cause:List Nat):Ans:=if zPF cause bh ms then ⟨eW a.rows o,if a.clash then true else f.cL cause⟩ else a
def iV (w:Wd) (f:EE) (rd:List Nat) (cs:List (List Nat)) (a:Ans) (ds:List Int):Ans :=
 if f.mayStand rd (zMT f.Ea (zMm (aM w.Ea) ds)) (kAg rd (zMT f.Ea (zMm (aM w.Ea) ds))) then
  cs.foldl (jL (gK w (zMm (aM w.Ea) ds)) f (zMT f.Ea (zMm (aM w.Ea) ds)) (kAg rd (zMT f.Ea (zMm (aM w.Ea) ds)))) a
 else a
def pH (w:Wd) (f:EE) (rd:List Nat) (cs:List (List Nat)) (a:Ans):Ans:=(zMH (zMh w.Ea (aM w.Ea))).foldl (iV w f rd cs) a
def iQ (a:Ans) (c:Cand):Ans:=if (c.facts.bU c.reads c.wd).isEmpty then a else pH c.wd c.facts c.reads (c.facts.bU c.reads c.wd) a
def kAp (ts:List Thr):Ans:=(pA ts).foldl iQ ⟨[],false⟩
def mV:List Int->List Int->List (List Int)
 | b::bs,d::ds=>((xF (b.toNat-(d.toNat+1))).map fun x:Nat=>((d.toNat+1+x:Nat):Int)::ds)++(mV bs ds).flatMap fun r=>(xF b.toNat).map fun x:Nat=>(x:Int)::r
 | _,_=>[]
def eI (n:Nat):List Int:=xR n 0
def kAy:List Int->List Int->Prop
 | [],[]=>True
 | b::bs,d::ds=>0<=d/\d<b/\kAy bs ds
 | _,_=>False
theorem kAy.len:∀ {a c:List Int},kAy a c->c.length=a.length
 | [],[],_=>rfl
 | [],_::_,h=>h.elim
 | _::_,[],h=>h.elim
 | b::a,d::c,h=>by simp[kAy.len h.2.2]
theorem kAy.uA:∀ {c a:List Int},kAy c a->∀ i (h:i<a.length),0<=a[i]/\a[i]<c.getD i 0
 | [],[],_,i,hi=>by simp at hi
 | [],_::_,h,_,_=>h.elim
 | _::_,[],h,_,_=>h.elim
 | b::c,d::a,h,0,_=>⟨h.1,h.2.1⟩
 | b::c,d::a,h,i+1,hi=>by
  have:=kAy.uA h.2.2 i (by simpa using hi);simpa using this
theorem kEo:∀ {a:List Int},fF a=true->kAy a (eI a.length)
 | [],_=>trivial
 | b::a,h=>by
  simp[fF] at h;have c:fF a=true:=by simp[fF];exact h.2
  exact⟨Int.le_refl _,by omega,kEo c⟩
theorem kGr:∀ {a c:List Int},kAy a c->(inc a c).2=true->kAy a (inc a c).1
 | [],[],_,h=>by simp[inc] at h
 | [],_::_,h,_=>h.elim
 | _::_,[],h,_=>h.elim
 | b::a,d::c,h,k=>by
  have f:=h.1;have i:=h.2.1;rw[inc] at k ⊢
  split
  ·exact⟨by omega,by omega,h.2.2⟩
  ·rename_i e;rw[if_neg e] at k;exact⟨Int.le_refl _,by omega,kGr h.2.2 k⟩
theorem kFH (n:Nat) (h:0<n):xF n=0::(xF (n-1)).map (fun x=>1+x):=by
 obtain⟨k,rfl⟩:∃ k,n=k+1:=⟨n-1,by omega⟩;rw[List.range_succ_eq_map];simp[Nat.add_comm]
theorem kEF (n:Nat) (h:0<n) (r:List Int):(xF n).map (fun x:Nat=>(x:Int)::r)=(0::r)::(xF (n-1)).map fun x:Nat=>((0+1+x:Nat):Int)::r:=by
 rw[kFH n h];simp
theorem kDI:∀ {a:List Int},fF a=true->zMH a=eI a.length::mV a (eI a.length)
 | [],_=>rfl
 | b::a,h=>by
  simp[fF] at h;have c:fF a=true:=by simp[fF];exact h.2
  rw[zMH,kDI c,xc,kEF _ (by omega)];simp[eI,List.replicate_succ,mV]
theorem kEx:∀ {a:List Int},fF a=false->zMH a=[]
 | [],h=>by simp[fF] at h
 | b::a,h=>by
  rw[zMH];by_cases hb:1<=b
  ·have c:fF a=false:=by
    have:fF (b::a)=(decide (1<=b)&&fF a):=rfl;rw[this,decide_eq_true hb] at h;simpa using h
   rw[kEx c];rfl
  ·have:b.toNat=0:=by omega
   rw[this];simp
theorem kFu:∀ {a c:List Int},kAy a c->(inc a c).2=true->mV a c=(inc a c).1::mV a (inc a c).1
 | [],[],_,h=>by simp[inc] at h
 | [],_::_,h,_=>h.elim
 | _::_,[],h,_=>h.elim
 | b::a,d::c,h,k=>by
  have m:=h.1;have n:=h.2.1;by_cases hlt:d+1<b
  ·have e:inc (b::a) (d::c)=((d+1)::c,true):=by rw[inc,if_pos hlt]
   rw[e];simp only[mV];rw[kFH (b.toNat-(d.toNat+1)) (by omega)];have i:(d+1).toNat=d.toNat+1:=by omega
   simp only[List.map_cons,List.map_map,List.cons_append,i];have j:(((d.toNat+1+0:Nat)):Int)=d+1:=by omega
   rw[j]
   congr 2
   rw[show b.toNat-(d.toNat+1+1)=b.toNat-(d.toNat+1)-1 by omega];apply List.map_congr_left;intro x _;simp only[Function.comp];rw[show d.toNat+1+(1+x)=d.toNat+1+1+x by omega]
  ·have e:inc (b::a) (d::c)=(0::(inc a c).1,(inc a c).2):=by rw[inc,if_neg hlt]
   rw[e] at k ⊢;have ih:=kFu h.2.2 k;have f:b.toNat-(d.toNat+1)=0:=by omega
   simp only[mV,f,ih,xc];rw[kEF b.toNat (by omega)];simp
theorem kFJ:∀ {a c:List Int},kAy a c->(inc a c).2=false->mV a c=[]
 | [],[],_,_=>rfl
 | [],_::_,h,_=>h.elim
 | _::_,[],h,_=>h.elim
 | b::a,d::c,h,k=>by
  have f:=h.1;have i:=h.2.1;by_cases hlt:d+1<b
  ·rw[inc,if_pos hlt] at k;simp at k
  ·rw[inc,if_neg hlt] at k;have ih:=kFJ h.2.2 k;have e:b.toNat-(d.toNat+1)=0:=by omega
   simp[mV,e,ih]
end Q
def wQ (l:List Value) (o:Nat):List Value->List Value
 | []=>l
 | v::vs=>wQ (l.set o v) (o+1) vs
theorem sE (b:Nat) (e:TypeId) (c:Nat × Nat):∀ (a l:List Value) (o:Nat) (w:World),w.heap[b]?=some (.cells l.toArray e c)->(w.setCells b o a).heap[b]?=some (.cells (wQ l o a).toArray e c)
 | [],l,o,w,h=>h
 | v::a,l,o,w,h=>by
  have d:=bH h o v;rw[x4];exact sE b e c a (l.set o v) (o+1) _ (by rw[d];simp)
theorem BZ:∀ (c a rest:List Value),rest.length=c.length->wQ (a++rest) a.length c=a++c
 | [],a,rest,h=>by have:rest=[]:=List.eq_nil_of_length_eq_zero h;rw[this];rfl
 | v::c,a,[],h=>by simp at h
 | v::c,a,r::rest,h=>by
  have e:(a++r::rest).set a.length v=(a++[v])++rest:=by rw[x8 _ _ (x2 _),Nat.sub_self];simp
  have:=BZ c (a++[v]) rest (by simpa using h);rw[wQ,e,show a.length+1=(a++[v]).length by simp,this];simp
theorem vP (b:Nat):∀ (a:List Value) (o:Nat) (w:World) (k:Nat),k≠b->(w.setCells b o a).heap[k]?=w.heap[k]?
 | [],_,_,_,_=>rfl
 | v::a,o,w,k,h=>by rw[x4,vP b a (o+1) _ k h,x6 _ _ _ _ h]
theorem rE (n:Nat):madeCells #[.int .i64 0] n=lL (xR n 0):=by
 apply Array.ext_getElem?;intro i;by_cases h:i<n
 ·simp[madeCells,lL,h,Nat.mod_one]
 ·rw[xd (by simpa [madeCells] using h),xd (by simpa [lL] using h)]
theorem mY (b:Nat):∀ (a:List Value) (o:Nat) (w:World),(w.setCells b o a).heap.size=w.heap.size
 | [],_,_=>rfl
 | v::a,o,w=>by rw[x4,mY b a (o+1)];simp
theorem Below.setCells {B b:Nat} {a:World} (d:B<=b):∀ (c:List Value) (o:Nat) (w:World),Below B a w->Below B a (w.setCells b o c)
 | [],_,_,h=>h
 | v::c,o,w,h=>by rw[x4];exact Below.setCells d c (o+1) _ (h.setCell d v)
def zCj (w:World) (v:Value) (l:List Int):Prop:=(v=.slice none 0 0/\l=[])\/∃ g cap,v=.slice (some ⟨g,0,none⟩) l.length cap/\(∀ i (h:i<l.length),w.cell? ⟨g,i,none⟩=some (.int .i64 l[i]))/\g<w.heap.size/\l.length<=cap
theorem yX (v:Value) (l:List Int) (w:World) (h:zCj w v l) (A:l.length<10000) :
  Calls prog 92 #[v] w fun e w'=>∃ g,e=.returned (.slice (some ⟨g,0,none⟩) l.length l.length)/\zAt w' g l/\w.heap.size<=g/\Below w.heap.size w w':=by
 have d:∀ w,(xe 68 (.int .i64 (l.length:Int)) (.int .i64 (l.length:Int))).run prog w=.ok (.slice (some ⟨w.heap.size,0,none⟩) l.length l.length) (w.alloc (.cells (madeCells #[.int .i64 0] l.length) 3)) :=
  fun w=>run_make_row' 68 3 (.int .i64 0) 8 underlying68 Tryz.infoInt rfl .i64 .i64 l.length (by omega) (by omega) w
 have a:(w.alloc (.cells (madeCells #[.int .i64 0] l.length) 3)).heap[w.heap.size]?=some (.cells (lL (xR l.length 0)) 3 (0,0)):=by rw[rE];exact heap_alloc_new w _
 have i:(prog.info? 3).map (·.size)=some 1:=by kernel_rfl
 rcases h with ⟨rfl,rfl⟩ | ⟨g,k,rfl,o,y,_⟩
 ·have r:=zAa a;have p:∀ w,(xe 68 (.int .i64 0) (.int .i64 0)).run prog w=.ok (.slice (some ⟨w.heap.size,0,none⟩) 0 0) (w.alloc (.cells (madeCells #[.int .i64 0] 0) 3)):=d;have m:∀ W:World,(Builtin.copy_ #[68,68] 3 #[.slice (some ⟨w.heap.size,0,none⟩) 0 0,.slice none 0 0]).run prog W=.ok (goInt 0) W:=fun W=>run_copy_none W _ _ _ 3 _ _ 0 0 0 0 underlying68 i rfl
  clear a d;go_enter func92,ntmps92;go_wp2;go_ret;refine⟨w.heap.size,rfl,?_,x2 _,(Below.refl _ _).alloc (x2 _) _⟩;exact r.out
 ·have n:∀ j (c:j<l.length),(w.alloc (.cells (madeCells #[.int .i64 0] l.length) 3)).cell? ⟨g,j,none⟩=some (.int .i64 l[j]):=fun j c=>by
   rw[<- o j c];simp only[x1,Below.heap_alloc _ _ _ y]
  have m:(Builtin.copy_ #[68,68] 3 #[.slice (some ⟨w.heap.size,0,none⟩) l.length l.length,.slice (some ⟨g,0,none⟩) l.length k]).run prog (w.alloc (.cells (madeCells #[.int .i64 0] l.length) 3))=.ok (goInt (l.map (xW .i64)).length) ((w.alloc (.cells (madeCells #[.int .i64 0] l.length) 3)).setCells w.heap.size 0 (l.map (xW .i64))):=by
   refine run_copy_cells _ _ _ _ 3 _ _ _ _ _ _ _ _ underlying68 i (by simp) ?_ ?_ ?_ ?_
   ·intro j v f;rw[List.getElem?_map] at f;obtain⟨x,z,rfl⟩:=Option.map_eq_some_iff.1 f;obtain⟨c,rfl⟩:=List.getElem?_eq_some_iff.1 z;have s:(⟨g,0,none⟩:Addr).add j=⟨g,j,none⟩:=by unfold Addr.add;split<;>simp_all
    rw[s];exact n j c
   ·intro j c;simp only[x1,a];simp at c;simp[lL,c]
   ·intro j c;have u:zAt (w.alloc (.cells (madeCells #[.int .i64 0] l.length) 3)) w.heap.size (xR l.length 0):=a;exact u.free _
   ·intro v f;simp at f;obtain⟨x,_,rfl⟩:=f;rfl
  have q:Hid (zAt ((w.alloc (.cells (madeCells #[.int .i64 0] l.length) 3)).setCells w.heap.size 0 (l.map (xW .i64))) w.heap.size l):=by
   unfold Hid zAt;have:=sE w.heap.size 3 (0,0) (l.map (xW .i64)) ((xR l.length 0).map (xW .i64)) 0 _ a;rw[this];have e:=BZ (l.map (xW .i64)) [] ((xR l.length 0).map (xW .i64)) (by simp);simp only[List.nil_append,List.length_nil] at e;rw[e];rfl
  have HB:Hid (Below w.heap.size w ((w.alloc (.cells (madeCells #[.int .i64 0] l.length) 3)).setCells w.heap.size 0 (l.map (xW .i64)))):=Below.setCells (x2 _) _ _ _ ((Below.refl _ _).alloc (x2 _) _);clear a n o;go_enter func92,ntmps92;go_wp2;go_ret;exact⟨w.heap.size,rfl,q.out,x2 _,HB.out⟩
theorem wS {c:World} {a:Array Value} (bT:List Value) (h:c.heap[b]?=some (.cells a t (0,0))) (m:a.size=bT.length):(c.setCells b 0 bT).heap[b]?=some (.cells bT.toArray t (0,0))/\(∀ k,k≠b->(c.setCells b 0 bT).heap[k]?=c.heap[k]?)/\∀ (w:World) (B:Nat),B<=b->Below B w c->Below B w (c.setCells b 0 bT):=by
 refine⟨?_,fun k j=>vP _ _ _ _ _ j,fun w B f i=>Below.setCells f _ _ _ i⟩;have e:=uQ bT 0 c a h;have d:=zDH a bT.toArray (by simpa using m);rw[e];simp only[List.toList_toArray] at d;rw[d]
theorem gH {a c d e f i k m n o:Value} (h:w.heap[g]?=some (.cells #[a,c,d,e,f,i,k,m,n,o] t (0,0))) :
  w.cell? ⟨g,0,none⟩=some a/\w.cell? ⟨g,1,none⟩=some c/\w.cell? ⟨g,2,none⟩=some d/\w.cell? ⟨g,3,none⟩=some e/\w.cell? ⟨g,4,none⟩=some f/\w.cell? ⟨g,5,none⟩=some i/\w.cell? ⟨g,6,none⟩=some k/\w.cell? ⟨g,7,none⟩=some m/\w.cell? ⟨g,8,none⟩=some n/\w.cell? ⟨g,9,none⟩=some o/\(∀ j,w.frozen? ⟨g,j,none⟩=false)/\g<w.heap.size:=by
 refine⟨?_,?_,?_,?_,?_,?_,?_,?_,?_,?_,fun j=>?_,(Array.getElem?_eq_some_iff.1 h).1⟩<;>simp[x1,x5,h]
end Go.Proofs.YtonodfjdiepglaaGreatDoor
