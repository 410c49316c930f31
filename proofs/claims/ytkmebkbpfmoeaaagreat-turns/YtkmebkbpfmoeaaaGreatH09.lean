import Derived.Test.YtkmebkbpfmoeaaaGreatH08
set_option linter.unusedVariables false
set_option linter.unusedSimpArgs false
set_option maxHeartbeats 12800000
namespace Go.Proofs.YtkmebkbpfmoeaaaGreat
open Go Go.RowKit
set_option maxRecDepth 100000
namespace Q
def someB (b:List Int):Bool:=b.all fun x=>decide (1≤x)
def inc:List Int→List Int→List Int × Bool
 | b::bs,d::ds=>if d+1<b then ((d+1)::ds,true) else (0::(inc bs ds).1,(inc bs ds).2)
 | _,ds=>(ds,false)
end Q
def zAK (l:List Int):Array Value:=(l.map (Value.int .i64)).toArray
def zAp (w:World) (g:Nat) (l:List Int):Prop:=w.heap[g]?=some (.cells (zAK l) 3 (0,0))
theorem zAp.lt {w:World} {g:Nat} {l:List Int} (h:zAp w g l):g<w.heap.size:=(Array.getElem?_eq_some_iff.1 h).1
theorem zAp.of_block {w w':World} {g:Nat} {l:List Int} (h:zAp w g l) (e:w'.heap[g]?=w.heap[g]?):zAp w' g l:=by unfold zAp at *;rw[e];exact h
theorem zAp.below {w w':World} {g:Nat} {l:List Int} (h:zAp w g l) (hb:Below w.heap.size w w'):zAp w' g l:=h.of_block (hb.block g h.lt)
theorem zAp.cell {w:World} {g:Nat} {l:List Int} (h:zAp w g l) (i:Nat) (hi:i<l.length):w.cell? ⟨g,i,none⟩=some (.int .i64 l[i]):=by
 unfold zAp at h;simp[World.cell?,h,zAK,hi]
theorem zAp.free {w:World} {g:Nat} {l:List Int} (h:zAp w g l) (i:Nat):w.frozen? ⟨g,i,none⟩=false:=by
 unfold zAp at h;simp[World.frozen?,h]
theorem zAp.set {w:World} {g:Nat} {l:List Int} (h:zAp w g l) (i:Nat) (x:Int):zAp (w.setCell ⟨g,i,none⟩ (.int .i64 x)) g (l.set i x):=by
 unfold zAp at *
 rw[zAf h]
 simp[zAK,List.map_set]
structure CtrAt (w:World) (gc o gb gd:Nat) (bs ds:List Int) (begun:Bool):Prop where
 c0:w.cell? ⟨gc,o,none⟩=some (.slice (some ⟨gb,0,none⟩) bs.length bs.length)
 c1:w.cell? ⟨gc,o+1,none⟩=some (.slice (some ⟨gd,0,none⟩) ds.length ds.length)
 c2:w.cell? ⟨gc,o+2,none⟩=some (.bool begun)
 free:∀ j,w.frozen? ⟨gc,j,none⟩=false
 lt:gc<w.heap.size
 bases:zAp w gb bs
 digits:zAp w gd ds
 cd:gc≠gd
 cb:gc≠gb
 bd:gb≠gd
 len:ds.length=bs.length
theorem zGy (gc o gb gd:Nat) (bs ds:List Int) (begun:Bool) (w:World) (h:CtrAt w gc o gb gd bs ds begun) (hn:bs.length<10000) :
  Calls Tryz.prog 109 #[.pointer (some ⟨gc,o,none⟩)] w fun e w'=>e=.returned (.bool (Q.someB bs))∧w'=w:=by
 obtain⟨c0,c1,c2,cf,cl,_,_,_,_,_,_⟩:=id h
 have HB:=zAa h.bases
 clear h
 go_enter Tryz.func109,Tryz.ntmps109
 go_wp2
 go_loop [10] (fun i=>∃ k:Nat,k≤bs.length∧i=.int .i64 k∧Hid (Q.someB bs=Q.someB (bs.drop k))) (fun i=>bs.length-(intOf i).toNat)
 case atStart=>exact⟨0,Nat.zero_le _,rfl,rfl⟩
 case round =>
  obtain⟨k,hk,rfl,HK⟩:=hrel
  by_cases hlt:k<bs.length
  ·have hin:(k:Int)<(bs.length:Int):=by omega
   have hc:=HB.out.cell k hlt
   have hfz:=HB.out.free k
   have hgl:=HB.out.lt
   have HD:Hid (Q.someB (bs.drop k)=(decide (1≤bs[k])&&Q.someB (bs.drop (k+1)))):=by
    unfold Hid;rw[List.drop_eq_getElem_cons hlt];rfl
   generalize bs[k]=b at *
   by_cases hb:b<1
   ·have HE:Hid (Q.someB bs=false):=by unfold Hid;rw[HK.out,HD.out,decide_eq_false (by omega)];rfl
    go_wp2
    go_ret
    rw[HE.out];exact⟨rfl,rfl⟩
   ·have HN:Hid (Q.someB bs=Q.someB (bs.drop (k+1))):=by unfold Hid;rw[HK.out,HD.out,decide_eq_true (by omega)];rfl
    go_wp2
    go_round
    case rel=>exact⟨k+1,by omega,by go_num,HN⟩
    case measure=>simp[intOf];omega
  ·have HE:Hid (Q.someB bs=true):=by unfold Hid;rw[HK.out,List.drop_eq_nil_of_le (by omega)];rfl
   go_wp2
   go_ret
   rw[HE.out];exact⟨rfl,rfl⟩
theorem zGZ (bs ds:List Int) (k:Nat) (hb:k<bs.length) (hd:k<ds.length):Q.inc (bs.drop k) (ds.drop k)=if ds[k]+1<bs[k] then ((ds[k]+1)::ds.drop (k+1),true) else (0::(Q.inc (bs.drop (k+1)) (ds.drop (k+1))).1,(Q.inc (bs.drop (k+1)) (ds.drop (k+1))).2):=by
 rw[List.drop_eq_getElem_cons hb,List.drop_eq_getElem_cons hd,Q.inc]
theorem zEt (ds:List Int) (k:Nat) (hk:k<ds.length) (x:Int):(List.replicate k 0++ds.drop k).set k x=List.replicate k 0++x::ds.drop (k+1):=by
 have e:k-(List.replicate k (0:Int)).length=0:=by simp
 rw[List.set_append_right _ _ (by simp),e,List.drop_eq_getElem_cons hk];rfl
theorem zFT (ds:List Int) (k:Nat) (hk:k<ds.length):(List.replicate k 0++ds.drop k).set k 0=List.replicate (k+1) 0++ds.drop (k+1):=by
 rw[zEt ds k hk,List.replicate_succ',List.append_assoc];rfl
theorem zGz (ds:List Int) (k:Nat) (hk:k≤ds.length):(List.replicate k (0:Int)++ds.drop k).length=ds.length:=by simp;omega
theorem zGA (ds:List Int) (k:Nat) (hk:k<ds.length) (h:k<(List.replicate k (0:Int)++ds.drop k).length):(List.replicate k (0:Int)++ds.drop k)[k]=ds[k]:=by
 rw[List.getElem_append_right (by simp)];simp
theorem zFU (gc o gb gd:Nat) (bs ds:List Int) (w:World) (h:CtrAt w gc o gb gd bs ds false) (hn:bs.length<10000) :
  Calls Tryz.prog 80 #[.pointer (some ⟨gc,o,none⟩)] w fun e w'=>e=.returned (.bool (Q.someB bs))∧w'=w.setCell ⟨gc,o+2,none⟩ (.bool true):=by
 have H1:Hid (CtrAt (w.setCell ⟨gc,o+2,none⟩ (.bool true)) gc o gb gd bs ds true) :=
  ⟨(World.cell?_setCell_other _ _ _ _ (by simp)).trans h.c0,(World.cell?_setCell_other _ _ _ _ (by simp)).trans h.c1,World.cell?_setCell_same _ _ _ h.c2,fun j=>by rw[World.frozen?_setCell];exact h.free j,by simpa using h.lt,
   h.bases.of_block (Below.heap_setCell _ _ _ _ (fun e=>h.cb e.symm)),h.digits.of_block (Below.heap_setCell _ _ _ _ (fun e=>h.cd e.symm)),h.cd,h.cb,h.bd,h.len⟩
 obtain⟨c0,c1,c2,cf,cl,_,_,_,_,_,_⟩:=id h
 clear h
 go_enter Tryz.func80,Tryz.ntmps80
 go_wp2_with (first | (go_at_call 109;refine (zGy gc o gb gd bs ds true _ H1.out hn).mono ?_;rintro e w' ⟨rfl,hw'⟩;have hw':=hw'.symm;subst hw'))
 go_ret
 exact⟨rfl,rfl⟩
theorem zGB (gc o gb gd:Nat) (bs ds:List Int) (w:World) (h:CtrAt w gc o gb gd bs ds true) (hn:bs.length<10000) (hd:∀ d∈ds,0≤d∧d<1000000000) :
  Calls Tryz.prog 80 #[.pointer (some ⟨gc,o,none⟩)] w fun e w'=>e=.returned (.bool (Q.inc bs ds).2)∧zAp w' gd (Q.inc bs ds).1∧w.grownBy w' (some gd)∧w'.heap.size=w.heap.size:=by
 obtain⟨c0,c1,c2,cf,cl,hbs,hds,hcd,hcb,hbd,hln⟩:=h
 have HBS:=zAa hbs
 have HDB:=zAa hd
 clear hd
 go_enter Tryz.func80,Tryz.ntmps80
 go_wp2
 go_loopw [20] (fun i wr=>∃ k:Nat,k≤bs.length∧i=.int .i64 k∧Hid (Q.inc bs ds=(List.replicate k 0++(Q.inc (bs.drop k) (ds.drop k)).1,(Q.inc (bs.drop k) (ds.drop k)).2))∧Hid (zAp wr gd (List.replicate k 0++ds.drop k))∧w.grownBy wr (some gd)∧wr.heap.size=w.heap.size) (fun i _=>bs.length-(intOf i).toNat)
 case atStart=>exact⟨0,Nat.zero_le _,rfl,by simp[Hid],by simpa [Hid] using hds,zAA _ _,rfl⟩
 case round =>
  obtain⟨k,hk,rfl,HI,HD,hg,hsz⟩:=hrel
  have egc:wr.heap[gc]?=w.heap[gc]?:=hg.block gc cl (by simp;exact hcd)
  have d0:wr.cell? ⟨gc,o,none⟩=some (.slice (some ⟨gb,0,none⟩) bs.length bs.length):=by rw[← c0];simp only[World.cell?,egc]
  have d1:wr.cell? ⟨gc,o+1,none⟩=some (.slice (some ⟨gd,0,none⟩) ds.length ds.length):=by rw[← c1];simp only[World.cell?,egc]
  have df:∀ j,wr.frozen? ⟨gc,j,none⟩=false:=fun j=>by rw[← cf j];simp only[World.frozen?,egc]
  have dl:gc<wr.heap.size:=by omega
  have HB:Hid (zAp wr gb bs):=HBS.out.of_block (hg.block gb HBS.out.lt (by simp;exact hbd))
  have hgd:=HD.out.lt
  have hgb:=HB.out.lt
  have hfd:∀ j,wr.frozen? ⟨gd,j,none⟩=false:=fun j=>HD.out.free j
  by_cases hlt:k<bs.length
  ·have hkd:k<ds.length:=by omega
   have hin:(k:Int)<(bs.length:Int):=by omega
   have hkl:(k:Int)<(ds.length:Int):=by omega
   have hcb':=HB.out.cell k hlt
   have hcd':=HD.out.cell k (by rw[zGz ds k (by omega)];exact hkd)
   rw[zGA ds k hkd] at hcd'
   have hrg:=HDB.out ds[k] (List.getElem_mem hkd)
   have HST:=zAa (zGZ bs ds k hlt hkd)
   have HS1:=zAa (HD.out.set k (ds[k]+1))
   have HS0:=zAa ((HD.out.set k (ds[k]+1)).set k 0)
   have eS1:(List.replicate k (0:Int)++ds.drop k).set k (ds[k]+1)=List.replicate k 0++(ds[k]+1)::ds.drop (k+1):=zEt ds k hkd _
   have eS0:((List.replicate k (0:Int)++ds.drop k).set k (ds[k]+1)).set k 0=List.replicate (k+1) 0++ds.drop (k+1):=by rw[List.set_set];exact zFT ds k hkd
   rw[eS1] at HS1
   rw[eS0] at HS0
   clear eS1 eS0
   generalize ds[k]=d at *
   generalize bs[k]=b at *
   by_cases hb:d+1<b
   ·have HE:Hid (Q.inc bs ds=(List.replicate k 0++(d+1)::ds.drop (k+1),true)):=by unfold Hid;rw[HI.out,HST.out,if_pos hb]
    go_wp2
    go_ret
    rw[HE.out];exact⟨rfl,HS1.out,zAj hg _ _,by simpa using hsz⟩
   ·have HN:Hid (Q.inc bs ds=(List.replicate (k+1) 0++(Q.inc (bs.drop (k+1)) (ds.drop (k+1))).1,(Q.inc (bs.drop (k+1)) (ds.drop (k+1))).2)):=by
     unfold Hid;rw[HI.out,HST.out,if_neg hb,List.replicate_succ',List.append_assoc];rfl
    go_wp2
    go_roundw
    case rel=>exact⟨k+1,by omega,by go_num,HN,HS0,zAj (zAj hg _ _) _ _,by simpa using hsz⟩
    case measure=>simp[intOf];omega
  ·have hkn:k=bs.length:=by omega
   have HE:Hid (Q.inc bs ds=(List.replicate k 0++ds.drop k,false)):=by
    have e0:bs.drop k=[]:=List.drop_eq_nil_of_le (by omega)
    unfold Hid;rw[HI.out,e0];simp[Q.inc]
   go_wp2
   go_ret
   rw[HE.out];exact⟨rfl,HD.out,hg,hsz⟩
end Go.Proofs.YtkmebkbpfmoeaaaGreat
namespace Go.Proofs.YtkmebkbpfmoeaaaGreat
namespace Q
structure Mach where
 thread:Int
 block:Int
 unread:Nat
 regs:List Int
 made:List Nat
 asked:Nat
 bars:Nat
 events:List Ev
def Mach.start (t b:Int) (u:Nat):Mach:=⟨t,b,u,[0,0,0,0],[0,0,0,0],0,0,[]⟩
def Mach.value (m:Mach) (a:P.Opd):Int:=if a.reg then (if a.n<0∨4≤a.n then 0 else m.regs.getD a.n.toNat 0) else a.n
def Mach.madeOf (m:Mach) (a:P.Opd):Nat:=if a.reg then (if a.n<0∨4≤a.n then 0 else m.made.getD a.n.toNat 0) else 0
def Mach.valueOf (m:Mach) (i:Nat):Int:=(m.events.getD i Ev.zero).value
def Mach.give (m:Mach) (d v:Int) (s:Nat):Mach:=if d<0∨4≤d then m else { m with regs:=m.regs.set d.toNat v,made:=m.made.set d.toNat s }
def Mach.giveRead (m:Mach) (d:Int) (r:Nat):Mach:=m.give d (m.valueOf r) (one r)
def Mach.put (m:Mach) (e:Ev):Mach:={ m with events:=m.events++[e] }
def Mach.event (m:Mach) (kind:Int) (st:P.Stm):Ev :=
 ⟨kind,m.thread,m.block,st.var,0,st.order,st.scope,if kind==3||kind==4 then m.bars else 0,(kind==0||kind==1)&&(st.kind==2||st.kind==3),if kind==0||kind==1 then m.asked else 0⟩
def Mach.read (m:Mach) (st:P.Stm):Mach:={ m with unread:=m.unread / 4,events:=m.events++[{ m.event 0 st with value:=(m.unread % 4:Nat) }] }
def Mach.write (m:Mach) (st:P.Stm) (v:Int) (s:Nat):Mach:=m.put { m.event 1 st with value:=v,hangs:=m.asked ||| s }
def Mach.store (m:Mach) (st:P.Stm):Mach:=m.write st (m.value st.a) (m.madeOf st.a)
def Mach.barrier (m:Mach) (st:P.Stm):Mach:={ m with events:=m.events++[m.event 3 st,m.event 4 st],bars:=m.bars+1 }
def Mach.step (m:Mach) (st:P.Stm):Mach :=
 (if st.kind==2 then (m.read st).write st ((m.value st.a+(m.read st).valueOf m.events.length) % 4) (m.madeOf st.a ||| one (m.events.length:Nat)) else (m.read st).write st (m.value st.a) (m.madeOf st.a)).giveRead st.dest m.events.length
def Mach.result (m:Mach) (st:P.Stm):Int :=
 if st.kind==7 then (m.value st.a+m.value st.b) % 4 else if st.kind==8 then (m.value st.a+4-m.value st.b) % 4 else if st.kind==9 then (if m.value st.a==m.value st.b then 1 else 0) else m.value st.a
def Mach.doIt (m:Mach) (st:P.Stm):Mach :=
 if st.kind==0 then (m.read st).giveRead st.dest m.events.length
 else if st.kind==1 then m.store st
 else if st.kind==2||st.kind==3 then m.step st
 else if st.kind==4 then m.put (m.event 2 st)
 else if st.kind==5 then m.barrier st
 else if st.kind==6||st.kind==7||st.kind==8||st.kind==9 then m.give st.dest (m.result st) (m.madeOf st.a ||| m.madeOf st.b)
 else m
def Mach.ask (m:Mach) (st:P.Stm):Mach:={ m with asked:=m.asked ||| m.madeOf st.a }
def carry (p:Mach × Nat) (st:P.Stm):Mach × Nat :=
 if p.2==0 then (if st.kind==10 then (p.1.ask st,if p.1.value st.a==0 then 1 else 0) else (p.1.doIt st,0))
 else if st.kind==10 then (p.1,p.2+1) else if st.kind==11 then (p.1,p.2-1) else p
def zJB (m:Mach) (ss:List P.Stm):Mach:=(ss.foldl carry (m,0)).1
structure Run where
 events:List Ev
 regs:List Int
def Mach.run (m:Mach):Run:=⟨m.events,m.regs⟩
def codes (ss:List P.Stm):Nat:=ss.foldl (fun c st=>if P.reads st.kind then c*4 else c) 1
def runAt (t:P.Thr) (i:Nat) (code:Nat):Mach:=zJB (Mach.start i t.block code) t.stmts
def zIU (t:P.Thr) (i:Nat) (k:Nat):List Run:=((List.range k).filter fun c=>(runAt t i c).unread==0).map fun c=>(runAt t i c).run
def zJS (t:P.Thr) (i:Nat):List Run:=zIU t i (codes t.stmts)
def runsFrom (i:Nat):List P.Thr→List (List Run)
 | []=>[]
 | t::ts=>zJS t i::runsFrom (i+1) ts
def runs (ts:List P.Thr):List (List Run):=runsFrom 0 ts
structure Wd where
 events:List Ev
 regs:List Int
def zJh (n:Nat) (e:Ev):Ev:={ e with hangs:=moved e.hangs n }
def Wd.join (w:Wd) (r:Run):Wd:=⟨w.events++r.events.map (zJh w.events.length),w.regs++r.regs⟩
def zIF (v:Int):Ev:=⟨1, -1,0,v,0,0,0,0,false,0⟩
def zIR:List Ev:=[zIF 0,zIF 1,zIF 2]
def zKn:Wd→List (List Run)→List Int→Wd
 | w,rs::rest,d::ds=>zKn (if h:d.toNat<rs.length then w.join rs[d.toNat] else w) rest ds
 | w,_,_=>w
def zIl (rss:List (List Run)) (ds:List Int):Wd:=zKn ⟨zIR,[]⟩ rss ds
def zIE:List Int→List (List Int)
 | []=>[[]]
 | b::bs=>(zIE bs).flatMap fun r=>(List.range b.toNat).map fun d:Nat=>(d:Int)::r
def ev (es:List Ev) (i:Nat):Ev:=es.getD i Ev.zero
def mayR (es:List Ev) (i k:Nat):Bool:=(ev es k).kind==1&&(ev es k).var==(ev es i).var&&(ev es k).value==(ev es i).value&&!((ev es i).step&&k==i+1)
def zJk (es:List Ev) (i:Nat):List Int:=if (ev es i).kind==0 then ((List.range es.length).filter (mayR es i)).map (fun k:Nat=>(k:Int)) else [-1]
def zIk (es:List Ev):List (List Int):=(List.range es.length).map (zJk es)
def lens (cs:List (List Int)):List Int:=cs.map fun c=>(c.length:Int)
def zJl (cs:List (List Int)) (ds:List Int):List Int:=(List.range cs.length).map fun i=>(cs.getD i []).getD (ds.getD i 0).toNat (-1)
def zIj (es:List Ev):List Int:=es.map fun e=>if e.kind==1 then e.var else -1
def fenceRows (es:List Ev):List Int:=es.map fun e=>if isSC e then 0 else -1
def ordB (es:List Ev) (rs:List Int) (i k:Nat):Bool:=rs.getD i (-1) != -1&&rs.getD k (-1)==rs.getD i (-1)&&(ev es k).thread != -1
def zIS (es:List Ev) (rs:List Int) (i:Nat):Int:=1+(((List.range i).filter (ordB es rs i)).length:Nat)
def zIp (es:List Ev) (rs:List Int):List Int:=(List.range rs.length).map (zIS es rs)
def zJT (rs:List Int) (i:Nat):Int:=(((List.range i).filter fun k=>rs.getD k (-1)==rs.getD i (-1)).length:Nat)
def zJI (rs:List Int) (i:Nat) (p:List Int) (k:Nat):List Int:=if rs.getD k (-1)==rs.getD i (-1)&&decide (p.getD i 0≤p.getD k 0) then p.set k (p.getD k 0+1) else p
def zJx (rs ds:List Int) (p:List Int) (i:Nat):List Int:=if rs.getD i (-1) == -1 then p.set i (-1) else (List.range i).foldl (zJI rs i) (p.set i (zJT rs i-ds.getD i 0))
def zIv (rs ds:List Int):List Int:=(List.range rs.length).foldl (zJx rs ds) (List.replicate rs.length 0)
def lastF (v:Int) (ps:List Int) (es:List Ev) (a:Int × Int) (i:Nat):Int × Int:=if (ev es i).kind==1&&(ev es i).var==v&&decide (a.2<ps.getD i 0) then ((ev es i).value,ps.getD i 0) else a
def lastV (es:List Ev) (v:Int) (ps:List Int):Int:=((List.range es.length).foldl (lastF v ps es) (0, -1)).1
def zJJ (w:Wd) (ps:List Int):List Int:=w.regs++[lastV w.events 0 ps,lastV w.events 1 ps,lastV w.events 2 ps]
def cmp:List Int→List Int→Int
 | [],b=>- (b.length:Int)
 | _::_,[]=>1
 | a::x,b::y=>if a != b then a-b else cmp x y
def ins:List (List Int)→List Int→List (List Int)
 | [],r=>[r]
 | x::xs,r=>if cmp x r<0 then x::ins xs r else if cmp x r==0 then x::xs else r::x::xs
structure Facts where
 events:List Ev
 ahead:List Nat
 strong:List Nat
 gathers:List Nat
 fences:List Nat
 rows:List Nat
 hangs:List Nat
 halves:List Nat
 sends:List Nat
 takes:List Nat
def addIf (c:Bool) (r:List Nat) (i k:Nat):List Nat:=if c then addR r (i:Int) (k:Int) else r
def isRow (i:Nat) (a:Ev) (k:Nat) (b:Ev):Bool:=zIo i a k b&&zIY a&&zIY b&&a.var==b.var
def zIs (i:Nat) (a:Ev) (k:Nat) (b:Ev):Bool:=i != k&&strong a b
def zIq (i:Nat) (a:Ev) (k:Nat) (b:Ev):Bool:=i != k&&strong a b&&isSC a&&isSC b
def zIV (i:Nat) (a:Ev) (k:Nat):Bool:=a.kind==1&&a.step&&k+1==i
def zJy (i:Nat) (a:Ev) (k:Nat) (b:Ev):Bool:=(i==k&&(a.kind==1&&P.rel a.order))||(zIo i a k b&&a.kind==2&&b.kind==1)
def zKq (i:Nat) (a:Ev) (k:Nat) (b:Ev):Bool:=(i==k&&(a.kind==0&&P.acq a.order))||(zIo i a k b&&a.kind==0&&b.kind==2)
def Facts.pair (f:Facts) (i:Nat) (a:Ev) (k:Nat) (b:Ev):Facts :=
 { f with ahead:=addIf (zIo i a k b) f.ahead i k,rows:=addIf (isRow i a k b) f.rows i k,strong:=addIf (zIs i a k b) f.strong i k,fences:=addIf (zIq i a k b) f.fences i k,gathers:=addIf (zIA a b) f.gathers i k,hangs:=addIf (hasS a.hangs (k:Nat)) f.hangs i k,halves:=addIf (zIV i a k) f.halves i k,sends:=addIf (zJy i a k b) f.sends i k,takes:=addIf (zKq i a k b) f.takes i k }
def Facts.new (es:List Ev):Facts:=⟨es,newR es.length,newR es.length,newR es.length,newR es.length,newR es.length,newR es.length,newR es.length,newR es.length,newR es.length⟩
def zJe (es:List Ev) (f:Facts) (i:Nat):Facts:=(List.range es.length).foldl (fun f k=>f.pair i (ev es i) k (ev es k)) f
def zIx (es:List Ev):Facts:=(List.range es.length).foldl (zJe es) (Facts.new es)
def Facts.reads (f:Facts) (rs:List Int):List Nat:=(List.range rs.length).foldl (fun (r:List Nat) (i:Nat)=>addR r (i:Int) (rs.getD i (-1))) (newR f.events.length)
def Facts.hangsOn (f:Facts) (rd:List Nat):Bool:=zJY (orR f.hangs rd)
def Facts.straight (f:Facts) (rd:List Nat):List Nat:=andR rd f.strong
def Facts.sees (f:Facts) (rd:List Nat):List Nat:=orR (f.straight rd) (thenR (zJj (thenR (f.straight rd) f.halves)) (f.straight rd))
def zJz (es:List Ev) (sees:List Nat) (r:Nat) (h:List Nat) (w:Nat):List Nat:=if hasR sees r w&&(ev es r).order != 0&&(ev es w).order != 0 then addR h w r else h
def zKh (es:List Ev) (sees:List Nat) (h:List Nat) (r:Nat):List Nat:=(List.range es.length).foldl (zJz es sees r) h
def heard (es:List Ev) (sees:List Nat):List Nat:=(List.range es.length).foldl (zKh es sees) (newR es.length)
def Facts.tells (f:Facts) (sees:List Nat):List Nat:=andR (thenR (thenR f.sends (heard f.events sees)) f.takes) f.strong
def zKB (es:List Ev) (ps:List Int) (i k:Nat):Bool:=(ev es i).kind==1&&(ev es k).kind==1&&(ev es i).var==(ev es k).var&&decide (ps.getD i 0<ps.getD k 0)
def zIZ (es:List Ev) (ps:List Int) (i:Nat) (b:List Nat) (k:Nat):List Nat:=addIf (zKB es ps i k) b i k
def zJK (es:List Ev) (ps:List Int) (b:List Nat) (i:Nat):List Nat:=(List.range es.length).foldl (zIZ es ps i) b
def zIB (es:List Ev) (ps:List Int):List Nat:=(List.range es.length).foldl (zJK es ps) (newR es.length)
def fbK (f:List Nat) (ps:List Int) (i:Nat) (b:List Nat) (k:Nat):List Nat:=addIf (hasR f i k&&decide (ps.getD i 0<ps.getD k 0)) b i k
def fbI (f:List Nat) (ps:List Int) (b:List Nat) (i:Nat):List Nat:=(List.range ps.length).foldl (fbK f ps i) b
def Facts.fencesBehind (f:Facts) (ps:List Int):List Nat:=(List.range ps.length).foldl (fbI f.fences ps) (newR f.events.length)
def zJa (rd bh ms:List Nat):List Nat:=orR (orR (zJG rd) bh) ms
def Facts.splits (f:Facts) (ms bh:List Nat):Bool:=zIK (thenR (thenR f.halves ms) bh)
def Facts.mayClash (f:Facts) (i:Nat) (a:Ev) (k:Nat) (b:Ev):Bool:=a.kind==1&&i != k&&!hasR f.strong i k&&a.var==b.var&&zIY b
def Facts.clashAt (f:Facts) (bf:List Nat) (i k:Nat):Bool:=f.mayClash i (ev f.events i) k (ev f.events k)&&!hasR bf i k&&!hasR bf k i
def Facts.clashes (f:Facts) (bf:List Nat):Bool:=(List.range f.events.length).any fun i=>(List.range f.events.length).any fun k=>f.clashAt bf i k
def Facts.before (f:Facts) (rd:List Nat):List Nat:=zJj (orR (orR f.ahead (f.tells (f.sees rd))) f.gathers)
def Facts.fencesCircle (f:Facts) (bf lk:List Nat):Bool:=zJY (andR (orR bf (thenR (thenR bf lk) bf)) f.fences)
def linked (rd bh:List Nat):List Nat:=zJj (zJa rd bh (thenR rd bh))
def Facts.mayBe (f:Facts) (rd bf:List Nat) (ps:List Int):Bool :=
 if zIK bf then false else if f.splits (thenR rd (zIB f.events ps)) (zIB f.events ps) then false else if zIK (thenR bf (linked rd (zIB f.events ps))) then false else !f.fencesCircle bf (linked rd (zIB f.events ps))
structure Ans where
 rows:List (List Int)
 clash:Bool
def zIG (w:Wd) (f:Facts) (rd bf:List Nat) (a:Ans) (ds:List Int):Ans :=
 if f.mayBe rd bf (zIv (zIj w.events) ds) then ⟨ins a.rows (zJJ w (zIv (zIj w.events) ds)),if a.clash then true else f.clashes bf⟩ else a
def zJp (w:Wd) (f:Facts) (rd bf:List Nat) (a:Ans):Ans:=(zIE (zIp w.events (zIj w.events))).foldl (zIG w f rd bf) a
structure Cand where
 wd:Wd
 facts:Facts
 reads:List Nat
def candsIn (w:Wd) (f:Facts):List Cand :=
 ((zIE (lens (zIk w.events))).map fun ds=>Cand.mk w f (f.reads (zJl (zIk w.events) ds))).filter fun c=>!c.facts.hangsOn c.reads
def cands (ts:List P.Thr):List Cand:=(zIE ((runs ts).map fun r=>(r.length:Int))).flatMap fun ds=>candsIn (zIl (runs ts) ds) (zIx (zIl (runs ts) ds).events)
def zJb (a:Ans) (c:Cand):Ans:=zJp c.wd c.facts c.reads (c.facts.before c.reads) a
def zIC (ts:List P.Thr):Ans:=(cands ts).foldl zJb ⟨[],false⟩
def baseOf (ahead links:List Nat):List Nat:=zJj (orR (orR links (thenR links ahead)) (thenR ahead (orR links (thenR links ahead))))
def Facts.cause (f:Facts) (sees links:List Nat):List Nat:=orR (orR (baseOf f.ahead links) f.ahead) (thenR (zJG sees) (baseOf f.ahead links))
def mayCause (rd cause fences:List Nat):Bool:=if zIK cause||zIK (thenR fences cause) then false else !leadsR (andR rd cause)
def Facts.mayStand (f:Facts) (rd bh ms:List Nat):Bool:=if f.splits ms bh then false else !zJY (orR f.rows (andR (zJa rd bh ms) f.strong))
def agrees (cause bh ms:List Nat):Bool:=!zIK (thenR (orR bh ms) cause)
def Facts.links (f:Facts) (rd:List Nat):List Nat:=orR (f.tells (f.sees rd)) f.gathers
def Facts.causeAt (f:Facts) (rd:List Nat) (w:Wd) (ds:List Int):List Nat:=f.cause (f.sees rd) (orR (f.links rd) (f.fencesBehind (zIv (fenceRows w.events) ds)))
def Facts.causes (f:Facts) (rd:List Nat) (w:Wd):List (List Nat) :=
 ((zIE (zIp w.events (fenceRows w.events))).filter fun ds=>mayCause rd (f.causeAt rd w ds) (f.fencesBehind (zIv (fenceRows w.events) ds))).map (f.causeAt rd w)
def tgtTake (o:List Int) (f:Facts) (bh ms:List Nat) (a:Ans) (cause:List Nat):Ans:=if agrees cause bh ms then ⟨ins a.rows o,if a.clash then true else f.clashes cause⟩ else a
def tgtOrder (w:Wd) (f:Facts) (rd:List Nat) (cs:List (List Nat)) (a:Ans) (ds:List Int):Ans :=
 if f.mayStand rd (zIB f.events (zIv (zIj w.events) ds)) (thenR rd (zIB f.events (zIv (zIj w.events) ds))) then
  cs.foldl (tgtTake (zJJ w (zIv (zIj w.events) ds)) f (zIB f.events (zIv (zIj w.events) ds)) (thenR rd (zIB f.events (zIv (zIj w.events) ds)))) a
 else a
def tgtOrders (w:Wd) (f:Facts) (rd:List Nat) (cs:List (List Nat)) (a:Ans):Ans:=(zIE (zIp w.events (zIj w.events))).foldl (tgtOrder w f rd cs) a
def tgtCand (a:Ans) (c:Cand):Ans:=if (c.facts.causes c.reads c.wd).isEmpty then a else tgtOrders c.wd c.facts c.reads (c.facts.causes c.reads c.wd) a
def target (ts:List P.Thr):Ans:=(cands ts).foldl tgtCand ⟨[],false⟩
end Q
namespace Q
def afterD:List Int→List Int→List (List Int)
 | b::bs,d::ds=>((List.range (b.toNat-(d.toNat+1))).map fun x:Nat=>((d.toNat+1+x:Nat):Int)::ds)++(afterD bs ds).flatMap fun r=>(List.range b.toNat).map fun x:Nat=>(x:Int)::r
 | _,_=>[]
def zeros (n:Nat):List Int:=List.replicate n 0
def DigOk:List Int→List Int→Prop
 | [],[]=>True
 | b::bs,d::ds=>0≤d∧d<b∧DigOk bs ds
 | _,_=>False
theorem DigOk.len:∀ {bs ds:List Int},DigOk bs ds→ds.length=bs.length
 | [],[],_=>rfl
 | [],_::_,h=>h.elim
 | _::_,[],h=>h.elim
 | b::bs,d::ds,h=>by simp[DigOk.len h.2.2]
theorem DigOk.rng:∀ {bs ds:List Int},DigOk bs ds→∀ i (h:i<ds.length),0≤ds[i]∧ds[i]<bs.getD i 0
 | [],[],_,i,hi=>by simp at hi
 | [],_::_,h,_,_=>h.elim
 | _::_,[],h,_,_=>h.elim
 | b::bs,d::ds,h,0,_=>⟨h.1,h.2.1⟩
 | b::bs,d::ds,h,i+1,hi=>by
  have:=DigOk.rng h.2.2 i (by simpa using hi)
  simpa using this
theorem digOk_zeros:∀ {bs:List Int},someB bs=true→DigOk bs (zeros bs.length)
 | [],_=>trivial
 | b::bs,h=>by
  simp[someB] at h
  have h2:someB bs=true:=by simp[someB];exact h.2
  exact⟨Int.le_refl _,by omega,digOk_zeros h2⟩
theorem digOk_inc:∀ {bs ds:List Int},DigOk bs ds→(inc bs ds).2=true→DigOk bs (inc bs ds).1
 | [],[],_,h=>by simp[inc] at h
 | [],_::_,h,_=>h.elim
 | _::_,[],h,_=>h.elim
 | b::bs,d::ds,h,k=>by
  have h0:=h.1
  have h1:=h.2.1
  rw[inc] at k ⊢
  split
  ·exact⟨by omega,by omega,h.2.2⟩
  ·rename_i hn
   rw[if_neg hn] at k
   exact⟨Int.le_refl _,by omega,digOk_inc h.2.2 k⟩
theorem range_head (n:Nat) (h:0<n):List.range n=0::(List.range (n-1)).map (fun x=>1+x):=by
 obtain⟨k,rfl⟩:∃ k,n=k+1:=⟨n-1,by omega⟩
 rw[List.range_succ_eq_map]
 simp[Nat.add_comm]
theorem digits_head (n:Nat) (h:0<n) (r:List Int):(List.range n).map (fun x:Nat=>(x:Int)::r)=(0::r)::(List.range (n-1)).map fun x:Nat=>((0+1+x:Nat):Int)::r:=by
 rw[range_head n h];simp
theorem digits_first:∀ {bs:List Int},someB bs=true→zIE bs=zeros bs.length::afterD bs (zeros bs.length)
 | [],_=>rfl
 | b::bs,h=>by
  simp[someB] at h
  have h2:someB bs=true:=by simp[someB];exact h.2
  rw[zIE,digits_first h2,List.flatMap_cons,digits_head _ (by omega)]
  simp[zeros,List.replicate_succ,afterD]
theorem digits_none:∀ {bs:List Int},someB bs=false→zIE bs=[]
 | [],h=>by simp[someB] at h
 | b::bs,h=>by
  rw[zIE]
  by_cases hb:1≤b
  ·have h2:someB bs=false:=by
    have:someB (b::bs)=(decide (1≤b)&&someB bs):=rfl
    rw[this,decide_eq_true hb] at h;simpa using h
   rw[digits_none h2];rfl
  ·have:b.toNat=0:=by omega
   rw[this];simp
theorem after_step:∀ {bs ds:List Int},DigOk bs ds→(inc bs ds).2=true→afterD bs ds=(inc bs ds).1::afterD bs (inc bs ds).1
 | [],[],_,h=>by simp[inc] at h
 | [],_::_,h,_=>h.elim
 | _::_,[],h,_=>h.elim
 | b::bs,d::ds,h,k=>by
  have h0:=h.1
  have h1:=h.2.1
  by_cases hlt:d+1<b
  ·have e:inc (b::bs) (d::ds)=((d+1)::ds,true):=by rw[inc,if_pos hlt]
   rw[e]
   simp only[afterD]
   rw[range_head (b.toNat-(d.toNat+1)) (by omega)]
   have e1:(d+1).toNat=d.toNat+1:=by omega
   simp only[List.map_cons,List.map_map,List.cons_append,e1]
   have e2:(((d.toNat+1+0:Nat)):Int)=d+1:=by omega
   rw[e2]
   congr 2
   rw[show b.toNat-(d.toNat+1+1)=b.toNat-(d.toNat+1)-1 by omega]
   apply List.map_congr_left
   intro x _
   simp only[Function.comp]
   rw[show d.toNat+1+(1+x)=d.toNat+1+1+x by omega]
  ·have e:inc (b::bs) (d::ds)=(0::(inc bs ds).1,(inc bs ds).2):=by rw[inc,if_neg hlt]
   rw[e] at k ⊢
   have ih:=after_step h.2.2 k
   have e0:b.toNat-(d.toNat+1)=0:=by omega
   simp only[afterD,e0,ih,List.flatMap_cons]
   rw[digits_head b.toNat (by omega)]
   simp
theorem after_none:∀ {bs ds:List Int},DigOk bs ds→(inc bs ds).2=false→afterD bs ds=[]
 | [],[],_,_=>rfl
 | [],_::_,h,_=>h.elim
 | _::_,[],h,_=>h.elim
 | b::bs,d::ds,h,k=>by
  have h0:=h.1
  have h1:=h.2.1
  by_cases hlt:d+1<b
  ·rw[inc,if_pos hlt] at k;simp at k
  ·rw[inc,if_neg hlt] at k
   have ih:=after_none h.2.2 k
   have e0:b.toNat-(d.toNat+1)=0:=by omega
   simp[afterD,e0,ih]
end Q
end Go.Proofs.YtkmebkbpfmoeaaaGreat
