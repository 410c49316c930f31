import Derived.Test.YtkmebkbpfmoeaaaGreatH13
import Derived.Test.YtkmebkbpfmoeaaaGreatH09
set_option linter.unusedVariables false
set_option linter.unusedSimpArgs false
set_option maxHeartbeats 12800000
namespace Go.Proofs.YtkmebkbpfmoeaaaGreat
namespace Q
theorem fold_proj {α β γ:Type} (g:α→β) (F:α→γ→α) (G:β→γ→β) (h:∀ a x,g (F a x)=G (g a) x):∀ (l:List γ) (a:α),g (l.foldl F a)=l.foldl G (g a)
 | [],a=>rfl
 | x::l,a=>by rw[List.foldl_cons,List.foldl_cons,fold_proj g F G h l,h]
theorem facts_field {es:List Ev} (hn:es.length≤64) (g:Facts→List Nat) (c:Nat→Nat→Bool) (h:∀ f i k,g (f.pair i (ev es i) k (ev es k))=if c i k=true then addR (g f) (i:Int) (k:Int) else g f) (h0:g (Facts.new es)=newR es.length) :
  Rel es.length (g (zIx es))∧∀ a b,Bit (g (zIx es)) a b ↔ a<es.length∧b<es.length∧c a b=true:=by
 unfold zIx
 rw[fold_proj g (zJe es) (fun r i=>(List.range es.length).foldl (fun r k=>if c i k=true then addR r (i:Int) (k:Int) else r) r) (fun f i=>fold_proj g _ _ (fun f k=>h f i k) _ _),h0]
 exact build_bit hn c _ (fun r i=>rfl)
theorem fold_same {α β γ:Type} (g:α→β) (F:α→γ→α) (h:∀ a x,g (F a x)=g a):∀ (l:List γ) (a:α),g (l.foldl F a)=g a
 | [],a=>rfl
 | x::l,a=>by rw[List.foldl_cons,fold_same g F h l,h]
theorem factsOf_ev (es:List Ev):(zIx es).events=es:=by
 unfold zIx
 exact fold_same (fun f:Facts=>f.events) (zJe es) (fun f i=>fold_same (fun f:Facts=>f.events) (fun (f:Facts) (k:Nat)=>f.pair i (ev es i) k (ev es k)) (fun f k=>rfl) (List.range es.length) f) _ _
theorem f_ahead {es:List Ev} (hn:es.length≤64):Rel es.length (zIx es).ahead∧∀ i k:Nat,Bit (zIx es).ahead i k ↔ i<es.length∧k<es.length∧zIo i (ev es i) k (ev es k)=true :=
 facts_field hn Facts.ahead (fun i k=>zIo i (ev es i) k (ev es k)) (fun _ _ _=>rfl) rfl
theorem f_strong {es:List Ev} (hn:es.length≤64):Rel es.length (zIx es).strong∧∀ i k:Nat,Bit (zIx es).strong i k ↔ i<es.length∧k<es.length∧zIs i (ev es i) k (ev es k)=true :=
 facts_field hn Facts.strong (fun i k=>zIs i (ev es i) k (ev es k)) (fun _ _ _=>rfl) rfl
theorem f_gathers {es:List Ev} (hn:es.length≤64):Rel es.length (zIx es).gathers∧∀ i k:Nat,Bit (zIx es).gathers i k ↔ i<es.length∧k<es.length∧zIA (ev es i) (ev es k)=true :=
 facts_field hn Facts.gathers (fun i k=>zIA (ev es i) (ev es k)) (fun _ _ _=>rfl) rfl
theorem f_fences {es:List Ev} (hn:es.length≤64):Rel es.length (zIx es).fences∧∀ i k:Nat,Bit (zIx es).fences i k ↔ i<es.length∧k<es.length∧zIq i (ev es i) k (ev es k)=true :=
 facts_field hn Facts.fences (fun i k=>zIq i (ev es i) k (ev es k)) (fun _ _ _=>rfl) rfl
theorem f_hangs {es:List Ev} (hn:es.length≤64):Rel es.length (zIx es).hangs∧∀ i k:Nat,Bit (zIx es).hangs i k ↔ i<es.length∧k<es.length∧hasS (ev es i).hangs (k:Int)=true :=
 facts_field hn Facts.hangs (fun i k=>hasS (ev es i).hangs (k:Int)) (fun _ _ _=>rfl) rfl
theorem f_halves {es:List Ev} (hn:es.length≤64):Rel es.length (zIx es).halves∧∀ i k:Nat,Bit (zIx es).halves i k ↔ i<es.length∧k<es.length∧zIV i (ev es i) k=true :=
 facts_field hn Facts.halves (fun i k=>zIV i (ev es i) k) (fun _ _ _=>rfl) rfl
theorem f_sends {es:List Ev} (hn:es.length≤64):Rel es.length (zIx es).sends∧∀ i k:Nat,Bit (zIx es).sends i k ↔ i<es.length∧k<es.length∧zJy i (ev es i) k (ev es k)=true :=
 facts_field hn Facts.sends (fun i k=>zJy i (ev es i) k (ev es k)) (fun _ _ _=>rfl) rfl
theorem f_takes {es:List Ev} (hn:es.length≤64):Rel es.length (zIx es).takes∧∀ i k:Nat,Bit (zIx es).takes i k ↔ i<es.length∧k<es.length∧zKq i (ev es i) k (ev es k)=true :=
 facts_field hn Facts.takes (fun i k=>zKq i (ev es i) k (ev es k)) (fun _ _ _=>rfl) rfl
theorem behind_rb {es:List Ev} (hn:es.length≤64) (ps:List Int):Rel es.length (zIB es ps)∧∀ a b,Bit (zIB es ps) a b ↔ a<es.length∧b<es.length∧zKB es ps a b=true :=
 build_bit hn (zKB es ps) _ (fun r i=>rfl)
theorem heard_rb {es:List Ev} (hn:es.length≤64) {sees:List Nat} (hs:Rel es.length sees):Rel es.length (heard es sees)∧∀ a b,Bit (heard es sees) a b ↔ Bit sees b a∧((ev es b).order≠0∧(ev es a).order≠0):=by
 have h:=buildT_bit hn (fun r w=>hasR sees (r:Int) (w:Int)&&(ev es r).order != 0&&(ev es w).order != 0) (zKh es sees) (fun r i=>rfl)
 refine⟨h.1,fun a b=>?_⟩
 have h2:=h.2 a b
 rw[show (heard es sees)=(List.range es.length).foldl (zKh es sees) (newR es.length) from rfl,h2]
 simp only[Bool.and_eq_true,bne_iff_ne,ne_eq]
 constructor
 ·rintro ⟨h1,h2,⟨h3,h4⟩,h5⟩;exact⟨(hasR_bit _ _ _ (by omega)).1 h3,h4,h5⟩
 ·rintro ⟨h1,h2,h3⟩
  have h4:=hs.lt _ _ h1
  have h5:=h1.left
  exact⟨h4,by rw[← hs.len];exact h5,⟨(hasR_bit _ _ _ (by omega)).2 h1,h2⟩,h3⟩
theorem reads_rb {es:List Ev} (hn:es.length≤64) {rs:List Int} (hr:rs.length=es.length):Rel es.length ((zIx es).reads rs)∧∀ a b,Bit ((zIx es).reads rs) a b ↔ b<es.length∧a<es.length∧rs.getD a (-1)=(b:Int):=by
 have h:=fold_bit (n:=es.length) (fun (r:List Nat) (i:Nat)=>addR r (i:Int) (rs.getD i (-1))) (fun i a b=>a=i∧b<es.length∧rs.getD a (-1)=(b:Int)) (List.range rs.length) (fun r i hi hl=>by
  have hi':i<es.length:=by rw[← hr];exact List.mem_range.1 hi
  refine⟨by rw[zIL];exact hl,fun a b=>?_⟩
  by_cases hlt:rs.getD i (-1)<es.length
  ·by_cases h0:0≤rs.getD i (-1)
   ·have e:rs.getD i (-1)=((rs.getD i (-1)).toNat:Int):=by omega
    rw[e,add_bit hn hl i _ hi' (by omega)]
    constructor
    ·rintro (h1 | ⟨h1,h2⟩)
     ·exact Or.inl h1
     ·exact Or.inr ⟨h1,by omega,by rw[h1];omega⟩
    ·rintro (h1 | ⟨h1,h2,h3⟩)
     ·exact Or.inl h1
     ·exact Or.inr ⟨h1,by rw[h1] at h3;omega⟩
   ·have e:addR r (i:Int) (rs.getD i (-1))=r:=by
     unfold addR
     rw[if_neg (by omega)]
     have:one (rs.getD i (-1))=0:=by unfold one;rw[if_pos (by omega)]
     rw[this,Nat.or_zero,Int.toNat_natCast,ofR_get _ _ (by omega)]
     exact List.set_getElem_self (by omega)
    rw[e]
    constructor
    ·exact Or.inl
    ·rintro (h1 | ⟨h1,h2,h3⟩)
     ·exact h1
     ·rw[h1] at h3;omega
  ·have e:addR r (i:Int) (rs.getD i (-1))=r:=by
    unfold addR
    rw[if_pos (by omega)]
   rw[e]
   constructor
   ·exact Or.inl
   ·rintro (h1 | ⟨h1,h2,h3⟩)
    ·exact h1
    ·rw[h1] at h3;omega) (newR es.length) (by simp[newR])
 unfold Facts.reads
 rw[factsOf_ev]
 have k:∀ a b,Bit ((List.range rs.length).foldl (fun (r:List Nat) (i:Nat)=>addR r (i:Int) (rs.getD i (-1))) (newR es.length)) a b ↔ b<es.length∧a<es.length∧rs.getD a (-1)=(b:Int):=fun a b=>by
  rw[h.2]
  constructor
  ·rintro (h1 | ⟨i,hi,rfl,h2,h3⟩)
   ·exact absurd h1 (new_bit _ _ _)
   ·exact⟨h2,by rw[← hr];exact List.mem_range.1 hi,h3⟩
  ·rintro ⟨h1,h2,h3⟩
   exact Or.inr ⟨a,List.mem_range.2 (by rw[hr];exact h2),rfl,h1,h3⟩
 exact⟨⟨h.1,fun a b hb=>((k a b).1 hb).1⟩,k⟩
structure Sys where
 ahead:Nat→Nat→Prop
 strong:Nat→Nat→Prop
 gathers:Nat→Nat→Prop
 fences:Nat→Nat→Prop
 halves:Nat→Nat→Prop
 hangs:Nat→Nat→Prop
 sends:Nat→Nat→Prop
 takes:Nat→Nat→Prop
 rd:Nat→Nat→Prop
 bh:Nat→Nat→Prop
 ord:Nat→Prop
def Th (R S:Nat→Nat→Prop) (a b:Nat):Prop:=∃ c,R a c∧S c b
namespace Sys
def straight (X:Sys) (a b:Nat):Prop:=X.rd a b∧X.strong a b
def sees (X:Sys) (a b:Nat):Prop:=X.straight a b∨Th (TC (Th X.straight X.halves)) X.straight a b
def heard (X:Sys) (a b:Nat):Prop:=X.sees b a∧(X.ord b∧X.ord a)
def tells (X:Sys) (a b:Nat):Prop:=Th (Th X.sends X.heard) X.takes a b∧X.strong a b
def before (X:Sys):Nat→Nat→Prop:=TC (fun a b=>(X.ahead a b∨X.tells a b)∨X.gathers a b)
def misses (X:Sys):Nat→Nat→Prop:=Th X.rd X.bh
def comm (X:Sys) (a b:Nat):Prop:=(X.rd b a∨X.bh a b)∨X.misses a b
def linked (X:Sys):Nat→Nat→Prop:=TC X.comm
structure May (X:Sys):Prop where
 bef:∀ i,¬ X.before i i
 split:∀ i,¬ Th (Th X.halves X.misses) X.bh i i
 link:∀ i,¬ Th X.before X.linked i i
 fence:∀ i,¬ TC (fun a b=>(X.before a b∨Th (Th X.before X.linked) X.before a b)∧X.fences a b) i i
def NoHang (X:Sys):Prop:=∀ i,¬ TC (fun a b=>X.hangs a b∨X.rd a b) i i
structure Hom (f:Nat→Nat) (X Y:Sys):Prop where
 ahead:∀ a b,X.ahead a b→Y.ahead (f a) (f b)
 strong:∀ a b,X.strong a b→Y.strong (f a) (f b)
 gathers:∀ a b,X.gathers a b→Y.gathers (f a) (f b)
 fences:∀ a b,X.fences a b→Y.fences (f a) (f b)
 halves:∀ a b,X.halves a b→Y.halves (f a) (f b)
 hangs:∀ a b,X.hangs a b→Y.hangs (f a) (f b)
 sends:∀ a b,X.sends a b→Y.sends (f a) (f b)
 takes:∀ a b,X.takes a b→Y.takes (f a) (f b)
 rd:∀ a b,X.rd a b→Y.rd (f a) (f b)
 bh:∀ a b,X.bh a b→Y.bh (f a) (f b)
 ord:∀ a,X.ord a→Y.ord (f a)
theorem th_map {f:Nat→Nat} {R S R' S':Nat→Nat→Prop} (h:∀ a b,R a b→R' (f a) (f b)) (k:∀ a b,S a b→S' (f a) (f b)):∀ a b,Th R S a b→Th R' S' (f a) (f b) :=
 fun _ _ ⟨c,h1,h2⟩=>⟨f c,h _ _ h1,k _ _ h2⟩
section
variable {f:Nat→Nat} {X Y:Sys}
theorem Hom.straight (h:Hom f X Y):∀ a b,X.straight a b→Y.straight (f a) (f b):=fun a b k=>⟨h.rd _ _ k.1,h.strong _ _ k.2⟩
theorem Hom.sees (h:Hom f X Y):∀ a b,X.sees a b→Y.sees (f a) (f b):=fun a b k =>
 k.elim (fun k=>Or.inl (h.straight _ _ k)) (fun k=>Or.inr (th_map (fun x y k=>TC.map f (th_map h.straight h.halves) k) h.straight _ _ k))
theorem Hom.heard (h:Hom f X Y):∀ a b,X.heard a b→Y.heard (f a) (f b):=fun a b k=>⟨h.sees _ _ k.1,h.ord _ k.2.1,h.ord _ k.2.2⟩
theorem Hom.tells (h:Hom f X Y):∀ a b,X.tells a b→Y.tells (f a) (f b):=fun a b k=>⟨th_map (th_map h.sends h.heard) h.takes _ _ k.1,h.strong _ _ k.2⟩
theorem Hom.before (h:Hom f X Y):∀ a b,X.before a b→Y.before (f a) (f b):=fun a b k=>TC.map f (fun x y k=>by
 rcases k with (k | k) | k
 ·exact Or.inl (Or.inl (h.ahead _ _ k))
 ·exact Or.inl (Or.inr (h.tells _ _ k))
 ·exact Or.inr (h.gathers _ _ k)) k
theorem Hom.misses (h:Hom f X Y):∀ a b,X.misses a b→Y.misses (f a) (f b):=th_map h.rd h.bh
theorem Hom.linked (h:Hom f X Y):∀ a b,X.linked a b→Y.linked (f a) (f b):=fun a b k=>TC.map f (fun x y k=>by
 rcases k with (k | k) | k
 ·exact Or.inl (Or.inl (h.rd _ _ k))
 ·exact Or.inl (Or.inr (h.bh _ _ k))
 ·exact Or.inr (h.misses _ _ k)) k
theorem Hom.may (h:Hom f X Y) (m:Y.May):X.May where
 bef i k:=m.bef _ (h.before _ _ k)
 split i k:=m.split _ (th_map (th_map h.halves h.misses) h.bh _ _ k)
 link i k:=m.link _ (th_map h.before h.linked _ _ k)
 fence i k:=m.fence _ (TC.map f (fun a b k=>⟨k.1.elim (fun k=>Or.inl (h.before _ _ k)) (fun k=>Or.inr (th_map (th_map h.before h.linked) h.before _ _ k)),h.fences _ _ k.2⟩) k)
theorem Hom.noHang (h:Hom f X Y) (m:Y.NoHang):X.NoHang:=fun i k=>m _ (TC.map f (fun a b k=>k.elim (fun k=>Or.inl (h.hangs _ _ k)) (fun k=>Or.inr (h.rd _ _ k))) k)
end
end Sys
end Q
namespace Q
def sysOf (es:List Ev) (rs ps:List Int):Sys where
 ahead i k:=i<es.length∧k<es.length∧zIo i (ev es i) k (ev es k)=true
 strong i k:=i<es.length∧k<es.length∧zIs i (ev es i) k (ev es k)=true
 gathers i k:=i<es.length∧k<es.length∧zIA (ev es i) (ev es k)=true
 fences i k:=i<es.length∧k<es.length∧zIq i (ev es i) k (ev es k)=true
 halves i k:=i<es.length∧k<es.length∧zIV i (ev es i) k=true
 hangs i k:=i<es.length∧k<es.length∧hasS (ev es i).hangs (k:Int)=true
 sends i k:=i<es.length∧k<es.length∧zJy i (ev es i) k (ev es k)=true
 takes i k:=i<es.length∧k<es.length∧zKq i (ev es i) k (ev es k)=true
 rd i k:=k<es.length∧i<es.length∧rs.getD i (-1)=(k:Int)
 bh i k:=i<es.length∧k<es.length∧zKB es ps i k=true
 ord i:=(ev es i).order≠0
structure Says (n:Nat) (r:List Nat) (R:Nat→Nat→Prop):Prop where
 rel:Rel n r
 bit:∀ a b,Bit r a b ↔ R a b
section
variable {n:Nat} {r o:List Nat} {R O:Nat→Nat→Prop}
theorem Says.or (hr:Says n r R) (ho:Says n o O):Says n (orR r o) (fun a b=>R a b∨O a b) :=
 ⟨zCu hr.rel ho.rel,fun a b=>by rw[or_bit hr.rel.len ho.rel.len,hr.bit,ho.bit]⟩
theorem Says.and (hr:Says n r R) (ho:Says n o O):Says n (andR r o) (fun a b=>R a b∧O a b) :=
 ⟨zDr hr.rel,fun a b=>by rw[and_bit hr.rel.len,hr.bit,ho.bit]⟩
theorem Says.thn (hn:n≤64) (hr:Says n r R) (ho:Says n o O):Says n (thenR r o) (Th R O) :=
 ⟨zBm hn hr.rel ho.rel,fun a b=>by
  rw[then_bit hn hr.rel]
  constructor
  ·rintro ⟨c,h1,h2⟩;exact⟨c,(hr.bit _ _).1 h1,(ho.bit _ _).1 h2⟩
  ·rintro ⟨c,h1,h2⟩;exact⟨c,(hr.bit _ _).2 h1,(ho.bit _ _).2 h2⟩⟩
theorem Says.cl (hn:n≤64) (hr:Says n r R):Says n (zJj r) (TC R) :=
 ⟨(closed_rb hn hr.rel).1,fun a b=>by
  rw[(closed_rb hn hr.rel).2]
  exact⟨TC.mono fun x y h=>(hr.bit _ _).1 h,TC.mono fun x y h=>(hr.bit _ _).2 h⟩⟩
theorem Says.turned (hn:n≤64) (hr:Says n r R):Says n (zJG r) (fun a b=>R b a) :=
 ⟨(turned_rb hn hr.rel).1,fun a b=>by rw[(turned_rb hn hr.rel).2,hr.bit]⟩
theorem Says.to (hr:Says n r R) {S:Nat→Nat→Prop} (h:∀ a b,R a b ↔ S a b):Says n r S:=⟨hr.rel,fun a b=>by rw[hr.bit,h]⟩
theorem Says.loops (hn:n≤64) (hr:Says n r R):zIK r=true ↔ ∃ i,R i i:=by
 rw[loops_bit hn hr.rel]
 exact⟨fun ⟨i,h⟩=>⟨i,(hr.bit _ _).1 h⟩,fun ⟨i,h⟩=>⟨i,(hr.bit _ _).2 h⟩⟩
theorem Says.circles (hn:n≤64) (hr:Says n r R):zJY r=true ↔ ∃ i,TC R i i:=Says.loops hn (hr.cl hn)
end
section
variable {es:List Ev} {rs:List Int}
theorem says_reads (hn:es.length≤64) (hr:rs.length=es.length) (ps:List Int):Says es.length ((zIx es).reads rs) (sysOf es rs ps).rd:=⟨(reads_rb hn hr).1,(reads_rb hn hr).2⟩
theorem says_straight (hn:es.length≤64) (hr:rs.length=es.length) (ps:List Int):Says es.length ((zIx es).straight ((zIx es).reads rs)) (sysOf es rs ps).straight :=
 (says_reads hn hr ps).and (O:=(sysOf es rs ps).strong) ⟨(f_strong hn).1,(f_strong hn).2⟩
theorem says_halves (hn:es.length≤64) (ps:List Int):Says es.length (zIx es).halves (sysOf es rs ps).halves:=⟨(f_halves hn).1,(f_halves hn).2⟩
theorem says_sees (hn:es.length≤64) (hr:rs.length=es.length) (ps:List Int):Says es.length ((zIx es).sees ((zIx es).reads rs)) (sysOf es rs ps).sees :=
 (says_straight hn hr ps).or ((((says_straight hn hr ps).thn hn (says_halves hn ps)).cl hn).thn hn (says_straight hn hr ps))
theorem says_heard (hn:es.length≤64) (hr:rs.length=es.length) (ps:List Int):Says es.length (heard es ((zIx es).sees ((zIx es).reads rs))) (sysOf es rs ps).heard:=by
 have h:=heard_rb hn (says_sees hn hr ps).rel
 refine⟨h.1,fun a b=>?_⟩
 rw[h.2,(says_sees hn hr ps).bit]
 exact Iff.rfl
theorem says_tells (hn:es.length≤64) (hr:rs.length=es.length) (ps:List Int):Says es.length ((zIx es).tells ((zIx es).sees ((zIx es).reads rs))) (sysOf es rs ps).tells:=by
 unfold Facts.tells
 rw[factsOf_ev]
 exact ((Says.thn hn (R:=(sysOf es rs ps).sends) ⟨(f_sends hn).1,(f_sends hn).2⟩ (says_heard hn hr ps)).thn hn (O:=(sysOf es rs ps).takes) ⟨(f_takes hn).1,(f_takes hn).2⟩).and (O:=(sysOf es rs ps).strong) ⟨(f_strong hn).1,(f_strong hn).2⟩
theorem says_before (hn:es.length≤64) (hr:rs.length=es.length) (ps:List Int):Says es.length ((zIx es).before ((zIx es).reads rs)) (sysOf es rs ps).before :=
 Says.cl hn ((Says.or (R:=(sysOf es rs ps).ahead) ⟨(f_ahead hn).1,(f_ahead hn).2⟩ (says_tells hn hr ps)).or (O:=(sysOf es rs ps).gathers) ⟨(f_gathers hn).1,(f_gathers hn).2⟩)
theorem says_behind (hn:es.length≤64) (ps:List Int):Says es.length (zIB es ps) (sysOf es rs ps).bh:=⟨(behind_rb hn ps).1,(behind_rb hn ps).2⟩
theorem says_linked (hn:es.length≤64) (hr:rs.length=es.length) (ps:List Int):Says es.length (linked ((zIx es).reads rs) (zIB es ps)) (sysOf es rs ps).linked :=
 Says.cl hn ((((says_reads hn hr ps).turned hn).or (says_behind hn ps)).or ((says_reads hn hr ps).thn hn (says_behind hn ps)))
theorem bool_not {b:Bool} {p:Prop} (h:b=true ↔ p):b=false ↔ ¬ p:=by
 cases b
 ·simp at h;simp[h]
 ·simp at h;simp[h]
theorem may_iff (hn:es.length≤64) (hr:rs.length=es.length) (ps:List Int):(zIx es).mayBe ((zIx es).reads rs) ((zIx es).before ((zIx es).reads rs)) ps=true ↔ (sysOf es rs ps).May:=by
 have h1:=(says_before hn hr ps).loops hn
 have hbh:Says es.length (zIB es ps) (sysOf es rs ps).bh:=says_behind hn ps
 have hhv:Says es.length (zIx es).halves (sysOf es rs ps).halves:=says_halves hn ps
 have h2:=(Says.thn hn (hhv.thn hn ((says_reads hn hr ps).thn hn hbh)) hbh).loops hn
 have h3:=((says_before hn hr ps).thn hn (says_linked hn hr ps)).loops hn
 have h4:=(((says_before hn hr ps).or (((says_before hn hr ps).thn hn (says_linked hn hr ps)).thn hn (says_before hn hr ps))).and (O:=(sysOf es rs ps).fences) ⟨(f_fences hn).1,(f_fences hn).2⟩).circles hn
 unfold Facts.mayBe
 rw[factsOf_ev]
 have e2:(zIx es).splits (thenR ((zIx es).reads rs) (zIB es ps)) (zIB es ps)=zIK (thenR (thenR (zIx es).halves (thenR ((zIx es).reads rs) (zIB es ps))) (zIB es ps)):=rfl
 have e4:(zIx es).fencesCircle ((zIx es).before ((zIx es).reads rs)) (linked ((zIx es).reads rs) (zIB es ps))=zJY (andR (orR ((zIx es).before ((zIx es).reads rs)) (thenR (thenR ((zIx es).before ((zIx es).reads rs)) (linked ((zIx es).reads rs) (zIB es ps))) ((zIx es).before ((zIx es).reads rs)))) (zIx es).fences):=rfl
 rw[e2,e4]
 have k1:=bool_not h1
 have k2:=bool_not h2
 have k3:=bool_not h3
 have k4:=bool_not h4
 constructor
 ·intro h
  split at h
  ·cases h
  ·split at h
   ·cases h
   ·split at h
    ·cases h
    ·rename_i a b c
     rw[Bool.not_eq_true'] at h
     rw[Bool.not_eq_true] at a b c
     exact⟨fun i hi=>k1.1 a ⟨i,hi⟩,fun i hi=>k2.1 b ⟨i,hi⟩,fun i hi=>k3.1 c ⟨i,hi⟩,fun i hi=>k4.1 h ⟨i,hi⟩⟩
 ·intro m
  rw[k1.2 (fun ⟨i,hi⟩=>m.bef i hi),k2.2 (fun ⟨i,hi⟩=>m.split i hi),k3.2 (fun ⟨i,hi⟩=>m.link i hi),k4.2 (fun ⟨i,hi⟩=>m.fence i hi)]
  rfl
theorem hang_iff (hn:es.length≤64) (hr:rs.length=es.length) (ps:List Int):(zIx es).hangsOn ((zIx es).reads rs)=false ↔ (sysOf es rs ps).NoHang:=by
 have h:=(Says.or (R:=(sysOf es rs ps).hangs) ⟨(f_hangs hn).1,(f_hangs hn).2⟩ (says_reads hn hr ps)).circles hn
 unfold Facts.hangsOn
 rw[bool_not h]
 exact⟨fun k i hi=>k ⟨i,hi⟩,fun k ⟨i,hi⟩=>k i hi⟩
structure Clash (es:List Ev) (X:Sys) (i k:Nat):Prop where
 li:i<es.length
 lk:k<es.length
 kind:(ev es i).kind=1
 ne:i≠k
 weak:¬ X.strong i k
 var:(ev es i).var=(ev es k).var
 acc:zIY (ev es k)=true
 ik:¬ X.before i k
 ki:¬ X.before k i
theorem not_hasR {r:List Nat} {R:Nat→Nat→Prop} {n:Nat} (hn:n≤64) (h:Says n r R) (i k:Nat) (hk:k<n):(!hasR r (i:Int) (k:Int))=true ↔ ¬ R i k:=by
 rw[Bool.not_eq_true',bool_not ((hasR_bit r i k (by omega)).trans (h.bit i k))]
theorem clash_iff (hn:es.length≤64) (hr:rs.length=es.length) (ps:List Int):(zIx es).clashes ((zIx es).before ((zIx es).reads rs))=true ↔ ∃ i k,Clash es (sysOf es rs ps) i k:=by
 have hs:Says es.length (zIx es).strong (sysOf es rs ps).strong:=⟨(f_strong hn).1,(f_strong hn).2⟩
 have hb:=says_before hn hr ps
 unfold Facts.clashes Facts.clashAt Facts.mayClash
 rw[factsOf_ev]
 simp only[List.any_eq_true,List.mem_range]
 constructor
 ·rintro ⟨i,hi,k,hk,h⟩
  rw[Bool.and_eq_true,Bool.and_eq_true,Bool.and_eq_true,Bool.and_eq_true,Bool.and_eq_true,Bool.and_eq_true,not_hasR hn hs i k hk,not_hasR hn hb i k hk,not_hasR hn hb k i hi] at h
  obtain⟨⟨⟨⟨⟨⟨a,b⟩,c⟩,d⟩,e⟩,f⟩,g⟩:=h
  exact⟨i,k,hi,hk,by simpa using a,by simpa using b,c,by simpa using d,e,f,g⟩
 ·rintro ⟨i,k,h⟩
  refine⟨i,h.li,k,h.lk,?_⟩
  rw[Bool.and_eq_true,Bool.and_eq_true,Bool.and_eq_true,Bool.and_eq_true,Bool.and_eq_true,Bool.and_eq_true,not_hasR hn hs i k h.lk,not_hasR hn hb i k h.lk,not_hasR hn hb k i h.li]
  exact⟨⟨⟨⟨⟨⟨by simp[h.kind],by simpa using h.ne⟩,h.weak⟩,by simp[h.var]⟩,h.acc⟩,h.ik⟩,h.ki⟩
end
end Q
namespace Q
structure EvLe (a b:Ev):Prop where
 kind:b.kind=a.kind
 block:b.block=a.block
 value:b.value=a.value
 step:b.step=a.step
 bars:b.bars=a.bars
 ord:a.order≠0→b.order≠0
 rel:P.rel a.order=true→P.rel b.order=true
 acq:P.acq a.order=true→P.acq b.order=true
 sc:a.kind=2→a.order=5→b.order=5
 scope:a.scope=1→b.scope=1
structure EHom (f:Nat→Nat) (es es':List Ev):Prop where
 lt:∀ i,i<es.length→f i<es'.length
 inj:∀ i k,i<es.length→k<es.length→f i=f k→i=k
 le:∀ i,i<es.length→EvLe (ev es i) (ev es' (f i))
 first:∀ i,i<es.length→((ev es' (f i)).thread=-1 ↔ (ev es i).thread=-1)
 thread:∀ i k,i<es.length→k<es.length→((ev es' (f i)).thread=(ev es' (f k)).thread ↔ (ev es i).thread=(ev es k).thread)
 var:∀ i k,i<es.length→k<es.length→zIY (ev es i)=true→zIY (ev es k)=true→((ev es' (f i)).var=(ev es' (f k)).var ↔ (ev es i).var=(ev es k).var)
 mono:∀ i k,i<es.length→k<es.length→(ev es i).thread≠-1→(ev es i).thread=(ev es k).thread→i<k→f i<f k
 step:∀ i k,i<es.length→(ev es i).kind=1→(ev es i).step=true→k+1=i→f k+1=f i
 hangs:∀ i k,i<es.length→k<es.length→hasS (ev es i).hangs (k:Int)=true→hasS (ev es' (f i)).hangs (f k:Nat)=true
section
variable {f:Nat→Nat} {es es':List Ev}
theorem ehom_ahead (h:EHom f es es') (i k:Nat) (hi:i<es.length) (hk:k<es.length) (e:zIo i (Q.ev es i) k (Q.ev es k)=true):zIo (f i:Nat) (Q.ev es' (f i)) (f k:Nat) (Q.ev es' (f k))=true:=by
 unfold zIo at e ⊢
 by_cases h1:(Q.ev es i).thread=-1
 ·rw[if_pos (by simpa using h1)] at e
  rw[if_pos (by simpa using (h.first i hi).2 h1)]
  have e':(Q.ev es k).thread≠-1:=by simpa using e
  have:(Q.ev es' (f k)).thread≠-1:=fun c=>e' ((h.first k hk).1 c)
  simpa using this
 ·rw[if_neg (by simpa using h1)] at e
  rw[if_neg (by simpa using fun c=>h1 ((h.first i hi).1 c))]
  rw[Bool.and_eq_true] at e ⊢
  have e1:(Q.ev es i).thread=(Q.ev es k).thread:=by simpa using e.1
  have e2:i<k:=by have:=of_decide_eq_true e.2;omega
  have:=h.mono i k hi hk h1 e1 e2
  exact⟨by simpa using (h.thread i k hi hk).2 e1,by simpa using this⟩
theorem ord_mono {a b:Ev} (h:EvLe a b) (e:isOrdE a=true):isOrdE b=true:=by
 unfold isOrdE at e ⊢
 rw[h.kind]
 rw[Bool.and_eq_true,Bool.and_eq_true] at e ⊢
 exact⟨⟨by simpa using h.ord (by simpa using e.1.1),e.1.2⟩,e.2⟩
theorem ehom_strong (h:EHom f es es') (i k:Nat) (hi:i<es.length) (hk:k<es.length) (e:Q.strong (Q.ev es i) (Q.ev es k)=true):Q.strong (Q.ev es' (f i)) (Q.ev es' (f k))=true:=by
 unfold Q.strong at e ⊢
 by_cases h1:(Q.ev es i).thread=-1∨(Q.ev es k).thread=-1
 ·rw[if_pos (by rcases h1 with h1 | h1<;>simp[h1])] at e;cases e
 ·have g1:¬ ((Q.ev es' (f i)).thread=-1∨(Q.ev es' (f k)).thread=-1):=fun c=>h1 (c.elim (fun c=>Or.inl ((h.first i hi).1 c)) (fun c=>Or.inr ((h.first k hk).1 c)))
  rw[if_neg (by simpa using h1)] at e
  rw[if_neg (by simpa using g1)]
  by_cases h2:(Q.ev es i).thread=(Q.ev es k).thread
  ·rw[if_pos (by simpa using (h.thread i k hi hk).2 h2)]
  ·rw[if_neg (by simpa using h2)] at e
   rw[if_neg (by simpa using fun c=>h2 ((h.thread i k hi hk).1 c))]
   cases o1:isOrdE (Q.ev es i)
   ·rw[o1] at e;simp at e
   ·cases o2:isOrdE (Q.ev es k)
    ·rw[o2] at e;simp at e
    ·rw[o1,o2] at e
     rw[ord_mono (h.le i hi) o1,ord_mono (h.le k hk) o2,(h.le i hi).block,(h.le k hk).block]
     simp only[Bool.not_true,Bool.or_self,Bool.false_eq_true,if_false,Bool.or_eq_true,beq_iff_eq,Bool.and_eq_true] at e ⊢
     rcases e with e | e
     ·exact Or.inl e
     ·exact Or.inr ⟨(h.le i hi).scope e.1,(h.le k hk).scope e.2⟩
theorem ehom_hom (h:EHom f es es') {rs rs' ps ps':List Int} (hr:∀ i k:Nat,i<es.length→k<es.length→rs.getD i (-1)=(k:Int)→rs'.getD (f i) (-1)=(f k:Nat)) (hb:∀ i k,i<es.length→k<es.length→zKB es ps i k=true→zKB es' ps' (f i) (f k)=true):Sys.Hom f (sysOf es rs ps) (sysOf es' rs' ps') where
 ahead i k:=fun ⟨hi,hk,e⟩=>⟨h.lt i hi,h.lt k hk,ehom_ahead h i k hi hk e⟩
 strong i k:=fun ⟨hi,hk,e⟩=>⟨h.lt i hi,h.lt k hk,by
  unfold zIs at e ⊢
  rw[Bool.and_eq_true] at e ⊢
  have:f i≠f k:=fun c=>by simpa [h.inj i k hi hk c] using e.1
  exact⟨by simpa using this,ehom_strong h i k hi hk e.2⟩⟩
 gathers i k:=fun ⟨hi,hk,e⟩=>⟨h.lt i hi,h.lt k hk,by
  unfold zIA at e ⊢
  rw[(h.le i hi).kind,(h.le k hk).kind,(h.le i hi).block,(h.le k hk).block,(h.le i hi).bars,(h.le k hk).bars]
  exact e⟩
 fences i k:=fun ⟨hi,hk,e⟩=>⟨h.lt i hi,h.lt k hk,by
  unfold zIq isSC at e ⊢
  rw[Bool.and_eq_true,Bool.and_eq_true,Bool.and_eq_true,Bool.and_eq_true,Bool.and_eq_true] at e ⊢
  have:f i≠f k:=fun c=>by simpa [h.inj i k hi hk c] using e.1.1.1
  have ki:(Q.ev es i).kind=2:=by simpa using e.1.2.1
  have kk:(Q.ev es k).kind=2:=by simpa using e.2.1
  refine⟨⟨⟨by simpa using this,ehom_strong h i k hi hk e.1.1.2⟩,by simp[(h.le i hi).kind,ki],?_⟩,by simp[(h.le k hk).kind,kk],?_⟩
  ·simpa using (h.le i hi).sc ki (by simpa using e.1.2.2)
  ·simpa using (h.le k hk).sc kk (by simpa using e.2.2)⟩
 halves i k:=fun ⟨hi,hk,e⟩=>⟨h.lt i hi,h.lt k hk,by
  unfold zIV at e ⊢
  rw[Bool.and_eq_true,Bool.and_eq_true] at e ⊢
  rw[(h.le i hi).kind,(h.le i hi).step]
  refine⟨e.1,?_⟩
  simpa using h.step i k hi (by simpa using e.1.1) (by simpa using e.1.2) (by simpa using e.2)⟩
 hangs i k:=fun ⟨hi,hk,e⟩=>⟨h.lt i hi,h.lt k hk,h.hangs i k hi hk e⟩
 sends i k:=fun ⟨hi,hk,e⟩=>⟨h.lt i hi,h.lt k hk,by
  unfold zJy at e ⊢
  rw[(h.le i hi).kind,(h.le k hk).kind]
  simp only[Bool.or_eq_true,Bool.and_eq_true] at e ⊢
  rcases e with e | e
  ·have ek:i=k:=by simpa using e.1
   exact Or.inl ⟨by simp[ek],e.2.1,(h.le i hi).rel e.2.2⟩
  ·exact Or.inr ⟨⟨ehom_ahead h i k hi hk e.1.1,e.1.2⟩,e.2⟩⟩
 takes i k:=fun ⟨hi,hk,e⟩=>⟨h.lt i hi,h.lt k hk,by
  unfold zKq at e ⊢
  rw[(h.le i hi).kind,(h.le k hk).kind]
  simp only[Bool.or_eq_true,Bool.and_eq_true] at e ⊢
  rcases e with e | e
  ·have ek:i=k:=by simpa using e.1
   exact Or.inl ⟨by simp[ek],e.2.1,(h.le i hi).acq e.2.2⟩
  ·exact Or.inr ⟨⟨ehom_ahead h i k hi hk e.1.1,e.1.2⟩,e.2⟩⟩
 rd i k:=fun ⟨hk,hi,e⟩=>⟨h.lt k hk,h.lt i hi,hr i k hi hk e⟩
 bh i k:=fun ⟨hi,hk,e⟩=>⟨h.lt i hi,h.lt k hk,hb i k hi hk e⟩
 ord i:=fun e=>by
  by_cases hi:i<es.length
  ·exact (h.le i hi).ord e
  ·exfalso
   apply e
   show (Q.ev es i).order=0
   unfold Q.ev
   rw[List.getD_eq_getElem?_getD,List.getElem?_eq_none (by omega)]
   rfl
theorem ehom_clash (h:EHom f es es') (hs:∀ k,k<es'.length→zIY (Q.ev es' k)=true→∃ i,i<es.length∧f i=k) {X Y:Sys} (hh:Sys.Hom f X Y) {i k:Nat} (c:Clash es' Y i k):∃ i k,Clash es X i k:=by
 obtain⟨a,ha,rfl⟩:=hs i c.li (by unfold zIY;rw[c.kind];rfl)
 obtain⟨b,hb,rfl⟩:=hs k c.lk c.acc
 have ka:(Q.ev es a).kind=1:=by rw[← (h.le a ha).kind];exact c.kind
 have kb:zIY (Q.ev es b)=true:=by
  have:=c.acc
  unfold zIY at this ⊢
  rw[(h.le b hb).kind] at this
  exact this
 exact⟨a,b,ha,hb,ka,fun e=>c.ne (by rw[e]),fun e=>c.weak (hh.strong _ _ e),(h.var a b ha hb (by unfold zIY;rw[ka];rfl) kb).1 c.var,kb,fun e=>c.ik (hh.before _ _ e),fun e=>c.ki (hh.before _ _ e)⟩
end
end Q
end Go.Proofs.YtkmebkbpfmoeaaaGreat
namespace Go.Proofs.YtkmebkbpfmoeaaaGreat
open Go Go.RowKit
set_option maxRecDepth 100000
theorem zFZ (c:Int) (w:World) (h0:-9223372036854775808≤c) (h1:c<9223372036854775808) :
  Calls Tryz.prog 14 #[.int .i64 c,.int .i64 29] w fun e w'=>∃ i:Nat,i<29∧e=.returned (.int .i64 (i:Int))∧w'=w:=by
 by_cases hc:c<0
 ·have hw1:IntKind.i64.wrap (c+1)=c+1:=by simp[IntKind.wrap,IntKind.signed,IntKind.bits];omega
  have hw2:IntKind.i64.wrap (-(c+1))=-(c+1):=by simp[IntKind.wrap,IntKind.signed,IntKind.bits];omega
  have hr:-((c+1).tmod 29)=(-(c+1)) % 29:=by rw[← Int.neg_tmod,Int.tmod_eq_emod_of_nonneg (by omega)]
  have HR:Hid (-((c+1).tmod 29)=(((-(c+1)) % 29).toNat:Int)):=by unfold Hid;rw[hr];omega
  clear hr
  go_enter Tryz.func14,Tryz.ntmps14
  go_wp2
  go_ret
  refine⟨((-(c+1)) % 29).toNat,by omega,?_,rfl⟩
  rw[← HR.out];rfl
 ·have HR:Hid (c % 29=((c % 29).toNat:Int)):=by unfold Hid;omega
  go_enter Tryz.func14,Tryz.ntmps14
  go_wp2
  go_ret
  refine⟨(c % 29).toNat,by omega,?_,rfl⟩
  rw[← HR.out];rfl
namespace P
def zKC (x one y two:List UInt8):List UInt8:=[116,104,114,101,97,100,32,48,10,115,116,111,114,101,32,120,32,49,32]++x++one++[115,116,111,114,101,32,121,32,49,32]++y++[116,104,114,101,97,100,32,49,10,114,48,32,61,32,108,111,97,100,32,121,32]++y++two++[114,49,32,61,32,108,111,97,100,32,120,32]++x
def zKs (b sc:List UInt8):List UInt8:=[116,104,114,101,97,100,32,48,10,115,116,111,114,101,32,120,32,49]++([32,114,101,108,97,120,101,100,32]++sc++[10])++b++[114,48,32,61,32,108,111,97,100,32,121]++([32,114,101,108,97,120,101,100,32]++sc++[10])++[116,104,114,101,97,100,32,49,10,115,116,111,114,101,32,121,32,49]++([32,114,101,108,97,120,101,100,32]++sc++[10])++b++[114,48,32,61,32,108,111,97,100,32,120]++([32,114,101,108,97,120,101,100,32]++sc++[10])
end P
theorem zEY (x one y two:ByteArray) (w:World) (h1:x.size≤1000) (h2:one.size≤1000) (h3:y.size≤1000) (h4:two.size≤1000) :
  Calls Tryz.prog 22 #[.string x,.string one,.string y,.string two] w fun e w'=>∃ t,e=.returned (.string t)∧t.toList=P.zKC x.toList one.toList y.toList two.toList∧w'=w:=by
 go_enter Tryz.func22,Tryz.ntmps22
 go_wp2
 go_ret
 refine⟨_,rfl,?_,rfl⟩
 simp only[P.zKC,zAq,zAe]
theorem zEv (b sc:ByteArray) (w:World) (h1:b.size≤1000) (h2:sc.size≤1000) :
  Calls Tryz.prog 23 #[.string b,.string sc] w fun e w'=>∃ t,e=.returned (.string t)∧t.toList=P.zKs b.toList sc.toList∧w'=w:=by
 go_enter Tryz.func23,Tryz.ntmps23
 go_wp2
 go_ret
 refine⟨_,rfl,?_,rfl⟩
 simp only[P.zKs,zAq,zAe]
end Go.Proofs.YtkmebkbpfmoeaaaGreat
