import Derived.Test.YtpkjmdcabdplfaaGreatDoorB08
set_option linter.unusedVariables false
set_option linter.unusedSimpArgs false
namespace Go.Proofs.YtpkjmdcabdplfaaGreatDoor
open Go Go.RowKit
set_option maxRecDepth 100000
set_option maxHeartbeats 3200000 in
theorem rst_swap (b off n cap:Nat) (c e d p v:ByteArray) (r:List ByteArray) (w:World) (hw:WordsAt w b off (c::e::d::p::v::r)) (hn:(c::e::d::p::v::r).length=n) (hc:n≤cap) (hblt:b<w.heap.size) (hmin:6≤n) (hk0:(c.toList==[98,97,114,114,105,101,114])=false) (hk1:(c.toList==[102,101,110,99,101])=false) (hks:(c.toList==[115,116,111,114,101]&&decide (4≤n))=false) (he:(e.toList==[61])=true) (hdl:(d.toList==[108,111,97,100])=false) (hda:(d.toList==[97,100,100])=false) (hd:(d.toList==[115,119,97,112])=true) :
  Calls Tryz.prog 16 #[.slice (some ⟨b,off,none⟩) n cap] w fun e w'=>e=.returned (lnVal (R.stStep c d p v r))∧Below w.heap.size w w':=by
 obtain⟨hd0,_,hw1⟩:=hw.head
 have hi0:0<n:=by omega
 have hi1:(1:Int)<(n:Int):=by omega
 have hi2:(2:Int)<(n:Int):=by omega
 have hi3:(3:Int)<(n:Int):=by omega
 have hi4:(4:Int)<(n:Int):=by omega
 have hi5:(5:Int)<(n:Int):=by omega
 have hi3':¬ (n:Int)<3:=by omega
 have hrl:r.length=n-5:=by simp at hn;omega
 have hcap:¬ cap=5:=by omega
 have hks':(c.toList==[115,116,111,114,101])=false:=by
  have h4:decide (4≤n)=true:=by simp;omega
  rw[h4] at hks;simpa using hks
 have S0:=hide (StAt.start w b off (c::e::d::p::v::r) R.x0 hw)
 obtain⟨hd1,_,_⟩:=hw1.head
 have hbd:=R.inn_bd c.toList R.regs
 clear hn hw hw1
 go_enter Tryz.func16,Tryz.ntmps16
 go_wp2_with fail
 refine (in_lst c R.regs _ _ rfl (by simp)).mono ?_
 rintro e w1 ⟨rfl,hb1⟩
 have s1:=StAt.below S0.out hb1
 obtain⟨f1,f2,c0,c1,c2,c3,c4,c5,c6,c7,c8⟩:=s1.xat.facts
 have d2:=s1.words 2 d rfl
 have d3:=s1.words 3 p rfl
 have hbl1:b<w1.heap.size:=by have:=s1.bel.size;omega
 have S1:=hide s1
 clear s1 hb1 S0 hd1
 go_wp2_with fail
 have s2:=(S1.out.set { R.x0 with reg:=R.inn c.toList R.regs } hblt 1 (.int .i64 (R.inn c.toList R.regs)) rfl).set { R.x0 with reg:=R.inn c.toList R.regs,op:=d } hblt 0 (.string d) rfl
 refine (in_lst p R.vars _ _ rfl (by simp)).mono ?_
 rintro e w2 ⟨rfl,hb2⟩
 have s3:=s2.below hb2
 clear c0 c1 c2 c3 c4 c5 c6 c7 c8 f1 f2
 obtain⟨f1,f2,c0,c1,c2,c3,c4,c5,c6,c7,c8⟩:=s3.xat.facts
 have d4:=s3.words 4 v rfl
 have S3:=hide s3
 have hbl2:b<w2.heap.size:=by have:=s3.bel.size;omega
 clear s3 s2 hb2 S1 d2 d3 hbl1
 go_wp2_with fail
 have s4:=S3.out.set { R.x0 with reg:=R.inn c.toList R.regs,op:=d,var:=R.inn p.toList R.vars } hblt 2 (.int .i64 (R.inn p.toList R.vars)) rfl
 refine (opdR_any v _).mono ?_
 rintro e w3 ⟨rfl,hb3⟩
 have s4b:=s4.below hb3
 clear c0 c1 c2 c3 c4 c5 c6 c7 c8 f1 f2
 obtain⟨f1,f2,c0,c1,c2,c3,c4,c5,c6,c7,c8⟩:=s4b.xat.facts
 have S4b:=hide s4b
 clear s4 s4b hb3 S3 d4 hbl2
 go_wp2_with fail
 have s5:=S4b.out.set { R.x0 with reg:=R.inn c.toList R.regs,op:=d,var:=R.inn p.toList R.vars,a:=(R.opd v.toList).1 } hblt 3 (.int .i64 (R.opd v.toList).1) rfl
 refine (how_any (w.heap.size+1) b _ _ _ { R.x0 with reg:=R.inn c.toList R.regs,op:=d,var:=R.inn p.toList R.vars,a:=(R.opd v.toList).1 } (.slice none 0 0) R.oStep _ r _ (by exact s5.xat) (by exact s5.words.drop 5) hrl (by omega) rfl (by simp)).mono ?_
 rintro e w5 ⟨rfl,hx5,hgr5⟩
 have s6:=s5.how hblt hx5 hgr5
 clear c0 c1 c2 c3 c4 c5 c6 c7 c8 f1 f2
 clear s5 hx5 hgr5
 obtain⟨f1,f2,c0,c1,c2,c3,c4,c5,c6,c7,c8⟩:=s6.xat.facts
 obtain⟨e1,e2,r0,r1,r2,r3,r4,r5,r6,r7,r8⟩:=s6.res.facts
 have S4:=hide s6
 clear s6
 have hv:=how_var { R.x0 with reg:=R.inn c.toList R.regs,op:=d,var:=R.inn p.toList R.vars,a:=(R.opd v.toList).1 } R.oStep r
 have HE:Hid (R.stStep c d p v r=((R.how { R.x0 with reg:=R.inn c.toList R.regs,op:=d,var:=R.inn p.toList R.vars,a:=(R.opd v.toList).1 } R.oStep r).1,decide (0≤R.inn c.toList R.regs)&&(R.how { R.x0 with reg:=R.inn c.toList R.regs,op:=d,var:=R.inn p.toList R.vars,a:=(R.opd v.toList).1 } R.oStep r).2&&(R.opd v.toList).2&&decide (0≤R.inn p.toList R.vars))):=rfl
 generalize R.how { R.x0 with reg:=R.inn c.toList R.regs,op:=d,var:=R.inn p.toList R.vars,a:=(R.opd v.toList).1 } R.oStep r=H at *
 generalize R.inn p.toList R.vars=iv at *
 generalize R.inn c.toList R.regs=ir at *
 generalize (R.opd v.toList).2=okv at *
 have HV:=hide hv
 clear hv hd0 hi0 hi1 hi2 hi3 hi4 hi3' hrl hcap hk0 hk1 hks hks' he
 generalize hH2:H.2=h2 at *
 have HH2:=hide hH2
 clear hH2
 by_cases hir:0≤ir
 rotate_left
 ·have hird:decide (0≤ir)=false:=decide_eq_false hir
  go_wp2_with fail
  go_region
  all_goals go_wp2
  all_goals exact ret_ln (p:=2) (u:=3) w.heap.size H.1 _ (by kernel_rfl) rfl rfl (by exact (S4.out.res.setAll H.1 (.slice none 0 0)).drew) rfl ⟨by rw[HE.out];simp[hird],(below_all H.1 (.slice none 0 0) S4.out.bel (Nat.le_refl _)).drew⟩
 have hird:decide (0≤ir)=true:=decide_eq_true hir
 cases h2
 ·go_wp2_with fail
  go_region
  all_goals go_wp2
  all_goals exact ret_ln (p:=2) (u:=3) w.heap.size H.1 _ (by kernel_rfl) rfl rfl (by exact (S4.out.res.setAll H.1 (.slice none 0 0)).drew) rfl ⟨by rw[HE.out];simp[hird],(below_all H.1 (.slice none 0 0) S4.out.bel (Nat.le_refl _)).drew⟩
 cases okv
 ·go_wp2_with fail
  go_region
  all_goals go_wp2
  all_goals exact ret_ln (p:=2) (u:=3) w.heap.size H.1 _ (by kernel_rfl) rfl rfl (by exact (S4.out.res.setAll H.1 (.slice none 0 0)).drew) rfl ⟨by rw[HE.out];simp[hird],(below_all H.1 (.slice none 0 0) S4.out.bel (Nat.le_refl _)).drew⟩
 by_cases hiv:0≤H.1.var
 ·have hivd:decide (0≤H.1.var)=true:=decide_eq_true hiv
  go_wp2_with fail
  go_region
  all_goals go_wp2
  all_goals exact ret_ln (p:=2) (u:=3) w.heap.size H.1 _ (by kernel_rfl) rfl rfl (by exact (S4.out.res.setAll H.1 (.slice none 0 0)).drew) rfl ⟨by have:=HV.out;rw[HE.out,← this];simp[hird,hivd],(below_all H.1 (.slice none 0 0) S4.out.bel (Nat.le_refl _)).drew⟩
 ·have hivd:decide (0≤H.1.var)=false:=decide_eq_false hiv
  go_wp2_with fail
  go_region
  all_goals go_wp2
  all_goals exact ret_ln (p:=2) (u:=3) w.heap.size H.1 _ (by kernel_rfl) rfl rfl (by exact (S4.out.res.setAll H.1 (.slice none 0 0)).drew) rfl ⟨by have:=HV.out;rw[HE.out,← this];simp[hird,hivd],(below_all H.1 (.slice none 0 0) S4.out.bel (Nat.le_refl _)).drew⟩
set_option maxHeartbeats 6400000 in
theorem rst_one_a (b off cap:Nat) (c e d:ByteArray) (w:World) (hw:WordsAt w b off ([c,e,d])) (hblt:b<w.heap.size) (hk0:(c.toList==[98,97,114,114,105,101,114])=false) (hk1:(c.toList==[102,101,110,99,101])=false) (he:(e.toList==[61])=true) (hst:(c.toList==[115,116,111,114,101])=false) :
  Calls Tryz.prog 16 #[.slice (some ⟨b,off,none⟩) 3 cap] w fun e w'=>e=.returned (lnVal (R.stOne c d))∧Below w.heap.size w w':=by
 obtain⟨hd0,_,hw1⟩:=hw.head
 have S0:=hide (StAt.start w b off ([c,e,d]) R.x0 hw)
 obtain⟨hd1,_,_⟩:=hw1.head
 clear hw hw1
 have cl:((d.toList==[108,111,97,100])=true∧(d.toList==[97,100,100])=false∧(d.toList==[115,119,97,112])=false)∨((d.toList==[108,111,97,100])=false∧(d.toList==[97,100,100])=true)∨((d.toList==[108,111,97,100])=false∧(d.toList==[97,100,100])=false∧(d.toList==[115,119,97,112])=true)∨((d.toList==[108,111,97,100])=false∧(d.toList==[97,100,100])=false∧(d.toList==[115,119,97,112])=false):=by
  cases x1:(d.toList==[108,111,97,100])
  ·cases x2:(d.toList==[97,100,100])<;>cases x3:(d.toList==[115,119,97,112])<;>simp
  ·have:d.toList=[108,111,97,100]:=by simpa using x1
   left;rw[this];decide
 rcases cl with ⟨y1,y2,y3⟩ | ⟨y1,y2⟩ | ⟨y1,y2,y3⟩ | ⟨y1,y2,y3⟩
 all_goals
  go_enter Tryz.func16,Tryz.ntmps16
  go_wp2_with fail
  refine (in_lst c R.regs _ _ rfl (by simp)).mono ?_
  rintro e w1 ⟨rfl,hb1⟩
  have s1:=StAt.below S0.out hb1
  obtain⟨f1,f2,c0,c1,c2,c3,c4,c5,c6,c7,c8⟩:=s1.xat.facts
  have d2:=s1.words 2 d rfl
  have hbl1:b<w1.heap.size:=by have:=s1.bel.size;omega
  have S1:=hide s1
  clear s1 hb1 S0 hd1
  go_wp2_with fail
  have s2:=(S1.out.set { R.x0 with reg:=R.inn c.toList R.regs } hblt 1 (.int .i64 (R.inn c.toList R.regs)) rfl).set { R.x0 with reg:=R.inn c.toList R.regs,op:=R.sSet } hblt 0 (.string R.sSet) rfl
  refine (opdR_any d _).mono ?_
  rintro e w2 ⟨rfl,hb2⟩
  have s3:=s2.below hb2
  clear c0 c1 c2 c3 c4 c5 c6 c7 c8 f1 f2
  obtain⟨f1,f2,c0,c1,c2,c3,c4,c5,c6,c7,c8⟩:=s3.xat.facts
  have S3:=hide s3
  clear s3 s2 hb2 S1 d2 hbl1
  have S:StAt w (w2.setCell ⟨w.heap.size+1,3,none⟩ (.int .i64 (R.opd d.toList).1)) b off ([c,e,d]) { R.x0 with reg:=R.inn c.toList R.regs,op:=R.sSet,a:=(R.opd d.toList).1 }:=S3.out.set { R.x0 with reg:=R.inn c.toList R.regs,op:=R.sSet,a:=(R.opd d.toList).1 } hblt 3 (.int .i64 (R.opd d.toList).1) rfl
  have HE:Hid (R.stOne c d=({ R.x0 with reg:=R.inn c.toList R.regs,op:=R.sSet,a:=(R.opd d.toList).1 },decide (0≤R.inn c.toList R.regs)&&(R.opd d.toList).2)):=rfl
  generalize (R.opd d.toList).2=o1 at *
  cases hg:decide (0≤R.inn c.toList R.regs)
  all_goals
   go_wp2_with (first | (refine wpList_load_ln (.tmp 4) rfl rfl (w.heap.size+1) _ (.slice none 0 0) rfl S.xat ?_) | (refine wpList_store_ln (.tmp 2) (.tmp 187) rfl rfl w.heap.size _ _ (.slice none 0 0) (.slice none 0 0) rfl rfl rfl (by exact S.res) ?_;intro w9 hs9 hgr9))
   rw[HE.out]
   refine ret_ln (p:=2) (u:=3) w.heap.size { R.x0 with reg:=R.inn c.toList R.regs,op:=R.sSet,a:=(R.opd d.toList).1 } _ (by kernel_rfl) rfl rfl hs9 rfl ⟨by rw[hg];rfl,S.done hgr9⟩
set_option maxHeartbeats 6400000 in
theorem rst_one_b (b off cap:Nat) (c e d:ByteArray) (w:World) (hw:WordsAt w b off ([c,e,d])) (hblt:b<w.heap.size) (hk0:(c.toList==[98,97,114,114,105,101,114])=false) (hk1:(c.toList==[102,101,110,99,101])=false) (he:(e.toList==[61])=true) (hst:(c.toList==[115,116,111,114,101])=true) :
  Calls Tryz.prog 16 #[.slice (some ⟨b,off,none⟩) 3 cap] w fun e w'=>e=.returned (lnVal (R.stOne c d))∧Below w.heap.size w w':=by
 obtain⟨hd0,_,hw1⟩:=hw.head
 have S0:=hide (StAt.start w b off ([c,e,d]) R.x0 hw)
 obtain⟨hd1,_,_⟩:=hw1.head
 clear hw hw1
 have cl:((d.toList==[108,111,97,100])=true∧(d.toList==[97,100,100])=false∧(d.toList==[115,119,97,112])=false)∨((d.toList==[108,111,97,100])=false∧(d.toList==[97,100,100])=true)∨((d.toList==[108,111,97,100])=false∧(d.toList==[97,100,100])=false∧(d.toList==[115,119,97,112])=true)∨((d.toList==[108,111,97,100])=false∧(d.toList==[97,100,100])=false∧(d.toList==[115,119,97,112])=false):=by
  cases x1:(d.toList==[108,111,97,100])
  ·cases x2:(d.toList==[97,100,100])<;>cases x3:(d.toList==[115,119,97,112])<;>simp
  ·have:d.toList=[108,111,97,100]:=by simpa using x1
   left;rw[this];decide
 rcases cl with ⟨y1,y2,y3⟩ | ⟨y1,y2⟩ | ⟨y1,y2,y3⟩ | ⟨y1,y2,y3⟩
 all_goals
  go_enter Tryz.func16,Tryz.ntmps16
  go_wp2_with fail
  refine (in_lst c R.regs _ _ rfl (by simp)).mono ?_
  rintro e w1 ⟨rfl,hb1⟩
  have s1:=StAt.below S0.out hb1
  obtain⟨f1,f2,c0,c1,c2,c3,c4,c5,c6,c7,c8⟩:=s1.xat.facts
  have d2:=s1.words 2 d rfl
  have hbl1:b<w1.heap.size:=by have:=s1.bel.size;omega
  have S1:=hide s1
  clear s1 hb1 S0 hd1
  go_wp2_with fail
  have s2:=(S1.out.set { R.x0 with reg:=R.inn c.toList R.regs } hblt 1 (.int .i64 (R.inn c.toList R.regs)) rfl).set { R.x0 with reg:=R.inn c.toList R.regs,op:=R.sSet } hblt 0 (.string R.sSet) rfl
  refine (opdR_any d _).mono ?_
  rintro e w2 ⟨rfl,hb2⟩
  have s3:=s2.below hb2
  clear c0 c1 c2 c3 c4 c5 c6 c7 c8 f1 f2
  obtain⟨f1,f2,c0,c1,c2,c3,c4,c5,c6,c7,c8⟩:=s3.xat.facts
  have S3:=hide s3
  clear s3 s2 hb2 S1 d2 hbl1
  have S:StAt w (w2.setCell ⟨w.heap.size+1,3,none⟩ (.int .i64 (R.opd d.toList).1)) b off ([c,e,d]) { R.x0 with reg:=R.inn c.toList R.regs,op:=R.sSet,a:=(R.opd d.toList).1 }:=S3.out.set { R.x0 with reg:=R.inn c.toList R.regs,op:=R.sSet,a:=(R.opd d.toList).1 } hblt 3 (.int .i64 (R.opd d.toList).1) rfl
  have HE:Hid (R.stOne c d=({ R.x0 with reg:=R.inn c.toList R.regs,op:=R.sSet,a:=(R.opd d.toList).1 },decide (0≤R.inn c.toList R.regs)&&(R.opd d.toList).2)):=rfl
  generalize (R.opd d.toList).2=o1 at *
  cases hg:decide (0≤R.inn c.toList R.regs)
  all_goals
   go_wp2_with (first | (refine wpList_load_ln (.tmp 4) rfl rfl (w.heap.size+1) _ (.slice none 0 0) rfl S.xat ?_) | (refine wpList_store_ln (.tmp 2) (.tmp 187) rfl rfl w.heap.size _ _ (.slice none 0 0) (.slice none 0 0) rfl rfl rfl (by exact S.res) ?_;intro w9 hs9 hgr9))
   rw[HE.out]
   refine ret_ln (p:=2) (u:=3) w.heap.size { R.x0 with reg:=R.inn c.toList R.regs,op:=R.sSet,a:=(R.opd d.toList).1 } _ (by kernel_rfl) rfl rfl hs9 rfl ⟨by rw[hg];rfl,S.done hgr9⟩
set_option maxHeartbeats 6400000 in
theorem rst_two (b off cap:Nat) (c e d s t:ByteArray) (w:World) (hw:WordsAt w b off ([c,e,d,s,t])) (hblt:b<w.heap.size) (hk0:(c.toList==[98,97,114,114,105,101,114])=false) (hk1:(c.toList==[102,101,110,99,101])=false) (hks:(c.toList==[115,116,111,114,101])=false) (he:(e.toList==[61])=true) (hl:(d.toList==[108,111,97,100])=false) :
  Calls Tryz.prog 16 #[.slice (some ⟨b,off,none⟩) 5 cap] w fun e w'=>e=.returned (lnVal (R.stTwo c d s t))∧Below w.heap.size w w':=by
 obtain⟨hd0,_,hw1⟩:=hw.head
 have S0:=hide (StAt.start w b off ([c,e,d,s,t]) R.x0 hw)
 obtain⟨hd1,_,_⟩:=hw1.head
 clear hw hw1
 have cl:((d.toList==[97,100,100])=true)∨((d.toList==[97,100,100])=false∧(d.toList==[115,119,97,112])=true)∨((d.toList==[97,100,100])=false∧(d.toList==[115,119,97,112])=false):=by
  cases x2:(d.toList==[97,100,100])<;>cases x3:(d.toList==[115,119,97,112])<;>simp
 rcases cl with y2 | ⟨y2,y3⟩ | ⟨y2,y3⟩
 all_goals
  go_enter Tryz.func16,Tryz.ntmps16
  go_wp2_with fail
  refine (in_lst c R.regs _ _ rfl (by simp)).mono ?_
  rintro e w1 ⟨rfl,hb1⟩
  have s1:=StAt.below S0.out hb1
  obtain⟨f1,f2,c0,c1,c2,c3,c4,c5,c6,c7,c8⟩:=s1.xat.facts
  have d2:=s1.words 2 d rfl
  have hbl1:b<w1.heap.size:=by have:=s1.bel.size;omega
  have S1:=hide s1
  clear s1 hb1 S0 hd1
  go_wp2_with fail
  have s2:=(S1.out.set { R.x0 with reg:=R.inn c.toList R.regs } hblt 1 (.int .i64 (R.inn c.toList R.regs)) rfl).set { R.x0 with reg:=R.inn c.toList R.regs,op:=R.sSet } hblt 0 (.string R.sSet) rfl
  refine (opdR_any d _).mono ?_
  rintro e w2 ⟨rfl,hb2⟩
  have s3:=s2.below hb2
  clear c0 c1 c2 c3 c4 c5 c6 c7 c8 f1 f2
  obtain⟨f1,f2,c0,c1,c2,c3,c4,c5,c6,c7,c8⟩:=s3.xat.facts
  have d3:=s3.words 3 s rfl
  have hbl2:b<w2.heap.size:=by have:=s3.bel.size;omega
  have S3:=hide s3
  clear s3 s2 hb2 S1 d2 hbl1
  go_wp2_with fail
  have s4:=(S3.out.set { R.x0 with reg:=R.inn c.toList R.regs,op:=R.sSet,a:=(R.opd d.toList).1 } hblt 3 (.int .i64 (R.opd d.toList).1) rfl).set { R.x0 with reg:=R.inn c.toList R.regs,op:=R.sSet,a:=(R.opd d.toList).1,sign:=s } hblt 5 (.string s) rfl
  refine (in_lst s R.signs _ _ rfl (by simp)).mono ?_
  rintro e w4 ⟨rfl,hb4⟩
  have s5:=s4.below hb4
  clear c0 c1 c2 c3 c4 c5 c6 c7 c8 f1 f2
  obtain⟨f1,f2,c0,c1,c2,c3,c4,c5,c6,c7,c8⟩:=s5.xat.facts
  have d4:=s5.words 4 t rfl
  have hbl4:b<w4.heap.size:=by have:=s5.bel.size;omega
  have S5:=hide s5
  clear s5 s4 hb4 S3 d3 hbl2
  go_wp2_with fail
  refine (opdR_any t _).mono ?_
  rintro e w5 ⟨rfl,hb5x⟩
  have s6:=S5.out.below hb5x
  clear c0 c1 c2 c3 c4 c5 c6 c7 c8 f1 f2
  obtain⟨f1,f2,c0,c1,c2,c3,c4,c5,c6,c7,c8⟩:=s6.xat.facts
  have S6:=hide s6
  clear s6 hb5x S5 d4 hbl4
  have S:StAt w (w5.setCell ⟨w.heap.size+1,4,none⟩ (.int .i64 (R.opd t.toList).1)) b off [c,e,d,s,t] { R.x0 with reg:=R.inn c.toList R.regs,op:=R.sSet,a:=(R.opd d.toList).1,sign:=s,b:=(R.opd t.toList).1 }:=S6.out.set { R.x0 with reg:=R.inn c.toList R.regs,op:=R.sSet,a:=(R.opd d.toList).1,sign:=s,b:=(R.opd t.toList).1 } hblt 4 (.int .i64 (R.opd t.toList).1) rfl
  clear c0 c1 c2 c3 c4 c5 c6 c7 c8 f1 f2
  obtain⟨f1,f2,c0,c1,c2,c3,c4,c5,c6,c7,c8⟩:=S6.out.xat.facts
  have HE:Hid (R.stTwo c d s t=({ R.x0 with reg:=R.inn c.toList R.regs,op:=R.sSet,a:=(R.opd d.toList).1,sign:=s,b:=(R.opd t.toList).1 },decide (0≤R.inn c.toList R.regs)&&(R.opd d.toList).2&&(R.opd t.toList).2&&decide (0≤R.inn s.toList R.signs))):=rfl
  generalize (R.opd d.toList).2=o1 at *
  generalize (R.opd t.toList).2=o2 at *
  have cc:decide (0≤R.inn c.toList R.regs)=false∨(decide (0≤R.inn c.toList R.regs)=true∧o1=false)∨(decide (0≤R.inn c.toList R.regs)=true∧o1=true∧o2=false)∨(decide (0≤R.inn c.toList R.regs)=true∧o1=true∧o2=true):=by
   cases decide (0≤R.inn c.toList R.regs)<;>cases o1<;>cases o2<;>simp
  rcases cc with hg | ⟨hg,rfl⟩ | ⟨hg,rfl,rfl⟩ | ⟨hg,rfl,rfl⟩
  all_goals
   go_wp2_with (first | (refine wpList_load_ln (.tmp 4) rfl rfl (w.heap.size+1) _ (.slice none 0 0) rfl S.xat ?_) | (refine wpList_store_ln (.tmp 2) (.tmp 212) rfl rfl w.heap.size _ _ (.slice none 0 0) (.slice none 0 0) rfl rfl rfl (by exact S.res) ?_;intro w9 hs9 hgr9))
   rw[HE.out]
   refine ret_ln (p:=2) (u:=3) w.heap.size { R.x0 with reg:=R.inn c.toList R.regs,op:=R.sSet,a:=(R.opd d.toList).1,sign:=s,b:=(R.opd t.toList).1 } _ (by kernel_rfl) rfl rfl hs9 rfl ⟨by rw[hg];rfl,S.done hgr9⟩
set_option maxHeartbeats 6400000 in
theorem rst_else (b off n cap:Nat) (c e d:ByteArray) (r:List ByteArray) (w:World) (hw:WordsAt w b off (c::e::d::r)) (hn:(c::e::d::r).length=n) (hblt:b<w.heap.size) (hk0:(c.toList==[98,97,114,114,105,101,114])=false) (hk1:(c.toList==[102,101,110,99,101])=false) (hks:(c.toList==[115,116,111,114,101]&&decide (4≤n))=false) (he:(e.toList==[61])=true) (h3:¬ n=3) (h5:¬ n=5) (hl:(d.toList==[108,111,97,100]&&decide (5≤n))=false) (ha:((d.toList==[97,100,100]||d.toList==[115,119,97,112])&&decide (6≤n))=false) :
  Calls Tryz.prog 16 #[.slice (some ⟨b,off,none⟩) n cap] w fun e w'=>e=.returned (lnVal (R.stElse c d))∧Below w.heap.size w w':=by
 obtain⟨hd0,_,hw1⟩:=hw.head
 have S0:=hide (StAt.start w b off (c::e::d::r) R.x0 hw)
 obtain⟨hd1,_,_⟩:=hw1.head
 have hi0:0<n:=by simp at hn;omega
 have hi1:(1:Int)<(n:Int):=by simp at hn;omega
 have hi2:(2:Int)<(n:Int):=by simp at hn;omega
 have hi3':¬ (n:Int)<3:=by simp at hn;omega
 have hd3:decide ((n:Int)<3)=false:=decide_eq_false hi3'
 have hb3:((n:Int)==3)=false:=by simp;omega
 have hb5:((n:Int) != 5)=true:=by rw[bne_iff_ne];omega
 have hks':(c.toList==[115,116,111,114,101])=false:=by
  have h4:decide (4≤n)=true:=by simp at hn ⊢;omega
  rw[h4] at hks;simpa using hks
 clear hks hn hw1 hw
 have cl:((d.toList==[108,111,97,100])=true∧(d.toList==[97,100,100])=false∧(d.toList==[115,119,97,112])=false∧¬ (4:Int)<(n:Int))∨((d.toList==[108,111,97,100])=false∧(d.toList==[97,100,100])=true∧¬ (5:Int)<(n:Int))∨((d.toList==[108,111,97,100])=false∧(d.toList==[97,100,100])=false∧(d.toList==[115,119,97,112])=true∧¬ (5:Int)<(n:Int))∨((d.toList==[108,111,97,100])=false∧(d.toList==[97,100,100])=false∧(d.toList==[115,119,97,112])=false):=by
  cases x1:(d.toList==[108,111,97,100])
  ·cases x2:(d.toList==[97,100,100])<;>cases x3:(d.toList==[115,119,97,112])<;>simp[x2,x3] at ha ⊢<;>omega
  ·have:d.toList=[108,111,97,100]:=by simpa using x1
   left;rw[x1] at hl;rw[this];refine⟨rfl,by decide,by decide,?_⟩;simp at hl;omega
 clear hl ha h3 h5
 rcases cl with ⟨y1,y2,y3,y4⟩ | ⟨y1,y2,y3⟩ | ⟨y1,y2,y3,y4⟩ | ⟨y1,y2,y3⟩
 all_goals
  go_enter Tryz.func16,Tryz.ntmps16
  go_wp2_with fail
  refine (in_lst c R.regs _ _ rfl (by simp)).mono ?_
  rintro e w1 ⟨rfl,hb1⟩
  have s1:=StAt.below S0.out hb1
  obtain⟨f1,f2,c0,c1,c2,c3,c4,c5,c6,c7,c8⟩:=s1.xat.facts
  have d2:=s1.words 2 d rfl
  have hbl1:b<w1.heap.size:=by have:=s1.bel.size;omega
  have S1:=hide s1
  clear s1 hb1 S0 hd1
  go_wp2_with fail
  have s2:=(S1.out.set { R.x0 with reg:=R.inn c.toList R.regs } hblt 1 (.int .i64 (R.inn c.toList R.regs)) rfl).set { R.x0 with reg:=R.inn c.toList R.regs,op:=R.sSet } hblt 0 (.string R.sSet) rfl
  refine (opdR_any d _).mono ?_
  rintro e w2 ⟨rfl,hb2⟩
  have s3:=s2.below hb2
  clear c0 c1 c2 c3 c4 c5 c6 c7 c8 f1 f2
  obtain⟨f1,f2,c0,c1,c2,c3,c4,c5,c6,c7,c8⟩:=s3.xat.facts
  have S3:=hide s3
  clear s3 s2 hb2 S1 d2 hbl1
  have S:StAt w (w2.setCell ⟨w.heap.size+1,3,none⟩ (.int .i64 (R.opd d.toList).1)) b off (c::e::d::r) { R.x0 with reg:=R.inn c.toList R.regs,op:=R.sSet,a:=(R.opd d.toList).1 }:=S3.out.set { R.x0 with reg:=R.inn c.toList R.regs,op:=R.sSet,a:=(R.opd d.toList).1 } hblt 3 (.int .i64 (R.opd d.toList).1) rfl
  have HE:Hid (R.stElse c d=({ R.x0 with reg:=R.inn c.toList R.regs,op:=R.sSet,a:=(R.opd d.toList).1 },false)):=rfl
  go_wp2_with (first | (refine wpList_load_ln (.tmp 4) rfl rfl (w.heap.size+1) _ (.slice none 0 0) rfl S.xat ?_) | (refine wpList_store_ln (.tmp 2) (.tmp 194) rfl rfl w.heap.size _ _ (.slice none 0 0) (.slice none 0 0) rfl rfl rfl (by exact S.res) ?_;intro w9 hs9 hgr9))
  rw[HE.out]
  exact ret_ln (p:=2) (u:=3) w.heap.size { R.x0 with reg:=R.inn c.toList R.regs,op:=R.sSet,a:=(R.opd d.toList).1 } false (by kernel_rfl) rfl rfl hs9 rfl ⟨rfl,S.done hgr9⟩
end Go.Proofs.YtpkjmdcabdplfaaGreatDoor
namespace Go.Proofs.YtpkjmdcabdplfaaGreatDoor
open Go Go.RowKit
theorem rst_any (b off n cap:Nat) (c:ByteArray) (r:List ByteArray) (w:World) (hw:WordsAt w b off (c::r)) (hn:(c::r).length=n) (hc:n≤cap) (hblt:b<w.heap.size) :
  Calls Tryz.prog 16 #[.slice (some ⟨b,off,none⟩) n cap] w fun e w'=>e=.returned (lnVal (R.stmt c r))∧Below w.heap.size w w':=by
 have hnr:r.length+1=n:=by simpa using hn
 unfold R.stmt
 cases hk0:(c.toList==[98,97,114,114,105,101,114])
 rotate_left
 ·exact rst_barrier b off n cap c r w hw hn hblt hk0
 cases hk1:(c.toList==[102,101,110,99,101])
 rotate_left
 ·exact rst_fence b off n cap c r w hw hn hc hblt hk0 hk1
 simp only[Bool.false_eq_true,if_false]
 cases hks:(c.toList==[115,116,111,114,101]&&decide (3≤r.length))
 rotate_left
 ·simp only[if_true]
  obtain⟨h1,h2⟩:(c.toList==[115,116,111,114,101])=true∧3≤r.length:=by simpa using hks
  match r,hw,hn,hnr,h2 with
  | p::v::q,hw,hn,hnr,h2=>exact rst_store b off n cap c p v q w hw hn hc hblt (by omega) hk0 hk1 h1
 simp only[Bool.false_eq_true,if_false]
 have hks':(c.toList==[115,116,111,114,101]&&decide (4≤n))=false:=by
  rw[← hks];congr 2;simp;omega
 match r,hw,hn,hnr with
 | [],hw,hn,hnr=>exact rst_short b off n cap c [] w hw hn hblt hk0 hk1 (by simp at hnr;omega)
 | [x],hw,hn,hnr=>exact rst_short b off n cap c [x] w hw hn hblt hk0 hk1 (by simp at hnr;omega)
 | e::d::q,hw,hn,hnr =>
  simp only[]
  cases he:(e.toList==[61])
  ·simp only[Bool.false_eq_true,if_false]
   exact rst_noeq b off n cap c e d q w hw hn hblt hk0 hk1 hks' he
  simp only[if_true]
  unfold R.assign
  have hq:q.length+3=n:=by simp at hnr;omega
  cases hl:(d.toList==[108,111,97,100]&&decide (2≤q.length))
  rotate_left
  ·simp only[if_true]
   obtain⟨h1,h2⟩:(d.toList==[108,111,97,100])=true∧2≤q.length:=by simpa using hl
   match q,hw,hn,hq,h2 with
   | p::t,hw,hn,hq,h2=>exact rst_load b off n cap c e d p t w hw hn hc hblt (by omega) hk0 hk1 hks' he h1
  simp only[Bool.false_eq_true,if_false]
  have hl':(d.toList==[108,111,97,100]&&decide (5≤n))=false:=by
   rw[← hl];congr 2;simp;omega
  cases ha:((d.toList==[97,100,100]||d.toList==[115,119,97,112])&&decide (3≤q.length))
  rotate_left
  ·simp only[if_true]
   obtain⟨h1,h2⟩:(d.toList==[97,100,100]||d.toList==[115,119,97,112])=true∧3≤q.length:=by simpa using ha
   have hdl:(d.toList==[108,111,97,100])=false:=by
    have:decide (5≤n)=true:=by simp;omega
    rw[this] at hl';simpa using hl'
   match q,hw,hn,hq,h2 with
   | p::v::t,hw,hn,hq,h2 =>
    cases hda:(d.toList==[97,100,100])
    ·exact rst_swap b off n cap c e d p v t w hw hn hc hblt (by omega) hk0 hk1 hks' he hdl hda (by simpa [hda] using h1)
    ·exact rst_add b off n cap c e d p v t w hw hn hc hblt (by omega) hk0 hk1 hks' he hdl hda
  simp only[Bool.false_eq_true,if_false]
  have ha':((d.toList==[97,100,100]||d.toList==[115,119,97,112])&&decide (6≤n))=false:=by
   rw[← ha];congr 2;simp;omega
  match q,hw,hn,hq with
  | [],hw,hn,hq =>
   have h3:n=3:=by simpa using hq.symm
   subst h3
   cases hst:(c.toList==[115,116,111,114,101])
   ·exact rst_one_a b off cap c e d w hw hblt hk0 hk1 he hst
   ·exact rst_one_b b off cap c e d w hw hblt hk0 hk1 he hst
  | [x],hw,hn,hq=>exact rst_else b off n cap c e d [x] w hw hn hblt hk0 hk1 hks' he (by simp at hq;omega) (by simp at hq;omega) hl' ha'
  | [s,t],hw,hn,hq =>
   have h5:n=5:=by simpa using hq.symm
   subst h5
   exact rst_two b off cap c e d s t w hw hblt hk0 hk1 (by simpa using hks') he (by simpa using hl')
  | x::y::z::t,hw,hn,hq=>exact rst_else b off n cap c e d (x::y::z::t) w hw hn hblt hk0 hk1 hks' he (by simp at hq;omega) (by simp at hq;omega) hl' ha'
end Go.Proofs.YtpkjmdcabdplfaaGreatDoor
