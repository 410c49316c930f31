import Derived.Test.YtonodfjdiepglaaGreatDoorL35
set_option linter.unusedVariables false
set_option linter.unusedSimpArgs false
set_option maxHeartbeats 12800000
namespace Go.Proofs.YtonodfjdiepglaaGreatDoor
open Go Go.RowKit Go.Proofs.Tryz P Q R
set_option maxRecDepth 1000000
open Or renaming inl→xF,inr→xR
open Go.World renaming cell?_setCell_other→xW
open Go.Value renaming slice→x1,oneCell'→x2
open Nat renaming le_refl→x3,le_trans→x5,lt_of_lt_of_le→x8
open Go.RowKit.Below renaming refl→x4
open List renaming length_cons→x6,flatMap_cons→x9
open Option renaming isSome→x7
theorem zED (c:Nat) (A:WA) (a:List (List Run)) (I:Option RS) (ds:List Int) (rest:List (List Int)) (w:World) (h:Et w c A a I ds rest) (hn:a.length<20) (hb:∀ r∈a,r.length<100000000) (aI:∀ rs∈a,∀ r∈rs,r.regs.length=4/\∀ e∈r.Ea,e.Ef<M64) (hW:∀ d,kAy (zBh a) d->WdOk (zMj a d)) :
  Calls prog 39 #[.pointer (some ⟨c,0,none⟩)] w fun e w'=>∃ b,e=.returned (.bool b)/\zKL w w' c A a I (dP a I rest) b:=by
 have H0:Hid (qW w c A a I (dP a I rest) w rest.length):=⟨I,ds,rest,h,rfl,rfl,Eo.refl _ _ _ _,fun k h=>xF h,fun k h=>xF h⟩;have HB:=zAa hb;have aF:=zAa aI;have HW:=zAa hW;generalize dP a I rest=R0 at *;clear h hb aI hW;obtain⟨μ,hμ⟩:=xT (qW w c A a I R0);have ah:=zAa hμ;clear hμ;go_enter func39,ntmps39;go_wp2;go_loopw [] (fun wr=>∃ n,Hid (qW w c A a I R0 wr n)) (fun wr=>μ wr)
 case atStart=>exact⟨_,H0⟩
 case round =>
  obtain⟨hI,aH⟩:=ah.out wr (by obtain⟨n,h⟩:=hrel;exact⟨n,h.out⟩);clear hrel aH;obtain⟨aX,aa,m,hC,hR,ab,hF,hN⟩:=hI;have HC:=zAa hC;have HR:=zAa hR;have HL:=zAa ab;have HF:=zAa hF;have HN:=zAa hN;have aV:=hC.box.lt;have M:=hC.beg;clear hC hR ab hF hN
  cases aX with
  | none =>
   simp only[x7] at M;have o:Hid (CandW wr c A a aa m):=⟨HC.out.box,HC.out.ws,_,M⟩;have K:=HR;have af:=HF;clear HC HR HF HN;go_wp2_with (first
    | (go_at_call 70;obtain⟨bb,x⟩:=o.out.beg;obtain⟨cc,T,_⟩:=id o.out.box;refine (zFc c 13 A.rv A.vs A.wss A.gb A.gd a aa m cc 84 _ o.out.ws T (by decide) (by decide) (by decide) (by omega) HB.out).mono ?_;clear T;rintro e w3 ⟨f,H⟩;have aW:=(H.cell 21 (by omega)).trans x;have z:=zAa (o.out.box.cG H);have pf:=z.out.free;have aT:=z.out.lt;have F3:=zAa (af.out.cG H (xF rfl));clear H x;rcases f with ⟨F,rfl⟩ | ⟨d,q,F,rfl,Z,v⟩)
    | (go_at_call 71;have ae:=zAa v;have g:=zAa (HW.out d v);have C4:=zAa (CW.start z.out Z F3.out);clear Z v;refine (zGa c 13 A.rv A.vs A.wss A.gb A.gd a d q _ C4.out.ws ae.out (by omega) g.out.le aF.out).mono ?_;rintro e w5 ⟨ev,rg,rfl,l,j,S⟩;have C5:=zAa (C4.out.below S);have ao:=zAa l;have an:Hid (rg.ownBlock≠some c):=(fun e=>by have:=j c e;have:=C4.out.box.lt;omega);have al:Hid (∀ k,rg.ownBlock=some k->k<w5.heap.size):=(fun k e=>l.regs.eB k e);have am:Hid (∀ k,rg.ownBlock=some k->w.heap.size<=k):=(fun k e=>x5 C4.out.fr.size (j k e));obtain⟨ea,ec,ax,_⟩:=l.evs.form;obtain⟨ra,rc,aB,_⟩:=l.regs.form;clear l j S;subst ax aB)
    | (refine wpList_store_mid rfl 70 (.tmp 29) (.tmp 27) rfl c 0 #[.slice ea (zMj a d).Ea.length ec,.slice ra (zMj a d).regs.length rc] rfl rfl (C5.out.box.there 0 2 (by decide)) (by kernel_rfl) (by simp[x2]) ?_;have D6:=zAa (CW1.start ao.out an.out C5.out.box);have C6:=zAa (C5.out.set 0 [.slice ea (zMj a d).Ea.length ec,.slice ra (zMj a d).regs.length rc] (xF (by simp)));have S6:w5.heap.size<=(w5.setCells c 0 [.slice ea (zMj a d).Ea.length ec,.slice ra (zMj a d).regs.length rc]).heap.size:=(by rw[mY];exact x3 _);generalize w5.setCells c 0 [.slice ea (zMj a d).Ea.length ec,.slice ra (zMj a d).regs.length rc]=w6 at *;have aL:=D6.out.c0;have aM:=D6.out.c1;have aU:=C6.out.box.lt)
    | (go_at_call 72;refine (zEA _ (zMj a d).Ea _ D6.out.wdi.evs g.out.pos g.out.le g.out.Ef).mono ?_;rintro e w7 ⟨O,rfl,aR,i,p⟩;have C7:=zAa (C6.out.below p);have D7:=zAa (D6.out.below C6.out.box p);have ac:=zAa i;obtain⟨fx,aP,V,_⟩:=i.form;have S7:=p.size;clear i p)
    | (refine wpList_store_mid rfl 75 (.tmp 38) (.tmp 36) rfl c 2 (zAn O) rfl rfl (C7.out.box.there 2 10 (by decide)) (by kernel_rfl) (by simp[zAn,V,x2]) ?_;have E8:=zAa (CW2.start ac.out C7.out.box);have G:=zAa (C7.out.set 2 (zAn O).toList (xF (by simp[zAn])));have D8:=zAa (D7.out.set C7.out.box 2 (zAn O).toList (by simp[zAn]) (by decide));have S8:w7.heap.size<=(w7.setCells c 2 (zAn O).toList).heap.size:=(by rw[mY];exact x3 _);generalize w7.setCells c 2 (zAn O).toList=w8 at *;have aN:=D8.out.c0;have aO:=D8.out.c1;have aD:=G.out.box.lt)
    | (go_at_call 73;refine (zDL _ _ (zMj a d).Ea _ D8.out.wdi.evs ⟨_,_,_,rfl⟩ g.out.le).mono ?_;rintro e w9 ⟨cv,aG,D,E,rfl,C,W,X,ay,az,av,y,U,t⟩;have C9:=zAa (G.out.below t);have D9:=zAa (D8.out.below G.out.box t);have E9:=zAa (E8.out.below G.out.box t);obtain⟨ca,B,aw,_⟩:=C.form;subst aw;have L:=zAa C;have aj:=zAa W;have ak:=zAa X;have J:=zAa U;have ad:=zAa y;clear C W X U y t)
    | (refine wpList_store_mid rfl 82 (.tmp 46) (.tmp 44) rfl c 17 #[.slice ca (zMf (zMj a d).Ea).length B,.slice (some ⟨D,0,none⟩) (zMf (zMj a d).Ea).length (zMf (zMj a d).Ea).length,.slice (some ⟨E,0,none⟩) (zMf (zMj a d).Ea).length (zMf (zMj a d).Ea).length,.bool false] rfl rfl (C9.out.box.there 17 4 (by decide)) (by kernel_rfl) (by simp[x2]) ?_))
   ·go_wp2;go_ret;exact⟨false,rfl,F3.out,xF ⟨rfl,by rw[<- K.out,F];rfl⟩⟩
   ·obtain⟨aK,⟨_,_,_,_,_,ap,aq,_,_,_,_⟩,_⟩:=G.out.ws.ctr;have hA:=ap.lt;have ar:=aq.lt;have au:=zHv C9.out D9.out E9.out L.out aj.out ak.out ay az av ad.out J.out aD ⟨hA,ar⟩ (fun k e=>by have:=al.out k e;omega) g.out;have F9:=C9.out.fr.set 17 [.slice ca (zMf (zMj a d).Ea).length B,.slice (some ⟨D,0,none⟩) (zMf (zMj a d).Ea).length (zMf (zMj a d).Ea).length,.slice (some ⟨E,0,none⟩) (zMf (zMj a d).Ea).length (zMf (zMj a d).Ea).length,.bool false];have aJ:=G.out.fr.size;have hR:qW w c A a I R0 (w9.setCells c 17 [.slice ca (zMf (zMj a d).Ea).length B,.slice (some ⟨D,0,none⟩) (zMf (zMj a d).Ea).length (zMf (zMj a d).Ea).length,.slice (some ⟨E,0,none⟩) (zMf (zMj a d).Ea).length (zMf (zMj a d).Ea).length,.bool false]) q.length:=by
     refine⟨_,_,_,au,?_,rfl,F9,fun k hk=>xR ?_,fun k hk=>xR ?_⟩
     ·rw[<- K.out,F];simp[dP,sS]
     ·obtain⟨s',N,aA⟩:=hk;simp only[Option.some.injEq] at N;subst N
      rcases aA with f | f | ⟨u,hu,f⟩ | f | f
      ·exact am.out k f
      ·have:=(L.out.own.lt k f).1;omega
      ·have:=(J.out u hu k f).1;omega
      ·simp only at f;omega
      ·simp only at f;omega
     ·obtain⟨s',N,e2⟩:=hk;simp only[Option.some.injEq] at N;subst N;simp only at e2;omega
    go_roundw
    case rel =>
     (repeat apply Exists.intro)
     exact⟨⟨_,hR⟩,rfl⟩
    case measure =>
     have f:=(ah.out _ ⟨_,hR⟩).2 _ hR;have h2:=HL.out;rw[F] at h2;simp only[x6] at h2;omega
  | some s =>
   simp only[x7] at M;obtain⟨Y,aC⟩:=HC.out.rs s rfl;have ai:=zAa Y.rd;have ag:Hid (s.R.gd=A.gd\/gdS I s.R.gd\/w.heap.size<=s.R.gd):=by
    rcases HN.out.2 s.R.gd ⟨s,rfl,rfl⟩ with f | f
    ·exact xR (xF f)
    ·exact xR (xR f)
   have aQ:(zMf s.wd.Ea).length<10000:=by rw[zOB];have:=aC.le;omega
   have aE:=zAa (kKq s.wd.Ea aC.le);clear Y aC;go_upto_region 2 with (first | (go_at_call 69;refine (zIo c 17 s.R.cv s.R.cvs s.R.gb s.R.gd (zMf s.wd.Ea) s.ds s.rest _ ai.out aQ aE.out).mono ?_;rintro e w2 ⟨f,H⟩;have HT:=zAa H;clear H;rcases f with ⟨F,rfl⟩ | ⟨r,q,F,rfl,aS,v⟩))
   ·have o:Hid (CandW w2 c A a aa m):=by
     have Y:=(HC.out.rs s rfl).1;obtain⟨b,hc⟩:=ai.out.ctr.ctr;exact⟨HC.out.box.cG HT.out,zJB HC.out.ws HT.out HC.out.box Y.n1 Y.n2 hc.digits,_,(HT.out.cell _ (by omega)).trans M⟩
    have K:Hid (dP a none m=R0):=by unfold Hid;rw[<- HR.out];simp[dP,F]
    have af:=zAa (HF.out.cG HT.out ag.out);clear HC HR HF HN HT ai ag aE M aV F;go_wp2_with (first
     | (go_at_call 70;obtain⟨bb,x⟩:=o.out.beg;obtain⟨cc,T,_⟩:=id o.out.box;refine (zFc c 13 A.rv A.vs A.wss A.gb A.gd a aa m cc 84 _ o.out.ws T (by decide) (by decide) (by decide) (by omega) HB.out).mono ?_;clear T;rintro e w3 ⟨f,H⟩;have aW:=(H.cell 21 (by omega)).trans x;have z:=zAa (o.out.box.cG H);have pf:=z.out.free;have aT:=z.out.lt;have F3:=zAa (af.out.cG H (xF rfl));clear H x;rcases f with ⟨F,rfl⟩ | ⟨d,q,F,rfl,Z,v⟩)
     | (go_at_call 71;have ae:=zAa v;have g:=zAa (HW.out d v);have C4:=zAa (CW.start z.out Z F3.out);clear Z v;refine (zGa c 13 A.rv A.vs A.wss A.gb A.gd a d q _ C4.out.ws ae.out (by omega) g.out.le aF.out).mono ?_;rintro e w5 ⟨ev,rg,rfl,l,j,S⟩;have C5:=zAa (C4.out.below S);have ao:=zAa l;have an:Hid (rg.ownBlock≠some c):=(fun e=>by have:=j c e;have:=C4.out.box.lt;omega);have al:Hid (∀ k,rg.ownBlock=some k->k<w5.heap.size):=(fun k e=>l.regs.eB k e);have am:Hid (∀ k,rg.ownBlock=some k->w.heap.size<=k):=(fun k e=>x5 C4.out.fr.size (j k e));obtain⟨ea,ec,ax,_⟩:=l.evs.form;obtain⟨ra,rc,aB,_⟩:=l.regs.form;clear l j S;subst ax aB)
     | (refine wpList_store_mid rfl 70 (.tmp 29) (.tmp 27) rfl c 0 #[.slice ea (zMj a d).Ea.length ec,.slice ra (zMj a d).regs.length rc] rfl rfl (C5.out.box.there 0 2 (by decide)) (by kernel_rfl) (by simp[x2]) ?_;have D6:=zAa (CW1.start ao.out an.out C5.out.box);have C6:=zAa (C5.out.set 0 [.slice ea (zMj a d).Ea.length ec,.slice ra (zMj a d).regs.length rc] (xF (by simp)));have S6:w5.heap.size<=(w5.setCells c 0 [.slice ea (zMj a d).Ea.length ec,.slice ra (zMj a d).regs.length rc]).heap.size:=(by rw[mY];exact x3 _);generalize w5.setCells c 0 [.slice ea (zMj a d).Ea.length ec,.slice ra (zMj a d).regs.length rc]=w6 at *;have aL:=D6.out.c0;have aM:=D6.out.c1;have aU:=C6.out.box.lt)
     | (go_at_call 72;refine (zEA _ (zMj a d).Ea _ D6.out.wdi.evs g.out.pos g.out.le g.out.Ef).mono ?_;rintro e w7 ⟨O,rfl,aR,i,p⟩;have C7:=zAa (C6.out.below p);have D7:=zAa (D6.out.below C6.out.box p);have ac:=zAa i;obtain⟨fx,aP,V,_⟩:=i.form;have S7:=p.size;clear i p)
     | (refine wpList_store_mid rfl 75 (.tmp 38) (.tmp 36) rfl c 2 (zAn O) rfl rfl (C7.out.box.there 2 10 (by decide)) (by kernel_rfl) (by simp[zAn,V,x2]) ?_;have E8:=zAa (CW2.start ac.out C7.out.box);have G:=zAa (C7.out.set 2 (zAn O).toList (xF (by simp[zAn])));have D8:=zAa (D7.out.set C7.out.box 2 (zAn O).toList (by simp[zAn]) (by decide));have S8:w7.heap.size<=(w7.setCells c 2 (zAn O).toList).heap.size:=(by rw[mY];exact x3 _);generalize w7.setCells c 2 (zAn O).toList=w8 at *;have aN:=D8.out.c0;have aO:=D8.out.c1;have aD:=G.out.box.lt)
     | (go_at_call 73;refine (zDL _ _ (zMj a d).Ea _ D8.out.wdi.evs ⟨_,_,_,rfl⟩ g.out.le).mono ?_;rintro e w9 ⟨cv,aG,D,E,rfl,C,W,X,ay,az,av,y,U,t⟩;have C9:=zAa (G.out.below t);have D9:=zAa (D8.out.below G.out.box t);have E9:=zAa (E8.out.below G.out.box t);obtain⟨ca,B,aw,_⟩:=C.form;subst aw;have L:=zAa C;have aj:=zAa W;have ak:=zAa X;have J:=zAa U;have ad:=zAa y;clear C W X U y t)
     | (refine wpList_store_mid rfl 82 (.tmp 46) (.tmp 44) rfl c 17 #[.slice ca (zMf (zMj a d).Ea).length B,.slice (some ⟨D,0,none⟩) (zMf (zMj a d).Ea).length (zMf (zMj a d).Ea).length,.slice (some ⟨E,0,none⟩) (zMf (zMj a d).Ea).length (zMf (zMj a d).Ea).length,.bool false] rfl rfl (C9.out.box.there 17 4 (by decide)) (by kernel_rfl) (by simp[x2]) ?_))
    ·go_wp2;go_ret;exact⟨false,rfl,F3.out,xF ⟨rfl,by rw[<- K.out,F];rfl⟩⟩
    ·obtain⟨aK,⟨_,_,_,_,_,ap,aq,_,_,_,_⟩,_⟩:=G.out.ws.ctr;have hA:=ap.lt;have ar:=aq.lt;have au:=zHv C9.out D9.out E9.out L.out aj.out ak.out ay az av ad.out J.out aD ⟨hA,ar⟩ (fun k e=>by have:=al.out k e;omega) g.out;have F9:=C9.out.fr.set 17 [.slice ca (zMf (zMj a d).Ea).length B,.slice (some ⟨D,0,none⟩) (zMf (zMj a d).Ea).length (zMf (zMj a d).Ea).length,.slice (some ⟨E,0,none⟩) (zMf (zMj a d).Ea).length (zMf (zMj a d).Ea).length,.bool false];have aJ:=G.out.fr.size;have hR:qW w c A a I R0 (w9.setCells c 17 [.slice ca (zMf (zMj a d).Ea).length B,.slice (some ⟨D,0,none⟩) (zMf (zMj a d).Ea).length (zMf (zMj a d).Ea).length,.slice (some ⟨E,0,none⟩) (zMf (zMj a d).Ea).length (zMf (zMj a d).Ea).length,.bool false]) q.length:=by
      refine⟨_,_,_,au,?_,rfl,F9,fun k hk=>xR ?_,fun k hk=>xR ?_⟩
      ·rw[<- K.out,F];simp[dP,sS]
      ·obtain⟨s',N,aA⟩:=hk;simp only[Option.some.injEq] at N;subst N
       rcases aA with f | f | ⟨u,hu,f⟩ | f | f
       ·exact am.out k f
       ·have:=(L.out.own.lt k f).1;omega
       ·have:=(J.out u hu k f).1;omega
       ·simp only at f;omega
       ·simp only at f;omega
      ·obtain⟨s',N,e2⟩:=hk;simp only[Option.some.injEq] at N;subst N;simp only at e2;omega
     go_roundw
     case rel =>
      (repeat apply Exists.intro)
      exact⟨⟨_,hR⟩,rfl⟩
     case measure =>
      have f:=(ah.out _ ⟨_,hR⟩).2 _ hR;have h2:=HL.out;rw[F] at h2;simp only[x6] at h2;omega
   ·go_wp2;go_ret;exact⟨true,rfl,qW.some HC.out HR.out HF.out HN.out HT.out F aS v (HF.out.cG HT.out ag.out)⟩
namespace Q
def zMX (p:Wd × List Int):Cand:=⟨p.1,zMv p.1.Ea,(zMv p.1.Ea).reads (gB (zMf p.1.Ea) p.2)⟩
def eE (l:List (Wd × List Int)):List Cand:=(l.map zMX).filter fun c=>!c.facts.cH c.reads
theorem kHD (p:Wd × List Int) (l:List (Wd × List Int)):eE (p::l)=if (zMX p).facts.cH (zMX p).reads then eE l else zMX p::eE l:=by
 unfold eE;rw[List.map_cons,List.filter_cons]
 cases (zMX p).facts.cH (zMX p).reads<;>rfl
theorem kHq (cs:List (List Int)) (a:List Int):(gB cs a).length=cs.length:=by simp[gB]
end Q
structure CandNow (w:World) (gc:Nat) (A:WA) (rss:List (List Run)) (s:RS) (ds:List Int) (rest:List (List Int)) (gr:Nat):Prop where
 on:Et w gc A rss (some s) ds rest
 c12:w.cell? ⟨gc,12,none⟩=some (.slice (some ⟨gr,0,none⟩) s.R.fa.n s.R.fa.n)
 rel:Eh w gr s.R.fa.n (zMX (s.wd,s.ds)).reads
def zLQ (w w':World) (gc:Nat) (A:WA) (rss:List (List Run)) (st:Option RS) (cs:List Cand) (b:Bool):Prop :=
 Eo w w' gc A st/\((b=false/\cs=[])\/(b=true/\∃ s ds rest gr,CandNow w' gc A rss s ds rest gr/\cs=zMX (s.wd,s.ds)::eE (dP rss (some s) rest)/\(∀ k,s.R.nb k->nbS st k\/w.heap.size<=k)/\(gdS st s.R.gd\/w.heap.size<=s.R.gd)))
def yB (w:World) (gc:Nat) (A:WA) (rss:List (List Run)) (st:Option RS) (C0:List Cand) (wr:World) (n:Nat):Prop :=
 ∃ st1 ds1 rest1,Et wr gc A rss st1 ds1 rest1/\eE (dP rss st1 rest1)=C0/\(dP rss st1 rest1).length=n/\Eo w wr gc A st/\(∀ k,nbS st1 k->nbS st k\/w.heap.size<=k)/\∀ k,gdS st1 k->gdS st k\/w.heap.size<=k
theorem Et.vE {w:World} {c:Nat} {A:WA} {l:List (List Run)} {s:RS} {y:List Int} {rest:List (List Int)} (h:Et w c A l (some s) y rest) (v:Value):Et (w.setCell ⟨c,12,none⟩ v) c A l (some s) y rest/\(w.setCell ⟨c,12,none⟩ v).cell? ⟨c,12,none⟩=some v/\∀ k,k≠c->(w.setCell ⟨c,12,none⟩ v).heap[k]?=w.heap[k]?:=by
 obtain⟨m,I,d,f⟩:=h.box.set 12 [v] (by simp);obtain⟨J,o,_⟩:=id h.box;obtain⟨a,p⟩:=h.rs s rfl;obtain⟨b,N⟩:=a.rd.ctr.ctr;refine⟨⟨m,WsOn.FH h.ws o (by decide) (by decide) (by decide) (fun j L M=>d j (xR (by simp;omega))) (fun j=>m.free j) f (by simp),(d 21 (xR (by simp))).trans h.beg,fun O g=>?_⟩,I 0 _ rfl,f⟩;simp only[Option.some.injEq] at g;subst g;refine⟨⟨(d 0 (xF (by decide))).trans a.c0,(d 1 (xF (by decide))).trans a.c1,DY a.wdi a.n3.2 h.box 12 [v] (by simp),World.rangeAt_setCells_apart a.fc c 12 [v] (xR (xF (by simp[zAn]))),DH a.fin h.box 12 [v] (by simp),⟨(d 17 (xR (by simp))).trans a.rd.c0,?_,?_,a.rd.nc,a.rd.ne⟩,a.n1,a.n2,a.n3⟩,p⟩
 ·exact⟨aX a.rd.rows.own (fun k e=>f k (fun E=>a.rd.nc.2 (by rw[e,E]))),a.rd.rows.len,fun i G x z=>(a.rd.rows.rows i G x z).own _ (fun k e=>f k (a.rd.ne x (List.mem_of_getElem? z) k e).2) (by simp)⟩
 ·obtain⟨b,⟨n,u,B,K,cl,C,D,q,r,t,H⟩,F⟩:=a.rd.ctr;exact⟨b,⟨(d 18 (xR (by simp))).trans n,(d 19 (xR (by simp))).trans u,(d 20 (xR (by simp))).trans B,m.free,by simpa using cl,C.aA (f _ (fun e=>r e.symm)),D.aA (f _ (fun e=>q e.symm)),q,r,t,H⟩,F⟩
theorem zGc (a:Nat) (A:WA) (g:List (List Run)) (y:Option RS) (ds:List Int) (rest:List (List Int)) (w:World) (h:Et w a A g y ds rest) (hn:g.length<20) (hb:∀ r∈g,r.length<100000000) (aN:∀ rs∈g,∀ r∈rs,r.regs.length=4/\∀ e∈r.Ea,e.Ef<M64) (hW:∀ d,kAy (zBh g) d->WdOk (zMj g d)) :
  Calls prog 22 #[.pointer (some ⟨a,0,none⟩)] w fun e l=>∃ b,e=.returned (.bool b)/\zLQ w l a A g y (eE (dP g y rest)) b:=by
 have H0:Hid (yB w a A g y (eE (dP g y rest)) w (dP g y rest).length):=⟨y,ds,rest,h,rfl,rfl,Eo.refl _ _ _ _,fun k h=>xF h,fun k h=>xF h⟩;have HB:=zAa hb;have aS:=zAa aN;have HW:=zAa hW;generalize eE (dP g y rest)=C0 at *;generalize (dP g y rest).length=N0 at *;clear h hb aN hW;obtain⟨μ,hμ⟩:=xT (yB w a A g y C0);have au:=zAa hμ;clear hμ;go_enter func22,ntmps22;go_wp2;go_loopw [] (fun wr=>∃ n,Hid (yB w a A g y C0 wr n)) (fun wr=>μ wr)
 case atStart=>exact⟨_,H0⟩
 case round =>
  obtain⟨hI,aL⟩:=au.out wr (by obtain⟨n,h⟩:=hrel;exact⟨n,h.out⟩);clear hrel aL;obtain⟨al,aT,x,hC,hR,ah,hF,hN,hG⟩:=hI;have HC:=zAa hC;have HR:=zAa hR;have HL:=zAa ah;have HF:=zAa hF;have HN:=zAa hN;have HG:=zAa hG;have ba:=hC.box.lt;clear hC hR ah hF hN hG;go_upto_region 2 with (first | (go_at_call 39;refine (zED a A g al aT x _ HC.out hn HB.out aS.out HW.out).mono ?_;rintro e v ⟨b,rfl,aH,o⟩;have F2:=zAa (HF.out.trans aH HG.out);clear aH;rcases o with ⟨rfl,D⟩ | ⟨rfl,s,aY,q,U,D,aG,aM,aI⟩))
  ·go_wp2;go_ret;exact⟨false,rfl,F2.out,xF ⟨rfl,by rw[<- HR.out,D];rfl⟩⟩
  ·have CN:=zAa U;have ae:=zAa D;have aq:=zAa aG;obtain⟨ac,ad⟩:=U.rs s rfl;have aj:=zAa ac;have aX:=zAa ad;have aw:=zAa HF.out.size;have av:Hid (∀ k,s.R.nb k->nbS y k\/w.heap.size<=k):=fun k hk=>by
    rcases aM k hk with o | o
    ·exact HN.out k o
    ·exact xR (x5 aw.out o)
   have ar:Hid (gdS y s.R.gd\/w.heap.size<=s.R.gd):=by
    rcases aI with o | o
    ·exact HG.out _ o
    ·exact xR (x5 aw.out o)
   have j:=U.box.lt;have ai:=zAa U.box;obtain⟨H,m,ag,_⟩:=ac.fin.form;have aV:(zMf s.wd.Ea).length<1000:=by rw[zOB];have:=ad.le;omega
   have ap:Hid (∀ c∈zMf s.wd.Ea,c.length<1000):=fun c hc=>by have:=kEs s.wd.Ea ad.le c hc;omega
   have aa:Hid ((gB (zMf s.wd.Ea) s.ds).length=(zMf s.wd.Ea).length):=kHq _ _;have f:=ac.fc;obtain⟨⟨ab,rg,fa,cv,G,Y,Z⟩,i,F,rr⟩:=s;obtain⟨n,ev,I,J,K,L,M,N,O,S,T⟩:=fa;simp only at ag f aV;subst ag;have k0:v.cell? ⟨a,2,none⟩=some (.slice H n m):=f 0 _ rfl;have k1:v.cell? ⟨a,3,none⟩=some (.slice (some ⟨I,0,none⟩) n n):=f 1 _ rfl;have k2:v.cell? ⟨a,4,none⟩=some (.slice (some ⟨J,0,none⟩) n n):=f 2 _ rfl;have k3:v.cell? ⟨a,5,none⟩=some (.slice (some ⟨K,0,none⟩) n n):=f 3 _ rfl;have k4:v.cell? ⟨a,6,none⟩=some (.slice (some ⟨L,0,none⟩) n n):=f 4 _ rfl;have k5:v.cell? ⟨a,7,none⟩=some (.slice (some ⟨M,0,none⟩) n n):=f 5 _ rfl;have k6:v.cell? ⟨a,8,none⟩=some (.slice (some ⟨N,0,none⟩) n n):=f 6 _ rfl;have k7:v.cell? ⟨a,9,none⟩=some (.slice (some ⟨O,0,none⟩) n n):=f 7 _ rfl;have k8:v.cell? ⟨a,10,none⟩=some (.slice (some ⟨S,0,none⟩) n n):=f 8 _ rfl;have k9:v.cell? ⟨a,11,none⟩=some (.slice (some ⟨T,0,none⟩) n n):=f 9 _ rfl;have aB:=ai.out.free 12;have aP:=(ai.out.there 12 1 (by decide) 0 (by decide)).1;obtain⟨bb,ak⟩:=Option.isSome_iff_exists.1 aP;simp only[Nat.add_zero] at ak;clear U D aG ac ad aM aI f aP;go_region_held3 (fun l=>l.cell? ⟨a,2,none⟩=some (.slice H n m)/\l.cell? ⟨a,3,none⟩=some (.slice (some ⟨I,0,none⟩) n n)/\l.cell? ⟨a,4,none⟩=some (.slice (some ⟨J,0,none⟩) n n)/\l.cell? ⟨a,5,none⟩=some (.slice (some ⟨K,0,none⟩) n n)/\l.cell? ⟨a,6,none⟩=some (.slice (some ⟨L,0,none⟩) n n)/\l.cell? ⟨a,7,none⟩=some (.slice (some ⟨M,0,none⟩) n n)/\l.cell? ⟨a,8,none⟩=some (.slice (some ⟨N,0,none⟩) n n)/\l.cell? ⟨a,9,none⟩=some (.slice (some ⟨O,0,none⟩) n n)/\l.cell? ⟨a,10,none⟩=some (.slice (some ⟨S,0,none⟩) n n)/\l.cell? ⟨a,11,none⟩=some (.slice (some ⟨T,0,none⟩) n n)) (first | exact⟨k0,k1,k2,k3,k4,k5,k6,k7,k8,k9⟩ | exact⟨m0,m1,m2,m3,m4,m5,m6,m7,m8,m9⟩ | exact⟨z0,z1,z2,z3,z4,z5,z6,z7,z8,z9⟩ | exact⟨(xW _ _ _ _ (by simp)).trans z0,(xW _ _ _ _ (by simp)).trans z1,(xW _ _ _ _ (by simp)).trans z2,(xW _ _ _ _ (by simp)).trans z3,(xW _ _ _ _ (by simp)).trans z4,(xW _ _ _ _ (by simp)).trans z5,(xW _ _ _ _ (by simp)).trans z6,(xW _ _ _ _ (by simp)).trans z7,(xW _ _ _ _ (by simp)).trans z8,(xW _ _ _ _ (by simp)).trans z9⟩) (first
    | (go_at_call_of 40 (Value.agg #[x1 H n m,x1 (some ⟨I,0,none⟩) n n,x1 (some ⟨J,0,none⟩) n n,x1 (some ⟨K,0,none⟩) n n,x1 (some ⟨L,0,none⟩) n n,x1 (some ⟨M,0,none⟩) n n,x1 (some ⟨N,0,none⟩) n n,x1 (some ⟨O,0,none⟩) n n,x1 (some ⟨S,0,none⟩) n n,x1 (some ⟨T,0,none⟩) n n]);refine (zHP (FA.mk n (.slice H n m) I J K L M N O S T) (zMv i.Ea) _ (gB (zMf i.Ea) F) _ an.out ay.out (by rw[aa.out];omega)).mono ?_;rintro e w4 ⟨gr,rfl,hrel,aE⟩;have t:Hid (Below v.heap.size v w4):=aK z.out (x3 _) aE;have u:=zAa hrel;have aW:=aC t.out j ak;have qf:=(t.out.frozen (p:=⟨a,12,none⟩) j).trans aB;have lq:=x8 j t.out.size;have z0:=aC t.out j k0;have z1:=aC t.out j k1;have z2:=aC t.out j k2;have z3:=aC t.out j k3;have z4:=aC t.out j k4;have z5:=aC t.out j k5;have z6:=aC t.out j k6;have z7:=aC t.out j k7;have z8:=aC t.out j k8;have z9:=aC t.out j k9;clear hrel aE)
    | (go_at_call 41;refine (zIp a 17 cv G Y Z (zMf i.Ea) F rr _ (aj.out.rd.below (x4 _ _).drew) aq.out (by omega) ap.out).mono ?_;rintro e w3 ⟨gi,rfl,V,aZ,aD⟩;have z:Hid (Below v.heap.size v w3):=((x4 v.heap.size v).drew).trans (aD.mono (by simp));have ay:Hid (zCj w3 (.slice (some ⟨gi,0,none⟩) (zMf i.Ea).length (zMf i.Ea).length) (gB (zMf i.Ea) F)):=(by have h9:=V.jK (zMf i.Ea).length (by rw[aa.out];exact x3 _);rw[aa.out] at h9;exact h9);have an:=zAa (aj.out.fin.below z.out);have l3:=x8 j z.out.size;have m0:=aC z.out j k0;have m1:=aC z.out j k1;have m2:=aC z.out j k2;have m3:=aC z.out j k3;have m4:=aC z.out j k4;have m5:=aC z.out j k5;have m6:=aC z.out j k6;have m7:=aC z.out j k7;have m8:=aC z.out j k8;have m9:=aC z.out j k9;clear V aD))
   obtain⟨C,az,aJ⟩:=(CN.out.below t.out).vE (.slice (some ⟨gr,0,none⟩) n n);have aQ:=zAa C;have W:=(C.rs _ rfl).1;have aR:=zAa W.fin;have f:=W.fc;have F5:Hid (Eo w (w4.setCell ⟨a,12,none⟩ (.slice (some ⟨gr,0,none⟩) n n)) a A y):=(F2.out.below t.out).set 12 [.slice (some ⟨gr,0,none⟩) n n];have af:Hid (Eh (w4.setCell ⟨a,12,none⟩ (.slice (some ⟨gr,0,none⟩) n n)) gr n ((zMv i.Ea).reads (gB (zMf i.Ea) F))):=by
    obtain⟨cc,aU,_⟩:=(CN.out.below t.out).box;exact⟨u.out.at_.aA (aJ gr (oY u.out.at_ aU (by decide))),u.out.len,u.out.fits⟩
   have X:=C.box.lt;clear CN aj an ay u aW qf lq t z aJ F2 ai aB ak l3 C W aq ap aa m0 z0 m1 z1 m2 z2 m3 z3 m4 z4 m5 z5 m6 z6 m7 z7 m8 z8 m9 z9;generalize w4.setCell ⟨a,12,none⟩ (.slice (some ⟨gr,0,none⟩) n n)=E at *;clear k0 k1 k2 k3 k4 k5 k6 k7 k8 k9;have k0:E.cell? ⟨a,2,none⟩=some (.slice H n m):=f 0 _ rfl;have k1:E.cell? ⟨a,3,none⟩=some (.slice (some ⟨I,0,none⟩) n n):=f 1 _ rfl;have k2:E.cell? ⟨a,4,none⟩=some (.slice (some ⟨J,0,none⟩) n n):=f 2 _ rfl;have k3:E.cell? ⟨a,5,none⟩=some (.slice (some ⟨K,0,none⟩) n n):=f 3 _ rfl;have k4:E.cell? ⟨a,6,none⟩=some (.slice (some ⟨L,0,none⟩) n n):=f 4 _ rfl;have k5:E.cell? ⟨a,7,none⟩=some (.slice (some ⟨M,0,none⟩) n n):=f 5 _ rfl;have k6:E.cell? ⟨a,8,none⟩=some (.slice (some ⟨N,0,none⟩) n n):=f 6 _ rfl;have k7:E.cell? ⟨a,9,none⟩=some (.slice (some ⟨O,0,none⟩) n n):=f 7 _ rfl;have k8:E.cell? ⟨a,10,none⟩=some (.slice (some ⟨S,0,none⟩) n n):=f 8 _ rfl;have k9:E.cell? ⟨a,11,none⟩=some (.slice (some ⟨T,0,none⟩) n n):=f 9 _ rfl;clear f;go_upto_region 3 with fail
   go_region_held3 (fun l=>l.cell? ⟨a,2,none⟩=some (.slice H n m)/\l.cell? ⟨a,3,none⟩=some (.slice (some ⟨I,0,none⟩) n n)/\l.cell? ⟨a,4,none⟩=some (.slice (some ⟨J,0,none⟩) n n)/\l.cell? ⟨a,5,none⟩=some (.slice (some ⟨K,0,none⟩) n n)/\l.cell? ⟨a,6,none⟩=some (.slice (some ⟨L,0,none⟩) n n)/\l.cell? ⟨a,7,none⟩=some (.slice (some ⟨M,0,none⟩) n n)/\l.cell? ⟨a,8,none⟩=some (.slice (some ⟨N,0,none⟩) n n)/\l.cell? ⟨a,9,none⟩=some (.slice (some ⟨O,0,none⟩) n n)/\l.cell? ⟨a,10,none⟩=some (.slice (some ⟨S,0,none⟩) n n)/\l.cell? ⟨a,11,none⟩=some (.slice (some ⟨T,0,none⟩) n n)/\l.cell? ⟨a,12,none⟩=some (.slice (some ⟨gr,0,none⟩) n n)) (first | exact⟨k0,k1,k2,k3,k4,k5,k6,k7,k8,k9,az⟩ | exact⟨m0,m1,m2,m3,m4,m5,m6,m7,m8,m9,aO⟩) (first
    | (go_at_call 42;refine (zGw (FA.mk n (.slice H n m) I J K L M N O S T) (zMv i.Ea) gr ((zMv i.Ea).reads (gB (zMf i.Ea) F)) _ (aR.out.below (x4 _ _).drew) (af.out.below (x4 _ _).drew)).mono ?_;rintro e w6 ⟨rfl,aF⟩;have B:Hid (Below E.heap.size E w6):=((x4 E.heap.size E).drew).trans (aF.mono (by simp));generalize hH:(zMv i.Ea).cH ((zMv i.Ea).reads (gB (zMf i.Ea) F))=hh at *;have HH:=zAa hH;have m0:=aC B.out X k0;have m1:=aC B.out X k1;have m2:=aC B.out X k2;have m3:=aC B.out X k3;have m4:=aC B.out X k4;have m5:=aC B.out X k5;have m6:=aC B.out X k6;have m7:=aC B.out X k7;have m8:=aC B.out X k8;have m9:=aC B.out X k9;have aO:=aC B.out X az;clear hH aF))
   have am:=zAa (aQ.out.below B.out);have ax:=zAa (af.out.below B.out);have F6:=zAa (F5.out.below B.out);have ao:Hid (eE (dP g al x)=if hh then eE (dP g (some ⟨⟨ab,rg,⟨n,.slice H n m,I,J,K,L,M,N,O,S,T⟩,cv,G,Y,Z⟩,i,F,rr⟩) q) else zMX (i,F)::eE (dP g (some ⟨⟨ab,rg,⟨n,.slice H n m,I,J,K,L,M,N,O,S,T⟩,cv,G,Y,Z⟩,i,F,rr⟩) q)):=by
    unfold Hid;rw[ae.out,kHD,<- HH.out];rfl
   clear HH
   cases hh with
   | true =>
    have hR:yB w a A g y C0 w6 (dP g (some ⟨⟨ab,rg,⟨n,.slice H n m,I,J,K,L,M,N,O,S,T⟩,cv,G,Y,Z⟩,i,F,rr⟩) q).length:=by
     refine⟨_,_,_,am.out,?_,rfl,F6.out,fun k hk=>?_,fun k hk=>?_⟩
     ·have o:=ao.out;rw[if_pos rfl] at o;rw[<- o];exact HR.out
     ·obtain⟨s',e1,o⟩:=hk;simp only[Option.some.injEq] at e1;subst e1;exact av.out k o
     ·obtain⟨s',e1,o⟩:=hk;simp only[Option.some.injEq] at e1;subst e1;subst o;exact ar.out
    go_wp2;go_roundw
    case rel=>exact⟨_,hR⟩
    case measure =>
     have o:=(au.out _ ⟨_,hR⟩).2 _ hR;have h2:=HL.out;rw[ae.out] at h2;simp only[x6] at h2;omega
   | false =>
    have hF:eE (dP g al x)=zMX (i,F)::eE (dP g (some ⟨⟨ab,rg,⟨n,.slice H n m,I,J,K,L,M,N,O,S,T⟩,cv,G,Y,Z⟩,i,F,rr⟩) q):=by
     have o:=ao.out;rw[if_neg (by decide)] at o;exact o
    go_wp2;go_ret;exact⟨true,rfl,F6.out,xR ⟨rfl,_,_,_,gr,⟨am.out,aO,ax.out⟩,by rw[<- HR.out];exact hF,av.out,ar.out⟩⟩
namespace Q
theorem kFN (a b:List (Wd × List Int)):eE (a++b)=eE a++eE b:=by simp[eE]
theorem kGI (w:Wd):eE (sS w)=uI w (zMv w.Ea):=by
 unfold eE sS uI;rw[List.map_map];rfl
theorem kHk (a:List (List Run)) (l:List (List Int)):eE (l.flatMap fun d=>sS (zMj a d))=l.flatMap fun b=>uI (zMj a b) (zMv (zMj a b).Ea):=by
 induction l with
 | nil=>rfl
 | cons d l ih=>rw[x9,kFN,kGI,ih,x9]
theorem kKG (a:List Thr):pA a=eE (dP (runs a) none (zMH (zBh (runs a)))):=by
 unfold dP;simp only[List.nil_append];rw[kHk];rfl
end Q
end Go.Proofs.YtonodfjdiepglaaGreatDoor
