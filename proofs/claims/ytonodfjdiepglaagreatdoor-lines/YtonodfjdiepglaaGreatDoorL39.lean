import Derived.Test.YtonodfjdiepglaaGreatDoorL22
import Derived.Test.YtonodfjdiepglaaGreatDoorL38
set_option linter.unusedVariables false
set_option linter.unusedSimpArgs false
set_option maxHeartbeats 12800000
namespace Go.Proofs.YtonodfjdiepglaaGreatDoor
open Go Go.RowKit Go.Proofs.Tryz P Q R
set_option maxRecDepth 1000000
open Go.RowKit.Below renaming refl→xF,heap_setCell→xd
open Nat renaming le_refl→xR,lt_of_lt_of_le→xW
open Go.World renaming frozen?→xa
open List renaming range→xb
open Go.Value renaming slice→xc
theorem zIy (a:FA) (f:EE) (F:Nat) (rd:List Nat) (m:Nat) (bh:List Nat) (o:Nat) (ms:List Nat) (w:World) (W:Ej w a f) (Y:Eh w F a.n rd) (V:Eh w m a.n bh) (X:Eh w o a.n ms) (h1:f.dX ms bh=true) :
  Calls prog 55 #[.agg (gL a F),.agg #[.slice (some ⟨m,0,none⟩) a.n a.n],.agg #[.slice (some ⟨o,0,none⟩) a.n a.n]] w fun e w'=>e=.returned (.bool (false))/\Below w.heap.size w w':=by
 obtain⟨x,c,p,_⟩:=W.form;obtain⟨n,ev,J,K,L,M,N,O,S,T,U⟩:=a;simp only at p Y V X;subst p;simp only[zAn,gL];obtain⟨b,G,H,Z,d⟩:=lD w #[.slice x n c,.slice (some ⟨J,0,none⟩) n n,.slice (some ⟨K,0,none⟩) n n,.slice (some ⟨L,0,none⟩) n n,.slice (some ⟨M,0,none⟩) n n,.slice (some ⟨N,0,none⟩) n n,.slice (some ⟨O,0,none⟩) n n,.slice (some ⟨S,0,none⟩) n n,.slice (some ⟨T,0,none⟩) n n,.slice (some ⟨U,0,none⟩) n n,.slice (some ⟨F,0,none⟩) n n] #[.slice (some ⟨m,0,none⟩) n n] #[.slice (some ⟨o,0,none⟩) n n] 87 73 73;have HF:=zAa (W.below d);have Rr:=zAa (Y.below d);have Rb:=zAa (V.below d);have Rm:=zAa (X.below d);have I:=zAa d;clear d W Y V X;go_enter func55,ntmps55;go_upto_region 1 with fail
 generalize hE:(((w.alloc (.cells #[.slice x n c,.slice (some ⟨J,0,none⟩) n n,.slice (some ⟨K,0,none⟩) n n,.slice (some ⟨L,0,none⟩) n n,.slice (some ⟨M,0,none⟩) n n,.slice (some ⟨N,0,none⟩) n n,.slice (some ⟨O,0,none⟩) n n,.slice (some ⟨S,0,none⟩) n n,.slice (some ⟨T,0,none⟩) n n,.slice (some ⟨U,0,none⟩) n n,.slice (some ⟨F,0,none⟩) n n] 87)).alloc (.cells #[.slice (some ⟨m,0,none⟩) n n] 73)).alloc (.cells #[.slice (some ⟨o,0,none⟩) n n] 73))=g at *;have r:=aD b 0 _ rfl;have s:=aD b 1 _ rfl;have t:=aD b 2 _ rfl;have u:=aD b 3 _ rfl;have v:=aD b 4 _ rfl;have y:=aD b 5 _ rfl;have z:=aD b 6 _ rfl;have A:=aD b 7 _ rfl;have B:=aD b 8 _ rfl;have C:=aD b 9 _ rfl;have l:=aD b 10 _ rfl;have ah:w.heap.size<g.heap.size:=by omega
 have ad:∀ j,g.frozen? ⟨w.heap.size,j,none⟩=false:=fun j=>by simp[xa,b]
 have aa:=zAa b;have D:=aD G 0 _ rfl;have ai:w.heap.size+1<g.heap.size:=by omega
 have ae:∀ j,g.frozen? ⟨w.heap.size+1,j,none⟩=false:=fun j=>by simp[xa,G]
 have ab:=zAa G;have E:=aD H 0 _ rfl;have aj:w.heap.size+2<g.heap.size:=by omega
 have af:∀ j,g.frozen? ⟨w.heap.size+2,j,none⟩=false:=fun j=>by simp[xa,H]
 have ac:=zAa H;have ag:w.heap.size+3<=g.heap.size:=by omega
 clear hE Z b G H;go_wp2_with (first
  | (go_at_call 90;refine (zFd (FA.mk n (.slice x n c) J K L M N O S T U) f o _ m _ _ (HF.out.below (xF _ _)) (Rm.out.below (xF _ _)) (Rb.out.below (xF _ _))).mono ?_;rintro e q ⟨rfl,i⟩;(try rw[h1]);have k:Hid (Below g.heap.size g q):=i;skip))
 all_goals
  go_wp2;go_ret;exact⟨rfl,aK I.out (xR _) k.out⟩
theorem zIz (a:FA) (f:EE) (gr:Nat) (rd:List Nat) (gb:Nat) (bh:List Nat) (gm:Nat) (ms:List Nat) (w:World) (hf:Ej w a f) (hr:Eh w gr a.n rd) (hb:Eh w gb a.n bh) (hm:Eh w gm a.n ms) (h1:f.dX ms bh=false) :
  Calls prog 55 #[.agg (gL a gr),.agg #[.slice (some ⟨gb,0,none⟩) a.n a.n],.agg #[.slice (some ⟨gm,0,none⟩) a.n a.n]] w fun e w'=>e=.returned (.bool (!Q.cK (cS f.rows (fV (rM rd bh ms) f.strong))))/\Below w.heap.size w w':=by
 obtain⟨x,c,aY,_⟩:=hf.form;obtain⟨n,ev,g1,g2,g3,g4,g5,g6,g7,g8,g9⟩:=a;simp only at aY hr hb hm;subst aY;simp only[zAn,gL];obtain⟨L,k1,k2,bF,O⟩:=lD w #[.slice x n c,.slice (some ⟨g1,0,none⟩) n n,.slice (some ⟨g2,0,none⟩) n n,.slice (some ⟨g3,0,none⟩) n n,.slice (some ⟨g4,0,none⟩) n n,.slice (some ⟨g5,0,none⟩) n n,.slice (some ⟨g6,0,none⟩) n n,.slice (some ⟨g7,0,none⟩) n n,.slice (some ⟨g8,0,none⟩) n n,.slice (some ⟨g9,0,none⟩) n n,.slice (some ⟨gr,0,none⟩) n n] #[.slice (some ⟨gb,0,none⟩) n n] #[.slice (some ⟨gm,0,none⟩) n n] 87 73 73;have HF:=zAa (hf.below O);have Rr:=zAa (hr.below O);have Rb:=zAa (hb.below O);have Rm:=zAa (hm.below O);have bA:=zAa O;clear O hf hr hb hm;go_enter func55,ntmps55;go_upto_region 1 with fail
 generalize hE:(((w.alloc (.cells #[.slice x n c,.slice (some ⟨g1,0,none⟩) n n,.slice (some ⟨g2,0,none⟩) n n,.slice (some ⟨g3,0,none⟩) n n,.slice (some ⟨g4,0,none⟩) n n,.slice (some ⟨g5,0,none⟩) n n,.slice (some ⟨g6,0,none⟩) n n,.slice (some ⟨g7,0,none⟩) n n,.slice (some ⟨g8,0,none⟩) n n,.slice (some ⟨g9,0,none⟩) n n,.slice (some ⟨gr,0,none⟩) n n] 87)).alloc (.cells #[.slice (some ⟨gb,0,none⟩) n n] 73)).alloc (.cells #[.slice (some ⟨gm,0,none⟩) n n] 73))=N at *;have o:=aD L 0 _ rfl;have q:=aD L 1 _ rfl;have r:=aD L 2 _ rfl;have s:=aD L 3 _ rfl;have t:=aD L 4 _ rfl;have u:=aD L 5 _ rfl;have v:=aD L 6 _ rfl;have y:=aD L 7 _ rfl;have z:=aD L 8 _ rfl;have A:=aD L 9 _ rfl;have l:=aD L 10 _ rfl;have b:w.heap.size<N.heap.size:=by omega
 have aS:∀ j,N.frozen? ⟨w.heap.size,j,none⟩=false:=fun j=>by simp[xa,L]
 have au:=zAa L;have B:=aD k1 0 _ rfl;have D:w.heap.size+1<N.heap.size:=by omega
 have aT:∀ j,N.frozen? ⟨w.heap.size+1,j,none⟩=false:=fun j=>by simp[xa,k1]
 have av:=zAa k1;have C:=aD k2 0 _ rfl;have E:w.heap.size+2<N.heap.size:=by omega
 have aU:∀ j,N.frozen? ⟨w.heap.size+2,j,none⟩=false:=fun j=>by simp[xa,k2]
 have aw:=zAa k2;have bM:w.heap.size+3<=N.heap.size:=by omega
 clear hE bF L k1 k2;go_upto_region 4 with (first
  | (go_at_call 91;refine (zKB (FA.mk n (.slice x n c) g1 g2 g3 g4 g5 g6 g7 g8 g9) f gr _ gb _ gm _ _ (HF.out.below d.out) (Rr.out.below d.out) (Rb.out.below d.out) (Rm.out.below d.out)).mono ?_;rintro e k ⟨i,rfl,S,am⟩;have g:Hid (Below N.heap.size N k):=aK d.out (xR _) am;have bp:=aC g.out b o;have bq:=aC g.out b q;have br:=aC g.out b r;have bs:=aC g.out b s;have bt:=aC g.out b t;have bu:=aC g.out b u;have bv:=aC g.out b v;have bw:=aC g.out b y;have bx:=aC g.out b z;have bz:=aC g.out b A;have aG:=aC g.out b l;have aH:=aC g.out D B;have aI:=aC g.out E C;have ax:=zAa S;clear S)
  | (go_at_call 90;refine (zFd (FA.mk n (.slice x n c) g1 g2 g3 g4 g5 g6 g7 g8 g9) f gm _ gb _ _ (HF.out.below (xF _ _)) (Rm.out.below (xF _ _)) (Rb.out.below (xF _ _))).mono ?_;rintro e ba ⟨rfl,al⟩;(try rw[h1]);have d:Hid (Below N.heap.size N ba):=al;have be:=aC d.out b o;have bf:=aC d.out b q;have bg:=aC d.out b r;have bi:=aC d.out b s;have bj:=aC d.out b t;have bk:=aC d.out b u;have bl:=aC d.out b v;have bm:=aC d.out b y;have bn:=aC d.out b z;have bo:=aC d.out b A;have aB:=aC d.out b l;have aE:=aC d.out D B;have aF:=aC d.out E C;skip))
 have M:=heap_alloc_new k (.cells #[.slice (some ⟨i,0,none⟩) n n] 73);have m:Below N.heap.size N (k.alloc (.cells #[.slice (some ⟨i,0,none⟩) n n] 73)):=g.out.alloc g.out.size _;have bN:=g.out.size;have ag:=m.size;have ar:=zAa (HF.out.below m);have bJ:=zAa (Rr.out.below m);have bK:=zAa (Rb.out.below m);have bL:=zAa (Rm.out.below m);have aA:=zAa (ax.out.below ((xF _ _).alloc (xR _) (.cells #[.slice (some ⟨i,0,none⟩) n n] 73)));have bB:=zAa (aK bA.out (xR _) m);have aJ:=aC m b o;have aL:=aC m b q;have J:=aC m b r;have aM:=aC m b s;have aN:=aC m b t;have K:=aC m b u;have aO:=aC m b v;have aP:=aC m b y;have aQ:=aC m b z;have aR:=aC m b A;have ai:=aC m b l;have aj:=aC m D B;have ak:=aC m E C;have aV:∀ j,(k.alloc (.cells #[.slice (some ⟨i,0,none⟩) n n] 73)).frozen? ⟨w.heap.size,j,none⟩=false:=fun j=>(m.frozen (p:=⟨w.heap.size,j,none⟩) b).trans (aS j)
 have F:=xW b ag;have bG:=zAa ((m.block _ b).trans au.out);have aW:∀ j,(k.alloc (.cells #[.slice (some ⟨i,0,none⟩) n n] 73)).frozen? ⟨w.heap.size+1,j,none⟩=false:=fun j=>(m.frozen (p:=⟨w.heap.size+1,j,none⟩) D).trans (aT j)
 have bO:=xW D ag;have bH:=zAa ((m.block _ D).trans av.out);have aX:∀ j,(k.alloc (.cells #[.slice (some ⟨i,0,none⟩) n n] 73)).frozen? ⟨w.heap.size+2,j,none⟩=false:=fun j=>(m.frozen (p:=⟨w.heap.size+2,j,none⟩) E).trans (aU j)
 have bP:=xW E ag;have bI:=zAa ((m.block _ E).trans aw.out);have bE:k.heap.size<(k.alloc (.cells #[.slice (some ⟨i,0,none⟩) n n] 73)).heap.size:=by simp
 clear m ag;generalize bD:k.alloc (.cells #[.slice (some ⟨i,0,none⟩) n n] 73)=V at *;obtain⟨af,bR,aq⟩:=cE M;have bC:∀ j,V.frozen? ⟨k.heap.size,j,none⟩=false:=fun j=>by simp[xa,M]
 have bQ:=zAa M;clear M bD bE;clear o q r s t u v y z A l B C;clear aJ aL aM aN aO aP aQ aR ai aj ak;clear aV aW aX bC;go_region_held3 (fun w'=>w'.cell? ⟨w.heap.size,2,none⟩=some (.slice (some ⟨g2,0,none⟩) n n)/\w'.cell? ⟨w.heap.size,5,none⟩=some (.slice (some ⟨g5,0,none⟩) n n)/\w'.cell? ⟨k.heap.size,0,none⟩=some (.slice (some ⟨i,0,none⟩) n n)) (first | exact⟨J,K,af⟩ | exact⟨W,X,Y⟩ | exact⟨Z,aa,ab⟩ | exact⟨ac,ad,ae⟩) (first
  | (go_at_call_of 76 (xc (some ⟨ah,0,none⟩) n n);refine (zEn ah n _ _ az.out).mono ?_;rintro e bd ⟨rfl,ap⟩;have I:Hid (Below V.heap.size V bd):=aK H.out (xR _) ap;have ac:=aC I.out F J;have ad:=aC I.out F K;have ae:=aC I.out aq af;skip)
  | (go_at_call_of 45 (xc (some ⟨g5,0,none⟩) n n);refine (jS g5 aZ n _ _ _ (ar.out.r5.below G.out) ay.out).mono ?_;rintro e bc ⟨ah,rfl,U,ao⟩;have H:Hid (Below V.heap.size V bc):=aK G.out (xR _) ao;have Z:=aC H.out F J;have aa:=aC H.out F K;have ab:=aC H.out aq af;have az:=zAa U;clear U)
  | (go_at_call_of 77 (xc (some ⟨i,0,none⟩) n n);refine (sJ i g2 n _ _ _ (aA.out.below (xF _ _).drew) (ar.out.r2.below (xF _ _).drew)).mono ?_;rintro e bb ⟨aZ,rfl,T,an⟩;have G:Hid (Below V.heap.size V bb):=((xF V.heap.size V).drew).trans (an.mono (by simp));have W:=aC G.out F J;have X:=aC G.out F K;have Y:=aC G.out aq af;have ay:=zAa T;clear T))
 all_goals
  go_wp2;go_ret;exact⟨rfl,aK bB.out (xR _) I.out⟩
theorem zDN (a:FA) (f:EE) (i:Nat) (c:List Nat) (d:Nat) (cs:List Nat) (g:Nat) (b:List Nat) (w:World) (k:Ej w a f) (m:Eh w i a.n c) (j:Eh w d a.n cs) (l:Eh w g a.n b) :
  Calls prog 51 #[.agg (gL a i),.agg #[.slice (some ⟨d,0,none⟩) a.n a.n],.agg #[.slice (some ⟨g,0,none⟩) a.n a.n]] w fun e o=>e=.returned (.bool (zMY c cs b))/\Below w.heap.size w o:=by
 cases h1:bB cs with
 | true =>
  have e:zMY c cs b=false:=by simp[zMY,h1]
  rw[e];exact zIv a f i c d cs g b w k m j l h1
 | false =>
  cases h2:bB (kAg b cs) with
  | true =>
   have e:zMY c cs b=false:=by simp[zMY,h1,h2]
   rw[e];exact zIw a f i c d cs g b w k m j l h1 h2
  | false =>
   have e:zMY c cs b=!Q.dH (fV c cs):=by simp[zMY,h1,h2]
   rw[e];exact zIx a f i c d cs g b w k m j l h1 h2
theorem zDO (a:FA) (f:EE) (j:Nat) (d:List Nat) (g:Nat) (b:List Nat) (i:Nat) (c:List Nat) (w:World) (l:Ej w a f) (o:Eh w j a.n d) (k:Eh w g a.n b) (m:Eh w i a.n c) :
  Calls prog 55 #[.agg (gL a j),.agg #[.slice (some ⟨g,0,none⟩) a.n a.n],.agg #[.slice (some ⟨i,0,none⟩) a.n a.n]] w fun e p=>e=.returned (.bool (f.mayStand d b c))/\Below w.heap.size w p:=by
 cases h1:f.dX c b with
 | true =>
  have e:f.mayStand d b c=false:=by simp[EE.mayStand,h1]
  rw[e];exact zIy a f j d g b i c w l o k m h1
 | false =>
  have e:f.mayStand d b c=!Q.cK (cS f.rows (fV (rM d b c) f.strong)):=by simp[EE.mayStand,h1]
  rw[e];exact zIz a f j d g b i c w l o k m h1
namespace Q
theorem pM {α:Type} (F:Ans->α->Ans) (b:∀ a x,a.rows.length<=(F a x).rows.length):∀ (l:List α) (a:Ans),a.rows.length<=(l.foldl F a).rows.length
 | [],a=>xR _
 | x::l,a=>by rw[List.foldl_cons];exact Nat.le_trans (b a x) (pM F b l _)
end Q
theorem zHw {b i:World} {g f c:Nat} {d a:List Int} (n:zAt b g d) (l:zAt b f a) (m:zAt b c (eI a.length)) (p:g≠c) (q:f≠c) (o:a.length=d.length)
  (k:i.heap[b.heap.size]?=some (.cells #[.slice (some ⟨g,0,none⟩) d.length d.length,.slice (some ⟨f,0,none⟩) a.length a.length,.slice (some ⟨c,0,none⟩) a.length a.length,.bool false] 118 (0,0))) (j:Below b.heap.size b i):OrdOn i b.heap.size g f c d a (eI a.length) (zMH a):=by
 obtain⟨r,s,t,u,v,x⟩:=rQ k;have y:=n.lt;have z:=l.lt;have A:=m.lt;have e:(eI a.length).length=a.length:=by simp[eI]
 exact⟨r,n.below j,⟨false,⟨s,by rw[e];exact t,u,v,x,l.below j,m.below j,by omega,by omega,q,e⟩,Or.inl ⟨rfl,rfl,rfl⟩⟩,o,p,by omega⟩
theorem zKC (a:FA) (f:EE) (gr:Nat) (rd:List Nat) (w:World) (hf:Ej w a f) (hr:Eh w gr a.n rd) :
  Calls prog 43 #[.agg (zAn a),.agg #[.slice (some ⟨gr,0,none⟩) a.n a.n]] w fun e w'=>jC w w' a.n (f.aN rd) e:=by
 obtain⟨x,c,bx,_⟩:=hf.form;obtain⟨n,ev,g1,g2,g3,g4,g5,g6,g7,g8,g9⟩:=a;simp only at bx hr;subst bx;simp only[zAn];obtain⟨V,k1,k2,bR,aj⟩:=lD w #[.slice x n c,.slice (some ⟨g1,0,none⟩) n n,.slice (some ⟨g2,0,none⟩) n n,.slice (some ⟨g3,0,none⟩) n n,.slice (some ⟨g4,0,none⟩) n n,.slice (some ⟨g5,0,none⟩) n n,.slice (some ⟨g6,0,none⟩) n n,.slice (some ⟨g7,0,none⟩) n n,.slice (some ⟨g8,0,none⟩) n n,.slice (some ⟨g9,0,none⟩) n n] #[.slice (some ⟨gr,0,none⟩) n n] #[.slice none 0 0] 75 73 73;have HF:=zAa (hf.below aj);have Rr:=zAa (hr.below aj);have bF:=zAa aj;clear aj hf hr;go_enter func43,ntmps43;go_upto_region 1 with fail
 generalize hE:(((w.alloc (.cells #[.slice x n c,.slice (some ⟨g1,0,none⟩) n n,.slice (some ⟨g2,0,none⟩) n n,.slice (some ⟨g3,0,none⟩) n n,.slice (some ⟨g4,0,none⟩) n n,.slice (some ⟨g5,0,none⟩) n n,.slice (some ⟨g6,0,none⟩) n n,.slice (some ⟨g7,0,none⟩) n n,.slice (some ⟨g8,0,none⟩) n n,.slice (some ⟨g9,0,none⟩) n n] 75)).alloc (.cells #[.slice (some ⟨gr,0,none⟩) n n] 73)).alloc (.cells #[.slice none 0 0] 73))=X at *;have A:=aD V 0 _ rfl;have B:=aD V 1 _ rfl;have C:=aD V 2 _ rfl;have D:=aD V 3 _ rfl;have E:=aD V 4 _ rfl;have F:=aD V 5 _ rfl;have G:=aD V 6 _ rfl;have H:=aD V 7 _ rfl;have I:=aD V 8 _ rfl;have J:=aD V 9 _ rfl;have g:w.heap.size<X.heap.size:=by omega
 have bo:∀ j,X.frozen? ⟨w.heap.size,j,none⟩=false:=fun j=>by simp[xa,V]
 have aS:=zAa V;have t:=aD k1 0 _ rfl;have u:w.heap.size+1<X.heap.size:=by omega
 have bp:∀ j,X.frozen? ⟨w.heap.size+1,j,none⟩=false:=fun j=>by simp[xa,k1]
 have aT:=zAa k1;have K:=aD k2 0 _ rfl;have S:w.heap.size+2<X.heap.size:=by omega
 have bq:∀ j,X.frozen? ⟨w.heap.size+2,j,none⟩=false:=fun j=>by simp[xa,k2]
 have aU:=zAa k2;have bX:w.heap.size+3<=X.heap.size:=by omega
 clear hE bR V k1 k2;go_upto_region 2 with (first
  | (go_at_call_of 77 (xc (some ⟨gr,0,none⟩) n n);refine (sJ gr g2 n _ _ _ (Rr.out.below (xF _ _)) (HF.out.r2.below (xF _ _))).mono ?_;rintro e l ⟨d,rfl,ac,aL⟩;have y:Hid (Below X.heap.size X l):=aL;have bE:=aC y.out u t;have aY:=zAa ac;clear ac))
 have N:=heap_alloc_new l (.cells #[.slice (some ⟨d,0,none⟩) n n] 73);have b:Below X.heap.size X (l.alloc (.cells #[.slice (some ⟨d,0,none⟩) n n] 73)):=y.out.alloc y.out.size _;have bY:=y.out.size;have q:=b.size;have aR:=zAa (HF.out.below b);have bb:=zAa (Rr.out.below b);have an:=zAa (aY.out.below ((xF _ _).alloc (xR _) (.cells #[.slice (some ⟨d,0,none⟩) n n] 73)));have bG:=zAa (aK bF.out (xR _) b);have ap:=aC b g A;have aq:=aC b g B;have ar:=aC b g C;have au:=aC b g D;have av:=aC b g E;have aw:=aC b g F;have ax:=aC b g G;have ay:=aC b g H;have az:=aC b g I;have aB:=aC b g J;have Y:=aC b u t;have Z:=aC b S K;have br:∀ j,(l.alloc (.cells #[.slice (some ⟨d,0,none⟩) n n] 73)).frozen? ⟨w.heap.size,j,none⟩=false:=fun j=>(b.frozen (p:=⟨w.heap.size,j,none⟩) g).trans (bo j)
 have i:=xW g q;have aV:=zAa ((b.block _ g).trans aS.out);have bs:∀ j,(l.alloc (.cells #[.slice (some ⟨d,0,none⟩) n n] 73)).frozen? ⟨w.heap.size+1,j,none⟩=false:=fun j=>(b.frozen (p:=⟨w.heap.size+1,j,none⟩) u).trans (bp j)
 have T:=xW u q;have aW:=zAa ((b.block _ u).trans aT.out);have bt:∀ j,(l.alloc (.cells #[.slice (some ⟨d,0,none⟩) n n] 73)).frozen? ⟨w.heap.size+2,j,none⟩=false:=fun j=>(b.frozen (p:=⟨w.heap.size+2,j,none⟩) S).trans (bq j)
 have U:=xW S q;have aX:=zAa ((b.block _ S).trans aU.out);have bP:l.heap.size<(l.alloc (.cells #[.slice (some ⟨d,0,none⟩) n n] 73)).heap.size:=by simp
 clear b q;generalize bN:l.alloc (.cells #[.slice (some ⟨d,0,none⟩) n n] 73)=W1 at *;obtain⟨bd,ci,ak⟩:=cE N;have bL:∀ j,W1.frozen? ⟨l.heap.size,j,none⟩=false:=fun j=>by simp[xa,N]
 have bK:=zAa N;clear N bN bP;clear A B C D E F G H I J t K;go_upto_region 3 with (first
  | (go_at_call_of 79 (xc (some ⟨aG,0,none⟩) n n);refine (zES aG n _ _ am.out).mono ?_;rintro e m ⟨k,rfl,ae,ab⟩;have W:Hid (Below W1.heap.size W1 m):=aK aQ.out (xR _) ab;have aZ:=zAa ae;clear ae)
  | (go_at_call_of 78 (xc (some ⟨d,0,none⟩) n n);refine (jP d g7 n _ _ _ (an.out.below (xF _ _)) (aR.out.r7.below (xF _ _))).mono ?_;rintro e bB ⟨aG,rfl,ad,aM⟩;have aQ:Hid (Below W1.heap.size W1 bB):=aM;have am:=zAa ad;clear ad))
 have O:=heap_alloc_new m (.cells #[.slice (some ⟨k,0,none⟩) n n] 73);have b:Below W1.heap.size W1 (m.alloc (.cells #[.slice (some ⟨k,0,none⟩) n n] 73)):=W.out.alloc W.out.size _;have bZ:=W.out.size;have q:=b.size;have cg:=zAa (aR.out.below b);have bV:=zAa (bb.out.below b);have ao:=zAa (an.out.below b);have bW:=zAa ((am.out.below ab).below ((xF _ _).alloc (xR _) (.cells #[.slice (some ⟨k,0,none⟩) n n] 73)));have bc:=zAa (aZ.out.below ((xF _ _).alloc (xR _) (.cells #[.slice (some ⟨k,0,none⟩) n n] 73)));have bJ:=zAa (aK bG.out (xR _) b);have be:=aC b i ap;have bf:=aC b i aq;have bg:=aC b i ar;have bh:=aC b i au;have bi:=aC b i av;have bj:=aC b i aw;have bk:=aC b i ax;have bl:=aC b i ay;have bm:=aC b i az;have bn:=aC b i aB;have aJ:=aC b T Y;have aa:=aC b U Z;have v:=aC b ak bd;have bu:∀ j,(m.alloc (.cells #[.slice (some ⟨k,0,none⟩) n n] 73)).frozen? ⟨w.heap.size,j,none⟩=false:=fun j=>(b.frozen (p:=⟨w.heap.size,j,none⟩) i).trans (br j)
 have ca:=xW i q;have bS:=zAa ((b.block _ i).trans aV.out);have bv:∀ j,(m.alloc (.cells #[.slice (some ⟨k,0,none⟩) n n] 73)).frozen? ⟨w.heap.size+1,j,none⟩=false:=fun j=>(b.frozen (p:=⟨w.heap.size+1,j,none⟩) T).trans (bs j)
 have cb:=xW T q;have bT:=zAa ((b.block _ T).trans aW.out);have aE:∀ j,(m.alloc (.cells #[.slice (some ⟨k,0,none⟩) n n] 73)).frozen? ⟨w.heap.size+2,j,none⟩=false:=fun j=>(b.frozen (p:=⟨w.heap.size+2,j,none⟩) U).trans (bt j)
 have s:=xW U q;have al:=zAa ((b.block _ U).trans aX.out);have bw:∀ j,(m.alloc (.cells #[.slice (some ⟨k,0,none⟩) n n] 73)).frozen? ⟨l.heap.size,j,none⟩=false:=fun j=>(b.frozen (p:=⟨l.heap.size,j,none⟩) ak).trans (bL j)
 have aF:=xW ak q;have bU:=zAa ((b.block _ ak).trans bK.out);have bQ:m.heap.size<(m.alloc (.cells #[.slice (some ⟨k,0,none⟩) n n] 73)).heap.size:=by simp
 clear b q;generalize bO:m.alloc (.cells #[.slice (some ⟨k,0,none⟩) n n] 73)=W2 at *;obtain⟨aI,cj,bz⟩:=cE O;have bM:∀ j,W2.frozen? ⟨m.heap.size,j,none⟩=false:=fun j=>by simp[xa,O]
 have ch:=zAa O;clear O bO bQ;clear ap aq ar au av aw ax ay az aB Y Z bd;clear be bf bg bh bi bj bk bl bm bn aJ;clear bu bv bw bM;go_region_held3 (fun w'=>w'.cell? ⟨l.heap.size,0,none⟩=some (.slice (some ⟨d,0,none⟩) n n)/\w'.cell? ⟨m.heap.size,0,none⟩=some (.slice (some ⟨k,0,none⟩) n n)) (first | exact⟨v,aI⟩ | exact⟨ah,ai⟩ | exact⟨L,M⟩ | exact⟨(bI (by omega)).trans L,(bI (by omega)).trans M⟩) (first
  | (go_at_call_of 45 (xc (some ⟨d,0,none⟩) n n);refine (jS d bA n _ _ _ (ao.out.below r.out) ba.out).mono ?_;rintro e bD ⟨aH,rfl,ag,aP⟩;have o:Hid (Below W2.heap.size W2 bD):=aK r.out (xR _) aP;have L:=aC o.out aF v;have M:=aC o.out bz aI;have cf:=(o.out.frozen (p:=⟨w.heap.size+2,0,none⟩) s).trans (aE 0);have cd:=aC o.out s aa;have z:=zAa ag;clear ag)
  | (go_at_call_of 78 (xc (some ⟨k,0,none⟩) n n);refine (jP k d n _ _ _ (bc.out.below (xF _ _).drew) (ao.out.below (xF _ _).drew)).mono ?_;rintro e bC ⟨bA,rfl,af,aO⟩;have r:Hid (Below W2.heap.size W2 bC):=((xF W2.heap.size W2).drew).trans (aO.mono (by simp));have ah:=aC r.out aF v;have ai:=aC r.out bz aI;have ce:=(r.out.frozen (p:=⟨w.heap.size+2,0,none⟩) s).trans (aE 0);have cc:=aC r.out s aa;have ba:=zAa af;clear af))
 all_goals
  (try go_wp2)
  have KR:=bH ((o.out.block _ s).trans al.out) 0 (.slice (some ⟨aH,0,none⟩) n n);refine jT (p:=4) (w.heap.size+2) _ (by kernel_rfl) rfl (by exact KR) rfl ⟨aH,rfl,⟨(z.out).at_.aA (xd _ _ _ _ (by have:=z.out.at_;unfold zAo at this;intro e;rw[e] at this;rw[(o.out.block _ s).trans al.out] at this;simp at this)),(z.out).len,(z.out).fits⟩,(aK bJ.out (xR _) o.out).setCell (p:=⟨w.heap.size+2,0,none⟩) (by simp) _⟩
theorem zJG (a:FA) (f:EE) (M:Nat) (aN:List Nat) (w:World) (W:Ej w a f) (hs:Eh w M a.n aN) :
  Calls prog 44 #[.agg (zAn a),.agg #[.slice (some ⟨M,0,none⟩) a.n a.n]] w fun e w'=>jC w w' a.n (f.cP aN) e:=by
 have ac:Hid (Q.dU f.Ea aN=(xb a.n).foldl (oX f.Ea aN) (aS a.n)):=by unfold Hid Q.dU;rw[W.len]
 obtain⟨x,c,al,hx⟩:=W.form;have O:=W.n64;have J:=W.len;obtain⟨n,ev,g1,g2,g3,g4,g5,g6,g7,g8,g9⟩:=a;simp only at al O J hx;subst al;simp only[zAn];simp only at ac hs;have ab:=zAa W.ev;obtain⟨k0,k2,k1,bj,I⟩:=lD w #[.slice x n c,.slice (some ⟨g1,0,none⟩) n n,.slice (some ⟨g2,0,none⟩) n n,.slice (some ⟨g3,0,none⟩) n n,.slice (some ⟨g4,0,none⟩) n n,.slice (some ⟨g5,0,none⟩) n n,.slice (some ⟨g6,0,none⟩) n n,.slice (some ⟨g7,0,none⟩) n n,.slice (some ⟨g8,0,none⟩) n n,.slice (some ⟨g9,0,none⟩) n n] #[.slice (some ⟨M,0,none⟩) n n] #[.slice none 0 0] 75 73 73;have HF:=zAa (W.below I);have RS:=zAa (hs.below I);have S:=zAa I;clear I W hs;go_enter func44,ntmps44;go_upto_region 1 with fail
 generalize hE:((w.alloc (.cells #[.slice x n c,.slice (some ⟨g1,0,none⟩) n n,.slice (some ⟨g2,0,none⟩) n n,.slice (some ⟨g3,0,none⟩) n n,.slice (some ⟨g4,0,none⟩) n n,.slice (some ⟨g5,0,none⟩) n n,.slice (some ⟨g6,0,none⟩) n n,.slice (some ⟨g7,0,none⟩) n n,.slice (some ⟨g8,0,none⟩) n n,.slice (some ⟨g9,0,none⟩) n n] 75)).alloc (.cells #[.slice (some ⟨M,0,none⟩) n n] 73)).alloc (.cells #[.slice none 0 0] 73)=W0 at *;have V:=aD k0 0 _ rfl;have af:=aD k0 2 _ rfl;have ag:=aD k0 8 _ rfl;have ah:=aD k0 9 _ rfl;obtain⟨c1,f1,l1⟩:=cE k1;obtain⟨c2,f2,l2⟩:=cE k2;have X:w.heap.size<W0.heap.size:=by omega
 have K1:=zAa k1;clear hE k0 k1 k2 f2;go_wp2_with (first | (go_at_call 74;refine (iT n _ O).mono ?_;rintro e w1 ⟨gn,rfl,au,aU,ar,am,C⟩;have HS:=zAa (Fill.start ⟨au,ar,am⟩ aU C);have bk:=C.size;have ae:=HS.out.cell (p:=⟨w.heap.size,0,none⟩) X V;clear au C ar am));have aF:=zAa af;have aG:=zAa ag;have aH:=zAa ah;have aE:=zAa c1;have aL:=zAa f1;clear af ag ah c1 f1;go_loopw [17] (fun i wr=>∃ (k:Nat) (t:List Nat),k<=n/\i=.int .i64 k/\Hid (t=(xb k).foldl (oX f.Ea aN) (aS n))/\Hid (Fill W0 wr w1.heap.size gn n t)) (fun i _=>n-(intOf i).toNat)
 case atStart=>exact⟨0,_,Nat.zero_le _,rfl,rfl,HS⟩
 case round =>
  clear ae;obtain⟨k,t,hk,rfl,HT,v⟩:=hrel;obtain⟨b0,b1,b2⟩:=cE v.out.box;have ai:=v.out.cell (p:=⟨w.heap.size,0,none⟩) X V;have l:=xW X v.out.bel.size;by_cases hlt:k<n
  ·have bh:(k:Int)<(n:Int):=by omega
   obtain⟨A,rfl,ak⟩:=hx (by omega);have N:A<W0.heap.size:=by omega
   have ad:Hid (wr.rangeAt A (k*10) (aI (Q.ev f.Ea k)).toList):=fY (ab.out.cM J.symm k (by omega)) ((v.out.bel.block A N).trans (S.out.block A ak));have aQ:Hid ((xb (k+1)).foldl (oX f.Ea aN) (aS n)=(xb n).foldl (nX f.Ea aN k) t):=by unfold Hid;rw[fI,<- HT.out];unfold oX;rw[J]
   have aB:Hid (∀ q u,nX f.Ea aN k u q=if bR aN k q&&(Q.ev f.Ea k).order != 0&&(Q.ev f.Ea q).order != 0 then bJ u q k else u):=fun q u=>rfl
   generalize Q.ev f.Ea k=K at *;have aa:Hid (zAP (wr.alloc (.cells (aI K) 146)) wr.heap.size K):=zAP.bT wr K;have T:=zAa (v.out.alloc (.cells (aI K) 146));have aj:=T.out.cell (p:=⟨w.heap.size,0,none⟩) X V;go_wp2_with (first | (refine cQ (.tmp 20) rfl rfl A (k*10) K rfl ad.out ?_));go_loopw [25] (fun j wq=>∃ (q:Nat) (u:List Nat),q<=n/\j=.int .i64 q/\Hid (u=(xb q).foldl (nX f.Ea aN k) t)/\Hid (Fill W0 wq w1.heap.size gn n u)/\Hid (zAP wq wr.heap.size K)) (fun j _=>n-(intOf j).toNat)
   case atStart=>exact⟨0,t,Nat.zero_le _,rfl,rfl,T,aa⟩
   case round =>
    clear aj ai T aa b0 b1 b2 ad l;obtain⟨q,u,hq,rfl,HU,HJ,HA⟩:=hrel;by_cases hql:q<n
    ·have bi:(q:Int)<(n:Int):=by omega
     have F:Hid (wr.rangeAt A (q*10) (aI (Q.ev f.Ea q)).toList):=fY (ab.out.cM J.symm q (by omega)) ((HJ.out.bel.block A N).trans (S.out.block A ak));have H:Hid ((xb (q+1)).foldl (nX f.Ea aN k) t=if bR aN k q&&K.order != 0&&(Q.ev f.Ea q).order != 0 then bJ u q k else u):=by unfold Hid;rw[fI,<- HU.out];exact aB.out q u
     generalize Q.ev f.Ea q=L at *;have B:=zAa (HJ.out.alloc (.cells (aI L) 146));have D:=zAa (HA.out.alloc (.cells (aI L) 146));have E:=zAa (zAP.bT wr L);have G:=zAa (RS.out.below B.out.bel);have o:=xW l2 HJ.out.bel.size;have d2:=HJ.out.cell (p:=⟨w.heap.size+1,0,none⟩) l2 c2
     cases z1:bR aN (k:Int) (q:Int)
     ·have z:Hid (u=(xb (q+1)).foldl (nX f.Ea aN k) t):=by unfold Hid;rw[H.out];simp[z1]
      go_wp2_with (first | (refine cQ (.tmp 28) rfl rfl A (q*10) L rfl F.out ?_) | (go_at_call 80;refine (jU M n aN (k:Int) (q:Int) _ G.out).mono ?_;rintro e wb ⟨rfl,b⟩;rw[z1];have g:=zAa (B.out.keep b);have d:=zAa (D.out.below b);obtain⟨x0,Y,Z,x3,x4,x5,x6,x7,x8,x9,xf,xl⟩:=d.out.facts;clear x0 Y Z x3 x4 x6 x7 x8 x9;have y:=zAa (E.out.below b);obtain⟨y0,y1,y2,y3,y4,y5,y6,y7,y8,y9,yf,yl⟩:=y.out.facts;clear y0 y1 y2 y3 y4 y6 y7 y8 y9));go_roundw
      case rel=>exact⟨q+1,u,by omega,by go_num,z,g,d⟩
      case measure=>simp[intOf];omega
     cases z2:(K.order != 0)
     ·have z:Hid (u=(xb (q+1)).foldl (nX f.Ea aN k) t):=by unfold Hid;rw[H.out];simp[z1,z2]
      go_wp2_with (first | (refine cQ (.tmp 28) rfl rfl A (q*10) L rfl F.out ?_) | (go_at_call 80;refine (jU M n aN (k:Int) (q:Int) _ G.out).mono ?_;rintro e wb ⟨rfl,b⟩;rw[z1];have g:=zAa (B.out.keep b);have d:=zAa (D.out.below b);obtain⟨x0,Y,Z,x3,x4,x5,x6,x7,x8,x9,xf,xl⟩:=d.out.facts;clear x0 Y Z x3 x4 x6 x7 x8 x9;have y:=zAa (E.out.below b);obtain⟨y0,y1,y2,y3,y4,y5,y6,y7,y8,y9,yf,yl⟩:=y.out.facts;clear y0 y1 y2 y3 y4 y6 y7 y8 y9));go_roundw
      case rel=>exact⟨q+1,u,by omega,by go_num,z,g,d⟩
      case measure=>simp[intOf];omega
     cases z3:(L.order != 0)
     ·have z:Hid (u=(xb (q+1)).foldl (nX f.Ea aN k) t):=by unfold Hid;rw[H.out];simp[z1,z2,z3]
      go_wp2_with (first | (refine cQ (.tmp 28) rfl rfl A (q*10) L rfl F.out ?_) | (go_at_call 80;refine (jU M n aN (k:Int) (q:Int) _ G.out).mono ?_;rintro e wb ⟨rfl,b⟩;rw[z1];have g:=zAa (B.out.keep b);have d:=zAa (D.out.below b);obtain⟨x0,Y,Z,x3,x4,x5,x6,x7,x8,x9,xf,xl⟩:=d.out.facts;clear x0 Y Z x3 x4 x6 x7 x8 x9;have y:=zAa (E.out.below b);obtain⟨y0,y1,y2,y3,y4,y5,y6,y7,y8,y9,yf,yl⟩:=y.out.facts;clear y0 y1 y2 y3 y4 y6 y7 y8 y9));go_roundw
      case rel=>exact⟨q+1,u,by omega,by go_num,z,g,d⟩
      case measure=>simp[intOf];omega
     ·have z:Hid (bJ u (q:Int) (k:Int)=(xb (q+1)).foldl (nX f.Ea aN k) t):=by unfold Hid;rw[H.out];simp[z1,z2,z3]
      go_wp2_with (first | (refine cQ (.tmp 28) rfl rfl A (q*10) L rfl F.out ?_) | (go_at_call 80;refine (jU M n aN (k:Int) (q:Int) _ G.out).mono ?_;rintro e wb ⟨rfl,b⟩;rw[z1];have g:=zAa (B.out.keep b);have d:=zAa (D.out.below b);obtain⟨x0,Y,Z,x3,x4,x5,x6,x7,x8,x9,xf,xl⟩:=d.out.facts;clear x0 Y Z x3 x4 x6 x7 x8 x9;have y:=zAa (E.out.below b);obtain⟨y0,y1,y2,y3,y4,y5,y6,y7,y8,y9,yf,yl⟩:=y.out.facts;clear y0 y1 y2 y3 y4 y6 y7 y8 y9) | (go_at_call 75;refine (jH w1.heap.size 0 gn n u (q:Int) (k:Int) _ g.out.gP g.out.rel.fits).mono ?_;rintro e wc ⟨rfl,aW,an⟩;have aM:=zAa (g.out.grown an aW);have az:=zAa (zAP.grown d.out g.out.rel.at_ an)));go_roundw
      case rel=>exact⟨q+1,_,by omega,by go_num,z,aM,az⟩
      case measure=>simp[intOf];omega
    ·have aO:Hid (u=(xb (k+1)).foldl (oX f.Ea aN) (aS n)):=by unfold Hid;rw[aQ.out,HU.out,show q=n by omega]
     go_wp2;go_roundw
     case rel=>exact⟨k+1,u,by omega,by go_num,aO,HJ⟩
     case measure=>simp[intOf];omega
  ·have aV:k=n:=by omega
   have aJ:Hid (t=Q.dU f.Ea aN):=by unfold Hid;rw[ac.out,HT.out,aV]
   rw[aJ.out] at v;clear ai;go_upto_region 12 with fail
   have m2:=v.out.cell (p:=⟨w.heap.size,2,none⟩) X aF.out;have m8:=v.out.cell (p:=⟨w.heap.size,8,none⟩) X aG.out;have m9:=v.out.cell (p:=⟨w.heap.size,9,none⟩) X aH.out;have m1:=v.out.cell (p:=⟨w.heap.size+2,0,none⟩) l1 aE.out;have mf:=(v.out.bel.frozen (p:=⟨w.heap.size+2,0,none⟩) l1).trans aL.out;have o:=xW l1 v.out.bel.size;have bg:=v.out.gb;have U:=zAa (HF.out.below v.out.bel);have HB:=zAa v.out.bel;have aP:=zAa v.out.rel;go_region_held3 (fun w'=>w'.cell? ⟨w.heap.size,2,none⟩=some (.slice (some ⟨g2,0,none⟩) n n)/\w'.cell? ⟨w.heap.size,8,none⟩=some (.slice (some ⟨g8,0,none⟩) n n)/\w'.cell? ⟨w.heap.size,9,none⟩=some (.slice (some ⟨g9,0,none⟩) n n)/\w'.cell? ⟨w1.heap.size,0,none⟩=some (.slice (some ⟨gn,0,none⟩) n n)) (first | exact⟨m2,m8,m9,b0⟩ | exact⟨aX,aZ,bb,bd⟩ | exact⟨aY,ba,bc,bf⟩ | exact⟨av,aw,ax,ay⟩ | exact⟨(bI (by omega)).trans av,(bI (by omega)).trans aw,(bI (by omega)).trans ax,(bI (by omega)).trans ay⟩) (first
    | (go_at_call 77;refine (sJ j1 g2 n _ _ _ J1.out (U.out.r2.below s.out)).mono ?_;rintro e v2 ⟨j2,rfl,aq,aT⟩;have m:Hid (Below wr.heap.size wr v2):=aK s.out (xR _) aT;have av:=aC m.out l m2;have aw:=aC m.out l m8;have ax:=aC m.out l m9;have ay:=aC m.out b2 b0;have bn:=aC m.out o m1;have bq:=(m.out.frozen (p:=⟨w.heap.size+2,0,none⟩) o).trans mf;have J2:=zAa aq;clear aq)
    | (go_at_call_of 78 (xc (some ⟨j0,0,none⟩) n n);refine (jP j0 g9 n _ _ _ J0.out (U.out.r9.below r.out)).mono ?_;rintro e v1 ⟨j1,rfl,ap,C⟩;have s:Hid (Below wr.heap.size wr v1):=aK r.out (xR _) C;have aY:=aC s.out l m2;have ba:=aC s.out l m8;have bc:=aC s.out l m9;have bf:=aC s.out b2 b0;have bm:=aC s.out o m1;have bp:=(s.out.frozen (p:=⟨w.heap.size+2,0,none⟩) o).trans mf;have J1:=zAa ap;clear ap)
    | (go_at_call_of 78 (xc (some ⟨g8,0,none⟩) n n);refine (jP g8 gn n _ _ _ (U.out.r8.below (xF _ _).drew) (aP.out.below (xF _ _).drew)).mono ?_;rintro e v0 ⟨j0,rfl,ao,aR⟩;have r:Hid (Below wr.heap.size wr v0):=((xF wr.heap.size wr).drew).trans (aR.mono (by simp));have aX:=aC r.out l m2;have aZ:=aC r.out l m8;have bb:=aC r.out l m9;have bd:=aC r.out b2 b0;have bl:=aC r.out o m1;have bo:=(r.out.frozen (p:=⟨w.heap.size+2,0,none⟩) o).trans mf;have J0:=zAa ao;clear ao))
   all_goals
    (try go_wp2)
    have KR:=bH ((m.out.block _ o).trans ((HB.out.block _ l1).trans K1.out)) 0 (.slice (some ⟨j2,0,none⟩) n n);refine jT (p:=4) (w.heap.size+2) _ (by kernel_rfl) rfl (by exact KR) rfl ⟨j2,rfl,⟨J2.out.at_.aA (xd _ _ _ _ (by have:=J2.out.at_;unfold zAo at this;intro e;rw[e] at this;rw[(m.out.block _ o).trans ((HB.out.block _ l1).trans K1.out)] at this;simp at this)),J2.out.len,J2.out.fits⟩,(aK S.out (xR _) (aK HB.out (xR _) m.out)).setCell (p:=⟨w.heap.size+2,0,none⟩) (by simp) _⟩
end Go.Proofs.YtonodfjdiepglaaGreatDoor
