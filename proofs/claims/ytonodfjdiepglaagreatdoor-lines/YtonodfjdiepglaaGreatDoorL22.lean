import Derived.Test.YtonodfjdiepglaaGreatDoorL21
set_option linter.unusedVariables false
set_option linter.unusedSimpArgs false
set_option maxHeartbeats 12800000
namespace Go.Proofs.YtonodfjdiepglaaGreatDoor
open Go Go.RowKit Go.Proofs.Tryz P Q R
set_option maxRecDepth 1000000
open Go.World renaming frozen?→xF
open Go.Value renaming slice→xR
open Nat renaming le_refl→xW
open Go.RowKit.Below renaming refl→x1,heap_setCell→x2
theorem zIt (a:FA) (f:EE) (v:Nat) (rd:List Nat) (z:Nat) (bh:List Nat) (w:World) (Y:Ej w a f) (Z:Eh w v a.n rd) (X:Eh w z a.n bh) :
  Calls prog 54 #[.agg (zAn a),.agg #[.slice (some ⟨v,0,none⟩) a.n a.n],.agg #[.slice (some ⟨z,0,none⟩) a.n a.n]] w fun e w'=>jC w w' a.n (kAg rd bh) e:=by
 obtain⟨x,c,A,_⟩:=Y.form;obtain⟨n,ev,g1,g2,g3,g4,g5,g6,g7,g8,g9⟩:=a;simp only at A Z X;subst A;simp only[zAn];obtain⟨i,T,U,V,aa,l⟩:=zS w #[.slice x n c,.slice (some ⟨g1,0,none⟩) n n,.slice (some ⟨g2,0,none⟩) n n,.slice (some ⟨g3,0,none⟩) n n,.slice (some ⟨g4,0,none⟩) n n,.slice (some ⟨g5,0,none⟩) n n,.slice (some ⟨g6,0,none⟩) n n,.slice (some ⟨g7,0,none⟩) n n,.slice (some ⟨g8,0,none⟩) n n,.slice (some ⟨g9,0,none⟩) n n] #[.slice (some ⟨v,0,none⟩) n n] #[.slice (some ⟨z,0,none⟩) n n] #[.slice none 0 0] 75 73 73 73;have HF:=zAa (Y.below l);have Rr:=zAa (Z.below l);have Rb:=zAa (X.below l);have W:=zAa l;clear l Y Z X;go_enter func54,ntmps54;go_upto_region 1 with fail
 generalize hE:((((w.alloc (.cells #[.slice x n c,.slice (some ⟨g1,0,none⟩) n n,.slice (some ⟨g2,0,none⟩) n n,.slice (some ⟨g3,0,none⟩) n n,.slice (some ⟨g4,0,none⟩) n n,.slice (some ⟨g5,0,none⟩) n n,.slice (some ⟨g6,0,none⟩) n n,.slice (some ⟨g7,0,none⟩) n n,.slice (some ⟨g8,0,none⟩) n n,.slice (some ⟨g9,0,none⟩) n n] 75)).alloc (.cells #[.slice (some ⟨v,0,none⟩) n n] 73)).alloc (.cells #[.slice (some ⟨z,0,none⟩) n n] 73)).alloc (.cells #[.slice none 0 0] 73))=k at *;have E:=aD i 0 _ rfl;have F:=aD i 1 _ rfl;have G:=aD i 2 _ rfl;have H:=aD i 3 _ rfl;have I:=aD i 4 _ rfl;have J:=aD i 5 _ rfl;have K:=aD i 6 _ rfl;have L:=aD i 7 _ rfl;have M:=aD i 8 _ rfl;have N:=aD i 9 _ rfl;have ai:w.heap.size<k.heap.size:=by omega
 have ae:∀ j,k.frozen? ⟨w.heap.size,j,none⟩=false:=fun j=>by simp[xF,i]
 have ab:=zAa i;have o:=aD T 0 _ rfl;have B:w.heap.size+1<k.heap.size:=by omega
 have af:∀ j,k.frozen? ⟨w.heap.size+1,j,none⟩=false:=fun j=>by simp[xF,T]
 have ac:=zAa T;have q:=aD U 0 _ rfl;have C:w.heap.size+2<k.heap.size:=by omega
 have ag:∀ j,k.frozen? ⟨w.heap.size+2,j,none⟩=false:=fun j=>by simp[xF,U]
 have ad:=zAa U;have r:=aD V 0 _ rfl;have g:w.heap.size+3<k.heap.size:=by omega
 have y:∀ j,k.frozen? ⟨w.heap.size+3,j,none⟩=false:=fun j=>by simp[xF,V]
 have s:=zAa V;have ah:w.heap.size+4<=k.heap.size:=by omega
 clear hE aa i T U V;go_wp2_with (first
  | (go_at_call_of 78 (xR (some ⟨v,0,none⟩) n n);refine (jP v z n _ _ _ (Rr.out.below (x1 _ _)) (Rb.out.below (x1 _ _))).mono ?_;rintro e D ⟨t,rfl,m,u⟩;have b:Hid (Below k.heap.size k D):=u;have O:=aC b.out B o;have S:=aC b.out C q;have ak:=(b.out.frozen (p:=⟨w.heap.size+3,0,none⟩) g).trans (y 0);have aj:=aC b.out g r;have d:=zAa m;clear m))
 all_goals
  (try go_wp2)
  have KR:=bH ((b.out.block _ g).trans s.out) 0 (.slice (some ⟨t,0,none⟩) n n);refine jT (p:=6) (w.heap.size+3) _ (by kernel_rfl) rfl (by exact KR) rfl ⟨t,rfl,⟨(d.out).at_.aA (x2 _ _ _ _ (by have:=d.out.at_;unfold zAo at this;intro e;rw[e] at this;rw[(b.out.block _ g).trans s.out] at this;simp at this)),(d.out).len,(d.out).fits⟩,(aK W.out (xW _) b.out).setCell (p:=⟨w.heap.size+3,0,none⟩) (by simp) _⟩
theorem zKB (a:FA) (f:EE) (gr:Nat) (rd:List Nat) (gb:Nat) (bh:List Nat) (gm:Nat) (ms:List Nat) (w:World) (hf:Ej w a f) (hr:Eh w gr a.n rd) (hb:Eh w gb a.n bh) (hm:Eh w gm a.n ms) :
  Calls prog 91 #[.agg (zAn a),.agg #[.slice (some ⟨gr,0,none⟩) a.n a.n],.agg #[.slice (some ⟨gb,0,none⟩) a.n a.n],.agg #[.slice (some ⟨gm,0,none⟩) a.n a.n]] w fun e w'=>jC w w' a.n (rM rd bh ms) e:=by
 obtain⟨x,c,am,_⟩:=hf.form;obtain⟨n,ev,g1,g2,g3,g4,g5,g6,g7,g8,g9⟩:=a;simp only at am hr hb hm;subst am;simp only[zAn];obtain⟨y,k1,k2,k3,k4,ar,v⟩:=zLw w #[.slice x n c,.slice (some ⟨g1,0,none⟩) n n,.slice (some ⟨g2,0,none⟩) n n,.slice (some ⟨g3,0,none⟩) n n,.slice (some ⟨g4,0,none⟩) n n,.slice (some ⟨g5,0,none⟩) n n,.slice (some ⟨g6,0,none⟩) n n,.slice (some ⟨g7,0,none⟩) n n,.slice (some ⟨g8,0,none⟩) n n,.slice (some ⟨g9,0,none⟩) n n] #[.slice (some ⟨gr,0,none⟩) n n] #[.slice (some ⟨gb,0,none⟩) n n] #[.slice (some ⟨gm,0,none⟩) n n] #[.slice none 0 0] 75 73 73 73 73;have HF:=zAa (hf.below v);have Rr:=zAa (hr.below v);have Rb:=zAa (hb.below v);have Rm:=zAa (hm.below v);have aq:=zAa v;clear v hf hr hb hm;go_enter func91,ntmps91;go_upto_region 1 with fail
 generalize hE:(((((w.alloc (.cells #[.slice x n c,.slice (some ⟨g1,0,none⟩) n n,.slice (some ⟨g2,0,none⟩) n n,.slice (some ⟨g3,0,none⟩) n n,.slice (some ⟨g4,0,none⟩) n n,.slice (some ⟨g5,0,none⟩) n n,.slice (some ⟨g6,0,none⟩) n n,.slice (some ⟨g7,0,none⟩) n n,.slice (some ⟨g8,0,none⟩) n n,.slice (some ⟨g9,0,none⟩) n n] 75)).alloc (.cells #[.slice (some ⟨gr,0,none⟩) n n] 73)).alloc (.cells #[.slice (some ⟨gb,0,none⟩) n n] 73)).alloc (.cells #[.slice (some ⟨gm,0,none⟩) n n] 73)).alloc (.cells #[.slice none 0 0] 73))=o at *;have G:=aD y 0 _ rfl;have H:=aD y 1 _ rfl;have I:=aD y 2 _ rfl;have J:=aD y 3 _ rfl;have K:=aD y 4 _ rfl;have L:=aD y 5 _ rfl;have M:=aD y 6 _ rfl;have N:=aD y 7 _ rfl;have O:=aD y 8 _ rfl;have S:=aD y 9 _ rfl;have az:w.heap.size<o.heap.size:=by omega
 have ai:∀ j,o.frozen? ⟨w.heap.size,j,none⟩=false:=fun j=>by simp[xF,y]
 have au:=zAa y;have g:=aD k1 0 _ rfl;have D:w.heap.size+1<o.heap.size:=by omega
 have aj:∀ j,o.frozen? ⟨w.heap.size+1,j,none⟩=false:=fun j=>by simp[xF,k1]
 have av:=zAa k1;have i:=aD k2 0 _ rfl;have E:w.heap.size+2<o.heap.size:=by omega
 have ak:∀ j,o.frozen? ⟨w.heap.size+2,j,none⟩=false:=fun j=>by simp[xF,k2]
 have aw:=zAa k2;have k:=aD k3 0 _ rfl;have F:w.heap.size+3<o.heap.size:=by omega
 have al:∀ j,o.frozen? ⟨w.heap.size+3,j,none⟩=false:=fun j=>by simp[xF,k3]
 have ax:=zAa k3;have q:=aD k4 0 _ rfl;have d:w.heap.size+4<o.heap.size:=by omega
 have z:∀ j,o.frozen? ⟨w.heap.size+4,j,none⟩=false:=fun j=>by simp[xF,k4]
 have Z:=zAa k4;have ay:w.heap.size+5<=o.heap.size:=by omega
 clear hE ar y k1 k2 k3 k4;clear G H I J K L M N O S;clear ai aj ak al;go_region_held3 (fun w'=>w'.cell? ⟨w.heap.size+1,0,none⟩=some (.slice (some ⟨gr,0,none⟩) n n)/\w'.cell? ⟨w.heap.size+2,0,none⟩=some (.slice (some ⟨gb,0,none⟩) n n)/\w'.cell? ⟨w.heap.size+3,0,none⟩=some (.slice (some ⟨gm,0,none⟩) n n)) (first | exact⟨g,i,k⟩ | exact⟨T,U,V⟩ | exact⟨W,X,Y⟩ | exact⟨s,t,u⟩ | exact⟨(bI (by omega)).trans s,(bI (by omega)).trans t,(bI (by omega)).trans u⟩) (first
  | (go_at_call_of 45 (xR (some ⟨ab,0,none⟩) n n);refine (jS ab gm n _ _ _ ah.out (Rm.out.below m.out)).mono ?_;rintro e ap ⟨ac,rfl,C,af⟩;have b:Hid (Below o.heap.size o ap):=aK m.out (xW _) af;have s:=aC b.out D g;have t:=aC b.out E i;have u:=aC b.out F k;have aI:=(b.out.frozen (p:=⟨w.heap.size+4,0,none⟩) d).trans (z 0);have aF:=aC b.out d q;have r:=zAa C;clear C)
  | (go_at_call_of 45 (xR (some ⟨aa,0,none⟩) n n);refine (jS aa gb n _ _ _ ag.out (Rb.out.below l.out)).mono ?_;rintro e ao ⟨ab,rfl,B,ae⟩;have m:Hid (Below o.heap.size o ao):=aK l.out (xW _) ae;have W:=aC m.out D g;have X:=aC m.out E i;have Y:=aC m.out F k;have aH:=(m.out.frozen (p:=⟨w.heap.size+4,0,none⟩) d).trans (z 0);have aE:=aC m.out d q;have ah:=zAa B;clear B)
  | (go_at_call_of 87 (xR (some ⟨gr,0,none⟩) n n);refine (zER gr n _ _ (Rr.out.below (x1 _ _).drew)).mono ?_;rintro e an ⟨aa,rfl,A,ad⟩;have l:Hid (Below o.heap.size o an):=((x1 o.heap.size o).drew).trans (ad.mono (by simp));have T:=aC l.out D g;have U:=aC l.out E i;have V:=aC l.out F k;have aG:=(l.out.frozen (p:=⟨w.heap.size+4,0,none⟩) d).trans (z 0);have aB:=aC l.out d q;have ag:=zAa A;clear A))
 all_goals
  (try go_wp2)
  have KR:=bH ((b.out.block _ d).trans Z.out) 0 (.slice (some ⟨ac,0,none⟩) n n);refine jT (p:=8) (w.heap.size+4) _ (by kernel_rfl) rfl (by exact KR) rfl ⟨ac,rfl,⟨(r.out).at_.aA (x2 _ _ _ _ (by have:=r.out.at_;unfold zAo at this;intro e;rw[e] at this;rw[(b.out.block _ d).trans Z.out] at this;simp at this)),(r.out).len,(r.out).fits⟩,(aK aq.out (xW _) b.out).setCell (p:=⟨w.heap.size+4,0,none⟩) (by simp) _⟩
theorem zFd (a:FA) (f:EE) (Y:Nat) (ms:List Nat) (X:Nat) (bh:List Nat) (w:World) (hf:Ej w a f) (hm:Eh w Y a.n ms) (hb:Eh w X a.n bh) :
  Calls prog 90 #[.agg (zAn a),.agg #[.slice (some ⟨Y,0,none⟩) a.n a.n],.agg #[.slice (some ⟨X,0,none⟩) a.n a.n]] w fun e w'=>e=.returned (.bool (f.dX ms bh))/\Below w.heap.size w w':=by
 obtain⟨x,c,ae,_⟩:=hf.form;obtain⟨n,ev,g1,g2,g3,g4,g5,g6,g7,g8,g9⟩:=a;simp only at ae hm hb;subst ae;simp only[zAn];obtain⟨o,k1,k2,aj,p⟩:=lD w #[.slice x n c,.slice (some ⟨g1,0,none⟩) n n,.slice (some ⟨g2,0,none⟩) n n,.slice (some ⟨g3,0,none⟩) n n,.slice (some ⟨g4,0,none⟩) n n,.slice (some ⟨g5,0,none⟩) n n,.slice (some ⟨g6,0,none⟩) n n,.slice (some ⟨g7,0,none⟩) n n,.slice (some ⟨g8,0,none⟩) n n,.slice (some ⟨g9,0,none⟩) n n] #[.slice (some ⟨Y,0,none⟩) n n] #[.slice (some ⟨X,0,none⟩) n n] 75 73 73;have HF:=zAa (hf.below p);have Rm:=zAa (hm.below p);have Rb:=zAa (hb.below p);have ai:=zAa p;clear p hf hm hb;go_enter func90,ntmps90;go_upto_region 1 with fail
 generalize hE:(((w.alloc (.cells #[.slice x n c,.slice (some ⟨g1,0,none⟩) n n,.slice (some ⟨g2,0,none⟩) n n,.slice (some ⟨g3,0,none⟩) n n,.slice (some ⟨g4,0,none⟩) n n,.slice (some ⟨g5,0,none⟩) n n,.slice (some ⟨g6,0,none⟩) n n,.slice (some ⟨g7,0,none⟩) n n,.slice (some ⟨g8,0,none⟩) n n,.slice (some ⟨g9,0,none⟩) n n] 75)).alloc (.cells #[.slice (some ⟨Y,0,none⟩) n n] 73)).alloc (.cells #[.slice (some ⟨X,0,none⟩) n n] 73))=k at *;have v:=aD o 0 _ rfl;have y:=aD o 1 _ rfl;have z:=aD o 2 _ rfl;have A:=aD o 3 _ rfl;have B:=aD o 4 _ rfl;have C:=aD o 5 _ rfl;have D:=aD o 6 _ rfl;have b:=aD o 7 _ rfl;have E:=aD o 8 _ rfl;have F:=aD o 9 _ rfl;have s:w.heap.size<k.heap.size:=by omega
 have ab:∀ j,k.frozen? ⟨w.heap.size,j,none⟩=false:=fun j=>by simp[xF,o]
 have ak:=zAa o;have d:=aD k1 0 _ rfl;have t:w.heap.size+1<k.heap.size:=by omega
 have ac:∀ j,k.frozen? ⟨w.heap.size+1,j,none⟩=false:=fun j=>by simp[xF,k1]
 have al:=zAa k1;have g:=aD k2 0 _ rfl;have u:w.heap.size+2<k.heap.size:=by omega
 have ad:∀ j,k.frozen? ⟨w.heap.size+2,j,none⟩=false:=fun j=>by simp[xF,k2]
 have am:=zAa k2;have an:w.heap.size+3<=k.heap.size:=by omega
 clear hE aj o k1 k2;clear v y z A B C D E F;clear ab ac ad;go_region_held3 (fun w'=>w'.cell? ⟨w.heap.size,7,none⟩=some (.slice (some ⟨g7,0,none⟩) n n)/\w'.cell? ⟨w.heap.size+1,0,none⟩=some (.slice (some ⟨Y,0,none⟩) n n)/\w'.cell? ⟨w.heap.size+2,0,none⟩=some (.slice (some ⟨X,0,none⟩) n n)) (first | exact⟨b,d,g⟩ | exact⟨G,H,I⟩ | exact⟨J,K,L⟩ | exact⟨M,N,O⟩) (first
  | (go_at_call_of 88 (xR (some ⟨T,0,none⟩) n n);refine (qB T n _ _ aa.out).mono ?_;rintro e ah ⟨rfl,W⟩;have m:Hid (Below k.heap.size k ah):=aK l.out (xW _) W;have M:=aC m.out s b;have N:=aC m.out t d;have O:=aC m.out u g;skip)
  | (go_at_call_of 78 (xR (some ⟨S,0,none⟩) n n);refine (jP S X n _ _ _ Z.out (Rb.out.below i.out)).mono ?_;rintro e ag ⟨T,rfl,r,V⟩;have l:Hid (Below k.heap.size k ag):=aK i.out (xW _) V;have J:=aC l.out s b;have K:=aC l.out t d;have L:=aC l.out u g;have aa:=zAa r;clear r)
  | (go_at_call_of 78 (xR (some ⟨g7,0,none⟩) n n);refine (jP g7 Y n _ _ _ (HF.out.r7.below (x1 _ _).drew) (Rm.out.below (x1 _ _).drew)).mono ?_;rintro e af ⟨S,rfl,q,U⟩;have i:Hid (Below k.heap.size k af):=((x1 k.heap.size k).drew).trans (U.mono (by simp));have G:=aC i.out s b;have H:=aC i.out t d;have I:=aC i.out u g;have Z:=zAa q;clear q))
 all_goals
  go_wp2;go_ret;exact⟨rfl,aK ai.out (xW _) m.out⟩
theorem zIv (a:FA) (f:EE) (F:Nat) (rd:List Nat) (k:Nat) (cs:List Nat) (E:Nat) (fb:List Nat) (w:World) (K:Ej w a f) (M:Eh w F a.n rd) (J:Eh w k a.n cs) (L:Eh w E a.n fb) (h1:bB cs=true) :
  Calls prog 51 #[.agg (gL a F),.agg #[.slice (some ⟨k,0,none⟩) a.n a.n],.agg #[.slice (some ⟨E,0,none⟩) a.n a.n]] w fun e w'=>e=.returned (.bool (false))/\Below w.heap.size w w':=by
 obtain⟨x,c,o,_⟩:=K.form;obtain⟨n,ev,X,Y,Z,g4,g5,g6,g7,g8,g9⟩:=a;simp only at o M J L;subst o;simp only[zAn,gL];obtain⟨b,G,H,N,d⟩:=lD w #[.slice x n c,.slice (some ⟨X,0,none⟩) n n,.slice (some ⟨Y,0,none⟩) n n,.slice (some ⟨Z,0,none⟩) n n,.slice (some ⟨g4,0,none⟩) n n,.slice (some ⟨g5,0,none⟩) n n,.slice (some ⟨g6,0,none⟩) n n,.slice (some ⟨g7,0,none⟩) n n,.slice (some ⟨g8,0,none⟩) n n,.slice (some ⟨g9,0,none⟩) n n,.slice (some ⟨F,0,none⟩) n n] #[.slice (some ⟨k,0,none⟩) n n] #[.slice (some ⟨E,0,none⟩) n n] 87 73 73;have HF:=zAa (K.below d);have Rr:=zAa (M.below d);have Rc:=zAa (J.below d);have Rk:=zAa (L.below d);have I:=zAa d;clear d K M J L;go_enter func51,ntmps51;go_upto_region 1 with fail
 generalize hE:(((w.alloc (.cells #[.slice x n c,.slice (some ⟨X,0,none⟩) n n,.slice (some ⟨Y,0,none⟩) n n,.slice (some ⟨Z,0,none⟩) n n,.slice (some ⟨g4,0,none⟩) n n,.slice (some ⟨g5,0,none⟩) n n,.slice (some ⟨g6,0,none⟩) n n,.slice (some ⟨g7,0,none⟩) n n,.slice (some ⟨g8,0,none⟩) n n,.slice (some ⟨g9,0,none⟩) n n,.slice (some ⟨F,0,none⟩) n n] 87)).alloc (.cells #[.slice (some ⟨k,0,none⟩) n n] 73)).alloc (.cells #[.slice (some ⟨E,0,none⟩) n n] 73))=g at *;have q:=aD b 0 _ rfl;have r:=aD b 1 _ rfl;have s:=aD b 2 _ rfl;have t:=aD b 3 _ rfl;have u:=aD b 4 _ rfl;have v:=aD b 5 _ rfl;have y:=aD b 6 _ rfl;have z:=aD b 7 _ rfl;have A:=aD b 8 _ rfl;have B:=aD b 9 _ rfl;have m:=aD b 10 _ rfl;have ab:w.heap.size<g.heap.size:=by omega
 have U:∀ j,g.frozen? ⟨w.heap.size,j,none⟩=false:=fun j=>by simp[xF,b]
 have O:=zAa b;have C:=aD G 0 _ rfl;have ac:w.heap.size+1<g.heap.size:=by omega
 have V:∀ j,g.frozen? ⟨w.heap.size+1,j,none⟩=false:=fun j=>by simp[xF,G]
 have S:=zAa G;have D:=aD H 0 _ rfl;have ad:w.heap.size+2<g.heap.size:=by omega
 have W:∀ j,g.frozen? ⟨w.heap.size+2,j,none⟩=false:=fun j=>by simp[xF,H]
 have T:=zAa H;have aa:w.heap.size+3<=g.heap.size:=by omega
 clear hE N b G H;go_wp2_with (first
  | (go_at_call_of 88 (xR (some ⟨k,0,none⟩) n n);refine (qB k n _ _ (Rc.out.below (x1 _ _))).mono ?_;rintro e p ⟨rfl,i⟩;(try rw[h1]);have l:Hid (Below g.heap.size g p):=i;skip))
 all_goals
  go_wp2;go_ret;exact⟨rfl,aK I.out (xW _) l.out⟩
theorem zIw (a:FA) (f:EE) (Z:Nat) (rd:List Nat) (t:Nat) (cs:List Nat) (z:Nat) (fb:List Nat) (w:World) (hf:Ej w a f) (hr:Eh w Z a.n rd) (hc:Eh w t a.n cs) (hk:Eh w z a.n fb) (h1:bB cs=false) (h2:bB (kAg fb cs)=true) :
  Calls prog 51 #[.agg (gL a Z),.agg #[.slice (some ⟨t,0,none⟩) a.n a.n],.agg #[.slice (some ⟨z,0,none⟩) a.n a.n]] w fun e w'=>e=.returned (.bool (false))/\Below w.heap.size w w':=by
 obtain⟨x,c,C,_⟩:=hf.form;obtain⟨n,ev,g1,g2,g3,g4,g5,g6,g7,g8,g9⟩:=a;simp only at C hr hc hk;subst C;simp only[zAn,gL];obtain⟨i,k1,k2,ab,l⟩:=lD w #[.slice x n c,.slice (some ⟨g1,0,none⟩) n n,.slice (some ⟨g2,0,none⟩) n n,.slice (some ⟨g3,0,none⟩) n n,.slice (some ⟨g4,0,none⟩) n n,.slice (some ⟨g5,0,none⟩) n n,.slice (some ⟨g6,0,none⟩) n n,.slice (some ⟨g7,0,none⟩) n n,.slice (some ⟨g8,0,none⟩) n n,.slice (some ⟨g9,0,none⟩) n n,.slice (some ⟨Z,0,none⟩) n n] #[.slice (some ⟨t,0,none⟩) n n] #[.slice (some ⟨z,0,none⟩) n n] 87 73 73;have HF:=zAa (hf.below l);have Rr:=zAa (hr.below l);have Rc:=zAa (hc.below l);have Rk:=zAa (hk.below l);have aa:=zAa l;clear l hf hr hc hk;go_enter func51,ntmps51;go_upto_region 1 with fail
 generalize hE:(((w.alloc (.cells #[.slice x n c,.slice (some ⟨g1,0,none⟩) n n,.slice (some ⟨g2,0,none⟩) n n,.slice (some ⟨g3,0,none⟩) n n,.slice (some ⟨g4,0,none⟩) n n,.slice (some ⟨g5,0,none⟩) n n,.slice (some ⟨g6,0,none⟩) n n,.slice (some ⟨g7,0,none⟩) n n,.slice (some ⟨g8,0,none⟩) n n,.slice (some ⟨g9,0,none⟩) n n,.slice (some ⟨Z,0,none⟩) n n] 87)).alloc (.cells #[.slice (some ⟨t,0,none⟩) n n] 73)).alloc (.cells #[.slice (some ⟨z,0,none⟩) n n] 73))=k at *;have G:=aD i 0 _ rfl;have H:=aD i 1 _ rfl;have I:=aD i 2 _ rfl;have J:=aD i 3 _ rfl;have K:=aD i 4 _ rfl;have L:=aD i 5 _ rfl;have M:=aD i 6 _ rfl;have N:=aD i 7 _ rfl;have O:=aD i 8 _ rfl;have S:=aD i 9 _ rfl;have B:=aD i 10 _ rfl;have aj:w.heap.size<k.heap.size:=by omega
 have af:∀ j,k.frozen? ⟨w.heap.size,j,none⟩=false:=fun j=>by simp[xF,i]
 have ac:=zAa i;have b:=aD k1 0 _ rfl;have q:w.heap.size+1<k.heap.size:=by omega
 have ag:∀ j,k.frozen? ⟨w.heap.size+1,j,none⟩=false:=fun j=>by simp[xF,k1]
 have ad:=zAa k1;have d:=aD k2 0 _ rfl;have r:w.heap.size+2<k.heap.size:=by omega
 have ah:∀ j,k.frozen? ⟨w.heap.size+2,j,none⟩=false:=fun j=>by simp[xF,k2]
 have ae:=zAa k2;have ai:w.heap.size+3<=k.heap.size:=by omega
 clear hE ab i k1 k2;go_wp2_with (first
  | (go_at_call_of 88 (xR (some ⟨s,0,none⟩) n n);refine (qB s n _ _ A.out).mono ?_;rintro e F ⟨rfl,y⟩;(try rw[h2]);have o:Hid (Below k.heap.size k F):=aK m.out (xW _) y;have X:=aC o.out q b;have Y:=aC o.out r d;skip)
  | (go_at_call_of 78 (xR (some ⟨z,0,none⟩) n n);refine (jP z t n _ _ _ (Rk.out.below g.out) (Rc.out.below g.out)).mono ?_;rintro e E ⟨s,rfl,p,v⟩;have m:Hid (Below k.heap.size k E):=aK g.out (xW _) v;have V:=aC m.out q b;have W:=aC m.out r d;have A:=zAa p;clear p)
  | (go_at_call_of 88 (xR (some ⟨t,0,none⟩) n n);refine (qB t n _ _ (Rc.out.below (x1 _ _))).mono ?_;rintro e D ⟨rfl,u⟩;(try rw[h1]);have g:Hid (Below k.heap.size k D):=u;have T:=aC g.out q b;have U:=aC g.out r d;skip))
 all_goals
  go_wp2;go_ret;exact⟨rfl,aK aa.out (xW _) o.out⟩
theorem zIx (a:FA) (f:EE) (I:Nat) (rd:List Nat) (z:Nat) (cs:List Nat) (H:Nat) (fb:List Nat) (w:World) (hf:Ej w a f) (hr:Eh w I a.n rd) (hc:Eh w z a.n cs) (hk:Eh w H a.n fb) (h1:bB cs=false) (h2:bB (kAg fb cs)=false) :
  Calls prog 51 #[.agg (gL a I),.agg #[.slice (some ⟨z,0,none⟩) a.n a.n],.agg #[.slice (some ⟨H,0,none⟩) a.n a.n]] w fun e w'=>e=.returned (.bool (!Q.dH (fV rd cs)))/\Below w.heap.size w w':=by
 obtain⟨x,c,L,_⟩:=hf.form;obtain⟨n,ev,g1,g2,g3,g4,g5,g6,g7,g8,g9⟩:=a;simp only at L hr hc hk;subst L;simp only[zAn,gL];obtain⟨t,k1,k2,aw,u⟩:=lD w #[.slice x n c,.slice (some ⟨g1,0,none⟩) n n,.slice (some ⟨g2,0,none⟩) n n,.slice (some ⟨g3,0,none⟩) n n,.slice (some ⟨g4,0,none⟩) n n,.slice (some ⟨g5,0,none⟩) n n,.slice (some ⟨g6,0,none⟩) n n,.slice (some ⟨g7,0,none⟩) n n,.slice (some ⟨g8,0,none⟩) n n,.slice (some ⟨g9,0,none⟩) n n,.slice (some ⟨I,0,none⟩) n n] #[.slice (some ⟨z,0,none⟩) n n] #[.slice (some ⟨H,0,none⟩) n n] 87 73 73;have HF:=zAa (hf.below u);have Rr:=zAa (hr.below u);have Rc:=zAa (hc.below u);have Rk:=zAa (hk.below u);have av:=zAa u;clear u hf hr hc hk;go_enter func51,ntmps51;go_upto_region 1 with fail
 generalize hE:(((w.alloc (.cells #[.slice x n c,.slice (some ⟨g1,0,none⟩) n n,.slice (some ⟨g2,0,none⟩) n n,.slice (some ⟨g3,0,none⟩) n n,.slice (some ⟨g4,0,none⟩) n n,.slice (some ⟨g5,0,none⟩) n n,.slice (some ⟨g6,0,none⟩) n n,.slice (some ⟨g7,0,none⟩) n n,.slice (some ⟨g8,0,none⟩) n n,.slice (some ⟨g9,0,none⟩) n n,.slice (some ⟨I,0,none⟩) n n] 87)).alloc (.cells #[.slice (some ⟨z,0,none⟩) n n] 73)).alloc (.cells #[.slice (some ⟨H,0,none⟩) n n] 73))=l at *;have U:=aD t 0 _ rfl;have V:=aD t 1 _ rfl;have W:=aD t 2 _ rfl;have X:=aD t 3 _ rfl;have Y:=aD t 4 _ rfl;have Z:=aD t 5 _ rfl;have aa:=aD t 6 _ rfl;have ab:=aD t 7 _ rfl;have ac:=aD t 8 _ rfl;have ad:=aD t 9 _ rfl;have b:=aD t 10 _ rfl;have m:w.heap.size<l.heap.size:=by omega
 have aA:∀ j,l.frozen? ⟨w.heap.size,j,none⟩=false:=fun j=>by simp[xF,t]
 have ax:=zAa t;have d:=aD k1 0 _ rfl;have o:w.heap.size+1<l.heap.size:=by omega
 have aB:∀ j,l.frozen? ⟨w.heap.size+1,j,none⟩=false:=fun j=>by simp[xF,k1]
 have ay:=zAa k1;have g:=aD k2 0 _ rfl;have p:w.heap.size+2<l.heap.size:=by omega
 have aE:∀ j,l.frozen? ⟨w.heap.size+2,j,none⟩=false:=fun j=>by simp[xF,k2]
 have az:=zAa k2;have aF:w.heap.size+3<=l.heap.size:=by omega
 clear hE aw t k1 k2;go_wp2_with (first
  | (go_at_call_of 89 (xR (some ⟨B,0,none⟩) n n);refine (zIZ B n _ _ K.out).mono ?_;rintro e T ⟨rfl,G⟩;have s:Hid (Below l.heap.size l T):=aK r.out (xW _) G;have aq:=aC s.out m b;have ar:=aC s.out o d;have au:=aC s.out p g;skip)
  | (go_at_call_of 77 (xR (some ⟨I,0,none⟩) n n);refine (sJ I z n _ _ _ (Rr.out.below k.out) (Rc.out.below k.out)).mono ?_;rintro e S ⟨B,rfl,y,F⟩;have r:Hid (Below l.heap.size l S):=aK k.out (xW _) F;have an:=aC r.out m b;have ao:=aC r.out o d;have ap:=aC r.out p g;have K:=zAa y;clear y)
  | (go_at_call_of 88 (xR (some ⟨A,0,none⟩) n n);refine (qB A n _ _ J.out).mono ?_;rintro e O ⟨rfl,E⟩;(try rw[h2]);have k:Hid (Below l.heap.size l O):=aK q.out (xW _) E;have ak:=aC k.out m b;have al:=aC k.out o d;have am:=aC k.out p g;skip)
  | (go_at_call_of 78 (xR (some ⟨H,0,none⟩) n n);refine (jP H z n _ _ _ (Rk.out.below i.out) (Rc.out.below i.out)).mono ?_;rintro e N ⟨A,rfl,v,D⟩;have q:Hid (Below l.heap.size l N):=aK i.out (xW _) D;have ah:=aC q.out m b;have ai:=aC q.out o d;have aj:=aC q.out p g;have J:=zAa v;clear v)
  | (go_at_call_of 88 (xR (some ⟨z,0,none⟩) n n);refine (qB z n _ _ (Rc.out.below (x1 _ _))).mono ?_;rintro e M ⟨rfl,C⟩;(try rw[h1]);have i:Hid (Below l.heap.size l M):=C;have ae:=aC i.out m b;have af:=aC i.out o d;have ag:=aC i.out p g;skip))
 all_goals
  go_wp2;go_ret;exact⟨rfl,aK av.out (xW _) s.out⟩
end Go.Proofs.YtonodfjdiepglaaGreatDoor
