import Derived.Test.YteekngiepnnmjaaGreatDoorV09
set_option linter.all false
set_option maxHeartbeats 0
namespace Go.Proofs.YteekngiepnnmjaaGreatDoor
open Go Go.RowKit Go.Proofs.Tryz P Q
open scoped Classical
set_option maxRecDepth 1000000
open Go.RowKit renaming Below->σ,intOf->ω
open _root_ renaming Int->z,Int->ν,Nat->u,Nat->ι,List->ψ
open Go renaming World->ξ,Calls->φ
open Go.Proofs.Tryz renaming prog->ρ
open _root_.Array renaming size->T
open Go.World renaming heap->A
open List renaming length->W
open Go.Value renaming int->C,slice->U,bool->M,agg->D
open Go.IntKind renaming i64->O
open Go.Obj renaming cells->I
open Option renaming none->N
open Bool renaming false->H
open List renaming range->xF
open Nat renaming lt_of_lt_of_le->xR,le_refl->xW,zero_le->xa
open Go.RowKit.Below renaming refl->xb
open Go.Value renaming int->xc,agg->xd
def WN.fs{w:ξ}{g:ι}{e:Ev}(h:WN w g e):(∀i,w.cell? ⟨g,i,N⟩=#[xc O e.kind,C O e.j,C O e.block,C O e.z,C O e.value,C O e.q,C O e.scope,C O e.u,M e.step,C .u64 (e.h:ι)][i]?)/\(∀j,w.frozen? ⟨g,j,N⟩=H)/\g<T (A w):=
 ⟨cA h,λi=>by unfold WN at h;simp[World.frozen?,h],dC h⟩
theorem Vs(i k:u):((i:z)==(k:z))=!(i != k):=by
 grind
theorem Vt(a:FA)(f:Ex)(i k:ι)(e1 e2:Ev)(w:ξ)(s:Ee w a f):
  φ ρ 125 #[D (XP a),C O (i:z),D (aK e1),C O (k:z),D (aK e2)] w λe w'=>e=.returned (M (f.cH i e1 k e2))/\σ (T (A w)) w w':=by
 have v:aC (f.cH i e1 k e2=(e1.kind==1&&i != k&&!Q.cD f.G i k&&e1.z==e2.z&&ZA e2)):=Z;obtain⟨x,c,l,hx⟩:=s.form;have p:=s.n64;have E:=s.len;obtain⟨n,ev,S,r,V,Y,g5,g6,g7,g8,g9⟩:=a;simp only at l p E hx;subst l;simp only[XP];obtain⟨k0,k1,k2,aa,j⟩:=wT w #[U x n c,VV S n n,VV r n n,VV V n n,VV Y n n,VV g5 n n,VV g6 n n,VV g7 n n,VV g8 n n,VV g9 n n] (aK e1) (aK e2) 85 180 180;have y:=aD (s.r2.X j);have d:=aD j;have J:aC (WN _ _ e1):=k1;have K:aC (WN _ _ e2):=k2;simp only[aK]at *;have q:(e1.kind != 1)=!(e1.kind==1):=Z;have m:=Vs i k
 cases z1:e1.kind==1
 ·rw[z1]at q;have g:aC (f.cH i e1 k e2=H):=by simp_all
  go_in;go_wp2;go_ret;rw[g.o];exact⟨Z,d⟩
 rw[z1]at q
 cases z2:i != k
 ·rw[z2]at m;have g:aC (f.cH i e1 k e2=H):=by simp_all
  go_in;go_wp2;go_ret;rw[g.o];exact⟨Z,d⟩
 rw[z2]at m
 cases z3:cD f.G (i:z) (k:z)
 rotate_left
 ·have g:aC (f.cH i e1 k e2=H):=by unfold aC;rw[v.o,z1,z2,z3];rfl
  go_in;go_wp2_with(first|(go_at_call 103;refine(zM r n f.G (i:z) (k:z) _ y).mono ?_;rintro e L ⟨rfl,b⟩;rw[z3]));go_ret;rw[g.o];exact⟨Z,bT d b⟩
 cases z4:e1.z==e2.z
 ·have g:aC (f.cH i e1 k e2=H):=by unfold aC;rw[v.o,z1,z2,z3,z4];rfl
  go_in;go_wp2_with(first|(go_at_call 103;refine(zM r n f.G (i:z) (k:z) _ y).mono ?_;rintro e L ⟨rfl,b⟩;rw[z3];have t:=aD (J.X b);obtain⟨x0,x1,x2,x3,x4,x5,x6,x7,x8,x9,xf,xl⟩:=t.F;have u:=aD (K.X b);obtain⟨y0,y1,y2,y3,y4,y5,y6,y7,y8,y9,yf,yl⟩:=u.F));go_ret;rw[g.o];exact⟨Z,bT d b⟩
 ·have g:aC (f.cH i e1 k e2=ZA e2):=by unfold aC;rw[v.o,z1,z2,z3,z4];rfl
  go_in;go_wp2_with(first|(go_at_call 103;refine(zM r n f.G (i:z) (k:z) _ y).mono ?_;rintro e L ⟨rfl,b⟩;rw[z3];have t:=aD (J.X b);obtain⟨x0,x1,x2,x3,x4,x5,x6,x7,x8,x9,xf,xl⟩:=t.F;have u:=aD (K.X b);obtain⟨y0,y1,y2,y3,y4,y5,y6,y7,y8,y9,yf,yl⟩:=u.F)|(go_at_call 151;refine(VI e2 _).mono ?_;rintro e w2 ⟨rfl,B⟩));go_ret;rw[g.o];exact⟨Z,bT (CH d (xW _) b) B⟩
theorem Vu(i k:u):((k:z)==(i:z)-1)=(k+1==i):=by
 grind
theorem Vv(i k:u):((i:z) != (k:z))=(i != k):=by
 grind
theorem Gl(i k:u):((i:z)==(k:z))=(i==k):=by
 grind
def ad(i k:u)(p:u×Bool)(F:Ex):Ex:=F.pj (oK p.2 (F.rj p.1) i k) p.1
def FA.yR(a:FA){j:ι}(b:1<=j/\j<=9):a.gj j∈[a.g1,a.g2,a.g3,a.g4,a.g5,a.g6,a.g7,a.g8,a.g9]:=by rcases CY b with rfl|rfl|rfl|rfl|rfl|rfl|rfl|rfl|rfl<;>simp[FA.gj]
def Vw(B fb:u)(a:FA)(f:Ex)(i k:u)(e1 e2:Ev)(w:ξ)(hm:Ed w fb a f)(hB:B<=T (A w))(ac:∀g∈[a.g1,a.g2,a.g3,a.g4,a.g5,a.g6,a.g7,a.g8,a.g9],B<=g)(hh:e1.h<YC)(hi:i<1000)(hk:k<1000):
  φ ρ 137 #[.pointer (some ⟨fb,0,N⟩),C O (i:z),D (aK e1),C O (k:z),D (aK e2)] w λe w'=>e=.returned (.tuple #[])/\Ed w' fb a (f.jJ i e1 k e2)/\σ B w w'/\∀g e,WN w g e->WN w' g e:=by
 obtain⟨k0,k1,af,aa⟩:=nZ w (aK e1) (aK e2) 180 180;obtain⟨S,so⟩:∃S:ψ (u×Bool)->ξ->Prop,∀L X,S L X=PS B w X fb a (L.foldr (ad i k) f) (T (A w)) (T (A w)+1) e1 e2:=⟨_,λ_ _=>Z⟩;have c:S [] _:=(so _ _).mpr ⟨hm.X aa,aa.mono hB,k0,k1,λg e he=>he.X aa⟩;have sb:aC (∀{L X Y},S L X->σ (T (A X)) X Y->S L Y):=λ{_ _ _} h G=>by rw[so]at *;exact h.X G hB
 have sn:aC (∀{j L X},1<=j/\j<=9->S L X->S ((j,H)::L) X):=λ{_ _ _} hj h=>by
  rw[so]at *
  rcases CY hj with rfl|rfl|rfl|rfl|rfl|rfl|rfl|rfl|rfl<;>exact h
 have sa:aC (∀{j L X},1<=j/\j<=9->S L X->φ ρ 99 #[.pointer (some ⟨fb,j,N⟩),C O (i:z),C O (k:z)] X λe Y=>e=.returned (.tuple #[])/\S ((j,true)::L) Y):=λ{j L X} hj h=>by
  rw[so]at h;refine(DR fb j _ a.n _ _ _ _ (h.mem.QD hj) (h.mem.fin.rj hj).fits).mono ?_;rintro e Y ⟨rfl,hs,hg⟩;exact⟨Z,(so _ _).mpr (h.AQ hj hB (ac _ (a.yR hj)) i k hs hg)⟩
 have d:aC (∀{L X},S L X->fb<T (A X)/\((∀i,X.cell? ⟨T (A w),i,N⟩=#[xc O e1.kind,C O e1.j,C O e1.block,C O e1.z,C O e1.value,C O e1.q,C O e1.scope,C O e1.u,M e1.step,C .u64 (e1.h:u)][i]?)/\(∀i,X.frozen? ⟨T (A w),i,N⟩=H)/\T (A w)<T (A X))/\(∀i,X.cell? ⟨T (A w)+1,i,N⟩=#[xc O e2.kind,C O e2.j,C O e2.block,C O e2.z,C O e2.value,C O e2.q,C O e2.scope,C O e2.u,M e2.step,C .u64 (e2.h:u)][i]?)/\(∀i,X.frozen? ⟨T (A w)+1,i,N⟩=H)/\T (A w)+1<T (A X)):=λ{_ _} h=>by rw[so]at h;exact⟨dC h.mem.box,h.v1.fs,h.v2.fs⟩
 have fin:aC (∀{F J E V b5 b6 b7 b8 X},S [(9,b8),(8,b7),(7,b6),(6,b5),(3,V),(4,E&&WZ e1&&WZ e2),(2,E),(5,J),(1,F)] X->F=ZJ i e1 k e2->J=isRow i e1 k e2->E=Ai i e1 k e2->V=Ag e1 e2->b5=YF e1.h (k:u)->b6=Aj i e1 k->b7=Ak i e1 k e2->b8=Al i e1 k e2->Ed X fb a (f.jJ i e1 k e2)/\σ B w X/\∀g e,WN w g e->WN X g e):=λ{_ _ _ _ _ _ _ _ _} h _ _ _ _ _ _ _ _=>by
  subst_vars
  rw[so]at h;exact⟨h.mem,h.bel,h.K⟩
 clear so hm aa k0 k1 ac;simp only[aK]at *;go_in;go_upto_region 1 with fail
 generalize(w.alloc (I #[C O e1.kind,C O e1.j,C O e1.block,C O e1.z,C O e1.value,C O e1.q,C O e1.scope,C O e1.u,M e1.step,C .u64 (e1.h:u)] 180)).alloc (I #[C O e2.kind,C O e2.j,C O e2.block,C O e2.z,C O e2.value,C O e2.q,C O e2.scope,C O e2.u,M e2.step,C .u64 (e2.h:u)] 180)=W0 at*;clear af;go_cut[10]from 11 to 15 λs t=>∃b,s=M b/\aC (b=ZJ i e1 k e2)/\S [] t
 case first =>
  obtain⟨l,⟨x,xf,m⟩,y,p,r⟩:=d.o c
  all_goals
   go_wp2_with(first|(go_at_call 161;refine(Pi (i:z) (k:z) e1 e2 _).mono ?_;rintro e v ⟨rfl,G⟩;have c:=sb.o c G;obtain⟨l,⟨x,xf,m⟩,y,p,r⟩:=d.o c));go_meet;exact⟨_,Z,Z,c⟩
 case rest =>
 obtain⟨F,rfl,H1,c⟩:=hcut;go_upto_if 16 with fail
 go_cut[]from 17 to 22 λt=>S [(1,F)] t
 case first =>
  obtain⟨l,⟨x,xf,m⟩,y,p,r⟩:=d.o c;cases F
  all_goals
   go_wp2_with(first|(go_at_call 99;refine(sa (by decide) c).mono ?_;rintro e v ⟨rfl,c⟩;obtain⟨l,⟨x,xf,m⟩,y,p,r⟩:=d.o c));go_meet
   first|exact c|exact sn (by decide) c
 case rest =>
 have c:=hcut;go_upto_region 4 with fail
 go_cut[38]from 23 to 37 λs t=>∃b,s=M b/\aC (b=isRow i e1 k e2)/\S [(1,F)] t
 case first =>
  obtain⟨l,⟨x,xf,m⟩,y,p,r⟩:=d.o c
  cases F<;>cases zb:ZA e1<;>cases zc:ZA e2<;>cases zd:e1.z==e2.z
  all_goals
   go_wp2_with(first|(go_at_call_of 151 (xd #[C O e1.kind,C O e1.j,C O e1.block,C O e1.z,C O e1.value,C O e1.q,C O e1.scope,C O e1.u,M e1.step,C .u64 (e1.h:u)]);refine(VI e1 _).mono ?_;rintro e v ⟨rfl,G⟩;rw[zb];have c:=sb.o c G;obtain⟨l,⟨x,xf,m⟩,y,p,r⟩:=d.o c)|(go_at_call_of 151 (xd #[C O e2.kind,C O e2.j,C O e2.block,C O e2.z,C O e2.value,C O e2.q,C O e2.scope,C O e2.u,M e2.step,C .u64 (e2.h:u)]);refine(VI e2 _).mono ?_;rintro e v ⟨rfl,G⟩;rw[zc];have c:=sb.o c G;obtain⟨l,⟨x,xf,m⟩,y,p,r⟩:=d.o c));go_meet;exact⟨_,Z,by unfold aC isRow;rw[<- H1.o,zb,zc,zd];rfl,c⟩
 case rest =>
 obtain⟨J,rfl,H2,c⟩:=hcut;go_upto_if 38 with fail
 go_cut[]from 39 to 44 λt=>S [(5,J),(1,F)] t
 case first =>
  obtain⟨l,⟨x,xf,m⟩,y,p,r⟩:=d.o c;cases J
  all_goals
   go_wp2_with(first|(go_at_call 99;refine(sa (by decide) c).mono ?_;rintro e v ⟨rfl,c⟩;obtain⟨l,⟨x,xf,m⟩,y,p,r⟩:=d.o c));go_meet
   first|exact c|exact sn (by decide) c
 case rest =>
 have c:=hcut;go_upto_region 6 with fail
 go_cut[52]from 45 to 51 λs t=>∃b,s=M b/\aC (b=Ai i e1 k e2)/\S [(5,J),(1,F)] t
 case first =>
  obtain⟨l,⟨x,xf,m⟩,y,p,r⟩:=d.o c;have zz:=Vv i k
  cases za:i != k<;>cases zb:Q.aJ e1 e2
  all_goals
   rw[za]at zz;go_wp2_with(first|(go_at_call 162;refine(Tq e1 e2 _).mono ?_;rintro e v ⟨rfl,G⟩;rw[zb];have c:=sb.o c G;obtain⟨l,⟨x,xf,m⟩,y,p,r⟩:=d.o c));go_meet;exact⟨_,Z,by unfold aC Ai;rw[za,zb];rfl,c⟩
 case rest =>
 obtain⟨E,rfl,H3,c⟩:=hcut;go_upto_if 52 with fail
 go_cut[]from 53 to 70 λt=>S [(4,E&&WZ e1&&WZ e2),(2,E),(5,J),(1,F)] t
 case first =>
  obtain⟨l,⟨x,xf,m⟩,y,p,r⟩:=d.o c
  cases E<;>cases zf:WZ e1<;>cases zg:WZ e2
  all_goals
   go_wp2_with(first|(go_at_call 99;refine(sa (by decide) c).mono ?_;rintro e v ⟨rfl,c⟩;obtain⟨l,⟨x,xf,m⟩,y,p,r⟩:=d.o c)|(go_at_call_of 105 (xd #[C O e1.kind,C O e1.j,C O e1.block,C O e1.z,C O e1.value,C O e1.q,C O e1.scope,C O e1.u,M e1.step,C .u64 (e1.h:u)]);refine(SF e1 _).mono ?_;rintro e v ⟨rfl,G⟩;rw[zf];have c:=sb.o c G;obtain⟨l,⟨x,xf,m⟩,y,p,r⟩:=d.o c)|(go_at_call_of 105 (xd #[C O e2.kind,C O e2.j,C O e2.block,C O e2.z,C O e2.value,C O e2.q,C O e2.scope,C O e2.u,M e2.step,C .u64 (e2.h:u)]);refine(SF e2 _).mono ?_;rintro e v ⟨rfl,G⟩;rw[zg];have c:=sb.o c G;obtain⟨l,⟨x,xf,m⟩,y,p,r⟩:=d.o c));go_meet;rw[zf,zg];first|exact c|exact sn (j:=4) (by decide) c|exact sn (j:=4) (by decide) (sn (j:=2) (by decide) c)
 case rest =>
 have c:=hcut;go_upto_region 10 with fail
 go_cut[73]from 71 to 72 λs t=>∃b,s=M b/\aC (b=Ag e1 e2)/\S [(4,E&&WZ e1&&WZ e2),(2,E),(5,J),(1,F)] t
 case first =>
  obtain⟨l,⟨x,xf,m⟩,y,p,r⟩:=d.o c
  all_goals
   go_wp2_with(first|(go_at_call 163;refine(Pm e1 e2 _).mono ?_;rintro e v ⟨rfl,G⟩;have c:=sb.o c G;obtain⟨l,⟨x,xf,m⟩,y,p,r⟩:=d.o c));go_meet;exact⟨_,Z,Z,c⟩
 case rest =>
 obtain⟨V,rfl,H4,c⟩:=hcut;go_upto_if 73 with fail
 go_cut[]from 74 to 79 λt=>S [(3,V),(4,E&&WZ e1&&WZ e2),(2,E),(5,J),(1,F)] t
 case first =>
  obtain⟨l,⟨x,xf,m⟩,y,p,r⟩:=d.o c;cases V
  all_goals
   go_wp2_with(first|(go_at_call 99;refine(sa (by decide) c).mono ?_;rintro e v ⟨rfl,c⟩;obtain⟨l,⟨x,xf,m⟩,y,p,r⟩:=d.o c));go_meet
   first|exact c|exact sn (by decide) c
 case rest =>
 have c:=hcut;go_upto_region 12 with fail
 go_cut[83]from 80 to 82 λs t=>∃b,s=M b/\aC (b=YF e1.h (k:u))/\S [(3,V),(4,E&&WZ e1&&WZ e2),(2,E),(5,J),(1,F)] t
 case first =>
  obtain⟨l,⟨x,xf,m⟩,y,p,r⟩:=d.o c
  all_goals
   go_wp2_with(first|(go_at_call 140;refine(Bn e1.h (k:z) _ hh).mono ?_;rintro e v ⟨rfl,ab⟩;have ab:=ab.symm;subst ab));go_meet;exact⟨_,Z,Z,c⟩
 case rest =>
 obtain⟨b5,rfl,H5,c⟩:=hcut;go_upto_if 83 with fail
 go_cut[]from 84 to 89 λt=>S [(6,b5),(3,V),(4,E&&WZ e1&&WZ e2),(2,E),(5,J),(1,F)] t
 case first =>
  obtain⟨l,⟨x,xf,m⟩,y,p,r⟩:=d.o c;cases b5
  all_goals
   go_wp2_with(first|(go_at_call 99;refine(sa (by decide) c).mono ?_;rintro e v ⟨rfl,c⟩;obtain⟨l,⟨x,xf,m⟩,y,p,r⟩:=d.o c));go_meet
   first|exact c|exact sn (by decide) c
 case rest =>
 have c:=hcut;go_upto_region 14 with fail
 go_cut[102]from 90 to 101 λs t=>∃b,s=M b/\aC (b=Aj i e1 k)/\S [(6,b5),(3,V),(4,E&&WZ e1&&WZ e2),(2,E),(5,J),(1,F)] t
 case first =>
  obtain⟨l,⟨x,xf,m⟩,y,p,r⟩:=d.o c;have zz:=Vu i k;generalize ae:e1.step=sp at*
  cases zb:e1.kind==1<;>cases sp<;>cases za:k+1==i
  all_goals
   rw[za]at zz;go_wp2;go_meet;exact⟨_,Z,by unfold aC Aj;rw[ae,za,zb];rfl,c⟩
 case rest =>
 obtain⟨b6,rfl,H6,c⟩:=hcut;go_upto_if 102 with fail
 go_cut[]from 103 to 108 λt=>S [(7,b6),(6,b5),(3,V),(4,E&&WZ e1&&WZ e2),(2,E),(5,J),(1,F)] t
 case first =>
  obtain⟨l,⟨x,xf,m⟩,y,p,r⟩:=d.o c;cases b6
  all_goals
   go_wp2_with(first|(go_at_call 99;refine(sa (by decide) c).mono ?_;rintro e v ⟨rfl,c⟩;obtain⟨l,⟨x,xf,m⟩,y,p,r⟩:=d.o c));go_meet
   first|exact c|exact sn (by decide) c
 case rest =>
 have c:=hcut;go_upto_region 16 with fail
 go_cut[128]from 109 to 127 λs t=>∃b,s=M b/\aC (b=Ak i e1 k e2)/\S [(7,b6),(6,b5),(3,V),(4,E&&WZ e1&&WZ e2),(2,E),(5,J),(1,F)] t
 case first =>
  obtain⟨l,⟨x,xf,m⟩,y,p,r⟩:=d.o c;have zz:=Gl i k
  cases za:i==k<;>cases zb:e1.kind==1&&P.rel e1.q<;>cases F<;>cases zd:e1.kind==2<;>cases ze:e2.kind==1
  all_goals
   rw[za]at zz;go_wp2_with(first|(go_at_call 164;refine(Tr e1 _).mono ?_;rintro e v ⟨rfl,G⟩;rw[zb];have c:=sb.o c G;obtain⟨l,⟨x,xf,m⟩,y,p,r⟩:=d.o c));go_meet;exact⟨_,Z,by unfold aC Ak;rw[za,zb,<- H1.o,zd,ze];rfl,c⟩
 case rest =>
 obtain⟨b7,rfl,H7,c⟩:=hcut;go_upto_if 128 with fail
 go_cut[]from 129 to 134 λt=>S [(8,b7),(7,b6),(6,b5),(3,V),(4,E&&WZ e1&&WZ e2),(2,E),(5,J),(1,F)] t
 case first =>
  obtain⟨l,⟨x,xf,m⟩,y,p,r⟩:=d.o c;cases b7
  all_goals
   go_wp2_with(first|(go_at_call 99;refine(sa (by decide) c).mono ?_;rintro e v ⟨rfl,c⟩;obtain⟨l,⟨x,xf,m⟩,y,p,r⟩:=d.o c));go_meet
   first|exact c|exact sn (by decide) c
 case rest =>
 have c:=hcut;go_upto_region 18 with fail
 go_cut[154]from 135 to 153 λs t=>∃b,s=M b/\aC (b=Al i e1 k e2)/\S [(8,b7),(7,b6),(6,b5),(3,V),(4,E&&WZ e1&&WZ e2),(2,E),(5,J),(1,F)] t
 case first =>
  obtain⟨l,⟨x,xf,m⟩,y,p,r⟩:=d.o c;have zz:=Gl i k
  cases za:i==k<;>cases zb:e1.kind==0&&acq e1.q<;>cases F<;>cases zd:e1.kind==0<;>cases ze:e2.kind==2
  all_goals
   rw[za]at zz;go_wp2_with(first|(go_at_call 165;refine(Ts e1 _).mono ?_;rintro e v ⟨rfl,G⟩;rw[zb];have c:=sb.o c G;obtain⟨l,⟨x,xf,m⟩,y,p,r⟩:=d.o c));go_meet;exact⟨_,Z,by unfold aC Al;rw[za,zb,<- H1.o,zd,ze];rfl,c⟩
 case rest =>
 obtain⟨b8,rfl,H8,c⟩:=hcut;go_upto_if 154 with fail
 obtain⟨l,⟨x,xf,m⟩,y,p,r⟩:=d.o c;cases b8
 all_goals
  go_wp2_with(first|(go_at_call 99;refine(sa (by decide) c).mono ?_;rintro e v ⟨rfl,c⟩;obtain⟨l,⟨x,xf,m⟩,y,p,r⟩:=d.o c));go_end0;refine⟨Z,?_⟩
  first|exact fin c H1 H2 H3 H4 H5 H6 H7 H8.o|exact fin (sn (by decide) c) H1 H2 H3 H4 H5 H6 H7 H8
namespace Q
def yC(b:Bool)(es:ψ Ev):ψ z:=cond b (XD es) (WQ es)
def EZ(b:Bool)(es:ψ Ev)(k:u):z:=if cond b (WZ (ev es k)) ((ev es k).kind==1)then cond b 0 (ev es k).z else -1
theorem Gm(b:Bool)(a:ψ Ev):yC b a=(xF (W a)).map (EZ b a):=by
 apply List.ext_getElem
 ·grind [yC,XD,WQ]
 ·intro i e c;have d:i<W a:=by simpa using c
  cases b<;>simp[yC,XD,WQ,EZ,ev,d]
end Q
theorem Gn(b:Bool)(ev rg:Value)(d:ψ Ev)(w:ξ)(he:YG w ev d)(am:∃a n c,rg=U a n c)(hn:W d<=64):
  φ ρ (cond b 62 68) #[D #[ev,rg]] w λe w'=>MY w w' (yC b d) (XR d (yC b d)) e:=by
 have ax:∀w,(Instr.makeSlice 37 (C O (W d:z)) (C O (W d:z))).run ρ w=.ok (VV (T (A w)) (W d) (W d)) (w.alloc (I (madeCells #[C O 0] (W d)) 3)):=
  λw=>run_make_row' 37 3 (C O 0) 8 underlying37 Tryz.XE Z O O (W d) (by omega) (by omega) w
 obtain⟨ea,ec,rfl,G⟩:=he.form;obtain⟨ra,rn,rc,rfl⟩:=am;obtain⟨k0,k1,an,(t:aC _)⟩:=nZ w #[U ea (W d) ec,U ra rn rc] #[U N 0 0,U N 0 0,U N 0 0,M H] 80 146;have x:=aD he;have ad:aC (yC b d=(xF (W d)).map (EZ b d)):=Gm b d;have m:aC ((yC b d).length=W d):=by grind [Gm]
 clear he;have l:aC (∀k,EZ b d k=if cond b (WZ (Q.ev d k)) ((Q.ev d k).kind==1)then cond b 0 (Q.ev d k).z else -1):=λ_=>Z
 generalize yC b d=R at*;generalize EZ b d=f at*;cases b
 case' true=>have zF:=True.intro
 all_goals
  first|go_enter func62,ntmps62|go_enter func68,ntmps68
  go_upto_region 1 with fail
  generalize hE:(w.alloc (I #[U ea (W d) ec,U ra rn rc] 80)).alloc (I #[U N 0 0,U N 0 0,U N 0 0,M H] 146)=W0 at*;have ae:=cA k0;have l0:T (A w)<T (A W0):=by omega
  have l1:T (A w)+1<T (A W0):=by omega
  have ao:T (A w)+2<=T (A W0):=by omega
  have K1:=aD k1;have ab:aC (WO (W0.alloc (I (madeCells #[C O 0] (W d)) 3)) (T (A W0)) (kI f (W d) 0)):=by
   unfold aC WO;rw[RE,<- DZ];exact heap_alloc_new W0 _
  have Y:aC (σ (T (A W0)) W0 (W0.alloc (I (madeCells #[C O 0] (W d)) 3))):=bB;clear hE k0 k1 an;go_wp2;go_loopw[13] (λj wr=>∃(k:ι),k<=W d/\j=C O k/\aC (WO wr (T (A W0)) (kI f (W d) k))/\aC (σ (T (A W0)) W0 wr)) λj _=>W d-(ω j).toNat
  case atStart=>exact⟨0,xa _,Z,ab,Y⟩
  case round =>
   obtain⟨k,hk,rfl,S,g⟩:=hrel;by_cases hlt:k<W d
   ·have aw:=lI hlt;obtain⟨B,rfl,ag⟩:=G (by omega);have F:B<T (A W0):=by omega
    have ac:aC (wr.rangeAt B (k*10) (aK (Q.ev d k)).toList):=lC (x.cZ Z k (by omega)) ((g.block B F).trans (t.block B ag));have y:=aD (QS f (W d) k hlt);have l:=aD (l.o k);generalize Q.ev d k=e1 at*;have i:=aD (S.X ((xb _ _).alloc (xW _) (I (aK e1) 180)));have v:aC (σ (T (A W0)) W0 (wr.alloc (I (aK e1) 180))):=g.alloc g.size _;have J:k<(kI f (W d) k).length:=by rw[LY];exact hlt
    have s:k<((kI f (W d) k).set k (-1)).length:=by rw[List.length_set];exact J
    have t0:=i.eG k J;have ff:=i.free k;have tl:=i.lt;have JX:=aD (i.set k (-1));have BX:aC (σ (T (A W0)) W0 ((wr.alloc (I (aK e1) 180)).setCell ⟨T (A W0),k,N⟩ (C O (-1)))):=v.setCell (p:=⟨T (A W0),k,N⟩) (xW _) _;have EA:aC (WN ((wr.alloc (I (aK e1) 180)).setCell ⟨T (A W0),k,N⟩ (C O (-1))) (T (A wr)) e1):=by
     have u:=WN.new wr e1;have h2:=S.lt;unfold aC WN at*;rw[Below.heap_setCell _ _ _ _ (by simp;omega)];exact u
    obtain⟨x0,xf,xl⟩:=EA.fs;simp only[aK]at t0 ff tl x0 xf xl;generalize au:(kI f (W d) k).getD k 0=gm at*;have r:=JX;have L:=BX;have t5:=r.eG k s;simp only[aK]at t5
    first|(have _:=zF;cases z1:WZ e1)|cases z1:e1.kind==1
    all_goals
     go_wp2_with(first|(refine jQ (.tmp 16) Z Z B (k*10) e1 Z ac ?_)|(go_at_call 105;refine(SF e1 _).mono ?_;rintro e w5 ⟨rfl,E⟩;rw[z1];have r:=aD (r.X E);have L:=aD (bT L E);have t5:=r.eG k s;have ap:=r.free k;have aA:=r.lt));go_roundw
     ·first
       |exact⟨k+1,by omega,by go_num,by unfold aC;rw[<- y.o,l.o,z1];exact r,L⟩
       |exact⟨k+1,by omega,by go_num,by unfold aC;have h:=r.set k (f k);rw[List.set_set,y.o,l.o,z1]at h;exact h,L.setCell (p:=⟨T (A W0),k,N⟩) (xW _) _⟩
     simp[ω];omega
   ·have ak:k=W d:=by omega
    have HF:aC (WO wr (T (A W0)) R):=by
     have u:=S.o;rw[ak,UT,<- ad.o]at u;exact u
    have aa:aC (YG wr (U ea (W d) ec) d):=x.keep λq hq=>(g.block q (by omega)).trans (t.block q hq)
    have d0:=kG g l0 ae;have az:=xR l0 g.size;clear S G;go_wp2_with(first|(go_at_call 106;refine(Vj _ _ _ d R _ aa ⟨_,_,_,Z⟩ (by have u:=HF.rG (W d) (by rw[m.o];exact xW _);rw[m.o]at u;exact u) (by rw[m.o]) (by rw[m.o];exact hn)).mono ?_;rintro e w2 ⟨gr,gb,gd,rfl,aj,ah,ai,av,aq,ar,al,K,af⟩;have B2:aC (σ (T (A W0)) W0 w2):=bT g af;have K2:=aD ((B2.block _ l1).trans K1);obtain⟨t0,t1,t2,t3,tf,tl⟩:=IE K2;have IB:=aD ah;have ID:=aD ai;have IR:=aD aj));obtain⟨s0,V,s2⟩:=JK (s0:=VV gr (W R) (W R)) (s1:=VV gb (XR d R).length (XR d R).length) (s2:=VV gd (XR d R).length (XR d R).length) (s3:=M H) K2;have ay:=g.size;refine tS (p:=2) (T (A w)+1) _ (by kernel_rfl) underlying146 Z (by kernel_rfl) Z (by exact s0) Z ⟨gr,gb,gd,Z,IR.aG (V _ (by omega)),IB.aG (V _ (by omega)),ID.aG (V _ (by omega)),by omega,by omega,by omega,al,K,s2 _ _ (by omega) (bT t B2)⟩
def Vx(ev f:Value)(b:ψ Ev)(w:ξ)(g:YG w ev b)(d:∃a n c,f=U a n c)(i:W b<=64):
  φ ρ 68 #[D #[ev,f]] w λe j=>MY w j (WQ b) (XR b (WQ b)) e:=Gn H ev f b w g d i
def Vy(ev f:Value)(b:ψ Ev)(w:ξ)(g:YG w ev b)(d:∃a n c,f=U a n c)(i:W b<=64):
  φ ρ 62 #[D #[ev,f]] w λe j=>MY w j (XD b) (XR b (XD b)) e:=Gn true ev f b w g d i
theorem Vz(a:FA)(f:Ex)(y:ι)(bf:ψ ι)(w:ξ)(z:Ee w a f)(hb:Ec w y a.n bf):
  φ ρ 83 #[D (XP a),D #[VV y a.n a.n]] w λe w'=>e=.returned (M (f.bP bf))/\σ (T (A w)) w w':=by
 have K:aC (f.bP bf=(xF a.n).any λi=>(xF a.n).any λk=>f.dD bf i k):=by unfold aC Ex.bP;rw[z.len]
 obtain⟨x,c,Y,hx⟩:=z.form;have aa:=z.n64;have u:=z.len;obtain⟨n,ev,g1,g2,g3,g4,g5,g6,g7,g8,g9⟩:=a;simp only at Y aa u hx;subst Y;simp only[XP];simp only at K hb;have J:=aD z.ev;obtain⟨k0,k1,au,t⟩:=nZ w #[U x n c,VV g1 n n,VV g2 n n,VV g3 n n,VV g4 n n,VV g5 n n,VV g6 n n,VV g7 n n,VV g8 n n,VV g9 n n] #[VV y n n] 85 83;have HF:=aD (z.X t);have RB:=aD (hb.X t);have l:=aD t;go_in;go_upto_region 1 with fail
 generalize hE:(w.alloc (I #[U x n c,VV g1 n n,VV g2 n n,VV g3 n n,VV g4 n n,VV g5 n n,VV g6 n n,VV g7 n n,VV g8 n n,VV g9 n n] 85)).alloc (I #[VV y n n] 83)=W0 at*;have al:=gE k0 0 _ Z;obtain⟨c1,f1,l1⟩:=cU k1;have l0:T (A w)<T (A W0):=by omega
 have K0:=aD k0;go_wp2;go_loopw[12] (λi wr=>∃(k:ι),k<=n/\i=C O k/\aC ((xF k).any (λi=>(xF n).any λk=>f.dD bf i k)=H)/\aC (σ (T (A W0)) W0 wr)) λi _=>n-(ω i).toNat
 case atStart=>exact⟨0,xa _,Z,by simp[aC],xb _ _⟩
 case round =>
  obtain⟨k,hk,rfl,HT,v⟩:=hrel;have ao:=cK v l0 al;have av:=xR l0 v.size;by_cases hlt:k<n
  ·have ap:=lI hlt;obtain⟨g,rfl,V⟩:=hx (by omega);have r:g<T (A W0):=by omega
   have ai:aC (wr.rangeAt g (k*10) (aK (Q.ev f.E k)).toList):=lC (J.cZ u.symm k (by omega)) ((v.block g r).trans (l.block g V));have ak:=aD (PH (λi=>(xF n).any λk=>f.dD bf i k) k);have ae:aC (∀q,f.dD bf k q=(f.cH k (Q.ev f.E k) q (Q.ev f.E q)&&!Q.cD bf k q&&!Q.cD bf q k)):=λq=>Z
   generalize Q.ev f.E k=e1 at*;have ab:aC (WN (wr.alloc (I (aK e1) 180)) (T (A wr)) e1):=WN.new wr e1;have af:aC (σ (T (A W0)) W0 (wr.alloc (I (aK e1) 180))):=v.alloc v.size _;go_wp2_with(first|(refine jQ (.tmp 15) Z Z g (k*10) e1 Z ai ?_));go_loopw[20] (λj wq=>∃(q:ι),q<=n/\j=C O q/\aC ((xF q).any (λj=>f.dD bf k j)=H)/\aC (σ (T (A W0)) W0 wq)/\aC (WN wq (T (A wr)) e1)) λj _=>n-(ω j).toNat
   case atStart=>exact⟨0,xa _,Z,by simp[aC],af,ab⟩
   case round =>
    obtain⟨q,hq,rfl,HU,HJ,HA⟩:=hrel;by_cases hql:q<n
    ·have ar:=lI hql;have aj:aC (wr.rangeAt g (q*10) (aK (Q.ev f.E q)).toList):=lC (J.cZ u.symm q (by omega)) ((HJ.block g r).trans (l.block g V));have m:=aD (PH (λj=>f.dD bf k j) q);have b:=aD (ae.o q);generalize Q.ev f.E q=e2 at*;have d:aC (σ (T (A W0)) W0 (wr.alloc (I (aK e2) 180))):=HJ.alloc HJ.size _;have B:=aD (HA.alloc (I (aK e2) 180));have ac:=aD (WN.new wr e2);have L:=aD (RB.X d);have ag:=aD (HF.X d);have d0:=cA ((d.block _ l0).trans K0);have am:=xR l0 d.size;have an:=xR l1 d.size;have d1:=cK d l1 c1;obtain⟨x0,xf,xl⟩:=B.fs;obtain⟨y0,yf,yl⟩:=ac.fs;simp only[aK]at x0 xf xl y0 yf yl d0 d1 am an
     cases z1:f.cH k e1 q e2
     case' true =>
      cases z2:cD bf (k:ν) (q:ν)
      case' false=>cases z3:cD bf (q:ν) (k:ν)
     all_goals
      first|rw[z1,z2,z3]at b|rw[z1,z2]at b|rw[z1]at b
      go_wp2_with(first|(refine jQ (.tmp 23) Z Z g (q*10) e2 Z aj ?_)|(go_at_call 125;refine(Vt (FA.mk n (VV g n c) g1 g2 g3 g4 g5 g6 g7 g8 g9) f k q e1 e2 _ ag).mono ?_;rintro e v1 ⟨rfl,p⟩;rw[z1];have B1:aC (σ (T (A W0)) W0 v1):=bT d p;have F:=aD (B.X p);have p1:=cK B1 l1 c1)|(go_at_call 103;refine(zM y n bf (q:ν) (k:ν) _ ((L.X p).X s)).mono ?_;rintro e v3 ⟨rfl,S⟩;rw[z3];have B3:aC (σ (T (A W0)) W0 v3):=bT B2 S;have ad:=aD (G.X S))|(go_at_call_of 103 (xc IntKind.i64 (k:ν));refine(zM y n bf (k:ν) (q:ν) _ (L.X p)).mono ?_;rintro e v2 ⟨rfl,s⟩;rw[z2];have B2:aC (σ (T (A W0)) W0 v2):=bT B1 s;have G:=aD (F.X s);have p2:=cK B2 l1 c1))
      first
       |(go_roundw
         case rel=>first|exact⟨q+1,by omega,by go_num,m.trans (by rw[HU.o,b.o];rfl),B3,ad⟩|exact⟨q+1,by omega,by go_num,m.trans (by rw[HU.o,b.o];rfl),B2,G⟩|exact⟨q+1,by omega,by go_num,m.trans (by rw[HU.o,b.o];rfl),B1,F⟩
         case measure=>simp[ω];omega)
       |(go_ret
         have HV:f.bP bf=true:=by
          rw[K.o];refine UP _ (k+1) n hlt ?_;rw[ak.o,UP (λj=>f.dD bf k j) (q+1) n hql (by rw[m.o,b.o];simp)];simp
         rw[HV];exact⟨Z,bT l B3⟩)
    ·have ah:aC ((xF (k+1)).any (λi=>(xF n).any λk=>f.dD bf i k)=H):=by
      have h1:=HU.o;rw[show q=n by omega]at h1
      simp_all [aC]
     go_wp2;go_roundw;exact⟨k+1,by omega,by go_num,ah,HJ⟩;simp[ω];omega
  ·have aq:k=n:=by omega
   have HV:aC (f.bP bf=H):=by grind [aC]
   go_wp2;go_ret;rw[HV.o];exact⟨Z,bT l v⟩
theorem V0(a:FA)(f:Ex)(gs:ι)(aL:ψ ι)(w:ξ)(Y:Ee w a f)(hs:Ec w gs a.n aL):
  φ ρ 60 #[D (XP a),D #[VV gs a.n a.n]] w λe w'=>oB w w' a.n (f.bZ aL) e:=by
 have ax:aC (Q.eS f.E aL=(xF a.n).foldl (xD f.E aL) (WY a.n)):=by unfold aC Q.eS;rw[Y.len]
 obtain⟨x,c,ae,hx⟩:=Y.form;have F:=Y.n64;have V:=Y.len;obtain⟨n,ev,g1,g2,g3,g4,g5,g6,g7,g8,g9⟩:=a;simp only at ae F V hx;subst ae;simp only[XP];simp only at ax hs;have aa:=aD Y.ev;obtain⟨k0,k2,k1,bm,S⟩:=wT w #[U x n c,VV g1 n n,VV g2 n n,VV g3 n n,VV g4 n n,VV g5 n n,VV g6 n n,VV g7 n n,VV g8 n n,VV g9 n n] #[VV gs n n] #[U N 0 0] 85 83 83;have HF:=aD (Y.X S);have RS:=aD (hs.X S);have G:=aD S;go_in;go_upto_region 1 with fail
 generalize hE:((w.alloc (I #[U x n c,VV g1 n n,VV g2 n n,VV g3 n n,VV g4 n n,VV g5 n n,VV g6 n n,VV g7 n n,VV g8 n n,VV g9 n n] 85)).alloc (I #[VV gs n n] 83)).alloc (I #[U N 0 0] 83)=W0 at*;have ac:=gE k0 0 _ Z;have aI:=gE k0 2 _ Z;have aJ:=gE k0 8 _ Z;have aM:=gE k0 9 _ Z;obtain⟨c1,f1,l1⟩:=cU k1;obtain⟨c2,f2,l2⟩:=cU k2;have l0:T (A w)<T (A W0):=by omega
 have K1:=aD k1;go_wp2_with(first|(go_at_call 98;refine(yA n _ F).mono ?_;rintro e w1 ⟨gn,rfl,aW,aQ,aU,aP,y⟩;have HS:=aD (Fill.start ⟨aW,aU,aP⟩ aQ y);have bn:=y.size;have bg:=HS.cell (p:=⟨T (A w),0,N⟩) l0 ac));have aq:=aD aI;have ar:=aD aJ;have au:=aD aM;have ap:=aD c1;have ay:=aD f1;go_loopw[17] (λi wr=>∃(k:ι) (t:ψ ι),k<=n/\i=C O k/\aC (t=(xF k).foldl (xD f.E aL) (WY n))/\aC (Fill W0 wr (T (A w1)) gn n t)) λi _=>n-(ω i).toNat
 case atStart=>exact⟨0,_,xa _,Z,Z,HS⟩
 case round =>
  obtain⟨k,t,hk,rfl,HT,g⟩:=hrel;obtain⟨b0,b1,b2⟩:=cU g.box;have bi:=g.cell (p:=⟨T (A w),0,N⟩) l0 ac;have b:=xR l0 g.bel.size;by_cases hlt:k<n
  ·have bj:=lI hlt;obtain⟨v,rfl,ad⟩:=hx (by omega);have B:v<T (A W0):=by omega
   have aB:aC (wr.rangeAt v (k*10) (aK (Q.ev f.E k)).toList):=lC (aa.cZ V.symm k (by omega)) ((g.bel.block v B).trans (G.block v ad));have aH:aC ((xF (k+1)).foldl (xD f.E aL) (WY n)=(xF n).foldl (FE f.E aL k) t):=by grind [aC,jT,xD]
   have bh:aC (∀q u,FE f.E aL k u q=if cD aL k q&&(Q.ev f.E k).q != 0&&(Q.ev f.E q).q != 0 then dW u q k else u):=λq u=>Z
   generalize Q.ev f.E k=e1 at*;have ak:aC (WN (wr.alloc (I (aK e1) 180)) (T (A wr)) e1):=WN.new wr e1;have aw:=aD (g.alloc (I (aK e1) 180));go_wp2_with(first|(refine jQ (.tmp 20) Z Z v (k*10) e1 Z aB ?_));go_loopw[25] (λj wq=>∃(q:ι) (u:ψ ι),q<=n/\j=C O q/\aC (u=(xF q).foldl (FE f.E aL k) t)/\aC (Fill W0 wq (T (A w1)) gn n u)/\aC (WN wq (T (A wr)) e1)) λj _=>n-(ω j).toNat
   case atStart=>exact⟨0,t,xa _,Z,Z,aw,ak⟩
   case round =>
    obtain⟨q,u,hq,rfl,HU,HJ,HA⟩:=hrel;by_cases hql:q<n
    ·have bl:=lI hql;have aE:aC (wr.rangeAt v (q*10) (aK (Q.ev f.E q)).toList):=lC (aa.cZ V.symm q (by omega)) ((HJ.bel.block v B).trans (G.block v ad));have s:aC ((xF (q+1)).foldl (FE f.E aL k) t=if cD aL k q&&e1.q != 0&&(Q.ev f.E q).q != 0 then dW u q k else u):=by simp_all [aC,jT]
     generalize Q.ev f.E q=e2 at*;have ab:=aD (HJ.alloc (I (aK e2) 180));have al:=aD (HA.alloc (I (aK e2) 180));have am:=aD (WN.new wr e2);have aG:=aD (RS.X ab.bel);have z:=xR l2 HJ.bel.size;have d2:=HJ.cell (p:=⟨T (A w)+1,0,N⟩) l2 c2
     cases z1:cD aL (k:ν) (q:ν)
     case' true =>
      cases z2:e1.q != 0
      case' true=>cases z3:e2.q != 0
     all_goals
      first|rw[z1,z2,z3]at s|rw[z1,z2]at s|rw[z1]at s
      go_wp2_with(first|(refine jQ (.tmp 28) Z Z v (q*10) e2 Z aE ?_)|(go_at_call 103;refine(zM gs n aL (k:ν) (q:ν) _ aG).mono ?_;rintro e wb ⟨rfl,L⟩;rw[z1];have r:=aD (ab.keep L);have J:=aD (al.X L);obtain⟨x5,xf,xl⟩:=J.fs;have an:=aD (am.X L);obtain⟨y5,yf,yl⟩:=an.fs)|(go_at_call 99;refine(DR (T (A w1)) 0 gn n u (q:ν) (k:ν) _ r.pN r.rel.fits).mono ?_;rintro e wc ⟨rfl,aV,af⟩;have az:=aD (r.grown af aV);have ao:=aD (WN.grown J r.rel.at_ af)));go_roundw
      first|exact⟨q+1,dW u q k,by omega,by go_num,s.symm,az,ao⟩|exact⟨q+1,u,by omega,by go_num,s.symm,r,J⟩
      simp[ω];omega
    ·have aA:aC (u=(xF (k+1)).foldl (xD f.E aL) (WY n)):=by unfold aC;rw[aH.o,HU.o,show q=n by omega]
     go_wp2;go_roundw;exact⟨k+1,u,by omega,by go_num,aA,HJ⟩;simp[ω];omega
  ·have bk:k=n:=by omega
   have av:aC (t=Q.eS f.E aL):=by grind [aC]
   rw[av.o]at g;go_upto_region 12 with fail
   have m2:=g.cell (p:=⟨T (A w),2,N⟩) l0 aq;have m8:=g.cell (p:=⟨T (A w),8,N⟩) l0 ar;have m9:=g.cell (p:=⟨T (A w),9,N⟩) l0 au;have z:=xR l1 g.bel.size;have K:=aD (HF.X g.bel);have HB:=aD g.bel;have aF:=aD g.rel;go_region_held3 (λw'=>w'.cell? ⟨T (A w),2,N⟩=some (VV g2 n n)/\w'.cell? ⟨T (A w),8,N⟩=some (VV g8 n n)/\w'.cell? ⟨T (A w),9,N⟩=some (VV g9 n n)/\w'.cell? ⟨T (A w1),0,N⟩=some (VV gn n n)) (first|exact⟨m2,m8,m9,b0⟩|exact⟨aX,aZ,bb,bd⟩|exact⟨aY,ba,bc,bf⟩|exact⟨ag,ah,ai,aj⟩|exact⟨(fC (by omega)).trans ag,(fC (by omega)).trans ah,(fC (by omega)).trans ai,(fC (by omega)).trans aj⟩) (first
    |(go_at_call 101;refine(DJ j1 g2 n _ _ _ J1 (K.r2.X m)).mono ?_;rintro e v2 ⟨j2,rfl,aT,aO⟩;have d:aC (σ (T (A wr)) wr v2):=bT m aO;have ag:=cK d b m2;have ah:=cK d b m8;have ai:=cK d b m9;have aj:=cK d b2 b0;have bo:=cK d z (g.cell (p:=⟨T (A w)+2,0,N⟩) l1 ap);have bp:=fK d z (fK g.bel l1 ay);have J2:=aD aT)
    |(go_at_call_of 102 (VV j0 n n);refine(pO j0 g9 n _ _ _ J0 (K.r9.X l)).mono ?_;rintro e v1 ⟨j1,rfl,aS,y⟩;have m:aC (σ (T (A wr)) wr v1):=bT l y;have aY:=cK m b m2;have ba:=cK m b m8;have bc:=cK m b m9;have bf:=cK m b2 b0;have J1:=aD aS)
    |(go_at_call_of 102 (VV g8 n n);refine(pO g8 gn n _ _ _ (K.r8.X (xb _ _).drew) (aF.X (xb _ _).drew)).mono ?_;rintro e v0 ⟨j0,rfl,aR,aN⟩;have l:aC (σ (T (A wr)) wr v0):=((xb (T (A wr)) wr).drew).trans (aN.mono (by simp));have aX:=cK l b m2;have aZ:=cK l b m8;have bb:=cK l b m9;have bd:=cK l b2 b0;have J0:=aD aR))
   all_goals
    (try go_wp2)
    have kc:=(d.block _ z).trans ((HB.block _ l1).trans K1);exact pR (p:=4) (T (A w)+2) _ (by kernel_rfl) Z (by exact cI kc 0 _) Z ⟨j2,Z,GY kc J2 (bT G (bT HB d)) (by omega)⟩
