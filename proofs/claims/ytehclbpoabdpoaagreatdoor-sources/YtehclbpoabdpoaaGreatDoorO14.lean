import Derived.Test.YtehclbpoabdpoaaGreatDoorO13
set_option linter.all false
set_option maxHeartbeats 0
namespace Go.Proofs.YtehclbpoabdpoaaGreatDoor
open Go Go.RowKit Go.Proofs.Tryz P Q
open scoped Classical
set_option maxRecDepth 1000000
variable {n:Nat}{f:Nat->Bool}
open List renaming length->U
open Bool renaming false->Y,true->C
open Go.Value renaming bool->O,int->I
open Go.IntKind renaming i64->G
open Nat renaming le_refl->xF
open Bool renaming and_false->xR,and_true->xW,true_and->x1,false_and->x2,or_true->x4,true_or->x5,or_false->x6,false_or->x7
open List renaming range->x3
def WV(p q r s:Bool):p=Y\/p=C/\q=Y\/p=C/\q=C/\r=Y\/p=C/\q=C/\r=C/\s=Y\/p=C/\q=C/\r=C/\s=C:=by
 cases p<;>cases q<;>cases r<;>cases s<;>simp
def Md(g v r z s u q:Nat)(c:List J.E)(t j:List Int)(w:World)(h:QG w g v r z s u q c t j)(a b:Nat)(A:a<U c)(F:b<U c):
  Calls prog 209 #[.pointer (some ⟨g,0,none⟩),I G (a:Int),I G (b:Int)] w fun e N=>e=.returned (O (J.dY (J.ev c a) (J.ev c b)))/\Below w.heap.size w N:=by
 have he:=h.e;obtain⟨_,S,T,_,_,_,_,_,V⟩:=h.ev a A;obtain⟨_,W,X,_,_,_,_,_,bn⟩:=h.ev b F;have hn:=h.n;have L:=h.lg;have K:=h.le;have D:(a:Int)<(U c:Int):=by omega
 have H:(b:Int)<(U c:Int):=by omega
 clear h;generalize J.ev c a=x at*;generalize J.ev c b=y at*;have l:MT (J.dY x y=(x.B.toList==J.kA&&(y.B.toList==J.kL&&(x.b==y.b&&x.round==y.round)))):=Z
 rcases WV (x.B.toList==J.kA) (y.B.toList==J.kL) (x.b==y.b) (x.round==y.round)with d|⟨d,k⟩|⟨d,k,m⟩|⟨d,k,m,M⟩|⟨d,k,m,M⟩
 all_goals
  have i:=l.o;simp only[*,xW,x1,xR,x2]at i;have p:=MS i;clear i l;simp only[J.kA,J.kL]at *;go_enter func209,ntmps209;go_wp2;go_quiet (fail);go_wp2;go_ret;exact⟨by rw[p.o];first|rfl|simp,PZ _ _ _⟩
def WX(g i y F z D x:Nat)(c:List J.E)(A l:List Int)(w:World)(h:QG w g i y F z D x c A l)(a b:Nat)(q:a<U c)(s:b<U c):
  Calls prog 210 #[.pointer (some ⟨g,0,none⟩),I G (a:Int),I G (b:Int)] w fun e d=>e=.returned (O (J.sc c a b))/\Below w.heap.size w d:=by
 have H:=MS h;have v:MT (J.sc c a b=((a:Int) != (b:Int)&&(J.aD c a b&&((J.ev c a).B.toList==J.kF&&((J.ev c b).B.toList==J.kF&&((J.ev c a).ord.toList==J.sI&&(J.ev c b).ord.toList==J.sI)))))):=Z;have he:=h.e;have hn:=h.n;have W:=h.lg;have K:=h.le;have S:(a:Int)<(U c:Int):=by omega
 have T:(b:Int)<(U c:Int):=by omega
 have N:MT (∀d,Below w.heap.size w d->d.cell? ⟨i,a*10+2,none⟩=some (.string (J.ev c a).B)/\d.cell? ⟨i,a*10+5,none⟩=some (.string (J.ev c a).ord)/\d.cell? ⟨i,b*10+2,none⟩=some (.string (J.ev c b).B)/\d.cell? ⟨i,b*10+5,none⟩=some (.string (J.ev c b).ord)/\i<d.heap.size):=fun d V=>by
  have k:=h.X V;exact⟨(k.ev a q).k,(k.ev a q).r,(k.ev b s).k,(k.ev b s).r,k.le⟩
 clear h
 cases z1:(a:Int) != (b:Int)<;>cases z2:J.aD c a b <;>
  rcases WV ((J.ev c a).B.toList==J.kF) ((J.ev c b).B.toList==J.kF) ((J.ev c a).ord.toList==J.sI) ((J.ev c b).ord.toList==J.sI)with m|⟨m,t⟩|⟨m,t,L⟩|⟨m,t,L,p4⟩|⟨m,t,L,p4⟩
 all_goals
  have p:=v.o;simp only[*,xW,x1,xR,x2]at p;have M:=MS p;clear p v;simp only[J.kF,J.sI]at *;go_enter func210,ntmps210;go_wp2_with(first|(go_at_call 217;refine(sB g i y F z D x c A l _ H.o a b q s).mono ?_;rintro e w1 ⟨rfl,j⟩;rw[z2];have u:=MS j;obtain⟨c1,c2,c3,c4,c5⟩:=N.o _ j;clear j))
  first|(go_quiet (fail);go_wp2)|skip
  go_ret;exact⟨by rw[M.o];first|rfl|simp,by first|exact u.o|exact dA u.o (xF _) (PZ _ _ _)⟩
def WY(g N F S L M D:Nat)(d:List J.E)(j t:List Int)(w:World)(h:QG w g N F S L M D d j t)(a b:Nat)(ha:a<U d)(hb:b<U d)(hF:∀i,i<U d->j.getD i 0<(U d:Int)):
  Calls prog 212 #[.pointer (some ⟨g,0,none⟩),I G (a:Int),I G (b:Int)] w fun e w'=>e=.returned (O (J.aP d j a b))/\Below w.heap.size w w':=by
 have H:=MS h;have hn:=h.n;clear h;go_enter func212,ntmps212;go_wp2;go_loopw[2,7] (fun x i wr=>∃k q:Nat,k<=U d+1/\q<U d/\i=I G k/\x=I G q/\MT (J.aP d j a b=J.bI d j a (U d+1-k) q)/\MT (Below w.heap.size w wr)) fun _ i _=>U d+1-(intOf i).toNat
 case atStart=>exact⟨0,b,Nat.zero_le _,hb,Z,Z,Z,Below.refl _ _⟩
 case round =>
  obtain⟨k,q,hk,B,rfl,rfl,z,HB⟩:=hrel;have K:=H.X HB.o;have he:=K.e;have hf:=K.f;have ae:=K.fr q B;have lg:=K.lg;have le:=K.le;have lf:=K.lf;have ag:(q:Int)<(U d:Int):=by omega
  by_cases hlt:k<=U d
  ·have aa:(k:Int)<=(U d:Int):=by omega
   obtain⟨m,hm⟩:∃m,U d+1-k=m+1:=⟨U d-k,by omega⟩;have V:MT (J.bI d j a (U d+1-k) q=if decide (0<=j.getD q 0)&&J.aD d (j.getD q 0).toNat q then(if j.getD q 0==(a:Int)then C else if(J.ev d (j.getD q 0).toNat).half then J.bI d j a m ((j.getD q 0).toNat-1)else Y)else Y):=by unfold MT;rw[hm];rfl
   have ad:=hF q B;generalize j.getD q 0=f at*;by_cases h0:0<=f
   ·obtain⟨p,rfl⟩:∃p:Nat,f=(p:Int):=⟨f.toNat,by omega⟩;have A:p<U d:=by omega
    have af:(p:Int)<(U d:Int):=by omega
    have u:MT (J.bI d j a (U d+1-k) q=if J.aD d p q then(if(p:Int)==(a:Int)then C else if(J.ev d p).half then J.bI d j a m (p-1)else Y)else Y):=by unfold MT;rw[V.o];simp
    clear V
    cases z1:J.aD d p q
    ·have r:MT (J.aP d j a b=Y):=by unfold MT;rw[z.o,u.o,z1];rfl
     go_wp2_with(first|(go_at_call 217;refine(sB g N F S L M D d j t _ K p q A B).mono ?_;rintro e w1 ⟨rfl,l⟩;rw[z1];have v:=MS (dA HB.o (xF _) l);clear l));go_ret;exact⟨by rw[r.o];first|rfl|simp,v.o⟩
    ·have h3:3<=p:=by
      unfold J.aD at z1;by_cases c:p<3
      ·rw[if_pos (Or.inl c)]at z1;cases z1
      ·omega
     cases z2:(p:Int)==(a:Int)
     ·cases z3:(J.ev d p).half
      ·have r:MT (J.aP d j a b=Y):=by unfold MT;rw[z.o,u.o,z1,z2,z3];rfl
       go_wp2_with(first|(go_at_call 217;refine(sB g N F S L M D d j t _ K p q A B).mono ?_;rintro e w1 ⟨rfl,l⟩;rw[z1];have v:=MS (dA HB.o (xF _) l);have s:=K.X l;have W:=s.e;have y:=(s.ev p A).h;rw[z3]at y;have ac:=s.lg;have ab:=s.le;clear l s));go_ret;exact⟨by rw[r.o];first|rfl|simp,v.o⟩
      ·have r:MT (J.aP d j a b=J.bI d j a (U d+1-(k+1)) (p-1)):=by unfold MT;rw[z.o,u.o,z1,z2,z3,show U d+1-(k+1)=m by omega];rfl
       have T:(p:Int)-1=((p-1:Nat):Int):=by omega
       go_wp2_with(first|(go_at_call 217;refine(sB g N F S L M D d j t _ K p q A B).mono ?_;rintro e w1 ⟨rfl,l⟩;rw[z1];have v:=MS (dA HB.o (xF _) l);have s:=K.X l;have W:=s.e;have y:=(s.ev p A).h;rw[z3]at y;have ac:=s.lg;have ab:=s.le;clear l s));go_roundw
       case rel=>exact⟨k+1,p-1,by omega,by omega,by go_num,by first|rfl|(rw[T])|simp[T],r,v⟩
       case measure=>simp[intOf];omega
     ·have r:MT (J.aP d j a b=C):=by unfold MT;rw[z.o,u.o,z1,z2];rfl
      go_wp2_with(first|(go_at_call 217;refine(sB g N F S L M D d j t _ K p q A B).mono ?_;rintro e w1 ⟨rfl,l⟩;rw[z1];have v:=MS (dA HB.o (xF _) l);clear l));go_ret;exact⟨by rw[r.o];first|rfl|simp,v.o⟩
   ·have r:MT (J.aP d j a b=Y):=by unfold MT;rw[z.o,V.o,decide_eq_false h0];rfl
    go_wp2;go_ret;exact⟨by rw[r.o];first|rfl|simp,HB.o⟩
  ·have aa:¬(k:Int)<=(U d:Int):=by omega
   have r:MT (J.aP d j a b=Y):=by unfold MT;rw[z.o,show U d+1-k=0 by omega];rfl
   go_wp2;go_ret;exact⟨by rw[r.o];first|rfl|simp,HB.o⟩
namespace J
def lA:List UInt8:=[114,101,108,101,97,115,101]
def qN:List UInt8:=[97,99,113,114,101,108]
def lJ:List UInt8:=[97,99,113,117,105,114,101]
def jO(es:List E)(a i:Nat)(o:List UInt8):Bool:=(i:Int)==(a:Int)&&((ev es i).ord.toList==o||(ev es i).ord.toList==qN)
def iT(es:List E)(a i:Nat):Bool:=jO es a i lA||(ev es a).B.toList==kF&&cD es a i
def iK(es:List E)(k b:Nat):Bool:=jO es b k lJ||(ev es b).B.toList==kF&&cD es k b
def lB(e:E)(q:List UInt8)(h:Bool):Bool:=!(e.B.toList==q)||(e.ord.toList==bT||!h)
def tk(es:List E)(fr:List Int)(b i k:Nat):Bool:=!lB (ev es k) kR (iK es k b)&&aP es fr i k
def ti(es:List E)(fr:List Int)(a b i:Nat):Bool:=!lB (ev es i) kW (iT es a i)&&(x3 (U es)).any fun k=>decide (3<=k)&&tk es fr b i k
def bS(es:List E)(fr:List Int)(a b:Nat):Bool:=aD es a b&&(x3 (U es)).any fun i=>decide (3<=i)&&ti es fr a b i
def pJ(h:∀i,3<=i->i<n->f i=Y):((x3 n).any fun i=>decide (3<=i)&&f i)=Y:=by
 rw[List.any_eq_false];intro i a;by_cases c:3<=i
 ·rw[h i c (List.mem_range.1 a)];simp
 ·simp[c]
def mY{i:Nat}(a:3<=i)(b:i<n)(h:f i=C):((x3 n).any fun i=>decide (3<=i)&&f i)=C :=
 List.any_eq_true.2 ⟨i,List.mem_range.2 b,by simp[a,h]⟩
end J
def WZ(p q r:Bool):p=Y\/p=C/\q=C\/p=C/\q=Y/\r=C\/p=C/\q=Y/\r=Y:=by
 cases p<;>cases q<;>cases r<;>simp
def XA(p q:Bool):p=Y\/p=C/\q=C\/p=C/\q=Y:=by
 cases p<;>cases q<;>simp
def BJ{x y:List UInt8}{b:Bool}(h:(x==y)=b):(x != y)=!b:=by unfold bne;rw[h]
def KQ(p q r:Bool):p=C\/p=Y/\q=Y\/p=Y/\q=C/\r=C\/p=Y/\q=C/\r=Y:=by
 cases p<;>cases q<;>cases r<;>simp
def Me(g ge ce gf cf ga ca:Nat)(d:List J.E)(l y:List Int)(w:World)(h:QG w g ge ce gf cf ga ca d l y)(a b:Nat)(ha:a<U d)(hb:b<U d)(hF:∀i,i<U d->l.getD i 0<(U d:Int))(h3:3<=U d):
  Calls prog 208 #[.pointer (some ⟨g,0,none⟩),I G (a:Int),I G (b:Int)] w fun e w'=>e=.returned (O (J.bS d l a b))/\Below w.heap.size w w':=by
 have H:=MS h;have hn:=h.n;have HX:MT (J.bS d l a b=(J.aD d a b&&(x3 (U d)).any fun i=>decide (3<=i)&&J.ti d l a b i)):=Z;clear h;have ak:(a:Int)<(U d:Int):=by omega
 have al:(b:Int)<(U d:Int):=by omega
 cases z0:J.aD d a b
 ·go_enter func208,ntmps208;go_wp2_with(first|(go_at_call 217;refine(sB g ge ce gf cf ga ca d l y _ H.o a b ha hb).mono ?_;rintro e w1 ⟨rfl,M⟩;rw[z0];have B1:=MS M;clear M));go_ret;exact⟨by rw[HX.o,z0];first|rfl|simp,B1.o⟩
 go_enter func208,ntmps208;go_wp2_with(first|(go_at_call 217;refine(sB g ge ce gf cf ga ca d l y _ H.o a b ha hb).mono ?_;rintro e w1 ⟨rfl,M⟩;rw[z0];have B1:=MS M;clear M));go_loopw[8] (fun i wr=>∃k:Nat,3<=k/\k<=U d/\i=I G k/\MT (∀j,3<=j->j<k->J.ti d l a b j=Y)/\MT (Below w.heap.size w wr)) fun i _=>U d-(intOf i).toNat
 case atStart=>exact⟨3,xF _,h3,Z,fun j D T=>absurd T (by omega),B1⟩
 case round =>
  obtain⟨i,ae,hi,rfl,HI,HB⟩:=hrel;have K:=H.X HB.o;have he:=K.e;have lg:=K.lg;have le:=K.le;by_cases hlt:i<U d
  ·have af:(i:Int)<(U d:Int):=by omega
   have W:=(K.ev i hlt).r;clear K;go_upto_region 8 with fail
   go_cut[10]from 23 to 161 fun c F=>∃bq,c=O bq/\MT (bq=J.jO d a i J.lA)/\MT (Below w.heap.size w F)
   case first =>
    have A:MT (J.jO d a i J.lA=((i:Int)==(a:Int)&&((J.ev d i).ord.toList==J.lA||(J.ev d i).ord.toList==J.qN))):=Z
    rcases WZ ((i:Int)==(a:Int)) ((J.ev d i).ord.toList==J.lA) ((J.ev d i).ord.toList==J.qN)with m|⟨m,z⟩|⟨m,z,p3⟩|⟨m,z,p3⟩
    all_goals
     have p:=A.o;simp only[*,xW,x1,xR,x2,x4,x5,x6,x7]at p;have s:=MS p;clear p A
     try simp only[J.lA,J.qN]at *
     go_wp2;go_meet
     case rel=>exact⟨_,Z,s.symm,HB.o⟩
   case rest =>
    obtain⟨h0,rfl,t,HB⟩:=hcut;have K:=MS (H.X HB.o);go_upto_region 10 with(first|(go_at_call 211;refine(EY g ge ce gf cf ga ca d l y _ K.o a i ha hlt).mono ?_;rintro e w2 ⟨rfl,N⟩;have B2:=MS (dA HB.o (xF _) N);clear N))
    have x:=H.X B2.o;have ad:=x.e;have aj:=x.lg;have ai:=x.le;have ab:=(x.ev a ha).k;have ac:=(x.ev i hlt).k;have W:=(x.ev i hlt).r;clear x K;have u:MT (J.iT d a i=(h0||(J.ev d a).B.toList==J.kF&&J.cD d a i)):=by unfold MT;rw[t.o];rfl
    generalize J.cD d a i=bA at*;go_cut[10]from 23 to 161 fun c F=>∃bq,c=O bq/\MT (bq=J.iT d a i)/\MT (Below w.heap.size w F)/\F=w2
    case first =>
     rcases KQ h0 ((J.ev d a).B.toList==J.kF) bA with m|⟨m,z⟩|⟨m,z,p3⟩|⟨m,z,p3⟩
     all_goals
      have p:=u.o;simp only[*,xW,x1,xR,x2,x4,x5,x6,x7]at p;have s:=MS p;clear p u t;subst m
      try simp only[J.kF]at *
      go_wp2;go_meet
      case rel=>exact⟨_,Z,s.symm,B2.o,Z⟩
    obtain⟨V,rfl,v,HB,rfl⟩:=hcut;clear u t;go_upto_region 11 with fail
    go_cut[89]from 23 to 161 fun c F=>∃bq,c=O bq/\MT (bq=J.lB (J.ev d i) J.kW V)/\F=wc
    case first =>
     have A:MT (J.lB (J.ev d i) J.kW V=(!((J.ev d i).B.toList==J.kW)||((J.ev d i).ord.toList==J.bT||!V))):=Z;clear v
     cases V<;>rcases XA ((J.ev d i).B.toList==J.kW) ((J.ev d i).ord.toList==J.bT)with m|⟨m,z⟩|⟨m,z⟩
     all_goals
      have p:=A.o;simp only[*,x4,x5,x6,x7,Bool.not_true,Bool.not_false]at p;have s:=MS p;clear p A;have q1:=BJ m
      try simp only[J.kW,J.bT]at *
      go_wp2;go_meet
      case rel=>exact⟨_,Z,s.symm,Z⟩
    obtain⟨ps,rfl,L,rfl⟩:=hcut;have HT:MT (J.ti d l a b i=(!ps&&(x3 (U d)).any fun k=>decide (3<=k)&&J.tk d l b i k)):=by unfold MT;rw[L.o,v.o];rfl
    clear L v ab ac W;cases ps
    ·go_wp2;go_loopw[12] (fun q wr=>∃k:Nat,3<=k/\k<=U d/\q=I G k/\MT (∀j,3<=j->j<k->J.tk d l b i j=Y)/\MT (Below w.heap.size w wr)) fun q _=>U d-(intOf q).toNat
     case atStart=>exact⟨3,xF _,h3,Z,fun j D T=>absurd T (by omega),HB⟩
     case round =>
      obtain⟨k,ag,hk,rfl,HJ,HB⟩:=hrel;have K:=H.X HB.o;have he:=K.e;have lg:=K.lg;have le:=K.le;by_cases hkt:k<U d
      ·have ah:(k:Int)<(U d:Int):=by omega
       have am:=(K.ev k hkt).r;clear K;go_upto_region 16 with fail
       go_cut[14]from 90 to 161 fun c F=>∃bq,c=O bq/\MT (bq=J.jO d b k J.lJ)/\F=wr
       case first =>
        have A:MT (J.jO d b k J.lJ=((k:Int)==(b:Int)&&((J.ev d k).ord.toList==J.lJ||(J.ev d k).ord.toList==J.qN))):=Z
        rcases WZ ((k:Int)==(b:Int)) ((J.ev d k).ord.toList==J.lJ) ((J.ev d k).ord.toList==J.qN)with m|⟨m,z⟩|⟨m,z,p3⟩|⟨m,z,p3⟩
        all_goals
         have p:=A.o;simp only[*,xW,x1,xR,x2,x4,x5,x6,x7]at p;have s:=MS p;clear p A
         try simp only[J.lJ,J.qN]at *
         go_wp2;go_meet
         case rel=>exact⟨_,Z,s.symm,Z⟩
       obtain⟨h0,rfl,t,rfl⟩:=hcut;have K:=MS (H.X HB.o);go_upto_region 18 with(first|(go_at_call 211;refine(EY g ge ce gf cf ga ca d l y _ K.o k b hkt hb).mono ?_;rintro e w2 ⟨rfl,N⟩;have B2:=MS (dA HB.o (xF _) N);clear N))
       have x:=H.X B2.o;have ad:=x.e;have aj:=x.lg;have ai:=x.le;have ab:=(x.ev b hb).k;have ac:=(x.ev k hkt).k;have W:=(x.ev k hkt).r;clear x K;have u:MT (J.iK d k b=(h0||(J.ev d b).B.toList==J.kF&&J.cD d k b)):=by unfold MT;rw[t.o];rfl
       generalize J.cD d k b=bA at*;go_cut[14]from 90 to 161 fun c F=>∃bq,c=O bq/\MT (bq=J.iK d k b)/\F=w2
       case first =>
        rcases KQ h0 ((J.ev d b).B.toList==J.kF) bA with m|⟨m,z⟩|⟨m,z,p3⟩|⟨m,z,p3⟩
        all_goals
         have p:=u.o;simp only[*,xW,x1,xR,x2,x4,x5,x6,x7]at p;have s:=MS p;clear p u t;subst m
         try simp only[J.kF]at *
         go_wp2;go_meet
         case rel=>exact⟨_,Z,s.symm,Z⟩
       obtain⟨V,rfl,v,rfl⟩:=hcut;clear u t;go_upto_region 19 with fail
       go_cut[156]from 90 to 161 fun c F=>∃bq,c=O bq/\MT (bq=J.lB (J.ev d k) J.kR V)/\F=wc
       case first =>
        have A:MT (J.lB (J.ev d k) J.kR V=(!((J.ev d k).B.toList==J.kR)||((J.ev d k).ord.toList==J.bT||!V))):=Z;clear v
        cases V<;>rcases XA ((J.ev d k).B.toList==J.kR) ((J.ev d k).ord.toList==J.bT)with m|⟨m,z⟩|⟨m,z⟩
        all_goals
         have p:=A.o;simp only[*,x4,x5,x6,x7,Bool.not_true,Bool.not_false]at p;have s:=MS p;clear p A;have q1:=BJ m
         try simp only[J.kR,J.bT]at *
         go_wp2;go_meet
         case rel=>exact⟨_,Z,s.symm,Z⟩
       obtain⟨ps,rfl,L,rfl⟩:=hcut;have aa:MT (J.tk d l b i k=(!ps&&J.aP d l i k)):=by unfold MT;rw[L.o,v.o];rfl
       clear L v ab ac W;have K:=MS (H.X B2.o);cases ps
       ·cases z5:J.aP d l i k
        ·have HN:MT (∀j,3<=j->j<k+1->J.tk d l b i j=Y):=fun j D T=>by
          by_cases c:j=k
          ·rw[c,aa.o,z5];rfl
          ·exact HJ.o j D (by omega)
         go_wp2_with(first|(go_at_call 212;refine(WY g ge ce gf cf ga ca d l y _ K.o i k hlt hkt hF).mono ?_;rintro e w3 ⟨rfl,S⟩;rw[z5];have B3:=MS (dA B2.o (xF _) S);clear S));go_roundw
         case rel=>exact⟨k+1,by omega,by omega,by go_num,HN,B3⟩
         case measure=>simp[intOf];omega
        ·have A:MT (J.bS d l a b=C):=by
          unfold MT;rw[HX.o,z0,J.mY ae hlt (f:=J.ti d l a b)]
          ·rfl
          ·rw[HT.o,J.mY ag hkt (f:=J.tk d l b i)]
           ·rfl
           ·rw[aa.o,z5];rfl
         go_wp2_with(first|(go_at_call 212;refine(WY g ge ce gf cf ga ca d l y _ K.o i k hlt hkt hF).mono ?_;rintro e w3 ⟨rfl,S⟩;rw[z5];have B3:=MS (dA B2.o (xF _) S);clear S));go_ret;exact⟨by rw[A.o];first|rfl|simp,B3.o⟩
       ·have HN:MT (∀j,3<=j->j<k+1->J.tk d l b i j=Y):=fun j D T=>by
         by_cases c:j=k
         ·rw[c,aa.o];rfl
         ·exact HJ.o j D (by omega)
        go_wp2;go_roundw
        case rel=>exact⟨k+1,by omega,by omega,by go_num,HN,B2⟩
        case measure=>simp[intOf];omega
      ·have ah:¬(k:Int)<(U d:Int):=by omega
       clear K;have HN:MT (∀j,3<=j->j<i+1->J.ti d l a b j=Y):=fun j D T=>by
        by_cases c:j=i
        ·rw[c,HT.o,J.pJ fun j D T=>HJ.o j D (by omega)];rfl
        ·exact HI.o j D (by omega)
       go_wp2;go_roundw
       case rel=>exact⟨i+1,by omega,by omega,by go_num,HN,HB⟩
       case measure=>simp[intOf];omega
    ·have HN:MT (∀j,3<=j->j<i+1->J.ti d l a b j=Y):=fun j D T=>by
      by_cases c:j=i
      ·rw[c,HT.o];rfl
      ·exact HI.o j D (by omega)
     go_wp2;go_roundw
     case rel=>exact⟨i+1,by omega,by omega,by go_num,HN,HB⟩
     case measure=>simp[intOf];omega
  ·have af:¬(i:Int)<(U d:Int):=by omega
   clear K;go_wp2;go_ret;exact⟨by rw[HX.o,J.pJ fun j D T=>HI.o j D (by omega),xR];first|rfl|simp,HB.o⟩
