import Derived.Test.YtlikcongbhhpfaaGreatDoorM09
set_option linter.unusedVariables false
set_option linter.unusedSimpArgs false
set_option maxHeartbeats 12800000
namespace Go.Proofs.YtlikcongbhhpfaaGreatDoor
open Go Go.RowKit Go.Proofs.Tryz P Q
set_option maxRecDepth 1000000
variable {st:JR}{r:Rd}
open List renaming length->N
open _root_.Array renaming size->M
open Go.World renaming heap->L
open Go.Ending renaming returned->Y
open Go.Value renaming int->C,bool->U
open Go.IntKind renaming i64->G
open Bool renaming true->E
open Nat renaming zero_le->xF,le_refl->xW
open Go.RowKit.Below renaming refl->xR
open List renaming getElem_mem->x0,drop_eq_nil_of_le->x1,take_succ_eq_append_getElem->x3
open Bool renaming false_eq_true->x2
namespace P
theorem Kw(a b:List JV):write (a++b)=write a++write b:=by
 induction a with
 |nil=>rfl
 |cons t r ih=>simp[write,ih]
theorem Kx(l:List JV)(k:Nat)(h:k<N l):write (l.take (k+1))=write (l.take k)++sZ l[k]:=by
 rw[x3 h,Kw];simp[write]
theorem Ky(a b:List JR):iT (a++b)=iT a++iT b:=by
 induction a with
 |nil=>rfl
 |cons t r ih=>simp[iT,ih]
theorem Kz(l:List JR)(k:Nat)(h:k<N l):iT (l.take (k+1))=iT (l.take k)++(dS l[k]++[10]):=by
 rw[x3 h,Ky];simp[iT]
end P
theorem AP(B bt n v:Nat)(f:List JV)(w:World)(h:bK w B (JQ bt n v) f)(hn:n=N f)(ah:n<10)(l:∀t∈f,N t.S<10000)(z:∀t∈f,0<=t.block/\t.block<100/\∀s∈t.S,P.NY s):
  Calls prog 26 #[.agg #[JQ bt n v]] w fun e w'=>∃s,e=Y (.string s)/\iO 10000000 s (write f)/\Below (M (L w)) w w':=by
 have HA:=JO h;have I:=JO hn;have HS:=JO l;have HM:=JO z;clear h hn l z;go_enter func26,ntmps26;go_wp2;go_loopw[3,11] (fun a i wr=>∃k:Nat,∃s:ByteArray,k<=n/\i=C G k/\a=.string s/\s.size<=k*1000000/\JP (s.toList=write (f.take k))/\Below (M (L w)) w wr) fun _ i _=>n-(intOf i).toNat
 case atStart=>exact⟨0,⟨#[]⟩,xF _,Z,Z,by simp[fA],by unfold JP;simp[eK,write],(xR _ _).alloc (xW _) _⟩
 case round =>
  obtain⟨k,s,hk,rfl,rfl,ai,HW,d⟩:=hrel;by_cases hlt:k<n
  ·have g:k<N f:=by rw[<- I.o];exact hlt
   obtain⟨p,sa,sc,c0,c1,c2,ho⟩:=kP HA.o I.o k g;have d0:=JS d p c0;have d1:=JS d p c1;have d2:=JS d p c2;have ag:=HS.o f[k] (x0 g);obtain⟨K,O,X⟩:=HM.o f[k] (x0 g);have H:=JO X;have HX:=JO (Kx f k g);have HO:=JO ho;generalize l:f[k]=t at*;have ab:0<N t.S->∃b,sa=some ⟨b,0,none⟩/\b<M (L w):=fun h0=>by
    rcases ho.2 with⟨e,ae⟩|⟨b',c',ad,e,af,V,_⟩
    ·omega
    ·simp only[Value.slice.injEq]at e;exact⟨b',e.1,(Array.getElem?_eq_some_iff.1 V).1⟩
   have F:JP (Below (M (L w)) w (wr.alloc (.cells #[C G t.block,C G t.i,.slice sa (N t.S) sc] 96))):=d.alloc d.size _;go_wp2_with(first|(go_at_call 44;refine(IN t.block _ K O).mono ?_;rintro e w' ⟨sn,rfl,A,rfl⟩;have zn:=A.size));go_loopw[3,24] (fun a j w2=>∃q:Nat,∃u:ByteArray,q<=N t.S/\j=C G q/\a=.string u/\u.size<=k*1000000+20+q*81/\JP (u.toList=write (f.take k)++([46,116,104,114,101,97,100,32]++dK t.block++[10])++iT (t.S.take q))/\Below (M (L w)) w w2) fun _ j _=>N t.S-(intOf j).toNat
   case atStart =>
    refine⟨0,_,xF _,Z,Z,?_,?_,F.o⟩
    ·simp[fA];omega
    ·unfold JP;simp[gD,eK,A.1,HW.o,iT]
   case round =>
    obtain⟨q,u,hq,rfl,rfl,ac,HU,d⟩:=hrel;by_cases hql:q<N t.S
    ·obtain⟨b,rfl,x⟩:=ab (by omega);have hr:=JO (eH (kJ HO.o Z q hql) (d.block b x));have m:=H.o t.S[q] (x0 hql);have KS:=JO (Kz t.S q hql);generalize l:t.S[q]=st at hr KS m;have D:=d.size;go_wp2_with(first|(refine dC (.tmp 26) Z Z b (q*11) st Z hr.o ?_)|(go_at_call 45;refine(Kc st _ m).mono ?_;rintro e w3 ⟨si,rfl,y,T⟩;have zi:=y.size));go_roundw
     case rel =>
      refine⟨q+1,_,by omega,by go_num,Z,?_,?_,(d.alloc D _).trans (T.mono (by simp;omega))⟩
      ·simp[fA];omega
      ·unfold JP;rw[KS.o];simp[gD,eK,y.1,HU.o]
     case measure=>simp[intOf];omega
    ·have aa:q=N t.S:=by omega
     subst aa;have J:JP (t.S.take (N t.S)=t.S):=List.take_length;go_wp2;go_roundw
     case rel =>
      refine⟨k+1,u,by omega,by go_num,Z,by omega,?_,d⟩;unfold JP;rw[HX.o,HU.o,J.o];simp[sZ]
     case measure=>simp[intOf];omega
  ·have W:k=n:=by omega
   subst W;have J:JP (f.take k=f):=List.take_of_length_le (by have:=I.o;omega);go_wp2;go_ret;exact⟨s,Z,⟨by rw[HW.o,J.o],by omega⟩,d⟩
namespace P
def nU(v:Int)(st:JR):Bool:=OL st.k&&st.z==v
def gW(ts:List JV)(b v:Int):Bool:=ts.any fun t=>t.block==b&&t.S.any (nU v)
def aQ(ts:List JV)(v:Int):Bool:=gW ts 0 v&&gW ts 1 v
def qZ(ts:List JV):Bool:=match ts with
 |[]=>E
 |t::r=>(t::r).all fun u=>u.block==t.block
def mQ(ts:List JV)(st:JR):Bool:=if st.k==4 then qZ ts else OL st.k&&!aQ ts st.z
def iA(ts:List JV)(st:JR):JR:=if mQ ts st then{st with scope:=0}else st
def eC(ts:List JV)(ss:List JR):List JR:=ss.map (iA ts)
def yI(k:Int):Bool:=TD k||k==10||k==11
def kS(n:Int):List JR->Bool
 |[]=>E
 |s::r=>if s.k==5 then kS (n+1) r else if n==1&&!yI s.k then false else kS n r
def gT(ts:List JV)(b:Int):Bool:=ts.all fun t=>t.block != b||kS 0 t.S
def bY(n:Int):List JR->List JR
 |[]=>[]
 |s::r=>if s.k==5 then(if n+1==2 then bY (n+1) r else s::bY (n+1) r)else s::bY n r
def qN(a b:JR):Bool:=a.k==4&&b.k==4&&(a.q==5||b.q==4)&&(a.scope==1||b.scope==0)
def oY(p:Option JR)(s:JR):Bool:=match p with
 |none=>false
 |some q=>qN q s
def cC(p:Option JR):List JR->List JR
 |[]=>[]
 |s::r=>if oY p s then cC p r else s::cC (some s) r
def mR(ts:List JV)(b:Int)(ss:List JR):List JR:=if gT ts b then bY 0 ss else ss
def kB(ts:List JV)(t:JV):JV:={t with S:=cC none (mR ts t.block (eC ts t.S))}
def jR(ts:List JV):List JV:=ts.map (kB ts)
def wZ(st:JR)(shared:Bool):Bool:=st.q==0||shared&&(st.scope==0||st.q==4)
def lM(ts:List JV)(v:Int):Bool:=ts.all fun t=>t.S.all fun st=>!(nU v st&&wZ st (aQ ts v))
def acq(o:Int):Bool:=o==2||o==4
def rel(o:Int):Bool:=o==3||o==4
def bO(st:JR):JR:=⟨4,st.i,0,0,MR.zero,MR.zero,4,st.scope,0⟩
def iL(pr:Int->Bool)(st:JR):List JR :=
 if OL st.k&&pr st.z then(if rel st.q then[bO st]else[])++[{st with q:=1}]++if acq st.q then[bO st]else[]else[st]
def dH(pr:Int->Bool):List JR->List JR
 |[]=>[]
 |s::r=>iL pr s++dH pr r
def lR(ts:List JV)(t:JV):JV:={t with S:=dH (lM ts) t.S}
def lZ(ts:List JV):List JV:=ts.map (lR ts)
def QH(ts:List JV)(opt mI:Bool):List JV :=
 if mI then lZ (if opt then jR ts else ts)else if opt then jR ts else ts
end P
theorem oV(k:Int)(w:World):
  Calls prog 79 #[C G k] w fun e a=>e=Y (U (OL k))/\a=w:=by
 go_enter func79,ntmps79;go_wp2
 all_goals go_ret
 all_goals simp[OL, *]
theorem wN(k:Int)(w:World):
  Calls prog 82 #[C G k] w fun e a=>e=Y (U (acq k))/\a=w:=by
 go_enter func82,ntmps82;go_wp2
 all_goals go_ret
 all_goals simp[acq, *]
theorem wR(k:Int)(w:World):
  Calls prog 81 #[C G k] w fun e a=>e=Y (U (P.rel k))/\a=w:=by
 go_enter func81,ntmps81;go_wp2
 all_goals go_ret
 all_goals simp[P.rel, *]
theorem UW(k:Int)(w:World):
  Calls prog 130 #[C G k] w fun e a=>e=Y (U (yI k))/\a=w:=by
 go_enter func130,ntmps130;go_wp2
 all_goals go_ret
 all_goals simp[yI,TD, *]
theorem vB(st:JR)(v:Int)(w:World):
  Calls prog 131 #[.agg (aC st),C G v] w fun e a=>e=Y (U (nU v st))/\Below (M (L w)) w a:=by
 simp only[aC]
 cases ha:OL st.k<;>cases hv:st.z==v
 all_goals
  go_enter func131,ntmps131;go_wp2_with(first|(go_at_call 79;refine(oV _ _).mono ?_;rintro e a ⟨rfl,rfl⟩;rw[ha]));go_ret;exact⟨by simp[nU,ha,hv],(xR _ _).alloc (xW _) _⟩
theorem UX(st:JR)(s:Bool)(w:World):
  Calls prog 132 #[.agg (aC st),U s] w fun e a=>e=Y (U (wZ st s))/\Below (M (L w)) w a:=by
 simp only[aC]
 cases h0:st.q==0<;>cases s<;>cases h1:st.scope==0<;>cases h4:st.q==4
 all_goals
  go_enter func132,ntmps132;go_wp2;go_ret;exact⟨by simp[wZ,h0,h1,h4],(xR _ _).alloc (xW _) _⟩
theorem pJ{w:World}{B:Nat}{d:Option Addr}{k n:Nat}{m:List Value}{e:TypeId}{l:Nat}(h:w.ownsRow B e l (.slice d n k) n m):0<n->∃b,d=some ⟨b,0,none⟩/\b<M (L w):=fun p=>by
 rcases h.2 with⟨e,i⟩|⟨f,o,g,e,j,a,_⟩
 ·omega
 ·simp only[Value.slice.injEq]at e;exact⟨f,e.1,(Array.getElem?_eq_some_iff.1 a).1⟩
theorem K4(B O n x:Nat)(f v:Int)(d:List JV)(w:World)(h:bK w B (JQ O n x) d)(X:n=N d)(ab:n<10)(z:∀t∈d,N t.S<10000):
  Calls prog 163 #[.agg #[JQ O n x],C G f,C G v] w fun e w'=>e=Y (U (gW d f v))/\Below (M (L w)) w w':=by
 have HA:=JO h;have H:=JO X;have HS:=JO z;clear h X z;go_enter func163,ntmps163;go_wp2;go_loopw[14] (fun i wr=>∃k:Nat,k<=n/\i=C G k/\JP (gW (d.drop k) f v=gW d f v)/\Below (M (L w)) w wr) fun i _=>n-(intOf i).toNat
 case atStart=>exact⟨0,xF _,Z,by unfold JP;simp,(xR _ _).alloc (xW _) _⟩
 case round =>
  obtain⟨k,hk,rfl,D,a⟩:=hrel;by_cases hlt:k<n
  ·have s:k<N d:=by rw[<- H.o];exact hlt
   obtain⟨p,sa,sc,T,V,W,ho⟩:=kP HA.o H.o k s;have d0:=JS a p T;have d1:=JS a p V;have d2:=JS a p W;have aa:=HS.o d[k] (x0 s);have F:=JO (kM d k s);have K:=JO ho;have A:M (L w)<=M (L wr):=a.size;generalize d[k]=t at*;clear T V W ho;by_cases hb:t.block=f
   ·have nb:(t.block != f)=false:=by simp[hb]
    go_wp2;go_loopw[25] (fun j w2=>∃q:Nat,q<=N t.S/\j=C G q/\JP ((t.S.drop q).any (nU v)=t.S.any (nU v))/\Below (M (L w)) w w2) fun j _=>N t.S-(intOf j).toNat
    case atStart=>exact⟨0,xF _,Z,by unfold JP;simp,a.alloc A _⟩
    case round =>
     obtain⟨q,hq,rfl,I,c⟩:=hrel;by_cases hql:q<N t.S
     ·obtain⟨b,rfl,y⟩:=pJ K.o (by omega);have hr:=JO (eH (kJ K.o Z q hql) (c.block b y));have u:=JO (kM t.S q hql);generalize t.S[q]=st at*;have g:=c.size
      cases hrs:nU v st
      ·go_wp2_with(first|(refine dC (.tmp 27) Z Z b (q*11) st Z hr.o ?_)|(go_at_call 131;refine(vB st v _).mono ?_;rintro e w3 ⟨rfl,m⟩;rw[hrs]));go_roundw
       case rel =>
        refine⟨q+1,by omega,by go_num,?_,(c.alloc g _).trans (m.mono (by simp;omega))⟩;have:=I.o;unfold JP;rw[<- this,u.o];simp[hrs]
       case measure=>simp[intOf];omega
      ·have l:JP (gW d f v=E):=by
        unfold JP;rw[<- D.o,F.o];have:=I.o;rw[u.o]at this;simp[gW,hb,<- this,hrs]
       go_wp2_with(first|(refine dC (.tmp 27) Z Z b (q*11) st Z hr.o ?_)|(go_at_call 131;refine(vB st v _).mono ?_;rintro e w3 ⟨rfl,m⟩;rw[hrs]));go_ret;exact⟨by rw[l.o];rfl,(c.alloc g _).trans (m.mono (by simp;omega))⟩
     ·have J:q=N t.S:=by omega
      have l:JP (gW (d.drop (k+1)) f v=gW d f v):=by
       have h1:t.S.any (nU v)=false:=by rw[<- I.o,J,List.drop_length];rfl
       unfold JP;rw[<- D.o,F.o];simp only[gW,List.any_cons,h1,Bool.and_false,Bool.false_or]
      go_wp2;go_roundw
      case rel=>exact⟨k+1,by omega,by go_num,l,c⟩
      case measure=>simp[intOf];omega
   ·have nb:(t.block != f)=E:=by simp[hb]
    have l:JP (gW (d.drop (k+1)) f v=gW d f v):=by
     unfold JP;rw[<- D.o,F.o];simp[gW,hb]
    go_wp2;go_roundw
    case rel=>exact⟨k+1,by omega,by go_num,l,a.alloc A _⟩
    case measure=>simp[intOf];omega
  ·have l:JP (gW d f v=false):=by
    unfold JP;rw[<- D.o,x1 (by have:=H.o;omega)];rfl
   go_wp2;go_ret;exact⟨by rw[l.o];rfl,a⟩
theorem K5(B n:Nat)(A:Option Addr)(D:Nat)(l:List JR)(w:World)(f:w.ownsRow B 104 11 (.slice A n D) n (MG l))(z:n=N l)(F:n<10000):
  Calls prog 77 #[.slice A n D] w fun e x=>e=Y (U (kS 0 l))/\Below (M (L w)) w x:=by
 have y:=JO f;have v:=JO z;clear f z;go_enter func77,ntmps77;go_wp2;go_loopw[3,8] (fun c i wr=>∃(k:Nat) (q:Int),k<=n/\i=C G k/\c=C G q/\0<=q/\q<=k/\JP (kS q (l.drop k)=kS 0 l)/\Below (M (L w)) w wr) fun _ i _=>n-(intOf i).toNat
 case atStart=>exact⟨0,0,xF _,Z,Z,by omega,by omega,by unfold JP;simp,xR _ _⟩
 case round =>
  obtain⟨k,q,J,rfl,rfl,p,H,g,a⟩:=hrel;have d:=a.size;by_cases hlt:k<n
  ·obtain⟨b,rfl,j⟩:=pJ y.o (by omega);have m:k<N l:=by rw[<- v.o];exact hlt
   have t:=JO (eH (kJ y.o v.o k m) (a.block b j));have s:=JO (kM l k m);generalize I:l[k]=st at*
   cases h5:st.k==5
   ·cases hq:q==1
    ·go_wp2_with(first|(refine dC (.tmp 10) Z Z b (k*11) st Z t.o ?_));go_roundw
     case rel =>
      refine⟨k+1,q,by omega,by go_num,Z,p,by omega,?_,a.alloc d _⟩;unfold JP;rw[<- g.o,s.o];simp[kS,h5,hq]
     case measure=>simp[intOf];omega
    ·cases hf:yI st.k
     ·have u:JP (kS 0 l=false):=by
       unfold JP;rw[<- g.o,s.o];simp[kS,h5,hq,hf]
      go_wp2_with(first|(refine dC (.tmp 10) Z Z b (k*11) st Z t.o ?_)|(go_at_call 130;refine(UW _ _).mono ?_;rintro e x ⟨rfl,rfl⟩;rw[hf]));go_ret;exact⟨by rw[u.o];rfl,a.alloc d _⟩
     ·go_wp2_with(first|(refine dC (.tmp 10) Z Z b (k*11) st Z t.o ?_)|(go_at_call 130;refine(UW _ _).mono ?_;rintro e x ⟨rfl,rfl⟩;rw[hf]));go_roundw
      case rel =>
       refine⟨k+1,q,by omega,by go_num,Z,p,by omega,?_,a.alloc d _⟩;unfold JP;rw[<- g.o,s.o];simp[kS,h5,hq,hf]
      case measure=>simp[intOf];omega
   ·go_wp2_with(first|(refine dC (.tmp 10) Z Z b (k*11) st Z t.o ?_));go_roundw
    case rel =>
     refine⟨k+1,q+1,by omega,by go_num,by go_num,by omega,by omega,?_,a.alloc d _⟩;unfold JP;rw[<- g.o,s.o];simp[kS,h5]
    case measure=>simp[intOf];omega
  ·have u:JP (kS 0 l=E):=by
    unfold JP;rw[<- g.o,x1 (by have:=v.o;omega)];rfl
   go_wp2;go_ret;exact⟨by rw[u.o];rfl,a⟩
theorem K7(B F n s:Nat)(c:Int)(b:List JV)(w:World)(h:bK w B (JQ F n s) b)(H:n=N b)(aa:n<10)(u:∀t∈b,N t.S<10000):
  Calls prog 40 #[.agg #[JQ F n s],C G c] w fun e A=>e=Y (U (gT b c))/\Below (M (L w)) w A:=by
 have O:=JO h;have y:=JO H;have T:=JO u;clear h H u;go_enter func40,ntmps40;go_wp2;go_loopw[10] (fun i wr=>∃k:Nat,k<=n/\i=C G k/\JP (gT (b.drop k) c=gT b c)/\Below (M (L w)) w wr) fun i _=>n-(intOf i).toNat
 case atStart=>exact⟨0,xF _,Z,by unfold JP;simp,(xR _ _).alloc (xW _) _⟩
 case round =>
  obtain⟨k,hk,rfl,v,a⟩:=hrel;have d:M (L w)<=M (L wr):=a.size;by_cases hlt:k<n
  ·have p:k<N b:=by rw[<- y.o];exact hlt
   obtain⟨m,J,K,V,W,X,I⟩:=kP O.o y.o k p;have d0:=JS a m V;have d1:=JS a m W;have d2:=JS a m X;have z:=T.o b[k] (x0 p);have x:=JO (kM b k p);generalize b[k]=t at*;have D:JP (∀q:World,Below (M (L w)) w q->Calls prog 77 #[.slice J (N t.S) K] q fun e A=>e=Y (U (kS 0 t.S))/\Below (M (L q)) q A):=fun q g=>K5 B _ J K t.S q (aU I fun j hj=>g.block j (I.lt j hj).2) Z z
   by_cases g:t.block=c
   ·have nb:(t.block != c)=false:=by simp[g]
    cases hi:kS 0 t.S
    ·have f:JP (gT b c=false):=by
      unfold JP;rw[<- v.o,x.o];simp[gT,g,hi]
     go_wp2_with(first|(go_at_call 77;refine(D.o _ (a.alloc d _)).mono ?_;rintro e w3 ⟨rfl,l⟩;rw[hi]));go_ret;exact⟨by rw[f.o];rfl,(a.alloc d _).trans (l.mono (by simp;omega))⟩
    ·have f:JP (gT (b.drop (k+1)) c=gT b c):=by
      unfold JP;rw[<- v.o,x.o];simp[gT,g,hi]
     go_wp2_with(first|(go_at_call 77;refine(D.o _ (a.alloc d _)).mono ?_;rintro e w3 ⟨rfl,l⟩;rw[hi]));go_roundw
     case rel=>exact⟨k+1,by omega,by go_num,f,(a.alloc d _).trans (l.mono (by simp;omega))⟩
     case measure=>simp[intOf];omega
   ·have nb:(t.block != c)=E:=by simp[g]
    have f:JP (gT (b.drop (k+1)) c=gT b c):=by
     unfold JP;rw[<- v.o,x.o];simp[gT,g]
    go_wp2;go_roundw
    case rel=>exact⟨k+1,by omega,by go_num,f,a.alloc d _⟩
    case measure=>simp[intOf];omega
  ·have f:JP (gT b c=E):=by
    unfold JP;rw[<- v.o,x1 (by have:=y.o;omega)];rfl
   go_wp2;go_ret;exact⟨by rw[f.o];rfl,a⟩
namespace P
structure NJ(st:JR):Prop where
 d0:0<=st.dest
 d1:st.dest<4
 a0:0<=st.a.n
 a1:st.a.n<4
 b0:0<=st.b.n
 b1:st.b.n<4
 l0:st.label=0
theorem lX:NJ JR.zero:=⟨by decide,by decide,by decide,by decide,by decide,by decide,Z⟩
theorem IA(c:UInt8)(n:Int)(h:(cH c n).2=E):0<=(cH c n).1/\(cH c n).1<n:=by
 simp[cH]at h⊢;omega
theorem UY(l:List UInt8)(h:(aS l).2=E):0<=(aS l).1/\(aS l).1<4:=by
 unfold aS at h⊢
 split at h
 ·split at h
  ·rename_i a;simp only[if_pos a];exact IA _ _ h
  ·simp at h
 ·simp at h
theorem uI(l:List UInt8)(h:(aO l).2=E):0<=(aO l).1.n/\(aO l).1.n<4:=by
 unfold aO at h⊢
 split at h
 ·exact IA _ _ h
 ·exact UY _ h
theorem zK(a:NJ st)(d:List (List UInt8)):NJ (dI st d).1:=by
 have b:∀o,NJ {st with q:=o}:=fun o=>⟨a.d0,a.d1,a.a0,a.a1,a.b0,a.b1,a.l0⟩
 have c:∀o s,NJ {st with q:=o,scope:=s}:=fun o s=>⟨a.d0,a.d1,a.a0,a.a1,a.b0,a.b1,a.l0⟩
 unfold dI
 split
 ·exact a
 ·split
  ·split
   ·exact b _
   ·split
    ·exact c _ _
    ·exact b _
  ·exact a
theorem UZ(a:NJ st)(p v:List UInt8)(h:(MI st p v).2=E):NJ (MI st p v).1:=by
 unfold MI at h⊢
 split at h
 ·rename_i b;simp only[b,if_true];have:=uI v h;exact⟨a.d0,a.d1,this.1,this.2,a.b0,a.b1,a.l0⟩
 ·simp at h
theorem vM(a:NJ st)(k:Int):NJ {st with k:=k}:=⟨a.d0,a.d1,a.a0,a.a1,a.b0,a.b1,a.l0⟩
theorem K9(a:NJ st)(b:List (List UInt8)):NJ (load st b).1:=by
 unfold load
 split
 ·exact a
 ·split
  ·refine zK (st:={st with k:=0,z:=_}) ?_ _;exact⟨a.d0,a.d1,a.a0,a.a1,a.b0,a.b1,a.l0⟩
  ·exact a
theorem VA(b:NJ st)(k:Int)(a:List (List UInt8))(h:(step st k a).2=E):NJ (step st k a).1:=by
 match a,h with
 |[],h=>simp[step]at h
 |[_],h=>simp[step]at h
 |p::v::r,h =>
  cases ht:(MI {st with k:=k} p v).2
  ·rw[SB st k p v r ht]at h;simp at h
  ·rw[SC st k p v r ht];exact zK (UZ (vM b k) p v ht) r
theorem La(c:NJ st)(d:List (List UInt8))(h:(sum st d).2=E):NJ (sum st d).1:=by
 match d,h with
 |[],h=>simp[sum]at h
 |[a],h =>
  cases ha:(aO a).2
  ·simp[sum,ha]at h
  ·rw[SE st a ha];have:=uI a ha;exact⟨c.d0,c.d1,this.1,this.2,c.b0,c.b1,c.l0⟩
 |[_,_],h=>simp[sum]at h
 |[a,s,b],h =>
  cases ha:(aO a).2
  ·simp[sum,ha]at h
  ·cases hg:(cX s).2
   ·simp[sum,ha,hg]at h
   ·rw[SF st a s b ha hg]at h⊢;have e:=uI a ha;have f:=uI b h;exact⟨c.d0,c.d1,e.1,e.2,f.1,f.2,c.l0⟩
 |_::_::_::_::_,h=>simp[sum]at h
theorem Lb(i:List (List UInt8))(h:(eG i).2=E):NJ (eG i).1:=by
 match i,h with
 |[],h=>simp[eG]at h
 |[_],h=>simp[eG]at h
 |[_,_],h=>simp[eG]at h
 |d::e::c::r,h =>
  unfold eG at h⊢;simp only at h⊢;by_cases he:(e==[61])=E
  ·by_cases hr:(aS d).2=E
   ·rw[if_pos he,if_pos hr]at h⊢;have j:=UY d hr;have a:NJ {JR.zero with dest:=(aS d).1}:=⟨j.1,j.2,lX.a0,lX.a1,lX.b0,lX.b1,Z⟩
    split at h
    ·rename_i b;rw[if_pos b];exact K9 a r
    ·rename_i b;rw[if_neg b]
     split at h
     ·rename_i f;rw[if_pos f];exact VA a 2 r h
     ·rename_i f;rw[if_neg f]
      split at h
      ·rename_i g;rw[if_pos g];exact VA a 3 r h
      ·rename_i g;rw[if_neg g];exact La a (c::r) h
   ·rw[if_pos he,if_neg hr]at h;simp at h
  ·rw[if_neg he]at h;simp at h
theorem Lc(i:List (List UInt8))(h:(cI i).2=E):NJ (cI i).1:=by
 match i,h with
 |[],h=>simp[cI]at h
 |c::r,h =>
  unfold cI at h⊢;simp only at h⊢
  split at h
  ·rename_i b;rw[if_pos b]
   match r,h with
   |[],h=>simp[store]at h
   |[_],h=>simp[store]at h
   |p::v::q,h =>
    unfold store at h⊢;simp only at h⊢
    cases ht:(MI {JR.zero with k:=1} p v).2
    ·simp[ht]at h
    ·simp only[if_true];exact zK (UZ (vM lX 1) p v ht) q
  ·rename_i b;rw[if_neg b]
   split at h
   ·rename_i d;rw[if_pos d];exact zK (vM lX 4) r
   ·rename_i d;rw[if_neg d]
    split at h
    ·rename_i e;rw[if_pos e];exact vM lX 5
    ·rename_i e;rw[if_neg e]
     split at h
     ·rename_i f;rw[if_pos f]
      match r,h with
      |[],h=>simp[kN]at h
      |[a],h =>
       have:=uI a h;exact⟨lX.d0,lX.d1,this.1,this.2,lX.b0,lX.b1,Z⟩
      |_::_::_,h=>simp[kN]at h
     ·rename_i f;rw[if_neg f]
      split at h
      ·rename_i g;rw[if_pos g];exact vM lX 11
      ·rename_i g;rw[if_neg g];exact Lb (c::r) h
structure Tidy(r:Rd):Prop where
 few:N r.H<=4
 c0:0<=r.count
 c8:r.count<=8
 none:r.H=[]->r.count=0
 i0:0<=r.I
 i1:r.I<=8*((N r.H-1:Nat):Int)+r.count
 O:∀o∈r.O,0<=o/\o<100
 thr:∀t∈r.H,0<=t.block/\t.block<100/\∀s∈t.S,NY s
theorem Ld:Tidy Rd.zero:=⟨by simp[Rd.zero],by simp[Rd.zero],by simp[Rd.zero],by simp[Rd.zero],by simp[Rd.zero],by simp[Rd.zero],by simp[Rd.zero],by simp[Rd.zero]⟩
theorem IU(h:NJ st)(f c:Int)(d:0<=c)(e:c<100):NY {st with i:=f,label:=c}:=
 ⟨h.d0,by have:=h.d1;show st.dest<100;omega,h.a0,by have:=h.a1;show st.a.n<100;omega,h.b0,by have:=h.b1;show st.b.n<100;omega,d,e⟩
theorem VB(e:List JV)(s:JR)(f:NY s)(h:∀t∈e,0<=t.block/\t.block<100/\∀s∈t.S,NY s):∀t∈eR e s,0<=t.block/\t.block<100/\∀s∈t.S,NY s:=by
 match e,h with
 |[],h=>intro t c;simp[eR]at c
 |[a],h =>
  intro t c;simp[eR]at c;subst c;have:=h a (by simp);refine⟨this.1,this.2.1,fun x d=>?_⟩;simp at d
  rcases d with d|rfl
  ·exact this.2.2 x d
  ·exact f
 |a::b::r,h =>
  intro t c;simp only[eR,List.mem_cons]at c
  rcases c with rfl|c
  ·exact h t (by simp)
  ·exact VB (b::r) s f (fun t c=>h t (by simp at c⊢;right;exact c)) t c
theorem GZ(s:JR)(h:Tidy r)(b:NY s):Tidy (put r s):=by
 have a:(put r s).H.length=N r.H:=uO _ _;refine⟨by rw[a];exact h.few,h.c0,h.c8,fun e=>h.none (by have:=congrArg List.length e;rw[a]at this;exact List.eq_nil_of_length_eq_zero (by simpa using this)),h.i0,by rw[a];exact h.i1,h.O,VB _ _ b h.thr⟩
theorem VC(p:List (List UInt8))(h:Tidy r):Tidy (MD {r with i:=r.i+1} p).1:=by
 have f:Tidy {r with i:=r.i+1}:=⟨h.few,h.c0,h.c8,h.none,h.i0,h.i1,h.O,h.thr⟩;unfold MD
 split
 ·unfold eW;by_cases s:4<=N r.H\/0<N r.O
  ·rw[if_pos (by exact s)];exact f
  ·rw[if_neg (by exact s)]
   split
   ·rename_i a c _;by_cases hd:(cH c 2).2=E
    ·rw[if_pos hd];have n:=IA c 2 hd;refine⟨by simp;omega,by simp,by simp,by simp,h.i0,?_,h.O,?_⟩
     ·have:=h.i1;have j:=h.none;have x:=h.c8
      cases d:r.H with
      |nil=>rw[d]at this;rw[j d]at this;simp at this⊢;omega
      |cons t q=>rw[d]at this;simp at this⊢;omega
     ·intro t d;simp at d
      rcases d with d|rfl
      ·exact h.thr t d
      ·exact⟨n.1,by show(cH c 2).1<100;omega,by simp⟩
    ·rw[if_neg hd];exact f
   ·exact f
 ·split
  ·exact f
  ·rename_i _ u;simp only[]
   split
   ·rename_i B;have j:=Lc p B
    split
    ·unfold ends
     split
     ·exact f
     ·rename_i l z;have A:l∈r.O:=List.mem_of_getLast? z;have k:=h.O l A;refine GZ _ ⟨h.few,h.c0,h.c8,h.none,h.i0,h.i1,fun o v=>h.O o (List.dropLast_subset _ v),h.thr⟩ ?_;exact IU j _ _ k.1 k.2
    ·split
     ·exact f
     ·rename_i x;have m:r.H≠[]:=by simpa using u
      have g:Tidy {r with i:=r.i+1,count:=r.count+1}:=⟨h.few,by have:=h.c0;show 0<=r.count+1;omega,by show r.count+1<=8;omega,fun e=>absurd e m,h.i0,by have:=h.i1;show r.I<=8*((N r.H-1:Nat):Int)+(r.count+1);omega,h.O,h.thr⟩
      split
      ·split
       ·exact g
       ·rename_i v;unfold gI;rw[if_neg v];have D:=h.i1;have s:=h.few;have y:=h.i0;have n:r.I+1<100:=by omega
        refine GZ _ ⟨g.few,g.c0,g.c8,g.none,by show 0<=r.I+1;omega,by show r.I+1<=8*((N r.H-1:Nat):Int)+(r.count+1);omega,?_,g.thr⟩ (IU j _ _ (by show 0<=r.I+1;omega) n);intro o b;simp at b
        rcases b with b|rfl
        ·exact h.O o b
        ·exact⟨by omega,n⟩
      ·refine GZ _ g ?_;have:=IU j (r.i+1) 0 (by omega) (by omega);have e:({(cI p).1 with i:=r.i+1}:JR)={(cI p).1 with i:=r.i+1,label:=0}:=by
        have:=j.l0;rw[<- this]
       rw[e];exact this
   ·exact f
theorem Le(a:List (List UInt8)):∀r:Rd,Tidy r->Tidy (LZ r a).1:=by
 induction a with
 |nil=>intro r h;exact h
 |cons x q ih =>
  intro r h;simp only[LZ]
  split
  ·exact ih _ (VC _ h)
  ·exact VC _ h
theorem VD(l:List UInt8):∀t∈(aT l).1,0<=t.block/\t.block<100/\∀s∈t.S,NY s:=by
 have h:=Le (KD 10 l).dropLast Rd.zero Ld;unfold aT;simp only[]
 split
 ·split
  ·intro t a;simp at a
  ·exact h.thr
 ·intro t a;simp at a
end P
theorem QI(s:ByteArray)(w:World)(f:s.size<=8192):
  Calls prog 18 #[.string s] w fun e d=>∃tv,e=Y (.tuple #[.agg #[tv],C G (KM s.toList).2.1,C G (KM s.toList).2.2])/\(∃a m c,tv=.slice a m c)/\
   ((KM s.toList).2.1=0->∃g j,tv=JQ g (KM s.toList).1.length j/\bK d (M (L w)) tv (KM s.toList).1/\(KM s.toList).1.length<=4/\(∀t∈(KM s.toList).1,N t.S<3000)/\∀t∈(KM s.toList).1,0<=t.block/\t.block<100/\∀x∈t.S,P.NY x)/\Below (M (L w)) w d:=by
 unfold KM;rw[MS];by_cases h1:2000<s.size
 ·rw[if_pos h1];refine(Jx s w f h1).mono ?_;rintro e d ⟨rfl,b⟩;exact⟨_,Z,⟨_,_,_,Z⟩,fun h=>by simp at h,b⟩
 rw[if_neg h1]
 cases h2:(aT s.toList).2 != 0
 rotate_left
 ·refine(Jy s w f (by omega) h2).mono ?_;rintro e d ⟨rfl,b⟩;exact⟨_,Z,⟨_,_,_,Z⟩,fun h=>by simp at h,b⟩
 simp only[x2,if_false]
 cases h3:fV (aT s.toList).1 != 0
 rotate_left
 ·refine(Jz s w f (by omega) h2 h3).mono ?_;rintro e d ⟨rfl,b⟩;exact⟨_,Z,⟨_,_,_,Z⟩,fun h=>by simp at h,b⟩
 simp only[x2,if_false]
 cases h4:dN (aT s.toList).1 (aT s.toList).1 != 0
 rotate_left
 ·refine(J3 s w f (by omega) h2 h3 h4).mono ?_;rintro e d ⟨rfl,b⟩;exact⟨_,Z,⟨_,_,_,Z⟩,fun h=>by simp at h,b⟩
 simp only[x2,if_false]
 cases h5:hZ (aT s.toList).1
 rotate_left
 ·refine(J4 s w f (by omega) h2 h3 h4 h5).mono ?_;rintro e d ⟨rfl,b⟩;exact⟨_,Z,⟨_,_,_,Z⟩,fun h=>by simp at h,b⟩
 ·refine(J6 s w f (by omega) h2 h3 h4 h5).mono ?_;rintro e d ⟨g,j,rfl,i,b⟩;obtain⟨_,l,n⟩:=qW s.toList (by simpa using h2);exact⟨_,Z,⟨_,_,_,Z⟩,fun _=>⟨g,j,Z,i,l,fun t k=>by have:=n t k;rw[MS]at this;omega,VD s.toList⟩,b⟩
end Go.Proofs.YtlikcongbhhpfaaGreatDoor
