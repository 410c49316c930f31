import Derived.Test.YtlikcongbhhpfaaGreatDoorM49
set_option linter.unusedVariables false
set_option linter.unusedSimpArgs false
set_option maxHeartbeats 12800000
namespace Go.Proofs.YtlikcongbhhpfaaGreatDoor
open Go Go.RowKit Go.Proofs.Tryz P Q
set_option maxRecDepth 1000000
variable {ts:List JV}{B g j n pc pg:Nat}{w w0:World}{s:ByteArray}{od wy:Int}{ov:Value}{m:Mb}{a:Act}{K0 K8 P9:Act->World->Prop}{R0:Ending->World->Prop}{t:TypeId}{xs:List Value}
open List renaming length->N
open _root_.Array renaming size->M
open Go.World renaming heap->H
open Go.Value renaming int->Y,slice->I
open Go.IntKind renaming i64->C
open Go.Obj renaming cells->O
open Option renaming some->G,none->E
open Bool renaming false->U
open Go.Exit renaming inBlock->xF
open List renaming getElem?_eq_getElem->xR,getD_eq_getElem?_getD->x1,replicate->x2,length_append->x8,getElem?_map->x9
open Nat renaming le_refl->xW
open Go.RowKit.Below renaming refl->x0
open Go.World renaming news_of_block->x3,cell?->x7
open Go.Value renaming oneCell'->x4,int->x6
open Go.Act renaming eval->x5
theorem Tryz.infoSl:(prog.info? 39).map (fun i=>(i.zero,i.size,i.bytes))=G (G (I E 0 0),1,24):=by kernel_rfl
theorem Tryz.infoBy:(prog.info? 5).map (fun i=>(i.zero,i.size,i.bytes))=G (G (Y .u8 0),1,1):=by kernel_rfl
theorem Tryz.infoBo:(prog.info? 4).map (fun i=>(i.zero,i.size,i.bytes))=G (G (.bool U),1,1):=by kernel_rfl
theorem Tryz.infoIn:(prog.info? 3).map (fun i=>(i.zero,i.size,i.bytes))=G (G (Y C 0),1,8):=by kernel_rfl
def RG(row:List ByteArray)(t:JV):Prop:=gH qT (row.map ByteArray.toList) t.S/\∀x∈row,x.size<=2000
structure MJ(w0 w:World)(m:Mb)(ts:List JV)(j:Nat):Prop where
 b:MB w0 w m
 e:m.xl=m.vl/\m.xa=m.va/\m.xr=m.vr/\m.xw=m.vw
 n:m.na=j/\m.nw=j/\N m.y=j/\N m.gR=j
 bl:m.bl=(LQ ts).take j
 rw:∀k,k<j->RG (m.y.getD k []) (ts.getD k JZ)
structure SA(a:Act)(s:ByteArray)(wy od:Int)(ov:Value)(m:Mb)(j:Nat):Prop where
 sz:a.tmps.size=237
 df:a.defers=[]
 s0:gA a 0=.string s
 s1:gA a 1=Y C wy
 s2:gA a 2=Y C od
 s7:gA a 7=ov
 s11:gA a 11=.pointer (G ⟨m.gm,0,E⟩)
 s12:gA a 12=m.pv
 s13:gA a 13=m.vb
 s14:gA a 14=Y C (j:Int)
def Gv(x:ByteArray)(t:JV):Prop:=x.size<=2000/\∃y body,(KD 10 x.toList).dropLast=y::body/\N y=8/\((y.getD 7 0).toNat:Int)=48+t.block/\gH qT body t.S
theorem Vv(g L c:Nat)(h:1<=L)(e:L<=c):∃a,(∀b,(Instr.slice 39 (JQ g L c) (G (Y C 1)) E E).run prog b=.ok (I a (L-1) (c-1)) b)/\(0<L-1->a=G ⟨g,1,E⟩):=by
 refine⟨if c=1 then G ⟨g,0,E⟩else G ⟨g,1,E⟩,fun b=>?_,fun f=>if_neg (by omega)⟩;rw[run_slice_l (w:=b) (P:=prog) 39 (G ⟨g,0,E⟩) L c (by kernel_rfl) C 1 (by omega) (by omega),show(sizeOf (prog.elem 39)).run prog b=.ok 1 b by kernel_rfl,Result.andThen_ok];have d:(1:Int).toNat=1:=Z;rw[d];unfold sliced;rfl
theorem Vw(h:j<N ts):(LQ ts).take (j+1)=(LQ ts).take j++[(ts.getD j JZ).block]:=by
 have b:j<(LQ ts).length:=by simpa[LQ]using h
 rw[List.take_succ_eq_append_getElem b];have:=tU h;rw[x1,xR b]at this;rw[<- this];rfl
theorem Vx(hM:MB w0 w m)(he:m.xl=m.vl/\m.xa=m.va/\m.xw=m.vw)(hn:N m.y=j+1/\N m.gR=j+1/\m.na=j+1/\m.nw=j)(h4:j<4)(hf:SA a s wy od ov m j)(l:gA a 17=m.vr)(hN:JP (∀(a:Act) (w:World) (b:Mb),MB w0 w b->b.xl=b.vl/\b.xa=b.va/\b.xr=b.vr/\b.xw=b.vw->b.na=j+1/\b.nw=j+1/\N b.y=j+1/\N b.gR=j+1->b.y=m.y->b.bl=m.bl->b.gm=m.gm->b.pv=m.pv->b.ws=m.ws->SA a s wy od ov b j->K0 a w)):
  NN prog ((sB f5).drop 6) (xF 1 (Exit.then K0 (Exit.then P9 (xF 0 (Exit.then K8 (bodyPost prog f5 R0)))))) a w:=by
 obtain⟨t0,ti,V,X,aa⟩:=info_parts Tryz.infoBo;have i:=JO (And.intro ti (And.intro V (And.intro X aa)));obtain⟨_,_,c2,_,fz,al⟩:=hM.MF;have ai:=fz 2;obtain⟨ra,rc,p⟩:=yV hM.r;rw[p]at l;have ae:=JO p;have HM:=JO hM;have HE:=JO he;have v:=JO hn;clear ti V X aa hM he hn fz p;obtain⟨sz,df,s0,s1,s2,s7,J,L,S,T⟩:=hf;rw[OR sz df];simp only[fL,s0,s1,s2,s7,J,L,S,T,l];generalize gA a=f;clear s0 s1 s2 s7 J L S T sz df l;refine LG 6 (by rw[pM];decide) fun K A=>?_;have HK:=JO A;clear A
 conv=>arg 2;whnf
 go_wp2_with fail;refine HK.o _ _ ?_;have k:=HM.o.store 2 (I ra (N m.gR) rc) (m':={m with xr:=I ra (N m.gR) rc}) Z Z;generalize w.setCell ⟨m.gm,2,E⟩ (I ra (N m.gR) rc)=W at*;have ab:=JO k;obtain⟨_,_,_,c4,_,ah⟩:=k.MF;simp only[HE.o.2.2]at c4;have ak:=k.be.size;have ad:JP ((W.alloc (O #[.bool U] 4)).ownsRow (M (H w0)) 4 1 m.vw m.nw (PM (x2 m.nw U))):=k.t.alloc _;have ac:JP (∀z u,[Value.bool U][z]?=G u->(W.alloc (O #[.bool U] 4)).cell? ((⟨M (H W),0,E⟩:Addr).add z)=G u):=x3 (cs:=#[.bool U]) (t:=4) (fr:=(0,0)) (heap_alloc_new W _);have aj:m.nw<4:=by have:=v.o.2.2.2;omega
 have HB:JP (Below (M (H W)) W (W.alloc (O #[.bool U] 4))):=(x0 _ _).alloc (xW _) _;refine LG 7 (by rw[pM];decide) fun K A=>?_;have HK:JP (∀a w,K0 a w->K a w):=fun a w h=>A a w h
 clear A
 conv=>arg 2;whnf
 go_wp2_with(first|(at_builtin;refine wpList_append_lies _ Z (.tmp 104) (.tmp 105) 36 Z (M (H w0)) 4 t0 (.bool U) 1 1 underlying36 i.o.1 i.o.2.1 i.o.2.2.1 i.o.2.2.2 Z (by decide) _ m.nw _ Z (by exact ad.o) ⟨M (H W),0,E⟩ 1 1 [.bool U] Z Z (by exact ac.o) (by simp[x4]) (by decide) (by unfold maxLen;omega) (by omega) (by simp;omega) _ Z ?_;intro g5 c5 w5 d c D ag;have e:=JO (ab.o.uU HB.o c d);have x:=e.o.MF.2.2.2.2.1 4;have af:=e.o.MF.2.2.2.1;have F:=e.o.MF.2.2.2.2.2;dsimp only at x af F;clear d c D));refine HK.o _ _ ?_;exact hN.o _ _ _ (e.o.store 4 (JQ g5 (m.nw+1) c5) (m':={m with xr:=I ra (N m.gR) rc,vw:=JQ g5 (m.nw+1) c5,nw:=m.nw+1,xw:=JQ g5 (m.nw+1) c5}) Z Z) ⟨HE.o.1,HE.o.2.1,ae.o.symm,Z⟩ ⟨v.o.2.2.1,by show m.nw+1=_;rw[v.o.2.2.2],v.o.1,v.o.2.1⟩ Z Z Z Z Z ⟨Z,Z,Z,Z,Z,Z,Z,Z,Z,Z⟩
theorem Vy(k:MB w0 w m)(S:m.xl=m.vl/\m.xa=m.va/\m.xr=m.vr/\m.xw=m.vw)(T:N m.y=j+1/\N m.gR=j/\m.na=j+1/\m.nw=j)(h4:j<4)(hf:SA a s wy od ov m j)(hN:JP (∀(a:Act) (w:World) (b:Mb),MB w0 w b->b.xl=b.vl/\b.xa=b.va/\b.xr=b.vr/\b.xw=b.vw->b.na=j+1/\b.nw=j+1/\N b.y=j+1/\N b.gR=j+1->b.y=m.y->b.bl=m.bl->b.gm=m.gm->b.pv=m.pv->b.ws=m.ws->SA a s wy od ov b j->K0 a w)):
  NN prog ((sB f5).drop 5) (xF 1 (Exit.then K0 (Exit.then P9 (xF 0 (Exit.then K8 (bodyPost prog f5 R0)))))) a w:=by
 obtain⟨r0,ri,p,q,v⟩:=info_parts Tryz.infoRow;have e:=JO (And.intro ri (And.intro p (And.intro q v)));have ad:∀x,(Instr.makeSlice 31 (Y C 4) (Y C 4)).run prog x=.ok (JQ (M (H x)) 4 4) (x.alloc (O #[Y C 0,Y C 0,Y C 0,Y C 0] 3)):=fun x=>by
  have:=run_make_row' 31 3 (Y C 0) 8 underlying31 Tryz.infoIn Z C C 4 (by omega) (by omega) x;rw[show madeCells #[x6 C 0] 4=#[Y C 0,Y C 0,Y C 0,Y C 0]by kernel_rfl]at this;exact this
 obtain⟨_,_,c2,_,_,ae⟩:=k.MF;rw[S.2.2.1]at c2;have hs:=k.be.size;have HM:=JO k;have A:=JO S;have F:=JO T;have ac:N m.gR<4:=by have:=T.2.1;omega
 have L:JP (((w.drew.alloc (O #[Y C 0,Y C 0,Y C 0,Y C 0] 3)).alloc (O #[JQ (M (H w)) 4 4] 31)).ownsRow (M (H w0)) 31 1 m.vr (N m.gR) (m.gR.map fun g=>JQ g 4 4)):=((k.r.drew).alloc _).alloc _;have J:JP (∀z u,[JQ (M (H w)) 4 4][z]?=G u->((w.drew.alloc (O #[Y C 0,Y C 0,Y C 0,Y C 0] 3)).alloc (O #[JQ (M (H w)) 4 4] 31)).cell? ((⟨M (H w)+1,0,E⟩:Addr).add z)=G u):=x3 (cs:=#[JQ (M (H w)) 4 4]) (t:=31) (fr:=(0,0)) (by have:=heap_alloc_new (w.drew.alloc (O #[Y C 0,Y C 0,Y C 0,Y C 0] 3)) (O #[JQ (M (H w)) 4 4] 31);simpa using this);have HB:JP (Below (M (H w)) w ((w.drew.alloc (O #[Y C 0,Y C 0,Y C 0,Y C 0] 3)).alloc (O #[JQ (M (H w)) 4 4] 31))):=(((x0 _ _).drew).alloc (xW _) _).alloc (by simp) _;have HG:JP (((w.drew.alloc (O #[Y C 0,Y C 0,Y C 0,Y C 0] 3)).alloc (O #[JQ (M (H w)) 4 4] 31)).heap[M (H w)]?=G (O #[Y C 0,Y C 0,Y C 0,Y C 0] 3 (0,0))):=by
  unfold JP;rw[Below.heap_alloc _ _ _ (by simp)];have:=heap_alloc_new w.drew (O #[Y C 0,Y C 0,Y C 0,Y C 0] 3);exact this
 clear ri p q v k S T;obtain⟨sz,df,s0,s1,s2,s7,V,W,X,aa⟩:=hf;rw[OR sz df];simp only[fL,s0,s1,s2,s7,V,W,X,aa];generalize gA a=f;refine LG 5 (by rw[pM];decide) fun K hK=>?_;have HK:=JO hK;clear hK
 conv=>arg 2;whnf
 go_wp2_with fail;go_region_law(refine step_append_lies _ Z (.tmp 92) (.tmp 94) 27 Z (M (H w0)) 31 r0 (I E 0 0) 1 24 underlying27 e.o.1 e.o.2.1 e.o.2.2.1 e.o.2.2.2 Z (by decide) m.vr (N m.gR) _ (by simp[x5]) (by exact L.o) ⟨M (H w)+1,0,E⟩ 1 1 [JQ (M (H w)) 4 4] (by simp[x5]) Z (by exact J.o) (by simp[x4]) (by decide) (by unfold maxLen;omega) (by omega) (by simp;omega) (M (H w)+2) (by simp) ?_;intro g3 c3 w3 d c l ab)
 all_goals
  have D:=JO (HM.o.wI HB.o (xW _) HG.o c d);clear d c l;go_wp2_with fail;refine HK.o _ _ ?_;exact Vx D.o ⟨A.o.1,A.o.2.1,A.o.2.2.2⟩ ⟨F.o.1,by show(m.gR++[_]).length=_;rw[x8,F.o.2.1];rfl,F.o.2.2⟩ h4 ⟨Z,Z,Z,Z,Z,Z,Z,Z,Z,Z⟩ Z hN
theorem Vz(hM:MB w0 w m)(he:m.xa=m.va/\m.xr=m.vr/\m.xw=m.vw)(hn:N m.y=j+1/\N m.gR=j/\m.na=j/\m.nw=j)(h4:j<4)(hf:SA a s wy od ov m j)(q:gA a 16=m.vl)(hN:JP (∀(a:Act) (w:World) (b:Mb),MB w0 w b->b.xl=b.vl/\b.xa=b.va/\b.xr=b.vr/\b.xw=b.vw->b.na=j+1/\b.nw=j+1/\N b.y=j+1/\N b.gR=j+1->b.y=m.y->b.bl=m.bl->b.gm=m.gm->b.pv=m.pv->b.ws=m.ws->SA a s wy od ov b j->K0 a w)):
  NN prog ((sB f5).drop 3) (xF 1 (Exit.then K0 (Exit.then P9 (xF 0 (Exit.then K8 (bodyPost prog f5 R0)))))) a w:=by
 obtain⟨n0,ni,L,S,T⟩:=info_parts Tryz.infoIn;have k:=JO (And.intro ni (And.intro L (And.intro S T)));obtain⟨c0,_,_,_,fz,ai⟩:=hM.MF;have ah:=fz 0;obtain⟨ra,rc,r⟩:=yV hM.l;rw[r]at q;have af:=JO r;have HM:=JO hM;have HE:=JO he;have A:=JO hn;clear ni L S T hM he hn fz r;obtain⟨sz,df,s0,s1,s2,s7,V,X,aa,ab⟩:=hf;rw[OR sz df];simp only[fL,s0,s1,s2,s7,V,X,aa,ab,q];generalize gA a=f;clear s0 s1 s2 s7 V X aa ab sz df q;refine LG 3 (by rw[pM];decide) fun K F=>?_;have x:=JO F;clear F
 conv=>arg 2;whnf
 go_wp2_with fail;refine x.o _ _ ?_;clear x;have d:=HM.o.store 0 (I ra (N m.y) rc) (m':={m with xl:=I ra (N m.y) rc}) Z Z;generalize w.setCell ⟨m.gm,0,E⟩ (I ra (N m.y) rc)=W at*;have ac:=JO d;obtain⟨_,c4,_,_,_,ak⟩:=d.MF;simp only[HE.o.1]at c4;have am:=d.be.size;have ae:JP ((W.alloc (O #[Y C 0] 3)).ownsRow (M (H w0)) 3 1 m.va m.na (PK (x2 m.na 0))):=d.a.alloc _;have ad:JP (∀z u,[x6 C 0][z]?=G u->(W.alloc (O #[Y C 0] 3)).cell? ((⟨M (H W),0,E⟩:Addr).add z)=G u):=x3 (cs:=#[Y C 0]) (t:=3) (fr:=(0,0)) (heap_alloc_new W _);have al:m.na<4:=by have:=A.o.2.2.1;omega
 have HB:JP (Below (M (H W)) W (W.alloc (O #[Y C 0] 3))):=(x0 _ _).alloc (xW _) _;clear d HM c0 ah ai;refine LG 4 (by rw[pM];decide) fun K F=>?_;have x:=JO F;clear F
 conv=>arg 2;whnf
 go_wp2_with(first|(at_builtin;refine wpList_append_lies _ Z (.tmp 84) (.tmp 85) 31 Z (M (H w0)) 3 n0 (Y C 0) 1 8 underlying31 k.o.1 k.o.2.1 k.o.2.2.1 k.o.2.2.2 Z (by decide) _ m.na _ Z (by exact ae.o) ⟨M (H W),0,E⟩ 1 1 [Y C 0] Z Z (by exact ad.o) (by simp[x4]) (by decide) (by unfold maxLen;omega) (by omega) (by simp;omega) _ Z ?_;intro g5 c5 w5 e c p aj;have i:=JO (ac.o.wP HB.o c e p);have D:=i.o.MF.2.2.2.2.1 1;have ag:=i.o.MF.2.1;have J:=i.o.MF.2.2.2.2.2;dsimp only at D ag J;clear e c p));refine x.o _ _ ?_;clear x;exact Vy (i.o.store 1 (JQ g5 (m.na+1) c5) (m':={m with xl:=I ra (N m.y) rc,va:=JQ g5 (m.na+1) c5,na:=m.na+1,xa:=JQ g5 (m.na+1) c5}) Z Z) ⟨af.o.symm,Z,HE.o.2.1,HE.o.2.2⟩ ⟨A.o.1,A.o.2.1,by show m.na+1=_;rw[A.o.2.2.1],A.o.2.2.2⟩ h4 ⟨Z,Z,Z,Z,Z,Z,Z,Z,Z,Z⟩ hN
theorem V0(q:MB w0 w m)(W:m.xl=m.vl/\m.xa=m.va/\m.xr=m.vr/\m.xw=m.vw)(hn:N m.y=j/\N m.gR=j/\m.na=j/\m.nw=j)(h4:j<4)(hf:SA a s wy od ov m j){lg lc:Nat}{lr:List ByteArray}(V:gA a 15=JQ lg (N lr+1) lc){sa:Option Addr}(X:∀wx,(Instr.slice 39 (JQ lg (N lr+1) lc) (G (Y C 1)) E E).run prog wx=.ok (I sa (N lr) (lc-1)) wx)(hX:JP (QB w (I sa (N lr) (lc-1)) lr))(hN:JP (∀(a:Act) (w:World) (b:Mb),MB w0 w b->b.xl=b.vl/\b.xa=b.va/\b.xr=b.vr/\b.xw=b.vw->b.na=j+1/\b.nw=j+1/\N b.y=j+1/\N b.gR=j+1->b.y=m.y++[lr]->b.bl=m.bl->b.gm=m.gm->b.pv=m.pv->b.ws=m.ws->SA a s wy od ov b j->K0 a w)):
  NN prog ((sB f5).drop 2) (xF 1 (Exit.then K0 (Exit.then P9 (xF 0 (Exit.then K8 (bodyPost prog f5 R0)))))) a w:=by
 obtain⟨l0,li,aa,ab,ac⟩:=info_parts Tryz.infoSl;have k:=JO (And.intro li (And.intro aa (And.intro ab ac)));obtain⟨c0,_,_,_,_,aj⟩:=q.MF;rw[W.1]at c0;have hs:=q.be.size;obtain⟨v,A,D,F⟩:=hn;have L:=JO (And.intro v (And.intro A (And.intro D F)));have HE:=JO W;have HM:=JO q;obtain⟨d,p⟩:∃x,lc-1=x:=⟨_,Z⟩;rw[p]at X hX;have T:JP ((w.drew.alloc (O #[I sa (N lr) d] 39)).ownsRow (M (H w0)) 39 1 m.vl (N m.y) m.lv):=(q.l.drew).alloc _;have S:JP (∀z u,[Value.slice sa (N lr) d][z]?=G u->(w.drew.alloc (O #[I sa (N lr) d] 39)).cell? ((⟨M (H w),0,E⟩:Addr).add z)=G u):=x3 (cs:=#[I sa (N lr) d]) (t:=39) (fr:=(0,0)) (by have:=heap_alloc_new w.drew (O #[I sa (N lr) d] 39);simpa using this);obtain⟨sz,df,s0,s1,s2,s7,ad,ae,af,ag⟩:=hf;clear p q v A D F W;rw[OR sz df];simp only[fL,s0,s1,s2,s7,ad,ae,af,ag,V];generalize gA a=f;refine LG 2 (by rw[pM];decide) fun K hK=>?_;have HK:=JO hK;clear hK
 conv=>arg 2;whnf
 go_wp2_with fail;have ai:N m.y<4:=by have:=L.o.1;omega
 go_region_law(refine step_append_lies _ Z (.tmp 71) (.tmp 74) 35 Z (M (H w0)) 39 l0 (I E 0 0) 1 24 underlying35 k.o.1 k.o.2.1 k.o.2.2.1 k.o.2.2.2 Z (by decide) m.vl (N m.y) m.lv (by simp[x5]) (by exact T.o) ⟨M (H w),0,E⟩ 1 1 [I sa (N lr) d] (by simp[x5]) Z (by exact S.o) (by simp[x4]) (by decide) (by unfold maxLen;omega) (by omega) (by simp;omega) (M (H w)+1) (by simp) ?_;intro g3 c3 w3 i c r ah)
 all_goals
  have J:=JO (HM.o.xC (((x0 _ _).drew).alloc (xW _) _) c i hX.o);clear i c r;go_wp2_with fail;refine HK.o _ _ ?_;exact Vz J.o HE.o.2 ⟨by show(m.y++[_]).length=_;rw[x8,L.o.1];rfl,L.o.2⟩ h4 ⟨Z,Z,Z,Z,Z,Z,Z,Z,Z,Z⟩ Z hN
theorem Wa(hM:MJ w0 w m ts j)(hf:SA a s wy od ov m j)(hj:j<N ts)(h4:N ts<=4)(af:m.pv=JQ pg (N m.ws) pc)(aV:N m.ws=N ts)(hP:JP (Gv (m.ws.getD j ⟨#[]⟩) (ts.getD j JZ)))(hN:JP (∀(a:Act) (w:World) (m':Mb),MJ w0 w m' ts (j+1)->m'.gm=m.gm->m'.pv=m.pv->m'.ws=m.ws->SA a s wy od ov m' j->K0 a w)):
  NN prog ((sB f5).drop 0) (xF 1 (Exit.then K0 (Exit.then P9 (xF 0 (Exit.then K8 (bodyPost prog f5 R0)))))) a w:=by
 obtain⟨b0,bi,aL,aM,aN⟩:=info_parts Tryz.infoBy;have J:=JO (And.intro bi (And.intro aL (And.intro aM aN)));obtain⟨az,aA⟩:=hP.o;have av:j<N m.ws:=by omega
 have aQ:m.ws.getD j ⟨#[]⟩=m.ws[j]:=by rw[x1,xR av];rfl
 rw[aQ]at az aA;have cp:w.cell? ⟨pg,j,E⟩=G (.string m.ws[j]):=by
  have h1:=hM.b.p;rw[af]at h1;rw[h1.cellAt j (by omega),x9,xR av];rfl
 have aZ:=hM.b.be.size;generalize hx:m.ws[j]=x at*;have am:=JO aA;have F:=JO hM;have aH:=JO af;obtain⟨sz,df,s0,s1,s2,s7,aD,ah,aE,aF⟩:=hf;rw[af]at ah;rw[OR sz df];simp only[fL,s0,s1,s2,s7,aD,ah,aE,aF];generalize gA a=f;clear s0 s1 s2 s7 aD ah aE aF sz df;refine LG 0 (by rw[pM];decide) fun K hK=>?_;have HK:=JO hK;clear hK
 conv=>arg 2;whnf
 go_wp2_with(first|(go_at_call 10;refine(SV x _ (by omega)).mono ?_;rintro e S ⟨lv,ls,rfl,A,aw,aa,aq⟩;have ab:=JO A;have aj:=JO aw;have v:=JO aa;have B1:=JO aq;clear A aw aa aq;dsimp only));refine HK.o _ _ ?_;clear HK;obtain⟨y,aX,ag,aW,aC,T⟩:=am.o;obtain⟨r,q,aR⟩:∃r q,ls=r::q:=by
  cases ls with
  |nil=>have:=ab.o;rw[ag]at this;cases this
  |cons a b=>exact⟨a,b,Z⟩
 subst aR;have A:=ab.o;rw[ag,List.map_cons]at A;injection A with hlx hlr
 have bb:r.size=8:=by rw[<- MS,hlx];exact aW
 have ai:JP ((r[7].toNat:Int)=48+(ts.getD j JZ).block):=by
  unfold JP;rw[<- aC,<- hlx,jF,x1,xR (by rw[Array.length_toList];show 7<r.size;omega)];rfl
 have aI:JP (RG q (ts.getD j JZ)):=⟨by rw[hlr];exact T,fun z hz=>Nat.le_trans (aj.o z (List.mem_cons_of_mem _ hz)) az⟩;have ad:=F.o.b.X B1.o;obtain⟨lg,L,aS,ae⟩:∃lg L,lv=JQ lg (N q+1) L/\N q+1<=L:=by
  rcases v.o.2 with⟨_,e1⟩|⟨g,c2,ao,e1,_,_,e2,_⟩
  ·simp at e1
  ·exact⟨g,c2,by simpa using e1,by simpa using e2⟩
 subst aS;have c0:S.cell? ⟨lg,0,E⟩=G (.string r):=by
  rw[v.o.cellAt 0 (by simp)];rfl
 obtain⟨sa,aP,aU⟩:=Vv lg (N q+1) L (by omega) ae;have an:JP (QB S (I sa (N q+1-1) (L-1)) q):=by
  refine⟨sa,L-1,Z,fun hp=>?_⟩;obtain⟨ao,V⟩:=gE v.o (k:=lg) Z;refine⟨lg,1,ao,aU (by omega),V,fun i hi=>?_⟩;have h9:=v.o.cellAt (1+i) (by simp;omega);rw[x7]at h9;simp only[V,Option.isSome_none,Bool.false_eq_true,if_false]at h9;rw[h9,Nat.add_comm 1 i];simp[hi]
 have aT:=B1.o.size;have aB:N m.y=j:=F.o.n.2.2.1;have ar:N m.bl=j:=by rw[F.o.bl,List.length_take];simp[LQ];omega
 have au:N m.gR=j:=F.o.n.2.2.2;have ax:m.na=j:=F.o.n.1;have ay:m.nw=j:=F.o.n.2.1;have HE:=JO F.o.e;have aG:=JO F.o.bl;have aJ:=JO F.o.rw;have HN:=JO (And.intro aB (And.intro ar (And.intro au (And.intro ax ay))));clear hlx hlr T aC ag ab aj v am;have al:JP ((S.alloc (O #[Y .u8 (r[7].toNat:Int)] 5)).ownsRow (M (H w0)) 5 1 m.vb (N m.bl) (m.bl.map fun x=>Y .u8 (48+x))):=ad.b.alloc _;have ak:JP (∀z u,[x6 .u8 (r[7].toNat:Int)][z]?=G u->(S.alloc (O #[Y .u8 (r[7].toNat:Int)] 5)).cell? ((⟨M (H S),0,E⟩:Addr).add z)=G u):=x3 (cs:=#[Y .u8 (r[7].toNat:Int)]) (t:=5) (fr:=(0,0)) (heap_alloc_new S _);have ac:=JO ad;have ba:N m.bl<5:=by omega
 clear ad aB au ax ay ar;refine LG 1 (by rw[pM];decide) fun K hK=>?_;have HK:=JO hK;clear hK
 conv=>arg 2;whnf
 go_wp2_with(first|(at_builtin;refine wpList_append_lies _ Z (.tmp 61) (.tmp 66) 41 Z (M (H w0)) 5 b0 (Y .u8 0) 1 1 underlying41 J.o.1 J.o.2.1 J.o.2.2.1 J.o.2.2.2 Z (by decide) _ (N m.bl) _ Z (by exact al.o) ⟨M (H S),0,E⟩ 1 1 [Y .u8 (r[7].toNat:Int)] Z Z (by exact ak.o) (by simp[x4]) (by decide) (by unfold maxLen;omega) (by omega) (by simp;omega) _ Z ?_;intro g2 c2 w2 D d ap aY));refine HK.o _ _ ?_;clear HK;have aO:=ac.o.vF (W:=S.alloc (O #[Y .u8 (r[7].toNat:Int)] 5)) ((x0 _ _).alloc (xW _) _) d (x:=(ts.getD j JZ).block) (by rw[<- ai.o];exact D);have aK:JP (QB w2 (I sa (N q+1-1) (L-1)) q):=an.o.kt (sY ac.o.b (W:=S.alloc (O #[Y .u8 (r[7].toNat:Int)] 5)) ((x0 _ _).alloc (xW _) _) d (by decide));clear al ak D d ap c0 ai an ac aT F B1 cp;refine V0 (lr:=q) (lg:=lg) (lc:=L) (sa:=sa) aO HE.o ⟨HN.o.1,HN.o.2.2⟩ (by omega) ⟨Z,Z,Z,Z,Z,Z,Z,by show _=m.pv;rw[aH.o,aV];rfl,Z,Z⟩ Z aP aK (JO fun a w m' h1 h2 h3 h4 h5 h6 h7 h8 h9=>hN.o a w m' ⟨h1,h2,h3,?_,fun k hk=>?_⟩ h6 h7 h8 h9)
 ·rw[h5];show m.bl++_=_;rw[Vw hj,aG.o]
 ·rw[h4];show RG ((m.y++[q]).getD k []) _;rw[ET _ (by rw[HN.o.1];exact hk),HN.o.1];by_cases c:k=j
  ·rw[if_pos c,c];exact aI.o
  ·rw[if_neg c];exact aJ.o k (by omega)
theorem stA(y:MJ w0 w m ts 0)(z:SA a s wy od ov m 0)(h4:N ts<=4)(D:m.pv=JQ pg (N m.ws) pc)(F:N m.ws=N ts)(hP:JP (∀k,k<N ts->Gv (m.ws.getD k ⟨#[]⟩) (ts.getD k JZ)))(h:JP (∀(a:Act) (w:World) (c:Mb),MJ w0 w c ts (N ts)->c.pv=m.pv->SA a s wy od ov c (N ts)->NN prog ((sF f5).drop 9) (bodyPost prog f5 R0) a w)):
  NN prog ((sF f5).drop 8) (bodyPost prog f5 R0) a w:=by
 refine LG 8 (by rw[OK];decide) fun K b=>?_;have S:=JO b;clear b;rw[sF8];refine wp_block (wp_loop (fun a w=>∃(j:Nat) (c:Mb),j<=N ts/\MJ w0 w c ts j/\SA a s wy od ov c j/\c.pv=m.pv/\c.ws=m.ws) (fun a _=>N ts-(intOf (gA a 14)).toNat) ⟨0,m,Nat.zero_le _,y,z,Z,Z⟩ fun a w hL=>?_);clear z y;obtain⟨j,c,hj,y,z,W,L⟩:=hL;refine PR _ _ _ _ ?_;show NN prog ((sA f5).drop 0) _ a w;have X:N ts-(intOf (gA a 14)).toNat=N ts-j:=by rw[z.s14];simp[intOf]
 obtain⟨sz,V,s0,s1,s2,s7,v,i,x,q⟩:=z;have d:c.pv=JQ pg (N c.ws) pc:=by rw[W,L,D]
 have e:N c.ws=N ts:=by rw[L,F]
 rw[d,e]at i;have p:=JO d;have HM:=JO y;have J:=JO (And.intro W L);have u:=JO e;clear d y W L e D F;refine LG 0 (by rw[uH];decide) fun K b=>?_;have l:=JO b;clear b;rw[OR sz V];simp only[fL,s0,s1,s2,s7,v,i,x,q];generalize gA a=f
 conv=>arg 2;whnf
 by_cases hlt:j<N ts
 ·have A:(j:Int)<(N ts:Int):=by omega
  go_wp2_with fail;refine l.o _ _ ?_;clear l;refine LG 1 (by rw[uH];decide) fun K b=>?_;have l:=JO b;clear b
  conv=>arg 2;whnf
  go_wp2_with fail;refine l.o _ _ ?_;clear l;refine LG 2 (by rw[uH];decide) fun K b=>?_;have T:=JO b;clear b;rw[sA2];refine wp_block (PR _ _ _ _ ?_);show NN prog ((sB f5).drop 0) _ _ w;refine Wa (s:=s) (wy:=wy) (od:=od) (ov:=ov) (j:=j) (m:=c) (pg:=pg) (pc:=pc) HM.o ⟨Z,Z,Z,Z,Z,Z,Z,by rw[p.o,u.o];rfl,Z,Z⟩ hlt h4 p.o u.o (by rw[J.o.2];exact JO (hP.o j hlt)) (JO fun a w m2 g1 g2 g3 g4 g5=>T.o _ _ ?_);have r:=JO (g3.trans p.o);obtain⟨sz,V,s0,s1,s2,s7,v,i,x,q⟩:=g5;rw[r.o]at i;rw[OR sz V];simp only[fL,s0,s1,s2,s7,v,i,x,q];generalize gA a=f;refine LG 3 (by rw[uH];decide) fun K b=>?_;have l:=JO b;clear b
  conv=>arg 2;whnf
  go_wp2_with fail;refine l.o _ _ ?_;clear l;refine⟨⟨j+1,m2,hlt,g1,⟨Z,Z,Z,Z,Z,Z,by rw[g2];rfl,by rw[r.o];rfl,Z,by push_cast;rfl⟩,g3.trans J.o.1,g4.trans J.o.2⟩,?_⟩;rw[X];show N ts-((j:Int)+1).toNat<N ts-j;omega
 ·obtain rfl:j=N ts:=by omega
  have A:¬(N ts:Int)<(N ts:Int):=by omega
  go_wp2_with fail;refine l.o _ _ ?_;clear l;refine LG 1 (by rw[uH];decide) fun K b=>?_;clear b
  conv=>arg 2;whnf
  go_wp2_with fail;refine S.o _ _ ?_;exact h.o _ _ c HM.o J.o.1 ⟨Z,Z,Z,Z,Z,Z,Z,by rw[p.o,u.o];rfl,Z,Z⟩
theorem IH{c:Nat}(h:w.ownsRow B t 1 (JQ g n c) n xs):CA w g xs :=
 ⟨fun i u b=>by
  have d:=(List.getElem?_eq_some_iff.1 b).1;rw[h.cellAt i (by have:=JB h;omega),b],fun i _=>h.frozenAt i,(h.lt g Z).2⟩
theorem Gw{b:Array Value}(h:w.heap[g]?=G (O b t (0,0))):CA w g b.toList :=
 ⟨fun i u c=>by simp[x7,h];simpa using c,fun i _=>by simp[World.frozen?,h],(Array.getElem?_eq_some_iff.1 h).1⟩
theorem QR{v:Value}(h:w.ownsRow B t 1 v n xs)(f:0<n):∃g c,v=JQ g n c/\B<=g:=by
 rcases h.2 with⟨_,e⟩|⟨g,c,b,e,d,_⟩
 ·omega
 ·exact⟨g,c,e,d⟩
theorem MJ.sk(h:MJ w0 w m ts (N ts))(hn:0<N ts):∃K:Sk,K.n=N ts/\K.gm=m.gm/\MK w K m.y (x2 (N ts) 0) (x2 (N ts) [0,0,0,0]) [0,0,0] (x2 (N ts) U)/\(∀g,K.W g->M (H w0)<=g)/\(∀k∈m.pv.ownBlock,¬K.W k)/\∃D cb,m.vb=JQ D (N ts) cb/\BlAt w K.W D (LQ ts):=by
 obtain⟨b,⟨e1,e2,e3,e4⟩,⟨n1,n2,n3,n4⟩,af,ak⟩:=h;have ab:m.bl=LQ ts:=by rw[af];exact List.take_of_length_le (by simp[LQ])
 have ag:N m.bl=N ts:=by rw[ab];simp[LQ]
 have S:=b.l;have V:=b.a;have hr:=b.r;have ht:=b.t;have hb:=b.b;rw[n3]at S;rw[n1]at V;rw[n4]at hr;rw[n2]at ht;rw[ag]at hb;obtain⟨gl,cl,vl,_⟩:=QR S hn;obtain⟨T,ca,va,ba⟩:=QR V hn;obtain⟨gr,cr,vr,_⟩:=QR hr hn;obtain⟨gw,cw,vw,bw⟩:=QR ht hn;obtain⟨D,cb,vb,_⟩:=QR hb hn;have aa:=b.av;have X:=b.ar;rw[va]at V aa X;rw[vl]at S;rw[vr]at hr;rw[vw]at ht;rw[vb]at hb;have q:∀k,k<N ts->m.gR.getD k 0∈m.gR:=fun k f=>QA _ _ _ (by omega)
 obtain⟨tl,ae⟩:=gE S (k:=gl) Z;obtain⟨ta,ac⟩:=gE V (k:=T) Z;obtain⟨tr,aj⟩:=gE hr (k:=gr) Z;obtain⟨tw,A⟩:=gE ht (k:=gw) Z;obtain⟨tb,ad⟩:=gE hb (k:=D) Z;have ne:∀{x y:Nat} {c d:Array Value} {s t:TypeId},w.heap[x]?=G (O c s (0,0))->w.heap[y]?=G (O d t (0,0))->s≠t->x≠y:=fun z F ai e=>by
  rw[e,F]at z;simp at z;exact ai z.2.symm
 have L:∀{x:Nat} {c:Array Value} {s:TypeId},w.heap[x]?=G (O c s (0,0))->s≠3->s≠4->¬(x=T\/x=m.gv\/x=gw\/∃k,k<N ts/\x=m.gR.getD k 0):=fun z F h3=>by
  rintro(e|e|e|⟨k,f,e⟩)
  ·exact ne z ac F e
  ·exact ne z b.v F e
  ·exact ne z A h3 e
  ·exact ne z (b.rs _ (q k f)) F e
 refine⟨⟨N ts,m.gm,gl,T,gr,m.gv,gw,cl,ca,cr,cw,fun k=>m.gR.getD k 0⟩,Z,Z,⟨⟨L b.mm (by decide) (by decide),L ae (by decide) (by decide),L aj (by decide) (by decide),fun(e:T=m.gv)=>aa (by rw[e];rfl),ne ac A (by decide),ne b.v A (by decide),fun k f=>⟨fun(e:m.gR.getD k 0=T)=>X _ (q k f) (by rw[e];rfl),fun(e:m.gR.getD k 0=m.gv)=>b.rv (by rw[<- e];exact q k f),ne (b.rs _ (q k f)) A (by decide)⟩,fun k j (f:k<N ts) (hj:j<N ts) e=>?_⟩,?_,n3,by simp,by simp,Z,by simp,fun k f=>?_,(Array.getElem?_eq_some_iff.1 ae).1,IH V,?_,fun k f=>?_,Gw b.v,IH ht⟩,?_,fun k f=>?_,D,cb,vb,fun i hi=>?_,(Array.getElem?_eq_some_iff.1 ad).1,L ad (by decide) (by decide)⟩
 ·have u:k<N m.gR:=by omega
  have ah:j<N m.gR:=by omega
  have e:m.gR.getD k 0=m.gR.getD j 0:=e;rw[PP _ _ _ u,PP _ _ _ ah]at e;exact(List.getElem_inj b.nd).1 e
 ·have:=b.mm;rw[e1,e2,e3,e4,vl,va,vr,vw]at this;exact this
 ·have u:k<N m.lv:=by have:=JB S;omega
  refine⟨m.lv.getD k undef,?_,?_⟩
  ·have J:=S.cellAt k (by omega);show w.cell? ⟨gl,k,E⟩=_;rw[J,x1,xR u];rfl
  ·obtain⟨a,c,e,hq⟩:=b.ll k (by omega);rw[PP _ _ _ f]at e hq;refine⟨a,c,e,fun hp=>?_⟩;obtain⟨g,o,cs,q1,q2,q3⟩:=hq hp;exact⟨g,o,q1,fun i hi=>by simp[x7,q2,q3 i hi],(Array.getElem?_eq_some_iff.1 q2).1,L q2 (by decide) (by decide)⟩
 ·have J:=IH hr;have e:(m.gR.map fun g=>JQ g 4 4)=(List.range (N ts)).map fun k=>JQ (m.gR.getD k 0) 4 4:=by
   refine List.ext_getElem (by simp[n4]) fun k z F=>?_
   simp only[List.getElem_map,List.getElem_range];rw[PP _ _ _ (by simpa using z)]
  rw[e]at J;exact J
 ·have u:k<N ts:=by simpa using f
  refine⟨by simp,?_⟩;have:=Gw (b.rs _ (q k u));rw[List.getElem_replicate];exact this
 ·rintro g (e|e|e|⟨k,f,e⟩)
  ·rw[e];exact ba
  ·rw[e];exact b.gb.2.1
  ·rw[e];exact bw
  ·rw[e];exact b.gb.2.2 _ (q k f)
 ·obtain⟨c,hc⟩:=gE b.p (Option.mem_def.1 f);exact L hc (by decide) (by decide)
 ·have J:=hb.cellAt i (by have:(LQ ts).length=N ts:=(by simp[LQ]);omega);rw[J,ab,x9,xR hi,x1,xR hi];rfl
end Go.Proofs.YtlikcongbhhpfaaGreatDoor
