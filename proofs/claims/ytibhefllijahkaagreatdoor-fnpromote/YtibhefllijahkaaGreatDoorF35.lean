/- A part of the proof. -/
import Derived.Test.YtibhefllijahkaaGreatDoorF34
set_option linter.unusedVariables false
set_option maxRecDepth 20000
set_option maxHeartbeats 4000000
namespace Go.Proofs.YtibhefllijahkaaGreatDoor
noncomputable section
open Go.RowKit
set_option linter.unusedSimpArgs false
set_option maxRecDepth 20000
set_option maxHeartbeats 3200000
attribute [-go_sem] BP Bj
attribute [local go_sem] Po Pp SG S6 S7 PT PU PV Rw S5 Rz Ry Rx OC
def Ex(s:At)(p:A8):At×Int×Int:=if nV s 8=0\/p.n=0 then(nS (nS (nS s 8) 14) 4,LS (nS s 8),nV (nS (nS s 8) 14) 4)else(nS (nS s 8) p.n,nV (nS s 8) p.n,(p.s (nV (nS s 8) p.n).toNat).birth)
def qg:AE:=AU (fun q:At×A8=>(true,srV q.1) :: [poT q.2.n q.2.s q.2.hn q.2.h]) (fun q=>B9 q.1/\q.2.n<=1000000) (fun q=>[(true,srV (Ex q.1 q.2).1),pT (Ex q.1 q.2).2.1 (Ex q.1 q.2).2.2])
theorem zFq(s:At)(p:A8):qg ((true,srV s) :: [poT p.n p.s p.hn p.h])=some (B9 s/\p.n<=1000000,[(true,srV (Ex s p).1),pT (Ex s p).2.1 (Ex s p).2.2]):=Ac (fun l=>(GP (nth l 0),CY (nth l 1 0) (nth l 1 1))) (fun _=>rfl) (s,p)
theorem zDv:Cy Tryz.prog 87 qg:=by
 refine F2 Ah (GOk.ptr IQ (AA Tryz.func84 rfl rfl) (GOk.ptr PN (AA Tryz.func86 rfl rfl) (GOk.ptr TK (AA Tryz.func144 rfl rfl) GOk.nil))) mixed Tryz.func87 rfl Tryz.ntmps87 Tryz.results87 6 ?_;rintro⟨s,p⟩ hs;obtain⟨hs,d⟩:B9 s/\p.n<=1000000:=hs;have a:=Bm hs 8;have c:=Bm a 14;refine⟨by simp,?_⟩;by_cases b:nV s 8=0
 ·simp[go_sem,DY,Ek,MI,hs,a,c,b,Ex,C9]
 by_cases hn:p.n=0
 ·simp[go_sem,DY,Ek,MI,hs,a,c,b,hn,Ex,C9]
 have hv:=JL (nS s 8) (m:=p.n) (by omega);simp[go_sem,DY,Ek,MI,hs,a,c,b,hn,Ex,C9];exact⟨by omega,hv.1,by omega⟩
def stepAt(s:At)(W:A5)(x:ByteArray)(a:Int):Nat->At×BV
 | 0=>(s,EH W x)
 | 1=>(FW s,Ib W x (IN s))
 | 2 | 3 | 4=>(nS s 3,J3 W x ([⟨#[115,49]⟩,⟨#[115,50]⟩,⟨#[115,51]⟩].getD (nV s 3).toNat ⟨#[]⟩))
 | 5=>(s,sdE W a)
 | 6 | 7=>(nS s 3,L2 W a ([⟨#[98]⟩,⟨#[99]⟩,⟨#[100]⟩].getD (nV s 3).toNat ⟨#[]⟩))
 | 8=>(s,Ih W x)
 | 9=>(s,Ic W x)
 | 10=>(s,DX W x)
 | 11=>(s,⟨{W with pool:=Ia W.pool},0,0,0⟩)
 | _=>(NA (FW s),Il W x (IN s) (NB (FW s)))
def Dc(s:At)(W:A5):At×BV:=stepAt (nS (nS (nS s (max 1 W.next)) 5) 16) W (Ij (nS s (max 1 W.next))) (1+nV s (max 1 W.next)) (nV (nS (nS s (max 1 W.next)) 5) 16).toNat
def yY:AE:=AU (fun q:At×A5=>(true,srV q.1) :: [woT q.2]) (fun q=>B9 q.1/\BZ q.2/\q.2.next<=1000000000) (fun q=>[(true,srV (Dc q.1 q.2).1),wuO (Dc q.1 q.2).2])
theorem Uo(s:At)(W:A5):yY ((true,srV s) :: [woT W])=some (B9 s/\BZ W/\W.next<=1000000000,[(true,srV (Dc s W).1),wuO (Dc s W).2]):=Ac (fun l=>(GP (nth l 0),BW (nth l 1))) (fun _=>rfl) (s,W)
theorem zAO:Cy Tryz.prog 85 yY:=by
 refine F2 Ah (GOk.cons IL (AA Tryz.func30 rfl rfl) (GOk.cons zC0 (AA Tryz.func141 rfl rfl) (GOk.ptr IQ (AA Tryz.func84 rfl rfl) (GOk.cons RD (AA Tryz.func15 rfl rfl) (GOk.cons zDu (AA Tryz.func133 rfl rfl) (GOk.ptr YA (AA Tryz.func48 rfl rfl) (GOk.cons zBC (AA Tryz.func134 rfl rfl) (GOk.ptr zAg (AA Tryz.func135 rfl rfl) (GOk.cons zAT (AA Tryz.func136 rfl rfl) (GOk.ptr Pb (AA Tryz.func37 rfl rfl) (GOk.cons zDA (AA Tryz.func137 rfl rfl) (GOk.cons zBz (AA Tryz.func138 rfl rfl) (GOk.cons zCQ (AA Tryz.func139 rfl rfl) (GOk.cons zC1 (AA Tryz.func140 rfl rfl) (GOk.cons Yh (AA Tryz.func7 rfl rfl) (GOk.cons zC2 (AA Tryz.func142 rfl rfl) (GOk.ptr zB4 (AA Tryz.func143 rfl rfl) GOk.nil))))))))))))))))) mixed Tryz.func85 rfl Tryz.ntmps85 Tryz.results85 70 ?_;rintro⟨s,W⟩ hs;obtain⟨hs,c,J⟩:B9 s/\BZ W/\W.next<=1000000000:=hs;have y:max 1 W.next<=1000000000000000000:=by omega
 have hi:=JL s y;have A:IntKind.i64.wrap (1+nV s (max 1 W.next))=1+nV s (max 1 W.next):=J4 (by omega) (by omega);obtain⟨t,z⟩:∃t,Dc s W=t:=⟨_,rfl⟩;obtain⟨a,j⟩:∃a,1+nV s (max 1 W.next)=a:=⟨_,rfl⟩;rw[j]at A;obtain⟨s1,d⟩:∃s1,nS s (max 1 W.next)=s1:=⟨_,rfl⟩;obtain⟨x,p⟩:∃x,Ij s1=x:=⟨_,rfl⟩;obtain⟨s2,e⟩:∃s2,nS s1 5=s2:=⟨_,rfl⟩;obtain⟨s3,g⟩:∃s3,nS s2 16=s3:=⟨_,rfl⟩;obtain⟨v,hv⟩:∃v:Nat,nV s2 16=v:=⟨_,(Int.toNat_of_nonneg (JL s2 (m:=16) (by omega)).1).symm⟩;have q:B9 s1:=d▸Bm hs _;have r:B9 s2:=e▸Bm q 5;have u:B9 s3:=g▸Bm r 16;have hn:=c.n;have B:=c.hn;have C:(∀i,i<W.pool.n->(W.pool.s i).kn<=1000000)↔True:=⟨fun _=>trivial,fun _=>c.kn⟩;have b:t=stepAt s3 W x a v:=by
  rw[<-z];unfold Dc;rw[d,e,g,p,j,hv];rfl
 have D:v=0->t=(s3,EH W x):=fun h=>by rw[b,h];rfl
 have q1:v=1->t=(FW s3,Ib W x (IN s3)):=fun h=>by rw[b,h];rfl
 have E:v=2\/v=3\/v=4->t=(nS s3 3,J3 W x ([⟨#[115,49]⟩,⟨#[115,50]⟩,⟨#[115,51]⟩].getD (nV s3 3).toNat ⟨#[]⟩)):=fun h=>by rcases h with h | h | h<;>(rw[b,h];rfl)
 have F:v=5->t=(s3,sdE W a):=fun h=>by rw[b,h];rfl
 have G:v=6\/v=7->t=(nS s3 3,L2 W a ([⟨#[98]⟩,⟨#[99]⟩,⟨#[100]⟩].getD (nV s3 3).toNat ⟨#[]⟩)):=fun h=>by rcases h with h | h<;>(rw[b,h];rfl)
 have H:v=8->t=(s3,Ih W x):=fun h=>by rw[b,h];rfl
 have I:v=9->t=(s3,Ic W x):=fun h=>by rw[b,h];rfl
 have k:v=10->t=(s3,DX W x):=fun h=>by rw[b,h];rfl
 have l:v=11->t=(s3,⟨{W with pool:=Ia W.pool},0,0,0⟩):=fun h=>by rw[b,h];rfl
 have o:12<=v->t=(NA (FW s3),Il W x (IN s3) (NB (FW s3))):=fun h=>by
  obtain⟨w,rfl⟩:∃w,v=w+12:=⟨v - 12,by omega⟩;rw[b];rfl
 clear b;refine⟨by simp,?_⟩;show ev _ _ _ _ _ _ (LZ _ _ [(true,srV (Dc s W).1),wuO (Dc s W).2]);rw[z];simp[go_sem,zHd,DY,X9,zHe,zF3,zEB,L8,zFx,zEF,zBQ,zE9,zIg,zF4,zFs,Ls,DM,zFw,hs,c,q,r,u,d,e,g,p,j,y,A,hv,hn,B,C,Ph u]
 repeat' first | refine⟨fun _=>?_,fun _=>?_⟩ | fail
 all_goals first
  | (exfalso;omega)
  | rw[D (by omega)]
  | rw[q1 (by omega)]
  | rw[E (by omega)]
  | rw[F (by omega)]
  | rw[G (by omega)]
  | rw[H (by omega)]
  | rw[I (by omega)]
  | rw[k (by omega)]
  | rw[l (by omega)]
  | rw[o (by omega)]
 all_goals first
  | exact⟨⟨⟨TrE.refl _,C9⟩,rfl,rfl,rfl⟩,⟨TrE.refl _,BT⟩,⟨TrE.refl _,BX⟩,rfl,rfl,⟨TrE.refl _,CB⟩,⟨TrE.refl _,CA⟩,rfl,rfl,rfl⟩
  | exact⟨by as_aux_lemma=>kernel_rfl,⟨⟨TrE.refl _,C9⟩,rfl,rfl,rfl⟩,⟨TrE.refl _,BT⟩,⟨TrE.refl _,BX⟩,rfl,rfl,⟨TrE.refl _,CB⟩,⟨TrE.refl _,CA⟩,rfl,rfl,rfl⟩
set_option maxRecDepth 20000
set_option maxHeartbeats 3200000
theorem qz{a b:Int}:Bj .mul .i64 a .i64 b=some (True,.int .i64 (IntKind.i64.wrap (a*b))):=rfl
theorem yA{a b:Int}:Bj .sub .i64 a .i64 b=some (True,.int .i64 (IntKind.i64.wrap (a - b))):=rfl
variable{W:A5}
theorem Vr{c:Nat}(h:Aw c W)(s:At):Aw c (Dc s W).2.world:=by
 unfold Dc;generalize nV (nS (nS s (max 1 W.next)) 5) 16=v;generalize nS (nS (nS s (max 1 W.next)) 5) 16=s3;unfold stepAt;split
 ·exact(Ml ..).up
 ·exact(zDj ..).up
 ·exact(Ro ..).up
 ·exact(Ro ..).up
 ·exact(Ro ..).up
 ·exact(zHV ..).up
 ·exact(YT ..).up
 ·exact(YT ..).up
 ·exact(zDg ..).up
 ·exact(zDh ..).up
 ·exact(Qe ..).up
 ·exact zDi h
 ·exact(zAu ..).up
variable{s:At}
theorem Ns(h:B9 s)(W:A5):B9 (Dc s W).1:=by
 have a:=Bm (Bm (Bm h (max 1 W.next)) 5) 16;unfold Dc;generalize nV (nS (nS s (max 1 W.next)) 5) 16=v;generalize nS (nS (nS s (max 1 W.next)) 5) 16=s3 at a;unfold stepAt;split<;>dsimp only
 all_goals first
  | exact a
  | exact Bm a _
  | exact Ph a
  | exact Bm (Bm (Ph a) _) _
theorem zG9(x:Int):BZ (nwW x):=by
 unfold nwW;split
 ·refine⟨⟨by show x.toNat<=_;omega,Nat.zero_le _,Nat.zero_le _,Nat.zero_le _,fun i hi=>absurd hi (Nat.not_lt_zero _),fun i hi=>absurd hi (Nat.not_lt_zero _)⟩,fun i hi=>Nat.zero_le _⟩
 ·exact⟨⟨Nat.zero_le _,Nat.zero_le _,Nat.zero_le _,Nat.zero_le _,fun i hi=>absurd hi (Nat.not_lt_zero _),fun i hi=>absurd hi (Nat.not_lt_zero _)⟩,fun i hi=>Nat.zero_le _⟩
def runW:Nat->At->A5->At×A5
 | 0,s,W=>(s,W)
 | r+1,s,W=>if (Dc s W).2.code=0 then runW r (Dc s W).1 (Dc s W).2.world else runW r (Dc s W).1 W
theorem Pd:∀(r:Nat) {s:At} {W:A5},B9 s->Aw 0 W->B9 (runW r s W).1/\Aw 0 (runW r s W).2
 | 0,s,W,hs,hW=>⟨hs,hW⟩
 | r+1,s,W,hs,hW=>by
  unfold runW;split
  ·exact Pd r (Ns hs W) (Vr hW s)
  ·exact Pd r (Ns hs W) hW
def spoilAt(s:At)(W:A5):Nat->At×A5
 | 0=>(nS s 3,{W with time:=[0,900000,900001].getD (nV s 3).toNat 0})
 | 1=>(s,{W with next:=1})
 | 2=>if 0<W.sn then(s,{W with A3:=fun i=>if i=0 then {W.A3 0 with dn:=(Dx (W.A3 0).dn (W.A3 0).ds (W.A3 0).db ++ [(1,1)]).length,ds:=AO (Dx (W.A3 0).dn (W.A3 0).ds (W.A3 0).db ++ [(1,1)]),db:=AS (Dx (W.A3 0).dn (W.A3 0).ds (W.A3 0).db ++ [(1,1)])}else W.A3 i})else(s,W)
 | 3=>if 0<W.pn then(nS s 3,{W with A1:=fun i=>if i=0 then {W.A1 0 with A6:=1+nV s 3}else W.A1 i})else(s,W)
 | 4=>if 0<W.sn then((Ex s W.pool).1,{W with A3:=fun i=>if i=0 then {W.A3 0 with rs:=(Ex s W.pool).2.1,rb:=(Ex s W.pool).2.2}else W.A3 i})else(s,W)
 | _=>(nS s 5,{W with pool:=G6 W.pool (nV s 5)})
def Ix(s:At)(W:A5):At×A5:=if nV s 20=0 then spoilAt (nS (nS s 20) 6) W (nV (nS s 20) 6).toNat else(nS s 20,W)
def EY(s:At):At×A5:=
 let q:=runW (nV (nS s 60) (12+2*(nS s 60).size)).toNat (nS (nS s 60) (12+2*(nS s 60).size)) (EH (nwW (20+nV s 60)) ⟨#[97]⟩).world
 Ix q.1 q.2
attribute [go_sem] Bj
attribute [go_sem] BP
attribute [-go_sem] BP Bj
attribute [local go_sem] qz yA
def qK:AE:=AU (fun s:At=>[(true,srV s)]) (fun s=>B9 s) (fun s=>[(true,srV (EY s).1),woO (EY s).2])
theorem XC(s:At):qK [(true,srV s)]=some (B9 s,[(true,srV (EY s).1),woO (EY s).2]):=Ac (fun l=>GP (nth l 0)) (fun _=>rfl) s
theorem Z5:Cy Tryz.prog 36 qK:=by
 refine F2 (A:=fun _=>[]) Ah (GOk.cons zC4 (AA Tryz.func83 rfl rfl) (GOk.ptr zAO (AA Tryz.func85 rfl rfl) (GOk.ptr PN (AA Tryz.func86 rfl rfl) (GOk.ptr IQ (AA Tryz.func84 rfl rfl) (GOk.cons RD (AA Tryz.func15 rfl rfl) (GOk.ptr zDv (AA Tryz.func87 rfl rfl) GOk.nil)))))) mixed Tryz.func36 rfl Tryz.ntmps36 Tryz.results36 88 ?_;rintro s hs;replace hs:B9 s:=hs;obtain⟨t,V⟩:∃t,EY s=t:=⟨_,rfl⟩;obtain⟨s1,J⟩:∃s1,nS s 60=s1:=⟨_,rfl⟩;have N:B9 s1:=J▸Bm hs _;have hv:=GN s (m:=60) (by omega) (by omega);have hz:=N.size;have R:IntKind.i64.wrap (20+nV s 60)=20+nV s 60:=J4 (by omega) (by omega);have S:IntKind.i64.wrap (2*s1.size)=2*s1.size:=J4 (by omega) (by omega);have T:IntKind.i64.wrap (12+2*s1.size)=12+2*s1.size:=J4 (by omega) (by omega);have Q:12+2*s1.size<=1000000000000000000:=by omega
 obtain⟨s2,L⟩:∃s2,nS s1 (12+2*s1.size)=s2:=⟨_,rfl⟩;have Y:B9 s2:=L▸Bm N _;obtain⟨K,hK⟩:∃K:Nat,nV s1 (12+2*s1.size)=K:=⟨_,(Int.toNat_of_nonneg (JL s1 Q).1).symm⟩;have P:K<40:=by have:=(GN s1 (m:=12+2*s1.size) (by omega) Q).2;omega
 have Z:BZ (nwW (20+nV s 60)):=zG9 _;obtain⟨o,M⟩:∃o,EH (nwW (20+nV s 60)) ⟨#[97]⟩=o:=⟨_,rfl⟩;have hg:Aw 0 o.world:=M▸Ml _ _;have c:t=Ix (runW K s2 o.world).1 (runW K s2 o.world).2:=by
  rw[<-V];show Ix (runW (nV (nS s 60) (12+2*(nS s 60).size)).toNat (nS (nS s 60) (12+2*(nS s 60).size)) (EH (nwW (20+nV s 60)) ⟨#[97]⟩).world).1 (runW (nV (nS s 60) (12+2*(nS s 60).size)).toNat (nS (nS s 60) (12+2*(nS s 60).size)) (EH (nwW (20+nV s 60)) ⟨#[97]⟩).world).2=_;rw[J,L,hK,M];rfl
 refine⟨by simp,?_⟩;show ev _ _ _ _ _ _ (LZ _ _ [(true,srV (EY s).1),woO (EY s).2]);rw[V];simp[go_sem,DY,zFy,L8,hs,N,J,L,R,S,T,Q,hK,Z,M];refine Ax (fun q:Nat×At×A5=>⟨[(4,true,.i q.1),(3,true,.m false [.p 3 0]),(2,true,.m false [.p 2 0]),(0,true,.m false [.p 0 0])],[(0,.var [.s .z 1 q.2.1.bn (GR q.2.1.bf),.v (.int .i64 q.2.1.pos),.v (.int .u64 q.2.1.mix),.v (.int .i64 q.2.1.size)]),(3,.var [.h 61,.h 62,.v (.int .i64 q.2.2.time),.v (.int .i64 q.2.2.next),.h 63,.h 64]),(64,.row 8 q.2.2.pn (snapsE .z q.2.2.A1)),(63,.row 6 q.2.2.sn (setsE .o q.2.2.A3)),(62,.row 1 q.2.2.pool.hn (Ay q.2.2.pool.h)),(61,.row 3 q.2.2.pool.n (Ao .z q.2.2.pool.s)),(2,.var [.v n0,.v n0,.v i0,.v i0,.v n0,.v n0])]⟩) (fun q=>q.1) (fun q=>q.1<40/\B9 q.2.1/\Aw 0 q.2.2/\t=Ix (runW q.1 q.2.1 q.2.2).1 (runW q.1 q.2.1 q.2.2).2) (K,s2,o.world) (by simp[go_sem]) ⟨P,Y,hg,c⟩ ?_;rintro⟨r,s,W⟩ ⟨G,hs,D,c⟩;replace G:r<40:=G;replace hs:B9 s:=hs;replace D:Aw 0 W:=D;replace c:t=Ix (runW r s W).1 (runW r s W).2:=c;have H:=D.Bo (by omega);have hx:=D.next;cases r with
 | succ r=>
  have U:IntKind.i64.wrap (r:Int)=r:=J4 (by omega) (by omega);have C:=c;unfold runW at C;by_cases I:(Dc s W).2.code=0
  ·rw[if_pos I]at C;simp[go_sem,Uo,hs,H,show W.next<=1000000000 by omega,I,U];exact⟨r,(Dc s W).1,(Dc s W).2.world,⟨by omega,Ns hs W,Vr D s,C⟩,by omega,rfl,⟨TrE.refl _,rfl,rfl,rfl⟩,⟨rfl,rfl⟩,TrE.refl _,TrE.refl _,TrE.refl _,TrE.refl _⟩
  ·rw[if_neg I]at C;simp[go_sem,Uo,hs,H,show W.next<=1000000000 by omega,I,U];exact⟨r,(Dc s W).1,W,⟨by omega,Ns hs W,D,C⟩,by omega,rfl,⟨TrE.refl _,rfl,rfl,rfl⟩,⟨rfl,rfl⟩,TrE.refl _,TrE.refl _,TrE.refl _,TrE.refl _⟩
 | zero=>
  replace c:t=Ix s W:=c;unfold Ix at c;by_cases d:nV s 20=0;rotate_left
  ·rw[if_neg d]at c;simp[go_sem,Ek,hs,d,c,C9,BT,BX,CB,CA]
  rw[if_pos d]at c;obtain⟨a,w⟩:∃a,nS s 20=a:=⟨_,rfl⟩;obtain⟨b,x⟩:∃b,nS a 6=b:=⟨_,rfl⟩;obtain⟨v,k⟩:∃v:Nat,nV a 6=v:=⟨_,(Int.toNat_of_nonneg (JL a (m:=6) (by omega)).1).symm⟩;have y:B9 a:=w▸Bm hs _;have B:B9 b:=x▸Bm y _;rw[w,x,k]at c;have hn:=H.n;have dA:=GN b (m:=3) (by omega) (by omega);have hw:IntKind.i64.wrap (1+nV b 3)=1+nV b 3:=J4 (by omega) (by omega);have X:v<6:=(by have:=(GN a (m:=6) (by omega) (by omega)).2;omega);have hd:=fun h=>(D.A3 0 h).dn
  rcases(show v=0\/v=1\/v=2\/v=3\/v=4\/v=5 by omega)with e | e | e | e | e | e<;>subst e
  ·have q:t=(nS b 3,{W with time:=[0,900000,900001].getD (nV b 3).toNat 0}):=c;rcases(show nV b 3=0\/nV b 3=1\/nV b 3=2 by omega)with O | O | O<;>simp[go_sem,Ek,DY,hs,y,B,d,w,x,k,O,q,C9,BT,BX,CB,CA]
  ·have q:t=(b,{W with next:=1}):=c;simp[go_sem,Ek,DY,hs,y,B,d,w,x,k,q,C9,BT,BX,CB,CA]
  ·replace c:t=if 0<W.sn then _ else _:=c
   by_cases u:0<W.sn
   ·rw[if_pos u]at c;simp[go_sem,Ek,DY,hs,y,B,d,w,x,k,u,c,C9,BT,BX,CB,CA];have bA:=hd u;refine⟨by omega,by kernel_rfl,⟨.inl rfl,rfl,rfl,fun i j hi E=>?_⟩⟩;by_cases e:i=0
    ·subst e
     match j,E with
     | 0,_ | 1,_ | 2,_ | 3,_ | 4,_=>exact TrE.of_eq (by simp[Ab,setsE])
     | 5,_=>
      have:=Ny (n:=(W.A3 0).dn) (m:=(W.A3 0).dn+1) (f:=(W.A3 0).ds) (g:=(W.A3 0).db) (l:=[(1,1)]) (F:=Ai (ptrsT (W.A3 0).ds (W.A3 0).db) (W.A3 0).dn fun p q=>(([.v (.int .i64 1),.v (.int .i64 1)]:List Tr)[p*2+q]?.getD (.v (.bool false))).nt) rfl (fun a b y B=>by
       unfold Ai;split
       ·rfl
       ·have:a - (W.A3 0).dn=0:=(by omega);rw[this]
        match b,B with
        | 0,_ | 1,_=>rfl)
      simpa[Ab,setsE]using this
    ·exact TrE.of_eq (by unfold setsE;simp[Ab,e])
   ·rw[if_neg u]at c;simp[go_sem,Ek,DY,hs,y,B,d,w,x,k,u,c,C9,BT,BX,CB,CA]
  ·replace c:t=if 0<W.pn then _ else _:=c
   by_cases u:0<W.pn
   ·rw[if_pos u]at c;simp[go_sem,Ek,DY,hs,y,B,d,w,x,k,u,c,hw,C9,BT,BX,CB,CA];refine⟨by kernel_rfl,⟨.inl rfl,rfl,rfl,fun i j hi E=>TrE.of_eq ?_⟩⟩;by_cases e:i=0
    ·subst e
     match j,E with
     | 0,_ | 1,_ | 2,_ | 3,_ | 4,_ | 5,_ | 6,_ | 7,_=>simp[Ab,snapsE]
    ·unfold snapsE;simp[Ab,e]
   ·rw[if_neg u]at c;simp[go_sem,Ek,DY,hs,y,B,d,w,x,k,u,c,C9,BT,BX,CB,CA]
  ·replace c:t=if 0<W.sn then _ else _:=c
   by_cases u:0<W.sn
   ·rw[if_pos u]at c;simp[go_sem,Ek,DY,zFq,hs,y,B,d,w,x,k,u,c,hn,C9,BT,BX,CB,CA];refine⟨by kernel_rfl,⟨.inl rfl,rfl,rfl,fun i j hi E=>TrE.of_eq ?_⟩⟩;by_cases e:i=0
    ·subst e
     match j,E with
     | 0,_ | 1,_ | 2,_ | 3,_ | 4,_ | 5,_=>simp[Ab,setsE]
    ·unfold setsE;simp[Ab,e]
   ·rw[if_neg u]at c;simp[go_sem,Ek,DY,hs,y,B,d,w,x,k,u,c,C9,BT,BX,CB,CA]
  ·have q:t=(nS b 5,{W with pool:=G6 W.pool (nV b 5)}):=c;simp[go_sem,Ek,DY,hs,y,B,d,w,x,k,q,C9,BT,BX,CB,CA];have:=H.hn;exact⟨by omega,by kernel_rfl,TrE.refl _,R7⟩
set_option maxRecDepth 20000
set_option maxHeartbeats 3200000
theorem zH7(h:B9 s)(p:A8):B9 (Ex s p).1:=by
 unfold Ex;split
 ·exact Bm (Bm (Bm h 8) 14) 4
 ·exact Bm (Bm h 8) p.n
theorem zAC(hs:B9 s)(h:Aw 0 W)(v:Nat):B9 (spoilAt s W v).1/\Aw 1 (spoilAt s W v).2:=by
 have g:Aw 1 W:=h.up;unfold spoilAt;split
 ·exact⟨Bm hs 3,⟨g.pool,g.sn,g.pn,g.next,g.A3,g.A1⟩⟩
 ·exact⟨hs,⟨g.pool,g.sn,g.pn,by show(0:Int)<=1/\(1:Int)<=900001;omega,g.A3,g.A1⟩⟩
 ·split
  ·rename_i b
   have a:=h.A3 0 b;refine⟨hs,⟨g.pool,g.sn,g.pn,g.next,fun i hi=>?_,g.A1⟩⟩;dsimp only;split
   ·refine⟨?_,a.name,a.A6⟩;have:=a.dn;simp only[List.length_append,Oe,List.length_cons,List.length_nil];omega
   ·exact g.A3 i hi
  ·exact⟨hs,g⟩
 ·split
  ·rename_i b
   have a:=g.A1 0 b;have hv:=GN s (m:=3) (by omega) (by omega);refine⟨Bm hs 3,⟨g.pool,g.sn,g.pn,g.next,g.A3,fun i hi=>?_⟩⟩;dsimp only;split
   ·exact⟨a.dn,a.name,a.set,by dsimp only;omega,a.id⟩
   ·exact g.A1 i hi
  ·exact⟨hs,g⟩
 ·split
  ·rename_i b
   have a:=g.A3 0 b;refine⟨zH7 hs _,⟨g.pool,g.sn,g.pn,g.next,fun i hi=>?_,g.A1⟩⟩;dsimp only;split
   ·exact⟨a.dn,a.name,a.A6⟩
   ·exact g.A3 i hi
  ·exact⟨hs,g⟩
 ·refine⟨Bm hs 5,⟨?_,g.sn,g.pn,g.next,g.A3,g.A1⟩⟩;have:=h.pool;show W.pool.n+Cl W.pool.s W.pool.n+(W.pool.hn+1)<=19000+1;unfold Az at this;omega
theorem Nv(hs:B9 s):B9 (EY s).1/\Aw 1 (EY s).2:=by
 have h:=Pd (nV (nS s 60) (12+2*(nS s 60).size)).toNat (Bm (Bm hs 60) (12+2*(nS s 60).size)) (Ml (nwW (20+nV s 60)) ⟨#[97]⟩);unfold EY Ix;dsimp only;split
 ·exact zAC (Bm (Bm h.1 20) 6) h.2 _
 ·exact⟨Bm h.1 20,h.2.up⟩
theorem zBR(s:At):(Ij s).size<=8000:=by
 have h:∀i,(SN.getD i ⟨#[]⟩).size<=8000:=fun i=>by
  match i with
  | 0 | 1 | 2 | 3 | 4=>decide
  | i+5=>exact Nat.zero_le _
 exact h _
set_option linter.unusedSimpArgs false
set_option maxRecDepth 20000
set_option maxHeartbeats 3200000
attribute [go_sem] Bj
attribute [go_sem] BP
attribute [-go_sem] BP
attribute [-go_sem] Bj
attribute [local go_sem] Po Pp SG S6 S7 PT PU PV Rw qz yA S5 Rz Ry Rx OC
def I4(n:Nat)(f:Nat->Int):A5×ByteArray:=((EY (Hd n f)).2,Ij (EY (Hd n f)).1)
def QI:AE:=AU (fun q:Nat×(Nat->Int)=>[byT q.1 q.2]) (fun q=>I2 q.1 q.2) (fun q=>[woO (I4 q.1 q.2).1,sT' (I4 q.1 q.2).2])
theorem Mn(n:Nat)(f:Nat->Int):QI [byT n f]=some (I2 n f,[woO (I4 n f).1,sT' (I4 n f).2]):=Ac (fun l=>(D2 (nth l 0 0),fun i=>match BY (nth l 0 0) i 0 with | .v (.int _ x)=>x | _=>0)) (fun _=>rfl) (n,f)
theorem zC6:Ae Tryz.prog 18 QI:=by
 refine Ar Ah (GOk.new Z9 (AA Tryz.func35 rfl rfl) (GOk.ptr Z5 (AA Tryz.func36 rfl rfl) (GOk.ptr YA (AA Tryz.func48 rfl rfl) GOk.nil))) mixed Tryz.func18 rfl Tryz.ntmps18 Tryz.results18 6 ?_;rintro⟨n,f⟩ a;replace a:I2 n f:=a;have b:=OP a.1 a.2;have hn:=a.1;have c:=Nv b;obtain⟨q,eq⟩:∃q,EY (Hd n f)=q:=⟨_,rfl⟩;rw[eq]at c;have d:I4 n f=(q.2,Ij q.1):=by unfold I4;rw[eq]
 refine⟨by simp,?_⟩;simp[go_sem,Xq,XC,X9,hn,b,c,eq,d,C9,BT,BX,CB,CA];kernel_rfl
set_option maxRecDepth 20000
set_option maxHeartbeats 3200000
attribute [go_sem] Bj
attribute [go_sem] BP
attribute [-go_sem] BP
attribute [-go_sem] Bj
theorem zHc{fl:Fl}{a b c d:ByteArray}:(Tr.s fl 1 4 fun p q=>([.v (.string a),.v (.string b),.v (.string c),.v (.string d)]:List Tr)[p+q]?.getD (.v (.bool false))).lend = .s .b 1 4 (Ey [a,b,c,d]):=Ql [a,b,c,d]
theorem zEC(s:At)(a b c d:ByteArray):KM ((true,srV s) :: [(false,[.s .b 1 4 (Ey [a,b,c,d])])])=some (B9 s,[(true,srV (nS s 4)),sT' ([a,b,c,d].getD (nV s 4).toNat ⟨#[]⟩)]):=RW s [a,b,c,d] ⟨by simp,by simp⟩
set_option maxRecDepth 20000
set_option maxHeartbeats 3200000
attribute [go_sem] Bj
attribute [go_sem] BP
attribute [-go_sem] BP
attribute [-go_sem] Bj
attribute [local go_sem] zHc
theorem zDJ:Ae Tryz.prog 4 QI:=by
 refine Ar Ah (GOk.keep zC6 (AA Tryz.func18 rfl rfl) GOk.nil) mixed Tryz.func4 rfl Tryz.ntmps4 Tryz.results4 4 ?_;rintro⟨n,f⟩ a;replace a:I2 n f:=a;refine⟨by simp,?_⟩;simp[go_sem,Mn,a,C9,BT,BX,CB,CA]
def nwV(s:At):ByteArray:=([⟨#[97]⟩,⟨#[98]⟩,⟨#[101]⟩,⟨#[65]⟩]:List ByteArray).getD (nV s 4).toNat ⟨#[]⟩
theorem zEK(s:At):(nwV s).size<=8000:=by
 have h:∀i,(([⟨#[97]⟩,⟨#[98]⟩,⟨#[101]⟩,⟨#[65]⟩]:List ByteArray).getD i ⟨#[]⟩).size<=8000:=fun i=>by
  match i with
  | 0 | 1 | 2 | 3=>decide
  | i+4=>exact Nat.zero_le _
 exact h _
def Hj(n:Nat)(f:Nat->Int):A5×ByteArray:=((EY (Hd n f)).2,nwV (EY (Hd n f)).1)
def Th:AE:=AU (fun q:Nat×(Nat->Int)=>[byT q.1 q.2]) (fun q=>I2 q.1 q.2) (fun q=>[woO (Hj q.1 q.2).1,sT' (Hj q.1 q.2).2])
theorem OX(n:Nat)(f:Nat->Int):Th [byT n f]=some (I2 n f,[woO (Hj n f).1,sT' (Hj n f).2]):=Ac (fun l=>(D2 (nth l 0 0),fun i=>match BY (nth l 0 0) i 0 with | .v (.int _ x)=>x | _=>0)) (fun _=>rfl) (n,f)
theorem zCP:Ae Tryz.prog 13 Th:=by
 refine Ar Ah (GOk.new Z9 (AA Tryz.func35 rfl rfl) (GOk.ptr Z5 (AA Tryz.func36 rfl rfl) (GOk.ptr Pb (AA Tryz.func37 rfl rfl) GOk.nil))) mixed Tryz.func13 rfl Tryz.ntmps13 Tryz.results13 7 ?_;rintro⟨n,f⟩ a;replace a:I2 n f:=a;have b:=OP a.1 a.2;have hn:=a.1;obtain⟨q,eq⟩:∃q,EY (Hd n f)=q:=⟨_,rfl⟩;have d:=eq▸Nv b;have c:Hj n f=(q.2,[⟨#[97]⟩,⟨#[98]⟩,⟨#[101]⟩,⟨#[65]⟩].getD (nV q.1 4).toNat ⟨#[]⟩):=by unfold Hj;rw[eq];rfl
 refine⟨by simp,?_⟩;simp[go_sem,Xq,XC,zEC,hn,b,d,eq,c,C9,BT,BX,CB,CA];kernel_rfl
set_option maxRecDepth 20000
set_option maxHeartbeats 3200000
attribute [go_sem] Bj
attribute [go_sem] BP
attribute [-go_sem] BP
def To:AE:=AU (fun s:AD=>[slT s,slT s]) (fun s=>s.kn<=1000000) (fun _=>tT)
theorem zo(s:AD):To [slT s,slT s]=some (s.kn<=1000000,tT):=Ac (fun l=>JM (nth l 0 0) (nth l 0 1) (nth l 0 2)) (fun _=>rfl) s
theorem zE5:Ae Tryz.prog 34 To:=by
 refine Ar Ah GOk.nil mixed Tryz.func34 rfl Tryz.ntmps34 Tryz.results34 6 ?_;rintro s hn;replace hn:s.kn<=1000000:=hn;refine⟨by simp,?_⟩;simp[go_sem];refine Ax (fun k:Nat=>⟨[(2,true,.m false [.p 2 0]),(3,true,.m false [.p 3 0]),(5,true,.i k)],[(3,.var [.v (.int .i64 s.birth),.s .b 2 s.kn (ptrsT s.ks s.kb),.v (.string s.data)]),(2,.var [.v (.int .i64 s.birth),.s .b 2 s.kn (ptrsT s.ks s.kb),.v (.string s.data)])]⟩) (fun k=>s.kn - k) (fun k=>k<=s.kn) 0 (by simp[go_sem]) (by simp) ?_;rintro k c;simp[go_sem,Al (show k<=1000000000 by omega)];exact fun a=>⟨a,by kernel_rfl,k+1,a,by omega,rfl⟩
def Tm:AE:=AU (fun p:A8=>[poT p.n p.s p.hn p.h,poT p.n p.s p.hn p.h]) (fun p=>(p.n<=1000000/\p.hn<=1000000)/\∀i,i<p.n->(p.s i).kn<=1000000) (fun _=>tT)
theorem Xo(p:A8):Tm [poT p.n p.s p.hn p.h,poT p.n p.s p.hn p.h]=some ((p.n<=1000000/\p.hn<=1000000)/\∀i,i<p.n->(p.s i).kn<=1000000,tT):=Ac (fun l=>CY (nth l 0 0) (nth l 0 1)) (fun _=>rfl) p
theorem zE3:Ae Tryz.prog 12 Tm:=by
 refine Ar Ah (GOk.cons zE5 (AA Tryz.func34 rfl rfl) GOk.nil) mixed Tryz.func12 rfl Tryz.ntmps12 Tryz.results12 7 ?_;rintro p g;obtain⟨⟨hn,o⟩,d⟩:(p.n<=1000000/\p.hn<=1000000)/\∀i,i<p.n->(p.s i).kn<=1000000:=g;refine⟨by simp,?_⟩;simp[go_sem];refine Ax (fun k:Nat=>⟨[(2,true,.m false [.p 2 0]),(3,true,.m false [.p 3 0]),(5,true,.i k)],[(3,.var [.s .b 3 p.n (Ao .b p.s),.s .b 1 p.hn (Ay p.h)]),(2,.var [.s .b 3 p.n (Ao .b p.s),.s .b 1 p.hn (Ay p.h)])]⟩) (fun k=>p.n - k) (fun k=>k<=p.n) 0 (by simp[go_sem]) (by simp) ?_;rintro k e;simp[go_sem,zo,Al (show k<=1000000000 by omega)];refine⟨fun c=>?_,fun c=>?_⟩
 ·exact⟨c,d k c,by kernel_rfl,k+1,c,by omega,rfl⟩
 refine Ax (fun j:Nat=>⟨[(2,true,.m false [.p 2 0]),(3,true,.m false [.p 3 0]),(6,true,.i j)],[(3,.var [.s .b 3 p.n (Ao .b p.s),.s .b 1 p.hn (Ay p.h)]),(2,.var [.s .b 3 p.n (Ao .b p.s),.s .b 1 p.hn (Ay p.h)])]⟩) (fun j=>p.hn - j) (fun j=>j<=p.hn) 0 (by simp[go_sem]) (by simp) ?_;rintro j l;simp[go_sem,Al (show j<=1000000000 by omega)];exact fun a=>⟨a,by kernel_rfl,j+1,a,by omega,rfl⟩
def VH:AE:=AU (fun W:A5=>[woT W,woT W]) (fun W=>SmallW W/\(∀i,i<W.sn->Bq (W.A3 i).dn (W.A3 i).ds (W.A3 i).db)/\∀i,i<W.pn->Bq (W.A1 i).dn (W.A1 i).ds (W.A1 i).db) (fun _=>tT)
theorem Z6(W:A5):VH [woT W,woT W]=some (SmallW W/\(∀i,i<W.sn->Bq (W.A3 i).dn (W.A3 i).ds (W.A3 i).db)/\∀i,i<W.pn->Bq (W.A1 i).dn (W.A1 i).ds (W.A1 i).db,tT):=Ac (fun l=>BW (nth l 0)) (fun _=>rfl) W
theorem Y0{n:Nat}{f g:Nat->Int}(h:Bq n f g):Ew n f g n f g:=⟨h,h,rfl,fun i hi=>⟨i,hi,rfl,rfl⟩⟩
theorem zAR:Ae Tryz.prog 11 VH:=by
 refine Ar Ah (GOk.cons Yq (AA Tryz.func33 rfl rfl) GOk.nil) mixed Tryz.func11 rfl Tryz.ntmps11 Tryz.results11 11 ?_;rintro W c;obtain⟨c,d,e⟩:SmallW W/\(∀i,i<W.sn->Bq (W.A3 i).dn (W.A3 i).ds (W.A3 i).db)/\∀i,i<W.pn->Bq (W.A1 i).dn (W.A1 i).ds (W.A1 i).db:=c;have hs:=c.sn;have o:=c.pn;refine⟨by simp,?_⟩;simp[go_sem];refine Ax (fun k:Nat=>⟨[(2,true,.m false [.p 2 0]),(3,true,.m false [.p 3 0]),(5,true,.i k)],[(3,.var ((woT W).2.map Tr.cv)),(2,.var ((woT W).2.map Tr.cv))]⟩) (fun k=>W.sn - k) (fun k=>k<=W.sn) 0 (by simp[go_sem]) (by simp) ?_;rintro k n;simp[go_sem,Al (show k<=1000000000 by omega),QL];refine⟨fun b=>?_,fun b=>?_⟩
 ·have g:=Y0 (d k b);have h:=(d k b).1;exact⟨b,by kernel_rfl,by omega,g,fun _=>⟨k+1,b,by omega,rfl⟩⟩
 refine Ax (fun j:Nat=>⟨[(2,true,.m false [.p 2 0]),(3,true,.m false [.p 3 0]),(8,true,.i j)],[(3,.var ((woT W).2.map Tr.cv)),(2,.var ((woT W).2.map Tr.cv))]⟩) (fun j=>W.pn - j) (fun j=>j<=W.pn) 0 (by simp[go_sem]) (by simp) ?_;rintro j l;simp[go_sem,Al (show j<=1000000000 by omega),QL];exact fun a=>⟨a,by kernel_rfl,Nat.le_trans (e j a).1 (by omega),Y0 (e j a),fun _=>⟨j+1,a,by omega,rfl⟩⟩
variable{w:World}{p:Nat->Addr}
theorem TO{w':World}{g g':Nat->Bs}(h:Cr w p)(d:∀b,∃r,g b = .fz r)(a:Kp w g w' g'):Cr w' p:=
 h.A0 ⟨a.os,a.tape,a.output,a.size,fun b c=>let ⟨r,hr⟩:=d b;(a.fz b r hr c).1⟩
set_option linter.unusedSimpArgs false
set_option maxRecDepth 20000
set_option maxHeartbeats 3200000
theorem zEl{P:Program}{f:Nat}{ι : Type}{A:ι->List (Bool×List Tr)}{C:ι->Prop}{R:ι->List (Bool×List Tr)}{T:Tb}{Γ : List (Nat×AE)}(i:DI P T)(hΓ : ∀g0,(∀b,∃r,g0 b = .fz r)->Gq P Γ w ⟨g0,none⟩)(o:P.follows .mixedOrders=true){fn:Func}{body:Code}{N:Nat}{rv:Array ResultVar}(m:P.funcs[f]?=some fn)(j:fn.body=some body)(g:fn.ntmps=N)(d:fn.results=rv)(n:Nat)
 (h:∀x,C x->(A x).length<=N/\ev N T Γ n body ⟨Dz 0 (A x),[]⟩ (KE T rv.toList (R x))):Fk P f (AU A C R) w:=by
 refine ZI i hΓ o m j g d n (fun l c rs a k=>?_);unfold AU at a;split at a
 ·rename_i e
  cases a;have:=h e.choose k;rw[e.choose_spec]at this;exact this
 ·cases a
theorem Y3(h:Ak W):(∀i,i<W.sn->Bq (W.A3 i).dn (W.A3 i).ds (W.A3 i).db)/\∀i,i<W.pn->Bq (W.A1 i).dn (W.A1 i).ds (W.A1 i).db:=by
 refine⟨fun j a=>?_,fun j a=>?_⟩
 ·have:=(OE h (i:=W.pn+j) (by unfold memN;omega) 0).1
  rwa [DN]at this
 ·have:=(OE h (i:=j) (by unfold memN;omega) 0).1
  rwa [CU a]at this
def JT(n:Nat)(f:Nat->Int):Prop:=∀i,i<n->0<=f i/\f i<256
def Lz(w:World)(a:Option Addr)(n:Nat):Prop:=0<n->∃b o,a=some ⟨b,o,none⟩/\b<w.heap.size/\∀i,i<n->∃x:Int,w.cell? ⟨b,o+i,none⟩=some (.int .u8 x)/\0<=x/\x<256
open Classical in
theorem VN{a:Option Addr}{n c:Nat}(h:Lz w a n)(k:n<=c):∃f,JT n f/\Sh w (fun _=>.fz none) (.s .z 1 n (GR f)) (.slice a n c):=by
 by_cases g:0<n
 ·obtain⟨b,o,rfl,m,d⟩:=h g;refine⟨fun i=>if hi:i<n then(d i hi).choose else 0,fun i hi=>?_,_,_,rfl,k,fun _=>⟨b,o,rfl,m,.inr (fun l e=>by cases e),fun i j hi p=>?_⟩⟩
  ·simp only[dif_pos hi];exact(d i hi).choose_spec.2
  ·cases (show j=0 by omega);refine⟨_,by rw[Nat.mul_one,Nat.add_zero];exact(d i hi).choose_spec.1,?_,rfl⟩;simp only[dif_pos hi]
 ·exact⟨fun _=>0,fun i hi=>by omega,_,_,rfl,k,fun h=>absurd h g⟩
set_option maxRecDepth 20000
set_option maxHeartbeats 3200000
attribute [go_sem] BP
attribute [-go_sem] BP
attribute [local go_sem] OC
def Xn:AE:=AU (fun q:(Nat×(Nat->Int))×Nat×(Nat->Int)=>[byT q.1.1 q.1.2,byT q.2.1 q.2.2]) (fun q=>JT q.1.1 q.1.2/\JT q.2.1 q.2.2) (fun _=>tT)
theorem zC7(hE:Cr w p):Fk Tryz.prog 3 Xn w:=by
 refine zEl Ah (fun g0 hz w' g hk=>BL.putA (by decide) (zH5 (TO hE hz hk)) (AA Tryz.func5 rfl rfl) (BL.putA (by decide) (zA4 (TO hE hz hk)) (AA Tryz.func14 rfl rfl) (BL.putA (by decide) (zE6 _) (AA Tryz.func6 rfl rfl) (BL.putA (by decide) (zE1 _) (AA Tryz.func10 rfl rfl) (BL.putA (by decide) (zAR _) (AA Tryz.func11 rfl rfl) (BL.putA (by decide) (zE3 _) (AA Tryz.func12 rfl rfl) (BL.putA (by decide) (zEM _) (AA Tryz.func16 rfl rfl) (BL.putA (by decide) (zGt _) (AA Tryz.func17 rfl rfl) (BL.putK (by decide) (zDJ _) (AA Tryz.func4 rfl rfl) (BL.putK (by decide) (zCP _) (AA Tryz.func13 rfl rfl) (BL.putA (by decide) (Yh _) (AA Tryz.func7 rfl rfl) (BL.putA (by decide) (RD _) (AA Tryz.func15 rfl rfl) (BL.putA (by decide) (Xe _) (AA Tryz.func8 rfl rfl) (BL.putA (by decide) (VV _) (AA Tryz.func9 rfl rfl) BL.nil)))))))))))))) mixed Tryz.func3 rfl Tryz.ntmps3 Tryz.results3 20 ?_;rintro⟨⟨n,f⟩,m,h⟩ ⟨h1,h2⟩;replace h1:JT n f:=h1;replace h2:JT m h:=h2;refine⟨by simp,?_⟩;by_cases b1:1048576<n
 ·simp[go_sem,show(1048576:Int)<n by omega]
 by_cases b2:1048576<m
 ·simp[go_sem,show ¬(1048576:Int)<n by omega,show(1048576:Int)<m by omega]
 have q1:¬(1048576:Int)<n:=by omega
 have q2:¬(1048576:Int)<m:=by omega
 have A:I2 n f:=⟨by omega,h1⟩;have b:I2 m h:=⟨by omega,h2⟩;have o:Aw 1 (I4 n f).1/\(I4 n f).2.size<=8000:=⟨(Nv (OP A.1 A.2)).2,zBR _⟩;have l:Aw 1 (Hj m h).1/\(Hj m h).2.size<=8000:=⟨(Nv (OP b.1 b.2)).2,zEK _⟩;obtain⟨⟨W,x⟩,H⟩:∃d,I4 n f=d:=⟨_,rfl⟩;obtain⟨⟨V,y⟩,G⟩:∃d,Hj m h=d:=⟨_,rfl⟩;rw[H]at o;rw[G]at l;obtain⟨o,U⟩:Aw 1 W/\x.size<=8000:=o;obtain⟨l,B⟩:Aw 1 V/\y.size<=8000:=l;have u:=o.Bo (c:=1) (by omega);have k:=l.Bo (c:=1) (by omega);obtain⟨O,v⟩:∃O,DX W x=O:=⟨_,rfl⟩;obtain⟨P,z⟩:∃P,EH V y=P:=⟨_,rfl⟩;have gO:Aw 1 O.world:=v▸(Qe W x).up;have gP:Aw 1 P.world:=z▸(Ml V y).up;have sO:=(gO.Bo (c:=1) (by omega)).toSmallW;have sP:=(gP.Bo (c:=1) (by omega)).toSmallW;rcases zDT v with⟨r,N⟩ | ⟨r,N,C,⟨o4,X⟩,a,E,o7,Y,Z,M⟩<;>rcases zBr z with⟨j,Q⟩ | ⟨j,Q,p3,⟨p4,p5⟩,p6,p7⟩
 ·have t:(P.code != 0)=true:=(by simp[j]);simp[go_sem,q1,q2,Mn,OX,Nl,On,Ls,L8,Iz O O,Iz P P,LJ V P.world,OZ P.world,OI P.world,A,b,H,G,o,l,U,B,u,k,v,z,gP,r,N,j,t,Q,sP,k.toSmallW];refine⟨by kernel_rfl,?_⟩;show _=true;kernel_rfl
 ·have T:=Iz P P;simp only[wuL,j]at T;obtain⟨r1,r2⟩:=Ut p4 p6 B p7;simp[go_sem,q1,q2,Mn,OX,Nl,On,Ls,L8,Iz O O,T,LJ V P.world,OZ P.world,OI P.world,A,b,H,G,o,l,U,B,u,k,v,z,r,N,j,Q,p3,p4,p5,r1,r2,sP,gP,k.toSmallW];refine⟨by kernel_rfl,p5,?_⟩;show _=true;kernel_rfl
 ·have t:(P.code != 0)=true:=(by simp[j]);have R:=Iz O O;simp only[wuL,r]at R;obtain⟨D,I⟩:∃D,Cf W x=D:=⟨_,rfl⟩;rw[I]at E;obtain⟨S,J⟩:∃S,DA W D.origin=S:=⟨_,rfl⟩;rw[J]at E;obtain⟨S2,e⟩:∃S,DA O.world O.id=S:=⟨_,rfl⟩;rw[e]at Y;obtain⟨F,hF⟩:∃F,Cf O.world a=F:=⟨_,rfl⟩;rw[hF]at Z;have q:=C.right;have K:=Y3 C;have l2:=Nh q;have l3:W.pool.n<=1000000/\W.pool.hn<=1000000:=⟨by have:=q.1;omega,by have:=Jn q;omega⟩;have L:∀i,i<W.pool.n->(W.pool.s i).kn<=1000000:=fun i hi=>by have:=l2 i hi;omega
  simp[go_sem,q1,q2,Mn,OX,Nl,On,Ls,L8,R,Iz P P,LJ W O.world,MP W x,MP O.world a,Mc W,Mc O.world,Z6 W,Xo W.pool,LJ V P.world,OZ P.world,OI P.world,A,b,H,G,o,l,U,B,u,k,v,z,gO,gP,r,N,C,o4,X,E,o7,Y,Z,M,I,J,e,hF,K,l3,L,j,t,Q,sO,sP,u.toSmallW,k.toSmallW];refine⟨by kernel_rfl,by kernel_rfl,X,by kernel_rfl,K,L,?_⟩;show _=true;kernel_rfl
 ·have R:=Iz O O;have T:=Iz P P;simp only[wuL,r]at R;simp only[wuL,j]at T;obtain⟨r1,r2⟩:=Ut p4 p6 B p7;obtain⟨D,I⟩:∃D,Cf W x=D:=⟨_,rfl⟩;rw[I]at E;obtain⟨S,J⟩:∃S,DA W D.origin=S:=⟨_,rfl⟩;rw[J]at E;obtain⟨S2,e⟩:∃S,DA O.world O.id=S:=⟨_,rfl⟩;rw[e]at Y;obtain⟨F,hF⟩:∃F,Cf O.world a=F:=⟨_,rfl⟩;rw[hF]at Z;have q:=C.right;have K:=Y3 C;have l2:=Nh q;have l3:W.pool.n<=1000000/\W.pool.hn<=1000000:=⟨by have:=q.1;omega,by have:=Jn q;omega⟩;have L:∀i,i<W.pool.n->(W.pool.s i).kn<=1000000:=fun i hi=>by have:=l2 i hi;omega
  simp[go_sem,q1,q2,Mn,OX,Nl,On,Ls,L8,R,T,LJ W O.world,LJ V P.world,OZ P.world,OI P.world,MP W x,MP O.world a,Mc W,Mc O.world,Z6 W,Xo W.pool,A,b,H,G,o,l,U,B,u,k,v,z,gO,gP,r,N,C,o4,X,E,o7,Y,Z,M,I,J,e,hF,K,l3,L,j,Q,p3,p4,p5,r1,r2,sO,sP,u.toSmallW,k.toSmallW];refine⟨by kernel_rfl,by kernel_rfl,X,by kernel_rfl,K,L,p5,?_⟩;show _=true;kernel_rfl
theorem zD6(d h:Option Addr)(n0 c0 a c1:Nat)(w:World)(s:Lz w d n0)(t:Lz w h a)(j:n0<=c0)(m:a<=c1)(B:Cr w p) :
 Calls Tryz.prog 3 #[.slice d n0 c0,.slice h a c1] w fun e w'=>e = .returned (.bool true)/\Below w.heap.size w w':=by
 obtain⟨f,D,G⟩:=VN s j;obtain⟨g,E,sg⟩:=VN t m;have r:Xn [byT n0 f,byT a g]=some (JT n0 f/\JT a g,tT):=Ac (fun l=>((D2 (nth l 0 0),fun i=>match BY (nth l 0 0) i 0 with | .v (.int _ x)=>x | _=>0),D2 (nth l 1 0),fun i=>match BY (nth l 1 0) i 0 with | .v (.int _ x)=>x | _=>0)) (fun _=>rfl) ((n0,f),a,g);refine(zC7 B _ _ _ r ⟨D,E⟩ (fun _=>.fz none) [.slice d n0 c0,.slice h a c1] (fun b=>⟨none,rfl⟩) (.cons ⟨_,rfl,G⟩ (.cons ⟨_,rfl,sg⟩ .nil))).mono ?_;rintro e w' ⟨v,k,rfl,c,J,F,hv⟩;obtain⟨y,I,cs,rfl,o,n,q⟩:=F;cases q;cases hv;obtain⟨u,H,rfl,z,A⟩:=n;cases A;cases o;refine⟨by rw[z.1],⟨c.os,c.tape,c.output,c.size,fun b C=>(c.fz b none rfl C).1⟩⟩
end
end Go.Proofs.YtibhefllijahkaaGreatDoor
