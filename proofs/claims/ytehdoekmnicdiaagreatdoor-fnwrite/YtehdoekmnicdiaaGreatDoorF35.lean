/- A part of the proof. -/
import Derived.Test.YtehdoekmnicdiaaGreatDoorF34
set_option linter.unusedVariables false
set_option maxRecDepth 20000
set_option maxHeartbeats 4000000
namespace Go.Proofs.YtehdoekmnicdiaaGreatDoor
noncomputable section
open Go.RowKit
set_option linter.unusedSimpArgs false
set_option maxRecDepth 20000
set_option maxHeartbeats 3200000
theorem yH{a b:Int}:CG .mul .i64 a .i64 b=some (True,.int .i64 (IntKind.i64.wrap (a*b))):=rfl
theorem qn{a b:Int}:CG .sub .i64 a .i64 b=some (True,.int .i64 (IntKind.i64.wrap (a - b))):=rfl
theorem XQ{c:Nat}{W:A4}(h:BG c W)(s:Ar):BG c (Dh s W).2.world:=by
 unfold Dh;generalize nV (nS (nS s (max 1 W.next)) 5) 16=v;generalize nS (nS (nS s (max 1 W.next)) 5) 16=s3;unfold stepAt;split
 ·exact(Ri ..).up
 ·exact(Qp ..).up
 ·exact(Rl ..).up
 ·exact(Rl ..).up
 ·exact(Rl ..).up
 ·exact(zGq ..).up
 ·exact(YW ..).up
 ·exact(YW ..).up
 ·exact(zA6 ..).up
 ·exact(zA7 ..).up
 ·exact(zEl ..).up
 ·exact zA8 h
 ·exact(RQ ..).up
variable{s:Ar}
theorem O2(h:B7 s)(W:A4):B7 (Dh s W).1:=by
 have a:=Bl (Bl (Bl h (max 1 W.next)) 5) 16;unfold Dh;generalize nV (nS (nS s (max 1 W.next)) 5) 16=v;generalize nS (nS (nS s (max 1 W.next)) 5) 16=s3 at a;unfold stepAt;split<;>dsimp only
 all_goals first
  | exact a
  | exact Bl a _
  | exact Lh a
  | exact Bl (Bl (Lh a) _) _
theorem zFU(x:Int):Bw (nwW x):=by
 unfold nwW;split
 ·refine⟨⟨by show x.toNat<=_;omega,Nat.zero_le _,Nat.zero_le _,Nat.zero_le _,fun i hi=>absurd hi (Nat.not_lt_zero _),fun i hi=>absurd hi (Nat.not_lt_zero _)⟩,fun i hi=>Nat.zero_le _⟩
 ·exact⟨⟨Nat.zero_le _,Nat.zero_le _,Nat.zero_le _,Nat.zero_le _,fun i hi=>absurd hi (Nat.not_lt_zero _),fun i hi=>absurd hi (Nat.not_lt_zero _)⟩,fun i hi=>Nat.zero_le _⟩
def runW:Nat->Ar->A4->Ar×A4
 | 0,s,W=>(s,W)
 | r+1,s,W=>if (Dh s W).2.code=0 then runW r (Dh s W).1 (Dh s W).2.world else runW r (Dh s W).1 W
theorem PZ:∀(r:Nat) {s:Ar} {W:A4},B7 s->BG 0 W->B7 (runW r s W).1/\BG 0 (runW r s W).2
 | 0,s,W,hs,hW=>⟨hs,hW⟩
 | r+1,s,W,hs,hW=>by
  unfold runW;split
  ·exact PZ r (O2 hs W) (XQ hW s)
  ·exact PZ r (O2 hs W) hW
def spoilAt(s:Ar)(W:A4):Nat->Ar×A4
 | 0=>(nS s 3,{W with time:=[0,900000,900001].getD (nV s 3).toNat 0})
 | 1=>(s,{W with next:=1})
 | 2=>if 0<W.sn then(s,{W with A1:=fun i=>if i=0 then {W.A1 0 with dn:=(Bx (W.A1 0).dn (W.A1 0).ds (W.A1 0).db ++ [(1,1)]).length,ds:=AK (Bx (W.A1 0).dn (W.A1 0).ds (W.A1 0).db ++ [(1,1)]),db:=AM (Bx (W.A1 0).dn (W.A1 0).ds (W.A1 0).db ++ [(1,1)])}else W.A1 i})else(s,W)
 | 3=>if 0<W.pn then(nS s 3,{W with A2:=fun i=>if i=0 then {W.A2 0 with A6:=1+nV s 3}else W.A2 i})else(s,W)
 | 4=>if 0<W.sn then((Eg s W.pool).1,{W with A1:=fun i=>if i=0 then {W.A1 0 with rs:=(Eg s W.pool).2.1,rb:=(Eg s W.pool).2.2}else W.A1 i})else(s,W)
 | _=>(nS s 5,{W with pool:=CM W.pool (nV s 5)})
def Ir(s:Ar)(W:A4):Ar×A4:=if nV s 20=0 then spoilAt (nS (nS s 20) 6) W (nV (nS s 20) 6).toNat else(nS s 20,W)
def Dj(s:Ar):Ar×A4:=
 let q:=runW (nV (nS s 60) (12+2*(nS s 60).size)).toNat (nS (nS s 60) (12+2*(nS s 60).size)) (Gb (nwW (20+nV s 60)) ⟨#[97]⟩).world
 Ir q.1 q.2
attribute [-go_sem] Bz CG
attribute [local go_sem] NW NX N6 N4 N5 NM NN NO Mz yH qn N3 N2 N1 N0 MB
def qS:AJ:=AU (fun s:Ar=>[(true,srV s)]) (fun s=>B7 s) (fun s=>[(true,srV (Dj s).1),woO (Dj s).2])
theorem Qv(s:Ar):qS [(true,srV s)]=some (B7 s,[(true,srV (Dj s).1),woO (Dj s).2]):=Af (fun l=>G2 (nth l 0)) (fun _=>rfl) s
theorem Yb:D7 Tryz.prog 16 qS:=by
 refine EW (A:=fun _=>[]) Al (GOk.cons zCD (AB Tryz.func40 rfl rfl) (GOk.ptr zBJ (AB Tryz.func41 rfl rfl) (GOk.ptr NF (AB Tryz.func19 rfl rfl) (GOk.ptr GJ (AB Tryz.func21 rfl rfl) (GOk.cons XT (AB Tryz.func39 rfl rfl) (GOk.ptr zf (AB Tryz.func42 rfl rfl) GOk.nil)))))) Ak Tryz.func16 rfl Tryz.ntmps16 Tryz.results16 88 ?_;rintro s hs;replace hs:B7 s:=hs;obtain⟨t,V⟩:∃t,Dj s=t:=⟨_,rfl⟩;obtain⟨s1,J⟩:∃s1,nS s 60=s1:=⟨_,rfl⟩;have N:B7 s1:=J▸Bl hs _;have hv:=Ex s (m:=60) (by omega) (by omega);have hz:=N.size;have R:IntKind.i64.wrap (20+nV s 60)=20+nV s 60:=Fi (by omega) (by omega);have S:IntKind.i64.wrap (2*s1.size)=2*s1.size:=Fi (by omega) (by omega);have T:IntKind.i64.wrap (12+2*s1.size)=12+2*s1.size:=Fi (by omega) (by omega);have Q:12+2*s1.size<=1000000000000000000:=by omega
 obtain⟨s2,L⟩:∃s2,nS s1 (12+2*s1.size)=s2:=⟨_,rfl⟩;have Y:B7 s2:=L▸Bl N _;obtain⟨K,hK⟩:∃K:Nat,nV s1 (12+2*s1.size)=K:=⟨_,(Int.toNat_of_nonneg (JI s1 Q).1).symm⟩;have P:K<40:=by have:=(Ex s1 (m:=12+2*s1.size) (by omega) Q).2;omega
 have Z:Bw (nwW (20+nV s 60)):=zFU _;obtain⟨o,M⟩:∃o,Gb (nwW (20+nV s 60)) ⟨#[97]⟩=o:=⟨_,rfl⟩;have hg:BG 0 o.world:=M▸Ri _ _;have c:t=Ir (runW K s2 o.world).1 (runW K s2 o.world).2:=by
  rw[<-V];show Ir (runW (nV (nS s 60) (12+2*(nS s 60).size)).toNat (nS (nS s 60) (12+2*(nS s 60).size)) (Gb (nwW (20+nV s 60)) ⟨#[97]⟩).world).1 (runW (nV (nS s 60) (12+2*(nS s 60).size)).toNat (nS (nS s 60) (12+2*(nS s 60).size)) (Gb (nwW (20+nV s 60)) ⟨#[97]⟩).world).2=_;rw[J,L,hK,M];rfl
 refine⟨by simp,?_⟩;show ev _ _ _ _ _ _ (LO _ _ [(true,srV (Dj s).1),woO (Dj s).2]);rw[V];simp[go_sem,DF,zFN,Xr,hs,N,J,L,R,S,T,Q,hK,Z,M];refine BC (fun q:Nat×Ar×A4=>⟨[(4,true,.i q.1),(3,true,.m false [.p 3 0]),(2,true,.m false [.p 2 0]),(0,true,.m false [.p 0 0])],[(0,.var [.s .z 1 q.2.1.bn (G5 q.2.1.bf),.v (.int .i64 q.2.1.pos),.v (.int .u64 q.2.1.mix),.v (.int .i64 q.2.1.size)]),(3,.var [.h 61,.h 62,.v (.int .i64 q.2.2.time),.v (.int .i64 q.2.2.next),.h 63,.h 64]),(64,.row 8 q.2.2.pn (snapsE .z q.2.2.A2)),(63,.row 6 q.2.2.sn (setsE .o q.2.2.A1)),(62,.row 1 q.2.2.pool.hn (BF q.2.2.pool.h)),(61,.row 3 q.2.2.pool.n (Aw .z q.2.2.pool.s)),(2,.var [.v n0,.v n0,.v i0,.v i0,.v n0,.v n0])]⟩) (fun q=>q.1) (fun q=>q.1<40/\B7 q.2.1/\BG 0 q.2.2/\t=Ir (runW q.1 q.2.1 q.2.2).1 (runW q.1 q.2.1 q.2.2).2) (K,s2,o.world) (by simp[go_sem]) ⟨P,Y,hg,c⟩ ?_;rintro⟨r,s,W⟩ ⟨G,hs,D,c⟩;replace G:r<40:=G;replace hs:B7 s:=hs;replace D:BG 0 W:=D;replace c:t=Ir (runW r s W).1 (runW r s W).2:=c;have H:=D.CI (by omega);have hx:=D.next;cases r with
 | succ r=>
  have U:IntKind.i64.wrap (r:Int)=r:=Fi (by omega) (by omega);have C:=c;unfold runW at C;by_cases I:(Dh s W).2.code=0
  ·rw[if_pos I]at C;simp[go_sem,VF,hs,H,show W.next<=1000000000 by omega,I,U];exact⟨r,(Dh s W).1,(Dh s W).2.world,⟨by omega,O2 hs W,XQ D s,C⟩,by omega,rfl,⟨TrE.refl _,rfl,rfl,rfl⟩,⟨rfl,rfl⟩,TrE.refl _,TrE.refl _,TrE.refl _,TrE.refl _⟩
  ·rw[if_neg I]at C;simp[go_sem,VF,hs,H,show W.next<=1000000000 by omega,I,U];exact⟨r,(Dh s W).1,W,⟨by omega,O2 hs W,D,C⟩,by omega,rfl,⟨TrE.refl _,rfl,rfl,rfl⟩,⟨rfl,rfl⟩,TrE.refl _,TrE.refl _,TrE.refl _,TrE.refl _⟩
 | zero=>
  replace c:t=Ir s W:=c;unfold Ir at c;by_cases d:nV s 20=0;rotate_left
  ·rw[if_neg d]at c;simp[go_sem,EF,hs,d,c,CR,Bg,Bq,CX,CW]
  rw[if_pos d]at c;obtain⟨a,w⟩:∃a,nS s 20=a:=⟨_,rfl⟩;obtain⟨b,x⟩:∃b,nS a 6=b:=⟨_,rfl⟩;obtain⟨v,k⟩:∃v:Nat,nV a 6=v:=⟨_,(Int.toNat_of_nonneg (JI a (m:=6) (by omega)).1).symm⟩;have y:B7 a:=w▸Bl hs _;have B:B7 b:=x▸Bl y _;rw[w,x,k]at c;have hn:=H.n;have dA:=Ex b (m:=3) (by omega) (by omega);have hw:IntKind.i64.wrap (1+nV b 3)=1+nV b 3:=Fi (by omega) (by omega);have X:v<6:=(by have:=(Ex a (m:=6) (by omega) (by omega)).2;omega);have hd:=fun h=>(D.A1 0 h).dn
  rcases(show v=0\/v=1\/v=2\/v=3\/v=4\/v=5 by omega)with e | e | e | e | e | e<;>subst e
  ·have q:t=(nS b 3,{W with time:=[0,900000,900001].getD (nV b 3).toNat 0}):=c;rcases(show nV b 3=0\/nV b 3=1\/nV b 3=2 by omega)with O | O | O<;>simp[go_sem,EF,DF,hs,y,B,d,w,x,k,O,q,CR,Bg,Bq,CX,CW]
  ·have q:t=(b,{W with next:=1}):=c;simp[go_sem,EF,DF,hs,y,B,d,w,x,k,q,CR,Bg,Bq,CX,CW]
  ·replace c:t=if 0<W.sn then _ else _:=c
   by_cases u:0<W.sn
   ·rw[if_pos u]at c;simp[go_sem,EF,DF,hs,y,B,d,w,x,k,u,c,CR,Bg,Bq,CX,CW];have bA:=hd u;refine⟨by omega,by kernel_rfl,⟨.inl rfl,rfl,rfl,fun i j hi E=>?_⟩⟩;by_cases e:i=0
    ·subst e
     match j,E with
     | 0,_ | 1,_ | 2,_ | 3,_ | 4,_=>exact TrE.of_eq (by simp[Ab,setsE])
     | 5,_=>
      have:=No (n:=(W.A1 0).dn) (m:=(W.A1 0).dn+1) (f:=(W.A1 0).ds) (g:=(W.A1 0).db) (l:=[(1,1)]) (F:=Ah (ptrsT (W.A1 0).ds (W.A1 0).db) (W.A1 0).dn fun p q=>(([.v (.int .i64 1),.v (.int .i64 1)]:List Tr)[p*2+q]?.getD (.v (.bool false))).nt) rfl (fun a b y B=>by
       unfold Ah;split
       ·rfl
       ·have:a - (W.A1 0).dn=0:=(by omega);rw[this]
        match b,B with
        | 0,_ | 1,_=>rfl)
      simpa[Ab,setsE]using this
    ·exact TrE.of_eq (by unfold setsE;simp[Ab,e])
   ·rw[if_neg u]at c;simp[go_sem,EF,DF,hs,y,B,d,w,x,k,u,c,CR,Bg,Bq,CX,CW]
  ·replace c:t=if 0<W.pn then _ else _:=c
   by_cases u:0<W.pn
   ·rw[if_pos u]at c;simp[go_sem,EF,DF,hs,y,B,d,w,x,k,u,c,hw,CR,Bg,Bq,CX,CW];refine⟨by kernel_rfl,⟨.inl rfl,rfl,rfl,fun i j hi E=>TrE.of_eq ?_⟩⟩;by_cases e:i=0
    ·subst e
     match j,E with
     | 0,_ | 1,_ | 2,_ | 3,_ | 4,_ | 5,_ | 6,_ | 7,_=>simp[Ab,snapsE]
    ·unfold snapsE;simp[Ab,e]
   ·rw[if_neg u]at c;simp[go_sem,EF,DF,hs,y,B,d,w,x,k,u,c,CR,Bg,Bq,CX,CW]
  ·replace c:t=if 0<W.sn then _ else _:=c
   by_cases u:0<W.sn
   ·rw[if_pos u]at c;simp[go_sem,EF,DF,zFF,hs,y,B,d,w,x,k,u,c,hn,CR,Bg,Bq,CX,CW];refine⟨by kernel_rfl,⟨.inl rfl,rfl,rfl,fun i j hi E=>TrE.of_eq ?_⟩⟩;by_cases e:i=0
    ·subst e
     match j,E with
     | 0,_ | 1,_ | 2,_ | 3,_ | 4,_ | 5,_=>simp[Ab,setsE]
    ·unfold setsE;simp[Ab,e]
   ·rw[if_neg u]at c;simp[go_sem,EF,DF,hs,y,B,d,w,x,k,u,c,CR,Bg,Bq,CX,CW]
  ·have q:t=(nS b 5,{W with pool:=CM W.pool (nV b 5)}):=c;simp[go_sem,EF,DF,hs,y,B,d,w,x,k,q,CR,Bg,Bq,CX,CW];have:=H.hn;exact⟨by omega,by kernel_rfl,TrE.refl _,Qq⟩
set_option maxRecDepth 20000
set_option maxHeartbeats 3200000
theorem zH6(h:B7 s)(p:A5):B7 (Eg s p).1:=by
 unfold Eg;split
 ·exact Bl (Bl (Bl h 8) 14) 4
 ·exact Bl (Bl h 8) p.n
theorem zAX{W:A4}(hs:B7 s)(h:BG 0 W)(v:Nat):B7 (spoilAt s W v).1/\BG 1 (spoilAt s W v).2:=by
 have g:BG 1 W:=h.up;unfold spoilAt;split
 ·exact⟨Bl hs 3,⟨g.pool,g.sn,g.pn,g.next,g.A1,g.A2⟩⟩
 ·exact⟨hs,⟨g.pool,g.sn,g.pn,by show(0:Int)<=1/\(1:Int)<=900001;omega,g.A1,g.A2⟩⟩
 ·split
  ·rename_i b
   have a:=h.A1 0 b;refine⟨hs,⟨g.pool,g.sn,g.pn,g.next,fun i hi=>?_,g.A2⟩⟩;dsimp only;split
   ·refine⟨?_,a.name,a.A6⟩;have:=a.dn;simp only[List.length_append,Og,List.length_cons,List.length_nil];omega
   ·exact g.A1 i hi
  ·exact⟨hs,g⟩
 ·split
  ·rename_i b
   have a:=g.A2 0 b;have hv:=Ex s (m:=3) (by omega) (by omega);refine⟨Bl hs 3,⟨g.pool,g.sn,g.pn,g.next,g.A1,fun i hi=>?_⟩⟩;dsimp only;split
   ·exact⟨a.dn,a.name,a.set,by dsimp only;omega,a.id⟩
   ·exact g.A2 i hi
  ·exact⟨hs,g⟩
 ·split
  ·rename_i b
   have a:=g.A1 0 b;refine⟨zH6 hs _,⟨g.pool,g.sn,g.pn,g.next,fun i hi=>?_,g.A2⟩⟩;dsimp only;split
   ·exact⟨a.dn,a.name,a.A6⟩
   ·exact g.A1 i hi
  ·exact⟨hs,g⟩
 ·refine⟨Bl hs 5,⟨?_,g.sn,g.pn,g.next,g.A1,g.A2⟩⟩;have:=h.pool;show W.pool.n+D9 W.pool.s W.pool.n+(W.pool.hn+1)<=19000+1;unfold An at this;omega
theorem QF(hs:B7 s):B7 (Dj s).1/\BG 1 (Dj s).2:=by
 have h:=PZ (nV (nS s 60) (12+2*(nS s 60).size)).toNat (Bl (Bl hs 60) (12+2*(nS s 60).size)) (Ri (nwW (20+nV s 60)) ⟨#[97]⟩);unfold Dj Ir;dsimp only;split
 ·exact zAX (Bl (Bl h.1 20) 6) h.2 _
 ·exact⟨Bl h.1 20,h.2.up⟩
theorem Yc(s:Ar):(GO s).size<=8000:=by
 have h:∀i,(SC.getD i ⟨#[]⟩).size<=8000:=fun i=>by
  match i with
  | 0 | 1 | 2 | 3 | 4=>decide
  | i+5=>exact Nat.zero_le _
 exact h _
set_option linter.unusedSimpArgs false
set_option maxRecDepth 20000
set_option maxHeartbeats 3200000
attribute [go_sem] CG
attribute [go_sem] Bz
attribute [-go_sem] Bz
attribute [-go_sem] CG
attribute [local go_sem] NW NX N6 N4 N5 NM NN NO Mz yH qn N3 N2 N1 N0 MB
def byS(s:Ar):Nat->Ar
 | 0=>s
 | k+1=>nS (byS s k) 256
def byL(s:Ar):Nat->List Int
 | 0=>[]
 | k+1=>byL s k ++ [IntKind.u8.wrap (nV (byS s k) 256)]
theorem Pq(s:Ar):∀k,(byL s k).length=k
 | 0=>rfl
 | k+1=>by rw[byL,List.length_append,Pq s k];rfl
theorem Zr{s:Ar}(h:B7 s):∀k,B7 (byS s k)
 | 0=>h
 | k+1=>Bl (Zr h k) 256
def zJ(x:Int):Nat->Tr:=fun _=>.v (.int .u8 x)
abbrev byR(l:List Int):Nat->Nat->Tr:=DD zJ 0 l
variable{l:List Int}
theorem zFo{fl:Fl}{m:List Int}{x:Int}(h:l ++ [x]=m):TrE (.s fl 1 (l.length+1) (Ah (byR l) l.length (fun p q=>([Tr.v (Value.int .u8 x)][p+q]?.getD (.v (.bool false))).nt))) (.s fl 1 m.length (byR m)):=by
 have:=GF (fl:=fl) (enc:=zJ) (k:=1) (d:=(0:Int)) (ts:=[Tr.v (Value.int .u8 x)]) (fun j a=>by cases (show j=0 by omega);rfl) h;simpa only[Nat.mul_one]using this
def qE:AJ:=AU (fun q:Ar×Nat=>(true,srV q.1) :: [iT (q.2:Int)]) (fun q=>B7 q.1/\q.2<=1000) (fun q=>[(true,srV (byS q.1 q.2)),sT' (GR (byL q.1 q.2).length (byR (byL q.1 q.2)))])
theorem zDX(s:Ar)(n:Nat):qE ((true,srV s) :: [iT (n:Int)])=some (B7 s/\n<=1000,[(true,srV (byS s n)),sT' (GR (byL s n).length (byR (byL s n)))]):=Af (fun l=>(G2 (nth l 0),(AQ (nth l 1 0)).toNat)) (fun _=>rfl) (s,n)
theorem zEW:D7 Tryz.prog 20 qE:=by
 refine EW Al (GOk.ptr GJ (AB Tryz.func21 rfl rfl) GOk.nil) Ak Tryz.func20 rfl Tryz.ntmps20 Tryz.results20 7 ?_;rintro⟨s,n⟩ ⟨hs,hn⟩;replace hs:B7 s:=hs;replace hn:n<=1000:=hn;refine⟨by simp,?_⟩;obtain⟨F,hF⟩:∃F:Nat->List Int,∀k,F k=byL s k:=⟨_,fun _=>rfl⟩;have a:∀k,(F k).length=k:=fun k=>by rw[hF,Pq]
 simp[go_sem];refine BC (fun k:Nat=>⟨[(6,true,.i k),(5,true,.m false [.h 71]),(0,true,.m false [.p 0 0]),(1,true,.i n)],[(71,.row 1 (F k).length (byR (F k))),(0,.var [.s .z 1 (byS s k).bn (G5 (byS s k).bf),.v (.int .i64 (byS s k).pos),.v (.int .u64 (byS s k).mix),.v (.int .i64 (byS s k).size)])]⟩) (fun k=>n - k) (fun k=>k<=n) 0 (by simp[go_sem,hF,byL,byS];exact KZ rfl) (Nat.zero_le _) ?_;intro k e;have b:=Zr hs k;have d:=a k;simp[go_sem,DF,b,Ao (show k<=1000000000 by omega),CR];refine⟨fun c=>⟨by omega,k+1,by omega,by omega,rfl,zFo ?_,TrE.refl _,rfl,rfl,rfl⟩,fun c=>?_⟩
 ·rw[hF (k+1),byL,<-hF]
 ·obtain rfl:k=n:=(by omega);exact⟨fun p _=>⟨_,rfl⟩,⟨TrE.refl _,rfl,rfl,rfl⟩,by rw[hF]⟩
theorem Y4(n:Nat)(f:Nat->Nat->Tr):(GR n f).size=n:=by simp[GR,strOfNums,ByteArray.size]
theorem Px(h:∀x,x∈l->(Lit.int .i64 x).wf=true)(i:Nat):(Lit.int .i64 (l.getD i 0)).wf=true:=by
 rw[List.getD_eq_getElem?_getD];cases e:l[i]? with
 | none=>rfl
 | some x=>exact h x (List.mem_of_getElem? e)
theorem zEd(s:Ar):(Lit.int .i64 (KI s)).wf=true:=Px (by decide) _
theorem TR(s:Ar):(Lit.int .i64 (Ee s)).wf=true:=by
 unfold Ee;split
 ·refine Px (fun x a=>?_) _;simp only[List.mem_cons,List.not_mem_nil,or_false]at a;rcases a with rfl | rfl | rfl | rfl
  ·decide
  ·decide
  ·decide
  ·exact zEd _
 ·exact Px (by decide) _
def JC(s:Ar):ByteArray:=if nV s 15=0 then GR (byL (nS (nS s 15) 18) (nV (nS s 15) 18).toNat).length (byR (byL (nS (nS s 15) 18) (nV (nS s 15) 18).toNat))else JM (nS s 15)
theorem zEG(s:Ar):(JC s).size<=100000:=by
 unfold JC;split
 ·rw[Y4,Pq];have:=Ex (nS s 15) (m:=18) (by omega) (by omega);omega
 ·unfold JM;rw[Y4];omega
def ES(n:Nat)(f:Nat->Int):(A4×ByteArray)×Int×ByteArray:=(((Dj (F2 n f)).2,GO (Dj (F2 n f)).1),Ee (nS (Dj (F2 n f)).1 5),JC (Ed (nS (Dj (F2 n f)).1 5)))
def T1:AJ:=AU (fun q:Nat×(Nat->Int)=>[byT q.1 q.2]) (fun q=>I1 q.1 q.2) (fun q=>[woO (ES q.1 q.2).1.1,sT' (ES q.1 q.2).1.2,iT (ES q.1 q.2).2.1,sT' (ES q.1 q.2).2.2])
theorem OX(n:Nat)(f:Nat->Int):T1 [byT n f]=some (I1 n f,[woO (ES n f).1.1,sT' (ES n f).1.2,iT (ES n f).2.1,sT' (ES n f).2.2]):=Af (fun l=>(DI (nth l 0 0),fun i=>match Br (nth l 0 0) i 0 with | .v (.int _ x)=>x | _=>0)) (fun _=>rfl) (n,f)
theorem zDD:Am Tryz.prog 4 T1:=by
 refine Az Al (GOk.new Z4 (AB Tryz.func15 rfl rfl) (GOk.ptr Yb (AB Tryz.func16 rfl rfl) (GOk.ptr RU (AB Tryz.func17 rfl rfl) (GOk.ptr RM (AB Tryz.func18 rfl rfl) (GOk.ptr NF (AB Tryz.func19 rfl rfl) (GOk.ptr GJ (AB Tryz.func21 rfl rfl) (GOk.ptr zEW (AB Tryz.func20 rfl rfl) (GOk.ptr Ya (AB Tryz.func22 rfl rfl) GOk.nil)))))))) Ak Tryz.func4 rfl Tryz.ntmps4 Tryz.results4 10 ?_;rintro⟨n,f⟩ a;replace a:I1 n f:=a;have g:=R7 a.1 a.2;have hn:=a.1;obtain⟨q,eq⟩:∃q,Dj (F2 n f)=q:=⟨_,rfl⟩;have h:=eq▸QF g;have i:=Bl h.1 5;have c:=Lh i;obtain⟨s,b⟩:∃s,Ed (nS q.1 5)=s:=⟨_,rfl⟩;rw[b]at c;have j:=Bl c 15;have o:=Bl j 18;have l:ES n f=((q.2,GO q.1),Ee (nS q.1 5),JC s):=by unfold ES;rw[eq,b]
 refine⟨by simp,?_⟩;by_cases d:nV s 15=0
 ·obtain⟨m,p⟩:∃m:Nat,nV (nS s 15) 18=m:=⟨_,(Int.toNat_of_nonneg (Ex (nS s 15) (m:=18) (by omega) (by omega)).1).symm⟩;have k:m<=1000:=(by have:=Ex (nS s 15) (m:=18) (by omega) (by omega);omega);have e:JC s=GR (byL (nS (nS s 15) 18) m).length (byR (byL (nS (nS s 15) 18) m)):=(by unfold JC;rw[if_pos d,p];rfl);simp[go_sem,RX,Qv,OJ,NY,EF,DF,zDX,hn,g,h,i,c,j,o,eq,b,l,d,p,k,e,CR,Bg,Bq,CX,CW];show _=true;kernel_rfl
 ·have e:JC s=JM (nS s 15):=if_neg d;simp[go_sem,RX,Qv,OJ,NY,EF,DF,V7,hn,g,h,i,c,j,o,eq,b,l,d,e,CR,Bg,Bq,CX,CW];show _=true;kernel_rfl
def FW(n:Nat)(f:Nat->Int):(A4×ByteArray)×Int:=(((Dj (F2 n f)).2,GO (Dj (F2 n f)).1),Ee (nS (Dj (F2 n f)).1 5))
def T0:AJ:=AU (fun q:Nat×(Nat->Int)=>[byT q.1 q.2]) (fun q=>I1 q.1 q.2) (fun q=>[woO (FW q.1 q.2).1.1,sT' (FW q.1 q.2).1.2,iT (FW q.1 q.2).2])
theorem OW(n:Nat)(f:Nat->Int):T0 [byT n f]=some (I1 n f,[woO (FW n f).1.1,sT' (FW n f).1.2,iT (FW n f).2]):=Af (fun l=>(DI (nth l 0 0),fun i=>match Br (nth l 0 0) i 0 with | .v (.int _ x)=>x | _=>0)) (fun _=>rfl) (n,f)
theorem zDC:Am Tryz.prog 12 T0:=by
 refine Az Al (GOk.new Z4 (AB Tryz.func15 rfl rfl) (GOk.ptr Yb (AB Tryz.func16 rfl rfl) (GOk.ptr RU (AB Tryz.func17 rfl rfl) (GOk.ptr RM (AB Tryz.func18 rfl rfl) GOk.nil)))) Ak Tryz.func12 rfl Tryz.ntmps12 Tryz.results12 8 ?_;rintro⟨n,f⟩ a;replace a:I1 n f:=a;have b:=R7 a.1 a.2;have hn:=a.1;obtain⟨q,eq⟩:∃q,Dj (F2 n f)=q:=⟨_,rfl⟩;have c:=eq▸QF b;have d:=Bl c.1 5;have g:=Lh d;have e:FW n f=((q.2,GO q.1),Ee (nS q.1 5)):=by unfold FW;rw[eq]
 refine⟨by simp,?_⟩;simp[go_sem,RX,Qv,OJ,NY,hn,b,c,d,g,eq,e,CR,Bg,Bq,CX,CW];show _=true;kernel_rfl
variable{w:World}{p:Nat->Addr}
theorem U5{w':World}{g g':Nat->Bs}(h:DC w p)(d:∀b,∃r,g b = .fz r)(a:Kp w g w' g'):DC w' p:=
 h.A0 ⟨a.os,a.tape,a.output,a.size,fun b c=>let ⟨r,hr⟩:=d b;(a.fz b r hr c).1⟩
set_option linter.unusedSimpArgs false
set_option maxRecDepth 20000
set_option maxHeartbeats 3200000
theorem zE6{P:Program}{f:Nat}{ι : Type}{A:ι->List (Bool×List Tr)}{C:ι->Prop}{R:ι->List (Bool×List Tr)}{T:Tb}{Γ : List (Nat×AJ)}(i:DS P T)(hΓ : ∀g0,(∀b,∃r,g0 b = .fz r)->Gq P Γ w ⟨g0,none⟩)(o:P.follows .mixedOrders=true){fn:Func}{body:Code}{N:Nat}{rv:Array ResultVar}(m:P.funcs[f]?=some fn)(j:fn.body=some body)(g:fn.ntmps=N)(d:fn.results=rv)(n:Nat)
 (h:∀x,C x->(A x).length<=N/\ev N T Γ n body ⟨Dz 0 (A x),[]⟩ (K3 T rv.toList (R x))):Fe P f (AU A C R) w:=by
 refine ZH i hΓ o m j g d n (fun l c rs a k=>?_);unfold AU at a;split at a
 ·rename_i e
  cases a;have:=h e.choose k;rw[e.choose_spec]at this;exact this
 ·cases a
def JR(n:Nat)(f:Nat->Int):Prop:=∀i,i<n->0<=f i/\f i<256
def Lm(w:World)(a:Option Addr)(n:Nat):Prop:=0<n->∃b o,a=some ⟨b,o,none⟩/\b<w.heap.size/\∀i,i<n->∃x:Int,w.cell? ⟨b,o+i,none⟩=some (.int .u8 x)/\0<=x/\x<256
open Classical in
theorem VV{a:Option Addr}{n c:Nat}(h:Lm w a n)(k:n<=c):∃f,JR n f/\Sh w (fun _=>.fz none) (.s .z 1 n (G5 f)) (.slice a n c):=by
 by_cases g:0<n
 ·obtain⟨b,o,rfl,m,d⟩:=h g;refine⟨fun i=>if hi:i<n then(d i hi).choose else 0,fun i hi=>?_,_,_,rfl,k,fun _=>⟨b,o,rfl,m,.inr (fun l e=>by cases e),fun i j hi p=>?_⟩⟩
  ·simp only[dif_pos hi];exact(d i hi).choose_spec.2
  ·cases (show j=0 by omega);refine⟨_,by rw[Nat.mul_one,Nat.add_zero];exact(d i hi).choose_spec.1,?_,rfl⟩;simp only[dif_pos hi]
 ·exact⟨fun _=>0,fun i hi=>by omega,_,_,rfl,k,fun h=>absurd h g⟩
set_option maxRecDepth 20000
set_option maxHeartbeats 3200000
attribute [go_sem] CG
attribute [go_sem] Bz
attribute [-go_sem] Bz
attribute [local go_sem] MB
def VA:AJ:=AU (fun q:(Nat×(Nat->Int))×Nat×(Nat->Int)=>[byT q.1.1 q.1.2,byT q.2.1 q.2.2]) (fun q=>JR q.1.1 q.1.2/\JR q.2.1 q.2.2) (fun _=>tT)
theorem zBg(hE:DC w p):Fe Tryz.prog 3 VA w:=by
 refine zE6 Al (fun g0 hz w' g hk=>Bc.putA (by decide) (zDT (U5 hE hz hk)) (AB Tryz.func5 rfl rfl) (Bc.putA (by decide) (zGE (U5 hE hz hk)) (AB Tryz.func13 rfl rfl) (Bc.putA (by decide) (zm _) (AB Tryz.func6 rfl rfl) (Bc.putA (by decide) (zl _) (AB Tryz.func9 rfl rfl) (Bc.putA (by decide) (Vw _) (AB Tryz.func11 rfl rfl) (Bc.putA (by decide) (Vv _) (AB Tryz.func10 rfl rfl) (Bc.putK (by decide) (zDD _) (AB Tryz.func4 rfl rfl) (Bc.putK (by decide) (zDC _) (AB Tryz.func12 rfl rfl) (Bc.putA (by decide) (Yw _) (AB Tryz.func7 rfl rfl) (Bc.putA (by decide) (YD _) (AB Tryz.func14 rfl rfl) (Bc.putA (by decide) (VK _) (AB Tryz.func8 rfl rfl) Bc.nil))))))))))) Ak Tryz.func3 rfl Tryz.ntmps3 Tryz.results3 16 ?_;rintro⟨⟨n,f⟩,m,h⟩ ⟨h1,h2⟩;replace h1:JR n f:=h1;replace h2:JR m h:=h2;refine⟨by simp,?_⟩;by_cases b1:1048576<n
 ·simp[go_sem,show(1048576:Int)<n by omega]
 by_cases b2:1048576<m
 ·simp[go_sem,show ¬(1048576:Int)<n by omega,show(1048576:Int)<m by omega]
 have q1:¬(1048576:Int)<n:=by omega
 have q2:¬(1048576:Int)<m:=by omega
 have t:I1 n f:=⟨by omega,h1⟩;have k:I1 m h:=⟨by omega,h2⟩;have hd:∀n f,I1 n f->BG 1 (Dj (F2 n f)).2:=fun n f t=>(QF (R7 t.1 t.2)).2
 obtain⟨⟨⟨W,x⟩,pg,d⟩,j⟩:∃d,ES n f=d:=⟨_,rfl⟩;obtain⟨⟨⟨V,y⟩,pn⟩,l⟩:∃d,FW m h=d:=⟨_,rfl⟩;have S:BG 1 W:=by have:=hd n f t;unfold ES at j;rw[(Prod.mk.inj (Prod.mk.inj j).1).1]at this;exact this
 have R:BG 1 V:=by have:=hd m h k;unfold FW at l;rw[(Prod.mk.inj (Prod.mk.inj l).1).1]at this;exact this
 have hx:x.size<=8000:=by unfold ES at j;rw[<-(Prod.mk.inj (Prod.mk.inj j).1).2];exact Yc _
 have hy:y.size<=8000:=by unfold FW at l;rw[<-(Prod.mk.inj (Prod.mk.inj l).1).2];exact Yc _
 have hg:(Lit.int .i64 pg).wf=true:=by unfold ES at j;rw[<-(Prod.mk.inj (Prod.mk.inj j).2).1];exact TR _
 have s:(Lit.int .i64 pn).wf=true:=by unfold FW at l;rw[<-(Prod.mk.inj l).2];exact TR _
 have r:d.size<=100000:=by unfold ES at j;rw[<-(Prod.mk.inj (Prod.mk.inj j).2).2];exact zEG _
 have G:=S.CI (c:=1) (by omega);have E:=R.CI (c:=1) (by omega);obtain⟨O,H⟩:∃O,EU W x pg d=O:=⟨_,rfl⟩;obtain⟨P,I⟩:∃P,EP V y pn=P:=⟨_,rfl⟩;have gO:BG 1 O.world:=H▸(RQ W x pg d).up;have gP:BG 1 P.world:=I▸(Qp V y pn).up;have sO:=(gO.CI (c:=1) (by omega)).toSmallW;have sP:=(gP.CI (c:=1) (by omega)).toSmallW;rcases zC6 H with⟨u,U⟩ | ⟨u,U,J,⟨K,o5⟩,ja,o6,ha,o7,o8⟩<;>rcases zBe I with⟨v,X⟩ | ⟨v,X,L,⟨M,p5⟩,jb,p6,T,p7,p8⟩
 ·simp[go_sem,q1,q2,OX,OW,Oa,OL,MG,Lx,Iz O O,Iz P P,t,k,j,l,S,R,hx,hy,hg,s,r,G,E,H,I,u,U,v,X];refine⟨by kernel_rfl,by kernel_rfl,?_⟩;show _=true;kernel_rfl
 ·subst p6;have Z:=Iz P P;simp only[wuL,v]at Z;obtain⟨q,i⟩:∃D,C4 V y=D:=⟨_,rfl⟩;obtain⟨Q,b⟩:∃F,C4 P.world y=F:=⟨_,rfl⟩;have A:Ai V.pool q.rs q.rb:=⟨L.right,i▸I5 L _⟩;have C:Ai P.world.pool Q.rs Q.rb:=⟨M.right,b▸I5 M _⟩;rw[i,b]at p8;rw[b]at p7;have wb:IntKind.i64.wrap (jb:Int)=jb:=Fi (by omega) (by omega);simp[go_sem,q1,q2,OX,OW,Oa,OL,MG,Lx,Iz O O,Z,OY V P.world,I4 V y,I4 P.world y,MS P.world.pool,L5 V.pool q.rs q.rb P.world.pool,t,k,j,l,S,R,hx,hy,hg,s,r,G,E,H,I,u,U,v,X,L,M,p5,i,b,A,C,wb,p7,T,sP,E.toSmallW];refine⟨by kernel_rfl,by kernel_rfl,p8,?_⟩;show _=true;kernel_rfl
 ·subst o6;have Y:=Iz O O;simp only[wuL,u]at Y;obtain⟨o,e⟩:∃D,C4 W x=D:=⟨_,rfl⟩;obtain⟨N,a⟩:∃F,C4 O.world x=F:=⟨_,rfl⟩;have z:Ai W.pool o.rs o.rb:=⟨J.right,e▸I5 J _⟩;have B:Ai O.world.pool N.rs N.rb:=⟨K.right,a▸I5 K _⟩;rw[e,a]at o8;rw[a]at o7;have wa:IntKind.i64.wrap (ja:Int)=ja:=Fi (by omega) (by omega);simp[go_sem,q1,q2,OX,OW,Oa,OL,MG,Lx,Y,Iz P P,OY W O.world,I4 W x,I4 O.world x,MS O.world.pool,L5 W.pool o.rs o.rb O.world.pool,t,k,j,l,S,R,hx,hy,hg,s,r,G,E,H,I,u,U,J,K,o5,v,X,e,a,z,B,wa,o7,ha,sO,G.toSmallW];refine⟨by kernel_rfl,o8,by kernel_rfl,by kernel_rfl,?_⟩;show _=true;kernel_rfl
 ·subst o6;have Y:=Iz O O;simp only[wuL,u]at Y;obtain⟨o,e⟩:∃D,C4 W x=D:=⟨_,rfl⟩;obtain⟨N,a⟩:∃F,C4 O.world x=F:=⟨_,rfl⟩;have z:Ai W.pool o.rs o.rb:=⟨J.right,e▸I5 J _⟩;have B:Ai O.world.pool N.rs N.rb:=⟨K.right,a▸I5 K _⟩;rw[e,a]at o8;rw[a]at o7;have wa:IntKind.i64.wrap (ja:Int)=ja:=Fi (by omega) (by omega);subst p6;have Z:=Iz P P;simp only[wuL,v]at Z;obtain⟨q,i⟩:∃D,C4 V y=D:=⟨_,rfl⟩;obtain⟨Q,b⟩:∃F,C4 P.world y=F:=⟨_,rfl⟩;have A:Ai V.pool q.rs q.rb:=⟨L.right,i▸I5 L _⟩;have C:Ai P.world.pool Q.rs Q.rb:=⟨M.right,b▸I5 M _⟩;rw[i,b]at p8;rw[b]at p7;have wb:IntKind.i64.wrap (jb:Int)=jb:=Fi (by omega) (by omega);simp[go_sem,q1,q2,OX,OW,Oa,OL,MG,Lx,Y,Z,OY W O.world,OY V P.world,I4 W x,I4 O.world x,I4 V y,I4 P.world y,MS O.world.pool,MS P.world.pool,L5 W.pool o.rs o.rb O.world.pool,L5 V.pool q.rs q.rb P.world.pool,t,k,j,l,S,R,hx,hy,hg,s,r,G,E,H,I,u,U,J,K,o5,v,X,L,M,p5,e,a,i,b,z,B,A,C,wa,wb,o7,ha,p7,T,sO,sP,G.toSmallW,E.toSmallW];refine⟨by kernel_rfl,o8,by kernel_rfl,by kernel_rfl,p8,?_⟩;show _=true;kernel_rfl
theorem zCQ(d h:Option Addr)(n0 c0 a c1:Nat)(w:World)(s:Lm w d n0)(t:Lm w h a)(j:n0<=c0)(m:a<=c1)(B:DC w p) :
 Calls Tryz.prog 3 #[.slice d n0 c0,.slice h a c1] w fun e w'=>e = .returned (.bool true)/\Below w.heap.size w w':=by
 obtain⟨f,D,G⟩:=VV s j;obtain⟨g,E,sg⟩:=VV t m;have r:VA [byT n0 f,byT a g]=some (JR n0 f/\JR a g,tT):=Af (fun l=>((DI (nth l 0 0),fun i=>match Br (nth l 0 0) i 0 with | .v (.int _ x)=>x | _=>0),DI (nth l 1 0),fun i=>match Br (nth l 1 0) i 0 with | .v (.int _ x)=>x | _=>0)) (fun _=>rfl) ((n0,f),a,g);refine(zBg B _ _ _ r ⟨D,E⟩ (fun _=>.fz none) [.slice d n0 c0,.slice h a c1] (fun b=>⟨none,rfl⟩) (.cons ⟨_,rfl,G⟩ (.cons ⟨_,rfl,sg⟩ .nil))).mono ?_;rintro e w' ⟨v,k,rfl,c,ys,F,hv⟩;obtain⟨y,I,cs,rfl,o,n,q⟩:=F;cases q;cases hv;obtain⟨u,H,rfl,z,A⟩:=n;cases A;cases o;refine⟨by rw[z.1],⟨c.os,c.tape,c.output,c.size,fun b C=>(c.fz b none rfl C).1⟩⟩
end
end Go.Proofs.YtehdoekmnicdiaaGreatDoor
