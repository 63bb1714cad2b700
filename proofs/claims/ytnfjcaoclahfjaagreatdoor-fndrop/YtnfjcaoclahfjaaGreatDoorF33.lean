/- A part of the proof. -/
import Derived.Test.YtnfjcaoclahfjaaGreatDoorF32
import Derived.Test.YtnfjcaoclahfjaaGreatDoorF26
set_option linter.unusedVariables false
set_option maxRecDepth 20000
set_option maxHeartbeats 4000000
namespace Go.Proofs.YtnfjcaoclahfjaaGreatDoor
noncomputable section
open Go.RowKit
set_option linter.unusedSimpArgs false
set_option maxRecDepth 20000
set_option maxHeartbeats 3200000
theorem Zr{a b:Int}:Br .mul .i64 a .i64 b=some (True,.int .i64 (IntKind.i64.wrap (a*b))):=rfl
theorem Zs{a b:Int}:Br .sub .i64 a .i64 b=some (True,.int .i64 (IntKind.i64.wrap (a - b))):=rfl
variable{W:A4}
theorem VC{c:Nat}(h:B8 c W)(s:Ar):B8 c (DM s W).2.world:=by
 unfold DM;generalize nV (nS (nS s (max 1 W.next)) 5) 16=v;generalize nS (nS (nS s (max 1 W.next)) 5) 16=s3;unfold stepAt;split
 ·exact(RP ..).up
 ·exact(yj ..).up
 ·exact(RR ..).up
 ·exact(RR ..).up
 ·exact(RR ..).up
 ·exact(Q2 ..).up
 ·exact(XZ ..).up
 ·exact(XZ ..).up
 ·exact(yg ..).up
 ·exact(yh ..).up
 ·exact(zEK ..).up
 ·exact yi h
 ·exact(zB7 ..).up
variable{s:Ar}
theorem Nk(h:Az s)(W:A4):Az (DM s W).1:=by
 have a:=Bn (Bn (Bn h (max 1 W.next)) 5) 16;unfold DM;generalize nV (nS (nS s (max 1 W.next)) 5) 16=v;generalize nS (nS (nS s (max 1 W.next)) 5) 16=s3 at a;unfold stepAt;split<;>dsimp only
 all_goals first
  | exact a
  | exact Bn a _
  | exact PQ a
  | exact Bn (Bn (PQ a) _) _
theorem zF2(x:Int):Bc (nwW x):=by
 unfold nwW;split
 ·refine⟨⟨by show x.toNat<=_;omega,Nat.zero_le _,Nat.zero_le _,Nat.zero_le _,fun i hi=>absurd hi (Nat.not_lt_zero _),fun i hi=>absurd hi (Nat.not_lt_zero _)⟩,fun i hi=>Nat.zero_le _⟩
 ·exact⟨⟨Nat.zero_le _,Nat.zero_le _,Nat.zero_le _,Nat.zero_le _,fun i hi=>absurd hi (Nat.not_lt_zero _),fun i hi=>absurd hi (Nat.not_lt_zero _)⟩,fun i hi=>Nat.zero_le _⟩
def runW:Nat->Ar->A4->Ar×A4
 | 0,s,W=>(s,W)
 | r+1,s,W=>if (DM s W).2.code=0 then runW r (DM s W).1 (DM s W).2.world else runW r (DM s W).1 W
theorem PY:∀(r:Nat) {s:Ar} {W:A4},Az s->B8 0 W->Az (runW r s W).1/\B8 0 (runW r s W).2
 | 0,s,W,hs,hW=>⟨hs,hW⟩
 | r+1,s,W,hs,hW=>by
  unfold runW;split
  ·exact PY r (Nk hs W) (VC hW s)
  ·exact PY r (Nk hs W) hW
def spoilAt(s:Ar)(W:A4):Nat->Ar×A4
 | 0=>(nS s 3,{W with time:=[0,900000,900001].getD (nV s 3).toNat 0})
 | 1=>(s,{W with next:=1})
 | 2=>if 0<W.sn then(s,{W with A2:=fun i=>if i=0 then {W.A2 0 with dn:=(B3 (W.A2 0).dn (W.A2 0).ds (W.A2 0).db ++ [(1,1)]).length,ds:=AI (B3 (W.A2 0).dn (W.A2 0).ds (W.A2 0).db ++ [(1,1)]),db:=AK (B3 (W.A2 0).dn (W.A2 0).ds (W.A2 0).db ++ [(1,1)])}else W.A2 i})else(s,W)
 | 3=>if 0<W.pn then(nS s 3,{W with A0:=fun i=>if i=0 then {W.A0 0 with A5:=1+nV s 3}else W.A0 i})else(s,W)
 | 4=>if 0<W.sn then((Ej s W.pool).1,{W with A2:=fun i=>if i=0 then {W.A2 0 with rs:=(Ej s W.pool).2.1,rb:=(Ej s W.pool).2.2}else W.A2 i})else(s,W)
 | _=>(nS s 5,{W with pool:=C9 W.pool (nV s 5)})
def Ip(s:Ar)(W:A4):Ar×A4:=if nV s 20=0 then spoilAt (nS (nS s 20) 6) W (nV (nS s 20) 6).toNat else(nS s 20,W)
def Em(s:Ar):Ar×A4:=
 let q:=runW (nV (nS s 60) (12+2*(nS s 60).size)).toNat (nS (nS s 60) (12+2*(nS s 60).size)) (GX (nwW (20+nV s 60)) ⟨#[97]⟩).world
 Ip q.1 q.2
attribute [-go_sem] BV Br
attribute [local go_sem] Nf NK Mw Mu Mv NH NI NJ Mp Zr Zs Mt Ms Mr Mq ME
def ZJ:AH:=AR (fun s:Ar=>[(true,srV s)]) (fun s=>Az s) (fun s=>[(true,srV (Em s).1),woO (Em s).2])
theorem yO(s:Ar):ZJ [(true,srV s)]=some (Az s,[(true,srV (Em s).1),woO (Em s).2]):=Aa (fun l=>G0 (nth l 0)) (fun _=>rfl) s
theorem zBQ:Ck Tryz.prog 13 ZJ:=by
 refine EZ (A:=fun _=>[]) Ai (GOk.cons zBi (AA Tryz.func39 rfl rfl) (GOk.ptr zA6 (AA Tryz.func41 rfl rfl) (GOk.ptr N2 (AA Tryz.func42 rfl rfl) (GOk.ptr Gn (AA Tryz.func40 rfl rfl) (GOk.cons X5 (AA Tryz.func38 rfl rfl) (GOk.ptr zB (AA Tryz.func43 rfl rfl) GOk.nil)))))) Ah Tryz.func13 rfl Tryz.ntmps13 Tryz.results13 88 ?_;rintro s hs;replace hs:Az s:=hs;obtain⟨t,V⟩:∃t,Em s=t:=⟨_,rfl⟩;obtain⟨s1,J⟩:∃s1,nS s 60=s1:=⟨_,rfl⟩;have N:Az s1:=J▸Bn hs _;have hv:=G4 s (m:=60) (by omega) (by omega);have hz:=N.size;have R:IntKind.i64.wrap (20+nV s 60)=20+nV s 60:=I8 (by omega) (by omega);have S:IntKind.i64.wrap (2*s1.size)=2*s1.size:=I8 (by omega) (by omega);have T:IntKind.i64.wrap (12+2*s1.size)=12+2*s1.size:=I8 (by omega) (by omega);have Q:12+2*s1.size<=1000000000000000000:=by omega
 obtain⟨s2,L⟩:∃s2,nS s1 (12+2*s1.size)=s2:=⟨_,rfl⟩;have Y:Az s2:=L▸Bn N _;obtain⟨K,hK⟩:∃K:Nat,nV s1 (12+2*s1.size)=K:=⟨_,(Int.toNat_of_nonneg (Gt s1 Q).1).symm⟩;have P:K<40:=by have:=(G4 s1 (m:=12+2*s1.size) (by omega) Q).2;omega
 have Z:Bc (nwW (20+nV s 60)):=zF2 _;obtain⟨o,M⟩:∃o,GX (nwW (20+nV s 60)) ⟨#[97]⟩=o:=⟨_,rfl⟩;have hg:B8 0 o.world:=M▸RP _ _;have c:t=Ip (runW K s2 o.world).1 (runW K s2 o.world).2:=by
  rw[<-V];show Ip (runW (nV (nS s 60) (12+2*(nS s 60).size)).toNat (nS (nS s 60) (12+2*(nS s 60).size)) (GX (nwW (20+nV s 60)) ⟨#[97]⟩).world).1 (runW (nV (nS s 60) (12+2*(nS s 60).size)).toNat (nS (nS s 60) (12+2*(nS s 60).size)) (GX (nwW (20+nV s 60)) ⟨#[97]⟩).world).2=_;rw[J,L,hK,M];rfl
 refine⟨by simp,?_⟩;show ev _ _ _ _ _ _ (LI _ _ [(true,srV (Em s).1),woO (Em s).2]);rw[V];simp[go_sem,Cp,zEs,XK,hs,N,J,L,R,S,T,Q,hK,Z,M];refine B2 (fun q:Nat×Ar×A4=>⟨[(4,true,.i q.1),(3,true,.m false [.p 3 0]),(2,true,.m false [.p 2 0]),(0,true,.m false [.p 0 0])],[(0,.var [.s .z 1 q.2.1.bn (GR q.2.1.bf),.v (.int .i64 q.2.1.pos),.v (.int .u64 q.2.1.mix),.v (.int .i64 q.2.1.size)]),(3,.var [.h 61,.h 62,.v (.int .i64 q.2.2.time),.v (.int .i64 q.2.2.next),.h 63,.h 64]),(64,.row 8 q.2.2.pn (snapsE .z q.2.2.A0)),(63,.row 6 q.2.2.sn (setsE .o q.2.2.A2)),(62,.row 1 q.2.2.pool.hn (B5 q.2.2.pool.h)),(61,.row 3 q.2.2.pool.n (Ao .z q.2.2.pool.s)),(2,.var [.v n0,.v n0,.v i0,.v i0,.v n0,.v n0])]⟩) (fun q=>q.1) (fun q=>q.1<40/\Az q.2.1/\B8 0 q.2.2/\t=Ip (runW q.1 q.2.1 q.2.2).1 (runW q.1 q.2.1 q.2.2).2) (K,s2,o.world) (by simp[go_sem]) ⟨P,Y,hg,c⟩ ?_;rintro⟨r,s,W⟩ ⟨G,hs,D,c⟩;replace G:r<40:=G;replace hs:Az s:=hs;replace D:B8 0 W:=D;replace c:t=Ip (runW r s W).1 (runW r s W).2:=c;have H:=D.Bo (by omega);have hx:=D.next;cases r with
 | succ r=>
  have U:IntKind.i64.wrap (r:Int)=r:=I8 (by omega) (by omega);have C:=c;unfold runW at C;by_cases I:(DM s W).2.code=0
  ·rw[if_pos I]at C;simp[go_sem,Tw,hs,H,show W.next<=1000000000 by omega,I,U];exact⟨r,(DM s W).1,(DM s W).2.world,⟨by omega,Nk hs W,VC D s,C⟩,by omega,rfl,⟨TrE.refl _,rfl,rfl,rfl⟩,⟨rfl,rfl⟩,TrE.refl _,TrE.refl _,TrE.refl _,TrE.refl _⟩
  ·rw[if_neg I]at C;simp[go_sem,Tw,hs,H,show W.next<=1000000000 by omega,I,U];exact⟨r,(DM s W).1,W,⟨by omega,Nk hs W,D,C⟩,by omega,rfl,⟨TrE.refl _,rfl,rfl,rfl⟩,⟨rfl,rfl⟩,TrE.refl _,TrE.refl _,TrE.refl _,TrE.refl _⟩
 | zero=>
  replace c:t=Ip s W:=c;unfold Ip at c;by_cases d:nV s 20=0;rotate_left
  ·rw[if_neg d]at c;simp[go_sem,Dn,hs,d,c,CB,BZ,Bj,CO,CN]
  rw[if_pos d]at c;obtain⟨a,w⟩:∃a,nS s 20=a:=⟨_,rfl⟩;obtain⟨b,x⟩:∃b,nS a 6=b:=⟨_,rfl⟩;obtain⟨v,k⟩:∃v:Nat,nV a 6=v:=⟨_,(Int.toNat_of_nonneg (Gt a (m:=6) (by omega)).1).symm⟩;have y:Az a:=w▸Bn hs _;have B:Az b:=x▸Bn y _;rw[w,x,k]at c;have hn:=H.n;have dA:=G4 b (m:=3) (by omega) (by omega);have hw:IntKind.i64.wrap (1+nV b 3)=1+nV b 3:=I8 (by omega) (by omega);have X:v<6:=(by have:=(G4 a (m:=6) (by omega) (by omega)).2;omega);have hd:=fun h=>(D.A2 0 h).dn
  rcases(show v=0\/v=1\/v=2\/v=3\/v=4\/v=5 by omega)with e | e | e | e | e | e<;>subst e
  ·have q:t=(nS b 3,{W with time:=[0,900000,900001].getD (nV b 3).toNat 0}):=c;rcases(show nV b 3=0\/nV b 3=1\/nV b 3=2 by omega)with O | O | O<;>simp[go_sem,Dn,Cp,hs,y,B,d,w,x,k,O,q,CB,BZ,Bj,CO,CN]
  ·have q:t=(b,{W with next:=1}):=c;simp[go_sem,Dn,Cp,hs,y,B,d,w,x,k,q,CB,BZ,Bj,CO,CN]
  ·replace c:t=if 0<W.sn then _ else _:=c
   by_cases u:0<W.sn
   ·rw[if_pos u]at c;simp[go_sem,Dn,Cp,hs,y,B,d,w,x,k,u,c,CB,BZ,Bj,CO,CN];have bA:=hd u;refine⟨by omega,by kernel_rfl,⟨.inl rfl,rfl,rfl,fun i j hi E=>?_⟩⟩;by_cases e:i=0
    ·subst e
     match j,E with
     | 0,_ | 1,_ | 2,_ | 3,_ | 4,_=>exact TrE.of_eq (by simp[AZ,setsE])
     | 5,_=>
      have:=O2 (n:=(W.A2 0).dn) (m:=(W.A2 0).dn+1) (f:=(W.A2 0).ds) (g:=(W.A2 0).db) (l:=[(1,1)]) (F:=Ae (ptrsT (W.A2 0).ds (W.A2 0).db) (W.A2 0).dn fun p q=>(([.v (.int .i64 1),.v (.int .i64 1)]:List Tr)[p*2+q]?.getD (.v (.bool false))).nt) rfl (fun a b y B=>by
       unfold Ae;split
       ·rfl
       ·have:a - (W.A2 0).dn=0:=(by omega);rw[this]
        match b,B with
        | 0,_ | 1,_=>rfl)
      simpa[AZ,setsE]using this
    ·exact TrE.of_eq (by unfold setsE;simp[AZ,e])
   ·rw[if_neg u]at c;simp[go_sem,Dn,Cp,hs,y,B,d,w,x,k,u,c,CB,BZ,Bj,CO,CN]
  ·replace c:t=if 0<W.pn then _ else _:=c
   by_cases u:0<W.pn
   ·rw[if_pos u]at c;simp[go_sem,Dn,Cp,hs,y,B,d,w,x,k,u,c,hw,CB,BZ,Bj,CO,CN];refine⟨by kernel_rfl,⟨.inl rfl,rfl,rfl,fun i j hi E=>TrE.of_eq ?_⟩⟩;by_cases e:i=0
    ·subst e
     match j,E with
     | 0,_ | 1,_ | 2,_ | 3,_ | 4,_ | 5,_ | 6,_ | 7,_=>simp[AZ,snapsE]
    ·unfold snapsE;simp[AZ,e]
   ·rw[if_neg u]at c;simp[go_sem,Dn,Cp,hs,y,B,d,w,x,k,u,c,CB,BZ,Bj,CO,CN]
  ·replace c:t=if 0<W.sn then _ else _:=c
   by_cases u:0<W.sn
   ·rw[if_pos u]at c;simp[go_sem,Dn,Cp,zEj,hs,y,B,d,w,x,k,u,c,hn,CB,BZ,Bj,CO,CN];refine⟨by kernel_rfl,⟨.inl rfl,rfl,rfl,fun i j hi E=>TrE.of_eq ?_⟩⟩;by_cases e:i=0
    ·subst e
     match j,E with
     | 0,_ | 1,_ | 2,_ | 3,_ | 4,_ | 5,_=>simp[AZ,setsE]
    ·unfold setsE;simp[AZ,e]
   ·rw[if_neg u]at c;simp[go_sem,Dn,Cp,hs,y,B,d,w,x,k,u,c,CB,BZ,Bj,CO,CN]
  ·have q:t=(nS b 5,{W with pool:=C9 W.pool (nV b 5)}):=c;simp[go_sem,Dn,Cp,hs,y,B,d,w,x,k,q,CB,BZ,Bj,CO,CN];have:=H.hn;exact⟨by omega,by kernel_rfl,TrE.refl _,Qt⟩
set_option maxRecDepth 20000
set_option maxHeartbeats 3200000
theorem zGs(h:Az s)(p:A7):Az (Ej s p).1:=by
 unfold Ej;split
 ·exact Bn (Bn (Bn h 8) 14) 4
 ·exact Bn (Bn h 8) p.n
theorem zo(hs:Az s)(h:B8 0 W)(v:Nat):Az (spoilAt s W v).1/\B8 1 (spoilAt s W v).2:=by
 have g:B8 1 W:=h.up;unfold spoilAt;split
 ·exact⟨Bn hs 3,⟨g.pool,g.sn,g.pn,g.next,g.A2,g.A0⟩⟩
 ·exact⟨hs,⟨g.pool,g.sn,g.pn,by show(0:Int)<=1/\(1:Int)<=900001;omega,g.A2,g.A0⟩⟩
 ·split
  ·rename_i b
   have a:=h.A2 0 b;refine⟨hs,⟨g.pool,g.sn,g.pn,g.next,fun i hi=>?_,g.A0⟩⟩;dsimp only;split
   ·refine⟨?_,a.name,a.A5⟩;have:=a.dn;simp only[List.length_append,OV,List.length_cons,List.length_nil];omega
   ·exact g.A2 i hi
  ·exact⟨hs,g⟩
 ·split
  ·rename_i b
   have a:=g.A0 0 b;have hv:=G4 s (m:=3) (by omega) (by omega);refine⟨Bn hs 3,⟨g.pool,g.sn,g.pn,g.next,g.A2,fun i hi=>?_⟩⟩;dsimp only;split
   ·exact⟨a.dn,a.name,a.set,by dsimp only;omega,a.id⟩
   ·exact g.A0 i hi
  ·exact⟨hs,g⟩
 ·split
  ·rename_i b
   have a:=g.A2 0 b;refine⟨zGs hs _,⟨g.pool,g.sn,g.pn,g.next,fun i hi=>?_,g.A0⟩⟩;dsimp only;split
   ·exact⟨a.dn,a.name,a.A5⟩
   ·exact g.A2 i hi
  ·exact⟨hs,g⟩
 ·refine⟨Bn hs 5,⟨?_,g.sn,g.pn,g.next,g.A2,g.A0⟩⟩;have:=h.pool;show W.pool.n+Cm W.pool.s W.pool.n+(W.pool.hn+1)<=19000+1;unfold As at this;omega
theorem QA(hs:Az s):Az (Em s).1/\B8 1 (Em s).2:=by
 have h:=PY (nV (nS s 60) (12+2*(nS s 60).size)).toNat (Bn (Bn hs 60) (12+2*(nS s 60).size)) (RP (nwW (20+nV s 60)) ⟨#[97]⟩);unfold Em Ip;dsimp only;split
 ·exact zo (Bn (Bn h.1 20) 6) h.2 _
 ·exact⟨Bn h.1 20,h.2.up⟩
set_option linter.unusedSimpArgs false
set_option maxRecDepth 20000
set_option maxHeartbeats 3200000
attribute [go_sem] Br
attribute [go_sem] BV
attribute [-go_sem] BV
attribute [-go_sem] Br
attribute [local go_sem] Nf NK Mw Mu Mv NH NI NJ Mp Zr Zs Mt Ms Mr Mq ME
def idS(s:Ar)(W:A4):Ar:=if W.pn=0 then nS s 9 else if nV s 5=0 then nS (nS s 5) 9 else nS (nS s 5) W.pn
def idV(s:Ar)(W:A4):Int:=if W.pn=0 then IntKind.i64.wrap (nV s 9 - 1)else if nV s 5=0 then IntKind.i64.wrap (nV (nS s 5) 9 - 1)else(W.A0 (nV (nS s 5) W.pn).toNat).id
def mId:AH:=AR (fun q:Ar×A4=>(true,srV q.1) :: [woT q.2]) (fun q=>Az q.1/\q.2.pn<=1000000) (fun q=>[(true,srV (idS q.1 q.2)),iT (idV q.1 q.2)])
theorem zHx(s:Ar)(W:A4):mId ((true,srV s) :: [woT W])=some (Az s/\W.pn<=1000000,[(true,srV (idS s W)),iT (idV s W)]):=Aa (fun l=>(G0 (nth l 0),BW (nth l 1))) (fun _=>rfl) (s,W)
theorem zEa:Ck Tryz.prog 14 mId:=by
 refine EZ Ai (GOk.ptr Gn (AA Tryz.func40 rfl rfl) (GOk.ptr N2 (AA Tryz.func42 rfl rfl) GOk.nil)) Ah Tryz.func14 rfl Tryz.ntmps14 Tryz.results14 5 ?_;rintro⟨s,W⟩ hs;obtain⟨hs,d⟩:Az s/\W.pn<=1000000:=hs;have b:=Bn hs 5;refine⟨by simp,?_⟩;by_cases hn:W.pn=0
 ·simp[go_sem,Cp,Dn,hs,b,hn,idS,idV,CB]
 have a:0<W.pn:=by omega
 by_cases c:nV s 5=0
 ·simp[go_sem,Cp,Dn,hs,b,c,hn,a,idS,idV,CB]
 have hv:=Gt (nS s 5) (m:=W.pn) (by omega);simp[go_sem,Cp,Dn,hs,b,c,hn,a,idS,idV,CB];exact⟨by omega,⟨hv.1,by omega⟩,by kernel_rfl⟩
theorem zHv(b:B8 1 W):-1000000000000000000<=idV s W/\idV s W<=1000000000000000000:=by
 unfold idV;have a:∀t:Ar,-1000000000000000000<=IntKind.i64.wrap (nV t 9 - 1)/\IntKind.i64.wrap (nV t 9 - 1)<=1000000000000000000:=fun t=>by
  have:=G4 t (m:=9) (by omega) (by omega);rw[I8 (by omega) (by omega)];omega
 have d:=b.pn;split
 ·exact a _
 split
 ·exact a _
 ·have c:=Gt (nS s 5) (m:=W.pn) (by omega);have:=(b.A0 (nV (nS s 5) W.pn).toNat (by omega)).id;omega
set_option maxRecDepth 20000
set_option maxHeartbeats 3200000
attribute [go_sem] Br
attribute [go_sem] BV
attribute [-go_sem] BV
attribute [-go_sem] Br
def Gz(n:Nat)(f:Nat->Int):A4×Int:=((Em (JN n f)).2,idV (Em (JN n f)).1 (Em (JN n f)).2)
def Sw:AH:=AR (fun q:Nat×(Nat->Int)=>[byT q.1 q.2]) (fun q=>NX q.1 q.2) (fun q=>[woO (Gz q.1 q.2).1,iT (Gz q.1 q.2).2])
theorem XH(n:Nat)(f:Nat->Int):Sw [byT n f]=some (NX n f,[woO (Gz n f).1,iT (Gz n f).2]):=Aa (fun l=>(DI (nth l 0 0),fun i=>match Bk (nth l 0 0) i 0 with | .v (.int _ x)=>x | _=>0)) (fun _=>rfl) (n,f)
theorem zDD:Ag Tryz.prog 4 Sw:=by
 refine Au Ai (GOk.new zCH (AA Tryz.func12 rfl rfl) (GOk.ptr zBQ (AA Tryz.func13 rfl rfl) (GOk.ptr zEa (AA Tryz.func14 rfl rfl) GOk.nil))) Ah Tryz.func4 rfl Tryz.ntmps4 Tryz.results4 8 ?_;rintro⟨n,f⟩ a;replace a:NX n f:=a;have b:=Qe a.1 a.2;have hn:=a.1;obtain⟨q,eq⟩:∃q,Em (JN n f)=q:=⟨_,rfl⟩;have d:=eq▸QA b;have g:=(d.2.Bo (c:=1) (by omega)).pn;have e:Gz n f=(q.2,idV q.1 q.2):=by unfold Gz;rw[eq]
 refine⟨by simp,?_⟩;simp[go_sem,zAF,yO,zHx,hn,b,d,g,eq,e,CB,BZ,Bj,CO,CN];kernel_rfl
section
variable {w : World} {g : Nat -> Bs} {fl : Fl}
variable{n:Nat}{u:Value}
theorem Li{k:Nat}{f:Nat->Nat->Tr}(hs:Sh w g (.s fl k n f) u):∃a c,u = .slice a n c/\n<=c/\(0<n->∃b o,a=some ⟨b,o,none⟩/\0<=b/\b<w.heap.size/\∀i,i<n->∀j,j<k->∃u,w.cell? ⟨b,o+i*k+j,none⟩=some u/\Sh w g (f i j) u):=by
 obtain⟨a,c,rfl,m,q⟩:=hs;refine⟨a,c,rfl,m,fun e=>?_⟩;obtain⟨b,o,h,l,-,d⟩:=q e;refine⟨b,o,h,Nat.zero_le _,l,fun i hi j p=>?_⟩;rw[Nat.add_assoc];exact d i j hi p
variable{h:Nat->Int}
theorem zGJ(hs:Sh w g (.s fl 1 n (B5 h)) u)(hn:n<=maxLen):DC w 0 w.heap.size u n h:=by
 obtain⟨a,c,rfl,p,q⟩:=Li hs;refine⟨hn,a,c,rfl,p,fun j=>?_⟩;obtain⟨b,o,m,k,l,d⟩:=q j;refine⟨b,o,m,k,l,fun i hi=>?_⟩;obtain⟨u,f,e⟩:=d i hi 0 (by omega);rw[Nat.mul_one,Nat.add_zero]at f;rw[f,e.1]
variable{f:Nat->Int}
theorem Pu(hs:Sh w g (.s fl 2 n (ptrsT f h)) u)(hn:n<=maxLen):Ay w 0 w.heap.size u n f h:=by
 obtain⟨a,c,rfl,t,v⟩:=Li hs;refine⟨hn,a,c,rfl,t,fun m=>?_⟩;obtain⟨b,o,r,p,q,d⟩:=v m;refine⟨b,o,r,p,q,fun i hi=>?_⟩;obtain⟨u,k,e⟩:=d i hi 0 (by omega);obtain⟨x,j,l⟩:=d i hi 1 (by omega);rw[Nat.add_zero]at k;exact⟨by rw[k,e.1],by rw[j,l.1]⟩
theorem zE2{s:Nat->AG}(hs:Sh w g (.s fl 3 n (Ao fl s)) u)(hn:n<=maxLen)(j:∀i,i<n->(s i).kn<=maxLen/\(s i).data.size<=maxLen):BU w 0 w.heap.size u n s:=by
 obtain⟨a,c,rfl,v,x⟩:=Li hs;refine⟨hn,a,c,rfl,v,fun p=>?_⟩;obtain⟨b,o,t,q,r,d⟩:=x p;refine⟨b,o,t,q,r,fun i hi=>?_⟩;obtain⟨u,k,e⟩:=d i hi 0 (by omega);obtain⟨y,f,l⟩:=d i hi 1 (by omega);obtain⟨u2,h,m⟩:=d i hi 2 (by omega);rw[Nat.add_zero]at k;exact⟨u,y,u2,k,f,h,e.1,Pu l (j i hi).1,m.1,(j i hi).2⟩
theorem zGK{s:Nat->Ac}(hs:Sh w g (.s fl 6 n (setsE fl s)) u)(hn:n<=maxLen)(m:∀i,i<n->(s i).dn<=maxLen/\(s i).name.size<=maxLen):De w 0 w.heap.size u n s:=by
 obtain⟨a,c,rfl,B,C⟩:=Li hs;refine⟨hn,a,c,rfl,B,fun x=>?_⟩;obtain⟨b,o,A,y,z,d⟩:=C x;refine⟨b,o,A,y,z,fun i hi=>?_⟩;obtain⟨E,e,e0⟩:=d i hi 0 (by omega);obtain⟨F,f,p⟩:=d i hi 1 (by omega);obtain⟨u2,h,q⟩:=d i hi 2 (by omega);obtain⟨u3,j,r⟩:=d i hi 3 (by omega);obtain⟨u4,k,t⟩:=d i hi 4 (by omega);obtain⟨D,l,v⟩:=d i hi 5 (by omega);rw[Nat.add_zero]at e;exact⟨D,by rw[e,e0.1],by rw[f,p.1],by rw[h,q.1],by rw[j,r.1],by rw[k,t.1],l,Pu v (m i hi).1,(m i hi).2⟩
theorem zE3{s:Nat->AT}(hs:Sh w g (.s fl 8 n (snapsE fl s)) u)(hn:n<=maxLen)(q:∀i,i<n->(s i).dn<=maxLen/\(s i).name.size<=maxLen/\(s i).set.size<=maxLen):D8 w 0 w.heap.size u n s:=by
 obtain⟨a,c,rfl,F,G⟩:=Li hs;refine⟨hn,a,c,rfl,F,fun B=>?_⟩;obtain⟨b,o,E,C,D,d⟩:=G B;refine⟨b,o,E,C,D,fun i hi=>?_⟩;obtain⟨I,e,e0⟩:=d i hi 0 (by omega);obtain⟨J,f,r⟩:=d i hi 1 (by omega);obtain⟨u2,h,t⟩:=d i hi 2 (by omega);obtain⟨u3,j,v⟩:=d i hi 3 (by omega);obtain⟨u4,k,x⟩:=d i hi 4 (by omega);obtain⟨K,l,y⟩:=d i hi 5 (by omega);obtain⟨L,m,z⟩:=d i hi 6 (by omega);obtain⟨H,p,A⟩:=d i hi 7 (by omega);rw[Nat.add_zero]at e;exact⟨H,by rw[e,e0.1],by rw[f,r.1],by rw[h,t.1],by rw[j,v.1],by rw[k,x.1],by rw[l,y.1],by rw[m,z.1],p,Pu A (q i hi).1,(q i hi).2⟩
end
def IP(w:World)(g:Nat->Bs)(lo:Nat):Prop:=∀b,lo<=b->b<w.heap.size->g b = .fz none
section
variable {w : World} {g : Nat -> Bs} {lo hi : Nat}
theorem IP.ok(h:IP w g lo){b e:Nat}(a:lo<=b)(c:b<w.heap.size):(g b).ok .z e:=by
 rw[h b a c];exact .inr fun l e=>by cases e
variable{v:Value}
theorem Ld{b j:Nat}(h:w.cell? ⟨b,j,none⟩=some v):b<w.heap.size:=AM h
variable{n:Nat}{f:Nat->Int}
theorem zG3(m:IP w g lo)(h:DC w lo hi v n f):Sh w g (.s .z 1 n (B5 f)) v:=by
 obtain⟨q,a,cap,rfl,l,p⟩:=h;refine⟨a,cap,rfl,l,fun hn=>?_⟩;obtain⟨b,o,k,e,r,c⟩:=p hn;have d:=Ld (c 0 hn);refine⟨b,o,k,d,m.ok e d,fun i j hi t=>?_⟩;cases (show j=0 by omega);exact⟨_,by rw[Nat.mul_one,Nat.add_zero];exact c i hi,rfl,rfl⟩
theorem NM(p:IP w g lo){f':Nat->Int}(h:Ay w lo hi v n f f'):Sh w g (.s .z 2 n (ptrsT f f')) v:=by
 obtain⟨r,a,cap,rfl,l,q⟩:=h;refine⟨a,cap,rfl,l,fun hn=>?_⟩;obtain⟨b,o,k,e,t,c⟩:=q hn;have d:=Ld (c 0 hn).1;refine⟨b,o,k,d,p.ok e d,fun i j hi m=>?_⟩
 match j,m with
 | 0,_=>exact⟨_,(c i hi).1,rfl,rfl⟩
 | 1,_=>exact⟨_,(c i hi).2,rfl,rfl⟩
theorem zF3(e:IP w g lo){f:Nat->AG}(h:BU w lo hi v n f):Sh w g (.s .z 3 n (Ao .z f)) v:=by
 obtain⟨y,a,cap,rfl,r,u⟩:=h;refine⟨a,cap,rfl,r,fun hn=>?_⟩;obtain⟨b,o,q,p,A,c⟩:=u hn;have d:b<w.heap.size:=by obtain⟨_,_,_,h,_⟩:=c 0 hn;exact Ld h
 refine⟨b,o,q,d,e.ok p d,fun i j hi t=>?_⟩;obtain⟨B,v1,C,c0,c1,k,e0,l,m,x⟩:=c i hi
 match j,t with
 | 0,_=>exact⟨_,c0,e0,rfl⟩
 | 1,_=>exact⟨_,c1,NM e l⟩
 | 2,_=>exact⟨_,k,m,rfl⟩
theorem zG4(e:IP w g lo){f:Nat->Ac}(h:De w lo hi v n f):Sh w g (.s .z 6 n (setsE .z f)) v:=by
 obtain⟨r,a,cap,rfl,m,q⟩:=h;refine⟨a,cap,rfl,m,fun hn=>?_⟩;obtain⟨b,o,l,k,t,c⟩:=q hn;have d:b<w.heap.size:=by obtain⟨_,h⟩:=c 0 hn;exact Ld h.c0
 refine⟨b,o,l,d,e.ok k d,fun i j hi p=>?_⟩;obtain⟨vd,h⟩:=c i hi
 match j,p with
 | 0,_=>exact⟨_,h.c0,rfl,rfl⟩
 | 1,_=>exact⟨_,h.c1,rfl,rfl⟩
 | 2,_=>exact⟨_,h.c2,rfl,rfl⟩
 | 3,_=>exact⟨_,h.c3,rfl,rfl⟩
 | 4,_=>exact⟨_,h.c4,rfl,rfl⟩
 | 5,_=>exact⟨_,h.c5,NM e h.dead⟩
theorem zF4(e:IP w g lo){f:Nat->AT}(h:D8 w lo hi v n f):Sh w g (.s .z 8 n (snapsE .z f)) v:=by
 obtain⟨r,a,cap,rfl,m,q⟩:=h;refine⟨a,cap,rfl,m,fun hn=>?_⟩;obtain⟨b,o,l,k,t,c⟩:=q hn;have d:b<w.heap.size:=by obtain⟨_,h⟩:=c 0 hn;exact Ld h.c0
 refine⟨b,o,l,d,e.ok k d,fun i j hi p=>?_⟩;obtain⟨vd,h⟩:=c i hi
 match j,p with
 | 0,_=>exact⟨_,h.c0,rfl,rfl⟩
 | 1,_=>exact⟨_,h.c1,rfl,rfl⟩
 | 2,_=>exact⟨_,h.c2,rfl,rfl⟩
 | 3,_=>exact⟨_,h.c3,rfl,rfl⟩
 | 4,_=>exact⟨_,h.c4,rfl,rfl⟩
 | 5,_=>exact⟨_,h.c5,rfl,rfl⟩
 | 6,_=>exact⟨_,h.c6,rfl,rfl⟩
 | 7,_=>exact⟨_,h.c7,NM e h.dead⟩
end
variable{w:World}
theorem OY{P:Program}{f:Nat}{ι : Type}{A:ι->List (Bool×List Tr)}{C:ι->Prop}{R:ι->List (Bool×List Tr)}
 (h:∀x,C x->∀(g0:Nat->Bs) (ys:List Value),(∀b,∃r,g0 b = .fz r)->AN (FI w g0) (A x) ys->Calls P f ys.toArray w fun e w'=>∃v g,e = .returned v/\Kp w g0 w' g/\IN w' g (R x) v):G9 P f (AR A C R) w:=by
 intro l c rs a i g0 ys k j;unfold AR at a;split at a
 ·rename_i d
  cases a;exact h d.choose i g0 ys k (by rw[d.choose_spec];exact j)
 ·cases a
def Rw(w:World)(g:Nat->Bs):Nat->Bs:=fun b=>if b<w.heap.size then g b else .fz none
variable{w':World}{g:Nat->Bs}
theorem O6(e:∀b,∃r,g b = .fz r)(h:Below w.heap.size w w'):Kp w g w' (Rw w g):=
 ⟨h.os,h.tape,h.output,h.size,fun b r a c=>⟨h.block b c,by unfold Rw;rw[if_pos c];exact a⟩,fun b o f a=>by obtain⟨r,d⟩:=e b;rw[d]at a;cases a⟩
theorem Un:IP w' (Rw w g) w.heap.size:=fun b h _=>if_neg (by omega)
variable{c:Nat}
theorem B8.wf(h:B8 c W):F6 W:=fun i hi=>by
 have a:0<=(A6 W i).A5/\(A6 W i).A5<=1000000:=by
  by_cases hs:i<W.pn
  ·rw[B9 hs];exact(h.A0 i hs).A5
  ·obtain⟨k,rfl⟩:∃k,i=W.pn+k:=⟨i - W.pn,by omega⟩;rw[By];exact(h.A2 k (by unfold memN at hi;omega)).A5
 show(decide (IntKind.min .i64<=_) && decide (_<=IntKind.max .i64))=true;simp[IntKind.min,IntKind.max,IntKind.signed,IntKind.bits];omega
theorem B8.bounds(h:B8 c W)(e:c<=10):As W.pool<=1048576/\W.sn<=1048576/\W.pn<=1048576/\JQ W:=by
 have a:=h.pool;have b:=h.sn;have d:=h.pn;exact⟨by omega,by omega,by omega,fun i hi=>by have:=(h.A2 i hi).dn;omega,fun i hi=>by have:=(h.A0 i hi).dn;omega⟩
variable{i:Nat}
theorem B8.slot(h:B8 c W)(g:c<=10)(hi:i<W.pool.n):(W.pool.s i).kn<=maxLen/\(W.pool.s i).data.size<=maxLen:=by
 have a:=h.pool;have b:=QD (f:=W.pool.s) hi;have d:Cm W.pool.s W.pool.n<=As W.pool:=by unfold As;omega
 have e:Ci (W.pool.s i)=(W.pool.s i).kn+(W.pool.s i).data.size:=rfl;unfold maxLen;omega
theorem B8.at(h:B8 c W)(a:c<=10){u0 u1 u4 u5:Value}(d:Sh w g (.s .b 3 W.pool.n (Ao .b W.pool.s)) u0)(e:Sh w g (.s .b 1 W.pool.hn (B5 W.pool.h)) u1)(f:Sh w g (.s .b 6 W.sn (setsE .b W.A2)) u4)(j:Sh w g (.s .b 8 W.pn (snapsE .b W.A0)) u5):BM w 0 w.heap.size u0 u1 u4 u5 W:=by
 have b:=h.bounds a;have l:W.pool.n<=As W.pool:=by unfold As;omega
 have m:W.pool.hn<=As W.pool:=Nat.le_add_left ..;have k:1048576<=maxLen:=by decide
 exact⟨⟨zE2 d (by omega) (fun i hi=>h.slot a hi),zGJ e (by omega)⟩,zGK f (by omega) (fun i hi=>by have g:=h.A2 i hi;have:=g.dn;have:=g.name;exact⟨by omega,by omega⟩),zE3 j (by omega) (fun i hi=>by have g:=h.A0 i hi;have:=g.dn;have:=g.name;have:=g.set;exact⟨by omega,by omega,by omega⟩)⟩
variable{n:Nat}{h:Nat->Int}
theorem zAZ:(Tr.s .z 1 n (B5 h)).kept:=⟨by simp,fun _ _ _ _=>trivial⟩
theorem OO{f:Nat->Int}:(Tr.s .z 2 n (ptrsT f h)).kept:=⟨by simp,fun p q _ _=>by unfold ptrsT;split<;>trivial⟩
theorem zBf{s:Nat->AG}:(Tr.s .z 3 n (Ao .z s)).kept:=⟨by simp,fun i j _ a=>by
 match j,a with
 | 0,_ | 2,_=>trivial
 | 1,_=>exact OO⟩
theorem zr{s:Nat->Ac}:(Tr.s .z 6 n (setsE .z s)).kept:=⟨by simp,fun i j _ a=>by
 match j,a with
 | 0,_ | 1,_ | 2,_ | 3,_ | 4,_=>trivial
 | 5,_=>exact OO⟩
theorem zBg{s:Nat->AT}:(Tr.s .z 8 n (snapsE .z s)).kept:=⟨by simp,fun i j _ a=>by
 match j,a with
 | 0,_ | 1,_ | 2,_ | 3,_ | 4,_ | 5,_ | 6,_=>trivial
 | 7,_=>exact OO⟩
theorem zHi{α β : Type}{R:α->β->Prop}{x0 x1 x2 x3 x4 x5:α}{ys:List β}(h:AN R [x0,x1,x2,x3,x4,x5] ys):∃y0 y1 c d a b,ys = [y0,y1,c,d,a,b]/\R x0 y0/\R x1 y1/\R x2 c/\R x3 d/\R x4 a/\R x5 b:=by
 cases h with
 | cons a0 h=>cases h with
  | cons a1 h=>cases h with
   | cons a2 h=>cases h with
    | cons a3 h=>
     obtain⟨a,b,rfl,e,f⟩:=FD h;exact⟨_,_,_,_,a,b,rfl,a0,a1,a2,a3,e,f⟩
theorem TZ{cs:List Value}(n:c<=10)(m:B8 c W)(h:AN (Sh w g) (woT W).2 cs):∃a v1 b d,cs = [a,v1,.int .i64 W.time,.int .i64 W.next,b,d]/\BM w 0 w.heap.size a v1 b d W:=by
 obtain⟨y0,y1,q,r,o,p,rfl,e,f,i,j,k,l⟩:=zHi h;exact⟨y0,y1,o,p,by rw[i.1,j.1],m.at n e f k l⟩
abbrev wuZ(o:BQ):Bool×List Tr:=(true,[.s .z 3 o.world.pool.n (Ao .z o.world.pool.s),.s .z 1 o.world.pool.hn (B5 o.world.pool.h),.v (.int .i64 o.world.time),.v (.int .i64 o.world.next),.s .z 6 o.world.sn (setsE .z o.world.A2),.s .z 8 o.world.pn (snapsE .z o.world.A0),.v (.int .i64 o.id),.v (.int .i64 o.many),.v (.int .i64 o.code)])
abbrev wuL(o:BQ):Bool×List Tr:=(true,[.s .b 3 o.world.pool.n (Ao .b o.world.pool.s),.s .b 1 o.world.pool.hn (B5 o.world.pool.h),.v (.int .i64 o.world.time),.v (.int .i64 o.world.next),.s .b 6 o.world.sn (setsE .b o.world.A2),.s .b 8 o.world.pn (snapsE .b o.world.A0),.v (.int .i64 o.id),.v (.int .i64 o.many),.v (.int .i64 o.code)])
def Zt(f:Nat->Tr):BQ:=⟨BW f,AO (f 6),AO (f 7),AO (f 8)⟩
variable{o:BQ}{g0:Nat->Bs}
theorem zI6(f:∀b,∃r,g0 b = .fz r){e:Ending}(h:KL o w e w'):∃v g,e = .returned v/\Kp w g0 w' g/\IN w' g [wuZ o] v:=by
 obtain⟨i,v1,j,k,rfl,d,c⟩:=h;have hs:=d.at;have a:=Un (w:=w) (w':=w') (g:=g0);refine⟨_,_,rfl,O6 f c,_,⟨_,[],_,rfl,rfl,?_,rfl⟩,rfl⟩;exact⟨_,_,rfl,⟨zF3 a hs.pool.1,zBf⟩,_,_,rfl,⟨zG3 a hs.pool.2,zAZ⟩,_,_,rfl,⟨rfl,rfl⟩,_,_,rfl,⟨rfl,rfl⟩,_,_,rfl,⟨zG4 a hs.A2,zr⟩,_,_,rfl,⟨zF4 a hs.A0,zBg⟩,_,_,rfl,⟨rfl,rfl⟩,_,_,rfl,⟨rfl,rfl⟩,_,_,rfl,⟨rfl,rfl⟩,rfl⟩
variable{r:Option Nat}
theorem zGw{a b:Prop}{m:Nat}{Q:Nat->Prop}{ei:Nat->Nat}(o:BQ)(h:Gq W a b m Q ei r) :
 (a/\Gi r o=BL 2)\/(¬a/\(¬Ab W\/b)/\Gi r o=BL 1)\/(¬a/\Ab W/\¬b/\∃i,i<m/\¬Q i/\(∀j,j<i->Q j)/\Gi r o=BL (Dq (ei i)))\/(¬a/\Ab W/\¬b/\(∀j,j<m->Q j)/\r=none/\Gi r o=o):=by
 unfold Gq at h;rw[FA]at h;rcases h with⟨h,rfl⟩ | ⟨c,d,rfl⟩ | ⟨c,d,e,i,f,g,k,rfl⟩ | ⟨c,d,e,f,rfl⟩
 ·exact .inl ⟨h,rfl⟩
 ·exact .inr (.inl ⟨c,d,rfl⟩)
 ·exact .inr (.inr (.inl ⟨c,d,e,i,f,g,k,rfl⟩))
 ·exact .inr (.inr (.inr ⟨c,d,e,f,rfl,rfl⟩))
variable{x:Int}
theorem wf_i64(h:-1000000000000000000<=x)(a:x<=1000000000000000000):(Lit.int .i64 x).wf=true:=by
 show(decide (IntKind.min .i64<=_) && decide (_<=IntKind.max .i64))=true;simp[IntKind.min,IntKind.max,IntKind.signed,IntKind.bits];omega
theorem Qj{y:Value}(j:c<=10)(i:B8 c W)(h:FI w g (woT W) y):∃b v1 d e,y=Bh b v1 d e W/\BM w 0 w.heap.size b v1 d e W:=by
 obtain⟨o,rfl,a⟩:=h;obtain⟨k,l,m,n,rfl,f⟩:=TZ j i a;exact⟨k,l,m,n,rfl,f⟩
theorem zGp(c:∀b,∃r,g0 b = .fz r)(a:Below w.heap.size w w'):∃v g,Ending.returned (.int .i64 x) = .returned v/\Kp w g0 w' g/\IN w' g [iT x] v:=
 ⟨_,_,rfl,O6 c a,_,⟨_,[],_,rfl,rfl,⟨_,_,rfl,⟨rfl,rfl⟩,rfl⟩,rfl⟩,rfl⟩
theorem zF9{p:Prop}{e:Ending}(d:∀b,∃r,g0 b = .fz r)(h:AJ p e)(c:Below w.heap.size w w'):∃v g,e = .returned v/\Kp w g0 w' g/\IN w' g (bR p) v:=by
 obtain⟨b,rfl,a⟩:=h;refine⟨_,_,rfl,O6 d c,_,⟨_,[],_,rfl,rfl,⟨_,_,rfl,⟨?_,rfl⟩,rfl⟩,rfl⟩,rfl⟩;by_cases h:p
 ·rw[Ew.2 h,a.2 h]
 ·rw[P2.2 h,Bool.eq_false_iff.2 fun e=>h (a.1 e)]
def yE:AH:=AR (fun W:A4=>[woT W]) (fun W=>B8 1 W) (fun W=>bR (Ab W))
theorem SO(W:A4):yE [woT W]=some (B8 1 W,bR (Ab W)):=Aa (fun l=>BW (nth l 0)) (fun _=>rfl) W
theorem zIO:Ag Tryz.prog 21 yE:=fun w=>by
 refine OY ?_;rintro W a g0 ys h g;replace a:B8 1 W:=a;obtain⟨y,rfl,c⟩:=Fj g;obtain⟨i,v1,j,k,rfl,d⟩:=Qj (by omega) a c;refine(MO i v1 j k 0 w.heap.size W w d a.wf).mono ?_;rintro e w' ⟨b,f⟩;rw[FA]at b;exact zF9 h b f
variable{k:Nat}
theorem UG(h:BB W x k):FQ W x=k:=by
 show(BD W.pn fun k=>(W.A0 k).id=x).toNat=k;rw[I4 (P:=fun k=>(W.A0 k).id=x) h.1 h.2.1 h.2.2,Int.toNat_natCast]
theorem PH(h:(∃i,EO W x i/\o=⟨Gj W k i,0,((Cz W k i).length:Int),0⟩)\/∃i,EP W x i/\o=⟨Gk W k i,0,((D2 W k i).length:Int),0⟩):sdK W x k=o:=by
 unfold sdK;rcases h with⟨i,hi,rfl⟩ | ⟨i,hi,rfl⟩
 ·have hn:¬∃j,EP W x j:=fun ⟨j,hj⟩=>hj.2.2.2 i hi.1 hi.2.1
  have hs:∃j,EO W x j:=⟨i,hi⟩;rw[dif_neg hn,dif_pos hs];have e:hs.choose=i:=Classical.byContradiction fun g=>hi.2.2.1 _ hs.choose_spec.1 g hs.choose_spec.2.1
  rw[e]
 ·have hs:∃j,EP W x j:=⟨i,hi⟩;rw[dif_pos hs];have e:hs.choose=i:=Classical.byContradiction fun g=>hi.2.2.1 _ hs.choose_spec.1 g hs.choose_spec.2.1
  rw[e]
theorem Vc(W:A4)(x:Int):D4 W x=DH W x W.sn+Da W x W.pn:=by rw[PS,PR];rfl
theorem zH2(h:Gq W (∃i,i<0/\8000<((fun (_:Nat)=>(⟨#[]⟩:ByteArray)) i).size) (∃i,i<0/\¬Bp ((fun _=>⟨#[]⟩) i)) 2 (fun i=>match i with | 0=>BG W x | _=>D4 W x=1) (fun i=>match i with | 0=>2 | _=>5) r)
 (d:r=none->∃k,BB W x k/\((∃i,EO W x i/\o=⟨Gj W k i,0,((Cz W k i).length:Int),0⟩)\/∃i,EP W x i/\o=⟨Gk W k i,0,((D2 W k i).length:Int),0⟩)):Gi r o=sdE W x:=by
 have hn:=Vc W x;unfold sdE;rcases zGw o h with⟨⟨_,g,_⟩,_⟩ | ⟨f,a,e⟩ | ⟨f,a,j,i,hi,b,m,e⟩ | ⟨f,a,j,b,p,e⟩
 ·exact absurd g (Nat.not_lt_zero _)
 ·rw[e,if_neg (a.resolve_right fun ⟨_,g,_⟩=>Nat.not_lt_zero _ g)]
 ·rw[e,if_pos a]
  match i,hi with
  | 0,_=>rw[if_neg (show ¬BG W x from b)];rfl
  | 1,_=>
   have c:BG W x:=m 0 (by omega);have q:=U3 ((FA W).2 a) c;have l:¬D4 W x=1:=b;rw[if_pos c,if_pos (by omega)];rfl
 ·obtain⟨k,n,d⟩:=d p;have c:BG W x:=b 0 (by omega);have l:D4 W x=1:=b 1 (by omega);rw[e,if_pos a,if_pos c,if_neg (by omega),UG n];exact(PH d).symm
def yB:AH:=AR (fun q:A4×Int=>[woT q.1,iT q.2]) (fun q=>B8 1 q.1/\(Lit.int .i64 q.2).wf=true) (fun q=>[wuZ (sdE q.1 q.2)])
theorem SK(W:A4)(x:Int):yB [woT W,iT x]=some (B8 1 W/\(Lit.int .i64 x).wf=true,[wuZ (sdE W x)]):=Aa (fun l=>(BW (nth l 0),AO (nth l 1 0))) (fun _=>rfl) (W,x)
theorem zIA{p:Nat->Addr}(j:Do w p):G9 Tryz.prog 5 yB w:=by
 refine OY ?_;rintro⟨W,x⟩ ⟨a,l⟩ g0 ys n m;replace a:B8 1 W:=a;obtain⟨y,z,rfl,⟨v,rfl,c⟩,⟨T,f,k⟩⟩:=FD m;cases f;have b:=a.bounds (by omega);obtain⟨q,s,t,u,rfl,i⟩:=TZ (by omega) a c;rw[k.1];refine(zDC p q s t u 0 w.heap.size W x w j i a.wf b.1 b.2.1 b.2.2.1 b.2.2.2 l).mono ?_;rintro e w' ⟨r,o,g,h,d⟩;rw[zH2 g h]at d;exact zI6 n d
abbrev snZ(s:AT):Bool×List Tr:=(true,[.v (.int .i64 s.id),.v (.string s.name),.v (.string s.set),.v (.int .i64 s.A5),.v (.int .i64 s.time),.v (.int .i64 s.rs),.v (.int .i64 s.rb),.s .z 2 s.dn (ptrsT s.ds s.db)])
def Tv:AH:=AR (fun q:A4×Int=>[woT q.1,iT q.2]) (fun q=>B8 1 q.1/\(Lit.int .i64 q.2).wf=true) (fun q=>[snZ (GY q.1 q.2)])
theorem zBE(W:A4)(x:Int):Tv [woT W,iT x]=some (B8 1 W/\(Lit.int .i64 x).wf=true,[snZ (GY W x)]):=Aa (fun l=>(BW (nth l 0),AO (nth l 1 0))) (fun _=>rfl) (W,x)
theorem zn:Ag Tryz.prog 11 Tv:=fun w=>by
 refine OY ?_;rintro⟨W,x⟩ ⟨a,n⟩ g0 ys p o;replace a:B8 1 W:=a;obtain⟨y,t,rfl,f,⟨T,d,j⟩⟩:=FD o;cases d;have c:=a.bounds (by omega);obtain⟨q,v1,r,s,rfl,h⟩:=Qj (by omega) a f;rw[j.1];refine(zCr q v1 r s 0 w.heap.size W x w h a.wf c.2.2.2 n).mono ?_;rintro e w' ⟨v,b,rfl,m,k,i⟩;have l:=Un (w:=w) (w':=w') (g:=g0);refine⟨_,_,rfl,O6 p i,_,⟨_,[],_,rfl,rfl,?_,rfl⟩,rfl⟩;exact⟨_,_,rfl,⟨rfl,rfl⟩,_,_,rfl,⟨rfl,rfl⟩,_,_,rfl,⟨rfl,rfl⟩,_,_,rfl,⟨rfl,rfl⟩,_,_,rfl,⟨rfl,rfl⟩,_,_,rfl,⟨rfl,rfl⟩,_,_,rfl,⟨rfl,rfl⟩,_,_,rfl,⟨NM l (m.at k),OO⟩,rfl⟩
set_option linter.unusedSimpArgs false
set_option maxRecDepth 20000
set_option maxHeartbeats 3200000
attribute [go_sem] Br
attribute [go_sem] BV
attribute [-go_sem] BV
def Sz:AH:=AR (fun q:A7×Int×Int×Nat=>[poT q.1.n q.1.s q.1.hn q.1.h,pT q.2.1 q.2.2.1,iT (q.2.2.2:Int)]) (fun q=>BO q.1 q.2.1 q.2.2.1/\q.2.2.2<64) (fun q=>[(false,[.v (.string (lwD q.1 q.2.1 q.2.2.1 q.2.2.2))])])
theorem zAC(p:A7)(a b:Int)(k:Nat):Sz [poT p.n p.s p.hn p.h,pT a b,iT (k:Int)]=some (BO p a b/\k<64,[(false,[.v (.string (lwD p a b k))])]):=Aa (fun l=>(Cd (nth l 0 0) (nth l 0 1),AO (nth l 1 0),AO (nth l 1 1),(AO (nth l 2 0)).toNat)) (fun _=>rfl) (p,a,b,k)
theorem zI8{p:A7}{a b:Int}(h:BA p a b):b≠0/\0<=a/\a<p.n:=⟨by have:=h.1;omega,h.2.1,h.2.2.1⟩
theorem zK:Ag Tryz.prog 80 Sz:=by
 refine Au Ai GOk.nil Ah Tryz.func80 rfl Tryz.ntmps80 Tryz.results80 9 ?_;rintro⟨p,a,b,k⟩ ⟨m,v⟩;replace m:BO p a b:=m;replace v:k<64:=v;refine⟨by simp,?_⟩;by_cases j:Nil a b
 ·obtain⟨rfl,rfl⟩:=id j;simp[go_sem,QJ j]
 obtain⟨l,n,-⟩:=m.2.resolve_left j;have i:=KP m.1 l;obtain⟨z,A,B⟩:=zI8 l.1;have d:(k / 8:Nat)<8:=by omega
 have q1:DK p a b k=(p.s a.toNat).ks (k / 8):=(if_neg j).trans (Fi i d);have y:Dc p a b k=(p.s a.toNat).kb (k / 8):=(if_neg j).trans (Fh i d);have o:=n.1 (k / 8) d;unfold KE at o;rw[Fi i d,Fh i d]at o;simp[go_sem,N8 v,Mj,z,A,B,i];rw[show((k:Int) / 8).toNat=k / 8 by omega,show((k:Int) % 8).toNat=k % 8 by omega];refine⟨by omega,fun h=>?_,fun h=>?_⟩
 ·have w:=o.resolve_right fun g=>by have:=g.1.1.1;omega
  exact(QI (by rw[q1,y];exact w)).symm
 obtain⟨r,C⟩:=o.resolve_left fun e=>h e.2
 have c:=KP m.1 r;have f:k % 8<8:=by omega
 have u:=C.1 (k % 8) f;rw[Fi c f,Fh c f]at u;have hn:¬Nil (DK p a b k) (Dc p a b k):=by rw[q1,y];exact fun e=>h e.2
 have q:EL p a b k=(p.s ((p.s a.toNat).ks (k / 8)).toNat).ks (k % 8):=(if_neg hn).trans (by rw[q1];exact Fi c f);have x:Ei p a b k=(p.s ((p.s a.toNat).ks (k / 8)).toNat).kb (k % 8):=(if_neg hn).trans (by rw[q1];exact Fh c f);refine⟨⟨r.1.2.1,r.1.2.2.1⟩,⟨by omega,by rw[c];omega⟩,fun t=>?_,fun t=>?_⟩
 ·have w:=u.resolve_right fun g=>by have:=g.1.1;omega
  exact(if_pos (by rw[q,x];exact w)).symm
 ·have g:=u.resolve_left fun e=>t e.2
  exact⟨⟨g.1.2.1,g.1.2.2.1⟩,((if_neg (by rw[q,x];exact fun e=>t e.2)).trans (by rw[q])).symm⟩
def T0:AH:=AR (fun q:A7×Int×Int×A7×Int×Int×Int=>[poT q.1.n q.1.s q.1.hn q.1.h,pT q.2.1 q.2.2.1,poT q.2.2.2.1.n q.2.2.2.1.s q.2.2.2.1.hn q.2.2.2.1.h,pT q.2.2.2.2.1 q.2.2.2.2.2.1,iT q.2.2.2.2.2.2]) (fun q=>BO q.1 q.2.1 q.2.2.1/\BO q.2.2.2.1 q.2.2.2.2.1 q.2.2.2.2.2.1/\∀k:Nat,k<64->(k:Int)≠q.2.2.2.2.2.2->lwD q.1 q.2.1 q.2.2.1 k=lwD q.2.2.2.1 q.2.2.2.2.1 q.2.2.2.2.2.1 k) (fun _=>tT)
theorem XI(p:A7)(a b:Int)(q:A7)(c d x:Int):T0 [poT p.n p.s p.hn p.h,pT a b,poT q.n q.s q.hn q.h,pT c d,iT x]=some (BO p a b/\BO q c d/\∀k:Nat,k<64->(k:Int)≠x->lwD p a b k=lwD q c d k,tT):=Aa (fun l=>(Cd (nth l 0 0) (nth l 0 1),AO (nth l 1 0),AO (nth l 1 1),Cd (nth l 2 0) (nth l 2 1),AO (nth l 3 0),AO (nth l 3 1),AO (nth l 4 0))) (fun _=>rfl) (p,a,b,q,c,d,x)
theorem zL:Ag Tryz.prog 35 T0:=by
 refine Au Ai (GOk.cons zK (AA Tryz.func80 rfl rfl) GOk.nil) Ah Tryz.func35 rfl Tryz.ntmps35 Tryz.results35 12 ?_;rintro⟨p,a,b,q,c,d,x⟩ ⟨e,f,g⟩;replace e:BO p a b:=e;replace f:BO q c d:=f;replace g:∀k:Nat,k<64->(k:Int)≠x->lwD p a b k=lwD q c d k:=g;refine⟨by simp,?_⟩;simp[go_sem];refine B2 (fun k:Nat=>⟨[(5,true,.m false [.p 5 0]),(6,true,.m false [.p 6 0]),(7,true,.m false [.p 7 0]),(8,true,.m false [.p 8 0]),(4,true,.i x),(11,true,.i k)],[(8,.var [.v (.int .i64 c),.v (.int .i64 d)]),(7,.var [.s .b 3 q.n (Ao .b q.s),.s .b 1 q.hn (B5 q.h)]),(6,.var [.v (.int .i64 a),.v (.int .i64 b)]),(5,.var [.s .b 3 p.n (Ao .b p.s),.s .b 1 p.hn (B5 p.h)])]⟩) (fun k=>64 - k) (fun k=>k<=64) 0 (by simp[go_sem]) (by simp) ?_;rintro k l;simp[go_sem,zAC,Aj (show k<=1000000000 by omega),e,f];exact fun o=>⟨fun _=>by omega,by kernel_rfl,fun j=>by rw[g k (by omega) j],fun _=>⟨k+1,by omega,by omega,rfl⟩⟩
structure JC (W V:A4) (x:ByteArray) (y:Int):Prop where
 A2:∀i,i<W.sn->(W.A2 i).name≠x->(Er V (W.A2 i).name).name=(W.A2 i).name/\∀k,k<64->lwD W.pool (W.A2 i).rs (W.A2 i).rb k=lwD V.pool (Er V (W.A2 i).name).rs (Er V (W.A2 i).name).rb k
 A0:∀i,i<W.pn->(W.A0 i).id≠y->(Ey V (W.A0 i).id).id=(W.A0 i).id/\∀k,k<64->lwD W.pool (W.A0 i).rs (W.A0 i).rb k=lwD V.pool (Ey V (W.A0 i).id).rs (Ey V (W.A0 i).id).rb k
variable{V:A4}
theorem zDh(h:Ab V)(x:ByteArray):An V.pool (Er V x).rs (Er V x).rb:=by
 unfold Er;split
 ·rename_i g
  obtain⟨k,a,-,-,b⟩ | ⟨a,-⟩:=GA V.sn fun k=>(V.A2 k).name=x
  ·rw[b];exact(h.A2 k a).1
  ·obtain⟨k,c,d⟩:=g.2.1;exact absurd d (a k c)
 ·exact .inl ⟨rfl,rfl⟩
theorem zm(h:Ab V)(x:Int):An V.pool (Ey V x).rs (Ey V x).rb:=by
 unfold Ey;split
 ·rename_i g
  obtain⟨k,a,-,-,b⟩ | ⟨a,-⟩:=GA V.pn fun k=>(V.A0 k).id=x
  ·rw[b];exact h.A0 k a
  ·obtain⟨k,c,d⟩:=g.1;exact absurd d (a k c)
 ·exact .inl ⟨rfl,rfl⟩
def Sy:AH:=AR (fun q:A4×A4×ByteArray×Int=>[woT q.1,woT q.2.1,sT q.2.2.1,iT q.2.2.2]) (fun q=>(SmallW q.1/\SmallW q.2.1)/\(Ab q.1/\Ab q.2.1)/\JC q.1 q.2.1 q.2.2.1 q.2.2.2) (fun _=>tT)
theorem zAB(W V:A4)(x:ByteArray)(y:Int):Sy [woT W,woT V,sT x,iT y]=some ((SmallW W/\SmallW V)/\(Ab W/\Ab V)/\JC W V x y,tT):=Aa (fun l=>(BW (nth l 0),BW (nth l 1),CL (nth l 2 0),AO (nth l 3 0))) (fun _=>rfl) (W,V,x,y)
theorem zJ:Ag Tryz.prog 10 Sy:=by
 refine Au Ai (GOk.cons zDE (AA Tryz.func34 rfl rfl) (GOk.cons zU (AA Tryz.func36 rfl rfl) (GOk.cons zL (AA Tryz.func35 rfl rfl) GOk.nil))) Ah Tryz.func10 rfl Tryz.ntmps10 Tryz.results10 15 ?_;rintro⟨W,V,x,y⟩ ⟨⟨l,g⟩,⟨a,d⟩,hK⟩;replace l:SmallW W:=l;replace g:SmallW V:=g;replace a:Ab W:=a;replace d:Ab V:=d;replace hK:JC W V x y:=hK;have q:W.sn<=8:=a.AP.2.2.1;have n:W.pn<=20:=a.AP.2.2.2.1;refine⟨by simp,?_⟩;simp[go_sem];refine B2 (fun k:Nat=>⟨[(4,true,.m false [.p 4 0]),(5,true,.m false [.p 5 0]),(2,true,.m false [.v (.string x)]),(3,true,.i y),(9,true,.i k)],[(5,.var ((woL V).map Tr.cv)),(4,.var ((woL W).map Tr.cv))]⟩) (fun k=>W.sn - k) (fun k=>k<=W.sn) 0 (by simp[go_sem]) (by simp) ?_;intro k o;obtain⟨D,c⟩:∃D,Er V (W.A2 k).name=D:=⟨_,rfl⟩;simp[go_sem,yN,XI,Aj (show k<=1000000000 by omega),g,c];refine⟨fun b=>?_,fun b=>?_⟩
 ·have f:¬(W.A2 k).name.toList=x.toList->D.name=(W.A2 k).name/\∀j,j<64->lwD W.pool (W.A2 k).rs (W.A2 k).rb j=lwD V.pool D.rs D.rb j:=fun h=>c▸hK.A2 k b fun e=>h (congrArg ByteArray.toList e)
  exact⟨b,fun h _=>⟨⟨a.right,(a.A2 k b).1⟩,⟨d.right,c▸zDh d _⟩,(f h).2⟩,fun h e=>⟨h,e⟩,fun h=>congrArg ByteArray.toList (f h).1,fun _=>⟨k+1,by omega,by omega,rfl⟩⟩
 refine B2 (fun k:Nat=>⟨[(4,true,.m false [.p 4 0]),(5,true,.m false [.p 5 0]),(3,true,.i y),(12,true,.i k)],[(5,.var ((woL V).map Tr.cv)),(4,.var ((woL W).map Tr.cv))]⟩) (fun k=>W.pn - k) (fun k=>k<=W.pn) 0 (by simp[go_sem]) (by simp) ?_;intro k o;obtain⟨D,c⟩:∃D,Ey V (W.A0 k).id=D:=⟨_,rfl⟩;simp[go_sem,zAE,XI,Aj (show k<=1000000000 by omega),g,c];intro b;have f:¬(W.A0 k).id=y->D.id=(W.A0 k).id/\∀j,j<64->lwD W.pool (W.A0 k).rs (W.A0 k).rb j=lwD V.pool D.rs D.rb j:=fun h=>c▸hK.A0 k b h
 exact⟨b,fun h _=>⟨⟨a.right,a.A0 k b⟩,⟨d.right,c▸zm d _⟩,(f h).2⟩,fun h e=>⟨h,e⟩,fun h=>(f h).1,fun _=>⟨k+1,by omega,by omega,rfl⟩⟩
theorem zIE(h:Ab V)(hi:i<k)(a:k<V.sn):CM (V.A2 i).name (V.A2 k).name:=U1 h.AP hi a
theorem zHD(h:Ab V)(hi:i<k)(a:k<V.pn):(V.A0 i).id<(V.A0 k).id:=Ii h.AP hi a
theorem zH4(h:Ab V)(hi:i<V.sn):Er V (V.A2 i).name=V.A2 i:=by
 have hs:=(h.AP.2.2.2.2.1 i hi).1;unfold Er;rw[if_pos ⟨by have:=hs.2.1;omega,⟨i,hi,rfl⟩,h⟩,I4 (P:=fun k=>(V.A2 k).name=(V.A2 i).name) hi rfl (fun j a e=>zFH (zIE h a hi) e),Int.toNat_natCast]
theorem zFg(h:Ab V)(hi:i<V.pn):Ey V (V.A0 i).id=V.A0 i:=by
 unfold Ey;rw[if_pos ⟨⟨i,hi,rfl⟩,h⟩,I4 (P:=fun k=>(V.A0 k).id=(V.A0 i).id) hi rfl (fun j a e=>by have:=zHD h a hi;omega),Int.toNat_natCast]
end
end Go.Proofs.YtnfjcaoclahfjaaGreatDoor
