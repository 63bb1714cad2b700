/- A part of the proof. -/
import Derived.Test.YtibhefllijahkaaGreatDoorF29
set_option linter.unusedVariables false
set_option maxRecDepth 20000
set_option maxHeartbeats 4000000
namespace Go.Proofs.YtibhefllijahkaaGreatDoor
noncomputable section
open Go.RowKit
set_option linter.unusedSimpArgs false
set_option maxRecDepth 20000
set_option maxHeartbeats 1600000
def setsE(fl:Fl)(s:Nat->AM):Nat->Nat->Tr:=fun i c=>match c with
 | 0=>.v (.string (s i).name)
 | 1=>.v (.int .i64 (s i).origin)
 | 2=>.v (.int .i64 (s i).A6)
 | 3=>.v (.int .i64 (s i).rs)
 | 4=>.v (.int .i64 (s i).rb)
 | 5=>.s fl 2 (s i).dn (ptrsT (s i).ds (s i).db)
 | _=>.v (.bool false)
def snapsE(fl:Fl)(s:Nat->AL):Nat->Nat->Tr:=fun i c=>match c with
 | 0=>.v (.int .i64 (s i).id)
 | 1=>.v (.string (s i).name)
 | 2=>.v (.string (s i).set)
 | 3=>.v (.int .i64 (s i).A6)
 | 4=>.v (.int .i64 (s i).time)
 | 5=>.v (.int .i64 (s i).rs)
 | 6=>.v (.int .i64 (s i).rb)
 | 7=>.s fl 2 (s i).dn (ptrsT (s i).ds (s i).db)
 | _=>.v (.bool false)
section
variable {fl fl' : Fl} {s : Nat -> AM} {t : Nat -> AL} {i k n : Nat}
theorem Sz:setsE fl s i 0 = .v (.string (s i).name):=rfl
theorem T0:setsE fl s i 1 = .v (.int .i64 (s i).origin):=rfl
theorem T1:setsE fl s i 2 = .v (.int .i64 (s i).A6):=rfl
theorem T2:setsE fl s i 3 = .v (.int .i64 (s i).rs):=rfl
theorem T3:setsE fl s i 4 = .v (.int .i64 (s i).rb):=rfl
theorem T4:setsE fl s i 5 = .s fl 2 (s i).dn (ptrsT (s i).ds (s i).db):=rfl
theorem UU:snapsE fl t i 0 = .v (.int .i64 (t i).id):=rfl
theorem UV:snapsE fl t i 1 = .v (.string (t i).name):=rfl
theorem UW:snapsE fl t i 2 = .v (.string (t i).set):=rfl
theorem UX:snapsE fl t i 3 = .v (.int .i64 (t i).A6):=rfl
theorem UY:snapsE fl t i 4 = .v (.int .i64 (t i).time):=rfl
theorem UZ:snapsE fl t i 5 = .v (.int .i64 (t i).rs):=rfl
theorem Ua:snapsE fl t i 6 = .v (.int .i64 (t i).rb):=rfl
theorem Ub:snapsE fl t i 7 = .s fl 2 (t i).dn (ptrsT (t i).ds (t i).db):=rfl
theorem X7:(Tr.s fl k n (setsE fl' s)).lend = .s .b k n (setsE .b s):=by
 simp only[Tr.lend];congr 1;funext i c
 match c with
 | 0 | 1 | 2 | 3 | 4=>rfl
 | 5=>exact MO
 | c+6=>rfl
theorem Xl:(Tr.s fl k n (snapsE fl' t)).lend = .s .b k n (snapsE .b t):=by
 simp only[Tr.lend];congr 1;funext i c
 match c with
 | 0 | 1 | 2 | 3 | 4 | 5 | 6=>rfl
 | 7=>exact MO
 | c+8=>rfl
end
abbrev woL(W:A5):List Tr:=[.s .b 3 W.pool.n (Ao .b W.pool.s),.s .b 1 W.pool.hn (Ay W.pool.h),.v (.int .i64 W.time),.v (.int .i64 W.next),.s .b 6 W.sn (setsE .b W.A3),.s .b 8 W.pn (snapsE .b W.A1)]
abbrev woT(W:A5):Bool×List Tr:=(true,woL W)
abbrev woO(W:A5):Bool×List Tr:=(true,[.s .o 3 W.pool.n (Ao .z W.pool.s),.s .o 1 W.pool.hn (Ay W.pool.h),.v (.int .i64 W.time),.v (.int .i64 W.next),.s .o 6 W.sn (setsE .o W.A3),.s .o 8 W.pn (snapsE .z W.A1)])
def zIQ(f:Nat->Tr):AM:=⟨C1 (f 0),AQ (f 1),AQ (f 2),AQ (f 3),AQ (f 4),D2 (f 5),fun i=>AQ (BY (f 5) i 0),fun i=>AQ (BY (f 5) i 1)⟩
def zHM(f:Nat->Tr):AL:=⟨AQ (f 0),C1 (f 1),C1 (f 2),AQ (f 3),AQ (f 4),AQ (f 5),AQ (f 6),D2 (f 7),fun i=>AQ (BY (f 7) i 0),fun i=>AQ (BY (f 7) i 1)⟩
def BW(f:Nat->Tr):A5:=⟨CY (f 0) (f 1),AQ (f 2),AQ (f 3),D2 (f 4),fun i=>zIQ (BY (f 4) i),D2 (f 5),fun i=>zHM (BY (f 5) i)⟩
attribute [go_sem] QF BP PW QD RA Sz T0 T1 T2 T3 T4 UU UV UW UX UY UZ Ua Ub X7 Xl
def BC(n:Nat)(P:Nat->Prop):Int:=@dite _ (∃k,k<n/\P k/\∀j,j<k->¬P j) (Classical.propDecidable _) (fun h=>(h.choose:Int)) (fun _=>-1)
variable{n:Nat}{P:Nat->Prop}
theorem Gb{k:Nat}(h:k<n)(b:P k)(c:∀j,j<k->¬P j):BC n P=k:=by
 have a:∃k,k<n/\P k/\∀j,j<k->¬P j:=⟨k,h,b,c⟩;unfold BC;rw[dif_pos a];obtain⟨-,d,g⟩:=a.choose_spec;rcases Nat.lt_trichotomy a.choose k with e | e | e
 ·exact absurd d (c _ e)
 ·exact congrArg _ e
 ·exact absurd b (g _ e)
theorem Q4(h:∀k,k<n->¬P k):BC n P = -1:=dif_neg fun ⟨k,h1,h2,_⟩=>h k h1 h2
theorem Ga(n:Nat)(P:Nat->Prop):Pv n P (BC n P):=by
 by_cases d:∃k,k<n/\P k/\∀j,j<k->¬P j
 ·obtain⟨k,h,a,b⟩:=d;exact .inl ⟨k,h,a,b,Gb h a b⟩
 ·have hn:∀m,m<=n->∀j,j<m->¬P j:=fun m=>by
   induction m with
   | zero=>intro _ j g;omega
   | succ m ih=>
    intro i j g c;by_cases e:j<m
    ·exact ih (by omega) j e c
    ·cases (show j=m by omega);exact d ⟨m,by omega,c,ih (by omega)⟩
  exact .inr ⟨hn n (Nat.le_refl _),Q4 (hn n (Nat.le_refl _))⟩
def qm:AE:=AU (fun q:A5×Int=>[woT q.1,iT q.2]) (fun q=>q.1.pn<=1000000) (fun q=>[iT (BC q.1.pn fun k=>(q.1.A1 k).id=q.2)])
theorem F4(W:A5)(x:Int):qm [woT W,iT x]=some (W.pn<=1000000,[iT (BC W.pn fun k=>(W.A1 k).id=x)]):=Ac (fun l=>(BW (nth l 0),AQ (nth l 1 0))) (fun _=>rfl) (W,x)
theorem JA:Ae Tryz.prog 29 qm:=by
 refine Ar Ah GOk.nil mixed Tryz.func29 rfl Tryz.ntmps29 Tryz.results29 6 ?_;rintro⟨W,x⟩ hn;replace hn:W.pn<=1000000:=hn;refine⟨by simp,?_⟩;simp[go_sem];refine Ax (fun k:Nat=>⟨[(2,true,.m false [.p 2 0]),(1,true,.i x),(5,true,.i k)],[(2,.var ((woL W).map Tr.cv))]⟩) (fun k=>W.pn - k) (fun k=>k<=W.pn/\∀i,i<k->(W.A1 i).id≠x) 0 (by simp[go_sem]) (by simp) ?_;rintro k ⟨c,a⟩;simp[go_sem,Al (show k<=1000000000 by omega)];refine⟨fun b=>⟨b,fun h=>(Gb b h a).symm,fun h=>⟨k+1,⟨by omega,Bf b a h⟩,by omega,rfl⟩⟩,fun b=>(Q4 fun i hi=>a i (by omega)).symm⟩
def zN:AE:=AU (fun q:A5×ByteArray=>[woT q.1,sT q.2]) (fun q=>q.1.sn<=1000000) (fun q=>[iT (BC q.1.sn fun k=>(q.1.A3 k).name=q.2)])
theorem CJ(W:A5)(x:ByteArray):zN [woT W,sT x]=some (W.sn<=1000000,[iT (BC W.sn fun k=>(W.A3 k).name=x)]):=Ac (fun l=>(BW (nth l 0),C1 (nth l 1 0))) (fun _=>rfl) (W,x)
theorem IJ:Ae Tryz.prog 28 zN:=by
 refine Ar Ah GOk.nil mixed Tryz.func28 rfl Tryz.ntmps28 Tryz.results28 6 ?_;rintro⟨W,x⟩ hn;replace hn:W.sn<=1000000:=hn;refine⟨by simp,?_⟩;simp[go_sem];refine Ax (fun k:Nat=>⟨[(2,true,.m false [.p 2 0]),(1,true,.m false [.v (.string x)]),(5,true,.i k)],[(2,.var ((woL W).map Tr.cv))]⟩) (fun k=>W.sn - k) (fun k=>k<=W.sn/\∀i,i<k->(W.A3 i).name≠x) 0 (by simp[go_sem]) (by simp) ?_;rintro k ⟨c,a⟩;simp[go_sem,Al (show k<=1000000000 by omega)];refine⟨fun b=>⟨b,fun h=>(Gb b (G9 h) a).symm,fun h=>⟨k+1,⟨by omega,Bf b a fun e=>h (congrArg ByteArray.toList e)⟩,by omega,rfl⟩⟩,fun b=>(Q4 fun i hi=>a i (by omega)).symm⟩
def Ez(W:A5)(x:Int):AL:=@ite _ (x=0) (Int.instDecidableEq x 0) Ap (AC W x)
def Zx:AE:=AU (fun q:A5×Int=>[woT q.1,iT q.2]) (fun q=>q.1.pn<=1000000) (fun q=>[pT (Ez q.1 q.2).rs (Ez q.1 q.2).rb,iT (Ez q.1 q.2).time])
theorem K4(W:A5)(x:Int):Zx [woT W,iT x]=some (W.pn<=1000000,[pT (Ez W x).rs (Ez W x).rb,iT (Ez W x).time]):=Ac (fun l=>(BW (nth l 0),AQ (nth l 1 0))) (fun _=>rfl) (W,x)
theorem LD:Ae Tryz.prog 114 Zx:=by
 refine Ar Ah (GOk.cons JA (AA Tryz.func29 rfl rfl) GOk.nil) mixed Tryz.func114 rfl Tryz.ntmps114 Tryz.results114 7 ?_;rintro⟨W,x⟩ hn;replace hn:W.pn<=1000000:=hn;refine⟨by simp,?_⟩;simp[go_sem,F4,hn];obtain⟨k,b,c,d,e⟩ | ⟨b,c⟩:=Ga W.pn fun k=>(W.A1 k).id=x
 ·rw[e];have g:AC W x=W.A1 k:=CM ⟨b,c,d⟩;refine⟨fun h=>?_,fun a _=>⟨⟨by omega,by omega⟩,by kernel_rfl,?_⟩⟩
  ·have a:x=0:=(by omega);rw[show Ez W x=Ap from if_pos a];exact⟨⟨rfl,rfl⟩,rfl⟩
  ·rw[show Ez W x=AC W x from if_neg a,g];exact⟨⟨rfl,rfl⟩,rfl⟩
 ·rw[c];refine⟨fun _=>?_,fun _ h=>absurd h (by decide)⟩;by_cases a:x=0
  ·rw[show Ez W x=Ap from if_pos a];exact⟨⟨rfl,rfl⟩,rfl⟩
  ·rw[show Ez W x=AC W x from if_neg a,Oi b];exact⟨⟨rfl,rfl⟩,rfl⟩
def nwW(x:Int):A5:=if 0<=x/\x<=200 then⟨DW x.toNat,1,1,0,fun _=>⟨⟨#[]⟩,0,0,0,0,0,fun _=>0,fun _=>0⟩,0,fun _=>Ap⟩else⟨DW 0,0,0,0,fun _=>⟨⟨#[]⟩,0,0,0,0,0,fun _=>0,fun _=>0⟩,0,fun _=>Ap⟩
def yf:AE:=AU (fun x:Int=>[iT x]) (fun _=>True) (fun x=>[woO (nwW x)])
theorem zFy(x:Int):yf [iT x]=some (True,[woO (nwW x)]):=Ac (fun l=>AQ (nth l 0 0)) (fun _=>rfl) x
theorem zC4:Ae Tryz.prog 83 yf:=by
 refine Ar Ah (GOk.cons MG (AA Tryz.func110 rfl rfl) (GOk.cons zBB (AA Tryz.func132 rfl rfl) GOk.nil)) mixed Tryz.func83 rfl Tryz.ntmps83 Tryz.results83 4 ?_;rintro x -;refine⟨by simp,?_⟩;simp[go_sem,Lc,zFn];refine⟨fun h=>?_,fun a b=>?_⟩
 ·rw[show nwW x=_ from if_neg fun e=>absurd (h e.1) (by omega)];exact⟨rfl,rfl,rfl,rfl,rfl,rfl⟩
 ·rw[show nwW x=_ from if_pos ⟨a,b⟩,show GM x=x.toNat from if_pos ⟨a,b⟩];exact⟨⟨TrE.refl _,BT⟩,⟨TrE.refl _,BX⟩,rfl,rfl,rfl,rfl⟩
section
variable {w : World} {g : Nat -> Bs} {fl : Fl}
variable{u:Value}
theorem MD{k:Nat}{f:Nat->Nat->Tr}(hs:Sh w g (.s fl k n f) u):∃a c,u = .slice a n c/\n<=c/\(0<n->∃b o,a=some ⟨b,o,none⟩/\0<=b/\b<w.heap.size/\∀i,i<n->∀j,j<k->∃u,w.cell? ⟨b,o+i*k+j,none⟩=some u/\Sh w g (f i j) u):=by
 obtain⟨a,c,rfl,m,q⟩:=hs;refine⟨a,c,rfl,m,fun e=>?_⟩;obtain⟨b,o,h,l,-,d⟩:=q e;refine⟨b,o,h,Nat.zero_le _,l,fun i hi j p=>?_⟩;rw[Nat.add_assoc];exact d i j hi p
variable{h:Nat->Int}
theorem zHB(hs:Sh w g (.s fl 1 n (Ay h)) u)(hn:n<=maxLen):ED w 0 w.heap.size u n h:=by
 obtain⟨a,c,rfl,q,r⟩:=MD hs;refine⟨hn,a,c,rfl,q,fun k=>?_⟩;obtain⟨b,o,p,l,m,d⟩:=r k;refine⟨b,o,p,l,m,fun i hi=>?_⟩;obtain⟨u,j,e⟩:=d i hi 0 (by omega);rw[Nat.mul_one,Nat.add_zero]at j;rw[j,e.1]
variable{f:Nat->Int}
theorem Pz(hs:Sh w g (.s fl 2 n (ptrsT f h)) u)(hn:n<=maxLen):B4 w 0 w.heap.size u n f h:=by
 obtain⟨a,c,rfl,t,v⟩:=MD hs;refine⟨hn,a,c,rfl,t,fun m=>?_⟩;obtain⟨b,o,r,p,q,d⟩:=v m;refine⟨b,o,r,p,q,fun i hi=>?_⟩;obtain⟨u,k,e⟩:=d i hi 0 (by omega);obtain⟨x,j,l⟩:=d i hi 1 (by omega);rw[Nat.add_zero]at k;exact⟨by rw[k,e.1],by rw[j,l.1]⟩
theorem zEQ{s:Nat->AD}(hs:Sh w g (.s fl 3 n (Ao fl s)) u)(hn:n<=maxLen)(k:∀i,i<n->(s i).kn<=maxLen/\(s i).data.size<=maxLen):Bb w 0 w.heap.size u n s:=by
 obtain⟨a,c,rfl,x,y⟩:=MD hs;refine⟨hn,a,c,rfl,x,fun q=>?_⟩;obtain⟨b,o,v,r,t,d⟩:=y q;refine⟨b,o,v,r,t,fun i hi=>?_⟩;obtain⟨u,l,e⟩:=d i hi 0 (by omega);obtain⟨z,h,m⟩:=d i hi 1 (by omega);obtain⟨A,j,p⟩:=d i hi 2 (by omega);rw[Nat.add_zero]at l;exact⟨u,z,A,l,h,j,e.1,Pz m (k i hi).1,p.1,(k i hi).2⟩
theorem zHC{s:Nat->AM}(hs:Sh w g (.s fl 6 n (setsE fl s)) u)(hn:n<=maxLen)(p:∀i,i<n->(s i).dn<=maxLen/\(s i).name.size<=maxLen):EF w 0 w.heap.size u n s:=by
 obtain⟨a,c,rfl,C,D⟩:=MD hs;refine⟨hn,a,c,rfl,C,fun y=>?_⟩;obtain⟨b,o,B,z,A,d⟩:=D y;refine⟨b,o,B,z,A,fun i hi=>?_⟩;obtain⟨F,e,e0⟩:=d i hi 0 (by omega);obtain⟨G,h,q⟩:=d i hi 1 (by omega);obtain⟨H,j,r⟩:=d i hi 2 (by omega);obtain⟨I,k,t⟩:=d i hi 3 (by omega);obtain⟨J,l,v⟩:=d i hi 4 (by omega);obtain⟨E,m,x⟩:=d i hi 5 (by omega);rw[Nat.add_zero]at e;exact⟨E,by rw[e,e0.1],by rw[h,q.1],by rw[j,r.1],by rw[k,t.1],by rw[l,v.1],m,Pz x (p i hi).1,(p i hi).2⟩
theorem zER{s:Nat->AL}(hs:Sh w g (.s fl 8 n (snapsE fl s)) u)(hn:n<=maxLen)(r:∀i,i<n->(s i).dn<=maxLen/\(s i).name.size<=maxLen/\(s i).set.size<=maxLen):DR w 0 w.heap.size u n s:=by
 obtain⟨a,c,rfl,G,H⟩:=MD hs;refine⟨hn,a,c,rfl,G,fun C=>?_⟩;obtain⟨b,o,F,D,E,d⟩:=H C;refine⟨b,o,F,D,E,fun i hi=>?_⟩;obtain⟨J,e,e0⟩:=d i hi 0 (by omega);obtain⟨K,h,t⟩:=d i hi 1 (by omega);obtain⟨L,j,v⟩:=d i hi 2 (by omega);obtain⟨M,k,x⟩:=d i hi 3 (by omega);obtain⟨N,l,y⟩:=d i hi 4 (by omega);obtain⟨O,m,z⟩:=d i hi 5 (by omega);obtain⟨P,p,A⟩:=d i hi 6 (by omega);obtain⟨I,q,B⟩:=d i hi 7 (by omega);rw[Nat.add_zero]at e;exact⟨I,by rw[e,e0.1],by rw[h,t.1],by rw[j,v.1],by rw[k,x.1],by rw[l,y.1],by rw[m,z.1],by rw[p,A.1],q,Pz B (r i hi).1,(r i hi).2⟩
end
def IU(w:World)(g:Nat->Bs)(lo:Nat):Prop:=∀b,lo<=b->b<w.heap.size->g b = .fz none
section
variable {w : World} {g : Nat -> Bs} {lo hi : Nat}
theorem IU.ok(h:IU w g lo){b e:Nat}(a:lo<=b)(c:b<w.heap.size):(g b).ok .z e:=by
 rw[h b a c];exact .inr fun l e=>by cases e
variable{v:Value}
theorem M6{b j:Nat}(h:w.cell? ⟨b,j,none⟩=some v):b<w.heap.size:=AZ h
variable{f:Nat->Int}
theorem Sj(m:IU w g lo)(h:ED w lo hi v n f):Sh w g (.s .z 1 n (Ay f)) v:=by
 obtain⟨q,a,cap,rfl,l,p⟩:=h;refine⟨a,cap,rfl,l,fun hn=>?_⟩;obtain⟨b,o,k,e,r,c⟩:=p hn;have d:=M6 (c 0 hn);refine⟨b,o,k,d,m.ok e d,fun i j hi t=>?_⟩;cases (show j=0 by omega);exact⟨_,by rw[Nat.mul_one,Nat.add_zero];exact c i hi,rfl,rfl⟩
theorem Pm(p:IU w g lo){f':Nat->Int}(h:B4 w lo hi v n f f'):Sh w g (.s .z 2 n (ptrsT f f')) v:=by
 obtain⟨r,a,cap,rfl,l,q⟩:=h;refine⟨a,cap,rfl,l,fun hn=>?_⟩;obtain⟨b,o,k,e,t,c⟩:=q hn;have d:=M6 (c 0 hn).1;refine⟨b,o,k,d,p.ok e d,fun i j hi m=>?_⟩
 match j,m with
 | 0,_=>exact⟨_,(c i hi).1,rfl,rfl⟩
 | 1,_=>exact⟨_,(c i hi).2,rfl,rfl⟩
theorem zGA(e:IU w g lo){f:Nat->AD}(h:Bb w lo hi v n f):Sh w g (.s .z 3 n (Ao .z f)) v:=by
 obtain⟨y,a,cap,rfl,r,u⟩:=h;refine⟨a,cap,rfl,r,fun hn=>?_⟩;obtain⟨b,o,q,p,A,c⟩:=u hn;have d:b<w.heap.size:=by obtain⟨_,_,_,h,_⟩:=c 0 hn;exact M6 h
 refine⟨b,o,q,d,e.ok p d,fun i j hi t=>?_⟩;obtain⟨B,v1,C,c0,c1,k,e0,l,m,x⟩:=c i hi
 match j,t with
 | 0,_=>exact⟨_,c0,e0,rfl⟩
 | 1,_=>exact⟨_,c1,Pm e l⟩
 | 2,_=>exact⟨_,k,m,rfl⟩
theorem zH1(e:IU w g lo){f:Nat->AM}(h:EF w lo hi v n f):Sh w g (.s .z 6 n (setsE .z f)) v:=by
 obtain⟨r,a,cap,rfl,m,q⟩:=h;refine⟨a,cap,rfl,m,fun hn=>?_⟩;obtain⟨b,o,l,k,t,c⟩:=q hn;have d:b<w.heap.size:=by obtain⟨_,h⟩:=c 0 hn;exact M6 h.c0
 refine⟨b,o,l,d,e.ok k d,fun i j hi p=>?_⟩;obtain⟨vd,h⟩:=c i hi
 match j,p with
 | 0,_=>exact⟨_,h.c0,rfl,rfl⟩
 | 1,_=>exact⟨_,h.c1,rfl,rfl⟩
 | 2,_=>exact⟨_,h.c2,rfl,rfl⟩
 | 3,_=>exact⟨_,h.c3,rfl,rfl⟩
 | 4,_=>exact⟨_,h.c4,rfl,rfl⟩
 | 5,_=>exact⟨_,h.c5,Pm e h.dead⟩
theorem zGB(e:IU w g lo){f:Nat->AL}(h:DR w lo hi v n f):Sh w g (.s .z 8 n (snapsE .z f)) v:=by
 obtain⟨r,a,cap,rfl,m,q⟩:=h;refine⟨a,cap,rfl,m,fun hn=>?_⟩;obtain⟨b,o,l,k,t,c⟩:=q hn;have d:b<w.heap.size:=by obtain⟨_,h⟩:=c 0 hn;exact M6 h.c0
 refine⟨b,o,l,d,e.ok k d,fun i j hi p=>?_⟩;obtain⟨vd,h⟩:=c i hi
 match j,p with
 | 0,_=>exact⟨_,h.c0,rfl,rfl⟩
 | 1,_=>exact⟨_,h.c1,rfl,rfl⟩
 | 2,_=>exact⟨_,h.c2,rfl,rfl⟩
 | 3,_=>exact⟨_,h.c3,rfl,rfl⟩
 | 4,_=>exact⟨_,h.c4,rfl,rfl⟩
 | 5,_=>exact⟨_,h.c5,rfl,rfl⟩
 | 6,_=>exact⟨_,h.c6,rfl,rfl⟩
 | 7,_=>exact⟨_,h.c7,Pm e h.dead⟩
end
set_option linter.unusedSimpArgs false
set_option maxRecDepth 20000
set_option maxHeartbeats 1600000
variable{W:A5}
theorem JP{x:Int}:(BC W.pn fun k=>(W.A1 k).id=x)<0↔¬Ba W x:=by
 rcases YO (Ga W.pn fun k=>(W.A1 k).id=x)with⟨h,a,-⟩ | ⟨h,a⟩
 ·exact⟨fun e=>absurd e (by omega),fun e=>absurd h e⟩
 ·rw[a];exact⟨fun _=>h,fun _=>by decide⟩
theorem Gx{x:Int}:(0<=BC W.pn fun k=>(W.A1 k).id=x)↔Ba W x:=by
 rw[<-Int.not_lt,JP,Classical.not_not]
variable{x:ByteArray}
theorem E5:(BC W.sn fun k=>(W.A3 k).name=x)<0↔¬B3 W x:=by
 rcases zDd (Ga W.sn fun k=>(W.A3 k).name=x)with⟨h,a⟩ | ⟨h,a⟩
 ·exact⟨fun e=>absurd e (by omega),fun e=>absurd h e⟩
 ·rw[a];exact⟨fun _=>h,fun _=>by decide⟩
theorem CW:(0<=BC W.sn fun k=>(W.A3 k).name=x)↔B3 W x:=by
 rw[<-Int.not_lt,E5,Classical.not_not]
variable{k:Nat}
theorem yo(h:k<=1000000000):IntKind.i64.wrap ((k:Int) - 1)=(k:Int) - 1:=by
 unfold IntKind.wrap;simp[IntKind.signed,IntKind.bits];omega
theorem tn1:((k:Int) - 1).toNat=k - 1:=by omega
attribute [go_sem] QF BP PW QD RA Sz T0 T1 T2 T3 T4 UU UV UW UX UY UZ Ua Ub X7 Xl
def yS:AE:=AU (fun s:ByteArray=>[sT s]) (fun _=>True) (fun s=>bR (BK s))
theorem IB(s:ByteArray):yS [sT s]=some (True,bR (BK s)):=Ac (fun l=>C1 (nth l 0 0)) (fun _=>rfl) s
theorem Oy:Ae Tryz.prog 42 yS:=by
 refine Ar Ah GOk.nil mixed Tryz.func42 rfl Tryz.ntmps42 Tryz.results42 5 ?_;rintro s -;refine⟨by simp,?_⟩;simp[go_sem];refine⟨fun h=>?_,fun t u=>?_⟩
 ·exact fun d=>by have t:=d.1;have u:=d.2.1;omega
 refine Ax (fun k:Nat=>⟨[(0,true,.m false [.v (.string s)]),(3,true,.i k)],[]⟩) (fun k=>s.size - k) (fun k=>k<=s.size/\∀j,(h:j<k)->(r:j<s.size)->Dk j (s[j].toNat:Int)) 0 (by simp[go_sem]) (by simp) ?_;rintro k ⟨w,g⟩;simp[go_sem,Al (show k<=1000000000 by omega)];refine⟨fun l=>?_,fun l=>⟨by omega,by omega,fun j p=>g j (by omega) p⟩⟩;have e:s[k]?.getD 0=s[k]:=by simp[l]
 rw[e];obtain⟨c,n⟩:∃c:Int,c=(s[k].toNat:Int):=⟨_,rfl⟩;have q:BK s->Dk k c:=fun d=>n▸d.2.2 k l
 have hn:Dk k c->∀j,(h:j<k+1)->(r:j<s.size)->Dk j (s[j].toNat:Int):=fun h j p o=>by
  by_cases e:j=k
  ·subst e;rw[<-n];exact h
  ·exact g j (by omega) o
 rw[<-n];unfold Dk at q;refine⟨l,fun a b c=>⟨⟨a,b⟩,c⟩,fun a b c=>⟨⟨a,b⟩,c⟩,fun a b=>⟨a,b⟩,fun a b d=>?_,fun h=>⟨k+1,⟨by omega,hn ?_⟩,by omega,rfl⟩⟩
 ·have:=q d;omega
 ·unfold Dk;omega
def qB:AE:=AU (fun W:A5=>[woT W]) (fun W=>W.sn<=1000000/\W.pn<=1000000) (fun W=>bR (Cm W))
theorem zEA(W:A5):qB [woT W]=some (W.sn<=1000000/\W.pn<=1000000,bR (Cm W)):=Ac (fun l=>BW (nth l 0)) (fun _=>rfl) W
theorem zBd:Ae Tryz.prog 61 qB:=by
 refine Ar Ah (GOk.cons MG (AA Tryz.func110 rfl rfl) (GOk.cons IJ (AA Tryz.func28 rfl rfl) (GOk.cons JA (AA Tryz.func29 rfl rfl) (GOk.cons Oy (AA Tryz.func42 rfl rfl) GOk.nil)))) mixed Tryz.func61 rfl Tryz.ntmps61 Tryz.results61 8 ?_;rintro W ⟨hn,z⟩;refine⟨by simp,?_⟩;simp[go_sem,Lc];refine⟨fun h a=>?_,fun A B C D c1 R=>?_⟩
 ·obtain⟨r,t,G,H,-⟩:=a;unfold Kc at r t;omega
 refine Ax (fun k:Nat=>⟨[(1,true,.m false [.p 1 0]),(3,true,.i k)],[(1,.var ((woL W).map Tr.cv))]⟩) (fun k=>W.sn - k) (fun k=>k<=W.sn/\∀i,i<k->HU W i) 0 (by simp[go_sem]) (by simp) ?_;rintro k ⟨J,o⟩;simp[go_sem,Al (show k<=1000000000 by omega),IB,F4,CJ,z,hn,JP,Gx,E5,CW,yo (show k<=1000000000 by omega),tn1];refine⟨fun c=>?_,fun c=>?_⟩
 ·have l:Cm W->HU W k:=fun a=>a.2.2.2.2.1 k c
  have u:HU W k->∃q:Nat,(q<=W.sn/\∀i,i<q->HU W i)/\W.sn - q<W.sn - k/\(k:Int)+1=(q:Int):=fun h=>⟨k+1,⟨by omega,Bf c o h⟩,by omega,rfl⟩
  obtain⟨Q,w⟩:∃Q,Q=HU W k:=⟨_,rfl⟩;rw[<-w]at l u;unfold HU BF at w;refine⟨c,fun _ _=>⟨by omega,by omega⟩,?_,?_,?_,?_,?_,by kernel_rfl,fun h a=>?_,fun r t G H=>u ?_⟩
  ·grind
  ·grind
  ·grind
  ·grind
  ·grind
  ·have:=l a
   grind
  ·grind
 cases (show k=W.sn by omega);refine Ax (fun k:Nat=>⟨[(1,true,.m false [.p 1 0]),(5,true,.i k)],[(1,.var ((woL W).map Tr.cv))]⟩) (fun k=>W.pn - k) (fun k=>k<=W.pn/\∀i,i<k->Ll W i) 0 (by simp[go_sem]) (by simp) ?_;rintro k ⟨J,d⟩;simp[go_sem,Al (show k<=1000000000 by omega),IB,F4,CJ,z,hn,JP,Gx,E5,CW,yo (show k<=1000000000 by omega),tn1];refine⟨fun c=>?_,fun c=>⟨⟨A,B⟩,⟨C,D⟩,by omega,by omega,o,fun i hi=>d i (by omega)⟩⟩;have l:Cm W->Ll W k:=fun a=>a.2.2.2.2.2 k c
 refine⟨c,fun h a=>?_,fun s1 s2 s3 N O P=>⟨fun _=>⟨by omega,by omega⟩,fun _ _=>⟨by omega,by omega⟩,?_,?_,?_,?_,by kernel_rfl,fun h a=>?_,fun K L=>?_⟩⟩
 ·obtain⟨q1,M,S,T,U,V⟩:=(l a).1
  grind
 ·grind
 ·grind
 ·grind
 ·grind
 ·obtain⟨q1,M⟩:=(l a).2.1
  grind
 have I:NE W k:=⟨K,L⟩;refine Ax (fun j:Nat=>⟨[(1,true,.m false [.p 1 0]),(5,true,.i k),(6,true,.m false [.p 6 0]),(7,true,.i j)],[(6,.var [.v (.int .i64 (W.A1 k).id),.v (.string (W.A1 k).name),.v (.string (W.A1 k).set),.v (.int .i64 (W.A1 k).A6),.v (.int .i64 (W.A1 k).time),.v (.int .i64 (W.A1 k).rs),.v (.int .i64 (W.A1 k).rb),.s .b 2 (W.A1 k).dn (ptrsT (W.A1 k).ds (W.A1 k).db)]),(1,.var ((woL W).map Tr.cv))]⟩) (fun j=>k - j) (fun j=>j<=k/\NF W k j) 0 (by simp[go_sem]) ⟨Nat.zero_le _,fun j y=>absurd y (Nat.not_lt_zero _)⟩ ?_;rintro j ⟨y,x⟩;simp[go_sem,Al (show j<=1000000000 by omega),Al (show k<=1000000000 by omega)];refine⟨fun n=>⟨by omega,fun _=>by omega,by kernel_rfl,fun E F a=>(l a).2.2 j n ⟨G9 E,G9 F⟩,fun g=>⟨j+1,⟨by omega,fun i hi=>?_⟩,by omega,rfl⟩⟩,fun n=>⟨k+1,⟨by omega,Bf c d ⟨⟨s1,s2,s3,N,O,P⟩,I,fun i hi=>x i (by omega)⟩⟩,by omega,rfl⟩⟩;by_cases e:i=j
 ·subst e;exact fun h=>g (congrArg ByteArray.toList h.1) (congrArg ByteArray.toList h.2)
 ·exact x i (by omega)
set_option maxRecDepth 20000
set_option maxHeartbeats 1600000
def M0(W:A5)(i:Nat):Prop:=Fd W (W.A3 i).name (W.A3 i).A6 (W.A3 i).origin
def Tg:AE:=AU (fun W:A5=>[woT W]) (fun W=>Cm W) (fun W=>bR (∀i,i<W.sn->M0 W i))
theorem zAS(W:A5):Tg [woT W]=some (Cm W,bR (∀i,i<W.sn->M0 W i)):=Ac (fun l=>BW (nth l 0)) (fun _=>rfl) W
theorem zCO:Ae Tryz.prog 62 Tg:=by
 refine Ar Ah (GOk.cons JA (AA Tryz.func29 rfl rfl) GOk.nil) mixed Tryz.func62 rfl Tryz.ntmps62 Tryz.results62 8 ?_;rintro W n;replace n:Cm W:=n;have E:W.sn<=8:=n.2.2.1;have w:W.pn<=20:=n.2.2.2.1;have D:W.pn<=1000000:=by omega
 have s:=n.DG;refine⟨by simp,?_⟩;simp[go_sem];refine Ax (fun k:Nat=>⟨[(1,true,.m false [.p 1 0]),(3,true,.i k)],[(1,.var ((woL W).map Tr.cv))]⟩) (fun k=>W.sn - k) (fun k=>k<=W.sn/\∀i,i<k->M0 W i) 0 (by simp[go_sem]) (by simp) ?_;rintro k ⟨H,o⟩;simp[go_sem,Al (show k<=1000000000 by omega)];refine⟨fun b=>?_,fun b i hi=>o i (by omega)⟩;refine Ax (fun j:Nat=>⟨[(1,true,.m false [.p 1 0]),(3,true,.i k),(4,true,.m false [.v (.int .i64 0)]),(5,true,.i (ownN W (W.A3 k).name j)),(6,true,.i j)],[(1,.var ((woL W).map Tr.cv))]⟩) (fun j=>W.pn - j) (fun j=>j<=W.pn) 0 (by simp[go_sem,ownN]) (Nat.zero_le _) ?_;rintro j G;have u:=Na W (W.A3 k).name j;simp[go_sem,Al (show j<=1000000000 by omega),Al (show ownN W (W.A3 k).name j<=1000000000 by omega)];refine⟨fun c=>⟨c,b,by kernel_rfl,fun h=>⟨j+1,c,by omega,by rw[Np (G9 h)];rfl,rfl⟩,fun h=>⟨j+1,c,by omega,by rw[Lt fun e=>h (congrArg ByteArray.toList e)],rfl⟩⟩,fun c=>⟨b,?_⟩⟩;cases (show j=W.pn by omega);refine Ax (fun q:Nat×Int=>⟨[(1,true,.m false [.p 1 0]),(3,true,.i k),(4,true,.i q.1),(5,true,.i (ownN W (W.A3 k).name W.pn)),(7,true,.m false [.v (.int .i64 q.2)])],[(1,.var ((woL W).map Tr.cv))]⟩) (fun q=>1000000 - q.1) (fun q=>Eh W (W.A3 k).name (W.A3 k).A6 q.1 q.2) (0,(W.A3 k).A6) (by simp[go_sem]) (Eh.start s _ (s.A3 k b)) ?_;rintro⟨a,x⟩ g;replace g:Eh W (W.A3 k).name (W.A3 k).A6 a x:=g;have F:a<=900000:=by have:=g.least;have:=g.sum;omega
 simp[go_sem,F4,D,Al (show a<=1000000000 by omega),Al (show k<=1000000000 by omega)];have d:¬Ev W (W.A3 k).name x->(¬(a:Int)=(ownN W (W.A3 k).name W.pn:Nat)\/¬x=(W.A3 k).origin->∃x,x<W.sn/\¬M0 W x)/\((a:Int)=(ownN W (W.A3 k).name W.pn:Nat)->x=(W.A3 k).origin->∃r:Nat,(r<=W.sn/\∀i,i<r->M0 W i)/\W.sn - r<W.sn - k/\(k:Int)+1=(r:Int)):=fun u=>by
  have hi:=VF (origin:=(W.A3 k).origin) g.steps u;refine⟨fun h=>⟨k,b,fun C=>?_⟩,fun A B=>⟨k+1,⟨by omega,Bf b o (hi.2 ⟨by exact_mod_cast A,B⟩)⟩,by omega,rfl⟩⟩;obtain⟨y,z⟩:=hi.1 C;exact h.elim (fun h=>h (by exact_mod_cast y)) (fun h=>h z)
 by_cases t:x=0
 ·subst t;exact⟨fun h=>absurd rfl h,fun h=>absurd rfl h,by kernel_rfl,fun h=>absurd rfl h,fun _=>⟨fun _=>b,d (ZB s _)⟩⟩
 ·obtain⟨q,l⟩:=(g.there.resolve_left t).no;have e:(BC W.pn fun k=>(W.A1 k).id=x)=q:=Gb l.1 l.2.1 l.2.2;have:=l.1;rw[e,Int.toNat_natCast];exact⟨fun _=>⟨by omega,by omega⟩,fun _=>b,by kernel_rfl,fun _ h=>⟨⟨by omega,by omega⟩,by kernel_rfl,a+1,_,g.next s l (G9 h),by omega,rfl,rfl⟩,fun h=>⟨fun _=>b,d (Xw l fun e=>h t (congrArg ByteArray.toList e))⟩⟩
set_option maxRecDepth 20000
set_option maxHeartbeats 1600000
abbrev psT(n:Nat)(f g:Nat->Int):Bool×List Tr:=(false,[.s .b 2 n (ptrsT f g)])
abbrev psO(l:List (Int×Int)):Bool×List Tr:=(false,[.s .o 2 l.length (ptL l)])
def KB(a:Tr):Nat×(Nat->Int)×(Nat->Int):=(D2 a,fun i=>AQ (BY a i 0),fun i=>AQ (BY a i 1))
def mIn:AE:=AU (fun q:(Nat×(Nat->Int)×(Nat->Int))×Int×Int=>[psT q.1.1 q.1.2.1 q.1.2.2,pT q.2.1 q.2.2]) (fun q=>q.1.1<=1000000) (fun q=>bR (PIn q.1.1 q.1.2.1 q.1.2.2 q.2.1 q.2.2))
theorem NK(n:Nat)(f g:Nat->Int)(a b:Int):mIn [psT n f g,pT a b]=some (n<=1000000,bR (PIn n f g a b)):=Ac (fun l=>(KB (nth l 0 0),AQ (nth l 1 0),AQ (nth l 1 1))) (fun _=>rfl) ((n,f,g),a,b)
theorem Nj:Ae Tryz.prog 82 mIn:=by
 refine Ar Ah GOk.nil mixed Tryz.func82 rfl Tryz.ntmps82 Tryz.results82 6 ?_;rintro⟨⟨n,f,g⟩,a,b⟩ hn;replace hn:n<=1000000:=hn;refine⟨by simp,?_⟩;simp[go_sem];refine Ax (fun k:Nat=>⟨[(3,true,.m false [.p 3 0]),(0,true,.m false [.s .b 2 n (ptrsT f g)]),(5,true,.i k)],[(3,.var [.v (.int .i64 a),.v (.int .i64 b)])]⟩) (fun k=>n - k) (fun k=>k<=n/\∀i,i<k->¬(f i=a/\g i=b)) 0 (by simp[go_sem]) (by simp) ?_;rintro k ⟨q,e⟩;simp[go_sem,Al (show k<=1000000000 by omega)];refine⟨fun l=>⟨l,by kernel_rfl,fun d c=>⟨k,l,d,c⟩,fun h=>⟨k+1,⟨by omega,fun i hi d c=>?_⟩,by omega,rfl⟩⟩,fun l ⟨j,d,c⟩=>e j (by omega) c⟩;rcases Nat.lt_succ_iff_lt_or_eq.1 hi with o | rfl
 ·exact e i o ⟨d,c⟩
 ·exact h d c
def qF:AE:=AU (fun q:(Nat×(Nat->Int)×(Nat->Int))×Int=>[psT q.1.1 q.1.2.1 q.1.2.2,iT q.2]) (fun q=>q.1.1<=1000000) (fun q=>[psO (Bz q.1.2.1 q.1.2.2 q.2 q.1.1),psO (Ce q.1.2.1 q.1.2.2 q.2 q.1.1)])
theorem MQ(n:Nat)(f g:Nat->Int)(t:Int):qF [psT n f g,iT t]=some (n<=1000000,[psO (Bz f g t n),psO (Ce f g t n)]):=Ac (fun l=>(KB (nth l 0 0),AQ (nth l 1 0))) (fun _=>rfl) ((n,f,g),t)
theorem Om:Ae Tryz.prog 181 qF:=by
 refine Ar Ah GOk.nil mixed Tryz.func181 rfl Tryz.ntmps181 Tryz.results181 9 ?_;rintro⟨⟨n,f,g⟩,t⟩ hn;replace hn:n<=1000000:=hn;refine⟨by simp,?_⟩;simp[go_sem];refine Ax (fun k:Nat=>⟨[(6,true,.m false [.h 7]),(7,true,.m false [.h 8]),(0,true,.m false [.s .b 2 n (ptrsT f g)]),(1,true,.i t),(8,true,.i k)],[(7,.row 2 (Bz f g t k).length (ptL (Bz f g t k))),(8,.row 2 (Ce f g t k).length (ptL (Ce f g t k)))]⟩) (fun k=>n - k) (fun k=>k<=n) 0 (by simp[go_sem,Bz,Ce];exact Lv rfl) (by simp) ?_;rintro k c;have d:=MZ f g t k;simp[go_sem,Al (show k<=1000000000 by omega)];refine⟨fun a=>⟨a,fun h=>⟨a,by omega,k+1,by omega,by omega,by omega,Gd I5 (by simp[Bz,h]),Ge (by simp[Ce,h])⟩,fun h=>⟨a,by omega,k+1,by omega,by omega,by omega,Ge (by simp[Bz,Int.not_lt.2 h]),Gd I5 (by simp[Ce,Int.not_lt.2 h])⟩⟩,fun a=>?_⟩;cases (show k=n from by omega);exact⟨⟨Ge rfl,Gc⟩,Ge rfl,Gc⟩
def qh:AE:=AU (fun q:Nat×(Nat->Int)×(Nat->Int)=>[psT q.1 q.2.1 q.2.2]) (fun q=>q.1<=1000000) (fun q=>bR (Bq q.1 q.2.1 q.2.2))
theorem zFr(n:Nat)(f g:Nat->Int):qh [psT n f g]=some (n<=1000000,bR (Bq n f g)):=Ac (fun l=>KB (nth l 0 0)) (fun _=>rfl) (n,f,g)
theorem zC8:Ae Tryz.prog 81 qh:=by
 refine Ar Ah (GOk.cons MG (AA Tryz.func110 rfl rfl) (GOk.cons Rg (AA Tryz.func131 rfl rfl) GOk.nil)) mixed Tryz.func81 rfl Tryz.ntmps81 Tryz.results81 5 ?_;rintro⟨n,f,g⟩ hn;replace hn:n<=1000000:=hn;refine⟨by simp,?_⟩;simp[go_sem];refine⟨fun p h=>by have:=h.1;omega,fun p=>?_⟩;refine Ax (fun k:Nat=>⟨[(0,true,.m false [.s .b 2 n (ptrsT f g)]),(3,true,.i k)],[]⟩) (fun k=>n - k) (fun k=>k<=n/\∀i,i<k->G4 (f i) (g i)/\∀j,j<i->f j≠f i) 0 (by simp[go_sem]) (by simp) ?_;rintro k ⟨u,e⟩;simp[go_sem,Al (show k<=1000000000 by omega),Lc,Qn];refine⟨fun c=>?_,fun c=>⟨by omega,fun i hi=>(e i (by omega)).1,fun i hi=>(e i (by omega)).2⟩⟩;refine⟨c,fun _ _=>c,fun h l=>?_,fun q r o=>?_⟩
 ·have:=(l.2.1 k c);unfold G4 at this;unfold Df at h;omega
 refine Ax (fun j:Nat=>⟨[(0,true,.m false [.s .b 2 n (ptrsT f g)]),(3,true,.i k),(4,true,.i j)],[]⟩) (fun j=>k - j) (fun j=>j<=k/\∀i,i<j->f i≠f k) 0 (by simp[go_sem]) (by simp) ?_;rintro j ⟨t,a⟩;simp[go_sem,Al (show j<=1000000000 by omega),Al (show k<=1000000000 by omega)];exact⟨fun d=>⟨by omega,c,by kernel_rfl,fun h l=>l.2.2 k c j d h,fun h=>⟨j+1,⟨by omega,Bf d a h⟩,by omega,rfl⟩⟩,fun d=>⟨k+1,⟨by omega,Bf c e ⟨by unfold G4;unfold Df at o;omega,fun i hi=>a i (by omega)⟩⟩,by omega,rfl⟩⟩
def qk:AE:=AU (fun q:(Nat×(Nat->Int)×(Nat->Int))×Nat×(Nat->Int)×(Nat->Int)=>[psT q.1.1 q.1.2.1 q.1.2.2,psT q.2.1 q.2.2.1 q.2.2.2]) (fun q=>q.1.1<=1000000/\q.2.1<=1000000) (fun q=>bR (Ew q.1.1 q.1.2.1 q.1.2.2 q.2.1 q.2.2.1 q.2.2.2))
theorem QL(n:Nat)(f g:Nat->Int)(a:Nat)(f' g':Nat->Int):qk [psT n f g,psT a f' g']=some (n<=1000000/\a<=1000000,bR (Ew n f g a f' g')):=Ac (fun l=>(KB (nth l 0 0),KB (nth l 1 0))) (fun _=>rfl) ((n,f,g),a,f',g')
theorem Yq:Ae Tryz.prog 33 qk:=by
 refine Ar Ah (GOk.cons zC8 (AA Tryz.func81 rfl rfl) (GOk.cons Nj (AA Tryz.func82 rfl rfl) GOk.nil)) mixed Tryz.func33 rfl Tryz.ntmps33 Tryz.results33 6 ?_;rintro⟨⟨n,f,g⟩,j,f',g'⟩ ⟨hn,a⟩;replace hn:n<=1000000:=hn;replace a:j<=1000000:=a;refine⟨by simp,?_⟩;simp[go_sem,zFr,hn,a];refine⟨fun h c=>?_,fun l o p=>?_⟩
 ·have:=c.2.2.1;rcases h with(h | h) | h
  ·exact h c.1
  ·exact h c.2.1
  ·omega
 refine Ax (fun k:Nat=>⟨[(0,true,.m false [.s .b 2 n (ptrsT f g)]),(1,true,.m false [.s .b 2 j (ptrsT f' g')]),(5,true,.i k)],[]⟩) (fun k=>n - k) (fun k=>k<=n/\∀i,i<k->PIn j f' g' (f i) (g i)) 0 (by simp[go_sem]) (by simp) ?_;rintro k ⟨q,d⟩;simp[go_sem,Al (show k<=1000000000 by omega),NK,a];exact⟨fun e=>⟨e,fun h c=>h (c.2.2.2 k e),fun h=>⟨k+1,⟨by omega,Bf e d h⟩,by omega,rfl⟩⟩,fun e=>⟨l,o,by omega,fun i hi=>d i (by omega)⟩⟩
set_option maxRecDepth 20000
set_option maxHeartbeats 1600000
theorem L0(h:NL W)(x:Int):Ez W x=AC W x:=by
 by_cases a:x=0
 ·rw[show Ez W x=Ap from if_pos a,Oi fun k b e=>by have:=h k b;omega]
 ·exact if_neg a
variable{l:List (Int×Int)}{i:Nat}
theorem LU:(l[i]?.getD (0,0)).1=AO l i:=by simp[AO,List.getD_eq_getElem?_getD]
theorem SP:(l[i]?.getD (0,0)).2=AS l i:=by simp[AS,List.getD_eq_getElem?_getD]
theorem SL{x y:Int}:PIn l.length (fun i=>AO l i) (fun i=>AS l i) x y↔(x,y)∈l:=Jp
theorem X6{fl:Fl}:(Tr.s fl k n (D6 encP (0,0) l)).lend = .s .b k n (ptrsT (fun i=>AO l i) (fun i=>AS l i)):=by
 rw[BP];simp only[LU,SP]
theorem PP:D6 encP (0,0) l i 0 = .v (.int .i64 (AO l i)):=by rw[<-LU];rfl
theorem PQ:D6 encP (0,0) l i 1 = .v (.int .i64 (AS l i)):=by rw[<-SP];rfl
theorem Zr{p q:Prop} [h:Decidable q]:dB p=decide q↔(p↔q):=by
 by_cases a:p<;>by_cases b:q<;>simp[dB,a,b]
attribute [-go_sem] BP
attribute [local go_sem] X6 PP PQ
structure Ec (W:A5):Prop where
 right:Ag W.pool
 AX:Cm W
 A1:∀k,k<W.pn->As W.pool (W.A1 k).rs (W.A1 k).rb
theorem Ec.ids(h:Ec W):NL W:=fun k a=>(h.AX.DG.ids k a).1
theorem Ec.pn(h:Ec W):W.pn<=1000000:=by have:=h.AX.2.2.2.1;omega
def Tf:AE:=AU (fun q:(A5×Int)×(Int×Int)×Int=>[woT q.1.1,iT q.1.2,pT q.2.1.1 q.2.1.2,iT q.2.2]) (fun q=>Ec q.1.1/\As q.1.1.pool q.2.1.1 q.2.1.2) (fun q=>bR (Gy (AF q.1.1.pool q.2.1.1 q.2.1.2) (AF q.1.1.pool (AC q.1.1 q.1.2).rs (AC q.1.1 q.1.2).rb) (AC q.1.1 q.1.2).time q.2.2))
theorem Xm(W:A5)(x a b t:Int):Tf [woT W,iT x,pT a b,iT t]=some (Ec W/\As W.pool a b,bR (Gy (AF W.pool a b) (AF W.pool (AC W x).rs (AC W x).rb) (AC W x).time t)):=Ac (fun l=>((BW (nth l 0),AQ (nth l 1 0)),(AQ (nth l 2 0),AQ (nth l 2 1)),AQ (nth l 3 0))) (fun _=>rfl) ((W,x),(a,b),t)
theorem zCN:Ae Tryz.prog 116 Tf:=by
 refine Ar Ah (GOk.cons LD (AA Tryz.func114 rfl rfl) (GOk.cons Jv (AA Tryz.func115 rfl rfl) (GOk.cons Nj (AA Tryz.func82 rfl rfl) GOk.nil))) mixed Tryz.func116 rfl Tryz.ntmps116 Tryz.results116 14 ?_;rintro⟨⟨W,x⟩,⟨a,b⟩,t⟩ ⟨q,s⟩;replace q:Ec W:=q;replace s:As W.pool a b:=s;have B:=Ld q.A1 x;refine⟨by simp,?_⟩;have D:=L0 q.ids x;simp[go_sem,K4,J0,q.pn,D,B,s,q.right];obtain⟨c,n⟩:∃l,l=AF W.pool a b:=⟨_,rfl⟩;obtain⟨d,o⟩:∃l,l=AF W.pool (AC W x).rs (AC W x).rb:=⟨_,rfl⟩;have G:c.length<=100:=by have:=De W.pool a b;rw[n];omega
 have lo:d.length<=100:=by have:=De W.pool (AC W x).rs (AC W x).rb;rw[o];omega
 rw[<-n,<-o];obtain⟨τ,hτ⟩:∃τ,τ = (AC W x).time:=⟨_,rfl⟩;rw[<-hτ];refine Ax (fun k:Nat=>⟨[(12,true,.m false [.h 8]),(11,true,.m false [.h 7]),(10,true,.m false [.v (.int .i64 τ)]),(3,true,.m false [.v (.int .i64 t)]),(13,true,.i k)],[(8,.row 2 c.length (ptL c)),(7,.row 2 d.length (ptL d))]⟩) (fun k=>c.length - k) (fun k=>k<=c.length/\qo c d τ t k) 0 (by simp[go_sem]) ⟨Nat.zero_le _,fun j C=>absurd C (Nat.not_lt_zero _)⟩ ?_;rintro k ⟨F,r⟩;simp[go_sem,NK,Al (show k<=1000000000 by omega),SL,show d.length<=1000000 by omega];have u:Gy c d τ t->AS c k<=t/\((AO c k,AS c k)∈d↔AS c k<=τ)\/¬k<c.length:=fun h=>by
  by_cases p:k<c.length
  ·exact .inl ((U8 c d τ t).2 h k p)
  ·exact .inr p
 refine⟨fun p=>⟨p,fun _=>p,by kernel_rfl,fun h A=>?_,fun y z=>⟨k+1,⟨by omega,fun i hi=>?_⟩,by omega,rfl⟩⟩,fun p=>?_⟩
 ·rcases u A with⟨E,w⟩ | g
  ·exact h.elim (fun h=>by omega) (fun h=>h (Zr.2 w))
  ·exact g p
 ·by_cases e:i=k
  ·subst e;exact⟨y,Zr.1 z⟩
  ·exact r i (by omega)
 ·cases (show k=c.length by omega);exact(U8 c d τ t).1 r
def yL:AE:=AU (fun q:(A5×Int)×(Int×Int)×Nat×(Nat->Int)×(Nat->Int)=>[woT q.1.1,iT q.1.2,pT q.2.1.1 q.2.1.2,psT q.2.2.1 q.2.2.2.1 q.2.2.2.2]) (fun q=>(Ec q.1.1/\As q.1.1.pool q.2.1.1 q.2.1.2)/\q.2.2.1<=1000000) (fun q=>bR (FH q.2.2.1 q.2.2.2.1 q.2.2.2.2 (BU (AF q.1.1.pool (AC q.1.1 q.1.2).rs (AC q.1.1 q.1.2).rb) (AF q.1.1.pool q.2.1.1 q.2.1.2))))
theorem VG(W:A5)(x a b:Int)(n:Nat)(f g:Nat->Int):yL [woT W,iT x,pT a b,psT n f g]=some ((Ec W/\As W.pool a b)/\n<=1000000,bR (FH n f g (BU (AF W.pool (AC W x).rs (AC W x).rb) (AF W.pool a b)))):=Ac (fun l=>((BW (nth l 0),AQ (nth l 1 0)),(AQ (nth l 2 0),AQ (nth l 2 1)),KB (nth l 3 0))) (fun _=>rfl) ((W,x),(a,b),n,f,g)
theorem zAN:Ae Tryz.prog 64 yL:=by
 refine Ar Ah (GOk.cons LD (AA Tryz.func114 rfl rfl) (GOk.cons Jv (AA Tryz.func115 rfl rfl) (GOk.cons Nj (AA Tryz.func82 rfl rfl) (GOk.cons Yq (AA Tryz.func33 rfl rfl) GOk.nil)))) mixed Tryz.func64 rfl Tryz.ntmps64 Tryz.results64 15 ?_;rintro⟨⟨W,x⟩,⟨a,b⟩,n,f,g⟩ ⟨⟨o,q⟩,hn⟩;replace o:Ec W:=o;replace q:As W.pool a b:=q;replace hn:n<=1000000:=hn;have t:=Ld o.A1 x;refine⟨by simp,?_⟩;have u:=L0 o.ids x;simp[go_sem,K4,J0,o.pn,u,t,q,o.right];obtain⟨d,e⟩:∃l,l=AF W.pool a b:=⟨_,rfl⟩;obtain⟨c,j⟩:∃l,l=AF W.pool (AC W x).rs (AC W x).rb:=⟨_,rfl⟩;have w:d.length<=100:=by have:=De W.pool a b;rw[e];omega
 have lo:c.length<=100:=by have:=De W.pool (AC W x).rs (AC W x).rb;rw[j];omega
 rw[<-e,<-j];refine Ax (fun k:Nat=>⟨[(14,true,.i k),(13,true,.m false [.h 9]),(12,true,.m false [.h 8]),(11,true,.m false [.h 7]),(3,true,.m false [.s .b 2 n (ptrsT f g)])],[(9,.row 2 (BU (c.take k) d).length (ptL (BU (c.take k) d))),(8,.row 2 d.length (ptL d)),(7,.row 2 c.length (ptL c))]⟩) (fun k=>c.length - k) (fun k=>k<=c.length) 0 (by simp[go_sem];exact Lv rfl) (Nat.zero_le _) ?_;rintro k v;have r:=VD c d k;simp[go_sem,NK,QL,Al (show k<=1000000000 by omega),SL,show d.length<=1000000 by omega,hn];refine⟨fun p=>⟨p,fun h=>⟨p,by omega,k+1,by omega,by omega,rfl,?_⟩,fun h=>⟨k+1,by omega,by omega,rfl,?_⟩⟩,fun p=>?_⟩
 ·refine Gd I5 ?_;rw[QV p h]
 ·rw[Q9 p h];exact TrE.refl _
 ·cases (show k=c.length by omega);rw[List.take_length];rw[List.take_length]at r;exact⟨by omega,Iff.rfl⟩
def Zl:AE:=AU (fun W:A5=>[woT W]) (fun W=>Ec W/\∀k,k<W.sn->As W.pool (W.A3 k).rs (W.A3 k).rb) (fun W=>bR (∀i,i<memN W->Fb W i))
theorem zE8(W:A5):Zl [woT W]=some (Ec W/\∀k,k<W.sn->As W.pool (W.A3 k).rs (W.A3 k).rb,bR (∀i,i<memN W->Fb W i)):=Ac (fun l=>BW (nth l 0)) (fun _=>rfl) W
theorem zAM:Ae Tryz.prog 68 Zl:=by
 refine Ar Ah (GOk.cons zCN (AA Tryz.func116 rfl rfl) GOk.nil) mixed Tryz.func68 rfl Tryz.ntmps68 Tryz.results68 5 ?_;rintro W ⟨c,n⟩;replace c:Ec W:=c;have q:W.sn<=8:=c.AX.2.2.1;have l:W.pn<=20:=c.AX.2.2.2.1;refine⟨by simp,?_⟩;simp[go_sem];refine Ax (fun k:Nat=>⟨[(1,true,.m false [.p 1 0]),(3,true,.i k)],[(1,.var ((woL W).map Tr.cv))]⟩) (fun k=>W.pn - k) (fun k=>k<=W.pn/\∀i,i<k->Fb W i) 0 (by simp[go_sem]) (by simp) ?_;rintro k ⟨o,g⟩;simp[go_sem,Xm,c,Al (show k<=1000000000 by omega)];refine⟨fun a=>?_,fun a=>?_⟩
 ·have e:AB W k=PI (W.A1 k):=CU a;have d:Fb W k↔Gy (AF W.pool (W.A1 k).rs (W.A1 k).rb) (AF W.pool (AC W (W.A1 k).A6).rs (AC W (W.A1 k).A6).rb) (AC W (W.A1 k).A6).time (W.A1 k).time:=by
   unfold Fb;rw[e];exact Iff.rfl
  refine⟨a,c.A1 k a,by kernel_rfl,fun h=>⟨k,by unfold memN;omega,fun j=>h (d.1 j)⟩,fun h=>⟨k+1,⟨by omega,Bf a g (d.2 h)⟩,by omega,rfl⟩⟩
 cases (show k=W.pn by omega);refine Ax (fun k:Nat=>⟨[(1,true,.m false [.p 1 0]),(4,true,.i k)],[(1,.var ((woL W).map Tr.cv))]⟩) (fun k=>W.sn - k) (fun k=>k<=W.sn/\∀i,i<W.pn+k->Fb W i) 0 (by simp[go_sem]) ⟨Nat.zero_le _,g⟩ ?_;rintro k ⟨o,b⟩;simp[go_sem,Xm,c,Al (show k<=1000000000 by omega)];refine⟨fun a=>?_,fun a i hi=>b i (by unfold memN at hi;omega)⟩;have e:AB W (W.pn+k)=JE W.time (W.A3 k):=DN W k;have d:Fb W (W.pn+k)↔Gy (AF W.pool (W.A3 k).rs (W.A3 k).rb) (AF W.pool (AC W (W.A3 k).A6).rs (AC W (W.A3 k).A6).rb) (AC W (W.A3 k).A6).time W.time:=by
  unfold Fb;rw[e];exact Iff.rfl
 refine⟨a,n k a,by kernel_rfl,fun h=>⟨W.pn+k,by unfold memN;omega,fun j=>h (d.1 j)⟩,fun h=>⟨k+1,⟨by omega,fun i hi=>?_⟩,by omega,rfl⟩⟩;by_cases e:i=W.pn+k
 ·subst e;exact d.2 h
 ·exact b i (by omega)
end
end Go.Proofs.YtibhefllijahkaaGreatDoor
