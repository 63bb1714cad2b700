/- A part of the proof. -/
import Derived.Test.YtehdoekmnicdiaaGreatDoorF29
set_option linter.unusedVariables false
set_option maxRecDepth 20000
set_option maxHeartbeats 4000000
namespace Go.Proofs.YtehdoekmnicdiaaGreatDoor
noncomputable section
open Go.RowKit
set_option linter.unusedSimpArgs false
set_option maxRecDepth 20000
set_option maxHeartbeats 1600000
def setsE(fl:Fl)(s:Nat->Ad):Nat->Nat->Tr:=fun i c=>match c with
 | 0=>.v (.string (s i).name)
 | 1=>.v (.int .i64 (s i).origin)
 | 2=>.v (.int .i64 (s i).A6)
 | 3=>.v (.int .i64 (s i).rs)
 | 4=>.v (.int .i64 (s i).rb)
 | 5=>.s fl 2 (s i).dn (ptrsT (s i).ds (s i).db)
 | _=>.v (.bool false)
def snapsE(fl:Fl)(s:Nat->Ae):Nat->Nat->Tr:=fun i c=>match c with
 | 0=>.v (.int .i64 (s i).id)
 | 1=>.v (.string (s i).name)
 | 2=>.v (.string (s i).set)
 | 3=>.v (.int .i64 (s i).A6)
 | 4=>.v (.int .i64 (s i).time)
 | 5=>.v (.int .i64 (s i).rs)
 | 6=>.v (.int .i64 (s i).rb)
 | 7=>.s fl 2 (s i).dn (ptrsT (s i).ds (s i).db)
 | _=>.v (.bool false)
section
variable {fl fl' : Fl} {s : Nat -> Ad} {t : Nat -> Ae} {i k n : Nat}
theorem Sc:setsE fl s i 0 = .v (.string (s i).name):=rfl
theorem Sd:setsE fl s i 1 = .v (.int .i64 (s i).origin):=rfl
theorem Se:setsE fl s i 2 = .v (.int .i64 (s i).A6):=rfl
theorem Sf:setsE fl s i 3 = .v (.int .i64 (s i).rs):=rfl
theorem Sg:setsE fl s i 4 = .v (.int .i64 (s i).rb):=rfl
theorem Si:setsE fl s i 5 = .s fl 2 (s i).dn (ptrsT (s i).ds (s i).db):=rfl
theorem UF:snapsE fl t i 0 = .v (.int .i64 (t i).id):=rfl
theorem UG:snapsE fl t i 1 = .v (.string (t i).name):=rfl
theorem UH:snapsE fl t i 2 = .v (.string (t i).set):=rfl
theorem UI:snapsE fl t i 3 = .v (.int .i64 (t i).A6):=rfl
theorem UJ:snapsE fl t i 4 = .v (.int .i64 (t i).time):=rfl
theorem UK:snapsE fl t i 5 = .v (.int .i64 (t i).rs):=rfl
theorem UL:snapsE fl t i 6 = .v (.int .i64 (t i).rb):=rfl
theorem UM:snapsE fl t i 7 = .s fl 2 (t i).dn (ptrsT (t i).ds (t i).db):=rfl
theorem Vt:(Tr.s fl k n (setsE fl' s)).lend = .s .b k n (setsE .b s):=by
 simp only[Tr.lend];congr 1;funext i c
 match c with
 | 0 | 1 | 2 | 3 | 4=>rfl
 | 5=>exact ME
 | c+6=>rfl
theorem YC:(Tr.s fl k n (snapsE fl' t)).lend = .s .b k n (snapsE .b t):=by
 simp only[Tr.lend];congr 1;funext i c
 match c with
 | 0 | 1 | 2 | 3 | 4 | 5 | 6=>rfl
 | 7=>exact ME
 | c+8=>rfl
end
abbrev woL(W:A4):List Tr:=[.s .b 3 W.pool.n (Aw .b W.pool.s),.s .b 1 W.pool.hn (BF W.pool.h),.v (.int .i64 W.time),.v (.int .i64 W.next),.s .b 6 W.sn (setsE .b W.A1),.s .b 8 W.pn (snapsE .b W.A2)]
abbrev woT(W:A4):Bool×List Tr:=(true,woL W)
abbrev woO(W:A4):Bool×List Tr:=(true,[.s .o 3 W.pool.n (Aw .z W.pool.s),.s .o 1 W.pool.hn (BF W.pool.h),.v (.int .i64 W.time),.v (.int .i64 W.next),.s .o 6 W.sn (setsE .o W.A1),.s .o 8 W.pn (snapsE .z W.A2)])
def zHo(f:Nat->Tr):Ad:=⟨CK (f 0),AQ (f 1),AQ (f 2),AQ (f 3),AQ (f 4),DI (f 5),fun i=>AQ (Br (f 5) i 0),fun i=>AQ (Br (f 5) i 1)⟩
def zGg(f:Nat->Tr):Ae:=⟨AQ (f 0),CK (f 1),CK (f 2),AQ (f 3),AQ (f 4),AQ (f 5),AQ (f 6),DI (f 7),fun i=>AQ (Br (f 7) i 0),fun i=>AQ (Br (f 7) i 1)⟩
def C3(f:Nat->Tr):A4:=⟨Cs (f 0) (f 1),AQ (f 2),AQ (f 3),DI (f 4),fun i=>zHo (Br (f 4) i),DI (f 5),fun i=>zGg (Br (f 5) i)⟩
attribute [go_sem] QV Bz PP QS Qs Sc Sd Se Sf Sg Si UF UG UH UI UJ UK UL UM Vt YC
def BO(n:Nat)(P:Nat->Prop):Int:=@dite _ (∃k,k<n/\P k/\∀j,j<k->¬P j) (Classical.propDecidable _) (fun h=>(h.choose:Int)) (fun _=>-1)
variable{n:Nat}{P:Nat->Prop}
theorem I8{k:Nat}(h:k<n)(b:P k)(c:∀j,j<k->¬P j):BO n P=k:=by
 have a:∃k,k<n/\P k/\∀j,j<k->¬P j:=⟨k,h,b,c⟩;unfold BO;rw[dif_pos a];obtain⟨-,d,f⟩:=a.choose_spec;rcases Nat.lt_trichotomy a.choose k with e | e | e
 ·exact absurd d (c _ e)
 ·exact congrArg _ e
 ·exact absurd b (f _ e)
theorem Pv(h:∀k,k<n->¬P k):BO n P = -1:=dif_neg fun ⟨k,h1,h2,_⟩=>h k h1 h2
theorem I0(n:Nat)(P:Nat->Prop):QA n P (BO n P):=by
 by_cases d:∃k,k<n/\P k/\∀j,j<k->¬P j
 ·obtain⟨k,h,a,b⟩:=d;exact .inl ⟨k,h,a,b,I8 h a b⟩
 ·have hn:∀m,m<=n->∀j,j<m->¬P j:=fun m=>by
   induction m with
   | zero=>intro _ j f;omega
   | succ m ih=>
    intro g j f c;by_cases e:j<m
    ·exact ih (by omega) j e c
    ·cases (show j=m by omega);exact d ⟨m,by omega,c,ih (by omega)⟩
  exact .inr ⟨hn n (Nat.le_refl _),Pv (hn n (Nat.le_refl _))⟩
def yf:AJ:=AU (fun q:A4×Int=>[woT q.1,iT q.2]) (fun q=>q.1.pn<=1000000) (fun q=>[iT (BO q.1.pn fun k=>(q.1.A2 k).id=q.2)])
theorem Ep(W:A4)(x:Int):yf [woT W,iT x]=some (W.pn<=1000000,[iT (BO W.pn fun k=>(W.A2 k).id=x)]):=Af (fun l=>(C3 (nth l 0),AQ (nth l 1 0))) (fun _=>rfl) (W,x)
theorem J7:Am Tryz.prog 94 yf:=by
 refine Az Al GOk.nil Ak Tryz.func94 rfl Tryz.ntmps94 Tryz.results94 6 ?_;rintro⟨W,x⟩ hn;replace hn:W.pn<=1000000:=hn;refine⟨by simp,?_⟩;simp[go_sem];refine BC (fun k:Nat=>⟨[(2,true,.m false [.p 2 0]),(1,true,.i x),(5,true,.i k)],[(2,.var ((woL W).map Tr.cv))]⟩) (fun k=>W.pn - k) (fun k=>k<=W.pn/\∀i,i<k->(W.A2 i).id≠x) 0 (by simp[go_sem]) (by simp) ?_;rintro k ⟨c,a⟩;simp[go_sem,Ao (show k<=1000000000 by omega)];refine⟨fun b=>⟨b,fun h=>(I8 b h a).symm,fun h=>⟨k+1,⟨by omega,Bu b a h⟩,by omega,rfl⟩⟩,fun b=>(Pv fun i hi=>a i (by omega)).symm⟩
def zU:AJ:=AU (fun q:A4×ByteArray=>[woT q.1,sT q.2]) (fun q=>q.1.sn<=1000000) (fun q=>[iT (BO q.1.sn fun k=>(q.1.A1 k).name=q.2)])
theorem Cb(W:A4)(x:ByteArray):zU [woT W,sT x]=some (W.sn<=1000000,[iT (BO W.sn fun k=>(W.A1 k).name=x)]):=Af (fun l=>(C3 (nth l 0),CK (nth l 1 0))) (fun _=>rfl) (W,x)
theorem I3:Am Tryz.prog 32 zU:=by
 refine Az Al GOk.nil Ak Tryz.func32 rfl Tryz.ntmps32 Tryz.results32 6 ?_;rintro⟨W,x⟩ hn;replace hn:W.sn<=1000000:=hn;refine⟨by simp,?_⟩;simp[go_sem];refine BC (fun k:Nat=>⟨[(2,true,.m false [.p 2 0]),(1,true,.m false [.v (.string x)]),(5,true,.i k)],[(2,.var ((woL W).map Tr.cv))]⟩) (fun k=>W.sn - k) (fun k=>k<=W.sn/\∀i,i<k->(W.A1 i).name≠x) 0 (by simp[go_sem]) (by simp) ?_;rintro k ⟨c,a⟩;simp[go_sem,Ao (show k<=1000000000 by omega)];refine⟨fun b=>⟨b,fun h=>(I8 b (GA h) a).symm,fun h=>⟨k+1,⟨by omega,Bu b a fun e=>h (congrArg ByteArray.toList e)⟩,by omega,rfl⟩⟩,fun b=>(Pv fun i hi=>a i (by omega)).symm⟩
def Eo(W:A4)(x:Int):Ae:=@ite _ (x=0) (Int.instDecidableEq x 0) DH (AI W x)
def qA:AJ:=AU (fun q:A4×Int=>[woT q.1,iT q.2]) (fun q=>q.1.pn<=1000000) (fun q=>[pT (Eo q.1 q.2).rs (Eo q.1 q.2).rb,iT (Eo q.1 q.2).time])
theorem Jr(W:A4)(x:Int):qA [woT W,iT x]=some (W.pn<=1000000,[pT (Eo W x).rs (Eo W x).rb,iT (Eo W x).time]):=Af (fun l=>(C3 (nth l 0),AQ (nth l 1 0))) (fun _=>rfl) (W,x)
theorem L6:Am Tryz.prog 82 qA:=by
 refine Az Al (GOk.cons J7 (AB Tryz.func94 rfl rfl) GOk.nil) Ak Tryz.func82 rfl Tryz.ntmps82 Tryz.results82 7 ?_;rintro⟨W,x⟩ hn;replace hn:W.pn<=1000000:=hn;refine⟨by simp,?_⟩;simp[go_sem,Ep,hn];obtain⟨k,b,c,d,e⟩ | ⟨b,c⟩:=I0 W.pn fun k=>(W.A2 k).id=x
 ·rw[e];have f:AI W x=W.A2 k:=Dv ⟨b,c,d⟩;refine⟨fun h=>?_,fun a _=>⟨⟨by omega,by omega⟩,by kernel_rfl,?_⟩⟩
  ·have a:x=0:=(by omega);rw[show Eo W x=DH from if_pos a];exact⟨⟨rfl,rfl⟩,rfl⟩
  ·rw[show Eo W x=AI W x from if_neg a,f];exact⟨⟨rfl,rfl⟩,rfl⟩
 ·rw[c];refine⟨fun _=>?_,fun _ h=>absurd h (by decide)⟩;by_cases a:x=0
  ·rw[show Eo W x=DH from if_pos a];exact⟨⟨rfl,rfl⟩,rfl⟩
  ·rw[show Eo W x=AI W x from if_neg a,RI b];exact⟨⟨rfl,rfl⟩,rfl⟩
def nwW(x:Int):A4:=if 0<=x/\x<=200 then⟨Ck x.toNat,1,1,0,fun _=>⟨⟨#[]⟩,0,0,0,0,0,fun _=>0,fun _=>0⟩,0,fun _=>DH⟩else⟨Ck 0,0,0,0,fun _=>⟨⟨#[]⟩,0,0,0,0,0,fun _=>0,fun _=>0⟩,0,fun _=>DH⟩
def yn:AJ:=AU (fun x:Int=>[iT x]) (fun _=>True) (fun x=>[woO (nwW x)])
theorem zFN(x:Int):yn [iT x]=some (True,[woO (nwW x)]):=Af (fun l=>AQ (nth l 0 0)) (fun _=>rfl) x
theorem zCD:Am Tryz.prog 40 yn:=by
 refine Az Al (GOk.cons Lt (AB Tryz.func100 rfl rfl) (GOk.cons zBQ (AB Tryz.func101 rfl rfl) GOk.nil)) Ak Tryz.func40 rfl Tryz.ntmps40 Tryz.results40 4 ?_;rintro x -;refine⟨by simp,?_⟩;simp[go_sem,LS,zFC];refine⟨fun h=>?_,fun a b=>?_⟩
 ·rw[show nwW x=_ from if_neg fun e=>absurd (h e.1) (by omega)];exact⟨rfl,rfl,rfl,rfl,rfl,rfl⟩
 ·rw[show nwW x=_ from if_pos ⟨a,b⟩,show GN x=x.toNat from if_pos ⟨a,b⟩];exact⟨⟨TrE.refl _,Bg⟩,⟨TrE.refl _,Bq⟩,rfl,rfl,rfl,rfl⟩
section
variable {w : World} {g : Nat -> Bs} {fl : Fl}
variable{u:Value}
theorem M3{k:Nat}{f:Nat->Nat->Tr}(hs:Sh w g (.s fl k n f) u):∃a c,u = .slice a n c/\n<=c/\(0<n->∃b o,a=some ⟨b,o,none⟩/\0<=b/\b<w.heap.size/\∀i,i<n->∀j,j<k->∃u,w.cell? ⟨b,o+i*k+j,none⟩=some u/\Sh w g (f i j) u):=by
 obtain⟨a,c,rfl,m,q⟩:=hs;refine⟨a,c,rfl,m,fun e=>?_⟩;obtain⟨b,o,h,l,-,d⟩:=q e;refine⟨b,o,h,Nat.zero_le _,l,fun i hi j p=>?_⟩;rw[Nat.add_assoc];exact d i j hi p
variable{h:Nat->Int}
theorem zGY(hs:Sh w g (.s fl 1 n (BF h)) u)(hn:n<=maxLen):D6 w 0 w.heap.size u n h:=by
 obtain⟨a,c,rfl,p,q⟩:=M3 hs;refine⟨hn,a,c,rfl,p,fun j=>?_⟩;obtain⟨b,o,m,k,l,d⟩:=q j;refine⟨b,o,m,k,l,fun i hi=>?_⟩;obtain⟨u,f,e⟩:=d i hi 0 (by omega);rw[Nat.mul_one,Nat.add_zero]at f;rw[f,e.1]
variable{f:Nat->Int}
theorem Pp(hs:Sh w g (.s fl 2 n (ptrsT f h)) u)(hn:n<=maxLen):BI w 0 w.heap.size u n f h:=by
 obtain⟨a,c,rfl,t,v⟩:=M3 hs;refine⟨hn,a,c,rfl,t,fun m=>?_⟩;obtain⟨b,o,r,p,q,d⟩:=v m;refine⟨b,o,r,p,q,fun i hi=>?_⟩;obtain⟨u,k,e⟩:=d i hi 0 (by omega);obtain⟨x,j,l⟩:=d i hi 1 (by omega);rw[Nat.add_zero]at k;exact⟨by rw[k,e.1],by rw[j,l.1]⟩
theorem zEQ{s:Nat->AG}(hs:Sh w g (.s fl 3 n (Aw fl s)) u)(hn:n<=maxLen)(j:∀i,i<n->(s i).kn<=maxLen/\(s i).data.size<=maxLen):CD w 0 w.heap.size u n s:=by
 obtain⟨a,c,rfl,v,x⟩:=M3 hs;refine⟨hn,a,c,rfl,v,fun p=>?_⟩;obtain⟨b,o,t,q,r,d⟩:=x p;refine⟨b,o,t,q,r,fun i hi=>?_⟩;obtain⟨u,k,e⟩:=d i hi 0 (by omega);obtain⟨y,f,l⟩:=d i hi 1 (by omega);obtain⟨u2,h,m⟩:=d i hi 2 (by omega);rw[Nat.add_zero]at k;exact⟨u,y,u2,k,f,h,e.1,Pp l (j i hi).1,m.1,(j i hi).2⟩
theorem zGZ{s:Nat->Ad}(hs:Sh w g (.s fl 6 n (setsE fl s)) u)(hn:n<=maxLen)(m:∀i,i<n->(s i).dn<=maxLen/\(s i).name.size<=maxLen):EB w 0 w.heap.size u n s:=by
 obtain⟨a,c,rfl,B,C⟩:=M3 hs;refine⟨hn,a,c,rfl,B,fun x=>?_⟩;obtain⟨b,o,A,y,z,d⟩:=C x;refine⟨b,o,A,y,z,fun i hi=>?_⟩;obtain⟨E,e,e0⟩:=d i hi 0 (by omega);obtain⟨F,f,p⟩:=d i hi 1 (by omega);obtain⟨u2,h,q⟩:=d i hi 2 (by omega);obtain⟨u3,j,r⟩:=d i hi 3 (by omega);obtain⟨u4,k,t⟩:=d i hi 4 (by omega);obtain⟨D,l,v⟩:=d i hi 5 (by omega);rw[Nat.add_zero]at e;exact⟨D,by rw[e,e0.1],by rw[f,p.1],by rw[h,q.1],by rw[j,r.1],by rw[k,t.1],l,Pp v (m i hi).1,(m i hi).2⟩
theorem zER{s:Nat->Ae}(hs:Sh w g (.s fl 8 n (snapsE fl s)) u)(hn:n<=maxLen)(q:∀i,i<n->(s i).dn<=maxLen/\(s i).name.size<=maxLen/\(s i).set.size<=maxLen):EJ w 0 w.heap.size u n s:=by
 obtain⟨a,c,rfl,F,G⟩:=M3 hs;refine⟨hn,a,c,rfl,F,fun B=>?_⟩;obtain⟨b,o,E,C,D,d⟩:=G B;refine⟨b,o,E,C,D,fun i hi=>?_⟩;obtain⟨I,e,e0⟩:=d i hi 0 (by omega);obtain⟨J,f,r⟩:=d i hi 1 (by omega);obtain⟨u2,h,t⟩:=d i hi 2 (by omega);obtain⟨u3,j,v⟩:=d i hi 3 (by omega);obtain⟨u4,k,x⟩:=d i hi 4 (by omega);obtain⟨K,l,y⟩:=d i hi 5 (by omega);obtain⟨L,m,z⟩:=d i hi 6 (by omega);obtain⟨H,p,A⟩:=d i hi 7 (by omega);rw[Nat.add_zero]at e;exact⟨H,by rw[e,e0.1],by rw[f,r.1],by rw[h,t.1],by rw[j,v.1],by rw[k,x.1],by rw[l,y.1],by rw[m,z.1],p,Pp A (q i hi).1,(q i hi).2⟩
end
def IP(w:World)(g:Nat->Bs)(lo:Nat):Prop:=∀b,lo<=b->b<w.heap.size->g b = .fz none
section
variable {w : World} {g : Nat -> Bs} {lo hi : Nat}
theorem IP.ok(h:IP w g lo){b e:Nat}(a:lo<=b)(c:b<w.heap.size):(g b).ok .z e:=by
 rw[h b a c];exact .inr fun l e=>by cases e
variable{v:Value}
theorem Lb{b j:Nat}(h:w.cell? ⟨b,j,none⟩=some v):b<w.heap.size:=AZ h
variable{f:Nat->Int}
theorem zH2(m:IP w g lo)(h:D6 w lo hi v n f):Sh w g (.s .z 1 n (BF f)) v:=by
 obtain⟨q,a,cap,rfl,l,p⟩:=h;refine⟨a,cap,rfl,l,fun hn=>?_⟩;obtain⟨b,o,k,e,r,c⟩:=p hn;have d:=Lb (c 0 hn);refine⟨b,o,k,d,m.ok e d,fun i j hi t=>?_⟩;cases (show j=0 by omega);exact⟨_,by rw[Nat.mul_one,Nat.add_zero];exact c i hi,rfl,rfl⟩
theorem Pj(p:IP w g lo){f':Nat->Int}(h:BI w lo hi v n f f'):Sh w g (.s .z 2 n (ptrsT f f')) v:=by
 obtain⟨r,a,cap,rfl,l,q⟩:=h;refine⟨a,cap,rfl,l,fun hn=>?_⟩;obtain⟨b,o,k,e,t,c⟩:=q hn;have d:=Lb (c 0 hn).1;refine⟨b,o,k,d,p.ok e d,fun i j hi m=>?_⟩
 match j,m with
 | 0,_=>exact⟨_,(c i hi).1,rfl,rfl⟩
 | 1,_=>exact⟨_,(c i hi).2,rfl,rfl⟩
theorem zFV(e:IP w g lo){f:Nat->AG}(h:CD w lo hi v n f):Sh w g (.s .z 3 n (Aw .z f)) v:=by
 obtain⟨y,a,cap,rfl,r,u⟩:=h;refine⟨a,cap,rfl,r,fun hn=>?_⟩;obtain⟨b,o,q,p,A,c⟩:=u hn;have d:b<w.heap.size:=by obtain⟨_,_,_,h,_⟩:=c 0 hn;exact Lb h
 refine⟨b,o,q,d,e.ok p d,fun i j hi t=>?_⟩;obtain⟨B,v1,C,c0,c1,k,e0,l,m,x⟩:=c i hi
 match j,t with
 | 0,_=>exact⟨_,c0,e0,rfl⟩
 | 1,_=>exact⟨_,c1,Pj e l⟩
 | 2,_=>exact⟨_,k,m,rfl⟩
theorem zH3(e:IP w g lo){f:Nat->Ad}(h:EB w lo hi v n f):Sh w g (.s .z 6 n (setsE .z f)) v:=by
 obtain⟨r,a,cap,rfl,m,q⟩:=h;refine⟨a,cap,rfl,m,fun hn=>?_⟩;obtain⟨b,o,l,k,t,c⟩:=q hn;have d:b<w.heap.size:=by obtain⟨_,h⟩:=c 0 hn;exact Lb h.c0
 refine⟨b,o,l,d,e.ok k d,fun i j hi p=>?_⟩;obtain⟨vd,h⟩:=c i hi
 match j,p with
 | 0,_=>exact⟨_,h.c0,rfl,rfl⟩
 | 1,_=>exact⟨_,h.c1,rfl,rfl⟩
 | 2,_=>exact⟨_,h.c2,rfl,rfl⟩
 | 3,_=>exact⟨_,h.c3,rfl,rfl⟩
 | 4,_=>exact⟨_,h.c4,rfl,rfl⟩
 | 5,_=>exact⟨_,h.c5,Pj e h.dead⟩
theorem zFW(e:IP w g lo){f:Nat->Ae}(h:EJ w lo hi v n f):Sh w g (.s .z 8 n (snapsE .z f)) v:=by
 obtain⟨r,a,cap,rfl,m,q⟩:=h;refine⟨a,cap,rfl,m,fun hn=>?_⟩;obtain⟨b,o,l,k,t,c⟩:=q hn;have d:b<w.heap.size:=by obtain⟨_,h⟩:=c 0 hn;exact Lb h.c0
 refine⟨b,o,l,d,e.ok k d,fun i j hi p=>?_⟩;obtain⟨vd,h⟩:=c i hi
 match j,p with
 | 0,_=>exact⟨_,h.c0,rfl,rfl⟩
 | 1,_=>exact⟨_,h.c1,rfl,rfl⟩
 | 2,_=>exact⟨_,h.c2,rfl,rfl⟩
 | 3,_=>exact⟨_,h.c3,rfl,rfl⟩
 | 4,_=>exact⟨_,h.c4,rfl,rfl⟩
 | 5,_=>exact⟨_,h.c5,rfl,rfl⟩
 | 6,_=>exact⟨_,h.c6,rfl,rfl⟩
 | 7,_=>exact⟨_,h.c7,Pj e h.dead⟩
end
set_option linter.unusedSimpArgs false
set_option maxRecDepth 20000
set_option maxHeartbeats 1600000
variable{W:A4}
theorem JQ{x:Int}:(BO W.pn fun k=>(W.A2 k).id=x)<0↔¬CT W x:=by
 rcases YS (I0 W.pn fun k=>(W.A2 k).id=x)with⟨h,a,-⟩ | ⟨h,a⟩
 ·exact⟨fun e=>absurd e (by omega),fun e=>absurd h e⟩
 ·rw[a];exact⟨fun _=>h,fun _=>by decide⟩
theorem Gr{x:Int}:(0<=BO W.pn fun k=>(W.A2 k).id=x)↔CT W x:=by
 rw[<-Int.not_lt,JQ,Classical.not_not]
variable{x:ByteArray}
theorem E4:(BO W.sn fun k=>(W.A1 k).name=x)<0↔¬BP W x:=by
 rcases zA3 (I0 W.sn fun k=>(W.A1 k).name=x)with⟨h,a⟩ | ⟨h,a⟩
 ·exact⟨fun e=>absurd e (by omega),fun e=>absurd h e⟩
 ·rw[a];exact⟨fun _=>h,fun _=>by decide⟩
theorem Ci:(0<=BO W.sn fun k=>(W.A1 k).name=x)↔BP W x:=by
 rw[<-Int.not_lt,E4,Classical.not_not]
variable{k:Nat}
theorem yw(h:k<=1000000000):IntKind.i64.wrap ((k:Int) - 1)=(k:Int) - 1:=by
 unfold IntKind.wrap;simp[IntKind.signed,IntKind.bits];omega
theorem tn1:((k:Int) - 1).toNat=k - 1:=by omega
attribute [go_sem] QV Bz PP QS Qs Sc Sd Se Sf Sg Si UF UG UH UI UJ UK UL UM Vt YC
def yP:AJ:=AU (fun s:ByteArray=>[sT s]) (fun _=>True) (fun s=>bR (Bp s))
theorem IA(s:ByteArray):yP [sT s]=some (True,bR (Bp s)):=Af (fun l=>CK (nth l 0 0)) (fun _=>rfl) s
theorem P3:Am Tryz.prog 97 yP:=by
 refine Az Al GOk.nil Ak Tryz.func97 rfl Tryz.ntmps97 Tryz.results97 5 ?_;rintro s -;refine⟨by simp,?_⟩;simp[go_sem];refine⟨fun h=>?_,fun r t=>?_⟩
 ·exact fun d=>by have r:=d.1;have t:=d.2.1;omega
 refine BC (fun k:Nat=>⟨[(0,true,.m false [.v (.string s)]),(3,true,.i k)],[]⟩) (fun k=>s.size - k) (fun k=>k<=s.size/\∀j,(h:j<k)->(q:j<s.size)->Dq j (s[j].toNat:Int)) 0 (by simp[go_sem]) (by simp) ?_;rintro k ⟨u,f⟩;simp[go_sem,Ao (show k<=1000000000 by omega)];refine⟨fun g=>?_,fun g=>⟨by omega,by omega,fun j o=>f j (by omega) o⟩⟩;have e:s[k]?.getD 0=s[k]:=by simp[g]
 rw[e];obtain⟨c,l⟩:∃c:Int,c=(s[k].toNat:Int):=⟨_,rfl⟩;have p:Bp s->Dq k c:=fun d=>l▸d.2.2 k g
 have hn:Dq k c->∀j,(h:j<k+1)->(q:j<s.size)->Dq j (s[j].toNat:Int):=fun h j o n=>by
  by_cases e:j=k
  ·subst e;rw[<-l];exact h
  ·exact f j (by omega) n
 rw[<-l];unfold Dq at p;refine⟨g,fun a b c=>⟨⟨a,b⟩,c⟩,fun a b c=>⟨⟨a,b⟩,c⟩,fun a b=>⟨a,b⟩,fun a b d=>?_,fun h=>⟨k+1,⟨by omega,hn ?_⟩,by omega,rfl⟩⟩
 ·have:=p d;omega
 ·unfold Dq;omega
def qJ:AJ:=AU (fun W:A4=>[woT W]) (fun W=>W.sn<=1000000/\W.pn<=1000000) (fun W=>bR (EG W))
theorem zDZ(W:A4):qJ [woT W]=some (W.sn<=1000000/\W.pn<=1000000,bR (EG W)):=Af (fun l=>C3 (nth l 0)) (fun _=>rfl) W
theorem zBo:Am Tryz.prog 63 qJ:=by
 refine Az Al (GOk.cons Lt (AB Tryz.func100 rfl rfl) (GOk.cons I3 (AB Tryz.func32 rfl rfl) (GOk.cons J7 (AB Tryz.func94 rfl rfl) (GOk.cons P3 (AB Tryz.func97 rfl rfl) GOk.nil)))) Ak Tryz.func63 rfl Tryz.ntmps63 Tryz.results63 8 ?_;rintro W ⟨hn,y⟩;refine⟨by simp,?_⟩;simp[go_sem,LS];refine⟨fun h a=>?_,fun z A B C c1 P=>?_⟩
 ·obtain⟨q,r,F,G,-⟩:=a;unfold Jc at q r;omega
 refine BC (fun k:Nat=>⟨[(1,true,.m false [.p 1 0]),(3,true,.i k)],[(1,.var ((woL W).map Tr.cv))]⟩) (fun k=>W.sn - k) (fun k=>k<=W.sn/\∀i,i<k->Gt W i) 0 (by simp[go_sem]) (by simp) ?_;rintro k ⟨I,n⟩;simp[go_sem,Ao (show k<=1000000000 by omega),IA,Ep,Cb,y,hn,JQ,Gr,E4,Ci,yw (show k<=1000000000 by omega),tn1];refine⟨fun c=>?_,fun c=>?_⟩
 ·have f:EG W->Gt W k:=fun a=>a.2.2.2.2.1 k c
  have t:Gt W k->∃o:Nat,(o<=W.sn/\∀i,i<o->Gt W i)/\W.sn - o<W.sn - k/\(k:Int)+1=(o:Int):=fun h=>⟨k+1,⟨by omega,Bu c n h⟩,by omega,rfl⟩
  obtain⟨Q,u⟩:∃Q,Q=Gt W k:=⟨_,rfl⟩;rw[<-u]at f t;unfold Gt Ce at u;refine⟨c,fun _ _=>⟨by omega,by omega⟩,?_,?_,?_,?_,?_,by kernel_rfl,fun h a=>?_,fun q r F G=>t ?_⟩
  ·grind
  ·grind
  ·grind
  ·grind
  ·grind
  ·have:=f a
   grind
  ·grind
 cases (show k=W.sn by omega);refine BC (fun k:Nat=>⟨[(1,true,.m false [.p 1 0]),(5,true,.i k)],[(1,.var ((woL W).map Tr.cv))]⟩) (fun k=>W.pn - k) (fun k=>k<=W.pn/\∀i,i<k->NJ W i) 0 (by simp[go_sem]) (by simp) ?_;rintro k ⟨I,d⟩;simp[go_sem,Ao (show k<=1000000000 by omega),IA,Ep,Cb,y,hn,JQ,Gr,E4,Ci,yw (show k<=1000000000 by omega),tn1];refine⟨fun c=>?_,fun c=>⟨⟨z,A⟩,⟨B,C⟩,by omega,by omega,n,fun i hi=>d i (by omega)⟩⟩;have f:EG W->NJ W k:=fun a=>a.2.2.2.2.2 k c
 refine⟨c,fun h a=>?_,fun s1 s2 s3 M N O=>⟨fun _=>⟨by omega,by omega⟩,fun _ _=>⟨by omega,by omega⟩,?_,?_,?_,?_,by kernel_rfl,fun h a=>?_,fun J K=>?_⟩⟩
 ·obtain⟨q1,L,R,S,T,U⟩:=(f a).1
  grind
 ·grind
 ·grind
 ·grind
 ·grind
 ·obtain⟨q1,L⟩:=(f a).2.1
  grind
 have H:S8 W k:=⟨J,K⟩;refine BC (fun j:Nat=>⟨[(1,true,.m false [.p 1 0]),(5,true,.i k),(6,true,.m false [.p 6 0]),(7,true,.i j)],[(6,.var [.v (.int .i64 (W.A2 k).id),.v (.string (W.A2 k).name),.v (.string (W.A2 k).set),.v (.int .i64 (W.A2 k).A6),.v (.int .i64 (W.A2 k).time),.v (.int .i64 (W.A2 k).rs),.v (.int .i64 (W.A2 k).rb),.s .b 2 (W.A2 k).dn (ptrsT (W.A2 k).ds (W.A2 k).db)]),(1,.var ((woL W).map Tr.cv))]⟩) (fun j=>k - j) (fun j=>j<=k/\S9 W k j) 0 (by simp[go_sem]) ⟨Nat.zero_le _,fun j x=>absurd x (Nat.not_lt_zero _)⟩ ?_;rintro j ⟨x,w⟩;simp[go_sem,Ao (show j<=1000000000 by omega),Ao (show k<=1000000000 by omega)];refine⟨fun l=>⟨by omega,fun _=>by omega,by kernel_rfl,fun D E a=>(f a).2.2 j l ⟨GA D,GA E⟩,fun g=>⟨j+1,⟨by omega,fun i hi=>?_⟩,by omega,rfl⟩⟩,fun l=>⟨k+1,⟨by omega,Bu c d ⟨⟨s1,s2,s3,M,N,O⟩,H,fun i hi=>w i (by omega)⟩⟩,by omega,rfl⟩⟩;by_cases e:i=j
 ·subst e;exact fun h=>g (congrArg ByteArray.toList h.1) (congrArg ByteArray.toList h.2)
 ·exact w i (by omega)
set_option maxRecDepth 20000
set_option maxHeartbeats 1600000
def Ln(W:A4)(i:Nat):Prop:=F3 W (W.A1 i).name (W.A1 i).A6 (W.A1 i).origin
def Sz:AJ:=AU (fun W:A4=>[woT W]) (fun W=>EG W) (fun W=>bR (∀i,i<W.sn->Ln W i))
theorem zBM(W:A4):Sz [woT W]=some (EG W,bR (∀i,i<W.sn->Ln W i)):=Af (fun l=>C3 (nth l 0)) (fun _=>rfl) W
theorem zCX:Am Tryz.prog 64 Sz:=by
 refine Az Al (GOk.cons J7 (AB Tryz.func94 rfl rfl) GOk.nil) Ak Tryz.func64 rfl Tryz.ntmps64 Tryz.results64 8 ?_;rintro W l;replace l:EG W:=l;have D:W.sn<=8:=l.2.2.1;have u:W.pn<=20:=l.2.2.2.1;have C:W.pn<=1000000:=by omega
 have r:=l.EM;refine⟨by simp,?_⟩;simp[go_sem];refine BC (fun k:Nat=>⟨[(1,true,.m false [.p 1 0]),(3,true,.i k)],[(1,.var ((woL W).map Tr.cv))]⟩) (fun k=>W.sn - k) (fun k=>k<=W.sn/\∀i,i<k->Ln W i) 0 (by simp[go_sem]) (by simp) ?_;rintro k ⟨G,n⟩;simp[go_sem,Ao (show k<=1000000000 by omega)];refine⟨fun b=>?_,fun b i hi=>n i (by omega)⟩;refine BC (fun j:Nat=>⟨[(1,true,.m false [.p 1 0]),(3,true,.i k),(4,true,.m false [.v (.int .i64 0)]),(5,true,.i (ownN W (W.A1 k).name j)),(6,true,.i j)],[(1,.var ((woL W).map Tr.cv))]⟩) (fun j=>W.pn - j) (fun j=>j<=W.pn) 0 (by simp[go_sem,ownN]) (Nat.zero_le _) ?_;rintro j F;have t:=Nc W (W.A1 k).name j;simp[go_sem,Ao (show j<=1000000000 by omega),Ao (show ownN W (W.A1 k).name j<=1000000000 by omega)];refine⟨fun c=>⟨c,b,by kernel_rfl,fun h=>⟨j+1,c,by omega,by rw[QL (GA h)];rfl,rfl⟩,fun h=>⟨j+1,c,by omega,by rw[Pk fun e=>h (congrArg ByteArray.toList e)],rfl⟩⟩,fun c=>⟨b,?_⟩⟩;cases (show j=W.pn by omega);refine BC (fun q:Nat×Int=>⟨[(1,true,.m false [.p 1 0]),(3,true,.i k),(4,true,.i q.1),(5,true,.i (ownN W (W.A1 k).name W.pn)),(7,true,.m false [.v (.int .i64 q.2)])],[(1,.var ((woL W).map Tr.cv))]⟩) (fun q=>1000000 - q.1) (fun q=>ER W (W.A1 k).name (W.A1 k).A6 q.1 q.2) (0,(W.A1 k).A6) (by simp[go_sem]) (ER.start r _ (r.A1 k b)) ?_;rintro⟨a,x⟩ f;replace f:ER W (W.A1 k).name (W.A1 k).A6 a x:=f;have E:a<=900000:=by have:=f.least;have:=f.sum;omega
 simp[go_sem,Ep,C,Ao (show a<=1000000000 by omega),Ao (show k<=1000000000 by omega)];have d:¬FN W (W.A1 k).name x->(¬(a:Int)=(ownN W (W.A1 k).name W.pn:Nat)\/¬x=(W.A1 k).origin->∃x,x<W.sn/\¬Ln W x)/\((a:Int)=(ownN W (W.A1 k).name W.pn:Nat)->x=(W.A1 k).origin->∃o:Nat,(o<=W.sn/\∀i,i<o->Ln W i)/\W.sn - o<W.sn - k/\(k:Int)+1=(o:Int)):=fun t=>by
  have hi:=V5 (origin:=(W.A1 k).origin) f.steps t;refine⟨fun h=>⟨k,b,fun B=>?_⟩,fun z A=>⟨k+1,⟨by omega,Bu b n (hi.2 ⟨by exact_mod_cast z,A⟩)⟩,by omega,rfl⟩⟩;obtain⟨w,y⟩:=hi.1 B;exact h.elim (fun h=>h (by exact_mod_cast w)) (fun h=>h y)
 by_cases s:x=0
 ·subst s;exact⟨fun h=>absurd rfl h,fun h=>absurd rfl h,by kernel_rfl,fun h=>absurd rfl h,fun _=>⟨fun _=>b,d (Z7 r _)⟩⟩
 ·obtain⟨q,g⟩:=(f.there.resolve_left s).no;have e:(BO W.pn fun k=>(W.A2 k).id=x)=q:=I8 g.1 g.2.1 g.2.2;have:=g.1;rw[e,Int.toNat_natCast];exact⟨fun _=>⟨by omega,by omega⟩,fun _=>b,by kernel_rfl,fun _ h=>⟨⟨by omega,by omega⟩,by kernel_rfl,a+1,_,f.next r g (GA h),by omega,rfl,rfl⟩,fun h=>⟨fun _=>b,d (Xv g fun e=>h s (congrArg ByteArray.toList e))⟩⟩
set_option maxRecDepth 20000
set_option maxHeartbeats 1600000
abbrev psT(n:Nat)(f g:Nat->Int):Bool×List Tr:=(false,[.s .b 2 n (ptrsT f g)])
abbrev psO(l:List (Int×Int)):Bool×List Tr:=(false,[.s .o 2 l.length (ptL l)])
def K8(a:Tr):Nat×(Nat->Int)×(Nat->Int):=(DI a,fun i=>AQ (Br a i 0),fun i=>AQ (Br a i 1))
def mIn:AJ:=AU (fun q:(Nat×(Nat->Int)×(Nat->Int))×Int×Int=>[psT q.1.1 q.1.2.1 q.1.2.2,pT q.2.1 q.2.2]) (fun q=>q.1.1<=1000000) (fun q=>bR (PIn q.1.1 q.1.2.1 q.1.2.2 q.2.1 q.2.2))
theorem NP(n:Nat)(f g:Nat->Int)(a b:Int):mIn [psT n f g,pT a b]=some (n<=1000000,bR (PIn n f g a b)):=Af (fun l=>(K8 (nth l 0 0),AQ (nth l 1 0),AQ (nth l 1 1))) (fun _=>rfl) ((n,f,g),a,b)
theorem Nt:Am Tryz.prog 135 mIn:=by
 refine Az Al GOk.nil Ak Tryz.func135 rfl Tryz.ntmps135 Tryz.results135 6 ?_;rintro⟨⟨n,f,g⟩,a,b⟩ hn;replace hn:n<=1000000:=hn;refine⟨by simp,?_⟩;simp[go_sem];refine BC (fun k:Nat=>⟨[(3,true,.m false [.p 3 0]),(0,true,.m false [.s .b 2 n (ptrsT f g)]),(5,true,.i k)],[(3,.var [.v (.int .i64 a),.v (.int .i64 b)])]⟩) (fun k=>n - k) (fun k=>k<=n/\∀i,i<k->¬(f i=a/\g i=b)) 0 (by simp[go_sem]) (by simp) ?_;rintro k ⟨q,e⟩;simp[go_sem,Ao (show k<=1000000000 by omega)];refine⟨fun l=>⟨l,by kernel_rfl,fun d c=>⟨k,l,d,c⟩,fun h=>⟨k+1,⟨by omega,fun i hi d c=>?_⟩,by omega,rfl⟩⟩,fun l ⟨j,d,c⟩=>e j (by omega) c⟩;rcases Nat.lt_succ_iff_lt_or_eq.1 hi with o | rfl
 ·exact e i o ⟨d,c⟩
 ·exact h d c
def qN:AJ:=AU (fun q:(Nat×(Nat->Int)×(Nat->Int))×Int=>[psT q.1.1 q.1.2.1 q.1.2.2,iT q.2]) (fun q=>q.1.1<=1000000) (fun q=>[psO (Bj q.1.2.1 q.1.2.2 q.2 q.1.1),psO (C5 q.1.2.1 q.1.2.2 q.2 q.1.1)])
theorem MF(n:Nat)(f g:Nat->Int)(t:Int):qN [psT n f g,iT t]=some (n<=1000000,[psO (Bj f g t n),psO (C5 f g t n)]):=Af (fun l=>(K8 (nth l 0 0),AQ (nth l 1 0))) (fun _=>rfl) ((n,f,g),t)
theorem Ot:Am Tryz.prog 83 qN:=by
 refine Az Al GOk.nil Ak Tryz.func83 rfl Tryz.ntmps83 Tryz.results83 9 ?_;rintro⟨⟨n,f,g⟩,t⟩ hn;replace hn:n<=1000000:=hn;refine⟨by simp,?_⟩;simp[go_sem];refine BC (fun k:Nat=>⟨[(6,true,.m false [.h 7]),(7,true,.m false [.h 8]),(0,true,.m false [.s .b 2 n (ptrsT f g)]),(1,true,.i t),(8,true,.i k)],[(7,.row 2 (Bj f g t k).length (ptL (Bj f g t k))),(8,.row 2 (C5 f g t k).length (ptL (C5 f g t k)))]⟩) (fun k=>n - k) (fun k=>k<=n) 0 (by simp[go_sem,Bj,C5];exact KZ rfl) (by simp) ?_;rintro k c;have d:=Kx f g t k;simp[go_sem,Ao (show k<=1000000000 by omega)];refine⟨fun a=>⟨a,fun h=>⟨a,by omega,k+1,by omega,by omega,by omega,GF Hu (by simp[Bj,h]),Gd (by simp[C5,h])⟩,fun h=>⟨a,by omega,k+1,by omega,by omega,by omega,Gd (by simp[Bj,Int.not_lt.2 h]),GF Hu (by simp[C5,Int.not_lt.2 h])⟩⟩,fun a=>?_⟩;cases (show k=n from by omega);exact⟨⟨Gd rfl,Gc⟩,Gd rfl,Gc⟩
def yX:AJ:=AU (fun q:Nat×(Nat->Int)×(Nat->Int)=>[psT q.1 q.2.1 q.2.2]) (fun q=>q.1<=1000000) (fun q=>bR (Cc q.1 q.2.1 q.2.2))
theorem zFG(n:Nat)(f g:Nat->Int):yX [psT n f g]=some (n<=1000000,bR (Cc n f g)):=Af (fun l=>K8 (nth l 0 0)) (fun _=>rfl) (n,f,g)
theorem zCY:Am Tryz.prog 173 yX:=by
 refine Az Al (GOk.cons Lt (AB Tryz.func100 rfl rfl) (GOk.cons Rg (AB Tryz.func148 rfl rfl) GOk.nil)) Ak Tryz.func173 rfl Tryz.ntmps173 Tryz.results173 5 ?_;rintro⟨n,f,g⟩ hn;replace hn:n<=1000000:=hn;refine⟨by simp,?_⟩;simp[go_sem];refine⟨fun p h=>by have:=h.1;omega,fun p=>?_⟩;refine BC (fun k:Nat=>⟨[(0,true,.m false [.s .b 2 n (ptrsT f g)]),(3,true,.i k)],[]⟩) (fun k=>n - k) (fun k=>k<=n/\∀i,i<k->FP (f i) (g i)/\∀j,j<i->f j≠f i) 0 (by simp[go_sem]) (by simp) ?_;rintro k ⟨u,e⟩;simp[go_sem,Ao (show k<=1000000000 by omega),LS,Qu];refine⟨fun c=>?_,fun c=>⟨by omega,fun i hi=>(e i (by omega)).1,fun i hi=>(e i (by omega)).2⟩⟩;refine⟨c,fun _ _=>c,fun h l=>?_,fun q r o=>?_⟩
 ·have:=(l.2.1 k c);unfold FP at this;unfold DM at h;omega
 refine BC (fun j:Nat=>⟨[(0,true,.m false [.s .b 2 n (ptrsT f g)]),(3,true,.i k),(4,true,.i j)],[]⟩) (fun j=>k - j) (fun j=>j<=k/\∀i,i<j->f i≠f k) 0 (by simp[go_sem]) (by simp) ?_;rintro j ⟨t,a⟩;simp[go_sem,Ao (show j<=1000000000 by omega),Ao (show k<=1000000000 by omega)];exact⟨fun d=>⟨by omega,c,by kernel_rfl,fun h l=>l.2.2 k c j d h,fun h=>⟨j+1,⟨by omega,Bu d a h⟩,by omega,rfl⟩⟩,fun d=>⟨k+1,⟨by omega,Bu c e ⟨by unfold FP;unfold DM at o;omega,fun i hi=>a i (by omega)⟩⟩,by omega,rfl⟩⟩
def yd:AJ:=AU (fun q:(Nat×(Nat->Int)×(Nat->Int))×Nat×(Nat->Int)×(Nat->Int)=>[psT q.1.1 q.1.2.1 q.1.2.2,psT q.2.1 q.2.2.1 q.2.2.2]) (fun q=>q.1.1<=1000000/\q.2.1<=1000000) (fun q=>bR (FO q.1.1 q.1.2.1 q.1.2.2 q.2.1 q.2.2.1 q.2.2.2))
theorem zFJ(n:Nat)(f g:Nat->Int)(a:Nat)(f' g':Nat->Int):yd [psT n f g,psT a f' g']=some (n<=1000000/\a<=1000000,bR (FO n f g a f' g')):=Af (fun l=>(K8 (nth l 0 0),K8 (nth l 1 0))) (fun _=>rfl) ((n,f,g),a,f',g')
theorem zCA:Am Tryz.prog 136 yd:=by
 refine Az Al (GOk.cons zCY (AB Tryz.func173 rfl rfl) (GOk.cons Nt (AB Tryz.func135 rfl rfl) GOk.nil)) Ak Tryz.func136 rfl Tryz.ntmps136 Tryz.results136 6 ?_;rintro⟨⟨n,f,g⟩,j,f',g'⟩ ⟨hn,a⟩;replace hn:n<=1000000:=hn;replace a:j<=1000000:=a;refine⟨by simp,?_⟩;simp[go_sem,zFG,hn,a];refine⟨fun h c=>?_,fun l o p=>?_⟩
 ·have:=c.2.2.1;rcases h with(h | h) | h
  ·exact h c.1
  ·exact h c.2.1
  ·omega
 refine BC (fun k:Nat=>⟨[(0,true,.m false [.s .b 2 n (ptrsT f g)]),(1,true,.m false [.s .b 2 j (ptrsT f' g')]),(5,true,.i k)],[]⟩) (fun k=>n - k) (fun k=>k<=n/\∀i,i<k->PIn j f' g' (f i) (g i)) 0 (by simp[go_sem]) (by simp) ?_;rintro k ⟨q,d⟩;simp[go_sem,Ao (show k<=1000000000 by omega),NP,a];exact⟨fun e=>⟨e,fun h c=>h (c.2.2.2 k e),fun h=>⟨k+1,⟨by omega,Bu e d h⟩,by omega,rfl⟩⟩,fun e=>⟨l,o,by omega,fun i hi=>d i (by omega)⟩⟩
set_option maxRecDepth 20000
set_option maxHeartbeats 1600000
theorem Ko(h:NQ W)(x:Int):Eo W x=AI W x:=by
 by_cases a:x=0
 ·rw[show Eo W x=DH from if_pos a,RI fun k b e=>by have:=h k b;omega]
 ·exact if_neg a
variable{l:List (Int×Int)}{i:Nat}
theorem LJ:(l[i]?.getD (0,0)).1=AK l i:=by simp[AK,List.getD_eq_getElem?_getD]
theorem SH:(l[i]?.getD (0,0)).2=AM l i:=by simp[AM,List.getD_eq_getElem?_getD]
theorem SI{x y:Int}:PIn l.length (fun i=>AK l i) (fun i=>AM l i) x y↔(x,y)∈l:=IC
theorem Vs{fl:Fl}:(Tr.s fl k n (DD encP (0,0) l)).lend = .s .b k n (ptrsT (fun i=>AK l i) (fun i=>AM l i)):=by
 rw[Bz];simp only[LJ,SH]
theorem PK:DD encP (0,0) l i 0 = .v (.int .i64 (AK l i)):=by rw[<-LJ];rfl
theorem PL:DD encP (0,0) l i 1 = .v (.int .i64 (AM l i)):=by rw[<-SH];rfl
theorem Zt{p q:Prop} [h:Decidable q]:dB p=decide q↔(p↔q):=by
 by_cases a:p<;>by_cases b:q<;>simp[dB,a,b]
attribute [-go_sem] Bz
attribute [local go_sem] Vs PK PL
structure EO (W:A4):Prop where
 right:AY W.pool
 Ap:EG W
 A2:∀k,k<W.pn->Ay W.pool (W.A2 k).rs (W.A2 k).rb
theorem EO.ids(h:EO W):NQ W:=fun k a=>(h.Ap.EM.ids k a).1
theorem EO.pn(h:EO W):W.pn<=1000000:=by have:=h.Ap.2.2.2.1;omega
def Sy:AJ:=AU (fun q:(A4×Int)×(Int×Int)×Int=>[woT q.1.1,iT q.1.2,pT q.2.1.1 q.2.1.2,iT q.2.2]) (fun q=>EO q.1.1/\Ay q.1.1.pool q.2.1.1 q.2.1.2) (fun q=>bR (Fy (AF q.1.1.pool q.2.1.1 q.2.1.2) (AF q.1.1.pool (AI q.1.1 q.1.2).rs (AI q.1.1 q.1.2).rb) (AI q.1.1 q.1.2).time q.2.2))
theorem Xp(W:A4)(x a b t:Int):Sy [woT W,iT x,pT a b,iT t]=some (EO W/\Ay W.pool a b,bR (Fy (AF W.pool a b) (AF W.pool (AI W x).rs (AI W x).rb) (AI W x).time t)):=Af (fun l=>((C3 (nth l 0),AQ (nth l 1 0)),(AQ (nth l 2 0),AQ (nth l 2 1)),AQ (nth l 3 0))) (fun _=>rfl) ((W,x),(a,b),t)
theorem zCW:Am Tryz.prog 137 Sy:=by
 refine Az Al (GOk.cons L6 (AB Tryz.func82 rfl rfl) (GOk.cons Jt (AB Tryz.func134 rfl rfl) (GOk.cons Nt (AB Tryz.func135 rfl rfl) GOk.nil))) Ak Tryz.func137 rfl Tryz.ntmps137 Tryz.results137 14 ?_;rintro⟨⟨W,x⟩,⟨a,b⟩,t⟩ ⟨p,r⟩;replace p:EO W:=p;replace r:Ay W.pool a b:=r;have A:=LU p.A2 x;refine⟨by simp,?_⟩;have C:=Ko p.ids x;simp[go_sem,Jr,J0,p.pn,C,A,r,p.right];obtain⟨c,f⟩:∃l,l=AF W.pool a b:=⟨_,rfl⟩;obtain⟨d,n⟩:∃l,l=AF W.pool (AI W x).rs (AI W x).rb:=⟨_,rfl⟩;have F:c.length<=100:=by have:=DX W.pool a b;rw[f];omega
 have lo:d.length<=100:=by have:=DX W.pool (AI W x).rs (AI W x).rb;rw[n];omega
 rw[<-f,<-n];obtain⟨τ,hτ⟩:∃τ,τ = (AI W x).time:=⟨_,rfl⟩;rw[<-hτ];refine BC (fun k:Nat=>⟨[(12,true,.m false [.h 8]),(11,true,.m false [.h 7]),(10,true,.m false [.v (.int .i64 τ)]),(3,true,.m false [.v (.int .i64 t)]),(13,true,.i k)],[(8,.row 2 c.length (ptL c)),(7,.row 2 d.length (ptL d))]⟩) (fun k=>c.length - k) (fun k=>k<=c.length/\qz c d τ t k) 0 (by simp[go_sem]) ⟨Nat.zero_le _,fun j B=>absurd B (Nat.not_lt_zero _)⟩ ?_;rintro k ⟨E,q⟩;simp[go_sem,NP,Ao (show k<=1000000000 by omega),SI,show d.length<=1000000 by omega];have s:Fy c d τ t->AM c k<=t/\((AK c k,AM c k)∈d↔AM c k<=τ)\/¬k<c.length:=fun h=>by
  by_cases o:k<c.length
  ·exact .inl ((Tw c d τ t).2 h k o)
  ·exact .inr o
 refine⟨fun o=>⟨o,fun _=>o,by kernel_rfl,fun h z=>?_,fun w y=>⟨k+1,⟨by omega,fun i hi=>?_⟩,by omega,rfl⟩⟩,fun o=>?_⟩
 ·rcases s z with⟨D,u⟩ | g
  ·exact h.elim (fun h=>by omega) (fun h=>h (Zt.2 u))
  ·exact g o
 ·by_cases e:i=k
  ·subst e;exact⟨w,Zt.1 y⟩
  ·exact q i (by omega)
 ·cases (show k=c.length by omega);exact(Tw c d τ t).1 q
def yI:AJ:=AU (fun q:(A4×Int)×(Int×Int)×Nat×(Nat->Int)×(Nat->Int)=>[woT q.1.1,iT q.1.2,pT q.2.1.1 q.2.1.2,psT q.2.2.1 q.2.2.2.1 q.2.2.2.2]) (fun q=>(EO q.1.1/\Ay q.1.1.pool q.2.1.1 q.2.1.2)/\q.2.2.1<=1000000) (fun q=>bR (Dy q.2.2.1 q.2.2.2.1 q.2.2.2.2 (BX (AF q.1.1.pool (AI q.1.1 q.1.2).rs (AI q.1.1 q.1.2).rb) (AF q.1.1.pool q.2.1.1 q.2.1.2))))
theorem V9(W:A4)(x a b:Int)(n:Nat)(f g:Nat->Int):yI [woT W,iT x,pT a b,psT n f g]=some ((EO W/\Ay W.pool a b)/\n<=1000000,bR (Dy n f g (BX (AF W.pool (AI W x).rs (AI W x).rb) (AF W.pool a b)))):=Af (fun l=>((C3 (nth l 0),AQ (nth l 1 0)),(AQ (nth l 2 0),AQ (nth l 2 1)),K8 (nth l 3 0))) (fun _=>rfl) ((W,x),(a,b),n,f,g)
theorem zBI:Am Tryz.prog 66 yI:=by
 refine Az Al (GOk.cons L6 (AB Tryz.func82 rfl rfl) (GOk.cons Jt (AB Tryz.func134 rfl rfl) (GOk.cons Nt (AB Tryz.func135 rfl rfl) (GOk.cons zCA (AB Tryz.func136 rfl rfl) GOk.nil)))) Ak Tryz.func66 rfl Tryz.ntmps66 Tryz.results66 15 ?_;rintro⟨⟨W,x⟩,⟨a,b⟩,n,f,g⟩ ⟨⟨o,q⟩,hn⟩;replace o:EO W:=o;replace q:Ay W.pool a b:=q;replace hn:n<=1000000:=hn;have t:=LU o.A2 x;refine⟨by simp,?_⟩;have u:=Ko o.ids x;simp[go_sem,Jr,J0,o.pn,u,t,q,o.right];obtain⟨d,e⟩:∃l,l=AF W.pool a b:=⟨_,rfl⟩;obtain⟨c,j⟩:∃l,l=AF W.pool (AI W x).rs (AI W x).rb:=⟨_,rfl⟩;have w:d.length<=100:=by have:=DX W.pool a b;rw[e];omega
 have lo:c.length<=100:=by have:=DX W.pool (AI W x).rs (AI W x).rb;rw[j];omega
 rw[<-e,<-j];refine BC (fun k:Nat=>⟨[(14,true,.i k),(13,true,.m false [.h 9]),(12,true,.m false [.h 8]),(11,true,.m false [.h 7]),(3,true,.m false [.s .b 2 n (ptrsT f g)])],[(9,.row 2 (BX (c.take k) d).length (ptL (BX (c.take k) d))),(8,.row 2 d.length (ptL d)),(7,.row 2 c.length (ptL c))]⟩) (fun k=>c.length - k) (fun k=>k<=c.length) 0 (by simp[go_sem];exact KZ rfl) (Nat.zero_le _) ?_;rintro k v;have r:=V1 c d k;simp[go_sem,NP,zFJ,Ao (show k<=1000000000 by omega),SI,show d.length<=1000000 by omega,hn];refine⟨fun p=>⟨p,fun h=>⟨p,by omega,k+1,by omega,by omega,rfl,?_⟩,fun h=>⟨k+1,by omega,by omega,rfl,?_⟩⟩,fun p=>?_⟩
 ·refine GF Hu ?_;rw[QU p h]
 ·rw[Q3 p h];exact TrE.refl _
 ·cases (show k=c.length by omega);rw[List.take_length];rw[List.take_length]at r;exact⟨by omega,Iff.rfl⟩
def qD:AJ:=AU (fun W:A4=>[woT W]) (fun W=>EO W/\∀k,k<W.sn->Ay W.pool (W.A1 k).rs (W.A1 k).rb) (fun W=>bR (∀i,i<memN W->Ek W i))
theorem zDW(W:A4):qD [woT W]=some (EO W/\∀k,k<W.sn->Ay W.pool (W.A1 k).rs (W.A1 k).rb,bR (∀i,i<memN W->Ek W i)):=Af (fun l=>C3 (nth l 0)) (fun _=>rfl) W
theorem zBH:Am Tryz.prog 70 qD:=by
 refine Az Al (GOk.cons zCW (AB Tryz.func137 rfl rfl) GOk.nil) Ak Tryz.func70 rfl Tryz.ntmps70 Tryz.results70 5 ?_;rintro W ⟨c,l⟩;replace c:EO W:=c;have o:W.sn<=8:=c.Ap.2.2.1;have j:W.pn<=20:=c.Ap.2.2.2.1;refine⟨by simp,?_⟩;simp[go_sem];refine BC (fun k:Nat=>⟨[(1,true,.m false [.p 1 0]),(3,true,.i k)],[(1,.var ((woL W).map Tr.cv))]⟩) (fun k=>W.pn - k) (fun k=>k<=W.pn/\∀i,i<k->Ek W i) 0 (by simp[go_sem]) (by simp) ?_;rintro k ⟨n,f⟩;simp[go_sem,Xp,c,Ao (show k<=1000000000 by omega)];refine⟨fun a=>?_,fun a=>?_⟩
 ·have e:A8 W k=Me (W.A2 k):=Co a;have d:Ek W k↔Fy (AF W.pool (W.A2 k).rs (W.A2 k).rb) (AF W.pool (AI W (W.A2 k).A6).rs (AI W (W.A2 k).A6).rb) (AI W (W.A2 k).A6).time (W.A2 k).time:=by
   unfold Ek;rw[e];exact Iff.rfl
  refine⟨a,c.A2 k a,by kernel_rfl,fun h=>⟨k,by unfold memN;omega,fun g=>h (d.1 g)⟩,fun h=>⟨k+1,⟨by omega,Bu a f (d.2 h)⟩,by omega,rfl⟩⟩
 cases (show k=W.pn by omega);refine BC (fun k:Nat=>⟨[(1,true,.m false [.p 1 0]),(4,true,.i k)],[(1,.var ((woL W).map Tr.cv))]⟩) (fun k=>W.sn - k) (fun k=>k<=W.sn/\∀i,i<W.pn+k->Ek W i) 0 (by simp[go_sem]) ⟨Nat.zero_le _,f⟩ ?_;rintro k ⟨n,b⟩;simp[go_sem,Xp,c,Ao (show k<=1000000000 by omega)];refine⟨fun a=>?_,fun a i hi=>b i (by unfold memN at hi;omega)⟩;have e:A8 W (W.pn+k)=LA W.time (W.A1 k):=Cp W k;have d:Ek W (W.pn+k)↔Fy (AF W.pool (W.A1 k).rs (W.A1 k).rb) (AF W.pool (AI W (W.A1 k).A6).rs (AI W (W.A1 k).A6).rb) (AI W (W.A1 k).A6).time W.time:=by
  unfold Ek;rw[e];exact Iff.rfl
 refine⟨a,l k a,by kernel_rfl,fun h=>⟨W.pn+k,by unfold memN;omega,fun g=>h (d.1 g)⟩,fun h=>⟨k+1,⟨by omega,fun i hi=>?_⟩,by omega,rfl⟩⟩;by_cases e:i=W.pn+k
 ·subst e;exact d.2 h
 ·exact b i (by omega)
end
end Go.Proofs.YtehdoekmnicdiaaGreatDoor
