/- A part of the proof. -/
import Derived.Test.YtibhefllijahkaaGreatDoorF33
set_option linter.unusedVariables false
set_option maxRecDepth 20000
set_option maxHeartbeats 4000000
namespace Go.Proofs.YtibhefllijahkaaGreatDoor
noncomputable section
open Go.RowKit
variable{w:World}
theorem Mg{P:Program}{f:Nat}{ι : Type}{A:ι->List (Bool×List Tr)}{C:ι->Prop}{R:ι->List (Bool×List Tr)}
 (h:∀x,C x->∀(g0:Nat->Bs) (d:List Value),(∀b,∃r,g0 b = .fz r)->AN (FQ w g0) (A x) d->Calls P f d.toArray w fun e w'=>∃v g,e = .returned v/\Kp w g0 w' g/\Gr w' g (R x) v):Fk P f (AU A C R) w:=by
 intro m c rs a j g0 d l k;unfold AU at a;split at a
 ·rename_i i
  cases a;exact h i.choose j g0 d l (by rw[i.choose_spec];exact k)
 ·cases a
def SY(w:World)(g:Nat->Bs):Nat->Bs:=fun b=>if b<w.heap.size then g b else .fz none
variable{w':World}{g:Nat->Bs}
theorem Ni(e:∀b,∃r,g b = .fz r)(h:Below w.heap.size w w'):Kp w g w' (SY w g):=
 ⟨h.os,h.tape,h.output,h.size,fun b r a c=>⟨h.block b c,by unfold SY;rw[if_pos c];exact a⟩,fun b o i a=>by obtain⟨r,d⟩:=e b;rw[d]at a;cases a⟩
theorem VB:IU w' (SY w g) w.heap.size:=fun b h _=>if_neg (by omega)
variable{c:Nat}{W:A5}
theorem Aw.wf(h:Aw c W):E7 W:=fun i hi=>by
 have a:0<=(AB W i).A6/\(AB W i).A6<=1000000:=by
  by_cases hs:i<W.pn
  ·rw[CU hs];exact(h.A1 i hs).A6
  ·obtain⟨k,rfl⟩:∃k,i=W.pn+k:=⟨i - W.pn,by omega⟩;rw[DN];exact(h.A3 k (by unfold memN at hi;omega)).A6
 show(decide (IntKind.min .i64<=_) && decide (_<=IntKind.max .i64))=true;simp[IntKind.min,IntKind.max,IntKind.signed,IntKind.bits];omega
theorem Aw.bounds(h:Aw c W)(e:c<=10):Az W.pool<=1048576/\W.sn<=1048576/\W.pn<=1048576/\Je W:=by
 have a:=h.pool;have b:=h.sn;have d:=h.pn;exact⟨by omega,by omega,by omega,fun i hi=>by have:=(h.A3 i hi).dn;omega,fun i hi=>by have:=(h.A1 i hi).dn;omega⟩
variable{i:Nat}
theorem Aw.slot(h:Aw c W)(g:c<=10)(hi:i<W.pool.n):(W.pool.s i).kn<=maxLen/\(W.pool.s i).data.size<=maxLen:=by
 have a:=h.pool;have b:=QR (f:=W.pool.s) hi;have d:Cl W.pool.s W.pool.n<=Az W.pool:=by unfold Az;omega
 have e:Cu (W.pool.s i)=(W.pool.s i).kn+(W.pool.s i).data.size:=rfl;unfold maxLen;omega
theorem Aw.at(h:Aw c W)(a:c<=10){u0 u1 u4 u5:Value}(d:Sh w g (.s .b 3 W.pool.n (Ao .b W.pool.s)) u0)(e:Sh w g (.s .b 1 W.pool.hn (Ay W.pool.h)) u1)(j:Sh w g (.s .b 6 W.sn (setsE .b W.A3)) u4)(k:Sh w g (.s .b 8 W.pn (snapsE .b W.A1)) u5):BR w 0 w.heap.size u0 u1 u4 u5 W:=by
 have b:=h.bounds a;have m:W.pool.n<=Az W.pool:=by unfold Az;omega
 have o:W.pool.hn<=Az W.pool:=Nat.le_add_left ..;have l:1048576<=maxLen:=by decide
 exact⟨⟨zEQ d (by omega) (fun i hi=>h.slot a hi),zHB e (by omega)⟩,zHC j (by omega) (fun i hi=>by have g:=h.A3 i hi;have:=g.dn;have:=g.name;exact⟨by omega,by omega⟩),zER k (by omega) (fun i hi=>by have g:=h.A1 i hi;have:=g.dn;have:=g.name;have:=g.set;exact⟨by omega,by omega,by omega⟩)⟩
variable{n:Nat}{h:Nat->Int}
theorem YY:(Tr.s .z 1 n (Ay h)).kept:=⟨by simp,fun _ _ _ _=>trivial⟩
variable{f:Nat->Int}
theorem RS:(Tr.s .z 2 n (ptrsT f h)).kept:=⟨by simp,fun p q _ _=>by unfold ptrsT;split<;>trivial⟩
theorem zBa{s:Nat->AD}:(Tr.s .z 3 n (Ao .z s)).kept:=⟨by simp,fun i j _ a=>by
 match j,a with
 | 0,_ | 2,_=>trivial
 | 1,_=>exact RS⟩
theorem zB1{s:Nat->AM}:(Tr.s .z 6 n (setsE .z s)).kept:=⟨by simp,fun i j _ a=>by
 match j,a with
 | 0,_ | 1,_ | 2,_ | 3,_ | 4,_=>trivial
 | 5,_=>exact RS⟩
theorem zBb{s:Nat->AL}:(Tr.s .z 8 n (snapsE .z s)).kept:=⟨by simp,fun i j _ a=>by
 match j,a with
 | 0,_ | 1,_ | 2,_ | 3,_ | 4,_ | 5,_ | 6,_=>trivial
 | 7,_=>exact RS⟩
theorem zIN{α β : Type}{R:α->β->Prop}{x0 x1 x2 x3 x4 x5:α}{ys:List β}(h:AN R [x0,x1,x2,x3,x4,x5] ys):∃c d e g a b,ys = [c,d,e,g,a,b]/\R x0 c/\R x1 d/\R x2 e/\R x3 g/\R x4 a/\R x5 b:=by
 cases h with
 | cons a0 h=>cases h with
  | cons a1 h=>cases h with
   | cons a2 h=>cases h with
    | cons a3 h=>
     obtain⟨a,b,rfl,i,j⟩:=F3 h;exact⟨_,_,_,_,a,b,rfl,a0,a1,a2,a3,i,j⟩
theorem QB{cs:List Value}(o:c<=10)(n:Aw c W)(h:AN (Sh w g) (woT W).2 cs):∃a v1 b d,cs = [a,v1,.int .i64 W.time,.int .i64 W.next,b,d]/\BR w 0 w.heap.size a v1 b d W:=by
 obtain⟨p,q,t,u,r,s,rfl,e,i,j,k,l,m⟩:=zIN h;exact⟨p,q,r,s,by rw[j.1,k.1],n.at o e i l m⟩
variable{x:ByteArray}
theorem zEe(h:B3 W x):(BC W.sn fun k=>(W.A3 k).name=x)<W.sn/\Am W x=W.A3 (BC W.sn fun k=>(W.A3 k).name=x).toNat:=by
 rcases Ga W.sn fun k=>(W.A3 k).name=x with⟨k,a,c,d,b⟩ | ⟨a,b⟩
 ·rw[b,Int.toNat_natCast];exact⟨by omega,Kv ⟨a,c,d⟩⟩
 ·obtain⟨k,g,e⟩:=h;exact absurd e (a k g)
abbrev wuZ(o:BV):Bool×List Tr:=(true,[.s .z 3 o.world.pool.n (Ao .z o.world.pool.s),.s .z 1 o.world.pool.hn (Ay o.world.pool.h),.v (.int .i64 o.world.time),.v (.int .i64 o.world.next),.s .z 6 o.world.sn (setsE .z o.world.A3),.s .z 8 o.world.pn (snapsE .z o.world.A1),.v (.int .i64 o.id),.v (.int .i64 o.many),.v (.int .i64 o.code)])
abbrev wuL(o:BV):Bool×List Tr:=(true,[.s .b 3 o.world.pool.n (Ao .b o.world.pool.s),.s .b 1 o.world.pool.hn (Ay o.world.pool.h),.v (.int .i64 o.world.time),.v (.int .i64 o.world.next),.s .b 6 o.world.sn (setsE .b o.world.A3),.s .b 8 o.world.pn (snapsE .b o.world.A1),.v (.int .i64 o.id),.v (.int .i64 o.many),.v (.int .i64 o.code)])
def yB(f:Nat->Tr):BV:=⟨BW f,AQ (f 6),AQ (f 7),AQ (f 8)⟩
variable{o:BV}{g0:Nat->Bs}{e:Ending}
theorem qS(i:∀b,∃r,g0 b = .fz r)(h:Iw o w e w'):∃v g,e = .returned v/\Kp w g0 w' g/\Gr w' g [wuZ o] v:=by
 obtain⟨j,v1,k,l,rfl,d,c⟩:=h;have hs:=d.at;have a:=VB (w:=w) (w':=w') (g:=g0);refine⟨_,_,rfl,Ni i c,_,⟨_,[],_,rfl,rfl,?_,rfl⟩,rfl⟩;exact⟨_,_,rfl,⟨zGA a hs.pool.1,zBa⟩,_,_,rfl,⟨Sj a hs.pool.2,YY⟩,_,_,rfl,⟨rfl,rfl⟩,_,_,rfl,⟨rfl,rfl⟩,_,_,rfl,⟨zH1 a hs.A3,zB1⟩,_,_,rfl,⟨zGB a hs.A1,zBb⟩,_,_,rfl,⟨rfl,rfl⟩,_,_,rfl,⟨rfl,rfl⟩,_,_,rfl,⟨rfl,rfl⟩,rfl⟩
variable{r:Option Nat}
theorem Su{a b:Prop}{m:Nat}{Q:Nat->Prop}{ei:Nat->Nat}(o:BV)(h:Et W a b m Q ei r) :
 (a/\F6 r o=BG 2)\/(¬a/\(¬Ak W\/b)/\F6 r o=BG 1)\/(¬a/\Ak W/\¬b/\∃i,i<m/\¬Q i/\(∀j,j<i->Q j)/\F6 r o=BG (EB (ei i)))\/(¬a/\Ak W/\¬b/\(∀j,j<m->Q j)/\r=none/\F6 r o=o):=by
 unfold Et at h;rw[GD]at h;rcases h with⟨h,rfl⟩ | ⟨c,d,rfl⟩ | ⟨c,d,e,i,g,k,l,rfl⟩ | ⟨c,d,e,g,rfl⟩
 ·exact .inl ⟨h,rfl⟩
 ·exact .inr (.inl ⟨c,d,rfl⟩)
 ·exact .inr (.inr (.inl ⟨c,d,e,i,g,k,l,rfl⟩))
 ·exact .inr (.inr (.inr ⟨c,d,e,g,rfl,rfl⟩))
variable{k:Nat}
theorem Jg(h:Bl W x k):setK W x=k:=by
 show(BC W.sn fun k=>(W.A3 k).name=x).toNat=k;rw[Gb (P:=fun k=>(W.A3 k).name=x) h.1 h.2.1 h.2.2,Int.toNat_natCast]
set_option linter.unusedSimpArgs false
set_option maxRecDepth 20000
set_option maxHeartbeats 3200000
attribute [-go_sem] BP
abbrev seO(s:AM):Bool×List Tr:=(true,[.v (.string s.name),.v (.int .i64 s.origin),.v (.int .i64 s.A6),.v (.int .i64 s.rs),.v (.int .i64 s.rb),.s .o 2 s.dn (ptrsT s.ds s.db)])
abbrev snO(s:AL):Bool×List Tr:=(true,[.v (.int .i64 s.id),.v (.string s.name),.v (.string s.set),.v (.int .i64 s.A6),.v (.int .i64 s.time),.v (.int .i64 s.rs),.v (.int .i64 s.rb),.s .o 2 s.dn (ptrsT s.ds s.db)])
open Classical in
def Cf(W:A5)(x:ByteArray):AM:=if x.size<=8000/\B3 W x/\Ak W then W.A3 (BC W.sn fun k=>(W.A3 k).name=x).toNat else Js
open Classical in
def DA(W:A5)(x:Int):AL:=if Ba W x/\Ak W then W.A1 (BC W.pn fun k=>(W.A1 k).id=x).toNat else Ap
def qE:AE:=AU (fun q:A5×ByteArray=>[woT q.1,sT q.2]) (fun q=>SmallW q.1) (fun q=>[seO (Cf q.1 q.2)])
theorem MP(W:A5)(x:ByteArray):qE [woT W,sT x]=some (SmallW W,[seO (Cf W x)]):=Ac (fun l=>(BW (nth l 0),C1 (nth l 1 0))) (fun _=>rfl) (W,x)
theorem VV:Ae Tryz.prog 9 qE:=by
 refine Ar Ah (GOk.cons IJ (AA Tryz.func28 rfl rfl) (GOk.cons Fv (AA Tryz.func25 rfl rfl) GOk.nil)) mixed Tryz.func9 rfl Tryz.ntmps9 Tryz.results9 7 ?_;rintro⟨W,x⟩ a;replace a:SmallW W:=a;refine⟨by simp,?_⟩;simp[go_sem,CJ,C2,a,a.sn,E5,CW,I6,GW,L3];refine⟨fun h=>?_,fun m b i=>?_⟩
 ·rw[show Cf W x=Js from if_neg fun e=>h.elim (fun h=>h.elim (fun h=>by have:=e.1;omega) (fun h=>h e.2.1)) (fun h=>h e.2.2)];exact⟨rfl,rfl,rfl,rfl,rfl,rfl⟩
 ·rw[show Cf W x=_ from if_pos ⟨by omega,b,i⟩];obtain⟨k,c,j,l,d⟩ | ⟨-,g⟩:=Ga W.sn fun k=>(W.A3 k).name=x
  ·have n:=a.sd k c;rw[d,Int.toNat_natCast];exact⟨⟨b,by omega⟩,by omega,rfl,rfl,rfl,rfl,rfl,TrE.refl _⟩
  ·have:=CW.2 b;omega
def Ty:AE:=AU (fun q:A5×Int=>[woT q.1,iT q.2]) (fun q=>SmallW q.1) (fun q=>[snO (DA q.1 q.2)])
theorem Mc(W:A5)(x:Int):Ty [woT W,iT x]=some (SmallW W,[snO (DA W x)]):=Ac (fun l=>(BW (nth l 0),AQ (nth l 1 0))) (fun _=>rfl) (W,x)
theorem Xe:Ae Tryz.prog 8 Ty:=by
 refine Ar Ah (GOk.cons JA (AA Tryz.func29 rfl rfl) (GOk.cons Fv (AA Tryz.func25 rfl rfl) GOk.nil)) mixed Tryz.func8 rfl Tryz.ntmps8 Tryz.results8 7 ?_;rintro⟨W,x⟩ a;replace a:SmallW W:=a;refine⟨by simp,?_⟩;simp[go_sem,F4,C2,a,a.pn,JP,Gx,I6,GW,L3];refine⟨fun h=>?_,fun b i=>?_⟩
 ·rw[show DA W x=Ap from if_neg fun e=>h.elim (fun h=>h e.1) (fun h=>h e.2)];exact⟨rfl,rfl,rfl,rfl,rfl,rfl,rfl,rfl⟩
 ·rw[show DA W x=_ from if_pos ⟨b,i⟩];obtain⟨k,c,j,l,d⟩ | ⟨-,g⟩:=Ga W.pn fun k=>(W.A1 k).id=x
  ·have m:=a.pd k c;rw[d,Int.toNat_natCast];exact⟨⟨b,by omega⟩,by omega,rfl,rfl,rfl,rfl,rfl,rfl,rfl,TrE.refl _⟩
  ·have:=Gx.2 b;omega
set_option maxRecDepth 20000
set_option maxHeartbeats 3200000
attribute [go_sem] BP
attribute [-go_sem] BP
def Tl:AE:=AU (fun q:A8×Int×Int×Nat=>[poT q.1.n q.1.s q.1.hn q.1.h,pT q.2.1 q.2.2.1,iT (q.2.2.2:Int)]) (fun q=>BN q.1 q.2.1 q.2.2.1/\q.2.2.2<64) (fun q=>[(false,[.v (.string (lwD q.1 q.2.1 q.2.2.1 q.2.2.2))])])
theorem zn(p:A8)(a b:Int)(k:Nat):Tl [poT p.n p.s p.hn p.h,pT a b,iT (k:Int)]=some (BN p a b/\k<64,[(false,[.v (.string (lwD p a b k))])]):=Ac (fun l=>(CY (nth l 0 0) (nth l 0 1),AQ (nth l 1 0),AQ (nth l 1 1),(AQ (nth l 2 0)).toNat)) (fun _=>rfl) (p,a,b,k)
theorem zID{p:A8}{a b:Int}(h:BM p a b):b≠0/\0<=a/\a<p.n:=⟨by have:=h.1;omega,h.2.1,h.2.2.1⟩
theorem zE2:Ae Tryz.prog 80 Tl:=by
 refine Ar Ah GOk.nil mixed Tryz.func80 rfl Tryz.ntmps80 Tryz.results80 9 ?_;rintro⟨p,a,b,k⟩ ⟨n,w⟩;replace n:BN p a b:=n;replace w:k<64:=w;refine⟨by simp,?_⟩;by_cases l:Nil a b
 ·obtain⟨rfl,rfl⟩:=id l;simp[go_sem,QH l]
 obtain⟨m,o,-⟩:=n.2.resolve_left l;have j:=Ki n.1 m;obtain⟨A,B,C⟩:=zID m.1;have d:(k / 8:Nat)<8:=by omega
 have q1:Ca p a b k=(p.s a.toNat).ks (k / 8):=(if_neg l).trans (Fh j d);have z:D9 p a b k=(p.s a.toNat).kb (k / 8):=(if_neg l).trans (Fm j d);have q:=o.1 (k / 8) d;unfold KS at q;rw[Fh j d,Fm j d]at q;simp[go_sem,NH w,N2,A,B,C,j];rw[show((k:Int) / 8).toNat=k / 8 by omega,show((k:Int) % 8).toNat=k % 8 by omega];refine⟨by omega,fun h=>?_,fun h=>?_⟩
 ·have x:=q.resolve_right fun g=>by have:=g.1.1.1;omega
  exact(QG (by rw[q1,z];exact x)).symm
 obtain⟨t,D⟩:=q.resolve_left fun e=>h e.2
 have c:=Ki n.1 t;have i:k % 8<8:=by omega
 have v:=D.1 (k % 8) i;rw[Fh c i,Fm c i]at v;have hn:¬Nil (Ca p a b k) (D9 p a b k):=by rw[q1,z];exact fun e=>h e.2
 have r:CT p a b k=(p.s ((p.s a.toNat).ks (k / 8)).toNat).ks (k % 8):=(if_neg hn).trans (by rw[q1];exact Fh c i);have y:Cb p a b k=(p.s ((p.s a.toNat).ks (k / 8)).toNat).kb (k % 8):=(if_neg hn).trans (by rw[q1];exact Fm c i);refine⟨⟨t.1.2.1,t.1.2.2.1⟩,⟨by omega,by rw[c];omega⟩,fun u=>?_,fun u=>?_⟩
 ·have x:=v.resolve_right fun g=>by have:=g.1.1;omega
  exact(if_pos (by rw[r,y];exact x)).symm
 ·have g:=v.resolve_left fun e=>u e.2
  exact⟨⟨g.1.2.1,g.1.2.2.1⟩,((if_neg (by rw[r,y];exact fun e=>u e.2)).trans (by rw[r])).symm⟩
def Tn:AE:=AU (fun q:A8×Int×Int×A8×Int×Int×Int=>[poT q.1.n q.1.s q.1.hn q.1.h,pT q.2.1 q.2.2.1,poT q.2.2.2.1.n q.2.2.2.1.s q.2.2.2.1.hn q.2.2.2.1.h,pT q.2.2.2.2.1 q.2.2.2.2.2.1,iT q.2.2.2.2.2.2]) (fun q=>BN q.1 q.2.1 q.2.2.1/\BN q.2.2.2.1 q.2.2.2.2.1 q.2.2.2.2.2.1/\∀k:Nat,k<64->(k:Int)≠q.2.2.2.2.2.2->lwD q.1 q.2.1 q.2.2.1 k=lwD q.2.2.2.1 q.2.2.2.2.1 q.2.2.2.2.2.1 k) (fun _=>tT)
theorem Xp(p:A8)(a b:Int)(q:A8)(c d x:Int):Tn [poT p.n p.s p.hn p.h,pT a b,poT q.n q.s q.hn q.h,pT c d,iT x]=some (BN p a b/\BN q c d/\∀k:Nat,k<64->(k:Int)≠x->lwD p a b k=lwD q c d k,tT):=Ac (fun l=>(CY (nth l 0 0) (nth l 0 1),AQ (nth l 1 0),AQ (nth l 1 1),CY (nth l 2 0) (nth l 2 1),AQ (nth l 3 0),AQ (nth l 3 1),AQ (nth l 4 0))) (fun _=>rfl) (p,a,b,q,c,d,x)
theorem zE4:Ae Tryz.prog 32 Tn:=by
 refine Ar Ah (GOk.cons zE2 (AA Tryz.func80 rfl rfl) GOk.nil) mixed Tryz.func32 rfl Tryz.ntmps32 Tryz.results32 12 ?_;rintro⟨p,a,b,q,c,d,x⟩ ⟨e,g,j⟩;replace e:BN p a b:=e;replace g:BN q c d:=g;replace j:∀k:Nat,k<64->(k:Int)≠x->lwD p a b k=lwD q c d k:=j;refine⟨by simp,?_⟩;simp[go_sem];refine Ax (fun k:Nat=>⟨[(5,true,.m false [.p 5 0]),(6,true,.m false [.p 6 0]),(7,true,.m false [.p 7 0]),(8,true,.m false [.p 8 0]),(4,true,.i x),(11,true,.i k)],[(8,.var [.v (.int .i64 c),.v (.int .i64 d)]),(7,.var [.s .b 3 q.n (Ao .b q.s),.s .b 1 q.hn (Ay q.h)]),(6,.var [.v (.int .i64 a),.v (.int .i64 b)]),(5,.var [.s .b 3 p.n (Ao .b p.s),.s .b 1 p.hn (Ay p.h)])]⟩) (fun k=>64 - k) (fun k=>k<=64) 0 (by simp[go_sem]) (by simp) ?_;rintro k o;simp[go_sem,zn,Al (show k<=1000000000 by omega),e,g];exact fun r=>⟨fun _=>by omega,by kernel_rfl,fun l=>by rw[j k (by omega) l],fun _=>⟨k+1,by omega,by omega,rfl⟩⟩
structure JV (W V:A5) (x:ByteArray) (y:Int):Prop where
 A3:∀i,i<W.sn->(W.A3 i).name≠x->(Cf V (W.A3 i).name).name=(W.A3 i).name/\∀k,k<64->lwD W.pool (W.A3 i).rs (W.A3 i).rb k=lwD V.pool (Cf V (W.A3 i).name).rs (Cf V (W.A3 i).name).rb k
 A1:∀i,i<W.pn->(W.A1 i).id≠y->(DA V (W.A1 i).id).id=(W.A1 i).id/\∀k,k<64->lwD W.pool (W.A1 i).rs (W.A1 i).rb k=lwD V.pool (DA V (W.A1 i).id).rs (DA V (W.A1 i).id).rb k
variable{V:A5}
theorem zEf(h:Ak V)(x:ByteArray):As V.pool (Cf V x).rs (Cf V x).rb:=by
 unfold Cf;split
 ·rename_i g
  obtain⟨k,a,-,-,b⟩ | ⟨a,-⟩:=Ga V.sn fun k=>(V.A3 k).name=x
  ·rw[b];exact(h.A3 k a).1
  ·obtain⟨k,c,d⟩:=g.2.1;exact absurd d (a k c)
 ·exact .inl ⟨rfl,rfl⟩
theorem zA8(h:Ak V)(x:Int):As V.pool (DA V x).rs (DA V x).rb:=by
 unfold DA;split
 ·rename_i g
  obtain⟨k,a,-,-,b⟩ | ⟨a,-⟩:=Ga V.pn fun k=>(V.A1 k).id=x
  ·rw[b];exact h.A1 k a
  ·obtain⟨k,c,d⟩:=g.1;exact absurd d (a k c)
 ·exact .inl ⟨rfl,rfl⟩
def Tj:AE:=AU (fun q:A5×A5×ByteArray×Int=>[woT q.1,woT q.2.1,sT q.2.2.1,iT q.2.2.2]) (fun q=>(SmallW q.1/\SmallW q.2.1)/\(Ak q.1/\Ak q.2.1)/\JV q.1 q.2.1 q.2.2.1 q.2.2.2) (fun _=>tT)
theorem LJ(W V:A5)(x:ByteArray)(y:Int):Tj [woT W,woT V,sT x,iT y]=some ((SmallW W/\SmallW V)/\(Ak W/\Ak V)/\JV W V x y,tT):=Ac (fun l=>(BW (nth l 0),BW (nth l 1),C1 (nth l 2 0),AQ (nth l 3 0))) (fun _=>rfl) (W,V,x,y)
theorem zE1:Ae Tryz.prog 10 Tj:=by
 refine Ar Ah (GOk.cons VV (AA Tryz.func9 rfl rfl) (GOk.cons Xe (AA Tryz.func8 rfl rfl) (GOk.cons zE4 (AA Tryz.func32 rfl rfl) GOk.nil))) mixed Tryz.func10 rfl Tryz.ntmps10 Tryz.results10 15 ?_;rintro⟨W,V,x,y⟩ ⟨⟨n,l⟩,⟨a,d⟩,hK⟩;replace n:SmallW W:=n;replace l:SmallW V:=l;replace a:Ak W:=a;replace d:Ak V:=d;replace hK:JV W V x y:=hK;have r:W.sn<=8:=a.AX.2.2.1;have o:W.pn<=20:=a.AX.2.2.2.1;refine⟨by simp,?_⟩;simp[go_sem];refine Ax (fun k:Nat=>⟨[(4,true,.m false [.p 4 0]),(5,true,.m false [.p 5 0]),(2,true,.m false [.v (.string x)]),(3,true,.i y),(9,true,.i k)],[(5,.var ((woL V).map Tr.cv)),(4,.var ((woL W).map Tr.cv))]⟩) (fun k=>W.sn - k) (fun k=>k<=W.sn) 0 (by simp[go_sem]) (by simp) ?_;intro k q;obtain⟨D,c⟩:∃D,Cf V (W.A3 k).name=D:=⟨_,rfl⟩;simp[go_sem,MP,Xp,Al (show k<=1000000000 by omega),l,c];refine⟨fun b=>?_,fun b=>?_⟩
 ·have g:¬(W.A3 k).name.toList=x.toList->D.name=(W.A3 k).name/\∀j,j<64->lwD W.pool (W.A3 k).rs (W.A3 k).rb j=lwD V.pool D.rs D.rb j:=fun h=>c▸hK.A3 k b fun e=>h (congrArg ByteArray.toList e)
  exact⟨b,fun h _=>⟨⟨a.right,(a.A3 k b).1⟩,⟨d.right,c▸zEf d _⟩,(g h).2⟩,fun h e=>⟨h,e⟩,fun h=>congrArg ByteArray.toList (g h).1,fun _=>⟨k+1,by omega,by omega,rfl⟩⟩
 refine Ax (fun k:Nat=>⟨[(4,true,.m false [.p 4 0]),(5,true,.m false [.p 5 0]),(3,true,.i y),(12,true,.i k)],[(5,.var ((woL V).map Tr.cv)),(4,.var ((woL W).map Tr.cv))]⟩) (fun k=>W.pn - k) (fun k=>k<=W.pn) 0 (by simp[go_sem]) (by simp) ?_;intro k q;obtain⟨D,c⟩:∃D,DA V (W.A1 k).id=D:=⟨_,rfl⟩;simp[go_sem,Mc,Xp,Al (show k<=1000000000 by omega),l,c];intro b;have g:¬(W.A1 k).id=y->D.id=(W.A1 k).id/\∀j,j<64->lwD W.pool (W.A1 k).rs (W.A1 k).rb j=lwD V.pool D.rs D.rb j:=fun h=>c▸hK.A1 k b h
 exact⟨b,fun h _=>⟨⟨a.right,a.A1 k b⟩,⟨d.right,c▸zA8 d _⟩,(g h).2⟩,fun h e=>⟨h,e⟩,fun h=>(g h).1,fun _=>⟨k+1,by omega,by omega,rfl⟩⟩
theorem zIr(h:Ak V)(hi:i<k)(a:k<V.sn):BF (V.A3 i).name (V.A3 k).name:=IC h.AX hi a
theorem zHw(h:Ak V)(hi:i<k)(a:k<V.pn):(V.A1 i).id<(V.A1 k).id:=NS h.AX hi a
theorem Nf(h:Ak V)(hi:i<V.sn):Cf V (V.A3 i).name=V.A3 i:=by
 have hs:=(h.AX.2.2.2.2.1 i hi).1;unfold Cf;rw[if_pos ⟨by have:=hs.2.1;omega,⟨i,hi,rfl⟩,h⟩,Gb (P:=fun k=>(V.A3 k).name=(V.A3 i).name) hi rfl (fun j a e=>Fr (zIr h a hi) e),Int.toNat_natCast]
theorem QS(h:Ak V)(hi:i<V.pn):DA V (V.A1 i).id=V.A1 i:=by
 unfold DA;rw[if_pos ⟨⟨i,hi,rfl⟩,h⟩,Gb (P:=fun k=>(V.A1 k).id=(V.A1 i).id) hi rfl (fun j a e=>by have:=zHw h a hi;omega),Int.toNat_natCast]
theorem wf_i64{x:Int}(h:-1000000000000000000<=x)(a:x<=1000000000000000000):(Lit.int .i64 x).wf=true:=by
 show(decide (IntKind.min .i64<=_) && decide (_<=IntKind.max .i64))=true;simp[IntKind.min,IntKind.max,IntKind.signed,IntKind.bits];omega
theorem R2{y:Value}(k:c<=10)(j:Aw c W)(h:FQ w g (woT W) y):∃b v1 d e,y=BS b v1 d e W/\BR w 0 w.heap.size b v1 d e W:=by
 obtain⟨p,rfl,a⟩:=h;obtain⟨l,m,n,o,rfl,i⟩:=QB k j a;exact⟨l,m,n,o,rfl,i⟩
theorem zH4{x:Int}(c:∀b,∃r,g0 b = .fz r)(a:Below w.heap.size w w'):∃v g,Ending.returned (.int .i64 x) = .returned v/\Kp w g0 w' g/\Gr w' g [iT x] v:=
 ⟨_,_,rfl,Ni c a,_,⟨_,[],_,rfl,rfl,⟨_,_,rfl,⟨rfl,rfl⟩,rfl⟩,rfl⟩,rfl⟩
theorem zGG{p:Prop}(d:∀b,∃r,g0 b = .fz r)(h:AG p e)(c:Below w.heap.size w w'):∃v g,e = .returned v/\Kp w g0 w' g/\Gr w' g (bR p) v:=by
 obtain⟨b,rfl,a⟩:=h;refine⟨_,_,rfl,Ni d c,_,⟨_,[],_,rfl,rfl,⟨_,_,rfl,⟨?_,rfl⟩,rfl⟩,rfl⟩,rfl⟩;by_cases h:p
 ·rw[FT.2 h,a.2 h]
 ·rw[PB.2 h,Bool.eq_false_iff.2 fun e=>h (a.1 e)]
def zQ:AE:=AU (fun W:A5=>[woT W]) (fun W=>Aw 1 W) (fun W=>bR (Ak W))
theorem U0(W:A5):zQ [woT W]=some (Aw 1 W,bR (Ak W)):=Ac (fun l=>BW (nth l 0)) (fun _=>rfl) W
theorem zIy:Ae Tryz.prog 26 zQ:=fun w=>by
 refine Mg ?_;rintro W a g0 m i h;replace a:Aw 1 W:=a;obtain⟨y,rfl,c⟩:=Fq h;obtain⟨j,v1,k,l,rfl,d⟩:=R2 (by omega) a c;refine(P6 j v1 k l 0 w.heap.size W w d a.wf).mono ?_;rintro e w' ⟨b,g⟩;rw[GD]at b;exact zGG i b g
set_option linter.unusedSimpArgs false
set_option maxRecDepth 20000
set_option maxHeartbeats 3200000
attribute [go_sem] BP
attribute [-go_sem] BP
structure GH (x y:BV):Prop where
 code:x.code=y.code
 id:x.id=y.id
 many:x.many=y.many
 no:x.code≠0->x.world.sn=0/\x.world.pool.n=0
 ok:x.code=0->Ak x.world
 good:Aw 1 x.world
def yb:AE:=AU (fun q:BV×BV=>[wuL q.1,wuL q.2]) (fun q=>GH q.1 q.2) (fun _=>tT)
theorem Iz(x y:BV):yb [wuL x,wuL y]=some (GH x y,tT):=Ac (fun l=>(yB (nth l 0),yB (nth l 1))) (fun _=>rfl) (x,y)
theorem zE6:Ae Tryz.prog 6 yb:=by
 refine Ar Ah (GOk.cons Fv (AA Tryz.func25 rfl rfl) (GOk.cons zIy (AA Tryz.func26 rfl rfl) GOk.nil)) mixed Tryz.func6 rfl Tryz.ntmps6 Tryz.results6 6 ?_;rintro⟨x,y⟩ e;replace e:GH x y:=e;obtain⟨g,h,i,l,m,j⟩:=e;have k:=(j.Bo (c:=1) (by omega)).toSmallW;refine⟨by simp,?_⟩;by_cases d:x.code=0
 ·have n:=m d;simp[go_sem,C2,U0,<-g,<-h,<-i,d,n,j,k]
 ·obtain⟨a,b⟩:=l d;simp[go_sem,C2,U0,<-g,<-h,<-i,d,a,b]
theorem T8{c:Int}(a:c≠0):GH (BG c) (BG c):=⟨rfl,rfl,rfl,fun _=>⟨rfl,rfl⟩,fun h=>absurd h a,GA (e:=c)⟩
theorem Uh(h:o.code=0)(b:Ak o.world)(a:Aw 1 o.world):GH o o:=⟨rfl,rfl,rfl,fun g=>absurd h g,fun _=>b,a⟩
theorem TU(g:Ak V){y:Int}
 (h:∀i,i<W.sn->(W.A3 i).name≠x->(∃j,j<V.sn/\(V.A3 j).name=(W.A3 i).name/\(V.A3 j).rs=(W.A3 i).rs/\(V.A3 j).rb=(W.A3 i).rb)/\KT W.pool V.pool (W.A3 i).rs (W.A3 i).rb)
 (l:∀i,i<W.pn->(W.A1 i).id≠y->(∃j,j<V.pn/\(V.A1 j).id=(W.A1 i).id/\(V.A1 j).rs=(W.A1 i).rs/\(V.A1 j).rb=(W.A1 i).rb)/\KT W.pool V.pool (W.A1 i).rs (W.A1 i).rb):JV W V x y:=by
 refine⟨fun i hi hn=>?_,fun i hi hn=>?_⟩
 ·obtain⟨⟨j,d,a,b,c⟩,t⟩:=h i hi hn;rw[<-a,Nf g d];exact⟨rfl,fun k e=>by rw[b,c];exact(t.page e).symm⟩
 ·obtain⟨⟨j,d,a,b,c⟩,t⟩:=l i hi hn;rw[<-a,QS g d];exact⟨rfl,fun k e=>by rw[b,c];exact(t.page e).symm⟩
theorem VW(h:Ak W)(b:¬B3 W x):Dp W x (Dm W x):=by
 obtain⟨k,a⟩:=Dp.has ((GD W).2 h).AX.A3 b;have e:Dm W x=k:=by
  by_cases c:k<W.sn
  ·exact Qi c (L6 (a.2.2 k (Nat.le_refl _) c)) a.2.1
  ·rw[UF fun j d=>a.2.1 j (by omega)];have:=a.1;omega
 rw[e];exact a
theorem zF0(h:Ak W){s:AM}(d:Dp W s.name k)(hn:BK s.name)(j:W.sn<8)(g:s.dn=0)(n:s.origin=s.A6)(hi:s.A6≠0->Ba W s.A6)(o:s.rs=(AC W s.A6).rs/\s.rb=(AC W s.A6).rb)(u:ByteArray)(v:Int) :
 Ak (DE W k s)/\JV W (DE W k s) u v/\Cf (DE W k s) s.name=s:=by
 have c:=zF1 h d hn j g n hi o;have b:∀m,m<memN W->KT W.pool (DE W k s).pool (AB W m).rs (AB W m).rb:=fun m l=>⟨rfl,fun z p=>⟨rfl,(Fs h.right (qM h l) p).2.2⟩⟩
 refine⟨c,TU c (fun i a _=>?_) (fun i a _=>?_),?_⟩
 ·have t:=b (W.pn+i) (by unfold memN;omega);rw[DN]at t;refine⟨?_,t⟩;by_cases e:i<k
  ·have q:(DE W k s).A3 i=W.A3 i:=ET e;exact⟨i,Nat.lt_succ_of_lt a,by rw[q],by rw[q],by rw[q]⟩
  ·have q:(DE W k s).A3 (i+1)=W.A3 i:=ES (Nat.lt_succ_of_le (by omega));exact⟨i+1,Nat.succ_lt_succ a,by rw[q],by rw[q],by rw[q]⟩
 ·have t:=b i (by unfold memN;omega);rw[CU a]at t;exact⟨⟨i,a,rfl,rfl,rfl⟩,t⟩
 ·have q:(DE W k s).A3 k=s:=ER;have:=Nf c (i:=k) (Nat.lt_succ_of_le d.1);rw[q]at this;exact this
theorem zBr(e:EH W x=o):(o.code≠0/\GH o o)\/(o.code=0/\GH o o/\Ak W/\(Ak o.world/\JV W o.world ByteArray.empty 0)/\B3 o.world x/\Cf o.world x=E3 x 0 0 0 0):=by
 have p:Aw 1 o.world:=e▸(Ml W x).up;have b:∀c,c≠0->o=BG c->o.code≠0/\GH o o:=fun c a h=>by subst h;exact⟨a,T8 a⟩
 unfold EH at e;split at e
 ·exact .inl (b 2 (by decide) e.symm)
 split at e
 ·rename_i d
  split at e
  ·rename_i a
   have j:¬B3 W x:=fun g=>by rw[EX,if_pos g]at a;exact absurd a (by decide)
   have n:W.sn<8:=by
    refine Nat.lt_of_not_le fun g=>?_
    rw[EX,if_neg j,if_pos g]at a;exact absurd a (by decide)
   have i:=VW d.1 j;have q:AC W 0=Ap:=Oi fun k i=>by have:=(d.1.AX.2.2.2.2.2 k i).1.1;omega
   obtain⟨l,hK,m⟩:=zF0 (s:=E3 x 0 0 0 0) d.1 i d.2 n rfl rfl (fun g=>absurd rfl g) (by rw[show(E3 x 0 0 0 0).A6=0 from rfl,q];exact⟨rfl,rfl⟩) ByteArray.empty 0;subst e;exact .inr ⟨rfl,Uh rfl l p,d.1,⟨l,hK⟩,⟨Dm W x,Nat.lt_succ_of_le i.1,by show(ins W.A3 _ _ _).name=x;rw[ER]⟩,m⟩
  ·rename_i a
   exact .inl (b _ a e.symm)
 ·exact .inl (b 1 (by decide) e.symm)
theorem zBI(h:Et W (∃i,i<1/\8000<((fun (_:Nat)=>x) i).size) (∃i,i<1/\¬BK ((fun i=>match i with  | _=>x) i)) 2 (fun i=>match i with | 0=>¬B3 W x | _=>W.sn<8) (fun i=>match i with | 0=>3 | _=>4) r)
 (s:r=none->∃k,Dp W x k/\o=⟨DE W k (KX x),0,0,0⟩):F6 r o=EH W x:=by
 have l:(∃i,i<1/\8000<((fun (_:Nat)=>x) i).size)↔8000<x.size:=⟨fun ⟨_,_,h⟩=>h,fun h=>⟨0,by omega,h⟩⟩;have hn:(∃i,i<1/\¬BK ((fun i=>match i with | _=>x:Nat->ByteArray) i))↔¬BK x:=⟨fun ⟨_,_,g⟩=>g,fun g=>⟨0,by omega,g⟩⟩;unfold EH;rcases Su o h with⟨a,e⟩ | ⟨a,b,e⟩ | ⟨a,b,m,i,hi,j,p,e⟩ | ⟨a,b,m,j,u,e⟩
 ·rw[e,if_pos (l.1 a)]
 ·rw[e,if_neg fun g=>a (l.2 g),if_neg fun g=>b.elim (fun h=>h g.1) fun h=>hn.1 h g.2]
 ·have n:BK x:=Classical.not_not.1 fun g=>m (hn.2 g)
  rw[e,if_neg fun g=>a (l.2 g),if_pos ⟨b,n⟩]
  match i,hi with
  | 0,_=>
   have c:B3 W x:=Classical.not_not.1 j;have d:EX W x=5:=(by unfold EX;rw[if_pos c]);rw[d,if_neg (by decide)];rfl
  | 1,_=>
   have c:¬B3 W x:=p 0 (by omega);have t:¬W.sn<8:=j;have d:EX W x=6:=(by unfold EX;rw[if_neg c,if_pos (by omega)]);rw[d,if_neg (by decide)];rfl
 ·obtain⟨k,q,rfl⟩:=s u;have n:BK x:=Classical.not_not.1 fun g=>m (hn.2 g)
  have c:¬B3 W x:=j 0 (by omega);have hs:W.sn<8:=j 1 (by omega);have d:EX W x=0:=(by unfold EX;rw[if_neg c,if_neg (by omega)]);rw[e,if_neg fun g=>a (l.2 g),if_pos ⟨b,n⟩,if_pos d,(VW b c).uniq q];rfl
def VL:AE:=AU (fun q:A5×ByteArray=>[woT q.1,sT q.2]) (fun q=>Aw 1 q.1/\q.2.size<=8000) (fun q=>[wuZ (EH q.1 q.2)])
theorem On(W:A5)(x:ByteArray):VL [woT W,sT x]=some (Aw 1 W/\x.size<=8000,[wuZ (EH W x)]):=Ac (fun l=>(BW (nth l 0),C1 (nth l 1 0))) (fun _=>rfl) (W,x)
variable{p:Nat->Addr}
theorem zA4(l:Cr w p):Fk Tryz.prog 14 VL w:=by
 refine Mg ?_;rintro⟨W,x⟩ ⟨a,d⟩ g0 B q n;replace a:Aw 1 W:=a;replace d:x.size<=8000:=d;obtain⟨y,A,rfl,⟨z,rfl,c⟩,⟨T,h,m⟩⟩:=F3 n;cases h;have b:=a.bounds (by omega);obtain⟨s,t,u,v,rfl,k⟩:=QB (by omega) a c;rw[m.1];refine(zD9 p s t u v 0 w.heap.size W x w l k a.wf b.1 b.2.1 b.2.2.1 b.2.2.2 (Nat.le_trans d (by decide))).mono ?_;rintro e w' ⟨r,o,i,j,g⟩;rw[zBI i j]at g;exact qS q g
variable{j:Nat}
theorem V6(h:Cm W)(hi:i<W.pn)(a:j<W.pn)(e:(W.A1 i).id=(W.A1 j).id):i=j:=by
 rcases Nat.lt_trichotomy i j with g | g | g
 ·have:=NS h g a;omega
 ·exact g
 ·have:=NS h g hi;omega
theorem zFD(s:Ak W)(st:ByteArray):∀(n:Nat) (x:Int),x.toNat<n->∀j,j<W.pn->(Gz (CL W st x) (W.A1 j).id↔DS W st x j):=by
 have q:C6 W:=((GD W).2 s).AX;have r:=s.AX;intro n
 induction n with
 | zero=>intro x v;omega
 | succ n ih=>
  intro x v j t;by_cases c:(AC W x).id=0\/(AC W x).set≠st
  ·rw[LG c];refine⟨fun ⟨i,hi,_⟩=>absurd hi (Nat.not_lt_zero _),fun ⟨m,y,hs,b,a⟩=>?_⟩;have key:∀i,B5 W x i->(W.A1 i).set=st->False:=fun i hi e=>by
    rw[CM hi]at c;have:=r.DG.pos i hi.1;exact c.elim (fun h=>by omega) fun h=>h e
   by_cases o:m=0
   ·subst o;cases hs;exact absurd a fun e=>key _ b e
   ·obtain⟨z,w,i,hi,e⟩:=hs.less (show 0<m by omega);cases w;exact absurd e fun e=>key _ hi e
  ·obtain⟨A,B,u,k,b⟩:=K6 q fun e=>c (.inl e)
   have a:(W.A1 k).set=st:=by
    rw[<-CM b];exact Classical.byContradiction fun e=>c (.inr e)
   have p:Steps W st x 1 (W.A1 k).A6:=.next .zero b a;rw[Ma q c,CM b];rw[CM b]at u;have d:=ih (W.A1 k).A6 (by omega) j t;constructor
   ·rintro⟨i,hi,e⟩;cases i with
    | zero=>
     have:(W.A1 k).id=(W.A1 j).id:=e;obtain rfl:=V6 r b.1 t this;exact⟨0,x,.zero,b,a⟩
    | succ i=>
     obtain⟨m,y,hs,g,l⟩:=d.1 ⟨i,Nat.lt_of_succ_lt_succ hi,e⟩;exact⟨1+m,y,Mh p hs,g,l⟩
   ·rintro⟨m,y,hs,g,l⟩;by_cases o:m=0
    ·subst o;cases hs;rw[g.uniq b];exact⟨0,Nat.succ_pos _,rfl⟩
    ·obtain⟨i,hi,e⟩:=d.2 ⟨m - 1,y,OQ p hs (by omega),g,l⟩;exact⟨i+1,Nat.succ_lt_succ hi,e⟩
theorem O8(a:Ak W)(st:ByteArray)(x:Int)(b:j<W.pn):Gz (CL W st x) (W.A1 j).id↔DS W st x j:=zFD a st (x.toNat+1) x (Nat.lt_succ_self _) j b
theorem V0(b:Ak W)(st:ByteArray)(id:Int):GO W x (CL W st id)↔¬∃j,DS W st id j/\Ji W x (W.A1 j).name:=by
 have m:C6 W:=((GD W).2 b).AX;constructor
 ·rintro h ⟨j,n,k,g,d,a⟩;have c:j<W.pn:=(by obtain⟨_,_,_,c,_⟩:=n;exact c.1);obtain⟨i,hi,e⟩:=(O8 b st id c).2 n;obtain⟨-,q,l,eq⟩:=OD m st id hi;rw[eq]at e;have:=V6 b.AX l c e;subst this;exact h i hi k g ⟨d,by rw[eq];exact a⟩
 ·rintro h i hi k g ⟨d,a⟩;obtain⟨-,q,l,eq⟩:=OD m st id hi;rw[eq]at a;exact h ⟨q,(O8 b st id l).1 ⟨i,hi,by rw[eq]⟩,k,g,d,a⟩
theorem ME{x:Int}(h:Ba W x):B5 W x (EO W x):=by
 obtain⟨k,a⟩:=h.no;have e:EO W x=k:=by
  show(BC W.pn fun k=>(W.A1 k).id=x).toNat=k;rw[Gb (P:=fun k=>(W.A1 k).id=x) a.1 a.2.1 a.2.2,Int.toNat_natCast]
 rw[e];exact a
theorem zGS(h:Et W (∃i,i<1/\8000<((fun (_:Nat)=>x) i).size) (∃i,i<0/\¬BK ((fun _=>⟨#[]⟩) i)) 3 (fun i=>match i with | 0=>B3 W x | 1=>(Am W x).origin≠0 | _=>GO W x (Dt W x)) (fun i=>match i with | 0=>2 | 1=>5 | _=>3) r)
 (J:r=none->∃k p,Bl W x k/\Bl W (AC W (Am W x).origin).set p/\o=⟨Gu W x k p (Dt W x),(Am W x).origin,0,0⟩):F6 r o=DX W x:=by
 have z:(∃i,i<1/\8000<((fun (_:Nat)=>x) i).size)↔8000<x.size:=⟨fun ⟨_,_,h⟩=>h,fun h=>⟨0,by omega,h⟩⟩;have hF:Ak W->B3 W x->(Am W x).origin≠0->∃k,Bl W x k/\setK W x=k/\Am W x=W.A3 k/\Ba W (W.A3 k).origin/\AC W (W.A3 k).origin=W.A1 (EO W (W.A3 k).origin):=fun I n d=>by
  obtain⟨k,m⟩:=Kz n;rw[Kv m]at d ⊢;have a:=(I.AX.2.2.2.2.1 k m.1).2.2.2 d;exact⟨k,m,Jg m,rfl,a,CM (ME a)⟩
 unfold DX;rcases Su o h with⟨u,e⟩ | ⟨u,b,e⟩ | ⟨u,b,G,i,hi,v,q,e⟩ | ⟨u,b,G,v,K,e⟩
 ·rw[e,if_pos (z.1 u)]
 ·rw[e,if_neg fun g=>u (z.2 g),if_neg (b.resolve_right fun ⟨_,g,_⟩=>Nat.not_lt_zero _ g)]
 ·rw[e,if_neg fun g=>u (z.2 g),if_pos b]
  match i,hi with
  | 0,_=>rw[if_neg (show ¬B3 W x from v)];rfl
  | 1,_=>
   have n:B3 W x:=q 0 (by omega);obtain⟨k,m⟩:=Kz n;have c:(W.A3 k).origin=0:=by
    rw[<-Kv m];exact Classical.not_not.1 v
   rw[if_pos n,Jg m,if_pos c];rfl
  | 2,_=>
   have n:B3 W x:=q 0 (by omega);have d:(Am W x).origin≠0:=q 1 (by omega);have c:¬GO W x (Dt W x):=v;obtain⟨k,m,B,A,a,t⟩:=hF b n d;unfold Dt at c;rw[A]at d c;rw[V0 b,t]at c;rw[if_pos n,B,if_neg d];unfold Gm;rw[if_pos (Classical.not_not.1 c)];rfl
 ·obtain⟨k,p,m,l,rfl⟩:=J K;have n:B3 W x:=v 0 (by omega);have d:(Am W x).origin≠0:=v 1 (by omega);have w:GO W x (Dt W x):=v 2 (by omega);obtain⟨L,C,B,A,a,t⟩:=hF b n d;obtain rfl:k=L:=m.uniq C;rw[e];unfold Dt at w ⊢;rw[A]at d w l ⊢;rw[V0 b,t]at w;rw[if_neg fun g=>u (z.2 g),if_pos b,if_pos n,B,if_neg d];unfold Gm;rw[if_neg w];rw[t]at l ⊢;rw[Jg l];obtain⟨id,hi⟩:∃i,(W.A3 k).origin=i:=⟨_,rfl⟩;rw[hi]at w a t l d ⊢;obtain⟨st,y⟩:∃s,(W.A1 (EO W id)).set=s:=⟨_,rfl⟩;rw[y]at w l ⊢;have H:C6 W:=((GD W).2 b).AX;have D:¬((AC W id).id=0\/(AC W id).set≠st):=by
   have hs:=ME a;have:=b.AX.DG.pos _ hs.1;rw[t];exact fun g=>g.elim (fun g=>by omega) fun g=>g y
  have e0:((CL W st id).getD 0 Ap).id=id:=by
   rw[Ma H D,t];exact(ME a).2.1
  have E:orgTo (orgTo W.A3 k (W.A3 p).origin) p id=fun i=>if i=p then {W.A3 p with origin:=id}else if i=k then {W.A3 k with origin:=(W.A3 p).origin}else W.A3 i:=by
   funext i;unfold orgTo;by_cases g:i=p
   ·rw[if_pos g,if_pos g];by_cases g':p=k
    ·rw[if_pos g',<-g']
    ·rw[if_neg g']
   ·rw[if_neg g,if_neg g]
  have F:Db W x (CL W st id) W.pn=EL W x (DS W st id):=by
   funext j;unfold Db EL;by_cases g:DS W st id j
   ·have q:j<W.pn:=(by obtain⟨_,_,_,q,_⟩:=g;exact q.1);rw[if_pos g,if_pos ⟨q,(O8 b st id q).2 g⟩]
   ·rw[if_neg g,if_neg fun e=>g ((O8 b st id e.1).1 e.2)]
  unfold Gu Ed;rw[e0,E,F]
def qf:AE:=AU (fun q:A5×ByteArray=>[woT q.1,sT q.2]) (fun q=>Aw 1 q.1/\q.2.size<=8000) (fun q=>[wuZ (DX q.1 q.2)])
theorem Nl(W:A5)(x:ByteArray):qf [woT W,sT x]=some (Aw 1 W/\x.size<=8000,[wuZ (DX W x)]):=Ac (fun l=>(BW (nth l 0),C1 (nth l 1 0))) (fun _=>rfl) (W,x)
theorem zH5(l:Cr w p):Fk Tryz.prog 5 qf w:=by
 refine Mg ?_;rintro⟨W,x⟩ ⟨a,d⟩ g0 B q n;replace a:Aw 1 W:=a;replace d:x.size<=8000:=d;obtain⟨y,A,rfl,⟨z,rfl,c⟩,⟨T,h,m⟩⟩:=F3 n;cases h;have b:=a.bounds (by omega);obtain⟨s,t,u,v,rfl,k⟩:=QB (by omega) a c;rw[m.1];refine(zDD p s t u v 0 w.heap.size W x w l k a.wf b.1 b.2.1 b.2.2.1 b.2.2.2 (Nat.le_trans d (by decide)) (Nat.le_refl _)).mono ?_;rintro e w' ⟨r,o,i,j,g⟩;rw[zGS i j]at g;exact qS q g
abbrev nuZ(l:List Int):Bool×List Tr:=(false,[.s .z 1 l.length (Ay (zR l))])
theorem zHZ{b:Nat}{v:Value}(h:FK w b v n f){lo:Nat}(k:0<n->lo<=b/\b<w.heap.size):ED w lo w.heap.size v n f:=by
 obtain⟨m,a,c,rfl,l,p,-⟩:=h;refine⟨m,a,c,rfl,l,fun d=>?_⟩;obtain⟨o,j,hi⟩:=p d;obtain⟨e,g⟩:=k d;exact⟨b,o,j,e,g,fun i h=>(hi i h).1⟩
theorem zGH{l:List Int}(d:l.length<=maxLen)(k:∀b,∃r,g0 b = .fz r)(h:Kd l w e w'):∃v g,e = .returned v/\Kp w g0 w' g/\Gr w' g [nuZ l] v:=by
 obtain⟨v,rfl,j,a⟩:=h;obtain⟨b,i,c⟩:=j.own d;exact⟨_,_,rfl,Ni k a,_,⟨_,[],_,rfl,rfl,⟨_,_,rfl,⟨Sj VB (zHZ i c),YY⟩,rfl⟩,rfl⟩,rfl⟩
def qI:AE:=AU (fun q:A5×ByteArray=>[woT q.1,sT q.2]) (fun q=>Aw 1 q.1/\q.2.size<=8000) (fun q=>[iT (Iy q.1 q.2:Nat)])
theorem OI(W:A5)(x:ByteArray):qI [woT W,sT x]=some (Aw 1 W/\x.size<=8000,[iT (Iy W x:Nat)]):=Ac (fun l=>(BW (nth l 0),C1 (nth l 1 0))) (fun _=>rfl) (W,x)
theorem zGt:Ae Tryz.prog 17 qI:=fun w=>by
 refine Mg ?_;rintro⟨W,x⟩ ⟨a,b⟩ g0 p k j;replace a:Aw 1 W:=a;replace b:x.size<=8000:=b;obtain⟨y,o,rfl,d,⟨T,c,h⟩⟩:=F3 j;cases c;obtain⟨l,v1,m,n,rfl,g⟩:=R2 (by omega) a d;rw[h.1];refine(zCI l v1 m n 0 w.heap.size W x w g (Nat.le_refl _) a.wf (Nat.le_trans b (by decide))).mono ?_;rintro e w' ⟨rfl,i⟩;exact zH4 k i
def Tu:AE:=AU (fun q:A5×ByteArray=>[woT q.1,sT q.2]) (fun q=>Aw 1 q.1/\q.2.size<=8000) (fun q=>[nuZ (ID q.1 q.2)])
theorem OZ(W:A5)(x:ByteArray):Tu [woT W,sT x]=some (Aw 1 W/\x.size<=8000,[nuZ (ID W x)]):=Ac (fun l=>(BW (nth l 0),C1 (nth l 1 0))) (fun _=>rfl) (W,x)
theorem zEM:Ae Tryz.prog 16 Tu:=fun w=>by
 refine Mg ?_;rintro⟨W,x⟩ ⟨a,b⟩ g0 p k j;replace a:Aw 1 W:=a;replace b:x.size<=8000:=b;obtain⟨y,o,rfl,d,⟨T,c,i⟩⟩:=F3 j;cases c;obtain⟨l,v1,m,n,rfl,g⟩:=R2 (by omega) a d;rw[i.1];refine(zCb l v1 m n 0 w.heap.size W x w g (Nat.le_refl _) a.wf (Nat.le_trans b (by decide))).mono ?_;exact fun e w' h=>zGH (Nat.le_trans (zBi W x) (by decide)) k h
theorem zDS(W:A5)(x:ByteArray):(∃c,c≠0/\DX W x=BG c)\/∃k d q id a,(Ak W/\x.size<=8000)/\(Bl W x k/\Bl W a d)/\((W.A3 k).origin=id/\id≠0)/\(B5 W id q/\(W.A1 q).set=a)/\(¬∃j,DS W a id j/\Ji W x (W.A1 j).name)/\DX W x=⟨Ed W k d x a id,id,0,0⟩:=by
 unfold DX;split
 ·exact .inl ⟨2,by decide,rfl⟩
 rename_i o
 split
 ·rename_i b
  split
  ·rename_i n
   obtain⟨k,g⟩:=Kz n;rw[Jg g];split
   ·exact .inl ⟨7,by decide,rfl⟩
   ·rename_i i
    have e:=(b.AX.2.2.2.2.1 k g.1).2.2.2 i;have h:=ME e;obtain⟨q,eq⟩:∃q,EO W (W.A3 k).origin=q:=⟨_,rfl⟩;rw[eq]at h ⊢;unfold Gm;split
    ·exact .inl ⟨5,by decide,rfl⟩
    ·rename_i m
     obtain⟨d,l⟩:=Kz (b.AX.2.2.2.2.2 q h.1).1.2.2.2.2.2;rw[Jg l];exact .inr ⟨k,d,q,_,_,⟨b,by omega⟩,⟨g,l⟩,⟨rfl,i⟩,⟨h,rfl⟩,m,rfl⟩
  ·exact .inl ⟨4,by decide,rfl⟩
 ·exact .inl ⟨1,by decide,rfl⟩
section
variable {W : A5} {k d q : Nat} {id : Int} {x other : ByteArray}
theorem qU(g:Ak W)(b:Bl W x k)(c:(W.A3 k).origin=id)(h:B5 W id q)(eq:(W.A1 q).set=other):x≠other:=fun e=>by
 obtain⟨n,z,-,d,-,a⟩:=g.lines k b.1;rw[c]at a;subst a;exact d ⟨q,h,by rw[eq,b.2.1,e]⟩
theorem qT(b:x≠other)(l:Bl W x k)(i:Bl W other d):CQ W (Ed W k d x other id) k d x other id:=by
 have a:k≠d:=fun e=>b (by rw[<-l.2.1,<-i.2.1,e])
 exact⟨rfl,rfl,rfl,rfl,rfl,fun j h=>if_pos h,fun j h=>if_neg h,a,if_pos rfl,(if_neg a).trans (if_pos rfl),fun j c g=>(if_neg c).trans (if_neg g)⟩
variable {V : A5}
theorem CQ.mine(g:CQ W V k d x other id)(i:Ak W)(o:Bl W x k)(r:(W.A3 k).origin=id){z:Int}(hs:Steps W other id n z)(l:B5 W z j)(e:(V.A1 j).set=x):(W.A1 j).set=other:=by
 by_cases h:DS W other id j
 ·obtain⟨_,_,_,_,e⟩:=h;exact e
 ·rw[g.miss j h]at e;have a:=i.AX.DG;obtain⟨B,C,c,-,p,q⟩:=i.lines k o.1;rw[o.2.1]at c p;rw[r]at q;subst q;obtain⟨m,y,s,t,b⟩:=(Jj a c).1 p j l.1 e;have u:=LC a c t s;have v:=Ue a hs;have w:=l.2.1;have A:=b.2.1;omega
theorem CQ.back(g:CQ W V k d x other id)(c:Ak W)(i:Bl W x k)(b:(W.A3 k).origin=id){z:Int}(hs:Steps V x id n z):Steps W other id n z:=by
 induction hs with
 | zero=>exact .zero
 | next h hj e ih=>
  rw[g.DG];have a:=(g.no _ _).1 hj;exact .next ih a (g.mine c i b ih a e)
theorem CQ.metL(g:CQ W V k d x other id)(i:Ak W)(l:Bl W x k)(h:(W.A3 k).origin=id)(j:Nat):DS V x id j↔DS W other id j:=by
 constructor
 ·rintro⟨m,y,hs,a,e⟩;have c:=g.back i l h hs;have b:=(g.no _ _).1 a;exact⟨m,y,c,b,g.mine i l h c b e⟩
 ·rintro⟨m,y,hs,a,e⟩;exact⟨m,y,g.step hs fun m y j _ hs a e=>by rw[g.hit j ⟨m,y,hs,a,e⟩],(g.no _ _).2 a,by rw[g.hit j ⟨m,y,hs,a,e⟩]⟩
theorem zDU(n:Ak W)(l:Bl W x k)(o:Bl W other d)(s:(W.A3 k).origin=id)(Q:id≠0)(D:B5 W id q)(eq:(W.A1 q).set=other)(S:¬∃j,DS W other id j/\Ji W x (W.A1 j).name) :
 Ak (Ed W k d x other id)/\other.size<=8000/\(DA (Ed W k d x other id) id).set=x/\(Cf (Ed W k d x other id) other).origin=id/\DX (Ed W k d x other id) other=⟨W,id,0,0⟩:=by
 have w:=qU n l s D eq;have g:=qT (id:=id) w l o;have t:=g.spec n l.1 o.1 l.2.1 o.2.1 s D eq S;have R:other.size<=8000:=by
  have:=(n.AX.2.2.2.2.1 d o.1).1.2.1;rw[o.2.1]at this;omega
 obtain⟨V,K⟩:∃V,Ed W k d x other id=V:=⟨_,rfl⟩;rw[K]at g t ⊢;have a:∀i,(V.A3 i).name=(W.A3 i).name:=fun i=>by rw[g.set i]
 have z:=g.sn;have H:Bl V x k:=⟨by rw[z];exact l.1,by rw[a];exact l.2.1,fun j u=>by rw[a];exact l.2.2 j u⟩;have b:Bl V other d:=⟨by rw[z];exact o.1,by rw[a];exact o.2.1,fun j u=>by rw[a];exact o.2.2 j u⟩;have c:B5 V id q:=(g.no id q).2 D;have J:DS W other id q:=⟨0,id,.zero,D,eq⟩;have y:(V.A1 q).set=x:=by rw[g.hit q J]
 have L:(Cf V other).origin=id:=by rw[<-b.2.1,Nf t b.1,g.setD]
 have M:(DA V id).set=x:=by rw[<-c.2.1,QS t c.1];exact y
 refine⟨t,R,M,L,?_⟩;have N:EO V id=q:=(ME ⟨q,c.1,c.2.1⟩).uniq c;have I:¬∃j,DS V x id j/\Ji V other (V.A1 j).name:=by
  rintro⟨j,p,i,hi,A,E⟩;have m:=(g.metL n l s j).1 p;have F:i<W.pn:=(by rw[<-g.pn];exact hi);have v:(W.A1 j).set=other:=(by obtain⟨_,_,_,_,e⟩:=m;exact e);have G:j<W.pn:=(by obtain⟨_,_,_,u,_⟩:=m;exact u.1);by_cases r:DS W other id i
  ·rw[g.hit i r]at A;exact w A
  ·rw[g.miss i r]at A E;rw[g.hit j m]at E;rcases Nat.lt_trichotomy i j with h | h | h
   ·exact(n.AX.2.2.2.2.2 j G).2.2 i h ⟨A.trans v.symm,E⟩
   ·exact r (h▸m)
   ·exact(n.AX.2.2.2.2.2 i F).2.2 j h ⟨v.trans A.symm,E.symm⟩
 unfold DX;rw[if_neg (by omega),if_pos t,if_pos ⟨d,b.1,b.2.1⟩,Jg b,g.setD,if_neg Q,N,y];unfold Gm;rw[if_neg I,Jg H];have O:EL V other (DS V x id)=W.A1:=by
  funext j;unfold EL;by_cases p:DS W other id j
  ·rw[if_pos ((g.metL n l s j).2 p),g.hit j p];obtain⟨_,_,_,_,e⟩:=p;rw[<-e]
  ·rw[if_neg fun h=>p ((g.metL n l s j).1 h),g.miss j p]
 have P:(fun i=>if i=k then {V.A3 k with origin:=id}else if i=d then {V.A3 d with origin:=(V.A3 k).origin}else V.A3 i)=W.A3:=by
  funext i;by_cases B:i=k
  ·rw[if_pos B,g.setK,B,<-s]
  ·rw[if_neg B];by_cases C:i=d
   ·rw[if_pos C,g.setD,g.setK,C]
   ·rw[if_neg C,g.rest i C B]
 unfold Ed;rw[O,P,<-K];rfl
end
theorem zDT(e:DX W x=o):(o.code≠0/\GH o o)\/(o.code=0/\GH o o/\Ak W/\(Ak o.world/\JV W o.world ByteArray.empty 0)/\∃a,(DA W (Cf W x).origin).set=a/\a.size<=8000/\(DA o.world o.id).set=x/\(Cf o.world a).origin=o.id/\DX o.world a=⟨W,o.id,0,0⟩):=by
 have F:Aw 1 o.world:=e▸(Qe W x).up;rcases zDS W x with⟨c,u,h⟩ | ⟨k,d,q,id,a,⟨j,I⟩,⟨l,v⟩,⟨p,E⟩,⟨n,eq⟩,G,h⟩
 ·rw[h]at e;subst e;exact .inl ⟨u,T8 u⟩
 rw[h]at e;obtain⟨r,w,y,A,B⟩:=zDU j l v p E n eq G;have g:=qT (id:=id) (qU j l p n eq) l v;have C:Cf W x=W.A3 k:=by rw[<-l.2.1,Nf j l.1]
 have D:DA W id=W.A1 q:=by rw[<-n.2.1,QS j n.1]
 subst e;have b:∀m,m<memN W->KT W.pool (Ed W k d x a id).pool (AB W m).rs (AB W m).rb:=fun m H=>⟨rfl,fun z J=>⟨rfl,(Fs j.right (qM j H) J).2.2⟩⟩
 refine .inr ⟨rfl,Uh rfl r F,j,⟨r,TU r (fun i hi _=>?_) fun i hi _=>?_⟩,a,by rw[C,p,D,eq],w,y,A,B⟩
 ·have t:=b (W.pn+i) (by unfold memN;omega);rw[DN]at t;have s:=g.set i;exact⟨⟨i,hi,by rw[s],by rw[s],by rw[s]⟩,t⟩
 ·have t:=b i (by unfold memN;omega);rw[CU hi]at t;have s:=g.snap i;exact⟨⟨i,hi,by rw[s],by rw[s],by rw[s]⟩,t⟩
theorem Ut(a:Ak V)(b:B3 V x)(c:x.size<=8000)(e:Cf V x=E3 x 0 0 0 0):ID V x = []/\Iy V x=0:=by
 have d:Am V x=E3 x 0 0 0 0:=by
  rw[(zEe b).2,<-e];exact(if_pos ⟨c,b,a⟩).symm
 rw[Rj a,Yf a,d];refine⟨Ys V.pool 0 0 64,?_⟩;show(AF V.pool 0 0).length=0;rw[zAE];rfl
end
end Go.Proofs.YtibhefllijahkaaGreatDoor
