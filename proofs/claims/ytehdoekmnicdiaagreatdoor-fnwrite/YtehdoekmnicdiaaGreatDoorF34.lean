/- A part of the proof. -/
import Derived.Test.YtehdoekmnicdiaaGreatDoorF33
import Derived.Test.YtehdoekmnicdiaaGreatDoorF27
set_option linter.unusedVariables false
set_option maxRecDepth 20000
set_option maxHeartbeats 4000000
namespace Go.Proofs.YtehdoekmnicdiaaGreatDoor
noncomputable section
open Go.RowKit
variable{w:World}
theorem Ra{P:Program}{f:Nat}{ι : Type}{A:ι->List (Bool×List Tr)}{C:ι->Prop}{R:ι->List (Bool×List Tr)}
 (h:∀x,C x->∀(g0:Nat->Bs) (ys:List Value),(∀b,∃r,g0 b = .fz r)->AP (FE w g0) (A x) ys->Calls P f ys.toArray w fun e w'=>∃v g,e = .returned v/\Kp w g0 w' g/\JE w' g (R x) v):Fe P f (AU A C R) w:=by
 intro l c rs a i g0 ys k j;unfold AU at a;split at a
 ·rename_i d
  cases a;exact h d.choose i g0 ys k (by rw[d.choose_spec];exact j)
 ·cases a
def SL(w:World)(g:Nat->Bs):Nat->Bs:=fun b=>if b<w.heap.size then g b else .fz none
variable{w':World}{g:Nat->Bs}
theorem V0(e:∀b,∃r,g b = .fz r)(h:Below w.heap.size w w'):Kp w g w' (SL w g):=
 ⟨h.os,h.tape,h.output,h.size,fun b r a c=>⟨h.block b c,by unfold SL;rw[if_pos c];exact a⟩,fun b o f a=>by obtain⟨r,d⟩:=e b;rw[d]at a;cases a⟩
theorem zF3:IP w' (SL w g) w.heap.size:=fun b h _=>if_neg (by omega)
variable{c:Nat}{W:A4}
theorem BG.wf(h:BG c W):G7 W:=fun i hi=>by
 have a:0<=(A8 W i).A6/\(A8 W i).A6<=1000000:=by
  by_cases hs:i<W.pn
  ·rw[Co hs];exact(h.A2 i hs).A6
  ·obtain⟨k,rfl⟩:∃k,i=W.pn+k:=⟨i - W.pn,by omega⟩;rw[Cp];exact(h.A1 k (by unfold memN at hi;omega)).A6
 show(decide (IntKind.min .i64<=_) && decide (_<=IntKind.max .i64))=true;simp[IntKind.min,IntKind.max,IntKind.signed,IntKind.bits];omega
theorem BG.bounds(h:BG c W)(e:c<=10):An W.pool<=1048576/\W.sn<=1048576/\W.pn<=1048576/\JX W:=by
 have a:=h.pool;have b:=h.sn;have d:=h.pn;exact⟨by omega,by omega,by omega,fun i hi=>by have:=(h.A1 i hi).dn;omega,fun i hi=>by have:=(h.A2 i hi).dn;omega⟩
variable{i:Nat}
theorem BG.slot(h:BG c W)(g:c<=10)(hi:i<W.pool.n):(W.pool.s i).kn<=maxLen/\(W.pool.s i).data.size<=maxLen:=by
 have a:=h.pool;have b:=QP (f:=W.pool.s) hi;have d:D9 W.pool.s W.pool.n<=An W.pool:=by unfold An;omega
 have e:Cf (W.pool.s i)=(W.pool.s i).kn+(W.pool.s i).data.size:=rfl;unfold maxLen;omega
theorem BG.at(h:BG c W)(a:c<=10){u0 u1 u4 u5:Value}(d:Sh w g (.s .b 3 W.pool.n (Aw .b W.pool.s)) u0)(e:Sh w g (.s .b 1 W.pool.hn (BF W.pool.h)) u1)(f:Sh w g (.s .b 6 W.sn (setsE .b W.A1)) u4)(j:Sh w g (.s .b 8 W.pn (snapsE .b W.A2)) u5):CE w 0 w.heap.size u0 u1 u4 u5 W:=by
 have b:=h.bounds a;have l:W.pool.n<=An W.pool:=by unfold An;omega
 have m:W.pool.hn<=An W.pool:=Nat.le_add_left ..;have k:1048576<=maxLen:=by decide
 exact⟨⟨zEQ d (by omega) (fun i hi=>h.slot a hi),zGY e (by omega)⟩,zGZ f (by omega) (fun i hi=>by have g:=h.A1 i hi;have:=g.dn;have:=g.name;exact⟨by omega,by omega⟩),zER j (by omega) (fun i hi=>by have g:=h.A2 i hi;have:=g.dn;have:=g.name;have:=g.set;exact⟨by omega,by omega,by omega⟩)⟩
variable{n:Nat}{h:Nat->Int}
theorem zB8:(Tr.s .z 1 n (BF h)).kept:=⟨by simp,fun _ _ _ _=>trivial⟩
theorem RR{f:Nat->Int}:(Tr.s .z 2 n (ptrsT f h)).kept:=⟨by simp,fun p q _ _=>by unfold ptrsT;split<;>trivial⟩
theorem zBl{s:Nat->AG}:(Tr.s .z 3 n (Aw .z s)).kept:=⟨by simp,fun i j _ a=>by
 match j,a with
 | 0,_ | 2,_=>trivial
 | 1,_=>exact RR⟩
theorem zB9{s:Nat->Ad}:(Tr.s .z 6 n (setsE .z s)).kept:=⟨by simp,fun i j _ a=>by
 match j,a with
 | 0,_ | 1,_ | 2,_ | 3,_ | 4,_=>trivial
 | 5,_=>exact RR⟩
theorem zBm{s:Nat->Ae}:(Tr.s .z 8 n (snapsE .z s)).kept:=⟨by simp,fun i j _ a=>by
 match j,a with
 | 0,_ | 1,_ | 2,_ | 3,_ | 4,_ | 5,_ | 6,_=>trivial
 | 7,_=>exact RR⟩
variable{α β:Type}
theorem zHl{R:α->β->Prop}{x0 x1 x2 x3 x4 x5:α}{ys:List β}(h:AP R [x0,x1,x2,x3,x4,x5] ys):∃c d e f a b,ys = [c,d,e,f,a,b]/\R x0 c/\R x1 d/\R x2 e/\R x3 f/\R x4 a/\R x5 b:=by
 cases h with
 | cons a0 h=>cases h with
  | cons a1 h=>cases h with
   | cons a2 h=>cases h with
    | cons a3 h=>
     obtain⟨a,b,rfl,g,i⟩:=G9 h;exact⟨_,_,_,_,a,b,rfl,a0,a1,a2,a3,g,i⟩
theorem QE{cs:List Value}(n:c<=10)(m:BG c W)(h:AP (Sh w g) (woT W).2 cs):∃a v1 b d,cs = [a,v1,.int .i64 W.time,.int .i64 W.next,b,d]/\CE w 0 w.heap.size a v1 b d W:=by
 obtain⟨o,p,s,t,q,r,rfl,e,f,i,j,k,l⟩:=zHl h;exact⟨o,p,q,r,by rw[i.1,j.1],m.at n e f k l⟩
abbrev wuZ(o:Bk):Bool×List Tr:=(true,[.s .z 3 o.world.pool.n (Aw .z o.world.pool.s),.s .z 1 o.world.pool.hn (BF o.world.pool.h),.v (.int .i64 o.world.time),.v (.int .i64 o.world.next),.s .z 6 o.world.sn (setsE .z o.world.A1),.s .z 8 o.world.pn (snapsE .z o.world.A2),.v (.int .i64 o.id),.v (.int .i64 o.many),.v (.int .i64 o.code)])
abbrev wuL(o:Bk):Bool×List Tr:=(true,[.s .b 3 o.world.pool.n (Aw .b o.world.pool.s),.s .b 1 o.world.pool.hn (BF o.world.pool.h),.v (.int .i64 o.world.time),.v (.int .i64 o.world.next),.s .b 6 o.world.sn (setsE .b o.world.A1),.s .b 8 o.world.pn (snapsE .b o.world.A2),.v (.int .i64 o.id),.v (.int .i64 o.many),.v (.int .i64 o.code)])
def qo(f:Nat->Tr):Bk:=⟨C3 f,AQ (f 6),AQ (f 7),AQ (f 8)⟩
variable{o:Bk}{g0:Nat->Bs}
theorem qe(f:∀b,∃r,g0 b = .fz r){e:Ending}(h:Iw o w e w'):∃v g,e = .returned v/\Kp w g0 w' g/\JE w' g [wuZ o] v:=by
 obtain⟨i,v1,j,k,rfl,d,c⟩:=h;have hs:=d.at;have a:=zF3 (w:=w) (w':=w') (g:=g0);refine⟨_,_,rfl,V0 f c,_,⟨_,[],_,rfl,rfl,?_,rfl⟩,rfl⟩;exact⟨_,_,rfl,⟨zFV a hs.pool.1,zBl⟩,_,_,rfl,⟨zH2 a hs.pool.2,zB8⟩,_,_,rfl,⟨rfl,rfl⟩,_,_,rfl,⟨rfl,rfl⟩,_,_,rfl,⟨zH3 a hs.A1,zB9⟩,_,_,rfl,⟨zFW a hs.A2,zBm⟩,_,_,rfl,⟨rfl,rfl⟩,_,_,rfl,⟨rfl,rfl⟩,_,_,rfl,⟨rfl,rfl⟩,rfl⟩
variable{r:Option Nat}
theorem Tj{a b:Prop}{m:Nat}{Q:Nat->Prop}{ei:Nat->Nat}(o:Bk)(h:FG W a b m Q ei r) :
 (a/\Et r o=BQ 2)\/(¬a/\(¬BE W\/b)/\Et r o=BQ 1)\/(¬a/\BE W/\¬b/\∃i,i<m/\¬Q i/\(∀j,j<i->Q j)/\Et r o=BQ (CZ (ei i)))\/(¬a/\BE W/\¬b/\(∀j,j<m->Q j)/\r=none/\Et r o=o):=by
 unfold FG at h;rw[OB]at h;rcases h with⟨h,rfl⟩ | ⟨c,d,rfl⟩ | ⟨c,d,e,i,f,g,k,rfl⟩ | ⟨c,d,e,f,rfl⟩
 ·exact .inl ⟨h,rfl⟩
 ·exact .inr (.inl ⟨c,d,rfl⟩)
 ·exact .inr (.inr (.inl ⟨c,d,e,i,f,g,k,rfl⟩))
 ·exact .inr (.inr (.inr ⟨c,d,e,f,rfl,rfl⟩))
variable{x:ByteArray}{k:Nat}
theorem Pa(h:GS W x k):B9 W x=k:=by
 show(BO W.sn fun k=>(W.A1 k).name=x).toNat=k;rw[I8 (P:=fun k=>(W.A1 k).name=x) h.1 h.2.1 h.2.2,Int.toNat_natCast]
theorem Ss(h:GS W x k):BP W x:=⟨k,h.1,h.2.1⟩
theorem YG{R:α->β->Prop}{x0 x1 x2:α}{ys:List β}(h:AP R [x0,x1,x2] ys):∃c a b,ys = [c,a,b]/\R x0 c/\R x1 a/\R x2 b:=by
 cases h with
 | cons a0 h=>
  obtain⟨a,b,rfl,d,e⟩:=G9 h;exact⟨_,a,b,rfl,a0,d,e⟩
theorem zt{R:α->β->Prop}{x0 x1 x2 x3:α}{ys:List β}(h:AP R [x0,x1,x2,x3] ys):∃d a b c,ys = [d,a,b,c]/\R x0 d/\R x1 a/\R x2 b/\R x3 c:=by
 cases h with
 | cons a0 h=>
  obtain⟨a,b,c,rfl,e,f,g⟩:=YG h;exact⟨_,a,b,c,rfl,a0,e,f,g⟩
theorem wf_i64{x:Int}(h:-1000000000000000000<=x)(a:x<=1000000000000000000):(Lit.int .i64 x).wf=true:=by
 show(decide (IntKind.min .i64<=_) && decide (_<=IntKind.max .i64))=true;simp[IntKind.min,IntKind.max,IntKind.signed,IntKind.bits];omega
theorem zDS{y:Value}(j:c<=10)(i:BG c W)(h:FE w g (woT W) y):∃b v1 d e,y=Cn b v1 d e W/\CE w 0 w.heap.size b v1 d e W:=by
 obtain⟨o,rfl,a⟩:=h;obtain⟨k,l,m,n,rfl,f⟩:=QE j i a;exact⟨k,l,m,n,rfl,f⟩
theorem zFd{p:Prop}{e:Ending}(d:∀b,∃r,g0 b = .fz r)(h:AL p e)(c:Below w.heap.size w w'):∃v g,e = .returned v/\Kp w g0 w' g/\JE w' g (bR p) v:=by
 obtain⟨b,rfl,a⟩:=h;refine⟨_,_,rfl,V0 d c,_,⟨_,[],_,rfl,rfl,⟨_,_,rfl,⟨?_,rfl⟩,rfl⟩,rfl⟩,rfl⟩;by_cases h:p
 ·rw[FJ.2 h,a.2 h]
 ·rw[PF.2 h,Bool.eq_false_iff.2 fun e=>h (a.1 e)]
def zX:AJ:=AU (fun W:A4=>[woT W]) (fun W=>BG 1 W) (fun W=>bR (BE W))
theorem TF(W:A4):zX [woT W]=some (BG 1 W,bR (BE W)):=Af (fun l=>C3 (nth l 0)) (fun _=>rfl) W
theorem zII:Am Tryz.prog 30 zX:=fun w=>by
 refine Ra ?_;rintro W a g0 ys h g;replace a:BG 1 W:=a;obtain⟨y,rfl,c⟩:=Fh g;obtain⟨i,v1,j,k,rfl,d⟩:=zDS (by omega) a c;refine(Zc i v1 j k 0 w.heap.size W w d a.wf).mono ?_;rintro e w' ⟨b,f⟩;rw[OB]at b;exact zFd h b f
variable{d:ByteArray}{AA:Int}
theorem zAd(h:FG W (∃i,i<2/\8000<((fun i=>match i with | 0=>x | _=>d) i).size) (∃i,i<0/\¬Bp ((fun _=>⟨#[]⟩) i)) 1 (fun i=>match i with | _=>BP W x) (fun i=>match i with | _=>2) r)
 (m:r=none->∃k,GS W x k/\o=Cm W k (CA W.pool (W.A1 k).rs (W.A1 k).rb AA d W.time)):Et r o=EU W x AA d:=by
 have c:(∃i,i<2/\8000<((fun i=>match i with | 0=>x | _=>d:Nat->ByteArray) i).size)↔8000<x.size\/8000<d.size:=by
  constructor
  ·rintro⟨i,hi,g⟩
   match i,hi with
   | 0,_=>exact .inl g
   | 1,_=>exact .inr g
  ·rintro(g | g)
   ·exact⟨0,by omega,g⟩
   ·exact⟨1,by omega,g⟩
 unfold EU;rcases Tj o h with⟨a,e⟩ | ⟨a,b,e⟩ | ⟨a,b,l,i,hi,j,p,e⟩ | ⟨a,b,l,j,n,e⟩
 ·rw[e,if_pos (c.1 a)]
 ·rw[e,if_neg fun g=>a (c.2 g),if_neg (b.resolve_right fun ⟨_,g,_⟩=>Nat.not_lt_zero _ g)]
 ·rw[e,if_neg fun g=>a (c.2 g),if_pos b,if_neg (show ¬BP W x from j)];rfl
 ·obtain⟨k,f,rfl⟩:=m n;rw[e,if_neg fun g=>a (c.2 g),if_pos b,if_pos (Ss f),Pa f]
theorem zEF(h:FG W (∃i,i<1/\8000<((fun (_:Nat)=>x) i).size) (∃i,i<0/\¬Bp ((fun _=>⟨#[]⟩) i)) 1 (fun i=>match i with | _=>BP W x) (fun i=>match i with | _=>2) r)
 (l:r=none->∃k,GS W x k/\o=Cm W k (CV W.pool (W.A1 k).rs (W.A1 k).rb AA W.time)):Et r o=EP W x AA:=by
 have c:(∃i,i<1/\8000<((fun (_:Nat)=>x) i).size)↔8000<x.size:=⟨fun ⟨_,_,h⟩=>h,fun h=>⟨0,by omega,h⟩⟩;unfold EP;rcases Tj o h with⟨a,e⟩ | ⟨a,b,e⟩ | ⟨a,b,j,i,hi,f,n,e⟩ | ⟨a,b,j,f,m,e⟩
 ·rw[e,if_pos (c.1 a)]
 ·rw[e,if_neg fun g=>a (c.2 g),if_neg (b.resolve_right fun ⟨_,g,_⟩=>Nat.not_lt_zero _ g)]
 ·rw[e,if_neg fun g=>a (c.2 g),if_pos b,if_neg (show ¬BP W x from f)];rfl
 ·obtain⟨k,d,rfl⟩:=l m;rw[e,if_neg fun g=>a (c.2 g),if_pos b,if_pos (Ss d),Pa d]
def TG:AJ:=AU (fun q:(A4×ByteArray)×Int×ByteArray=>[woT q.1.1,sT q.1.2,iT q.2.1,sT q.2.2]) (fun q=>(BG 1 q.1.1/\q.1.2.size<=8000)/\(Lit.int .i64 q.2.1).wf=true/\q.2.2.size<=100000) (fun q=>[wuZ (EU q.1.1 q.1.2 q.2.1 q.2.2)])
theorem Oa(W:A4)(x:ByteArray)(n:Int)(d:ByteArray):TG [woT W,sT x,iT n,sT d]=some ((BG 1 W/\x.size<=8000)/\(Lit.int .i64 n).wf=true/\d.size<=100000,[wuZ (EU W x n d)]):=Af (fun l=>((C3 (nth l 0),CK (nth l 1 0)),AQ (nth l 2 0),CK (nth l 3 0))) (fun _=>rfl) ((W,x),n,d)
variable{p:Nat->Addr}
theorem zDT(s:DC w p):Fe Tryz.prog 5 TG w:=by
 refine Ra ?_;rintro⟨⟨W,x⟩,n,d⟩ ⟨⟨a,g⟩,hn,c⟩ g0 ys z y;replace a:BG 1 W:=a;replace g:x.size<=8000:=g;replace c:d.size<=100000:=c;obtain⟨F,G,H,I,rfl,⟨E,rfl,f⟩,⟨T,i,t⟩,⟨U,j,u⟩,⟨V,k,v⟩⟩:=zt y;cases i;cases j;cases k;have b:=a.bounds (by omega);obtain⟨A,B,C,D,rfl,q⟩:=QE (by omega) a f;rw[t.1,u.1,v.1];refine(zDM p A B C D 0 w.heap.size W x n d w s q a.wf b.1 b.2.1 b.2.2.1 b.2.2.2 (Nat.le_trans g (by decide)) hn (Nat.le_trans c (by decide))).mono ?_;rintro e w' ⟨r,o,l,m,h⟩;rw[zAd l m]at h;exact qe z h
def qP:AJ:=AU (fun q:(A4×ByteArray)×Int=>[woT q.1.1,sT q.1.2,iT q.2]) (fun q=>(BG 1 q.1.1/\q.1.2.size<=8000)/\(Lit.int .i64 q.2).wf=true) (fun q=>[wuZ (EP q.1.1 q.1.2 q.2)])
theorem OL(W:A4)(x:ByteArray)(n:Int):qP [woT W,sT x,iT n]=some ((BG 1 W/\x.size<=8000)/\(Lit.int .i64 n).wf=true,[wuZ (EP W x n)]):=Af (fun l=>((C3 (nth l 0),CK (nth l 1 0)),AQ (nth l 2 0))) (fun _=>rfl) ((W,x),n)
theorem zGE(l:DC w p):Fe Tryz.prog 13 qP w:=by
 refine Ra ?_;rintro⟨⟨W,x⟩,n⟩ ⟨⟨a,d⟩,hn⟩ g0 ys t s;replace a:BG 1 W:=a;replace d:x.size<=8000:=d;obtain⟨B,C,D,rfl,⟨A,rfl,c⟩,⟨T,g,m⟩,⟨U,h,q⟩⟩:=YG s;cases g;cases h;have b:=a.bounds (by omega);obtain⟨u,v,y,z,rfl,k⟩:=QE (by omega) a c;rw[m.1,q.1];refine(zDG p u v y z 0 w.heap.size W x n w l k a.wf b.1 b.2.1 b.2.2.1 b.2.2.2 (Nat.le_trans d (by decide)) hn).mono ?_;rintro e w' ⟨r,o,i,j,f⟩;rw[zEF i j]at f;exact qe t f
set_option linter.unusedSimpArgs false
set_option maxRecDepth 20000
set_option maxHeartbeats 3200000
attribute [-go_sem] Bz
abbrev seO(s:Ad):Bool×List Tr:=(true,[.v (.string s.name),.v (.int .i64 s.origin),.v (.int .i64 s.A6),.v (.int .i64 s.rs),.v (.int .i64 s.rb),.s .o 2 s.dn (ptrsT s.ds s.db)])
abbrev snO(s:Ae):Bool×List Tr:=(true,[.v (.int .i64 s.id),.v (.string s.name),.v (.string s.set),.v (.int .i64 s.A6),.v (.int .i64 s.time),.v (.int .i64 s.rs),.v (.int .i64 s.rb),.s .o 2 s.dn (ptrsT s.ds s.db)])
open Classical in
def C4(W:A4)(x:ByteArray):Ad:=if x.size<=8000/\BP W x/\BE W then W.A1 (BO W.sn fun k=>(W.A1 k).name=x).toNat else Ua
open Classical in
def Ey(W:A4)(x:Int):Ae:=if CT W x/\BE W then W.A2 (BO W.pn fun k=>(W.A2 k).id=x).toNat else DH
def qM:AJ:=AU (fun q:A4×ByteArray=>[woT q.1,sT q.2]) (fun q=>SmallW q.1) (fun q=>[seO (C4 q.1 q.2)])
theorem I4(W:A4)(x:ByteArray):qM [woT W,sT x]=some (SmallW W,[seO (C4 W x)]):=Af (fun l=>(C3 (nth l 0),CK (nth l 1 0))) (fun _=>rfl) (W,x)
theorem VK:Am Tryz.prog 8 qM:=by
 refine Az Al (GOk.cons I3 (AB Tryz.func32 rfl rfl) (GOk.cons Fo (AB Tryz.func29 rfl rfl) GOk.nil)) Ak Tryz.func8 rfl Tryz.ntmps8 Tryz.results8 7 ?_;rintro⟨W,x⟩ a;replace a:SmallW W:=a;refine⟨by simp,?_⟩;simp[go_sem,Cb,CH,a,a.sn,E4,Ci,HJ,GX,Ks];refine⟨fun h=>?_,fun l b f=>?_⟩
 ·rw[show C4 W x=Ua from if_neg fun e=>h.elim (fun h=>h.elim (fun h=>by have:=e.1;omega) (fun h=>h e.2.1)) (fun h=>h e.2.2)];exact⟨rfl,rfl,rfl,rfl,rfl,rfl⟩
 ·rw[show C4 W x=_ from if_pos ⟨by omega,b,f⟩];obtain⟨k,c,i,j,d⟩ | ⟨-,g⟩:=I0 W.sn fun k=>(W.A1 k).name=x
  ·have m:=a.sd k c;rw[d,Int.toNat_natCast];exact⟨⟨b,by omega⟩,by omega,rfl,rfl,rfl,rfl,rfl,TrE.refl _⟩
  ·have:=Ci.2 b;omega
def TD:AJ:=AU (fun q:A4×Int=>[woT q.1,iT q.2]) (fun q=>SmallW q.1) (fun q=>[snO (Ey q.1 q.2)])
theorem zBO(W:A4)(x:Int):TD [woT W,iT x]=some (SmallW W,[snO (Ey W x)]):=Af (fun l=>(C3 (nth l 0),AQ (nth l 1 0))) (fun _=>rfl) (W,x)
theorem zp:Am Tryz.prog 35 TD:=by
 refine Az Al (GOk.cons J7 (AB Tryz.func94 rfl rfl) (GOk.cons Fo (AB Tryz.func29 rfl rfl) GOk.nil)) Ak Tryz.func35 rfl Tryz.ntmps35 Tryz.results35 7 ?_;rintro⟨W,x⟩ a;replace a:SmallW W:=a;refine⟨by simp,?_⟩;simp[go_sem,Ep,CH,a,a.pn,JQ,Gr,HJ,GX,Ks];refine⟨fun h=>?_,fun b f=>?_⟩
 ·rw[show Ey W x=DH from if_neg fun e=>h.elim (fun h=>h e.1) (fun h=>h e.2)];exact⟨rfl,rfl,rfl,rfl,rfl,rfl,rfl,rfl⟩
 ·rw[show Ey W x=_ from if_pos ⟨b,f⟩];obtain⟨k,c,i,j,d⟩ | ⟨-,g⟩:=I0 W.pn fun k=>(W.A2 k).id=x
  ·have l:=a.pd k c;rw[d,Int.toNat_natCast];exact⟨⟨b,by omega⟩,by omega,rfl,rfl,rfl,rfl,rfl,rfl,rfl,TrE.refl _⟩
  ·have:=Gr.2 b;omega
set_option maxRecDepth 20000
set_option maxHeartbeats 3200000
attribute [go_sem] Bz
attribute [-go_sem] Bz
def T3:AJ:=AU (fun q:A5×Int×Int×Nat=>[poT q.1.n q.1.s q.1.hn q.1.h,pT q.2.1 q.2.2.1,iT (q.2.2.2:Int)]) (fun q=>Ai q.1 q.2.1 q.2.2.1/\q.2.2.2<64) (fun q=>[(false,[.v (.string (lwD q.1 q.2.1 q.2.2.1 q.2.2.2))])])
theorem MS(p:A5)(a b:Int)(k:Nat):T3 [poT p.n p.s p.hn p.h,pT a b,iT (k:Int)]=some (Ai p a b/\k<64,[(false,[.v (.string (lwD p a b k))])]):=Af (fun l=>(Cs (nth l 0 0) (nth l 0 1),AQ (nth l 1 0),AQ (nth l 1 1),(AQ (nth l 2 0)).toNat)) (fun _=>rfl) (p,a,b,k)
theorem zI3{p:A5}{a b:Int}(h:B5 p a b):b≠0/\0<=a/\a<p.n:=⟨by have:=h.1;omega,h.2.1,h.2.2.1⟩
theorem Vv:Am Tryz.prog 10 T3:=by
 refine Az Al GOk.nil Ak Tryz.func10 rfl Tryz.ntmps10 Tryz.results10 9 ?_;rintro⟨p,a,b,k⟩ ⟨m,v⟩;replace m:Ai p a b:=m;replace v:k<64:=v;refine⟨by simp,?_⟩;by_cases j:Nil a b
 ·obtain⟨rfl,rfl⟩:=id j;simp[go_sem,QX j]
 obtain⟨l,n,-⟩:=m.2.resolve_left j;have i:=KY m.1 l;obtain⟨z,A,B⟩:=zI3 l.1;have d:(k / 8:Nat)<8:=by omega
 have q1:BW p a b k=(p.s a.toNat).ks (k / 8):=(if_neg j).trans (F8 i d);have y:Bf p a b k=(p.s a.toNat).kb (k / 8):=(if_neg j).trans (F7 i d);have o:=n.1 (k / 8) d;unfold JT at o;rw[F8 i d,F7 i d]at o;simp[go_sem,NA v,Mn,z,A,B,i];rw[show((k:Int) / 8).toNat=k / 8 by omega,show((k:Int) % 8).toNat=k % 8 by omega];refine⟨by omega,fun h=>?_,fun h=>?_⟩
 ·have w:=o.resolve_right fun g=>by have:=g.1.1.1;omega
  exact(QW (by rw[q1,y];exact w)).symm
 obtain⟨r,C⟩:=o.resolve_left fun e=>h e.2
 have c:=KY m.1 r;have f:k % 8<8:=by omega
 have u:=C.1 (k % 8) f;rw[F8 c f,F7 c f]at u;have hn:¬Nil (BW p a b k) (Bf p a b k):=by rw[q1,y];exact fun e=>h e.2
 have q:BS p a b k=(p.s ((p.s a.toNat).ks (k / 8)).toNat).ks (k % 8):=(if_neg hn).trans (by rw[q1];exact F8 c f);have x:BY p a b k=(p.s ((p.s a.toNat).ks (k / 8)).toNat).kb (k % 8):=(if_neg hn).trans (by rw[q1];exact F7 c f);refine⟨⟨r.1.2.1,r.1.2.2.1⟩,⟨by omega,by rw[c];omega⟩,fun t=>?_,fun t=>?_⟩
 ·have w:=u.resolve_right fun g=>by have:=g.1.1;omega
  exact(if_pos (by rw[q,x];exact w)).symm
 ·have g:=u.resolve_left fun e=>t e.2
  exact⟨⟨g.1.2.1,g.1.2.2.1⟩,((if_neg (by rw[q,x];exact fun e=>t e.2)).trans (by rw[q])).symm⟩
def T4:AJ:=AU (fun q:A5×Int×Int×A5×Int×Int×Int=>[poT q.1.n q.1.s q.1.hn q.1.h,pT q.2.1 q.2.2.1,poT q.2.2.2.1.n q.2.2.2.1.s q.2.2.2.1.hn q.2.2.2.1.h,pT q.2.2.2.2.1 q.2.2.2.2.2.1,iT q.2.2.2.2.2.2]) (fun q=>Ai q.1 q.2.1 q.2.2.1/\Ai q.2.2.2.1 q.2.2.2.2.1 q.2.2.2.2.2.1/\∀k:Nat,k<64->(k:Int)≠q.2.2.2.2.2.2->lwD q.1 q.2.1 q.2.2.1 k=lwD q.2.2.2.1 q.2.2.2.2.1 q.2.2.2.2.2.1 k) (fun _=>tT)
theorem L5(p:A5)(a b:Int)(q:A5)(c d x:Int):T4 [poT p.n p.s p.hn p.h,pT a b,poT q.n q.s q.hn q.h,pT c d,iT x]=some (Ai p a b/\Ai q c d/\∀k:Nat,k<64->(k:Int)≠x->lwD p a b k=lwD q c d k,tT):=Af (fun l=>(Cs (nth l 0 0) (nth l 0 1),AQ (nth l 1 0),AQ (nth l 1 1),Cs (nth l 2 0) (nth l 2 1),AQ (nth l 3 0),AQ (nth l 3 1),AQ (nth l 4 0))) (fun _=>rfl) (p,a,b,q,c,d,x)
theorem Vw:Am Tryz.prog 11 T4:=by
 refine Az Al (GOk.cons Vv (AB Tryz.func10 rfl rfl) GOk.nil) Ak Tryz.func11 rfl Tryz.ntmps11 Tryz.results11 12 ?_;rintro⟨p,a,b,q,c,d,x⟩ ⟨e,f,g⟩;replace e:Ai p a b:=e;replace f:Ai q c d:=f;replace g:∀k:Nat,k<64->(k:Int)≠x->lwD p a b k=lwD q c d k:=g;refine⟨by simp,?_⟩;simp[go_sem];refine BC (fun k:Nat=>⟨[(5,true,.m false [.p 5 0]),(6,true,.m false [.p 6 0]),(7,true,.m false [.p 7 0]),(8,true,.m false [.p 8 0]),(4,true,.i x),(11,true,.i k)],[(8,.var [.v (.int .i64 c),.v (.int .i64 d)]),(7,.var [.s .b 3 q.n (Aw .b q.s),.s .b 1 q.hn (BF q.h)]),(6,.var [.v (.int .i64 a),.v (.int .i64 b)]),(5,.var [.s .b 3 p.n (Aw .b p.s),.s .b 1 p.hn (BF p.h)])]⟩) (fun k=>64 - k) (fun k=>k<=64) 0 (by simp[go_sem]) (by simp) ?_;rintro k l;simp[go_sem,MS,Ao (show k<=1000000000 by omega),e,f];exact fun o=>⟨fun _=>by omega,by kernel_rfl,fun j=>by rw[g k (by omega) j],fun _=>⟨k+1,by omega,by omega,rfl⟩⟩
structure JS (W V:A4) (x:ByteArray) (y:Int):Prop where
 A1:∀i,i<W.sn->(W.A1 i).name≠x->(C4 V (W.A1 i).name).name=(W.A1 i).name/\∀k,k<64->lwD W.pool (W.A1 i).rs (W.A1 i).rb k=lwD V.pool (C4 V (W.A1 i).name).rs (C4 V (W.A1 i).name).rb k
 A2:∀i,i<W.pn->(W.A2 i).id≠y->(Ey V (W.A2 i).id).id=(W.A2 i).id/\∀k,k<64->lwD W.pool (W.A2 i).rs (W.A2 i).rb k=lwD V.pool (Ey V (W.A2 i).id).rs (Ey V (W.A2 i).id).rb k
variable{V:A4}
theorem I5(h:BE V)(x:ByteArray):Ay V.pool (C4 V x).rs (C4 V x).rb:=by
 unfold C4;split
 ·rename_i g
  obtain⟨k,a,-,-,b⟩ | ⟨a,-⟩:=I0 V.sn fun k=>(V.A1 k).name=x
  ·rw[b];exact(h.A1 k a).1
  ·obtain⟨k,c,d⟩:=g.2.1;exact absurd d (a k c)
 ·exact .inl ⟨rfl,rfl⟩
theorem zAV(h:BE V)(x:Int):Ay V.pool (Ey V x).rs (Ey V x).rb:=by
 unfold Ey;split
 ·rename_i g
  obtain⟨k,a,-,-,b⟩ | ⟨a,-⟩:=I0 V.pn fun k=>(V.A2 k).id=x
  ·rw[b];exact h.A2 k a
  ·obtain⟨k,c,d⟩:=g.1;exact absurd d (a k c)
 ·exact .inl ⟨rfl,rfl⟩
def T2:AJ:=AU (fun q:A4×A4×ByteArray×Int=>[woT q.1,woT q.2.1,sT q.2.2.1,iT q.2.2.2]) (fun q=>(SmallW q.1/\SmallW q.2.1)/\(BE q.1/\BE q.2.1)/\JS q.1 q.2.1 q.2.2.1 q.2.2.2) (fun _=>tT)
theorem OY(W V:A4)(x:ByteArray)(y:Int):T2 [woT W,woT V,sT x,iT y]=some ((SmallW W/\SmallW V)/\(BE W/\BE V)/\JS W V x y,tT):=Af (fun l=>(C3 (nth l 0),C3 (nth l 1),CK (nth l 2 0),AQ (nth l 3 0))) (fun _=>rfl) (W,V,x,y)
theorem zl:Am Tryz.prog 9 T2:=by
 refine Az Al (GOk.cons VK (AB Tryz.func8 rfl rfl) (GOk.cons zp (AB Tryz.func35 rfl rfl) (GOk.cons Vw (AB Tryz.func11 rfl rfl) GOk.nil))) Ak Tryz.func9 rfl Tryz.ntmps9 Tryz.results9 15 ?_;rintro⟨W,V,x,y⟩ ⟨⟨l,g⟩,⟨a,d⟩,hK⟩;replace l:SmallW W:=l;replace g:SmallW V:=g;replace a:BE W:=a;replace d:BE V:=d;replace hK:JS W V x y:=hK;have q:W.sn<=8:=a.Ap.2.2.1;have n:W.pn<=20:=a.Ap.2.2.2.1;refine⟨by simp,?_⟩;simp[go_sem];refine BC (fun k:Nat=>⟨[(4,true,.m false [.p 4 0]),(5,true,.m false [.p 5 0]),(2,true,.m false [.v (.string x)]),(3,true,.i y),(9,true,.i k)],[(5,.var ((woL V).map Tr.cv)),(4,.var ((woL W).map Tr.cv))]⟩) (fun k=>W.sn - k) (fun k=>k<=W.sn) 0 (by simp[go_sem]) (by simp) ?_;intro k o;obtain⟨D,c⟩:∃D,C4 V (W.A1 k).name=D:=⟨_,rfl⟩;simp[go_sem,I4,L5,Ao (show k<=1000000000 by omega),g,c];refine⟨fun b=>?_,fun b=>?_⟩
 ·have f:¬(W.A1 k).name.toList=x.toList->D.name=(W.A1 k).name/\∀j,j<64->lwD W.pool (W.A1 k).rs (W.A1 k).rb j=lwD V.pool D.rs D.rb j:=fun h=>c▸hK.A1 k b fun e=>h (congrArg ByteArray.toList e)
  exact⟨b,fun h _=>⟨⟨a.right,(a.A1 k b).1⟩,⟨d.right,c▸I5 d _⟩,(f h).2⟩,fun h e=>⟨h,e⟩,fun h=>congrArg ByteArray.toList (f h).1,fun _=>⟨k+1,by omega,by omega,rfl⟩⟩
 refine BC (fun k:Nat=>⟨[(4,true,.m false [.p 4 0]),(5,true,.m false [.p 5 0]),(3,true,.i y),(12,true,.i k)],[(5,.var ((woL V).map Tr.cv)),(4,.var ((woL W).map Tr.cv))]⟩) (fun k=>W.pn - k) (fun k=>k<=W.pn) 0 (by simp[go_sem]) (by simp) ?_;intro k o;obtain⟨D,c⟩:∃D,Ey V (W.A2 k).id=D:=⟨_,rfl⟩;simp[go_sem,zBO,L5,Ao (show k<=1000000000 by omega),g,c];intro b;have f:¬(W.A2 k).id=y->D.id=(W.A2 k).id/\∀j,j<64->lwD W.pool (W.A2 k).rs (W.A2 k).rb j=lwD V.pool D.rs D.rb j:=fun h=>c▸hK.A2 k b h
 exact⟨b,fun h _=>⟨⟨a.right,a.A2 k b⟩,⟨d.right,c▸zAV d _⟩,(f h).2⟩,fun h e=>⟨h,e⟩,fun h=>(f h).1,fun _=>⟨k+1,by omega,by omega,rfl⟩⟩
theorem zIA(h:BE V)(hi:i<k)(a:k<V.sn):Ce (V.A1 i).name (V.A1 k).name:=Uf h.Ap hi a
theorem zHF(h:BE V)(hi:i<k)(a:k<V.pn):(V.A2 i).id<(V.A2 k).id:=Zv h.Ap hi a
theorem Pb(h:BE V)(hi:i<V.sn):C4 V (V.A1 i).name=V.A1 i:=by
 have hs:=(h.Ap.2.2.2.2.1 i hi).1;unfold C4;rw[if_pos ⟨by have:=hs.2.1;omega,⟨i,hi,rfl⟩,h⟩,I8 (P:=fun k=>(V.A1 k).name=(V.A1 i).name) hi rfl (fun j a e=>zFm (zIA h a hi) e),Int.toNat_natCast]
theorem zG3(h:BE V)(hi:i<V.pn):Ey V (V.A2 i).id=V.A2 i:=by
 unfold Ey;rw[if_pos ⟨⟨i,hi,rfl⟩,h⟩,I8 (P:=fun k=>(V.A2 k).id=(V.A2 i).id) hi rfl (fun j a e=>by have:=zHF h a hi;omega),Int.toNat_natCast]
set_option linter.unusedSimpArgs false
set_option maxRecDepth 20000
set_option maxHeartbeats 3200000
attribute [go_sem] Bz
attribute [-go_sem] Bz
structure Fs (x y:Bk):Prop where
 code:x.code=y.code
 id:x.id=y.id
 many:x.many=y.many
 no:x.code≠0->x.world.sn=0/\x.world.pool.n=0
 ok:x.code=0->BE x.world
 good:BG 1 x.world
def yj:AJ:=AU (fun q:Bk×Bk=>[wuL q.1,wuL q.2]) (fun q=>Fs q.1 q.2) (fun _=>tT)
theorem Iz(x y:Bk):yj [wuL x,wuL y]=some (Fs x y,tT):=Af (fun l=>(qo (nth l 0),qo (nth l 1))) (fun _=>rfl) (x,y)
theorem zm:Am Tryz.prog 6 yj:=by
 refine Az Al (GOk.cons Fo (AB Tryz.func29 rfl rfl) (GOk.cons zII (AB Tryz.func30 rfl rfl) GOk.nil)) Ak Tryz.func6 rfl Tryz.ntmps6 Tryz.results6 6 ?_;rintro⟨x,y⟩ e;replace e:Fs x y:=e;obtain⟨f,g,h,k,l,i⟩:=e;have j:=(i.CI (c:=1) (by omega)).toSmallW;refine⟨by simp,?_⟩;by_cases d:x.code=0
 ·have m:=l d;simp[go_sem,CH,TF,<-f,<-g,<-h,d,m,i,j]
 ·obtain⟨a,b⟩:=k d;simp[go_sem,CH,TF,<-f,<-g,<-h,d,a,b]
theorem zHC(h:BP W x):B9 W x<W.sn/\(W.A1 (B9 W x)).name=x:=by
 obtain⟨k,a⟩:=R5 h;rw[Pa a];exact⟨a.1,a.2.1⟩
theorem Sn{c:Int}(a:c≠0):Fs (BQ c) (BQ c):=⟨rfl,rfl,rfl,fun _=>⟨rfl,rfl⟩,fun h=>absurd h a,GB (e:=c)⟩
theorem UU(h:o.code=0)(b:BE o.world)(a:BG 1 o.world):Fs o o:=⟨rfl,rfl,rfl,fun g=>absurd h g,fun _=>b,a⟩
theorem zG9(f:BE V){y:Int}
 (g:∀i,i<W.sn->(W.A1 i).name≠x->(∃j,j<V.sn/\(V.A1 j).name=(W.A1 i).name/\(V.A1 j).rs=(W.A1 i).rs/\(V.A1 j).rb=(W.A1 i).rb)/\Ei W.pool V.pool (W.A1 i).rs (W.A1 i).rb)
 (h:∀i,i<W.pn->(W.A2 i).id≠y->(∃j,j<V.pn/\(V.A2 j).id=(W.A2 i).id/\(V.A2 j).rs=(W.A2 i).rs/\(V.A2 j).rb=(W.A2 i).rb)/\Ei W.pool V.pool (W.A2 i).rs (W.A2 i).rb):JS W V x y:=by
 refine⟨fun i hi hn=>?_,fun i hi hn=>?_⟩
 ·obtain⟨⟨j,d,a,b,c⟩,t⟩:=g i hi hn;rw[<-a,Pb f d];exact⟨rfl,fun k e=>by rw[b,c];exact(t.AA e).symm⟩
 ·obtain⟨⟨j,d,a,b,c⟩,t⟩:=h i hi hn;rw[<-a,zG3 f d];exact⟨rfl,fun k e=>by rw[b,c];exact(t.AA e).symm⟩
theorem V3(h:BE W)(z:BP W x){y:D4}{ms mb gs gb:Int}(hn:n<64)(s:y.old=BN W.pool (W.A1 (B9 W x)).rs (W.A1 (B9 W x)).rb n 3)(m:New W.pool (W.A1 (B9 W x)).rs (W.A1 (B9 W x)).rb n W.time y.pool y.rs y.rb ms mb gs gb) :
 BE (Cu W (B9 W x) y)/\JS W (Cu W (B9 W x) y) x 0/\C4 W x=W.A1 (B9 W x)/\C4 (Cu W (B9 W x) y) x=FY W (B9 W x) y/\
 (∀k:Nat,k<64->lwD (Cu W (B9 W x) y).pool y.rs y.rb k=lwD y.pool y.rs y.rb k)/\∀k:Nat,k<64->(k:Int)≠n->lwD W.pool (W.A1 (B9 W x)).rs (W.A1 (B9 W x)).rb k=lwD (Cu W (B9 W x) y).pool y.rs y.rb k:=by
 obtain⟨k,w⟩:∃k,B9 W x=k:=⟨_,rfl⟩;obtain⟨e,l⟩:=zHC z;rw[w]at e l s m ⊢;obtain⟨p,r,f⟩:=zF8 h e hn s m;have o:Ai W.pool (W.A1 k).rs (W.A1 k).rb:=⟨h.right,(h.A1 k e).1⟩;have c:∀j,j≠k->(Cu W k y).A1 j=W.A1 j:=fun j d=>if_neg d
 have q:(Cu W k y).A1 k=FY W k y:=if_pos rfl;have u:C4 W x=W.A1 k:=by rw[<-l,Pb h e]
 have v:C4 (Cu W k y) x=FY W k y:=by
  have:=Pb p (i:=k) e;rw[q]at this;rw[<-l];exact this
 refine⟨p,zG9 p (fun i hi b=>?_) (fun i hi _=>?_),u,v,fun j d=>f.AA d,fun j d b=>?_⟩
 ·have a:i≠k:=fun g=>b (by rw[g];exact l)
  have t:=r (W.pn+i) (by unfold memN;omega) (by omega);rw[Cp]at t;exact⟨⟨i,hi,by rw[c i a],by rw[c i a],by rw[c i a]⟩,t⟩
 ·have t:=r i (by unfold memN;omega) (by omega);rw[Co hi]at t;exact⟨⟨i,hi,rfl,rfl,rfl⟩,t⟩
 ·rw[f.AA d];exact m.same o j d b
theorem Vr{y:D4}:(y.code≠0/\Cm W k y=BQ y.code)\/(y.code=0/\Cm W k y=⟨Cu W k y,0,((DR W k y).length:Int),0⟩):=by
 unfold Cm;by_cases h:y.code=0
 ·exact .inr ⟨h,if_pos h⟩
 ·exact .inl ⟨h,if_neg h⟩
theorem zC6(e:EU W x AA d=o):(o.code≠0/\Fs o o)\/(o.code=0/\Fs o o/\BE W/\(BE o.world/\JS W o.world x 0)/\∃n:Nat,AA=n/\n<64/\lwD o.world.pool (C4 o.world x).rs (C4 o.world x).rb n=d/\
 ∀k:Nat,k<64->(k:Int)≠n->lwD W.pool (C4 W x).rs (C4 W x).rb k=lwD o.world.pool (C4 o.world x).rs (C4 o.world x).rb k):=by
 have t:BG 1 o.world:=e▸(RQ W x AA d).up;have a:∀c,c≠0->o=BQ c->o.code≠0/\Fs o o:=fun c f h=>by subst h;exact⟨f,Sn f⟩
 unfold EU at e;split at e
 ·exact .inl (a 2 (by decide) e.symm)
 split at e
 ·rename_i m
  split at e
  ·rename_i B
   rcases Vr (W:=W) (k:=B9 W x) (y:=CA W.pool (W.A1 (B9 W x)).rs (W.A1 (B9 W x)).rb AA d W.time)with⟨f,h⟩ | ⟨f,h⟩
   ·rw[h]at e;exact .inl (a _ f e.symm)
   ·rw[h]at e;obtain⟨u,n,hn,A,C,z,ms,mb,gs,gb,l,v,g⟩:=VZ f;obtain⟨p,hK,q,j,r,s⟩:=V3 m B hn z l;subst e;refine .inr ⟨rfl,UU rfl p t,m,⟨p,hK⟩,n,A,hn,?_,fun k w i=>?_⟩
    ·rw[j];refine(r n hn).trans ?_;have b:=l.pages u hn;rw[if_pos rfl,if_pos rfl]at b;unfold lwD;rw[b.1,b.2,if_neg v];exact g
    ·rw[q,j];exact s k w i
  ·exact .inl (a 4 (by decide) e.symm)
 ·exact .inl (a 1 (by decide) e.symm)
theorem zBe(e:EP W x AA=o):(o.code≠0/\Fs o o)\/(o.code=0/\Fs o o/\BE W/\(BE o.world/\JS W o.world x 0)/\∃n:Nat,AA=n/\n<64/\lwD o.world.pool (C4 o.world x).rs (C4 o.world x).rb n=ByteArray.empty/\
 ∀k:Nat,k<64->(k:Int)≠n->lwD W.pool (C4 W x).rs (C4 W x).rb k=lwD o.world.pool (C4 o.world x).rs (C4 o.world x).rb k):=by
 have r:BG 1 o.world:=e▸(Qp W x AA).up;have a:∀c,c≠0->o=BQ c->o.code≠0/\Fs o o:=fun c d h=>by subst h;exact⟨d,Sn d⟩
 unfold EP at e;split at e
 ·exact .inl (a 2 (by decide) e.symm)
 split at e
 ·rename_i j
  split at e
  ·rename_i w
   rcases Vr (W:=W) (k:=B9 W x) (y:=CV W.pool (W.A1 (B9 W x)).rs (W.A1 (B9 W x)).rb AA W.time)with⟨d,h⟩ | ⟨d,h⟩
   ·rw[h]at e;exact .inl (a _ d e.symm)
   ·rw[h]at e;obtain⟨s,n,hn,v,u,ms,mb,i⟩:=UV d;obtain⟨l,hK,m,g,p,q⟩:=V3 j w hn u i;subst e;refine .inr ⟨rfl,UU rfl l r,j,⟨l,hK⟩,n,v,hn,?_,fun k t f=>?_⟩
    ·rw[g];refine(p n hn).trans ?_;have b:=i.pages s hn;rw[if_pos rfl,if_pos rfl]at b;unfold lwD;rw[b.1,b.2,if_pos ⟨rfl,rfl⟩];rfl
    ·rw[m,g];exact q k t f
  ·exact .inl (a 4 (by decide) e.symm)
 ·exact .inl (a 1 (by decide) e.symm)
set_option linter.unusedSimpArgs false
set_option maxRecDepth 20000
set_option maxHeartbeats 3200000
attribute [go_sem] Bz
attribute [-go_sem] Bz CG
attribute [local go_sem] NW NX N6 N4 N5 NM NN NO Mz N3 N2 N1 N0 MB
def Eg(s:Ar)(p:A5):Ar×Int×Int:=if nV s 8=0\/p.n=0 then(nS (nS (nS s 8) 14) 4,KI (nS s 8),nV (nS (nS s 8) 14) 4)else(nS (nS s 8) p.n,nV (nS s 8) p.n,(p.s (nV (nS s 8) p.n).toNat).birth)
def yW:AJ:=AU (fun q:Ar×A5=>(true,srV q.1) :: [poT q.2.n q.2.s q.2.hn q.2.h]) (fun q=>B7 q.1/\q.2.n<=1000000) (fun q=>[(true,srV (Eg q.1 q.2).1),pT (Eg q.1 q.2).2.1 (Eg q.1 q.2).2.2])
theorem zFF(s:Ar)(p:A5):yW ((true,srV s) :: [poT p.n p.s p.hn p.h])=some (B7 s/\p.n<=1000000,[(true,srV (Eg s p).1),pT (Eg s p).2.1 (Eg s p).2.2]):=Af (fun l=>(G2 (nth l 0),Cs (nth l 1 0) (nth l 1 1))) (fun _=>rfl) (s,p)
theorem zf:D7 Tryz.prog 42 yW:=by
 refine EW Al (GOk.ptr GJ (AB Tryz.func21 rfl rfl) (GOk.ptr NF (AB Tryz.func19 rfl rfl) (GOk.ptr U3 (AB Tryz.func44 rfl rfl) GOk.nil))) Ak Tryz.func42 rfl Tryz.ntmps42 Tryz.results42 6 ?_;rintro⟨s,p⟩ hs;obtain⟨hs,d⟩:B7 s/\p.n<=1000000:=hs;have a:=Bl hs 8;have c:=Bl a 14;refine⟨by simp,?_⟩;by_cases b:nV s 8=0
 ·simp[go_sem,DF,EF,Lv,hs,a,c,b,Eg,CR]
 by_cases hn:p.n=0
 ·simp[go_sem,DF,EF,Lv,hs,a,c,b,hn,Eg,CR]
 have hv:=JI (nS s 8) (m:=p.n) (by omega);simp[go_sem,DF,EF,Lv,hs,a,c,b,hn,Eg,CR];exact⟨by omega,hv.1,by omega⟩
def stepAt(s:Ar)(W:A4)(x:ByteArray)(a:Int):Nat->Ar×Bk
 | 0=>(s,Gb W x)
 | 1=>(Ed s,EP W x (Ee s))
 | 2 | 3 | 4=>(nS s 3,J3 W x ([⟨#[115,49]⟩,⟨#[115,50]⟩,⟨#[115,51]⟩].getD (nV s 3).toNat ⟨#[]⟩))
 | 5=>(s,sdE W a)
 | 6 | 7=>(nS s 3,Kq W a ([⟨#[98]⟩,⟨#[99]⟩,⟨#[100]⟩].getD (nV s 3).toNat ⟨#[]⟩))
 | 8=>(s,IY W x)
 | 9=>(s,IS W x)
 | 10=>(s,IL W x)
 | 11=>(s,⟨{W with pool:=IW W.pool},0,0,0⟩)
 | _=>(N8 (Ed s),EU W x (Ee s) (JM (Ed s)))
def Dh(s:Ar)(W:A4):Ar×Bk:=stepAt (nS (nS (nS s (max 1 W.next)) 5) 16) W (GO (nS s (max 1 W.next))) (1+nV s (max 1 W.next)) (nV (nS (nS s (max 1 W.next)) 5) 16).toNat
def yh:AJ:=AU (fun q:Ar×A4=>(true,srV q.1) :: [woT q.2]) (fun q=>B7 q.1/\Bw q.2/\q.2.next<=1000000000) (fun q=>[(true,srV (Dh q.1 q.2).1),wuO (Dh q.1 q.2).2])
theorem VF(s:Ar)(W:A4):yh ((true,srV s) :: [woT W])=some (B7 s/\Bw W/\W.next<=1000000000,[(true,srV (Dh s W).1),wuO (Dh s W).2]):=Af (fun l=>(G2 (nth l 0),C3 (nth l 1))) (fun _=>rfl) (s,W)
theorem zBJ:D7 Tryz.prog 41 yh:=by
 refine EW Al (GOk.cons IK (AB Tryz.func81 rfl rfl) (GOk.cons zC9 (AB Tryz.func109 rfl rfl) (GOk.ptr GJ (AB Tryz.func21 rfl rfl) (GOk.cons XT (AB Tryz.func39 rfl rfl) (GOk.cons zAJ (AB Tryz.func102 rfl rfl) (GOk.ptr RU (AB Tryz.func17 rfl rfl) (GOk.cons YD (AB Tryz.func14 rfl rfl) (GOk.ptr RM (AB Tryz.func18 rfl rfl) (GOk.cons zBS (AB Tryz.func103 rfl rfl) (GOk.ptr Tf (AB Tryz.func43 rfl rfl) (GOk.cons zD6 (AB Tryz.func104 rfl rfl) (GOk.cons zC8 (AB Tryz.func105 rfl rfl) (GOk.cons zCZ (AB Tryz.func106 rfl rfl) (GOk.cons zCB (AB Tryz.func107 rfl rfl) (GOk.cons zBR (AB Tryz.func108 rfl rfl) (GOk.cons Yw (AB Tryz.func7 rfl rfl) (GOk.ptr Ya (AB Tryz.func22 rfl rfl) GOk.nil))))))))))))))))) Ak Tryz.func41 rfl Tryz.ntmps41 Tryz.results41 70 ?_;rintro⟨s,W⟩ hs;obtain⟨hs,c,I⟩:B7 s/\Bw W/\W.next<=1000000000:=hs;have u:max 1 W.next<=1000000000000000000:=by omega
 have hi:=JI s u;have z:IntKind.i64.wrap (1+nV s (max 1 W.next))=1+nV s (max 1 W.next):=Fi (by omega) (by omega);obtain⟨t,y⟩:∃t,Dh s W=t:=⟨_,rfl⟩;obtain⟨a,g⟩:∃a,1+nV s (max 1 W.next)=a:=⟨_,rfl⟩;rw[g]at z;obtain⟨s1,d⟩:∃s1,nS s (max 1 W.next)=s1:=⟨_,rfl⟩;obtain⟨x,o⟩:∃x,GO s1=x:=⟨_,rfl⟩;obtain⟨s2,e⟩:∃s2,nS s1 5=s2:=⟨_,rfl⟩;obtain⟨s3,f⟩:∃s3,nS s2 16=s3:=⟨_,rfl⟩;obtain⟨v,hv⟩:∃v:Nat,nV s2 16=v:=⟨_,(Int.toNat_of_nonneg (JI s2 (m:=16) (by omega)).1).symm⟩;have p:B7 s1:=d▸Bl hs _;have q:B7 s2:=e▸Bl p 5;have r:B7 s3:=f▸Bl q 16;have hn:=c.n;have A:=c.hn;have B:(∀i,i<W.pool.n->(W.pool.s i).kn<=1000000)↔True:=⟨fun _=>trivial,fun _=>c.kn⟩;have b:t=stepAt s3 W x a v:=by
  rw[<-y];unfold Dh;rw[d,e,f,o,g,hv];rfl
 have C:v=0->t=(s3,Gb W x):=fun h=>by rw[b,h];rfl
 have q1:v=1->t=(Ed s3,EP W x (Ee s3)):=fun h=>by rw[b,h];rfl
 have D:v=2\/v=3\/v=4->t=(nS s3 3,J3 W x ([⟨#[115,49]⟩,⟨#[115,50]⟩,⟨#[115,51]⟩].getD (nV s3 3).toNat ⟨#[]⟩)):=fun h=>by rcases h with h | h | h<;>(rw[b,h];rfl)
 have E:v=5->t=(s3,sdE W a):=fun h=>by rw[b,h];rfl
 have F:v=6\/v=7->t=(nS s3 3,Kq W a ([⟨#[98]⟩,⟨#[99]⟩,⟨#[100]⟩].getD (nV s3 3).toNat ⟨#[]⟩)):=fun h=>by rcases h with h | h<;>(rw[b,h];rfl)
 have G:v=8->t=(s3,IY W x):=fun h=>by rw[b,h];rfl
 have H:v=9->t=(s3,IS W x):=fun h=>by rw[b,h];rfl
 have j:v=10->t=(s3,IL W x):=fun h=>by rw[b,h];rfl
 have k:v=11->t=(s3,⟨{W with pool:=IW W.pool},0,0,0⟩):=fun h=>by rw[b,h];rfl
 have l:12<=v->t=(N8 (Ed s3),EU W x (Ee s3) (JM (Ed s3))):=fun h=>by
  obtain⟨w,rfl⟩:∃w,v=w+12:=⟨v - 12,by omega⟩;rw[b];rfl
 clear b;refine⟨by simp,?_⟩;show ev _ _ _ _ _ _ (LO _ _ [(true,srV (Dh s W).1),wuO (Dh s W).2]);rw[y];simp[go_sem,zGr,DF,OJ,NY,V7,zDa,Xr,Lx,MG,zBs,zDY,zHu,zFA,zFH,zGs,DW,zFM,hs,c,p,q,r,d,e,f,o,g,u,z,hv,hn,A,B,Lh r]
 repeat' first | refine⟨fun _=>?_,fun _=>?_⟩ | fail
 all_goals first
  | (exfalso;omega)
  | rw[C (by omega)]
  | rw[q1 (by omega)]
  | rw[D (by omega)]
  | rw[E (by omega)]
  | rw[F (by omega)]
  | rw[G (by omega)]
  | rw[H (by omega)]
  | rw[j (by omega)]
  | rw[k (by omega)]
  | rw[l (by omega)]
 all_goals first
  | exact⟨⟨⟨TrE.refl _,CR⟩,rfl,rfl,rfl⟩,⟨TrE.refl _,Bg⟩,⟨TrE.refl _,Bq⟩,rfl,rfl,⟨TrE.refl _,CX⟩,⟨TrE.refl _,CW⟩,rfl,rfl,rfl⟩
  | exact⟨by as_aux_lemma=>kernel_rfl,⟨⟨TrE.refl _,CR⟩,rfl,rfl,rfl⟩,⟨TrE.refl _,Bg⟩,⟨TrE.refl _,Bq⟩,rfl,rfl,⟨TrE.refl _,CX⟩,⟨TrE.refl _,CW⟩,rfl,rfl,rfl⟩
end
end Go.Proofs.YtehdoekmnicdiaaGreatDoor
