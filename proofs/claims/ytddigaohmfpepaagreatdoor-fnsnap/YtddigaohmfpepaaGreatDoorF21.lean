/- A part of the proof. -/
import Derived.Test.YtddigaohmfpepaaGreatDoorF20
import Derived.Test.YtddigaohmfpepaaGreatDoorF16
set_option linter.unusedVariables false
set_option maxRecDepth 20000
set_option maxHeartbeats 4000000
namespace Go.Proofs.YtddigaohmfpepaaGreatDoor
open Go.RowKit
set_option linter.unusedSimpArgs false
set_option maxRecDepth 20000
set_option maxHeartbeats 3200000
variable{W:A6}{x a:ByteArray}
theorem zDK(h:B4 W)(w:BL W x)(hn:BX a)(j:¬∃i,i<W.pn/\(W.A3 i).set=x/\(W.A3 i).name=a)(q:W.pn<20)(s:W.time<900000)(r:W.next<900000)(u:ByteArray)(v:Int) :
 B4 (Co W (Ay W x) a x)/\IV W (Co W (Ay W x) a x) u v/\DH (Co W (Ay W x) a x) W.next=Ed W (Ay W x) a x/\Cm W x=W.A2 (Ay W x):=by
 obtain⟨k,o⟩:∃k,Ay W x=k:=⟨_,rfl⟩;obtain⟨f,d⟩:=SV w;rw[o]at f d ⊢;have g:B4 (Co W k a x):=by
  have:=zDM h f hn (by rw[d];exact j) q s r
  rwa [d]at this
 have b:∀m,m<memN W->EU W.pool (Co W k a x).pool (AA W m).rs (AA W m).rb:=fun m p=>⟨rfl,fun z y=>⟨rfl,(ED h.right (NE h p) y).2.2⟩⟩
 have n:∀i,((Co W k a x).A2 i).name=(W.A2 i).name/\((Co W k a x).A2 i).rs=(W.A2 i).rs/\((Co W k a x).A2 i).rb=(W.A2 i).rb:=fun i=>by
  show(if i=k then _ else W.A2 i:Ab).name=_/\(if i=k then _ else W.A2 i:Ab).rs=_/\(if i=k then _ else W.A2 i:Ab).rb=_;by_cases e:i=k
  ·subst e;rw[if_pos rfl];exact⟨rfl,rfl,rfl⟩
  ·rw[if_neg e];exact⟨rfl,rfl,rfl⟩
 have l:∀i,i<W.pn->(Co W k a x).A3 i=W.A3 i:=fun i hi=>if_neg (by omega)
 have c:(Co W k a x).A3 W.pn=Ed W k a x:=if_pos rfl;refine⟨g,Ss g (fun i hi _=>?_) (fun i hi _=>?_),?_,by rw[<-d,Nd h f]⟩
 ·have t:=b (W.pn+i) (by unfold memN;omega);rw[C4]at t;exact⟨⟨i,hi,n i⟩,t⟩
 ·have t:=b i (by unfold memN;omega);rw[CH hi]at t;exact⟨⟨i,Nat.lt_succ_of_lt hi,by rw[l i hi];exact⟨rfl,rfl,rfl⟩⟩,t⟩
 ·have:=U3 g (i:=W.pn) (Nat.lt_succ_self _);rw[c]at this;exact this
variable{o:Bm}
theorem zA4(e:Ef W x a=o):(o.code≠0/\Fs o o)\/(o.code=0/\Fs o o/\B4 W/\(B4 o.world/\IV W o.world ByteArray.empty 0)/\o.world.pool=W.pool/\(DH o.world o.id).set=x/\(DH o.world o.id).name=a/\(DH o.world o.id).rs=(Cm W x).rs/\(DH o.world o.id).rb=(Cm W x).rb):=by
 have k:BK 1 o.world:=e▸(MP W x a).up;have b:∀c,c≠0->o=BP c->o.code≠0/\Fs o o:=fun c g h=>by subst h;exact⟨g,Si g⟩
 unfold Ef at e;split at e
 ·exact .inl (b 2 (by decide) e.symm)
 split at e
 ·rename_i d
  split at e
  ·rename_i m
   split at e
   ·exact .inl (b 5 (by decide) e.symm)
   ·rename_i l
    split at e
    ·exact .inl (b 6 (by decide) e.symm)
    ·rename_i hF
     obtain⟨f,hK,i,j⟩:=zDK d.1 m d.2 l (by omega) (by omega) (by omega) ByteArray.empty 0;subst e;refine .inr ⟨rfl,UH rfl f k,d.1,⟨f,hK⟩,rfl,?_⟩;show(DH (Co W (Ay W x) a x) W.next).set=x/\(DH (Co W (Ay W x) a x) W.next).name=a/\(DH (Co W (Ay W x) a x) W.next).rs=_/\(DH (Co W (Ay W x) a x) W.next).rb=_;rw[i,j];exact⟨rfl,rfl,rfl,rfl⟩
  ·exact .inl (b 4 (by decide) e.symm)
 ·exact .inl (b 1 (by decide) e.symm)
set_option maxRecDepth 20000
set_option maxHeartbeats 3200000
variable{w:World}
theorem zDN{P:Program}{f:Nat}{ι : Type}{A:ι->List (Bool×List Tr)}{C:ι->Prop}{R:ι->List (Bool×List Tr)}{T:Tb}{Γ : List (Nat×AL)}(i:DY P T)(hΓ : ∀g0,(∀b,∃r,g0 b = .fz r)->Gm P Γ w ⟨g0,none⟩)(o:P.follows .mixedOrders=true){fn:Func}{body:Code}{N:Nat}{rv:Array ResultVar}(m:P.funcs[f]?=some fn)(j:fn.body=some body)(g:fn.ntmps=N)(d:fn.results=rv)(n:Nat)
 (h:∀x,C x->(A x).length<=N/\ev N T Γ n body ⟨E7 0 (A x),[]⟩ (Jv T rv.toList (R x))):Fg P f (AY A C R) w:=by
 refine Z6 i hΓ o m j g d n (fun l c rs a k=>?_);unfold AY at a;split at a
 ·rename_i e
  cases a;have:=h e.choose k;rw[e.choose_spec]at this;exact this
 ·cases a
def GI(n:Nat)(f:Nat->Int):Prop:=∀i,i<n->0<=f i/\f i<256
def Le(w:World)(a:Option Addr)(n:Nat):Prop:=0<n->∃b o,a=some ⟨b,o,none⟩/\b<w.heap.size/\∀i,i<n->∃x:Int,w.cell? ⟨b,o+i,none⟩=some (.int .u8 x)/\0<=x/\x<256
variable{n:Nat}
open Classical in
theorem VF{a:Option Addr}{c:Nat}(h:Le w a n)(k:n<=c):∃f,GI n f/\Sh w (fun _=>.fz none) (.s .z 1 n (Es f)) (.slice a n c):=by
 by_cases g:0<n
 ·obtain⟨b,o,rfl,m,d⟩:=h g;refine⟨fun i=>if hi:i<n then(d i hi).choose else 0,fun i hi=>?_,_,_,rfl,k,fun _=>⟨b,o,rfl,m,.inr (fun l e=>by cases e),fun i j hi p=>?_⟩⟩
  ·simp only[dif_pos hi];exact(d i hi).choose_spec.2
  ·cases (show j=0 by omega);refine⟨_,by rw[Nat.mul_one,Nat.add_zero];exact(d i hi).choose_spec.1,?_,rfl⟩;simp only[dif_pos hi]
 ·exact⟨fun _=>0,fun i hi=>by omega,_,_,rfl,k,fun h=>absurd h g⟩
set_option maxRecDepth 20000
set_option maxHeartbeats 3200000
attribute [-go_sem] Bd
attribute [local go_sem] Kg
theorem zAy{fl:Fl}{k:Nat}{h:Nat->Int}:(Tr.s fl k n (Es h)).CY = .s .b k n (Es h):=rfl
def atV(n:Nat)(f:Nat->Int):Int:=if n=0 then 0 else f 0 % 64
theorem zHd{f:Nat->Int}:0<=atV n f/\atV n f<64:=by unfold atV;split<;>omega
noncomputable def mAt:AL:=AY (fun q:Nat×(Nat->Int)=>[(false,[.s .b 1 q.1 (Es q.2)]),iT 0,iT 64]) (fun q=>GI q.1 q.2/\q.1<=1048576) (fun q=>[iT (atV q.1 q.2)])
theorem Zt(n:Nat)(f:Nat->Int):mAt [(false,[.s .b 1 n (Es f)]),iT 0,iT 64]=some (GI n f/\n<=1048576,[iT (atV n f)]):=Ag (fun l=>(DN (nth l 0 0),fun i=>match Bp (nth l 0 0) i 0 with | .v (.int _ x)=>x | _=>0)) (fun _=>rfl) (n,f)
theorem zGx:An Tryz.prog 13 mAt:=by
 refine B6 Al GOk.nil Ak Tryz.func13 rfl Tryz.ntmps13 Tryz.results13 8 ?_;rintro⟨n,f⟩ ⟨a,hn⟩;replace a:GI n f:=a;replace hn:n<=1048576:=hn;refine⟨by simp,?_⟩;by_cases c:n=0
 ·subst c;simp[go_sem,atV]
 have d:¬(n:Int)=0:=by omega
 have b:=a 0 (by omega);simp[go_sem,atV,c,d];exact⟨by omega,by rw[I0 (by omega) (by omega),Int.tmod_eq_emod_of_nonneg b.1]⟩
variable{d:ByteArray}
theorem zAD{AM:Int}{r:Option Nat}(h:FN W (∃i,i<2/\8000<((fun i=>match i with | 0=>x | _=>d) i).size) (∃i,i<0/\¬BX ((fun _=>⟨#[]⟩) i)) 1 (fun i=>match i with | _=>BL W x) (fun i=>match i with | _=>2) r)
 (m:r=none->∃k,Gs W x k/\o=Dc W k (CF W.pool (W.A2 k).rs (W.A2 k).rb AM d W.time)):Ez r o=Eb W x AM d:=by
 have c:(∃i,i<2/\8000<((fun i=>match i with | 0=>x | _=>d:Nat->ByteArray) i).size)↔8000<x.size\/8000<d.size:=by
  constructor
  ·rintro⟨i,hi,g⟩
   match i,hi with
   | 0,_=>exact .inl g
   | 1,_=>exact .inr g
  ·rintro(g | g)
   ·exact⟨0,by omega,g⟩
   ·exact⟨1,by omega,g⟩
 unfold Eb;rcases Sn o h with⟨a,e⟩ | ⟨a,b,e⟩ | ⟨a,b,l,i,hi,j,p,e⟩ | ⟨a,b,l,j,n,e⟩
 ·rw[e,if_pos (c.1 a)]
 ·rw[e,if_neg fun g=>a (c.2 g),if_neg (b.resolve_right fun ⟨_,g,_⟩=>Nat.not_lt_zero _ g)]
 ·rw[e,if_neg fun g=>a (c.2 g),if_pos b,if_neg (show ¬BL W x from j)];rfl
 ·obtain⟨k,f,rfl⟩:=m n;rw[e,if_neg fun g=>a (c.2 g),if_pos b,if_pos (SW f),PX f]
noncomputable def TI:AL:=AY (fun q:(A6×ByteArray)×Int×ByteArray=>[woT q.1.1,sT q.1.2,iT q.2.1,sT q.2.2]) (fun q=>(BK 1 q.1.1/\q.1.2.size<=8000)/\(Lit.int .i64 q.2.1).wf=true/\q.2.2.size<=100000) (fun q=>[wuZ (Eb q.1.1 q.1.2 q.2.1 q.2.2)])
theorem YM(W:A6)(x:ByteArray)(n:Int)(d:ByteArray):TI [woT W,sT x,iT n,sT d]=some ((BK 1 W/\x.size<=8000)/\(Lit.int .i64 n).wf=true/\d.size<=100000,[wuZ (Eb W x n d)]):=Ag (fun l=>((C2 (nth l 0),CO (nth l 1 0)),AS (nth l 2 0),CO (nth l 3 0))) (fun _=>rfl) ((W,x),n,d)
variable{p:Nat->Addr}
theorem zEO(s:D8 w p):Fg Tryz.prog 12 TI w:=by
 refine RT ?_;rintro⟨⟨W,x⟩,n,d⟩ ⟨⟨a,g⟩,hn,c⟩ g0 ys z y;replace a:BK 1 W:=a;replace g:x.size<=8000:=g;replace c:d.size<=100000:=c;obtain⟨F,G,H,I,rfl,⟨E,rfl,f⟩,⟨T,i,t⟩,⟨U,j,u⟩,⟨V,k,v⟩⟩:=zU y;cases i;cases j;cases k;have b:=a.bounds (by omega);obtain⟨A,B,C,D,rfl,q⟩:=QI (by omega) a f;rw[t.1,u.1,v.1];refine(zDB p A B C D 0 w.heap.size W x n d w s q a.wf b.1 b.2.1 b.2.2.1 b.2.2.2 (Nat.le_trans g (by decide)) hn (Nat.le_trans c (by decide))).mono ?_;rintro e w' ⟨r,o,l,m,h⟩;rw[zAD l m]at h;exact qK z h
theorem zF7(h:B4 W)(z:BL W x){y:D9}{ms mb gs gb:Int}(hn:n<64)(s:y.old=BS W.pool (W.A2 (Ay W x)).rs (W.A2 (Ay W x)).rb n 3)(m:New W.pool (W.A2 (Ay W x)).rs (W.A2 (Ay W x)).rb n W.time y.pool y.rs y.rb ms mb gs gb) :
 B4 (Cy W (Ay W x) y)/\IV W (Cy W (Ay W x) y) x 0/\Cm W x=W.A2 (Ay W x)/\Cm (Cy W (Ay W x) y) x=Fd W (Ay W x) y/\
 (∀k:Nat,k<64->lwD (Cy W (Ay W x) y).pool y.rs y.rb k=lwD y.pool y.rs y.rb k)/\∀k:Nat,k<64->(k:Int)≠n->lwD W.pool (W.A2 (Ay W x)).rs (W.A2 (Ay W x)).rb k=lwD (Cy W (Ay W x) y).pool y.rs y.rb k:=by
 obtain⟨k,w⟩:∃k,Ay W x=k:=⟨_,rfl⟩;obtain⟨e,l⟩:=SV z;rw[w]at e l s m ⊢;obtain⟨p,r,f⟩:=zF8 h e hn s m;have o:As W.pool (W.A2 k).rs (W.A2 k).rb:=⟨h.right,(h.A2 k e).1⟩;have c:∀j,j≠k->(Cy W k y).A2 j=W.A2 j:=fun j d=>if_neg d
 have q:(Cy W k y).A2 k=Fd W k y:=if_pos rfl;have u:Cm W x=W.A2 k:=by rw[<-l,Nd h e]
 have v:Cm (Cy W k y) x=Fd W k y:=by
  have:=Nd p (i:=k) e;rw[q]at this;rw[<-l];exact this
 refine⟨p,Ss p (fun i hi b=>?_) (fun i hi _=>?_),u,v,fun j d=>f.AM d,fun j d b=>?_⟩
 ·have a:i≠k:=fun g=>b (by rw[g];exact l)
  have t:=r (W.pn+i) (by unfold memN;omega) (by omega);rw[C4]at t;exact⟨⟨i,hi,by rw[c i a],by rw[c i a],by rw[c i a]⟩,t⟩
 ·have t:=r i (by unfold memN;omega) (by omega);rw[CH hi]at t;exact⟨⟨i,hi,rfl,rfl,rfl⟩,t⟩
 ·rw[f.AM d];exact m.same o j d b
theorem zDS{k:Nat}{y:D9}:(y.code≠0/\Dc W k y=BP y.code)\/(y.code=0/\Dc W k y=⟨Cy W k y,0,((DZ W k y).length:Int),0⟩):=by
 unfold Dc;by_cases h:y.code=0
 ·exact .inr ⟨h,if_pos h⟩
 ·exact .inl ⟨h,if_neg h⟩
theorem zBm{AM:Int}(e:Eb W x AM d=o):(o.code≠0/\Fs o o)\/(o.code=0/\Fs o o/\B4 W/\(B4 o.world/\IV W o.world x 0)/\∃n:Nat,AM=n/\n<64/\lwD o.world.pool (Cm o.world x).rs (Cm o.world x).rb n=d/\
 ∀k:Nat,k<64->(k:Int)≠n->lwD W.pool (Cm W x).rs (Cm W x).rb k=lwD o.world.pool (Cm o.world x).rs (Cm o.world x).rb k):=by
 have t:BK 1 o.world:=e▸(RI W x AM d).up;have a:∀c,c≠0->o=BP c->o.code≠0/\Fs o o:=fun c f h=>by subst h;exact⟨f,Si f⟩
 unfold Eb at e;split at e
 ·exact .inl (a 2 (by decide) e.symm)
 split at e
 ·rename_i m
  split at e
  ·rename_i B
   rcases zDS (W:=W) (k:=Ay W x) (y:=CF W.pool (W.A2 (Ay W x)).rs (W.A2 (Ay W x)).rb AM d W.time)with⟨f,h⟩ | ⟨f,h⟩
   ·rw[h]at e;exact .inl (a _ f e.symm)
   ·rw[h]at e;obtain⟨u,n,hn,A,C,z,ms,mb,gs,gb,l,v,g⟩:=Vy f;obtain⟨p,hK,q,j,r,s⟩:=zF7 m B hn z l;subst e;refine .inr ⟨rfl,UH rfl p t,m,⟨p,hK⟩,n,A,hn,?_,fun k w i=>?_⟩
    ·rw[j];refine(r n hn).trans ?_;have b:=l.pages u hn;rw[if_pos rfl,if_pos rfl]at b;unfold lwD;rw[b.1,b.2,if_neg v];exact g
    ·rw[q,j];exact s k w i
  ·exact .inl (a 4 (by decide) e.symm)
 ·exact .inl (a 1 (by decide) e.symm)
theorem Tj{w':World}{g g':Nat->Bs}(h:D8 w p)(d:∀b,∃r,g b = .fz r)(a:Kp w g w' g'):D8 w' p:=
 h.A1 ⟨a.os,a.tape,a.output,a.size,fun b c=>let ⟨r,hr⟩:=d b;(a.fz b r hr c).1⟩
set_option linter.unusedSimpArgs false
set_option maxRecDepth 20000
set_option maxHeartbeats 3200000
attribute [go_sem] Bd
attribute [-go_sem] Bd
attribute [local go_sem] Kg zAy
def PC:ByteArray:=⟨#[97,32,112,97,103,101,32,111,102,32,49,54,32,98,121,116]⟩
noncomputable def T3:AL:=AY (fun q:(Nat×(Nat->Int))×Nat×(Nat->Int)=>[byT q.1.1 q.1.2,byT q.2.1 q.2.2]) (fun q=>GI q.1.1 q.1.2/\GI q.2.1 q.2.2) (fun _=>tT)
theorem zO(N:D8 w p):Fg Tryz.prog 3 T3 w:=by
 refine zDN Al (fun g0 R w' g i=>Bi.putA (by decide) (zFU (Tj N R i)) (AE Tryz.func5 rfl rfl) (Bi.putA (by decide) (zEO (Tj N R i)) (AE Tryz.func12 rfl rfl) (Bi.putA (by decide) (zDY _) (AE Tryz.func6 rfl rfl) (Bi.putA (by decide) (zDW _) (AE Tryz.func9 rfl rfl) (Bi.putA (by decide) (VM _) (AE Tryz.func10 rfl rfl) (Bi.putA (by decide) (zGx _) (AE Tryz.func13 rfl rfl) (Bi.putK (by decide) (zD5 _) (AE Tryz.func4 rfl rfl) (Bi.putA (by decide) (YV _) (AE Tryz.func7 rfl rfl) (Bi.putA (by decide) (X9 _) (AE Tryz.func8 rfl rfl) (Bi.putA (by decide) (V5 _) (AE Tryz.func11 rfl rfl) (Bi.putA (by decide) (FK _) (AE Tryz.func14 rfl rfl) Bi.nil))))))))))) Ak Tryz.func3 rfl Tryz.ntmps3 Tryz.results3 16 ?_;rintro⟨⟨n,f⟩,m,h⟩ ⟨G,s⟩;replace G:GI n f:=G;replace s:GI m h:=s;refine⟨by simp,?_⟩;by_cases b1:1048576<n
 ·simp[go_sem,show(1048576:Int)<n by omega]
 by_cases b2:1048576<m
 ·simp[go_sem,show ¬(1048576:Int)<n by omega,show(1048576:Int)<m by omega]
 have q1:¬(1048576:Int)<n:=by omega
 have K:¬(1048576:Int)<m:=by omega
 have U:m<=1048576:=by omega
 have q:NM n f:=⟨by omega,G⟩;obtain⟨⟨W,x,a⟩,b⟩:∃d,Fa n f=d:=⟨_,rfl⟩;have v:BK 1 W:=by have:=(UO (Vm q.1 q.2)).2;unfold Fa at b;rw[(Prod.mk.inj b).1]at this;exact this
 have I:x.size<=8000:=by unfold Fa at b;rw[<-(Prod.mk.inj (Prod.mk.inj b).2).1];exact zBZ _
 have H:a.size<=8000:=by unfold Fa at b;rw[<-(Prod.mk.inj (Prod.mk.inj b).2).2];exact zDJ _
 have j:=v.CG (c:=1) (by omega);obtain⟨O,l⟩:∃O,Ef W x a=O:=⟨_,rfl⟩;have F:BK 1 O.world:=l▸(MP W x a).up;have V:=(F.CG (c:=1) (by omega)).toSmallW;rcases zA4 l with⟨r,y⟩ | ⟨r,y,z,⟨A,B⟩,o6,s1,s2,s3,L⟩
 ·simp[go_sem,q1,K,RN,Qg,Oh,Ux O O,q,b,v,I,H,j,l,r,y];refine⟨by kernel_rfl,?_⟩;show _=true;kernel_rfl
 ·have M:=Ux O O;simp only[wuL,r]at M;obtain⟨S,u⟩:∃S,DH O.world O.id=S:=⟨_,rfl⟩;obtain⟨D,t⟩:∃D,Cm W x=D:=⟨_,rfl⟩;have Y:As W.pool D.rs D.rb:=⟨z.right,t▸Vj z _⟩;have Z:As O.world.pool S.rs S.rb:=⟨A.right,u▸Xn A _⟩;rw[u]at s1 s2 s3 L;rw[t]at s3 L;have T:∀k:Nat,k<64->(k:Int)≠-1->lwD W.pool D.rs D.rb k=lwD O.world.pool S.rs S.rb k:=fun k _ _=>by rw[o6,s3,L]
  obtain⟨g,E⟩:∃g,atV m h=g:=⟨_,rfl⟩;have Q:(Lit.int .i64 g).wf=true:=(by have:=E▸zHd (n:=m) (f:=h);exact wf_i64 (by omega) (by omega));obtain⟨P,o⟩:∃P,Eb O.world x g PC=P:=⟨_,rfl⟩;have gP:BK 1 P.world:=o▸(RI O.world x g PC).up;have X:=(gP.CG (c:=1) (by omega)).toSmallW;have e:PC.size<=100000:=(by decide);unfold PC at o e;rcases zBm o with⟨C,p2⟩ | ⟨C,p2,p3,⟨p4,p5⟩,-⟩
  ·have J:(P.code != 0)=true:=(by simp[C]);simp[go_sem,q1,K,U,RN,Qg,Oh,M,OS W O.world,RQ O.world,Qf W x,OT W.pool D.rs D.rb O.world.pool,Zt,YM O.world,CE P.world,OS O.world P.world,q,b,v,I,H,j,l,F,r,y,z,A,B,u,t,s1,s2,Y,Z,s,E,Q,e,o,C,J,V,X,j.toSmallW];refine⟨by kernel_rfl,B,fun k i=>T k i (by omega),?_⟩
   repeat refine⟨by kernel_rfl,?_⟩
   show _=true;kernel_rfl
  ·simp[go_sem,q1,K,U,RN,Qg,Oh,M,OS W O.world,OS O.world P.world,RQ O.world,Qf W x,OT W.pool D.rs D.rb O.world.pool,Zt,YM O.world,CE P.world,q,b,v,I,H,j,l,F,r,y,z,A,B,u,t,s1,s2,Y,Z,s,E,Q,e,o,C,p3,p4,p5,V,X,j.toSmallW];refine⟨by kernel_rfl,B,fun k i=>T k i (by omega),?_⟩
   repeat refine⟨by kernel_rfl,?_⟩
   show _=true;kernel_rfl
theorem zBM(d h:Option Addr)(n0 c0 a c1:Nat)(w:World)(s:Le w d n0)(t:Le w h a)(j:n0<=c0)(m:a<=c1)(B:D8 w p) :
 Calls Tryz.prog 3 #[.slice d n0 c0,.slice h a c1] w fun e w'=>e = .returned (.bool true)/\Below w.heap.size w w':=by
 obtain⟨f,D,G⟩:=VF s j;obtain⟨g,E,sg⟩:=VF t m;have r:T3 [byT n0 f,byT a g]=some (GI n0 f/\GI a g,tT):=Ag (fun l=>((DN (nth l 0 0),fun i=>match Bp (nth l 0 0) i 0 with | .v (.int _ x)=>x | _=>0),DN (nth l 1 0),fun i=>match Bp (nth l 1 0) i 0 with | .v (.int _ x)=>x | _=>0)) (fun _=>rfl) ((n0,f),a,g);refine(zO B _ _ _ r ⟨D,E⟩ (fun _=>.fz none) [.slice d n0 c0,.slice h a c1] (fun b=>⟨none,rfl⟩) (.cons ⟨_,rfl,G⟩ (.cons ⟨_,rfl,sg⟩ .nil))).mono ?_;rintro e w' ⟨v,k,rfl,c,ys,F,hv⟩;obtain⟨y,I,cs,rfl,o,n,q⟩:=F;cases q;cases hv;obtain⟨u,H,rfl,z,A⟩:=n;cases A;cases o;refine⟨by rw[z.1],⟨c.os,c.tape,c.output,c.size,fun b C=>(c.fz b none rfl C).1⟩⟩
end Go.Proofs.YtddigaohmfpepaaGreatDoor
