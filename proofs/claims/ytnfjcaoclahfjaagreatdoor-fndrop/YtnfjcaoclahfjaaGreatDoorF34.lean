/- A part of the proof. -/
import Derived.Test.YtnfjcaoclahfjaaGreatDoorF33
set_option linter.unusedVariables false
set_option maxRecDepth 20000
set_option maxHeartbeats 4000000
namespace Go.Proofs.YtnfjcaoclahfjaaGreatDoor
open Go.RowKit
set_option linter.unusedSimpArgs false
set_option maxRecDepth 20000
set_option maxHeartbeats 3200000
attribute [-go_sem] BV
structure Gr (x y:BQ):Prop where
 code:x.code=y.code
 id:x.id=y.id
 many:x.many=y.many
 no:x.code≠0->x.world.sn=0/\x.world.pool.n=0
 ok:x.code=0->Ab x.world
 good:B8 1 x.world
noncomputable def qP:AH:=AR (fun q:BQ×BQ=>[wuL q.1,wuL q.2]) (fun q=>Gr q.1 q.2) (fun _=>tT)
theorem Ty(x y:BQ):qP [wuL x,wuL y]=some (Gr x y,tT):=Aa (fun l=>(Zt (nth l 0),Zt (nth l 1))) (fun _=>rfl) (x,y)
theorem zM:Ag Tryz.prog 6 qP:=by
 refine Au Ai (GOk.cons FH (AA Tryz.func20 rfl rfl) (GOk.cons zIO (AA Tryz.func21 rfl rfl) GOk.nil)) Ah Tryz.func6 rfl Tryz.ntmps6 Tryz.results6 6 ?_;rintro⟨x,y⟩ e;replace e:Gr x y:=e;obtain⟨f,g,h,k,l,i⟩:=e;have j:=(i.Bo (c:=1) (by omega)).toSmallW;refine⟨by simp,?_⟩;by_cases d:x.code=0
 ·have m:=l d;simp[go_sem,Bu,SO,<-f,<-g,<-h,d,m,i,j]
 ·obtain⟨a,b⟩:=k d;simp[go_sem,Bu,SO,<-f,<-g,<-h,d,a,b]
theorem zHN{c:Int}(a:c≠0):Gr (BL c) (BL c):=⟨rfl,rfl,rfl,fun _=>⟨rfl,rfl⟩,fun h=>absurd h a,GC (e:=c)⟩
theorem zFu{o:BQ}(h:o.code=0)(b:Ab o.world)(a:B8 1 o.world):Gr o o:=⟨rfl,rfl,rfl,fun g=>absurd h g,fun _=>b,a⟩
theorem zGf{W V:A4}(f:Ab V){x:ByteArray}{y:Int}
 (g:∀i,i<W.sn->(W.A2 i).name≠x->(∃j,j<V.sn/\(V.A2 j).name=(W.A2 i).name/\(V.A2 j).rs=(W.A2 i).rs/\(V.A2 j).rb=(W.A2 i).rb)/\FV W.pool V.pool (W.A2 i).rs (W.A2 i).rb)
 (h:∀i,i<W.pn->(W.A0 i).id≠y->(∃j,j<V.pn/\(V.A0 j).id=(W.A0 i).id/\(V.A0 j).rs=(W.A0 i).rs/\(V.A0 j).rb=(W.A0 i).rb)/\FV W.pool V.pool (W.A0 i).rs (W.A0 i).rb):JC W V x y:=by
 refine⟨fun i hi hn=>?_,fun i hi hn=>?_⟩
 ·obtain⟨⟨j,d,a,b,c⟩,t⟩:=g i hi hn;rw[<-a,zH4 f d];exact⟨rfl,fun k e=>by rw[b,c];exact(t.page e).symm⟩
 ·obtain⟨⟨j,d,a,b,c⟩,t⟩:=h i hi hn;rw[<-a,zFg f d];exact⟨rfl,fun k e=>by rw[b,c];exact(t.page e).symm⟩
section
variable {W : A4} {k c : Nat}
theorem zIi(h:C0 W k c)(a:Ab W)(x:Int×Int):x∈sdY W (W.A0 k) (A6 W c).dn (A6 W c).ds (A6 W c).db↔(x∈treeM W (A6 W k)/\x∉treeM W (A6 W c))/\(AB W (W.A0 k).A5).time<x.2:=by
 unfold sdY;rw[Ou,List.mem_filter,decide_eq_true_iff,(Ni h a).1]
theorem zFU(h:C0 W k c)(a:Ab W):(sdY W (W.A0 k) (A6 W c).dn (A6 W c).ds (A6 W c).db).length=FE W (W.A0 k).id:=by
 have t:=a.right;have f:=h.BI;have u:k<memN W:=by unfold memN;omega
 have o:AE W.pool (W.A0 k).rs (W.A0 k).rb=treeM W (A6 W k):=by rw[B9 f];rfl
 rw[Oi a,Cn (Iy a.AP f),o];unfold Df;refine((List.perm_ext_iff_of_nodup ?_ ?_).2 fun x=>?_).length_eq
 ·unfold sdY;rw[Ou];exact(Ni h a).2.filter _
 ·exact(show(treeM W (A6 W k)).Nodup by rw[<-o];exact Jr t (a.A0 k f)).filter _
 ·rw[zIi h a,List.mem_filter];simp only[decide_eq_true_eq];constructor
  ·rintro⟨⟨b,i⟩,v⟩;have q:x∈CZ W (A6 W k):=Hz.2 ⟨b,fun e=>by have:=(J9 h a b).1 e;omega⟩;refine⟨b,fun ⟨r,hr,hm⟩=>i ?_⟩;rcases(I7 W.sn).1 hr with⟨j,d,n,rfl⟩ | ⟨j,d,rfl⟩
   ·exact QB h a q (m:=j) (by unfold memN;omega) (fun e=>n (by rw[e])) (by rw[B9 d];exact hm)
   ·exact QB h a q (m:=W.pn+j) (by unfold memN;omega) (by omega) (by rw[By];exact hm)
  ·rintro⟨b,i⟩;refine⟨⟨b,fun g=>i ?_⟩,?_⟩
   ·by_cases l:c<W.pn
    ·rw[B9 l]at g;exact⟨_,(I7 W.sn).2 (.inl ⟨c,l,fun e=>h.ne (TM a.AP l f e),rfl⟩),g⟩
    ·have hn:=h.next;unfold memN at hn;obtain⟨j,rfl⟩:∃j,c=W.pn+j:=⟨c - W.pn,by omega⟩;rw[By]at g;exact⟨_,(I7 W.sn).2 (.inr ⟨j,by omega,rfl⟩),g⟩
   ·refine Int.lt_of_not_ge fun e=>i ?_
    obtain⟨j,d,s⟩:=KJ ((J9 h a b).2 e);rw[B9 d.1]at s;refine⟨_,(I7 W.sn).2 (.inl ⟨j,d.1,fun e=>?_,rfl⟩),s⟩;have p:=d.2.1;rw[B9 f]at p;exact N7 h a (p.symm.trans e)
theorem zH1(h:C0 W k c)(d:Ab W)(u:ByteArray):Ab {sdV W k c with pool:=Ak W.pool (sdY W (W.A0 k) (A6 W c).dn (A6 W c).ds (A6 W c).db)}/\JC W {sdV W k c with pool:=Ak W.pool (sdY W (W.A0 k) (A6 W c).dn (A6 W c).ds (A6 W c).db)} u (W.A0 k).id/\∀j,j<W.pn - 1->((sdV W k c).A0 j).id≠(W.A0 k).id:=by
 have l:=h.BI;obtain⟨g,f⟩:=zH3 h d;refine⟨g,zGf g (fun i hi _=>?_) (fun i hi hn=>?_),fun j a e=>?_⟩
 ·have t:=f (W.pn+i) (by unfold memN;omega) (by omega);rw[By]at t;have s:=Ik h i;exact⟨⟨i,hi,s.1,s.2.2.1,s.2.2.2.1⟩,t⟩
 ·have b:i≠k:=fun e=>hn (by rw[e])
  have t:=f i (by unfold memN;omega) b;rw[B9 hi]at t;obtain⟨j,a,e⟩:=N6 h hi b;have s:=Dx h a;rw[e]at s;exact⟨⟨j,a,s.1,s.2.2.2.2.1,s.2.2.2.2.2.1⟩,t⟩
 ·rw[(Dx h a).1]at e;exact LJ k j (TM d.AP (Mh h a) l e)
end
variable{W:A4}{k i:Nat}
theorem zIb(f:Ab W)(b:k<W.pn)(h:EO W (W.A0 k).id i):C0 W k i where
 BI:=b
 next:=by unfold memN;have:=h.1;omega
 ne:=fun e=>by have l:=f.AP.Cu.less k b;have d:=h.2.1;rw[e]at d;omega
 A5:=by rw[B9 h.1];exact h.2.1
 only:=fun m g a=>by
  by_cases c:m<W.pn
  ·rw[B9 c];exact h.2.2.1 m c a
  ·obtain⟨j,rfl⟩:∃j,m=W.pn+j:=⟨m - W.pn,by omega⟩;rw[By];exact h.2.2.2 j (by unfold memN at g;omega)
theorem zIc(b:k<W.pn)(h:EP W (W.A0 k).id i):C0 W k (W.pn+i) where
 BI:=b
 next:=by unfold memN;have:=h.1;omega
 ne:=by omega
 A5:=by rw[By];exact h.2.1
 only:=fun m c d=>by
  by_cases a:m<W.pn
  ·rw[B9 a];exact h.2.2.2 m a
  ·obtain⟨j,rfl⟩:∃j,m=W.pn+j:=⟨m - W.pn,by omega⟩;rw[By];exact h.2.2.1 j (by unfold memN at c;omega) (by omega)
theorem zGz(hi:i<W.pn):Gj W k i = {sdV W k i with pool:=Ak W.pool (sdY W (W.A0 k) (A6 W i).dn (A6 W i).ds (A6 W i).db)}/\Cz W k i=sdY W (W.A0 k) (A6 W i).dn (A6 W i).ds (A6 W i).db:=by
 rw[B9 hi];have a:E7 W k i=fun j=>if j=i/\j<W.pn then Dj W (W.A0 k) (W.A0 j)else W.A0 j:=by
  funext j;unfold E7;by_cases g:j=i
  ·subst g;rw[if_pos rfl,if_pos ⟨rfl,hi⟩]
  ·rw[if_neg g,if_neg fun e=>g e.1]
 have b:W.A2=fun j=>if W.pn+j=i then E8 W (W.A0 k) (W.A2 j)else W.A2 j:=by
  funext j;rw[if_neg (by omega)]
 refine⟨?_,rfl⟩;show({W with pool:=Ak W.pool (Cz W k i),pn:=W.pn - 1,A0:=del (E7 W k i) k,A2:=W.A2}:A4) = {W with pool:=Ak W.pool (Cz W k i),pn:=W.pn - 1,A0:=del (fun j=>if j=i/\j<W.pn then Dj W (W.A0 k) (W.A0 j)else W.A0 j) k,A2:=fun j=>if W.pn+j=i then E8 W (W.A0 k) (W.A2 j)else W.A2 j};rw[<-a,<-b]
theorem zH0(hi:i<W.sn):Gk W k i = {sdV W k (W.pn+i)with pool:=Ak W.pool (sdY W (W.A0 k) (A6 W (W.pn+i)).dn (A6 W (W.pn+i)).ds (A6 W (W.pn+i)).db)}/\D2 W k i=sdY W (W.A0 k) (A6 W (W.pn+i)).dn (A6 W (W.pn+i)).ds (A6 W (W.pn+i)).db:=by
 rw[By];have a:W.A0=fun j=>if j=W.pn+i/\j<W.pn then Dj W (W.A0 k) (W.A0 j)else W.A0 j:=by
  funext j;rw[if_neg (by omega)]
 have b:Fs W k i=fun j=>if W.pn+j=W.pn+i then E8 W (W.A0 k) (W.A2 j)else W.A2 j:=by
  funext j;unfold Fs;by_cases g:j=i
  ·subst g;rw[if_pos rfl,if_pos rfl]
  ·rw[if_neg g,if_neg (by omega)]
 refine⟨?_,rfl⟩;show({W with pool:=Ak W.pool (D2 W k i),pn:=W.pn - 1,A0:=del W.A0 k,A2:=Fs W k i}:A4) = {W with pool:=Ak W.pool (D2 W k i),pn:=W.pn - 1,A0:=del (fun j=>if j=W.pn+i/\j<W.pn then Dj W (W.A0 k) (W.A0 j)else W.A0 j) k,A2:=fun j=>if W.pn+j=W.pn+i then E8 W (W.A0 k) (W.A2 j)else W.A2 j};rw[<-a,<-b]
theorem zFW{x:Int}{o:BQ}(e:sdE W x=o):(o.code≠0/\Gr o o)\/(o.code=0/\Gr o o/\Ab W/\(Ab o.world/\JC W o.world ByteArray.empty x)/\o.many=(FE W x:Nat)/\(GY o.world x).id=0):=by
 have s:B8 1 o.world:=e▸(Q2 W x).up;have a:∀c,c≠0->o=BL c->o.code≠0/\Gr o o:=fun c d h=>by subst h;exact⟨d,zHN d⟩
 unfold sdE at e;split at e
 ·rename_i b
  split at e
  ·rename_i p
   split at e
   ·exact .inl (a 7 (by decide) e.symm)
   ·rename_i t
    obtain⟨k,n⟩:∃k,FQ W x=k:=⟨_,rfl⟩;have l:k<W.pn/\(W.A0 k).id=x:=by
     obtain⟨j,m,rfl⟩:=p;rw[<-n,UG (Iy b.AP m)];exact⟨m,rfl⟩
    obtain⟨f,rfl⟩:=l;rw[n]at e;have u:=U3 ((FA W).2 b) p;have v:=Vc W (W.A0 k).id;have key:∀(c:Nat) (V:A4) (Y:List (Int×Int)),C0 W k c->V = {sdV W k c with pool:=Ak W.pool (sdY W (W.A0 k) (A6 W c).dn (A6 W c).ds (A6 W c).db)}/\Y=sdY W (W.A0 k) (A6 W c).dn (A6 W c).ds (A6 W c).db->o=⟨V,0,(Y.length:Int),0⟩->o.code=0/\Gr o o/\Ab W/\(Ab o.world/\JC W o.world ByteArray.empty (W.A0 k).id)/\o.many=(FE W (W.A0 k).id:Nat)/\(GY o.world (W.A0 k).id).id=0:=by
     rintro c V Y d ⟨rfl,rfl⟩ rfl;obtain⟨g,q,r⟩:=zH1 d b ByteArray.empty;refine⟨rfl,zFu rfl g s,b,⟨g,q⟩,by rw[<-zFU d b],?_⟩;rw[YC g,Jp r];rfl
    rcases PO (W:=W) (x:=(W.A0 k).id) (by omega)with⟨i,hi⟩ | ⟨i,hi⟩
    ·exact .inr (key i _ _ (zIb b f hi) (zGz hi.1) (e.symm.trans (PH (.inl ⟨i,hi,rfl⟩))))
    ·exact .inr (key (W.pn+i) _ _ (zIc f hi) (zH0 hi.1) (e.symm.trans (PH (.inr ⟨i,hi,rfl⟩))))
  ·exact .inl (a 4 (by decide) e.symm)
 ·exact .inl (a 1 (by decide) e.symm)
noncomputable def Ss:AH:=AR (fun q:A4×Int=>[woT q.1,iT q.2]) (fun q=>B8 1 q.1/\-1000000000000000000<=q.2/\q.2<=1000000000000000000) (fun q=>[iT (FE q.1 q.2:Nat)])
theorem zA9(W:A4)(x:Int):Ss [woT W,iT x]=some (B8 1 W/\-1000000000000000000<=x/\x<=1000000000000000000,[iT (FE W x:Nat)]):=Aa (fun l=>(BW (nth l 0),AO (nth l 1 0))) (fun _=>rfl) (W,x)
theorem zY:Ag Tryz.prog 8 Ss:=fun w=>by
 refine OY ?_;rintro⟨W,x⟩ ⟨a,b⟩ g0 ys j i;replace a:B8 1 W:=a;obtain⟨y,n,rfl,d,⟨T,c,g⟩⟩:=FD i;cases c;obtain⟨k,v1,l,m,rfl,f⟩:=Qj (by omega) a d;rw[g.1];refine(zCY k v1 l m 0 w.heap.size W x w f (Nat.le_refl _) a.wf (wf_i64 b.1 b.2)).mono ?_;rintro e w' ⟨rfl,h⟩;exact zGp j h
variable{w:World}{p:Nat->Addr}
theorem zGU{w':World}{g g':Nat->Bs}(h:Do w p)(d:∀b,∃r,g b = .fz r)(a:Kp w g w' g'):Do w' p:=
 h.A1 ⟨a.os,a.tape,a.output,a.size,fun b c=>let ⟨r,hr⟩:=d b;(a.fz b r hr c).1⟩
set_option linter.unusedSimpArgs false
set_option maxRecDepth 20000
set_option maxHeartbeats 3200000
theorem zDp{P:Program}{f:Nat}{ι : Type}{A:ι->List (Bool×List Tr)}{C:ι->Prop}{R:ι->List (Bool×List Tr)}{T:Tb}{Γ : List (Nat×AH)}(i:D9 P T)(hΓ : ∀g0,(∀b,∃r,g0 b = .fz r)->Gp P Γ w ⟨g0,none⟩)(o:P.follows .mixedOrders=true){fn:Func}{body:Code}{N:Nat}{rv:Array ResultVar}(m:P.funcs[f]?=some fn)(j:fn.body=some body)(g:fn.ntmps=N)(d:fn.results=rv)(n:Nat)
 (h:∀x,C x->(A x).length<=N/\ev N T Γ n body ⟨Dh 0 (A x),[]⟩ (K4 T rv.toList (R x))):G9 P f (AR A C R) w:=by
 refine YW i hΓ o m j g d n (fun l c rs a k=>?_);unfold AR at a;split at a
 ·rename_i e
  cases a;have:=h e.choose k;rw[e.choose_spec]at this;exact this
 ·cases a
def Ml(n:Nat)(f:Nat->Int):Prop:=∀i,i<n->0<=f i/\f i<256
def NW(w:World)(a:Option Addr)(n:Nat):Prop:=0<n->∃b o,a=some ⟨b,o,none⟩/\b<w.heap.size/\∀i,i<n->∃x:Int,w.cell? ⟨b,o+i,none⟩=some (.int .u8 x)/\0<=x/\x<256
open Classical in
theorem zE8{a:Option Addr}{n c:Nat}(h:NW w a n)(k:n<=c):∃f,Ml n f/\Sh w (fun _=>.fz none) (.s .z 1 n (GR f)) (.slice a n c):=by
 by_cases g:0<n
 ·obtain⟨b,o,rfl,m,d⟩:=h g;refine⟨fun i=>if hi:i<n then(d i hi).choose else 0,fun i hi=>?_,_,_,rfl,k,fun _=>⟨b,o,rfl,m,.inr (fun l e=>by cases e),fun i j hi p=>?_⟩⟩
  ·simp only[dif_pos hi];exact(d i hi).choose_spec.2
  ·cases (show j=0 by omega);refine⟨_,by rw[Nat.mul_one,Nat.add_zero];exact(d i hi).choose_spec.1,?_,rfl⟩;simp only[dif_pos hi]
 ·exact⟨fun _=>0,fun i hi=>by omega,_,_,rfl,k,fun h=>absurd h g⟩
set_option maxRecDepth 20000
set_option maxHeartbeats 3200000
attribute [go_sem] BV
attribute [-go_sem] BV
attribute [local go_sem] ME
noncomputable def Sx:AH:=AR (fun q:Nat×(Nat->Int)=>[byT q.1 q.2]) (fun q=>Ml q.1 q.2) (fun _=>tT)
theorem zR(y:Do w p):G9 Tryz.prog 3 Sx w:=by
 refine zDp Ai (fun g0 A w' g z=>Ba.putA (by decide) (zIA (zGU y A z)) (AA Tryz.func5 rfl rfl) (Ba.putA (by decide) (zM _) (AA Tryz.func6 rfl rfl) (Ba.putA (by decide) (zJ _) (AA Tryz.func10 rfl rfl) (Ba.putK (by decide) (zDD _) (AA Tryz.func4 rfl rfl) (Ba.putA (by decide) (YY _) (AA Tryz.func7 rfl rfl) (Ba.putA (by decide) (zY _) (AA Tryz.func8 rfl rfl) (Ba.putA (by decide) (zDy _) (AA Tryz.func9 rfl rfl) (Ba.putA (by decide) (zn _) (AA Tryz.func11 rfl rfl) Ba.nil)))))))) Ah Tryz.func3 rfl Tryz.ntmps3 Tryz.results3 16 ?_;rintro⟨n,f⟩ l;replace l:Ml n f:=l;refine⟨by simp,?_⟩;by_cases E:1048576<n
 ·simp[go_sem,show(1048576:Int)<n by omega]
 have q1:¬(1048576:Int)<n:=by omega
 have b:NX n f:=⟨by omega,l⟩;obtain⟨⟨W,x⟩,a⟩:∃d,Gz n f=d:=⟨_,rfl⟩;have m:B8 1 W:=by have:=(QA (Qe b.1 b.2)).2;unfold Gz at a;rw[(Prod.mk.inj a).1]at this;exact this
 have i:-1000000000000000000<=x/\x<=1000000000000000000:=by unfold Gz at a;rw[<-(Prod.mk.inj a).2];exact zHv (QA (Qe b.1 b.2)).2
 have e:=wf_i64 i.1 i.2;have k:=m.Bo (c:=1) (by omega);obtain⟨O,h⟩:∃O,sdE W x=O:=⟨_,rfl⟩;have q:B8 1 O.world:=h▸(Q2 W x).up;have D:=(q.Bo (c:=1) (by omega)).toSmallW;rcases zFW h with⟨j,o⟩ | ⟨j,o,B,⟨C,s⟩,t,u⟩
 ·simp[go_sem,q1,XH,SK,PC,Ty O O,b,a,m,i,e,k,h,j,o];refine⟨by kernel_rfl,?_⟩;show _=true;kernel_rfl
 ·have v:=Ty O O;simp only[wuL,j,t]at v;obtain⟨S,r⟩:∃S,GY O.world x=S:=⟨_,rfl⟩;rw[r]at u;simp[go_sem,q1,XH,SK,PC,v,zAB W O.world,zA9 W,zN W,zBE O.world,b,a,m,i,e,k,h,q,j,o,B,C,s,t,u,r,D,k.toSmallW];refine⟨by kernel_rfl,s,?_⟩;show _=true;kernel_rfl
theorem zBa(c:Option Addr)(n0 c0:Nat)(w:World)(n:NW w c n0)(d:n0<=c0)(r:Do w p) :
 Calls Tryz.prog 3 #[.slice c n0 c0] w fun e w'=>e = .returned (.bool true)/\Below w.heap.size w w':=by
 obtain⟨f,t,A⟩:=zE8 n d;have m:Sx [byT n0 f]=some (Ml n0 f,tT):=Aa (fun l=>(DI (nth l 0 0),fun i=>match Bk (nth l 0 0) i 0 with | .v (.int _ x)=>x | _=>0)) (fun _=>rfl) (n0,f);refine(zR r _ _ _ m t (fun _=>.fz none) [.slice c n0 c0] (fun b=>⟨none,rfl⟩) (.cons ⟨_,rfl,A⟩ .nil)).mono ?_;rintro e w' ⟨v,k,rfl,a,ys,z,hv⟩;obtain⟨y,C,cs,rfl,h,g,j⟩:=z;cases j;cases hv;obtain⟨u,B,rfl,o,q⟩:=g;cases q;cases h;refine⟨by rw[o.1],⟨a.os,a.tape,a.output,a.size,fun b s=>(a.fz b none rfl s).1⟩⟩
end Go.Proofs.YtnfjcaoclahfjaaGreatDoor
