/- A part of the proof. -/
import Derived.Test.YtddigaohmfpepaaGreatDoorF15
set_option linter.unusedVariables false
set_option maxRecDepth 20000
set_option maxHeartbeats 4000000
namespace Go.Proofs.YtddigaohmfpepaaGreatDoor
open Go.RowKit Go.Maps
section
variable {W V : A6} {k : Nat} {name : ByteArray}
variable{x:Int}
theorem NC(a:DD W)(h:x≠0->CK W x):x<W.next:=by
 by_cases e:x=0
 ·have:1<=W.next:=a.2.1.1;omega
 ·obtain⟨j,b,c⟩:=h e;have:=(a.2.2.2.2.2 j b).1.2.1;omega
theorem Nr(a:DD W){i:Nat}(hi:i<memN W):(AA W i).A8<W.next:=by
 by_cases b:i<W.pn
 ·rw[CH b];exact NC a fun e=>((a.2.2.2.2.2 i b).2.1.2 e).2
 ·obtain⟨j,rfl⟩:∃j,i=W.pn+j:=⟨i - W.pn,by omega⟩;rw[C4];exact NC a (a.2.2.2.2.1 j (by unfold memN at hi;omega)).2.2.1
structure Dy (W V:A6) (k:Nat) (name:ByteArray):Prop where
 pool:V.pool=W.pool
 time:V.time=W.time+1
 next:V.next=W.next+1
 sn:V.sn=W.sn
 pn:V.pn=W.pn+1
 old:∀j,j<W.pn->V.A3 j=W.A3 j
 new:V.A3 W.pn=Ed W k name (W.A2 k).name
 at':V.A2 k = {W.A2 k with A8:=W.next,dn:=0}
 rest:∀j,j≠k->V.A2 j=W.A2 j
theorem Dy.no(g:Dy W V k name)(f:DD W)(h:x<W.next)(j:Nat):BW V x j↔BW W x j:=by
 unfold BW;rw[g.pn];constructor
 ·rintro⟨c,a,b⟩;have d:j<W.pn:=by
   refine Nat.lt_of_le_of_ne (by omega) fun e=>?_
   subst e;rw[g.new]at a;have:W.next=x:=a;omega
  rw[g.old j d]at a;exact⟨d,a,fun i hi=>by rw[<-g.old i (by omega)];exact b i hi⟩
 ·rintro⟨c,a,b⟩;exact⟨by omega,by rw[g.old j c];exact a,fun i hi=>by rw[g.old i (by omega)];exact b i hi⟩
theorem Dy.noNew(g:Dy W V k name)(a:DD W):BW V W.next W.pn:=by
 refine⟨by rw[g.pn];omega,by rw[g.new];rfl,fun i hi=>?_⟩;rw[g.old i hi];have:=(a.2.2.2.2.2 i hi).1.2.1;omega
theorem Dy.ahead(g:Dy W V k name)(b:DD W)(c:x<W.next):AI V x=AI W x:=by
 by_cases h:∃j,BW W x j
 ·obtain⟨j,a⟩:=h;rw[DW a,DW ((g.no b c j).2 a),g.old j a.1]
 ·unfold AI;rw[dif_neg h,dif_neg fun ⟨j,a⟩=>h ⟨j,(g.no b c j).1 a⟩]
theorem Dy.aheadNew(g:Dy W V k name)(a:DD W):AI V W.next=Ed W k name (W.A2 k).name:=by rw[DW (g.noNew a),g.new]
theorem Dy.treeM(g:Dy W V k name)(m:Cq):treeM V m=Go.Proofs.YtddigaohmfpepaaGreatDoor.treeM W m:=by unfold Go.Proofs.YtddigaohmfpepaaGreatDoor.treeM;rw[g.pool]
theorem Dy.oldM(g:Dy W V k name)(a:DD W){m:Cq}(h:m.A8<W.next):oldM V m=Go.Proofs.YtddigaohmfpepaaGreatDoor.oldM W m:=by unfold Go.Proofs.YtddigaohmfpepaaGreatDoor.oldM;rw[g.ahead a h,g.pool]
theorem Dy.memN(g:Dy W V k name):memN V=Go.Proofs.YtddigaohmfpepaaGreatDoor.memN W+1:=by unfold Go.Proofs.YtddigaohmfpepaaGreatDoor.memN;rw[g.sn,g.pn];omega
def lone(W:A6)(k:Nat):Cq:=⟨W.next,W.time+1,(W.A2 k).rs,(W.A2 k).rb,0,(W.A2 k).ds,(W.A2 k).db⟩
theorem Dy.mem(g:Dy W V k name)(d:k<W.sn){i:Nat}(hi:i<Go.Proofs.YtddigaohmfpepaaGreatDoor.memN V):(i=W.pn+1+k/\AA V i=lone W k)\/(i≠W.pn+1+k/\∃j t,j<Go.Proofs.YtddigaohmfpepaaGreatDoor.memN W/\j=(if i<W.pn then i else if i=W.pn then W.pn+k else i - 1)/\AA V i = {AA W j with time:=t}/\(AA W j).time<=t):=by
 rw[g.memN]at hi;have c:W.pn+k<Go.Proofs.YtddigaohmfpepaaGreatDoor.memN W:=by unfold Go.Proofs.YtddigaohmfpepaaGreatDoor.memN;omega
 by_cases a:i<W.pn
 ·refine .inr ⟨by omega,i,_,by unfold Go.Proofs.YtddigaohmfpepaaGreatDoor.memN;omega,(if_pos a).symm,?_,Int.le_refl _⟩;rw[CH (by rw[g.pn];omega),CH a,g.old i a]
 by_cases b:i=W.pn
 ·subst b;refine .inr ⟨by omega,W.pn+k,_,c,by rw[if_neg a,if_pos rfl],?_,Int.le_refl _⟩;rw[CH (by rw[g.pn];omega),g.new,C4];rfl
 obtain⟨j,rfl⟩:∃j,i=V.pn+j:=⟨i - V.pn,by rw[g.pn];omega⟩;rw[C4,g.time];rw[g.pn]at hi a b ⊢;by_cases e:j=k
 ·subst e;exact .inl ⟨rfl,by rw[g.at'];rfl⟩
 ·refine .inr ⟨by omega,W.pn+j,W.time+1,by omega,by rw[if_neg a,if_neg b];omega,?_,?_⟩
  ·rw[g.rest j e,C4];rfl
  ·rw[C4];show W.time<=_;omega
theorem Dy.spec(g:Dy W V k name)(h:B4 W)(A:k<W.sn)(hn:BX name)(P:¬∃i,i<W.pn/\(W.A3 i).set=(W.A2 k).name/\(W.A3 i).name=name)(hp:W.pn<20)(ht:W.time<900000)(hx:W.next<900000):B4 V:=by
 have F:=h.toU;have f:=h.Aq;have O:W.pn+k<Go.Proofs.YtddigaohmfpepaaGreatDoor.memN W:=by unfold Go.Proofs.YtddigaohmfpepaaGreatDoor.memN;omega
 have w:∀x,CK W x->CK V x:=fun x ⟨j,a,e⟩=>⟨j,by rw[g.pn];omega,by rw[g.old j a];exact e⟩
 have B:∀i,(V.A2 i).name=(W.A2 i).name/\(V.A2 i).origin=(W.A2 i).origin/\(V.A2 i).rs=(W.A2 i).rs/\(V.A2 i).rb=(W.A2 i).rb:=fun i=>by
  by_cases e:i=k
  ·subst e;rw[g.at'];exact⟨rfl,rfl,rfl,rfl⟩
  ·rw[g.rest i e];exact⟨rfl,rfl,rfl,rfl⟩
 have D:∀x,BL W x->BL V x:=fun x ⟨j,a,e⟩=>⟨j,by rw[g.sn];exact a,by rw[(B j).1];exact e⟩
 have l:Go.Proofs.YtddigaohmfpepaaGreatDoor.oldM V (lone W k)=Go.Proofs.YtddigaohmfpepaaGreatDoor.treeM W (lone W k):=by
  unfold Go.Proofs.YtddigaohmfpepaaGreatDoor.oldM;show AG V.pool (AI V W.next).rs (AI V W.next).rb=_;rw[g.aheadNew f,g.pool];rfl
 have C:∀i,i<Go.Proofs.YtddigaohmfpepaaGreatDoor.memN V->∀x,x∈CB V (AA V i)->∃j,j<Go.Proofs.YtddigaohmfpepaaGreatDoor.memN W/\i≠W.pn+1+k/\j=(if i<W.pn then i else if i=W.pn then W.pn+k else i - 1)/\x∈CB W (AA W j):=fun i hi x c=>by
  rcases g.mem A hi with⟨-,e⟩ | ⟨o,j,t,a,u,e,-⟩
  ·rw[e]at c;have:=Gx.1 c;rw[l,g.treeM]at this;exact absurd this.1 this.2
  ·refine⟨j,a,o,u,?_⟩;rw[e]at c;have:=Gx.1 c;rw[g.oldM f (show({AA W j with time:=t}:Cq).A8<W.next from Nr f a),g.treeM]at this;exact Gx.2 this
 have p:∀i,i<Go.Proofs.YtddigaohmfpepaaGreatDoor.memN V->DU V i:=fun i hi=>by
  unfold DU;rcases g.mem A hi with⟨-,e⟩ | ⟨o,j,t,a,u,e,-⟩
  ·rw[e,l,g.treeM,zN];exact zDt _ _ _ _
  ·rw[e,g.oldM f (show({AA W j with time:=t}:Cq).A8<W.next from Nr f a),g.treeM];exact F.deadOf a
 have r:∀i,i<Go.Proofs.YtddigaohmfpepaaGreatDoor.memN V->B3 V.pool (AA V i).rs (AA V i).rb:=fun i hi=>by
  rw[g.pool];rcases g.mem A hi with⟨-,e⟩ | ⟨o,j,t,a,u,e,-⟩
  ·rw[e];exact(h.A2 k A).1
  ·rw[e];exact F.mem a
 have K:∀i,i<V.sn->V.pn+i<Go.Proofs.YtddigaohmfpepaaGreatDoor.memN V:=fun i hi=>by unfold Go.Proofs.YtddigaohmfpepaaGreatDoor.memN;omega
 have J:∀i,i<V.pn->i<Go.Proofs.YtddigaohmfpepaaGreatDoor.memN V:=fun i hi=>by unfold Go.Proofs.YtddigaohmfpepaaGreatDoor.memN;omega
 refine⟨by rw[g.pool];exact h.right,?_,fun i hi=>?_,fun i hi=>?_,fun i hi=>⟨?_,p _ (K i hi)⟩,fun i hi=>p i (J i hi),fun i hi=>?_,fun i hi=>?_,?_⟩
 ·obtain⟨⟨a1,a2⟩,⟨a3,a4⟩,a5,a6,U,X⟩:=f;refine⟨by rw[g.time];exact⟨by omega,by omega⟩,by rw[g.next];exact⟨by omega,by omega⟩,by rw[g.sn];exact a5,by rw[g.pn];omega,fun i hi=>?_,fun i hi=>?_⟩
  ·obtain⟨q1,q2,q3,q4⟩:=U i (by rw[<-g.sn];exact hi);unfold GJ;rw[(B i).1,(B (i - 1)).1,(B i).2.1];refine⟨q1,q2,fun e=>?_,fun e=>w _ (q4 e)⟩;by_cases E:i=k
   ·subst E;rw[g.at'];exact⟨W.pn,by rw[g.pn];omega,by rw[g.new];rfl⟩
   ·rw[g.rest i E]at e ⊢;exact w _ (q3 e)
  ·rw[g.pn]at hi;by_cases ei:i=W.pn
   ·subst ei;unfold KJ Mr LJ LK;rw[g.new,g.next,g.time];refine⟨⟨a3,by show W.next<W.next+1;omega,a1,by show W.time<W.time+1;omega,hn,D _ ⟨k,A,rfl⟩⟩,⟨fun h0=>?_,fun e=>?_⟩,fun j a e=>P ⟨j,a,?_⟩⟩
    ·rw[g.old _ (by omega)];have:=(X (W.pn - 1) (by omega)).1;exact⟨this.2.1,this.2.2.2.1⟩
    ·have:=(U k A).2.2.1 e;exact⟨NC h.Aq fun _=>this,w _ this⟩
    ·rw[g.old j a]at e;exact e
   ·have hi':i<W.pn:=(by omega);obtain⟨⟨b1,b2,b3,b4,b5,b6⟩,⟨c1,Y⟩,d⟩:=X i hi';unfold KJ Mr LJ LK;rw[g.old i hi',g.next,g.time];refine⟨⟨b1,by omega,b3,by omega,b5,D _ b6⟩,⟨fun h0=>?_,fun e=>⟨(Y e).1,w _ (Y e).2⟩⟩,fun j a=>?_⟩
    ·rw[g.old _ (by omega)];exact c1 h0
    ·rw[g.old j (by omega)];exact d j a
 ·rw[g.sn]at hi;rw[(B i).1,(B i).2.1];obtain⟨n,e,Z,M,L,G⟩:=h.lines i hi;have q:e<W.next:=(by rw[G];exact NC f (f.2.2.2.2.1 i hi).2.2.2);have I:∀nm m,m<=W.pn->ownN V nm m=ownN W nm m:=fun nm m=>by
   induction m with
   | zero=>exact fun _=>rfl
   | succ m ih=>intro O;unfold ownN;rw[ih (by omega),g.old m (by omega)]
  have v:¬F5 V (W.A2 i).name e:=fun ⟨j,a,u⟩=>by
   have z:=(g.no f q j).1 a;exact M ⟨j,z,by rw[<-g.old j z.1];exact u⟩
  by_cases E:i=k
  ·subst E;refine⟨n+1,e,?_,v,?_,G⟩
   ·rw[g.at'];show Steps V _ W.next (n+1) e;clear M L G v q
    induction Z with
    | zero=>
     have:=Steps.next (.zero (W:=V) (name:=(W.A2 i).name) (start:=W.next)) (g.noNew f) (by rw[g.new];rfl)
     rwa [g.new]at this
    | next _ hs hs' ih=>
     have:=Steps.next ih ((g.no f (by have:=(f.2.2.2.2.2 _ hs.1).1.2.1;have:=hs.2.1;omega) _).2 hs) (by rw[g.old _ hs.1];exact hs')
     rwa [g.old _ hs.1]at this
   ·rw[g.pn,No (by rw[g.new];rfl),I _ _ (Nat.le_refl _),L]
  ·refine⟨n,e,?_,v,?_,G⟩
   ·rw[g.rest i E];clear M L G v q
    induction Z with
    | zero=>exact .zero
    | next _ hs hs' ih=>
     have:=Steps.next ih ((g.no f (by have:=(f.2.2.2.2.2 _ hs.1).1.2.1;have:=hs.2.1;omega) _).2 hs) (by rw[g.old _ hs.1];exact hs')
     rwa [g.old _ hs.1]at this
   ·have o:¬(W.A2 k).name=(W.A2 i).name:=by
     rcases Nat.lt_or_gt_of_ne E with N | N
     ·exact fun e=>QD (Nm f N A) e.symm
     ·exact QD (Nm f N hi)
    rw[g.pn,NX (by rw[g.new];exact o),I _ _ (Nat.le_refl _),L]
 ·have:=r i (J i hi)
  rwa [CH hi]at this
 ·have:=r _ (K i hi)
  rwa [C4]at this
 ·rw[g.pool]at hi ⊢;rw[<-h.reach i hi];constructor
  ·rintro⟨m,H,b,s⟩;rw[g.treeM]at s;rcases g.mem A H with⟨-,e⟩ | ⟨o,j,t,a,u,e,-⟩
   ·rw[e]at s;exact⟨W.pn+k,O,b,by rw[C4];exact s⟩
   ·rw[e]at s;exact⟨j,a,b,s⟩
  ·rintro⟨m,H,b,s⟩;by_cases h1:m<W.pn
   ·refine⟨m,by rw[g.memN];omega,b,?_⟩;rw[g.treeM,CH (by rw[g.pn];omega),g.old m h1]
    rwa [CH h1]at s
   ·obtain⟨j,rfl⟩:∃j,m=W.pn+j:=⟨m - W.pn,by omega⟩;refine⟨V.pn+j,by rw[g.memN,g.pn];omega,b,?_⟩;rw[g.treeM,C4];rw[C4]at s;unfold Go.Proofs.YtddigaohmfpepaaGreatDoor.treeM at s ⊢;show _∈AG W.pool (V.A2 j).rs (V.A2 j).rb;rw[(B j).2.2.1,(B j).2.2.2];exact s
 ·unfold EX;rcases g.mem A hi with⟨-,e⟩ | ⟨o,j,t,a,u,e,Q⟩
  ·rw[e,l,g.treeM];show F3 _ _ (AI V W.next).time (W.time+1);rw[g.aheadNew f];intro x c;have:=(F.born _ O x (by rw[C4];exact c)).1;rw[C4]at this;have:x.2<=W.time:=this;exact⟨by omega,fun _=>this,fun _=>c⟩
  ·rw[e,g.oldM f (show({AA W j with time:=t}:Cq).A8<W.next from Nr f a),g.treeM];show F3 _ _ (AI V (AA W j).A8).time t;rw[g.ahead f (Nr f a)];exact fun x c=>⟨Int.le_trans (F.born j a x c).1 Q,(F.born j a x c).2⟩
 ·intro i hi j a x c y T;obtain⟨i',hi',kA,ei,R⟩:=C i hi x c;obtain⟨j',z,lA,u,S⟩:=C j (by omega) y T;refine F.apart' hi' z ?_ R S;rw[ei,u];split<;>split<;>(try split)<;>(try split)<;>omega
end
variable{k:Nat}
theorem zDM{W:A6}{name:ByteArray}(h:B4 W)(c:k<W.sn)(hn:BX name)(a:¬∃i,i<W.pn/\(W.A3 i).set=(W.A2 k).name/\(W.A3 i).name=name)(d:W.pn<20)(e:W.time<900000)(f:W.next<900000):B4 (Co W k name (W.A2 k).name):=
 Dy.spec (W:=W) (V:=Co W k name (W.A2 k).name) (k:=k) (name:=name) ⟨rfl,rfl,rfl,rfl,rfl,fun j b=>if_neg (by omega),if_pos rfl,if_pos rfl,fun j b=>if_neg b⟩ h c hn a d e f
theorem zB6{W:A6}(h:DD W)(x:Int):FZ (AI W x).time:=by
 by_cases c:∃k,BW W x k
 ·obtain⟨k,b⟩:=c;rw[DW b];have a:=(h.2.2.2.2.2 k b.1).1;have d:=h.1;unfold Jb at d;exact⟨by have:=a.2.2.1;omega,by have:=a.2.2.2.1;omega⟩
 ·have e:AI W x=DL:=(by unfold AI;rw[dif_neg c]);rw[e];exact⟨by decide,by decide⟩
def zBn(W:A6)(name:ByteArray)(AM:Int)(data:ByteArray)(w:World)(e:Ending)(w':World):Prop:=∃r o,FN W (∃i,i<2/\8000<((fun i=>match i with | 0=>name | _=>data) i).size) (∃i,i<0/\¬BX ((fun _=>⟨#[]⟩) i)) 1 (fun i=>match i with  | _=>BL W name) (fun i=>match i with  | _=>2) r/\(r=none->∃k,Gs W name k/\o=Dc W k (CF W.pool (W.A2 k).rs (W.A2 k).rb AM data W.time))/\Iv (Ez r o) w e w'
theorem ZJ(p:Nat->Addr)(d v1 f l:Value)(lo hi:Nat)(W:A6)(name:ByteArray)(AM:Int)(data:ByteArray)(o:Bm)(w:World)(hE:D8 w p)(h:C7 w lo hi d v1 f l W)(aB:G4 W)(b1:Ap W.pool<=1048576)(b2:W.sn<=1048576)(b3:W.pn<=1048576)(b4:JX W)(L:name.size<=maxLen)(M:(Lit.int .i64 AM).wf=true)(dA:data.size<=maxLen)
 (tA:∀B0 B1 B2 C w' z0 z1 z2 z3,w'.cell? ⟨B0,0,none⟩=some (.string name)->B0<C->w'.cell? ⟨B1,0,none⟩=some (A0 AM)->B1<C->w'.cell? ⟨B2,0,none⟩=some (.string data)->B2<C->DE W->¬(∃i,i<2/\8000<((fun i=>match i with | 0=>name | _=>data) i).size)->¬(∃i,i<0/\¬BX ((fun _=>⟨#[]⟩) i))->(∀j,j<1->(fun i=>match i with  | _=>BL W name) j)->C<w'.heap.size->Below w.heap.size w w'->D5 w' (C+1) w'.heap.size z0 z1 z2 z3 W->Bb w' C z0 z1 (A0 W.time) (A0 W.next) z2 z3 (A0 0) (A0 0) .nilIface->Calls Tryz.prog 33 #[.pointer (some ⟨C,0,none⟩),.pointer (some ⟨B0,0,none⟩),.pointer (some ⟨B1,0,none⟩),.pointer (some ⟨B2,0,none⟩)] w' (IU p o C w')) :
 Calls Tryz.prog 12 #[Cc d v1 f l W,.string name,A0 AM,.string data] w fun e w'=>∃r,FN W (∃i,i<2/\8000<((fun i=>match i with | 0=>name | _=>data) i).size) (∃i,i<0/\¬BX ((fun _=>⟨#[]⟩) i)) 1 (fun i=>match i with  | _=>BL W name) (fun i=>match i with  | _=>2) r/\Iv (Ez r o) w e w':=by
 have Hp:=AQ h;have HE:=AQ hE;have sB:=AQ tA;have bC:=AQ aB;have y:=AQ L;have u:=AQ dA;have fA:=AQ M;clear M;clear h hE tA aB;have pA:=AB w (.cells #[d,v1,A0 W.time,A0 W.next,f,l] 30);have bA:=AB (w.alloc (.cells #[d,v1,A0 W.time,A0 W.next,f,l] 30)) (.cells #[.string name] 9);have O:=AB ((w.alloc (.cells #[d,v1,A0 W.time,A0 W.next,f,l] 30)).alloc (.cells #[.string name] 9)) (.cells #[A0 AM] 2);have I:=AB (((w.alloc (.cells #[d,v1,A0 W.time,A0 W.next,f,l] 30)).alloc (.cells #[.string name] 9)).alloc (.cells #[A0 AM] 2)) (.cells #[.string data] 9);have A:=AB ((((w.alloc (.cells #[d,v1,A0 W.time,A0 W.next,f,l] 30)).alloc (.cells #[.string name] 9)).alloc (.cells #[A0 AM] 2)).alloc (.cells #[.string data] 9)) (.cells #[A5,A5,A0 0,A0 0,A5,A5,A0 0,A0 0,A0 0] 34);have hb:=A9 (A9 (A9 (A9 (pA) bA) O) I) A;have HX:=AQ (((((At.new w (d) (v1) (A0 W.time) (A0 W.next) (f) (l) 30).A1 bA).A1 O).A1 I).A1 A);have c0:((w.alloc (.cells #[d,v1,A0 W.time,A0 W.next,f,l] 30)).alloc (.cells #[.string name] 9)).cell? ⟨(w.alloc (.cells #[d,v1,A0 W.time,A0 W.next,f,l] 30)).heap.size,0,none⟩=some (.string name):=World.cell?_alloc_at _ _ _ _ rfl;rw[World.size_alloc]at c0;replace c0:=(O.cell (AV c0)).trans c0;replace c0:=(I.cell (AV c0)).trans c0;replace c0:=(A.cell (AV c0)).trans c0;have jA:=AQ c0;clear c0;have c1:(((w.alloc (.cells #[d,v1,A0 W.time,A0 W.next,f,l] 30)).alloc (.cells #[.string name] 9)).alloc (.cells #[A0 AM] 2)).cell? ⟨((w.alloc (.cells #[d,v1,A0 W.time,A0 W.next,f,l] 30)).alloc (.cells #[.string name] 9)).heap.size,0,none⟩=some (A0 AM):=World.cell?_alloc_at _ _ _ _ rfl;rw[World.size_alloc,World.size_alloc]at c1;replace c1:=(I.cell (AV c1)).trans c1;replace c1:=(A.cell (AV c1)).trans c1;have kA:=AQ c1;clear c1;have c2:((((w.alloc (.cells #[d,v1,A0 W.time,A0 W.next,f,l] 30)).alloc (.cells #[.string name] 9)).alloc (.cells #[A0 AM] 2)).alloc (.cells #[.string data] 9)).cell? ⟨(((w.alloc (.cells #[d,v1,A0 W.time,A0 W.next,f,l] 30)).alloc (.cells #[.string name] 9)).alloc (.cells #[A0 AM] 2)).heap.size,0,none⟩=some (.string data):=World.cell?_alloc_at _ _ _ _ rfl;rw[World.size_alloc,World.size_alloc,World.size_alloc]at c2;replace c2:=(A.cell (AV c2)).trans c2;have lA:=AQ c2;clear c2;have hr:=Bb.new ((((w.alloc (.cells #[d,v1,A0 W.time,A0 W.next,f,l] 30)).alloc (.cells #[.string name] 9)).alloc (.cells #[A0 AM] 2)).alloc (.cells #[.string data] 9)) (A5) (A5) (A0 0) (A0 0) (A5) (A5) (A0 0) (A0 0) (A0 0) 34;rw[World.size_alloc,World.size_alloc,World.size_alloc,World.size_alloc]at hr;have HR:=AQ hr;clear hr;have hz:(((((w.alloc (.cells #[d,v1,A0 W.time,A0 W.next,f,l] 30)).alloc (.cells #[.string name] 9)).alloc (.cells #[A0 AM] 2)).alloc (.cells #[.string data] 9)).alloc (.cells #[A5,A5,A0 0,A0 0,A5,A5,A0 0,A0 0,A0 0] 34)).heap.size=w.heap.size+5:=by rw[World.size_alloc,World.size_alloc,World.size_alloc,World.size_alloc,World.size_alloc]
 go_enter Tryz.func12,Tryz.ntmps12;go_upto_region 1 with fail;generalize (((((w.alloc (.cells #[d,v1,A0 W.time,A0 W.next,f,l] 30)).alloc (.cells #[.string name] 9)).alloc (.cells #[A0 AM] 2)).alloc (.cells #[.string data] 9)).alloc (.cells #[A5,A5,A0 0,A0 0,A5,A5,A0 0,A0 0,A0 0] 34))=W1 at hb HX HR hz jA kA lA ⊢;clear pA bA O I A;obtain⟨x0,x1,x2,x3,x4,x5⟩:=HX.out.c;have k0:=jA.out;have k1:=kA.out;have k2:=lA.out;have b:=AQ (show ∀w',Below (w.heap.size+1+1+1+1) W1 w'->(fun w'=>w'.cell? ⟨w.heap.size,0,none⟩=some (d)/\w'.cell? ⟨w.heap.size,1,none⟩=some (v1)/\w'.cell? ⟨w.heap.size,2,none⟩=some (A0 W.time)/\w'.cell? ⟨w.heap.size,3,none⟩=some (A0 W.next)/\w'.cell? ⟨w.heap.size,4,none⟩=some (f)/\w'.cell? ⟨w.heap.size,5,none⟩=some (l)/\w'.cell? ⟨w.heap.size+1,0,none⟩=some (.string name)/\w'.cell? ⟨w.heap.size+1+1,0,none⟩=some (A0 AM)/\w'.cell? ⟨w.heap.size+1+1+1,0,none⟩=some (.string data)/\Below (w.heap.size+1+1+1+1) W1 w') w' from fun w' a=>⟨(a.cell (p:=⟨w.heap.size,0,none⟩) (by show w.heap.size<_;omega)).trans x0,(a.cell (p:=⟨w.heap.size,1,none⟩) (by show w.heap.size<_;omega)).trans x1,(a.cell (p:=⟨w.heap.size,2,none⟩) (by show w.heap.size<_;omega)).trans x2,(a.cell (p:=⟨w.heap.size,3,none⟩) (by show w.heap.size<_;omega)).trans x3,(a.cell (p:=⟨w.heap.size,4,none⟩) (by show w.heap.size<_;omega)).trans x4,(a.cell (p:=⟨w.heap.size,5,none⟩) (by show w.heap.size<_;omega)).trans x5,(a.cell (p:=⟨w.heap.size+1,0,none⟩) (by show w.heap.size+1<_;omega)).trans k0,(a.cell (p:=⟨w.heap.size+1+1,0,none⟩) (by show w.heap.size+1+1<_;omega)).trans k1,(a.cell (p:=⟨w.heap.size+1+1+1,0,none⟩) (by show w.heap.size+1+1+1<_;omega)).trans k2,a⟩);have z:w.heap.size+1+1+1+1<=W1.heap.size:=by omega
 clear x0 x1 x2 x3 x4 x5 k0 k1 k2;refine wp_region_held_drew (S:=(fun w'=>w'.cell? ⟨w.heap.size,0,none⟩=some (d)/\w'.cell? ⟨w.heap.size,1,none⟩=some (v1)/\w'.cell? ⟨w.heap.size,2,none⟩=some (A0 W.time)/\w'.cell? ⟨w.heap.size,3,none⟩=some (A0 W.next)/\w'.cell? ⟨w.heap.size,4,none⟩=some (f)/\w'.cell? ⟨w.heap.size,5,none⟩=some (l)/\w'.cell? ⟨w.heap.size+1,0,none⟩=some (.string name)/\w'.cell? ⟨w.heap.size+1+1,0,none⟩=some (A0 AM)/\w'.cell? ⟨w.heap.size+1+1+1,0,none⟩=some (.string data)/\Below (w.heap.size+1+1+1+1) W1 w')) (by kernel_rfl) (b.out _ ((Below.refl _ _).drew.mono z)) (fun hHeld=>?_);have eC:Below W1.heap.size W1 W1.drew:=(Below.refl _ _).drew;refine tk 0 (h:=?_);refine tk 1 (h:=?_);refine tk 3 (h:=?_);refine tk 6 (h:=?_);refine tk 8 (h:=?_);refine Qh [2,4,5] (fun i=>if i=5 then [4] else []) (fun i=>i+9) (fun i v w'=>(i=2->E3 w' v 2 (fun i=>match i with | 0=>name | _=>data))/\(i=4->QAt w' p 53 2 [.string name] v)/\(i=5->Gw w' p 1 (fun i=>match i with  | _=>53) (fun i=>match i with  | _=>2) (fun i=>match i with  | _=>[.string name]) v)) 3 (G:=fun w'=>Below W1.heap.size W1 w') (by kernel_rfl) (by decide) (by decide) (by decide) ?_ (fun _ _ h t=>A9 h t) (by assumption) eC ?_ ?_
 ·intro i v w' aF hf t;exact⟨fun e=>(hf.1 e).A1 t,fun e=>(hf.2.1 e).A1 t,fun e=>(hf.2.2 e).A1 t⟩
 ·intro i hi x Z hS F hD K hK;simp only[List.mem_cons,List.not_mem_nil,or_false]at hi;rcases hi with rfl | rfl | rfl
  ·refine wpOp_step (EC rfl) (fun K' H=>?_);simp only[BI,Act.put,Nat.reduceAdd,s1,s2,s3];have J:=AB Z (.cells #[.string name,.string data] 9);go_simp;refine H _ _ (hK.out _ _ _ ?_ (b.out _ ((A9 F J).mono z)) ⟨fun _=>Vr y.out u.out rfl rfl,fun e=>absurd e (by decide),fun e=>absurd e (by decide)⟩ J);simp only[BI,Act.put,Nat.reduceAdd,s1,s2,s3]
  ·refine wpOp_step (EC rfl) (fun K' H=>?_);simp only[BI,Act.put,Nat.reduceAdd,s1,s2,s3];go_simp;go_at_call 19;refine(Yz p name Z (HE.out.A1 (A9 hb F))).mono ?_;rintro e w3 ⟨B0,rfl,E,P⟩;refine H _ _ (hK.out _ _ w3 ?_ (b.out _ ((A9 F P).mono z)) ⟨fun e=>absurd e (by decide),fun _=>⟨_,rfl,D2.one E⟩,fun e=>absurd e (by decide)⟩ P);simp only[BI,Act.put,Nat.reduceAdd,s1,s2,s3]
  ·refine wpOp_step (EC rfl) (fun K' H=>?_);simp only[BI,Act.put,Nat.reduceAdd,s1,s2,s3];obtain⟨bB,e0,cA⟩:=(hD 4 (by decide)).2.1 rfl;simp only[e0];have J:=AB Z (.cells #[.func (.func 53) #[] bB,Af (p 2)] 61);have hA:Gw (Z.alloc (.cells #[.func (.func 53) #[] bB,Af (p 2)] 61)) p 1 (fun i=>match i with  | _=>53) (fun i=>match i with  | _=>2) (fun i=>match i with  | _=>[.string name]) (.slice (some ⟨Z.heap.size,0,none⟩) 1 1):=zHq (g:=(fun i=>match i with  | _=>53)) (ei:=(fun i=>match i with  | _=>2)) (caps:=(fun i=>match i with  | _=>[.string name])) cA;go_simp;refine H _ _ (hK.out _ _ _ ?_ (b.out _ ((A9 F J).mono z)) ⟨fun e=>absurd e (by decide),fun e=>absurd e (by decide),fun _=>hA⟩ J);simp only[BI,Act.put,Nat.reduceAdd,s1,s2,s3,e0]
 ·intro x Z hS F hF;have N:=(hF 2 (by decide)).1 rfl;obtain⟨-,ta,tc,et,-,-⟩:=id N;have hN:E3 Z (A5) 0 (fun _=>⟨#[]⟩):=⟨by omega,_,_,rfl,fun i hi=>absurd hi (Nat.not_lt_zero _),fun h=>absurd h (Nat.lt_irrefl _)⟩;obtain⟨lb,hA,X⟩:=(hF 5 (by decide)).2.2 rfl;obtain⟨-,qa,qc,eq,-⟩:=id hA;simp only[BI,DF,if_true,Act.put,Nat.reduceAdd,s1,s2,s3,et,eq];rw[et]at N;rw[eq]at hA;have a:=A9 hb F;have vB:=AQ N;have tB:=AQ hN;have rB:=AQ hA;have nA:=AQ X;clear N hN hA X hF;refine tk 7 (h:=?_);refine rd [9] (rc (fun K hK=>?_) .nil);go_simp;go_at_call 24;refine(qH p _ _ _ 33 #[.pointer (some ⟨w.heap.size+1,0,none⟩),.pointer (some ⟨w.heap.size+1+1,0,none⟩),.pointer (some ⟨w.heap.size+1+1+1,0,none⟩)] 2 0 1 (fun i=>match i with | 0=>name | _=>data) (fun _=>⟨#[]⟩) (fun i=>match i with  | _=>53) lb (fun i=>match i with  | _=>2) (fun i=>match i with  | _=>BL W name) o _ _ _ _ lo hi W Z (HE.out.A1 a) (Hp.out.A1 a) bC.out b1 b2 b3 b4 vB.out tB.out rB.out ?_ ?_ (enters_of Tryz.func33 (by kernel_rfl) rfl) ?_ ?_).mono ?_
  ·intro i hi;obtain rfl:i=0:=(by omega);decide
  ·intro i hi;obtain rfl:i=0:=(by omega);exact enters_of Tryz.func53 (by kernel_rfl) rfl
  ·intro i hi' w' s hI fE;have hW:=(Hp.out.A1 a).A1 s;have h8:=hI.Aq.A2.1;have cE:=hI.Aq.A3.1;obtain rfl:i=0:=(by omega);obtain⟨B0,cC,E⟩:=(nA.out 0 (by decide)).is1;replace E:=(s.cell (AV E)).trans E;rw[cC];exact Z3 d v1 f l lo hi W B0 name w' hW h8 L E
  ·intro C w' z0 z1 z2 z3 hC s dC hI hl iC hq q rA;exact sB.out (w.heap.size+1) (w.heap.size+1+1) (w.heap.size+1+1+1) C w' z0 z1 z2 z3 ((s.cell (AV hS.2.2.2.2.2.2.1)).trans hS.2.2.2.2.2.2.1) (by have:=F.size;omega) ((s.cell (AV hS.2.2.2.2.2.2.2.1)).trans hS.2.2.2.2.2.2.2.1) (by have:=F.size;omega) ((s.cell (AV hS.2.2.2.2.2.2.2.2.1)).trans hS.2.2.2.2.2.2.2.2.1) (by have:=F.size;omega) hI hl iC hq dC (A9 a s) q rA
  rintro e w3 ⟨r,Y,z0,z1,z2,z3,rfl,q,P⟩;obtain⟨n0,Q,n1,R,n2,T,n3,U,rfl,rfl,rfl,rfl⟩:=q.form;have D:=A9 F P;have mA:=AQ (HR.out.A1 D);have V:=AQ q;have oA:=AQ Y;clear q Y;generalize vA:Ez r o=oo at V ⊢;have aC:=AQ vA;clear vA
  (try go_wp2_with fail)
  refine hK.out _ _ (b.out _ (D.mono z)) ?_;clear hK K hHeld;intro hHeld
  try simp only[Act.put,s1,s2,s3]
  refine rd [10] (rc (fun K hK=>?_) .nil);obtain⟨⟨r0,g0⟩,⟨r1,g1⟩,⟨r2,g2⟩,⟨r3,g3⟩,⟨r4,g4⟩,⟨r5,g5⟩,⟨r6,g6⟩,⟨r7,g7⟩,⟨r8,g8⟩⟩:=mA.out;go_simp
  (try go_wp2_with fail)
  have N:=AC.put9 w3 (w.heap.size+1+1+1+1) (.slice n0 oo.world.pool.n Q) (.slice n1 oo.world.pool.hn R) (A0 oo.world.time) (A0 oo.world.next) (.slice n2 oo.world.sn T) (.slice n3 oo.world.pn U) (A0 oo.id) (A0 oo.many) (A0 oo.code);have fC:Below (w.heap.size+1+1+1+1) W1 (((((((((w3.setCell ⟨w.heap.size+1+1+1+1,0,none⟩ (.slice n0 oo.world.pool.n Q)).setCell ⟨w.heap.size+1+1+1+1,1,none⟩ (.slice n1 oo.world.pool.hn R)).setCell ⟨w.heap.size+1+1+1+1,2,none⟩ (A0 oo.world.time)).setCell ⟨w.heap.size+1+1+1+1,3,none⟩ (A0 oo.world.next)).setCell ⟨w.heap.size+1+1+1+1,4,none⟩ (.slice n2 oo.world.sn T)).setCell ⟨w.heap.size+1+1+1+1,5,none⟩ (.slice n3 oo.world.pn U)).setCell ⟨w.heap.size+1+1+1+1,6,none⟩ (A0 oo.id)).setCell ⟨w.heap.size+1+1+1+1,7,none⟩ (A0 oo.many)).setCell ⟨w.heap.size+1+1+1+1,8,none⟩ (A0 oo.code)):=(D.mono z).trans (N.A1 (B:=w.heap.size+1+1+1+1) (by have:=D.size;omega) (fun k e=>by omega));refine hK.out _ _ (b.out _ fC) ?_;clear hK K hHeld r0 r1 r2 r3 r4 r5 r6 r7 r8 g0 g1 g2 g3 g4 g5 g6 g7 g8;intro hHeld
  try simp only[Act.put,s1,s2,s3]
  refine wpAnyH_done (by kernel_rfl) ?_ _;go_wp2_with fail;have m:=mA.out.put (.slice n0 oo.world.pool.n Q) (.slice n1 oo.world.pool.hn R) (A0 oo.world.time) (A0 oo.world.next) (.slice n2 oo.world.sn T) (.slice n3 oo.world.pn U) (A0 oo.id) (A0 oo.many) (A0 oo.code);have sA:=A9 hb D;have lC:=N.size;have lE:=D.size;refine bodyPost_ret (v:=.agg #[.slice n0 oo.world.pool.n Q,.slice n1 oo.world.pool.hn R,A0 oo.world.time,A0 oo.world.next,.slice n2 oo.world.sn T,.slice n3 oo.world.pn U,A0 oo.id,A0 oo.many,A0 oo.code]) (by simp[results,Tryz.results12,go_sem,m.1.1,m.2.1.1,m.2.2.1.1,m.2.2.2.1.1,m.2.2.2.2.1.1,m.2.2.2.2.2.1.1,m.2.2.2.2.2.2.1.1,m.2.2.2.2.2.2.2.1.1,m.2.2.2.2.2.2.2.2.1]) rfl ⟨r,oA.out,?_⟩;rw[aC.out];refine⟨_,_,_,_,rfl,?_,?_⟩
  ·exact(V.out.AD N (fun k e=>by have:=F.size;omega)).wide (by have:=F.size;omega) lC
  ·exact sA.trans (N.A1 (B:=w.heap.size) sA.size (fun k e=>by omega))
variable{w:World}
theorem zBw(ty:TypeId)(a d:Option Addr)(c:Nat):(Builtin.append_ #[39,39] ty #[.slice a 0 0,.slice d 0 c]).run Tryz.prog w = .ok (.slice a 0 0) w:=by
 obtain⟨i0,b,f⟩:=Option.map_eq_some_iff.1 Lw;have e:Tryz.prog.underlying 39=some (.slice 38):=by kernel_rfl
 cases a<;>cases d<;>simp[Builtin.append_,run_underlying e,sizeOf,typeInfo,b,Builtin.lenOf,Builtin.firstCells,storeCells,loadCells,loadCellsFrom]
variable{n:Nat}{g:Nat->Int}{l:List (Int×Int)}
theorem zBB{kb lo hi:Nat}{kv vo:Value}{f:Nat->Int}(M:CS w kb kv n f g)(L:CN w 38 2 kv n)(hv:BG w lo hi vo l.length (AN l) (AP l))(hn:n+l.length<=4000000)(ty:TypeId) :
 ∃a c w' nb,(Builtin.append_ #[39,39] ty #[kv,vo]).run Tryz.prog w = .ok (.slice a (n+l.length) c) w'/\CS w' nb (.slice a (n+l.length) c) (Bu n f g ++ l).length (AN (Bu n f g ++ l)) (AP (Bu n f g ++ l))/\AC (fun j=>0<n/\j=kb) w w'/\(0<n+l.length->(0<n/\nb=kb)\/(w.heap.size<=nb/\nb<w'.heap.size)):=by
 obtain⟨i0,B,G⟩:=Option.map_eq_some_iff.1 Lw;simp only[Prod.mk.injEq]at G;obtain⟨Z,Y,S⟩:=G;have ht:Tryz.prog.underlying 39=some (.slice 38):=by kernel_rfl
 have s:(Bu n f g ++ l).length=n+l.length:=by rw[List.length_append,Jm]
 have D:0<n->kv.ownBlock=some kb:=fun k=>by
  obtain⟨_,a,c,hv,_,v⟩:=M;obtain⟨off,R,_⟩:=v k;rw[hv,R];rfl
 have p:0<n->∀q,kv.ownBlock=some q->∀j u,(pcl (Bu n f g))[j]?=some u->w.cell? ⟨q,j,none⟩=some u:=fun k q hq j u d=>by
  have V:j<n*2:=by
   have:=(List.getElem?_eq_some_iff.1 d).1
   rwa [Ip,Jm]at this
  obtain⟨_,a,c,F,_,v⟩:=M;obtain⟨off,A,m⟩:=v k;rcases L with⟨e,_⟩ | ⟨_,g',aA,dA,t,_⟩
  ·omega
  ·rw[F,A]at t;simp only[Value.slice.injEq,Option.some.injEq,Addr.mk.injEq,and_true,true_and]at t;obtain⟨⟨rfl,rfl⟩,rfl⟩:=t;rw[F,A]at hq;obtain rfl:kb=q:=(by injection hq);obtain⟨i,x,r⟩:∃i,i<n/\(j=i*2\/j=i*2+1):=⟨j / 2,by omega,by omega⟩;have y:=m i x;obtain⟨I,J⟩:=NY (Bu n f g) i (by rw[Jm];exact x);have O:=QE f g x;unfold AN AP at O;rw[O.1]at I;rw[O.2]at J;rcases r with rfl | rfl
   ·rw[I]at d;replace d:=Option.some.inj d;have z:=y.1.1;rw[Nat.zero_add]at z;rw[z,d]
   ·rw[J]at d;replace d:=Option.some.inj d;have z:=y.2.1;rw[Nat.zero_add]at z;rw[z,d]
 by_cases C:l.length=0
 ·obtain rfl:l = []:=List.eq_nil_of_length_eq_zero C;obtain⟨_,N,H,rfl,_,_⟩:=hv;have o:∀a c,kv = .slice a n c->CS w kb (.slice a n c) (Bu n f g ++ []).length (AN (Bu n f g ++ [])) (AP (Bu n f g ++ [])):=fun a c e=>by
   rw[List.append_nil,Jm];obtain⟨Q,a',c',K,h3,v⟩:=M;rw[e]at K;cases K;refine⟨Q,a,c,rfl,h3,fun k=>?_⟩;obtain⟨off,R,m⟩:=v k;exact⟨off,R,fun i hi=>by rw[(QE f g hi).1,(QE f g hi).2];exact m i hi⟩
  rcases Nat.eq_zero_or_pos n with k | k
  ·rcases L with⟨_,a,rfl⟩ | ⟨hp,_⟩
   ·subst k;exact⟨a,0,w,kb,zBw ty a N H,o a 0 rfl,AC.refl _ _,fun h=>by simp at h⟩
   ·omega
  ·obtain⟨a,c,hv⟩:∃a c,kv = .slice a n c:=(by obtain⟨_,a,c,h,_⟩:=M;exact⟨a,c,h⟩);have E:=L.owns (base:=0) (xs:=pcl (Bu n f g)) k (by rw[Ip,Jm]) (fun _ _=>Nat.zero_le _) (p k);exact⟨a,c,w,kb,by rw[show(Value.slice a (n+([]:List (Int×Int)).length) c)=kv from hv.symm];exact Rp 0 39 ty 38 i0 2 H N ht B kv n _ E,o a c hv,AC.refl _ _,fun _=>Or.inl ⟨k,rfl⟩⟩
 ·obtain⟨-,N,H,rfl,-,v⟩:=hv;obtain⟨b,off,rfl,-,-,m⟩:=v (by omega);obtain⟨q,cap,w',row,hr,o,hg,X,T,U⟩:=CN.append (P:=Tryz.prog) 39 ty 38 i0 _ 2 16 0 ht B Z Y S rfl (by decide) L (xs:=pcl (Bu n f g)) (by rw[Ip,Jm]) (fun _ _ _=>Nat.zero_le _) p
   ⟨b,off,none⟩ l.length H (pcl l) (Ip l) (fun j u d=>by
    have V:j<l.length*2:=by
     have:=(List.getElem?_eq_some_iff.1 d).1
     rwa [Ip]at this
    obtain⟨i,x,r⟩:∃i,i<l.length/\(j=i*2\/j=i*2+1):=⟨j / 2,by omega,by omega⟩;have y:=m i x;obtain⟨I,J⟩:=NY l i x;rcases r with rfl | rfl
    ·rw[I]at d;replace d:=Option.some.inj d;rw[<-d,show(⟨b,off,none⟩:Addr).add (i*2)=⟨b,off+i*2,none⟩from by simp[Addr.add]];exact y.1
    ·rw[J]at d;replace d:=Option.some.inj d;rw[<-d,show(⟨b,off,none⟩:Addr).add (i*2+1)=⟨b,off+i*2+1,none⟩from by simp[Addr.add,Nat.add_assoc]];exact y.2) (NZ l) (by omega) (by unfold maxLen;omega) (by omega) (Nat.zero_le _)
  have hR:Ax w' 0 (.slice (some ⟨q,0,none⟩) (n+l.length) cap) (Bu n f g ++ l):=by
   unfold Ax;rw[s,MH];exact o
  obtain⟨nb,Q,K⟩:=hR.own (by rw[s];unfold maxLen;omega);have W:q=nb:=by
   have:=(K (by rw[s];exact Nat.add_pos_right n (Nat.pos_of_ne_zero C))).1;simp only[Value.ownBlock]at this;injection this
  subst W;refine⟨_,_,w',q,hr,Q,(Ok hg).mono ?_,fun _=>?_⟩
  ·intro j d;rcases X with h | ⟨k,h⟩
   ·rw[h]at d;cases d
   ·rw[h,D k]at d;injection d with d;exact⟨k,d.symm⟩
  ·rcases T with⟨k,h⟩ | h
   ·rw[D k]at h;injection h with h;exact Or.inl ⟨k,h.symm⟩
   ·exact Or.inr ⟨by omega,U⟩
theorem zz{w':World}{Q:Nat->Prop}{bs off c:Nat}{kb:Nat->Nat}{kv:Nat->Value}{f:Nat->Ab}(G:Dz w bs kb kv (.slice (some ⟨bs,off,none⟩) n c) n f)(p:M2 kb n f)(s:∀j,Fy bs kb n f j->Q j)(D:k<n){s':Ab}{nb:Nat}{nv:Value}
 (J:AC (fun j=>j=bs\/(0<(f k).dn/\j=kb k)) w w') (q:∀j,j<n->j≠k->∀r,r<6->∀u,AO w bs (off+j*6+r) u->AO w' bs (off+j*6+r) u) (hs:EO w' bs (off+k*6) nb nv s') (z:0<s'.dn->((0<(f k).dn/\nb=kb k)\/∀j,Fy bs kb n f j->j≠nb)/\Q nb) :
 GQ w' Q (.slice (some ⟨bs,off,none⟩) n c) n (fun j=>if j=k then s' else f j):=by
 have v:∀i,i<n->i≠k->0<(f i).dn->0<s'.dn->kb i≠nb:=fun i hi B g m e=>by
  rcases(z m).1 with⟨A,F⟩ | A
  ·exact p i k hi D B g A (by rw[e,F])
  ·exact A (kb i) (Or.inr ⟨i,hi,g,rfl⟩) e
 refine⟨bs,(fun j=>if j=k then nb else kb j),(fun j=>if j=k then nv else kv j),?_,?_,?_⟩
 ·obtain⟨I,a,cap,hv,H,C⟩:=G;simp only[Value.slice.injEq,true_and]at hv;obtain⟨rfl,rfl⟩:=hv;refine⟨I,_,_,rfl,H,fun b=>?_⟩;obtain⟨E,e,t⟩:=C b;simp only[Option.some.injEq,Addr.mk.injEq,true_and,and_true]at e;subst e;refine⟨off,rfl,fun j d=>?_⟩;by_cases e:j=k
  ·subst e;simp only[if_true];exact hs
  ·simp only[if_neg e];have h:=t j d;exact⟨q j d e 0 (by omega) _ h.c0,q j d e 1 (by omega) _ h.c1,q j d e 2 (by omega) _ h.c2,q j d e 3 (by omega) _ h.c3,q j d e 4 (by omega) _ h.c4,q j d e 5 (by omega) _ h.c5,h.dead.AD J (fun b x=>by
    rcases x with x | ⟨g,x⟩
    ·exact h.Bn b x
    ·exact p j k d D e b g x),h.CG,h.Bn⟩
 ·intro i j hi d y g m;show(if i=k then nb else kb i)≠(if j=k then nb else kb j);by_cases o:i=k
  ·by_cases l:j=k
   ·exact absurd (o.trans l.symm) y
   ·simp only[if_pos o]at g;simp only[if_neg l]at m;rw[if_pos o,if_neg l];exact fun e=>v j d l m g e.symm
  ·simp only[if_neg o]at g;by_cases l:j=k
   ·simp only[if_pos l]at m;rw[if_neg o,if_pos l];exact v i hi o g m
   ·simp only[if_neg l]at m;rw[if_neg o,if_neg l];exact p i j hi d y g m
 ·rintro j (⟨b,rfl⟩ | ⟨i,hi,b,rfl⟩)
  ·exact s _ (Or.inl ⟨b,rfl⟩)
  ·by_cases e:i=k
   ·simp only[if_pos e]at b ⊢;exact(z b).2
   ·simp only[if_neg e]at b ⊢;exact s _ (Or.inr ⟨i,hi,b,rfl⟩)
theorem zCl(W:A6)(q:A7)(x:Int):AI {W with pool:=q} x=AI W x:=rfl
open Go.Extern.Stop Go.Stop Go.Extern
theorem Yi(p:Nat->Addr)(c:Int)(n:Nat)(v:Value)(hn:(n=7/\c=0/\v = .nilIface)\/(n<7/\c=Ca n/\v=Af (p n)))(w:World)(h:D8 w p):Calls Tryz.prog 71 #[A0 c] w fun e w'=>e = .returned v/\Below w.heap.size w w':=by
 have q:=AQ h;have l:=AQ hn;have z:n<=7:=by omega
 have b:=AQ (show ∀k,k<n->Ca k≠c from fun k y=>by
  rcases hn with⟨_,rfl,_⟩ | ⟨s,rfl,_⟩
  ·exact zEg k
  ·exact zGp (by omega) s (by omega))
 clear h hn;have t:=AB w (.cells (L6 p) 160);have r:=AQ (Gr.new p w);go_enter Tryz.func71,Tryz.ntmps71;go_wp2_with fail;refine(Yw p _ q.out).mono ?_;rintro e D ⟨rfl,rfl⟩;go_wp2
 go_loopw [7] (fun B wr=>∃k:Nat,k<=n/\B=A0 k/\Gr wr w.heap.size p/\Below w.heap.size w wr) (fun i _=>7 - (intOf i).toNat)
 case atStart=>exact⟨0,Nat.zero_le _,rfl,r.out,t⟩
 case round=>
  obtain⟨k,y,rfl,f,m⟩:=hrel;by_cases j:k<7
  ·have o:(k:Int)<7:=(by omega);obtain⟨C,q1⟩:=f k j;have g:=AQ f;clear f;have hn:=AB wr (.cells #[Af (p k),A0 (Ca k)] 160);have a:=A9 m hn;have d:=AQ (g.out.A1 hn);have E:(wr.alloc (.cells #[Af (p k),A0 (Ca k)] 160)).cell? ⟨wr.heap.size,0,none⟩=some (Af (p k)):=(Az (heap_alloc_new _ _) rfl).1;have F:(wr.alloc (.cells #[Af (p k),A0 (Ca k)] 160)).cell? ⟨wr.heap.size,1,none⟩=some (A0 (Ca k)):=(Az (heap_alloc_new _ _) rfl).1;by_cases x:k=n
   ·subst x;obtain⟨u,hv⟩:=(l.out.resolve_left (fun h=>by omega)).2;subst u hv;go_wp2;go_ret;exact⟨rfl,a⟩
   ·have A:(Ca k == c)=false:=(by simpa using b.out k (by omega));go_wp2;go_roundw
    case rel=>exact⟨k+1,by omega,by go_num,d.out,a⟩
    case measure=>simp[intOf];omega
  ·obtain rfl:k=7:=(by omega);obtain rfl:n=7:=(by omega);have hv:=(l.out.resolve_right (fun h=>by omega)).2.2;subst hv;go_wp2;go_ret;exact⟨rfl,m⟩
theorem zGv(p:Nat->Addr)(C k hw rA pA:Nat)(z0 z1 z2 z3 rF sF vo:Value)(W:A6)(y:D9)(name:ByteArray)(w:World)(hE:D8 w p)(hI:DE W)(hy:Ms y)(ht:FZ (AI W (W.A2 k).A8).time)(hx:(Lit.int .i64 (W.A2 k).A8).wf=true)(hk:Gs W name k)(hD:(W.A2 k).dn<=1048576)(bK:C<hw)(aK:hw<=w.heap.size)
 (ho:D5 w (C+1) hw z0 z1 z2 z3 W) (hC:Bb w C z0 z1 (.int .i64 W.time) (.int .i64 W.next) z2 z3 (.int .i64 0) (.int .i64 0) .nilIface) (bD:Bq w rA pA rF sF y.pool) (fK:hw<=rA) (eK:pA<=w.heap.size) (kD:BG w hw w.heap.size vo y.old.length (AN y.old) (AP y.old)) :
 Calls Tryz.prog 34 #[.pointer (some ⟨C,0,none⟩),.string name,.agg #[rF,sF,.int .i64 y.rs,.int .i64 y.rb,vo,.int .i64 y.code]] w (IU p (Dc W k y) C w):=by
 have h8:=hI.Aq.A2.1;have fH:=hI.Aq.A3.1;have t:=hk.1;have dK:=hy.2.1;have HE:=A4 hE;have HC:=A4 hC;have HI:=A4 hI;have HY:=A4 hy;have Ht:=A4 ht;have Hx:=A4 hx;have Hk:=A4 hk;obtain⟨v,z,x,D,rfl,rfl⟩:=bD.at.form;obtain⟨-,oo,oc,rfl,-,-⟩:=id kD;obtain⟨P,Q,R,M,T⟩:=ho;obtain⟨bA,kb,kv,hS,cF,jB,-,aF⟩:=M.A2;obtain⟨off,c,rfl,oF⟩:=hS.nth t;have cD:Q bA:=jB _ (Or.inl ⟨by omega,rfl⟩);have vJ:=T bA (Or.inr (Or.inl cD));obtain⟨d,iF⟩:∃d,d=bA:=⟨_,rfl⟩;obtain⟨g,pB⟩:∃g,g=off+k*6:=⟨_,rfl⟩;have cC:=A4 (show ∀w',Dz w' bA kb kv (.slice (some ⟨bA,off,none⟩) W.sn c) W.sn W.A2->w'.cell? ⟨C,4,none⟩=some (.slice (some ⟨bA,off,none⟩) W.sn c)->Calls Tryz.prog 36 #[.pointer (some ⟨C,0,none⟩),.string name] w' fun e lD=>e = .returned (.pointer (some ⟨d,g,none⟩))/\Below w'.heap.size w' lD from fun w' kH hc=>by
  refine(R7 C (C+1) hw W.sn k c _ W.A2 name w' hc (kH.at (lo:=C+1) (hi:=hw) (fun j f=>T j (Or.inr (Or.inl (jB j f))))) h8 t hk.2.1 hk.2.2).mono ?_;rintro e w2 ⟨⟨b,eJ,e1,rfl⟩,F⟩;simp only[Option.some.injEq,Addr.mk.injEq,and_true]at e1;obtain⟨rfl,rfl⟩:=e1;exact⟨by rw[iF,pB],F⟩)
 subst iF;have m:=A4 T;have sG:=A4 hS;have rG:=A4 cF;have Y:=A4 jB;have X:=A4 oF;have nG:=A4 cD;have oG:=A4 (aF k t);have HZ:=A4 M.A3.isIn;have pC:=A4 M.qr;have aH:=A4 pB;have lG:=A4 bD;have tG:=A4 kD;clear M T hS cF jB oF hC hI hE hy ht hx hk cD aF bD kD;rw[<-pB]at X;clear pB;have ha:=AB w (.cells #[.slice v y.pool.n z,.slice x y.pool.hn D,.int .i64 y.rs,.int .i64 y.rb,.slice oo y.old.length oc,.int .i64 y.code] 81);have HX:=A4 (At.new w (.slice v y.pool.n z) (.slice x y.pool.hn D) (.int .i64 y.rs) (.int .i64 y.rb) (.slice oo y.old.length oc) (.int .i64 y.code) 81);have pF:(w.alloc (.cells #[.slice v y.pool.n z,.slice x y.pool.hn D,.int .i64 y.rs,.int .i64 y.rb,.slice oo y.old.length oc,.int .i64 y.code] 81)).heap.size=w.heap.size+1:=World.size_alloc _ _;have sJ:C<w.heap.size:=by omega
 obtain⟨x0,x1,x2,x3,x4,x5⟩:=HX.out.c;by_cases oB:y.code=0;rotate_left
 ·obtain⟨i,lF,kF⟩:=HY.out.1.resolve_left oB;have aE:=A4 kF;clear kF;go_enter Tryz.func34,Tryz.ntmps34;go_wp2_with fail;generalize w.alloc (.cells #[.slice v y.pool.n z,.slice x y.pool.hn D,.int .i64 y.rs,.int .i64 y.rb,.slice oo y.old.length oc,.int .i64 y.code] 81)=w1 at ha HX pF x0 x1 x2 x3 x4 x5 ⊢;refine(Yi p y.code i (Af (p i)) (Or.inr ⟨lF,aE.out,rfl⟩) w1 (HE.out.A1 ha)).mono ?_;rintro e w2 ⟨rfl,F⟩;have dA:=A9 ha F;have V:=A4 (HC.out.A1 dA);clear x0 x1 x2 x3 x4 x5;obtain⟨-,-,-,-,-,-,-,-,⟨x8,tF⟩⟩:=V.out;go_wp2_with fail;go_end0;have hT:=AC.put w2 C 8 (Af (p i));have vH:=dA.size;have cI:=hT.size;have E:=V.out;refine⟨⟨_,rfl⟩,((AC.EF dA).trans hT).A1 (B:=C) (by omega) (fun j (h:j=C)=>by omega),Nat.lt_of_lt_of_le (show C<w2.heap.size by omega) cI,Or.inr ⟨i,lF,?_,_,_,_,_,_,_,_,_,⟨E.1.other _ (Or.inr (by decide)),E.2.1.other _ (Or.inr (by decide)),E.2.2.1.other _ (Or.inr (by decide)),E.2.2.2.1.other _ (Or.inr (by decide)),E.2.2.2.2.1.other _ (Or.inr (by decide)),E.2.2.2.2.2.1.other _ (Or.inr (by decide)),E.2.2.2.2.2.2.1.other _ (Or.inr (by decide)),E.2.2.2.2.2.2.2.1.other _ (Or.inr (by decide)),E.2.2.2.2.2.2.2.2.set _⟩⟩⟩;unfold Dc;rw[if_neg oB,aE.out]
 have gB:=A4 oB;obtain⟨yc,tH⟩:∃yc,yc=y.code:=⟨_,rfl⟩;go_enter Tryz.func34,Tryz.ntmps34;clear oB tH yc;go_wp2_with fail;generalize w.alloc (.cells #[.slice v y.pool.n z,.slice x y.pool.hn D,.int .i64 y.rs,.int .i64 y.rb,.slice oo y.old.length oc,.int .i64 y.code] 81)=w1 at ha HX pF x0 x1 x2 x3 x4 x5 ⊢;refine(Yi p y.code 7 .nilIface (Or.inl ⟨rfl,gB.out,rfl⟩) w1 (HE.out.A1 ha)).mono ?_;rintro e w2 ⟨rfl,F⟩;have dA:=A9 ha F;have V:=A4 (HC.out.A1 dA);have mE:=A4 (HX.out.A1 F);have vH:=F.size;clear x0 x1 x2 x3 x4 x5;obtain⟨-,-,-,-,-,-,-,-,⟨x8,tF⟩⟩:=V.out;go_upto_region 3 with fail;clear x8 tF;have kB:=AC.put w2 C 8 .nilIface;have rC:=A4 (show AC (fun j=>j=C) w (w2.setCell ⟨C,8,none⟩ .nilIface)from(AC.EF dA).trans kB);have cB:=A4 (show Bb (w2.setCell ⟨C,8,none⟩ .nilIface) C z0 z1 (.int .i64 W.time) (.int .i64 W.next) (.slice (some ⟨d,off,none⟩) W.sn c) z3 (.int .i64 0) (.int .i64 0) .nilIface from by
  have h:=V.out;exact⟨h.1.other _ (Or.inr (by decide)),h.2.1.other _ (Or.inr (by decide)),h.2.2.1.other _ (Or.inr (by decide)),h.2.2.2.1.other _ (Or.inr (by decide)),h.2.2.2.2.1.other _ (Or.inr (by decide)),h.2.2.2.2.2.1.other _ (Or.inr (by decide)),h.2.2.2.2.2.2.1.other _ (Or.inr (by decide)),h.2.2.2.2.2.2.2.1.other _ (Or.inr (by decide)),h.2.2.2.2.2.2.2.2.set _⟩)
 have fB:=A4 (mE.out.AD kB (by omega));have aI:=kB.size;clear kB V mE;generalize w2.setCell ⟨C,8,none⟩ .nilIface=w3 at rC cB fB aI ⊢;obtain⟨x0,x1,x2,x3,x4,x5⟩:=fB.out.c;obtain⟨⟨c0,bH⟩,⟨c1,cH⟩,-⟩:=cB.out;have n1:w.heap.size≠C:=by omega
 have n2:C≠w.heap.size:=by omega
 go_upto_region 4 with fail;clear x0 x1 x2 x3 x4 x5 c0 bH c1 cH;have lB:AC (fun j=>j=C) w3 ((w3.setCell ⟨C,0,none⟩ (.slice v y.pool.n z)).setCell ⟨C,1,none⟩ (.slice x y.pool.hn D)):=(AC.put _ C _ _).trans (AC.put _ C _ _);have sC:=A4 (rC.out.trans lB);have nC:=A4 (show Bb ((w3.setCell ⟨C,0,none⟩ (.slice v y.pool.n z)).setCell ⟨C,1,none⟩ (.slice x y.pool.hn D)) C (.slice v y.pool.n z) (.slice x y.pool.hn D) (.int .i64 W.time) (.int .i64 W.next) (.slice (some ⟨d,off,none⟩) W.sn c) z3 (.int .i64 0) (.int .i64 0) .nilIface from by
  have h:=cB.out;exact⟨(h.1.set _).other _ (Or.inr (by decide)),(h.2.1.other _ (Or.inr (by decide))).set _,(h.2.2.1.other _ (Or.inr (by decide))).other _ (Or.inr (by decide)),(h.2.2.2.1.other _ (Or.inr (by decide))).other _ (Or.inr (by decide)),(h.2.2.2.2.1.other _ (Or.inr (by decide))).other _ (Or.inr (by decide)),(h.2.2.2.2.2.1.other _ (Or.inr (by decide))).other _ (Or.inr (by decide)),(h.2.2.2.2.2.2.1.other _ (Or.inr (by decide))).other _ (Or.inr (by decide)),(h.2.2.2.2.2.2.2.1.other _ (Or.inr (by decide))).other _ (Or.inr (by decide)),(h.2.2.2.2.2.2.2.2.other _ (Or.inr (by decide))).other _ (Or.inr (by decide))⟩)
 have nE:=A4 (fB.out.AD lB (by omega));have bI:=lB.size;clear lB cB fB rC;generalize ((w3.setCell ⟨C,0,none⟩ (.slice v y.pool.n z)).setCell ⟨C,1,none⟩ (.slice x y.pool.hn D))=w4 at sC nC nE bI ⊢;have nA:∀j,Fy d kb W.sn W.A2 j->¬j=C:=fun j f e=>by have:=m.out j (Or.inr (Or.inl (Y.out j f)));omega
 have gE:=A4 (sG.out.AD sC.out nA);have G:=A4 nA;clear nA;obtain⟨c4,-⟩:=nC.out.2.2.2.2.1;go_wp2_with fail;refine(cC.out w4 gE.out c4).mono ?_;clear cC c4;rintro e w5 ⟨rfl,mA⟩;have gK:=mA.size;have Z:=A4 (sC.out.trans (AC.EF mA));have vD:=A4 (nC.out.A1 mA);have oE:=A4 (nE.out.A1 mA);have iE:=A4 (gE.out.A1 mA);have oA:=X.out.AD Z.out (by omega) (fun h0=>G.out _ (Or.inr ⟨k,t,h0,rfl⟩));have jE:=A4 oA;have dE:=A4 ((lG.out.AD Z.out (fun j e=>by omega)).isIn (S:=fun j=>rA<=j/\j<pA) (fun j h1 h2=>⟨h1,h2⟩));have lE:=A4 (tG.out.same (fun j h1 h2=>Z.out.block j h2 (by omega)));have fE:=A4 (oG.out.kept (ZI Z.out) (fun h0=>by
  rw[(show(kv k).ownBlock=some (kb k)by
   obtain⟨_,a,c,hv,_,hx⟩:=X.out.dead;obtain⟨off,ha,_⟩:=hx h0;rw[hv,ha];rfl)]
  intro e;injection e with e;exact G.out _ (Or.inr ⟨k,t,h0,rfl⟩) e))
 have pE:=A4 (HZ.out.AD Z.out (fun j f e=>by have:=m.out j (Or.inr (Or.inr f));omega));have gD:d≠C:=by omega
 have dC:C7 w5 0 w5.heap.size (.slice v y.pool.n z) (.slice x y.pool.hn D) (.slice (some ⟨d,off,none⟩) W.sn c) z3 {W with pool:=y.pool}:=⟨dE.out.at (fun j f=>⟨Nat.zero_le _,by omega⟩),iE.out.at (fun j f=>⟨Nat.zero_le _,by have:=m.out j (Or.inr (Or.inl (Y.out j f)));omega⟩),pE.out.at (fun j f=>⟨Nat.zero_le _,by have:=m.out j (Or.inr (Or.inr f));omega⟩)⟩;have bB:=A4 (show ∀w',Below w5.heap.size w5 w'->Calls Tryz.prog 73 #[.pointer (some ⟨C,0,none⟩),.int .i64 (W.A2 k).A8] w' fun e lD=>(∃a c,e = .returned (DI (.slice a (AI W (W.A2 k).A8).dn c) (AI W (W.A2 k).A8)))/\Below w'.heap.size w' lD from fun w' fF=>by
  refine(zBy C 0 w5.heap.size _ _ _ _ _ _ _ {W with pool:=y.pool} (W.A2 k).A8 w' (dC.A1 fF) (vD.out.A1 fF) fH HI.out.Aq.idsWf HI.out.Aq.dist Hx.out).mono ?_;rw[zCl];rintro e w2 ⟨a,c,rfl,F⟩;exact⟨⟨a,c,rfl⟩,F⟩)
 have gF:d<w5.heap.size:=by omega
 obtain⟨x4,-⟩:=oE.out.2.2.2.2.1;obtain⟨q2,-⟩:=oA.c2;have eB:=A4 (show ∀w',Below w5.heap.size w5 w'->(fun w':World=>w'.cell? ⟨w.heap.size,4,none⟩=some (.slice oo y.old.length oc)/\w'.cell? ⟨d,g+2,none⟩=some (.int .i64 (W.A2 k).A8)) w' from fun w' hb=>⟨(hb.cell (p:=⟨w.heap.size,4,none⟩) (AV x4)).trans x4,(hb.cell (p:=⟨d,g+2,none⟩) gF).trans q2⟩);have cK:∀(fn:Fn) (first cap:Array Value) (w:World),(Instr.makeFunc fn first cap).run Tryz.prog w = .ok (.func fn first cap) w:=fun _ _ _ _=>rfl
 have nB:Below w5.heap.size w5 w5.drew:=(Below.refl _ _).drew;have oC:=A4 (zF6 (W:=W) (k:=k) HY.out gB.out);have mG:=A4 ((HY.out.2.2 gB.out).ptrs (by omega));obtain⟨A,hA⟩:∃A,A=AI W (W.A2 k).A8:=⟨_,rfl⟩;have HA:=A4 hA;unfold DZ at oC;rw[<-hA]at bB oC Ht;unfold DI at bB;have pH:=fun (a:Option Addr) (c:Nat) (w:World)=>zBe (.slice a A.dn c) A w
 clear hA dC x4 q2 oA;go_upto_region 5 with fail;refine wp_region_held_drew (S:=(fun w':World=>w'.cell? ⟨w.heap.size,4,none⟩=some (.slice oo y.old.length oc)/\w'.cell? ⟨d,g+2,none⟩=some (.int .i64 (W.A2 k).A8))) (by kernel_rfl) (eB.out _ nB) (fun hHeld=>?_);generalize w5.drew=q0 at hHeld nB ⊢;refine tk 0 (h:=tk 1 (h:=tk 2 (h:=tk 3 (h:=tk 4 (h:=tk 5 (h:=tk 6 (h:=tk 9 (h:=tk 10 (h:=?_)))))))));refine rd [7] (rc (fun K hK=>?_) .nil);go_simp;go_at_call 73;refine(bB.out _ nB).mono ?_;rintro e w6 ⟨⟨a6,c6,rfl⟩,mH⟩;have q:=A9 nB mH
 (try go_wp2_with fail)
 refine hK.out _ _ (eB.out _ q) ?_;clear hK K;intro hHeld
 try simp only[Act.put,s1,s2,s3]
 refine tk 8 (h:=?_);refine rd [11] (rc (fun K hK=>?_) .nil);go_simp;go_at_call 72;have iK:=q.size;refine(zDU C hw w.heap.size y.old.length (fun j=>rA<=j/\j<pA) _ _ _ _ .nilIface _ W.time W.next 0 0 A.time y.pool (AN y.old) (AP y.old) w6 (lE.out.A1 q) mG.out Ht.out oC.out (vD.out.A1 q) (dE.out.A1 q) (fun k hk=>by omega) (by omega) (by omega)).mono ?_;rintro e w7 ⟨v7,y0,y1,rfl,fA,sE,vE,kA⟩;obtain⟨a7,c7,rfl,-⟩:=Bw fA;have bF:(fun w':World=>w'.cell? ⟨w.heap.size,4,none⟩=some (.slice oo y.old.length oc)/\w'.cell? ⟨d,g+2,none⟩=some (.int .i64 (W.A2 k).A8)) w7:=by
  have h:=eB.out _ q;exact⟨(kA.cell (o:=4) (show w.heap.size<w6.heap.size by omega) (by omega)).trans h.1,(kA.cell (o:=g+2) (show d<w6.heap.size by omega) gD).trans h.2⟩
 have eE:=A4 fA;have fG:=A4 sE;have kG:=A4 vE;have dF:AC (fun j=>j=C) w5 w7:=(AC.EF q).trans kA;have jK:=kA.size;have aA:=A4 dF;clear sE vE fA
 (try go_wp2_with fail)
 refine hK.out _ _ bF ?_;clear hK K hHeld bF kA;intro hHeld
 try simp only[Act.put,s1,s2,s3]
 refine tk 12 (h:=?_);refine wpAnyH_done (by kernel_rfl) ?_ _;clear hHeld pH bB eB;go_upto_region 6 with fail;have s:=jE.out.AD aA.out gD (fun h0=>G.out _ (Or.inr ⟨k,t,h0,rfl⟩));have eF:=oE.out.AD aA.out (show ¬w.heap.size=C by omega);have eC:=fE.out.kept (ZI aA.out) (fun h0=>by
  rw[(show(kv k).ownBlock=some (kb k)by
   obtain⟨_,a,c,hv,_,hx⟩:=X.out.dead;obtain⟨off,ha,_⟩:=hx h0;rw[hv,ha];rfl)]
  intro e;injection e with e;exact G.out _ (Or.inr ⟨k,t,h0,rfl⟩) e)
 have pG:=A4 (iE.out.AD aA.out G.out);obtain⟨L,hL⟩:∃L,L=C6 (AN y.old) (AP y.old) A.time y.old.length:=⟨_,rfl⟩;rw[<-hL]at eE;simp only[<-hL];have tJ:L.length<=3:=by
  rw[hL];have:=UV (AN y.old) (AP y.old) A.time y.old.length;omega
 have jG:=A4 hL;have l:Below w7.heap.size w7 w7.drew:=(Below.refl _ _).drew;have fA:=Ax.A1 eE.out l;obtain⟨-,ak,ck,iB,-,-⟩:=id s.dead;have fD:=s.dead.A1 l;have jD:=eC.A1 l;rw[iB]at fD jD;obtain⟨da,dc,I,nb,kC,jC,mB,mF⟩:=zBB (lo:=0) (hi:=w7.drew.heap.size) fD jD (by
  obtain⟨bb,ho,nH⟩:=Ax.own fA (by unfold maxLen;omega);exact ho.at (fun h0=>⟨Nat.zero_le _,(nH h0).2.2⟩)) (by omega) 39
 have cE:=A4 jC;have H:=A4 mB;have bE:=A4 mF;have N:∀j,(0<(W.A2 k).dn/\j=kb k)->j≠d/\j≠C/\j≠w.heap.size:=fun j f=>by
  have h1:=m.out j (Or.inr (Or.inl (Y.out j (Or.inr ⟨k,t,f.1,f.2⟩))));exact⟨fun e=>X.out.Bn f.1 (by rw[<-f.2];exact e),by omega,by omega⟩
 have jF:d<w7.drew.heap.size:=show d<w7.heap.size by omega
 have fC:=eF.A1 l;have lH:=fC.AD mB (fun h=>(N _ h).2.2 rfl);have U:=fun (r:Nat) (u:Value) (h:AO w7 d (g+r) u)=>(h.A1 l).AD mB (fun h=>(N _ h).1 rfl)
 have c5:=s.c5;rw[iB]at c5;obtain⟨d5,rE⟩:=c5.A1 l;obtain⟨m3,dI⟩:=U 3 _ s.c3;obtain⟨m4,eI⟩:=U 4 _ s.c4;obtain⟨m5,fI⟩:=U 5 _ c5;obtain⟨-,-,⟨x2,-⟩,⟨x3,-⟩,-⟩:=fC;obtain⟨-,-,⟨u2,-⟩,⟨u3,-⟩,-⟩:=lH;have kE:=A4 s;have J:=A4 N;have kJ:=A4 iB;have n3:d≠w.heap.size:=by omega
 have n4:w.heap.size≠d:=by omega
 clear eF U c5 fD jD jC mB mF s eC fA hL N iB;have E1:AC (fun j=>j=d) I ((I.setCell ⟨d,g+3,none⟩ (.int .i64 y.rs)).setCell ⟨d,g+3+1,none⟩ (.int .i64 y.rb)):=(AC.put _ d _ _).trans (AC.put _ d _ _);have E2:AC (fun j=>j=d) I (((I.setCell ⟨d,g+3,none⟩ (.int .i64 y.rs)).setCell ⟨d,g+3+1,none⟩ (.int .i64 y.rb)).setCell ⟨d,g+5,none⟩ (.slice da ((W.A2 k).dn+L.length) dc)):=E1.trans (AC.put _ d _ _);have tB:w.heap.size<I.heap.size:=AV u2;have gG:=A4 (show(fun w':World=>w'.cell? ⟨w.heap.size,2,none⟩=some (.int .i64 y.rs)/\w'.cell? ⟨w.heap.size,3,none⟩=some (.int .i64 y.rb)) ((I.setCell ⟨d,g+3,none⟩ (.int .i64 y.rs)).setCell ⟨d,g+3+1,none⟩ (.int .i64 y.rb))from⟨(E1.cell (o:=2) tB n4).trans u2,(E1.cell (o:=3) tB n4).trans u3⟩);have iG:=A4 (show(fun w':World=>w'.cell? ⟨w.heap.size,2,none⟩=some (.int .i64 y.rs)/\w'.cell? ⟨w.heap.size,3,none⟩=some (.int .i64 y.rb)) (((I.setCell ⟨d,g+3,none⟩ (.int .i64 y.rs)).setCell ⟨d,g+3+1,none⟩ (.int .i64 y.rb)).setCell ⟨d,g+5,none⟩ (.slice da ((W.A2 k).dn+L.length) dc))from⟨(E2.cell (o:=2) tB n4).trans u2,(E2.cell (o:=3) tB n4).trans u3⟩);have jA:=A4 E2;have bC:=A4 kC;have HU:=A4 (show(fun w':World=>w'.cell? ⟨w.heap.size,2,none⟩=some (.int .i64 y.rs)/\w'.cell? ⟨w.heap.size,3,none⟩=some (.int .i64 y.rb)) I from⟨u2,u3⟩);have tC:=A4 (show(fun w':World=>w'.cell? ⟨w.heap.size,2,none⟩=some (.int .i64 y.rs)/\w'.cell? ⟨w.heap.size,3,none⟩=some (.int .i64 y.rb)) w7.drew from⟨x2,x3⟩);clear kC E1 E2 u2 u3;refine wp_region_held_drew (S:=(fun w':World=>w'.cell? ⟨w.heap.size,2,none⟩=some (.int .i64 y.rs)/\w'.cell? ⟨w.heap.size,3,none⟩=some (.int .i64 y.rb))) (by kernel_rfl) tC.out (fun hHeld=>?_);generalize w7.drew=q7 at hHeld tC bC H bE d5 rE x2 x3 l jF ⊢;refine tk 0 (h:=tk 1 (h:=tk 2 (h:=tk 3 (h:=tk 4 (h:=tk 5 (h:=tk 6 (h:=tk 8 (h:=?_))))))));refine rd [7] (rc (fun K hK=>?_) .nil);go_simp
 (try go_wp2_with fail)
 refine hK.out _ _ (tC.out) ?_;clear hK K;intro hHeld
 try simp only[Act.put,s1,s2,s3]
 refine rd [9] (rc (fun K hK=>?_) .nil);refine Rq rfl (.tmp 47) (.tmp 48) 39 rfl _ _ _ rfl rfl bC.out ?_
 (try go_wp2_with fail)
 refine hK.out _ _ (HU.out) ?_;clear hK K;intro hHeld
 try simp only[Act.put,s1,s2,s3]
 clear d5 rE x2 x3;refine tk 10 (h:=tk 11 (h:=?_));refine rd [12] (rc (fun K hK=>?_) .nil);go_simp
 (try go_wp2_with fail)
 refine hK.out _ _ (gG.out) ?_;clear hK K;intro hHeld
 try simp only[Act.put,s1,s2,s3]
 refine tk 13 (h:=tk 14 (h:=?_));refine rd [15] (rc (fun K hK=>?_) .nil);go_simp
 (try go_wp2_with fail)
 refine hK.out _ _ (iG.out) ?_;clear hK K;intro hHeld
 try simp only[Act.put,s1,s2,s3]
 refine wpAnyH_done (by kernel_rfl) ?_ _;clear hHeld m3 dI m4 eI m5 fI;go_wp2_with fail;go_end0;have eO:Dc W k y=⟨Cy W k y,0,((DZ W k y).length:Int),0⟩:=if_pos gB.out;have eY:DZ W k y=Bl (AN y.old) (AP y.old) A.time y.old.length:=by unfold DZ;rw[HA.out]
 have eD:CV W k y=Bu (W.A2 k).dn (W.A2 k).ds (W.A2 k).db ++ L:=by unfold CV L3;rw[jG.out,HA.out]
 have iH:Bb (((I.setCell ⟨d,g+3,none⟩ (.int .i64 y.rs)).setCell ⟨d,g+3+1,none⟩ (.int .i64 y.rb)).setCell ⟨d,g+5,none⟩ (.slice da ((W.A2 k).dn+L.length) dc)) C y0 y1 (.int .i64 W.time) (.int .i64 W.next) (.slice (some ⟨d,off,none⟩) W.sn c) z3 (.int .i64 0) (.int .i64 ((DZ W k y).length:Int)) .nilIface:=by
  have h:=fG.out;rw[Int.zero_add,<-eY]at h;exact((h.A1 l).AD H.out (fun e=>(J.out _ e).2.1 rfl)).AD jA.out (fun e=>gD e.symm)
 have lK:=l.size;have kK:=H.out.size;have mK:=jA.out.size;have dD:AC (fun j=>j=C\/j=d\/(0<(W.A2 k).dn/\j=kb k)) w (((I.setCell ⟨d,g+3,none⟩ (.int .i64 y.rs)).setCell ⟨d,g+3+1,none⟩ (.int .i64 y.rb)).setCell ⟨d,g+5,none⟩ (.slice da ((W.A2 k).dn+L.length) dc)):=((((Z.out.mono (fun j e=>Or.inl e)).trans (aA.out.mono (fun j e=>Or.inl e))).trans (AC.EF l)).trans (H.out.mono (fun j e=>Or.inr (Or.inr e)))).trans (jA.out.mono (fun j e=>Or.inr (Or.inl e)));have O:∀j,(0<(W.A2 k).dn/\j=kb k)->C+1<=j/\j<hw/\Q j:=fun j f=>by
  have h1:=Y.out j (Or.inr ⟨k,t,f.1,f.2⟩);have:=m.out j (Or.inr (Or.inl h1));exact⟨this.1,this.2,h1⟩
 rw[eO];refine⟨⟨_,rfl⟩,dD.A1 (B:=C) (by omega) (fun j h=>by
  rcases h with h | h | h
  ·omega
  ·omega
  ·have:=O j h;omega),by omega,Or.inl ⟨rfl,_,_,_,_,iH,?_⟩⟩
 have lA:AC (fun j=>j=d\/(0<(W.A2 k).dn/\j=kb k)) q7 (((I.setCell ⟨d,g+3,none⟩ (.int .i64 y.rs)).setCell ⟨d,g+3+1,none⟩ (.int .i64 y.rb)).setCell ⟨d,g+5,none⟩ (.slice da ((W.A2 k).dn+L.length) dc)):=(H.out.mono (fun j e=>Or.inr e)).trans (jA.out.mono (fun j e=>Or.inl e));have eA:∀o u,AO w7 d o u->AO I d o u:=fun o u h=>(h.A1 l).AD H.out (fun h=>(J.out _ h).1 rfl)
 have e2:=aH.out;have iD:0<(Fd W k y).dn->((0<(W.A2 k).dn/\nb=kb k)\/(q7.heap.size<=nb/\nb<I.heap.size)):=fun h=>bE.out (by
  have:(Fd W k y).dn=(W.A2 k).dn+L.length:=(by show(CV W k y).length=_;rw[eD,List.length_append,Jm]);omega)
 have iC:0<(Fd W k y).dn->nb≠d:=fun h=>by
  rcases iD h with h | h
  ·exact(J.out nb h).1
  ·omega
 have nF:EO (((I.setCell ⟨d,g+3,none⟩ (.int .i64 y.rs)).setCell ⟨d,g+3+1,none⟩ (.int .i64 y.rb)).setCell ⟨d,g+5,none⟩ (.slice da ((W.A2 k).dn+L.length) dc)) d (off+k*6) nb (.slice da ((W.A2 k).dn+L.length) dc) (Fd W k y):=by
  rw[<-e2];have hs:=kE.out;refine⟨?_,?_,?_,?_,?_,?_,?_,X.out.CG,iC⟩
  ·exact(((eA _ _ hs.c0).other _ (Or.inr (by omega))).other _ (Or.inr (by omega))).other _ (Or.inr (by omega))
  ·exact(((eA _ _ hs.c1).other _ (Or.inr (by omega))).other _ (Or.inr (by omega))).other _ (Or.inr (by omega))
  ·exact(((eA _ _ hs.c2).other _ (Or.inr (by omega))).other _ (Or.inr (by omega))).other _ (Or.inr (by omega))
  ·exact(((eA _ _ hs.c3).set _).other _ (Or.inr (by omega))).other _ (Or.inr (by omega))
  ·exact(((eA _ _ hs.c4).other _ (Or.inr (by omega))).set _).other _ (Or.inr (by omega))
  ·exact(((eA _ _ hs.c5).other _ (Or.inr (by omega))).other _ (Or.inr (by omega))).set _
  ·have h:=cE.out.AD jA.out (fun h0=>iC (by show 0<(CV W k y).length;rw[eD];exact h0));show CS _ nb _ (CV W k y).length (AN (CV W k y)) (AP (CV W k y));rw[eD];exact h
 show EL _ (C+1) _ _ _ _ _ (Cy W k y);refine⟨(fun j=>(rA<=j/\j<pA)\/(w6.heap.size<=j/\j<w7.heap.size)),(fun j=>Q j\/(q7.heap.size<=j/\j<I.heap.size)),R,⟨?_,?_,?_,?_,?_,?_⟩,?_⟩
 ·have h:=(kG.out.A1 l).AD lA (fun j f e=>by
   rcases e with e | e
   ·omega
   ·have:=O j e;omega)
  show DJ _ _ _ _ (BJ y.pool (DZ W k y));rw[eY];exact h
 ·refine zz (w:=q7) (pG.out.A1 l) rG.out (fun j f=>Or.inl (Y.out j f)) t lA (fun j f cJ r hr u hc=>?_) nF (fun h=>⟨(iD h).imp id (fun h j f e=>?_),?_⟩)
  ·exact(((hc.AD H.out (fun h=>(J.out _ h).1 rfl)).other _ (Or.inr (by omega))).other _ (Or.inr (by omega))).other _ (Or.inr (by omega))
  ·have:=m.out j (Or.inr (Or.inl (Y.out j f)));omega
  ·rcases iD h with h | h
   ·exact Or.inl (O nb h).2.2
   ·exact Or.inr h
 ·exact((pE.out.AD aA.out (fun j f e=>by have:=m.out j (Or.inr (Or.inr f));omega)).A1 l).AD lA (fun j f e=>by
   rcases e with e | e
   ·exact pC.out d nG.out (by rw[<-e];exact f)
   ·exact pC.out j (O j e).2.2 f)
 ·intro j f hq;rcases hq with hq | hq
  ·have:=m.out j (Or.inr (Or.inl hq));omega
  ·omega
 ·intro j f hq;have:=m.out j (Or.inr (Or.inr hq));omega
 ·intro j f hq;rcases f with f | f
  ·exact pC.out j f hq
  ·have:=m.out j (Or.inr (Or.inr hq));omega
 ·rintro j (h | h | h)
  ·omega
  ·rcases h with h | h
   ·have:=m.out j (Or.inr (Or.inl h));omega
   ·omega
  ·have:=m.out j (Or.inr (Or.inr h));omega
theorem zCg(p:Nat->Addr)(C k E F H:Nat)(z0 z1 z2 z3:Value)(W:A6)(name:ByteArray)(AM:Int)(data:ByteArray)(w:World)(hE:D8 w p)(hI:DE W)(ht:FZ (AI W (W.A2 k).A8).time)(hx:(Lit.int .i64 (W.A2 k).A8).wf=true)(hk:Gs W name k)(N:(W.A2 k).dn<=1048576)(iB:C<w.heap.size)(k0:w.cell? ⟨E,0,none⟩=some (.string name))(l0:E<C)(k1:w.cell? ⟨F,0,none⟩=some (A0 AM))(l1:F<C)(k2:w.cell? ⟨H,0,none⟩=some (.string data))(l2:H<C)
 (ho:D5 w (C+1) w.heap.size z0 z1 z2 z3 W) (hC:Bb w C z0 z1 (A0 W.time) (A0 W.next) z2 z3 (A0 0) (A0 0) .nilIface) :
 Calls Tryz.prog 33 #[.pointer (some ⟨C,0,none⟩),.pointer (some ⟨E,0,none⟩),.pointer (some ⟨F,0,none⟩),.pointer (some ⟨H,0,none⟩)] w (IU p (Dc W k (CF W.pool (W.A2 k).rs (W.A2 k).rb AM data W.time)) C w):=by
 have h8:=hI.Aq.A2.1;have dA:=hk.1;have HC:=A4 hC;have HO:=A4 ho;obtain⟨M,O,o,U⟩:∃M O,Hid (∃nb nv,EO w M O nb nv (W.A2 k))/\Hid (∀w',Below w.heap.size w w'->Calls Tryz.prog 36 #[.pointer (some ⟨C,0,none⟩),.string name] w' fun e f=>e = .returned (.pointer (some ⟨M,O,none⟩))/\Below w'.heap.size w' f):=by
  obtain⟨P,Q,R,bA,eA⟩:=ho;have fB:=bA.isIn;obtain⟨vA,kb,kv,hS,mC,bB⟩:=fB.A2;obtain⟨off,c,rfl,A⟩:=hS.nth dA;refine⟨vA,off+k*6,A4 ⟨_,_,A⟩,A4 (fun w' r=>?_)⟩;obtain⟨c4,-⟩:=(hC.A1 r).2.2.2.2.1;refine(R7 C (C+1) w.heap.size W.sn k c _ W.A2 name w' c4 ((hS.at (lo:=C+1) (hi:=w.heap.size) (fun j hj=>eA j (Or.inr (Or.inl (bB j hj))))).A1 r) h8 dA hk.2.1 hk.2.2).mono ?_;rintro e B ⟨⟨b,dC,e1,rfl⟩,l⟩;simp only[Option.some.injEq,Addr.mk.injEq,and_true]at e1;obtain⟨rfl,rfl⟩:=e1;exact⟨rfl,l⟩
 obtain⟨nb,nv,A⟩:=o.out;clear o;have o:=A4 A;have q:CD w (C+1) w.heap.size z0 z1 W.pool:=ho.own.at.pool;obtain⟨a0,c0,a1,c1,rfl,rfl⟩:=q.form;obtain⟨y,hy⟩:∃y,y=CF W.pool (W.A2 k).rs (W.A2 k).rb AM data W.time:=⟨_,rfl⟩;have tA:=A4 (show ∀w',Below w.heap.size w w'->Calls Tryz.prog 35 #[.agg #[.slice a0 W.pool.n c0,.slice a1 W.pool.hn c1],.agg #[A0 (W.A2 k).rs,A0 (W.A2 k).rb],A0 AM,.string data,A0 W.time] w' (Q8 y w')from fun w' m=>by
  rw[hy];exact zDF _ _ (C+1) w.heap.size W.pool (W.A2 k).rs (W.A2 k).rb AM W.time data w' (q.A1 m))
 have HG:=A4 (show Ms y by rw[hy];exact zAB _ _ _ _ _ _);rw[<-hy];have pA:=A4 (show ∀(w' f:World) (v0 v1 vo:Value) (lo hi:Nat),Below w.heap.size w w'->Below w'.heap.size w' f->Bq f lo hi v0 v1 y.pool->w'.heap.size<=lo->hi<=f.heap.size->Ax f w'.heap.size vo y.old->Calls Tryz.prog 34 #[.pointer (some ⟨C,0,none⟩),.string name,.agg #[v0,v1,A0 y.rs,A0 y.rb,vo,A0 y.code]] f (IU p (Dc W k y) C f)from fun w' f v0 v1 vo lo hi m r hp h1 h2 hr=>by
  have l:=A9 m r;have hz:=m.size;have sC:=r.size;have jB:=l.size;refine zGv p C k w.heap.size lo hi _ _ _ _ v0 v1 vo W y name f (hE.A1 l) hI HG.out ht hx hk N iB jB (ho.A1 l) (hC.A1 l) hp (by omega) h2 ?_;obtain⟨bb,h3,aA⟩:=Ax.own hr (by have:=HG.out.2.1;unfold maxLen;omega);exact h3.at (fun h0=>⟨by have:=(aA h0).2.1;omega,(aA h0).2.2⟩))
 have I:Below w.heap.size w w.drew:=(Below.refl _ _).drew;have a:=A4 (show ∀w',Below w.heap.size w w'->(fun w':World=>w'.cell? ⟨E,0,none⟩=some (.string name)/\w'.cell? ⟨F,0,none⟩=some (A0 AM)/\w'.cell? ⟨H,0,none⟩=some (.string data)) w' from fun w' m=>⟨(m.cell (AV k0)).trans k0,(m.cell (AV k1)).trans k1,(m.cell (AV k2)).trans k2⟩);have z:=A4 (show ∀w',Below C w w'->(fun w':World=>w'.cell? ⟨E,0,none⟩=some (.string name)/\w'.cell? ⟨F,0,none⟩=some (A0 AM)/\w'.cell? ⟨H,0,none⟩=some (.string data)) w' from fun w' m=>⟨(m.cell (p:=⟨E,0,none⟩) l0).trans k0,(m.cell (p:=⟨F,0,none⟩) l1).trans k1,(m.cell (p:=⟨H,0,none⟩) l2).trans k2⟩);clear hE hI ht hx hk N ho hC q A hy;go_enter Tryz.func33,Tryz.ntmps33;go_upto_region 0 with fail;clear k0 k1 k2;refine wp_region_held_drew (S:=(fun w':World=>w'.cell? ⟨E,0,none⟩=some (.string name)/\w'.cell? ⟨F,0,none⟩=some (A0 AM)/\w'.cell? ⟨H,0,none⟩=some (.string data))) (by kernel_rfl) (a.out _ I) (fun hHeld=>?_);have Y:=I;generalize w.drew=q0 at hHeld I Y ⊢;refine tk 0 (h:=tk 1 (h:=tk 2 (h:=tk 3 (h:=tk 4 (h:=tk 5 (h:=tk 7 (h:=tk 8 (h:=tk 13 (h:=tk 14 (h:=tk 15 (h:=tk 16 (h:=tk 17 (h:=tk 18 (h:=?_))))))))))))));refine Qh [6,9,10,11,12,19] (fun i=>if i=10 then [9] else if i=11 then [10] else if i=12 then [11] else []) (fun i=>i+5) (fun i v w'=>(i=6->v = .agg #[.slice a0 W.pool.n c0,.slice a1 W.pool.hn c1])/\(i=9->v = .pointer (some ⟨M,O,none⟩))/\(i=10->v = .pointer (some ⟨M,O,none⟩))/\(i=11->v = .pointer (some ⟨M,O+3,none⟩))/\(i=12->v = .agg #[A0 (W.A2 k).rs,A0 (W.A2 k).rb])/\(i=19->v=A0 W.time)) 2 (G:=fun w'=>Below w.heap.size w w') (by kernel_rfl) (by decide) (by decide) (by decide) ?_ (fun _ _ h t=>A9 h t) (by assumption) Y ?_ ?_
 ·intro i v w' f hf t;exact hf
 ·intro i hi x B hS g N K hK;simp only[List.mem_cons,List.not_mem_nil,or_false]at hi;rcases hi with rfl | rfl | rfl | rfl | rfl | rfl
  ·refine wpOp_step (EC rfl) (fun V d=>?_);simp only[BI,Act.put,Nat.reduceAdd,s1,s2,s3];obtain⟨⟨c0,-⟩,⟨c1,-⟩,⟨c2,-⟩,-⟩:=HC.out.A1 g;go_simp;refine d _ _ (hK.out _ _ B ?_ (a.out _ (A9 g (Below.refl _ _))) ⟨fun _=>rfl,fun e=>absurd e (by decide),fun e=>absurd e (by decide),fun e=>absurd e (by decide),fun e=>absurd e (by decide),fun e=>absurd e (by decide)⟩ (Below.refl _ _));simp only[BI,Act.put,Nat.reduceAdd,s1,s2,s3]
  ·refine wpOp_step (EC rfl) (fun V d=>?_);simp only[BI,Act.put,Nat.reduceAdd,s1,s2,s3];go_simp;go_at_call 36;refine(U.out _ g).mono ?_;rintro e w3 ⟨rfl,s⟩;refine d _ _ (hK.out _ _ w3 ?_ (a.out _ (A9 g s)) ⟨fun e=>absurd e (by decide),fun _=>rfl,fun e=>absurd e (by decide),fun e=>absurd e (by decide),fun e=>absurd e (by decide),fun e=>absurd e (by decide)⟩ s);simp only[BI,Act.put,Nat.reduceAdd,s1,s2,s3]
  ·refine wpOp_step (EC rfl) (fun V d=>?_);simp only[BI,Act.put,Nat.reduceAdd,s1,s2,s3];have D:=(N 9 (by decide)).2.1 rfl;simp only[D];go_simp;refine d _ _ (hK.out _ _ B ?_ (a.out _ (A9 g (Below.refl _ _))) ⟨fun e=>absurd e (by decide),fun e=>absurd e (by decide),fun _=>rfl,fun e=>absurd e (by decide),fun e=>absurd e (by decide),fun e=>absurd e (by decide)⟩ (Below.refl _ _));simp only[BI,Act.put,Nat.reduceAdd,s1,s2,s3,D]
  ·refine wpOp_step (EC rfl) (fun V d=>?_);simp only[BI,Act.put,Nat.reduceAdd,s1,s2,s3];have D:=(N 10 (by decide)).2.2.1 rfl;simp only[D];go_simp;refine d _ _ (hK.out _ _ B ?_ (a.out _ (A9 g (Below.refl _ _))) ⟨fun e=>absurd e (by decide),fun e=>absurd e (by decide),fun e=>absurd e (by decide),fun _=>rfl,fun e=>absurd e (by decide),fun e=>absurd e (by decide)⟩ (Below.refl _ _));simp only[BI,Act.put,Nat.reduceAdd,s1,s2,s3,D]
  ·refine wpOp_step (EC rfl) (fun V d=>?_);simp only[BI,Act.put,Nat.reduceAdd,s1,s2,s3];have D:=(N 11 (by decide)).2.2.2.1 rfl;simp only[D];obtain⟨q3,-⟩:=(o.out.A1 g).c3;obtain⟨q4,-⟩:=(o.out.A1 g).c4;go_simp;refine d _ _ (hK.out _ _ B ?_ (a.out _ (A9 g (Below.refl _ _))) ⟨fun e=>absurd e (by decide),fun e=>absurd e (by decide),fun e=>absurd e (by decide),fun e=>absurd e (by decide),fun _=>rfl,fun e=>absurd e (by decide)⟩ (Below.refl _ _));simp only[BI,Act.put,Nat.reduceAdd,s1,s2,s3,D]
  ·refine wpOp_step (EC rfl) (fun V d=>?_);simp only[BI,Act.put,Nat.reduceAdd,s1,s2,s3];obtain⟨⟨c0,-⟩,⟨c1,-⟩,⟨c2,-⟩,-⟩:=HC.out.A1 g;go_simp;refine d _ _ (hK.out _ _ B ?_ (a.out _ (A9 g (Below.refl _ _))) ⟨fun e=>absurd e (by decide),fun e=>absurd e (by decide),fun e=>absurd e (by decide),fun e=>absurd e (by decide),fun e=>absurd e (by decide),fun _=>rfl⟩ (Below.refl _ _));simp only[BI,Act.put,Nat.reduceAdd,s1,s2,s3]
 ·intro x B hS g hF;have f6:=(hF 6 (by decide)).1 rfl;have f12:=(hF 12 (by decide)).2.2.2.2.1 rfl;have ft:=(hF 19 (by decide)).2.2.2.2.2 rfl;simp only[BI,DF,if_true,Act.put,Nat.reduceAdd,s1,s2,s3,f6,f12,ft];clear hF f6 f12 ft hHeld;refine rd [20] (rc (fun K hK=>?_) .nil);go_simp;go_at_call 35;refine(tA.out B g).mono ?_;rintro e w3 ⟨v0,v1,vo,lo,hi,rfl,gB,eB,J,L,-,s⟩;obtain⟨b0,d0,b1,d1,rfl,rfl⟩:=J.at.form;obtain⟨b2,d2,rfl,-⟩:=Bw L;have rA:=A4 J;have sA:=A4 L;have Z:=A9 g s;clear J L
  (try go_wp2_with fail)
  refine hK.out _ _ (a.out _ Z) ?_;clear hK K;intro hHeld
  try simp only[Act.put,s1,s2,s3]
  refine rd [21] (rc (fun K hK=>?_) .nil);go_simp;go_at_call 34;refine(pA.out B w3 _ _ _ lo hi g s rA.out gB eB sA.out).mono ?_;rintro e w4 ⟨⟨ve,rfl⟩,cB,u⟩;have T:=A4 u;have X:Below C w w4:=(Z.mono (by omega)).trans cB;clear u
  (try go_wp2_with fail)
  refine hK.out _ _ (z.out _ X) ?_;clear hK K;intro hHeld
  try simp only[Act.put,s1,s2,s3]
  refine wpAnyH_done (by kernel_rfl) ?_ _;clear hHeld;go_wp2_with fail;go_end0;refine⟨⟨_,rfl⟩,X,T.out.1,?_⟩;rcases T.out.2 with h | h
  ·exact Or.inl h
  ·exact Or.inr h
theorem zDB(p:Nat->Addr)(j v1 l m:Value)(lo hi:Nat)(W:A6)(name:ByteArray)(AM:Int)(data:ByteArray)(w:World)(q:D8 w p)(h:C7 w lo hi j v1 l m W)(d:G4 W)(x:Ap W.pool<=1048576)(y:W.sn<=1048576)(z:W.pn<=1048576)(n:JX W)(b:name.size<=maxLen)(c:(Lit.int .i64 AM).wf=true)(a:data.size<=maxLen) :
 Calls Tryz.prog 12 #[Cc j v1 l m W,.string name,A0 AM,.string data] w (zBn W name AM data w):=by
 by_cases hs:BL W name
 ·obtain⟨k,i⟩:=Qr hs;refine(ZJ p j v1 l m lo hi W name AM data (Dc W k (CF W.pool (W.A2 k).rs (W.A2 k).rb AM data W.time)) w q h d x y z n b c a ?_).mono ?_
  ·intro t u v C w' M N O P G J H K I L s _ _ E f B D A;have Q:=(Qy W).1 s;have F:=d (W.pn+k) (by have:=i.1;unfold memN;omega);rw[C4]at F;exact zCg p C k t u v M N O P W name AM data w' (q.A1 B) s (zB6 Q.Aq _) F i (n.1 k i.1) f G J H K I L D A
  ·rintro e w' ⟨r,g,o⟩;exact⟨r,_,g,fun _=>⟨k,i,rfl⟩,o⟩
 ·refine(ZJ p j v1 l m lo hi W name AM data (BP 0) w q h d x y z n b c a ?_).mono ?_
  ·intro t u v C w' M N O P G J H K I L s _ _ E f B D A;exact absurd (E 0 (by omega)) hs
  ·rintro e w' ⟨r,g,o⟩;exact⟨r,_,g,fun e=>absurd ((e▸g).all 0 (by omega)) hs,o⟩
section
variable {p q : A7} {xs xb b ys yb ms mb gs gb : Int} {n : Nat}
def Frs(p:A7)(b:Int)(z:Int×Int):Prop:=Fx p z.1/\z.2=b
theorem New.mem(h:New p xs xb n b q ys yb ms mb gs gb)(f:As p xs xb)(hn:n<64){z:Int×Int}(v:z∈AG q ys yb):z∈AG p xs xb\/Frs p b z:=by
 have r:=h.ok f hn;rcases(GA r).1 v with⟨rfl,a⟩ | ⟨i,hi,rfl,a⟩ | ⟨k,t,rfl,a⟩
 ·rcases h.root with⟨e,-⟩ | ⟨d,c,o,-⟩
  ·exact absurd e a
  ·refine .inr ⟨c,?_⟩;have:=d.1.2.2.2;rw[o]at this;exact this.symm
 ·obtain⟨j,l⟩:=h.nodes hi;rw[j,l]at a ⊢;by_cases e:i=n / 8
  ·subst e;have m:Ao p xs xb n 0 ms (n / 8)=ms:=if_pos rfl;have s:Am p xs xb n 0 mb (n / 8)=mb:=if_pos rfl;rw[m,s]at a ⊢;rcases h.node with⟨g,-⟩ | ⟨d,c,o,-⟩
   ·exact absurd g a
   ·refine .inr ⟨c,?_⟩;have:=d.1.2.2.2;rw[o]at this;exact this.symm
  ·obtain⟨m,s⟩:=EB (p:=p) (xs:=xs) (xb:=xb) (x:=ms) e;have u:=(EB (p:=p) (xs:=xs) (xb:=xb) (x:=mb) e).2;rw[m,u]at a ⊢;exact .inl ((GA f).2 (.inr (.inl ⟨i,hi,rfl,a⟩)))
 ·obtain⟨j,l⟩:=h.pages f t;rw[j,l]at a ⊢;by_cases e:k=n
  ·rw[if_pos e,if_pos e]at a ⊢;rcases h.AM with g | ⟨d,c⟩
   ·exact absurd g a
   ·exact .inr ⟨c,h.born.resolve_left a⟩
  ·rw[if_neg e,if_neg e]at a ⊢;exact .inl ((GA f).2 (.inr (.inr ⟨k,t,rfl,a⟩)))
theorem New.fresh_in(h:New p xs xb n b q ys yb ms mb gs gb)(i:As p xs xb)(hn:n<64){j:Nat}(k:q.s j≠p.s j):∃c,((j:Int),c)∈AG q ys yb:=by
 have g:=h.ok i hn;rcases(h.only j).resolve_left k with⟨e,a⟩ | ⟨e,a⟩ | ⟨e,a⟩
 ·obtain⟨d,f⟩:=h.pages i hn;rw[if_pos rfl]at d f;exact⟨gb,(GA g).2 (.inr (.inr ⟨n,hn,by rw[d,f,e],by rw[d,f];exact a⟩))⟩
 ·obtain⟨d,f⟩:=h.nodes (show n / 8<8 by omega);rw[show Ao p xs xb n 0 ms (n / 8)=ms from if_pos rfl]at d;rw[show Am p xs xb n 0 mb (n / 8)=mb from if_pos rfl]at f;exact⟨mb,(GA g).2 (.inr (.inl ⟨n / 8,by omega,by rw[d,f,e],by rw[d,f];exact a⟩))⟩
 ·exact⟨yb,(GA g).2 (.inl ⟨by rw[e],a⟩)⟩
end
variable{x:Int×Int}
theorem zAH(l:List (Int×Int))(t:Int):x∈Bl (AN l) (AP l) t l.length↔x∈l/\t<x.2:=by
 rw[QJ];unfold EA;rw[List.mem_filter,decide_eq_true_iff]
theorem QA(l:List (Int×Int))(t:Int):∀k,k<=l.length->C6 (AN l) (AP l) t k=(l.take k).filter fun x=>decide (¬t<x.2)
 | 0,_=>by simp[C6]
 | k+1,hk=>by
  have a:k<l.length:=(by omega);unfold C6;rw[QA l t k (by omega),List.take_succ_eq_append_getElem a,List.filter_append,List.filter_cons];simp only[List.filter_nil];unfold AN AP;rw[D6 a];by_cases h:t<(l[k]).2
  ·rw[if_pos h,if_neg (by simpa using h),List.append_nil]
  ·rw[if_neg h,if_pos (by simpa using h)]
theorem zFV(l:List (Int×Int))(t:Int):x∈C6 (AN l) (AP l) t l.length↔x∈l/\¬t<x.2:=by
 rw[QA l t _ (Nat.le_refl _),List.take_length,List.mem_filter,decide_eq_true_iff]
theorem zt(t:Int)(h:l.Nodup):(C6 (AN l) (AP l) t l.length).Nodup:=by
 rw[QA l t _ (Nat.le_refl _),List.take_length];exact h.filter _
theorem zBJ{p:A7}(b:AZ p){m:List (Int×Int)}(f:∀x,x∈l->B8 p x.1 x.2)(c:l.Nodup)(d:m.Nodup)(a:m.length<=200)(h:∀x,x∈l↔x∈m):E6 l.length (AN l) (AP l) m:=by
 have e:l.length=m.length:=((List.perm_ext_iff_of_nodup c d).2 h).length_eq;refine⟨Ky b f c (by omega),Ky b (fun x g=>f x ((h x).2 g)) d a,e,fun i hi=>?_⟩;rw[Hu];unfold AN AP;rw[D6 hi];exact(h _).1 (List.getElem_mem hi)
theorem zDu{f:Nat->Int}(h:E6 n f g l):(∀x,x∈Bu n f g↔x∈l)/\(Bu n f g).Nodup:=by
 have p:=h.symm;refine⟨fun x=>⟨fun o=>?_,fun o=>?_⟩,?_⟩
 ·obtain⟨j,c,rfl⟩:=List.mem_map.1 o;have:=h.2.2.2 j (List.mem_range.1 c)
  rwa [Hu]at this
 ·obtain⟨j,c,e⟩:=List.getElem_of_mem o;obtain⟨i,hi,d,k⟩:=p.2.2.2 j c;unfold AN at d;unfold AP at k;rw[D6 c,e]at d k;exact List.mem_map.2 ⟨i,List.mem_range.2 hi,by rw[d,k]⟩
 ·unfold Bu List.Nodup;rw[List.pairwise_map];refine List.nodup_range.imp_of_mem fun {a b} q r m e=>m ?_
  exact h.1.2.2.inj (List.mem_range.1 q) (List.mem_range.1 r) (Prod.mk.inj e).1
section
variable {W : A6}
theorem zER(h:B4 W)(x:Int):(AI W x).time<W.time:=by
 by_cases b:∃j,BW W x j
 ·obtain⟨j,a⟩:=b;rw[DW a];exact(h.Aq.2.2.2.2.2 j a.1).1.2.2.2.1
 ·unfold AI;rw[dif_neg b];have:1<=W.time:=h.Aq.1.1;show(0:Int)<_;omega
theorem zF8(h:B4 W)(hk:k<W.sn){y:D9}{ms mb gs gb:Int}(hn:n<64)(ho:y.old=BS W.pool (W.A2 k).rs (W.A2 k).rb n 3)(E:New W.pool (W.A2 k).rs (W.A2 k).rb n W.time y.pool y.rs y.rb ms mb gs gb) :
 B4 (Cy W k y)/\(∀m,m<memN W->m≠W.pn+k->EU W.pool (Cy W k y).pool (AA W m).rs (AA W m).rb)/\EU y.pool (Cy W k y).pool y.rs y.rb:=by
 have hU:=h.toU;have P:=h.right;have I:W.pn+k<memN W:=by unfold memN;omega
 have C:As W.pool (W.A2 k).rs (W.A2 k).rb:=⟨P,(h.A2 k hk).1⟩;have H:=E.ok C hn;obtain⟨T,hT⟩:∃l,AG W.pool (W.A2 k).rs (W.A2 k).rb=l:=⟨_,rfl⟩;obtain⟨M,u⟩:∃l,AG y.pool y.rs y.rb=l:=⟨_,rfl⟩;obtain⟨O,K⟩:∃l,oldM W (AA W (W.pn+k))=l:=⟨_,rfl⟩;obtain⟨t,ht⟩:∃t,(AI W (W.A2 k).A8).time=t:=⟨_,rfl⟩;have pB:t<W.time:=ht▸zER h _;have eT:treeM W (AA W (W.pn+k))=T:=by rw[C4];exact hT
 have hb:∀x,x∈T->x.2<=W.time/\(x∈O↔x.2<=t):=fun x d=>by
  have:=h.born (W.pn+k) I;unfold EX at this;rw[eT,K]at this;have:=this x d;rw[C4,<-ht]at *;exact this
 have X:∀x,x∈T->B8 W.pool x.1 x.2:=fun x d=>(ED P C.2 (hT▸d)).1
 have V:∀x,x∈O->B8 W.pool x.1 x.2:=fun x d=>by
  obtain⟨j,hj,g⟩:=NF (K▸d);exact(ED P (NE h (by unfold memN;have:=hj.1;omega)) g).1
 have F:∀x,x∈M->x∈T\/Frs W.pool W.time x:=fun x d=>by rw[<-hT];exact E.mem C hn (u▸d)
 have w:∀x,x∈T->(x∉M↔x∈y.old):=fun x d=>by rw[ho,<-u];exact E.gone C hn (hT▸d)
 have B:∀x,x∈y.old->x∈T:=fun x d=>by rw[<-hT];exact N7 C hn (ho▸d)
 have L:∀x z:Int×Int,Frs W.pool W.time x->B8 W.pool z.1 z.2->x.1≠z.1:=fun x z d D=>Ix d.1 D
 have sA:∀x z:Int×Int,B8 W.pool x.1 x.2->B8 W.pool z.1 z.2->x.1=z.1->x=z:=fun x z d D e=>Prod.ext e (by rw[<-d.2.2.2,<-D.2.2.2,e])
 have o:OnW W {W with pool:=y.pool}:=⟨rfl,rfl,rfl,rfl,rfl,⟨Int.le_refl _,h.Aq.1.2⟩,fun i hi=>⟨E.ext.n,fun z D=>by
  have g:=ED P (NE h hi) D;exact⟨E.ext.at g.1,fun e=>g.2.2 ((E.ext.has _).1 e)⟩⟩⟩
 have hA:=o.specU hU E.right;have oA:oldM {W with pool:=y.pool} (AA {W with pool:=y.pool} (W.pn+k))=O:=by rw[<-K];exact o.oldM _
 have aA:∀x,AI {W with pool:=y.pool} x=AI W x:=fun x=>rfl
 obtain⟨d1,d2⟩:=zDu (show E6 (W.A2 k).dn (W.A2 k).ds (W.A2 k).db (BR O T)by
  have:=hU.deadOf I;unfold DU at this;rw[K,eT,C4]at this;exact this)
 have A:∀(l m:List (Int×Int)) x,x∈BR l m↔x∈l/\x∉m:=fun l m x=>by unfold BR;rw[List.mem_filter,decide_eq_true_iff]
 have fA:∀x,x∈L3 W k y↔x∈y.old/\¬t<x.2:=fun x=>by unfold L3;rw[ht];exact zFV _ _
 have Q:∀x,x∈DZ W k y↔x∈y.old/\t<x.2:=fun x=>by unfold DZ;rw[ht];exact zAH _ _
 have aB:y.old.Nodup:=ho▸VX C hn;have vA:O.Nodup:=by
  rw[<-K];exact L0 P (LN h.A3 _)
 have N:O.length<=200:=by rw[<-K];exact Nat.le_trans (Dh ..) (by omega)
 have hD:E6 (CV W k y).length (AN (CV W k y)) (AP (CV W k y)) (BR O M):=by
  have d:∀x,x∈CV W k y↔x∈BR O M:=fun x=>by
   unfold CV;rw[List.mem_append,d1,A,A,fA];constructor
   ·rintro(⟨G,Y⟩ | ⟨G,Y⟩)
    ·exact⟨G,fun e=>(F x e).elim Y fun f=>L x x f (V x G) rfl⟩
    ·have:=B x G;exact⟨((hb x this).2).2 (by omega),(w x this).2 G⟩
   ·rintro⟨G,Y⟩;by_cases e:x∈T
    ·exact .inr ⟨(w x e).1 Y,by have:=((hb x e).2).1 G;omega⟩
    ·exact .inl ⟨G,e⟩
  refine zBJ P (fun x g=>V x ((A _ _ _).1 ((d x).1 g)).1) ?_ (vA.filter _) (Nat.le_trans (List.length_filter_le _ _) N) d;unfold CV;refine List.nodup_append.2 ⟨d2,?_,fun x g z g' e=>?_⟩
  ·unfold L3;exact zt _ aB
  ·subst e;exact((A _ _ _).1 ((d1 x).1 g)).2 (B x ((fA x).1 g').1)
 have hV:=hA.root (k:=k) (r:=y.rs) (b:=y.rb) (n:=(CV W k y).length) (f:=AN (CV W k y)) (g:=AP (CV W k y)) hk H.2 (by rw[oA];show E6 _ _ _ (BR O (AG y.pool y.rs y.rb));rw[u];exact hD)
  (by
   rw[oA,aA];show F3 (AG y.pool y.rs y.rb) O (AI W (W.A2 k).A8).time W.time;rw[u,ht];intro x d;rcases F x d with g | g
   ·exact hb x g
   ·have:=g.2;exact⟨by omega,fun e=>absurd rfl (L x x g (V x e)),fun e=>by omega⟩)
  (fun x d jA m p R z D=>by
   have tA:x∈M:=u▸d;rw[oA]at jA;have J:z∈CB W (AA W m):=by
    have e1:CB {W with pool:=y.pool} (AA {W with pool:=y.pool} m)=CB W (AA W m):=by
     unfold CB;rw[o.treeM p,o.oldM]
    rwa [e1]at D
   rcases F x tA with g | g
   ·exact hU.apart' I p (Ne.symm R) (Gx.2 ⟨eT▸g,by rw[K];exact jA⟩) J
   ·exact L x z g (ED P (NE h p) (Gx.1 J).1).1)
 have kA:∀x,x∈DZ W k y->x∈CB W (AA W (W.pn+k)):=fun x d=>by
  obtain⟨G,Y⟩:=(Q x).1 d;have Z:=B x G;exact Gx.2 ⟨eT▸Z,by rw[K];exact fun e=>by have:=((hb x Z).2).1 e;omega⟩
 have pA:CT y.pool (DZ W k y):=by
  refine(show CT y.pool y.old by rw[ho];exact E.hold C hn).sub ?_;have:=MD (AN y.old) (AP y.old) (AI W (W.A2 k).A8).time y.old.length
  rwa [Vf]at this
 have gA:∀m,m<memN W->m≠W.pn+k->EU y.pool (BJ y.pool (DZ W k y)) (AA W m).rs (AA W m).rb:=fun m p e=>XV fun z D=>by
  have J:z∈treeM W (AA W m):=(by rwa [(o.tree m p).tree]at D);exact⟨((o.tree m p).2 z J).2,fun x d=>VY hU hk (kA x d) p e J⟩
 have U:EU y.pool (BJ y.pool (DZ W k y)) y.rs y.rb:=XV fun z D=>⟨(ED E.right H.2 D).2.2,fun x d e=>by
  obtain⟨G,Y⟩:=(Q x).1 d;have Z:=B x G;rcases F z (u▸D)with g | g
  ·exact((w x Z).2 G) (sA x z (X x Z) (X z g) e▸(u▸D))
  ·exact L z x g (X x Z) e.symm⟩
 have S:OnW (Da {W with pool:=y.pool} k y.rs y.rb (CV W k y).length (AN (CV W k y)) (AP (CV W k y))) (Cy W k y):=⟨rfl,rfl,rfl,rfl,rfl,⟨Int.le_refl _,h.Aq.1.2⟩,fun i hi=>by
  by_cases e:i=W.pn+k
  ·subst e;have:=LP (W:={W with pool:=y.pool}) (k:=k) (r:=y.rs) (b:=y.rb) (n:=(CV W k y).length) (f:=AN (CV W k y)) (g:=AP (CV W k y));rw[this];exact U
  ·have:=Lb (W:={W with pool:=y.pool}) (k:=k) (r:=y.rs) (b:=y.rb) (n:=(CV W k y).length) (f:=AN (CV W k y)) (g:=AP (CV W k y)) (i:=i) e;rw[this];exact gA i hi e⟩
 refine⟨(S.specU hV pA.last).spec fun i hi=>?_,fun m p e=>?_,U⟩;rotate_left
 ·have a:=o.tree m p;have c:=gA m p e;exact⟨c.1.trans a.1,fun z D=>⟨((c.2 z (by rw[a.tree];exact D)).1).trans (a.2 z D).1,(c.2 z (by rw[a.tree];exact D)).2⟩⟩
 have hi':i<W.pool.n:=by
  have:i<(BJ y.pool (DZ W k y)).n:=hi;rw[(EQ _ _).1,E.ext.n]at this;exact this
 have ex:(∃m,m<memN (Cy W k y)/\∃b,((i:Int),b)∈treeM (Cy W k y) (AA (Cy W k y) m))↔(∃m,m<memN W/\m≠W.pn+k/\∃b,((i:Int),b)∈treeM W (AA W m))\/∃b,((i:Int),b)∈M:=by
  have ek:treeM (Cy W k y) (AA (Cy W k y) (W.pn+k))=M:=by
   rw[S.treeM (i:=W.pn+k) I,LP (W:={W with pool:=y.pool})];exact u
  have em:∀m,m<memN W->m≠W.pn+k->treeM (Cy W k y) (AA (Cy W k y) m)=treeM W (AA W m):=fun m p e=>by
   rw[S.treeM (i:=m) p,Lb (W:={W with pool:=y.pool}) e];exact o.treeM p
  constructor
  ·rintro⟨m,p,c,v⟩;by_cases e:m=W.pn+k
   ·rw[e,ek]at v;exact .inr ⟨c,v⟩
   ·rw[em m p e]at v;exact .inl ⟨m,p,e,c,v⟩
  ·rintro(⟨m,p,e,c,v⟩ | ⟨c,v⟩)
   ·exact⟨m,p,c,by rw[em m p e];exact v⟩
   ·exact⟨W.pn+k,I,c,by rw[ek];exact v⟩
 have rA:(Cy W k y).pool.s=y.pool.s:=(EQ _ _).2.1;rw[ex,rA];show _↔_/\¬Has (BJ y.pool (DZ W k y)).hn (BJ y.pool (DZ W k y)).h (i:Int);rw[NQ];constructor
 ·rintro(⟨m,p,R,c,v⟩ | ⟨c,v⟩)
  ·have q:=(h.reach i hi').1 ⟨m,p,c,v⟩;refine⟨by rw[E.ext.s i q.1];exact q.1,fun g=>g.elim (fun g=>q.2 ((E.ext.has _).1 g)) fun ⟨x,d,e⟩=>VY hU hk (kA x d) p R v e⟩
  ·have g:=ED E.right H.2 (u▸v:((i:Int),c)∈AG y.pool y.rs y.rb);refine⟨by have:=Ro g.1;rwa [Int.toNat_natCast]at this,fun f=>?_⟩;exact(U.2 _ (u▸v)).2 (NQ.2 f)
 ·rintro⟨q1,q2⟩;by_cases e:y.pool.s i=W.pool.s i
  ·rw[e]at q1;obtain⟨m,p,c,v⟩:=(h.reach i hi').2 ⟨q1,fun g=>q2 (.inl ((E.ext.has _).2 g))⟩;by_cases e':m=W.pn+k
   ·subst e';rw[eT]at v;by_cases g:((i:Int),c)∈M
    ·exact .inr ⟨c,g⟩
    ·have go:=(w _ v).1 g;by_cases gt:t<c
     ·exact absurd (.inr ⟨_,(Q _).2 ⟨go,gt⟩,rfl⟩) q2
     ·have d:((i:Int),c)∈O:=((hb _ v).2).2 (by show c<=t;omega);obtain⟨j,hj,f⟩:=NF (K▸d);exact .inl ⟨j,by unfold memN;have:=hj.1;omega,by have:=hj.1;omega,c,f⟩
   ·exact .inl ⟨m,p,e',c,v⟩
  ·obtain⟨c,v⟩:=E.fresh_in C hn e;exact .inr ⟨c,u▸v⟩
end
theorem zFA{p q:A7}{xs xb ys yb:Int}(c:Ext p q)(d:As p xs xb)(e:k<64)(a:BZ q ys yb k=BZ p xs xb k)(b:Bh q ys yb k=Bh p xs xb k):lwD p xs xb k=lwD q ys yb k:=by
 unfold lwD;rw[a,b];by_cases hn:Nil (BZ p xs xb k) (Bh p xs xb k)
 ·rw[if_pos hn,if_pos hn]
 ·rw[if_neg hn,if_neg hn,c.at ((Io d e).resolve_left hn).1]
theorem New.same{p q:A7}{xs xb b ys yb ms mb gs gb:Int}(h:New p xs xb n b q ys yb ms mb gs gb)(c:As p xs xb):∀k:Nat,k<64->(k:Int)≠(n:Int)->lwD p xs xb k=lwD q ys yb k:=fun k d e=>by
 have a:=h.pages c d;rw[if_neg (by omega),if_neg (by omega)]at a;exact zFA h.ext c d a.1 a.2
end Go.Proofs.YtddigaohmfpepaaGreatDoor
