/- A part of the proof. -/
import Derived.Test.YtnfjcaoclahfjaaGreatDoorF25
set_option linter.unusedVariables false
set_option maxRecDepth 20000
set_option maxHeartbeats 4000000
namespace Go.Proofs.YtnfjcaoclahfjaaGreatDoor
open Go.RowKit Go.Maps
theorem U1{V:A4}(h:Ct V):∀{k i:Nat},i<k->k<V.sn->CM (V.A2 i).name (V.A2 k).name
 | k+1,i,hi,hk=>by
  have g:=(h.2.2.2.2.1 (k+1) hk).2.1 (by omega);rw[Nat.add_sub_cancel]at g;by_cases e:i=k
  ·rw[e];exact g
  ·exact zBI (U1 h (by omega) (by omega)) g
theorem Ii{V:A4}(h:Ct V):∀{k i:Nat},i<k->k<V.pn->(V.A0 i).id<(V.A0 k).id
 | k+1,i,hi,hk=>by
  have g:=((h.2.2.2.2.2 (k+1) hk).2.1.1 (by omega)).1;rw[Nat.add_sub_cancel]at g;by_cases e:i=k
  ·rw[e];exact g
  ·exact Int.lt_trans (Ii h (by omega) (by omega)) g
def FV(p q:A7)(rs rb:Int):Prop:=q.n=p.n/\∀z,z∈AE p rs rb->q.s z.1.toNat=p.s z.1.toNat/\¬Has q.hn q.h z.1
section
variable {p q : A7} {rs rb : Int}
theorem No(h:¬Nil rs rb):(rs,rb)∈AE p rs rb:=by
 unfold AE;rw[if_neg h];exact List.mem_cons_self ..
variable{i:Nat}
theorem SQ(h:¬Nil rs rb){x:Int×Int}(hi:i<8)(a:x∈DA p (AL (p.s rs.toNat) i) (AW (p.s rs.toNat) i)):x∈AE p rs rb:=by
 unfold AE;rw[if_neg h];exact List.mem_cons_of_mem _ (Km.2 ⟨i,hi,a⟩)
theorem Ph(h:¬Nil rs rb)(hi:i<8)(a:¬Nil (AL (p.s rs.toNat) i) (AW (p.s rs.toNat) i)):(AL (p.s rs.toNat) i,AW (p.s rs.toNat) i)∈AE p rs rb:=SQ h hi (KS.2 ⟨a,.inl rfl⟩)
theorem SP(h:¬Nil rs rb){j:Nat}(hi:i<8)(a:j<8)(b:¬Nil (AL (p.s rs.toNat) i) (AW (p.s rs.toNat) i))(c:¬Nil (AL (p.s (AL (p.s rs.toNat) i).toNat) j) (AW (p.s (AL (p.s rs.toNat) i).toNat) j)):(AL (p.s (AL (p.s rs.toNat) i).toNat) j,AW (p.s (AL (p.s rs.toNat) i).toNat) j)∈AE p rs rb:=SQ h hi (KS.2 ⟨b,.inr (M9.2 ⟨j,a,rfl,c⟩)⟩)
theorem Tl{s:AG}:∀{k:Nat},(∀i,i<k->¬Nil (AL s i) (AW s i)->q.s (AL s i).toNat=p.s (AL s i).toNat)->CV q s k=CV p s k
 | 0,_=>rfl
 | k+1,h=>by
  unfold CV;rw[Tl (fun i hi=>h i (by omega))];congr 1;unfold DA;by_cases a:Nil (AL s k) (AW s k)
  ·rw[if_pos a,if_pos a]
  ·rw[if_neg a,if_neg a,h k (Nat.lt_succ_self k) a]
theorem FV.tree(h:FV p q rs rb):AE q rs rb=AE p rs rb:=by
 by_cases a:Nil rs rb
 ·unfold AE;rw[if_pos a,if_pos a]
 ·have e:=(h.2 _ (No a)).1;have:=Tl (p:=p) (q:=q) (s:=p.s rs.toNat) (k:=8) fun i hi b=>(h.2 _ (Ph a hi b)).1
  unfold AE;rw[if_neg a,if_neg a,e,this]
theorem FV.ok(h:FV p q rs rb)(v:An p rs rb):An q rs rb:=by
 refine v.imp id fun ⟨n,hT,hD⟩=>?_
 have k:¬Nil rs rb:=fun e=>by have:=n.1.1;have:=e.2;omega
 have t:∀a b,(a,b)∈AE p rs rb->BA p a b->BA q a b:=fun a b d c=>⟨c.1,c.2.1,by rw[h.1];exact c.2.2.1,by rw[(h.2 _ d).1];exact c.2.2.2⟩
 have r:∀a b,(a,b)∈AE p rs rb->JT p a b->JT q a b:=fun a b d c=>⟨t a b d c.1,by rw[(h.2 _ d).1];exact c.2.1,(h.2 _ d).2⟩
 refine⟨r _ _ (No k) n,?_,by rw[h.tree];exact hD⟩;rw[(h.2 _ (No k)).1];refine⟨fun i hi=>?_,hT.2⟩;by_cases g:Nil (AL (p.s rs.toNat) i) (AW (p.s rs.toNat) i)
 ·exact .inl g
 obtain⟨u,m⟩:=(hT.1 i hi).resolve_left g;have d:=Ph k hi g;refine .inr ⟨r _ _ d u,?_⟩;rw[(h.2 _ d).1];refine⟨fun j o=>?_,m.2⟩;by_cases l:Nil (AL (p.s (AL (p.s rs.toNat) i).toNat) j) (AW (p.s (AL (p.s rs.toNat) i).toNat) j)
 ·exact .inl l
 have c:=(m.1 j o).resolve_left l;have f:=SP k hi o g l;exact .inr ⟨t _ _ f c.1,by rw[(h.2 _ f).1];exact c.2.1,(h.2 _ f).2⟩
theorem FV.page(h:FV p q rs rb){k:Nat}(m:k<64):lwD q rs rb k=lwD p rs rb k:=by
 by_cases a:Nil rs rb
 ·rw[QJ a,QJ a]
 have e:=(h.2 _ (No a)).1;have d:DK q rs rb k=DK p rs rb k/\Dc q rs rb k=Dc p rs rb k:=by
  unfold DK Dc EK EN;rw[if_neg a,if_neg a,if_neg a,if_neg a,e];exact⟨rfl,rfl⟩
 by_cases hn:Nil (DK p rs rb k) (Dc p rs rb k)
 ·rw[QI hn,QI (by rw[d.1,d.2];exact hn)]
 have c1:DK p rs rb k=AL (p.s rs.toNat) (k / 8):=if_neg a;have i:Dc p rs rb k=AW (p.s rs.toNat) (k / 8):=if_neg a;have c:¬Nil (AL (p.s rs.toNat) (k / 8)) (AW (p.s rs.toNat) (k / 8)):=by rw[<-c1,<-i];exact hn
 have l:q.s (DK p rs rb k).toNat=p.s (DK p rs rb k).toNat:=by rw[c1];exact(h.2 _ (Ph a (by omega) c)).1
 have f:EL q rs rb k=EL p rs rb k/\Ei q rs rb k=Ei p rs rb k:=by
  unfold EL Ei;rw[d.1,d.2];unfold EK EN;rw[if_neg hn,if_neg hn,if_neg hn,if_neg hn,l];exact⟨rfl,rfl⟩
 unfold lwD;rw[f.1,f.2];by_cases b:Nil (EL p rs rb k) (Ei p rs rb k)
 ·rw[if_pos b,if_pos b]
 ·rw[if_neg b,if_neg b];have g:EL p rs rb k=AL (p.s (AL (p.s rs.toNat) (k / 8)).toNat) (k % 8):=(by rw[<-c1];exact if_neg hn);have j:Ei p rs rb k=AW (p.s (AL (p.s rs.toNat) (k / 8)).toNat) (k % 8):=(by rw[<-c1];exact if_neg hn);rw[g,j]at b;rw[g,(h.2 _ (SP a (by omega) (by omega) c b)).1]
end
structure FW (W:A4):Prop where
 right:AX W.pool
 AP:Ct W
 lines:∀i,i<W.sn->Ek W (W.A2 i).name (W.A2 i).A5 (W.A2 i).origin
 A0:∀i,i<W.pn->An W.pool (W.A0 i).rs (W.A0 i).rb
 A2:∀i,i<W.sn->An W.pool (W.A2 i).rs (W.A2 i).rb/\DV W (W.pn+i)
 dead:∀i,i<W.pn->DV W i
 born:∀i,i<memN W->ER W i
 BY:IZ W
variable{W:A4}
theorem Ab.toU(h:Ab W):FW W:=⟨h.right,h.AP,h.lines,h.A0,h.A2,h.dead,h.born,h.BY⟩
theorem FW.spec(h:FW W)(a:Pq W):Ab W:=⟨h.right,h.AP,h.lines,h.A0,h.A2,h.dead,a,h.born,h.BY⟩
variable{i:Nat}
theorem FW.mem(h:FW W)(hi:i<memN W):An W.pool (A6 W i).rs (A6 W i).rb:=(Lj h.right h.AP h.A0 fun j a=>(h.A2 j a).1).tree i hi
theorem PF(h:Ab W)(hi:i<memN W):An W.pool (A6 W i).rs (A6 W i).rb:=h.toU.mem hi
variable{nm:ByteArray}{st:Int}
theorem Steps.same{V:A4}(a:V.pn=W.pn)(hs:V.A0=W.A0){n:Nat}{x:Int}(g:Steps W nm st n x):Steps V nm st n x:=by
 induction g with
 | zero=>exact .zero
 | next _ hk hn ih=>
  have:=Steps.next ih (show BB V _ _ by unfold BB at hk ⊢;rw[a,hs];exact hk) (by rw[hs];exact hn)
  rwa [hs]at this
theorem Ek.same{V:A4}(b:V.pn=W.pn)(hs:V.A0=W.A0){o:Int}(h:Ek W nm st o):Ek V nm st o:=by
 obtain⟨n,e,c,d,f,g⟩:=h;have a:∀k,ownN V nm k=ownN W nm k:=fun k=>by
  induction k with
  | zero=>rfl
  | succ k ih=>unfold ownN;rw[ih,hs]
 exact⟨n,e,c.same b hs,fun ⟨k,hk,hn⟩=>d ⟨k,by unfold BB at hk ⊢;rw[<-b,<-hs];exact hk,by rw[<-hs];exact hn⟩,by rw[a,b];exact f,g⟩
structure OnW (W V:A4):Prop where
 sn:V.sn=W.sn
 A2:V.A2=W.A2
 pn:V.pn=W.pn
 A0:V.A0=W.A0
 next:V.next=W.next
 time:W.time<=V.time/\V.time<=900000
 tree:∀i,i<memN W->FV W.pool V.pool (A6 W i).rs (A6 W i).rb
section
variable {W V : A4}
theorem OnW.snapNo(h:OnW W V)(x:Int)(k:Nat):BB V x k↔BB W x k:=by unfold BB;rw[h.pn,h.A0]
theorem OnW.ahead(h:OnW W V)(x:Int):AB V x=AB W x:=by
 by_cases b:∃k,BB W x k
 ·obtain⟨k,a⟩:=b;rw[Cn a,Cn ((h.snapNo x k).2 a),h.A0]
 ·unfold AB;rw[dif_neg b,dif_neg (fun ⟨k,a⟩=>b ⟨k,(h.snapNo x k).1 a⟩)]
theorem OnW.memN(h:OnW W V):memN V=memN W:=by unfold Go.Proofs.YtnfjcaoclahfjaaGreatDoor.memN;rw[h.sn,h.pn]
theorem OnW.mem(h:OnW W V)(i:Nat):∃t,A6 V i = {A6 W i with time:=t}/\(A6 W i).time<=t:=by
 unfold A6;rw[h.pn,h.A0,h.A2];by_cases hi:i<W.pn
 ·rw[if_pos hi,if_pos hi];exact⟨_,rfl,Int.le_refl _⟩
 ·rw[if_neg hi,if_neg hi];exact⟨V.time,rfl,h.time.1⟩
theorem OnW.treeM(h:OnW W V)(hi:i<Go.Proofs.YtnfjcaoclahfjaaGreatDoor.memN W):treeM V (A6 V i)=Go.Proofs.YtnfjcaoclahfjaaGreatDoor.treeM W (A6 W i):=by
 obtain⟨t,e,-⟩:=h.mem i;rw[e];exact(h.tree i hi).tree
theorem OnW.root(h:OnW W V)(x:Int):AE V.pool (AB W x).rs (AB W x).rb=AE W.pool (AB W x).rs (AB W x).rb:=by
 by_cases b:∃k,BB W x k
 ·obtain⟨k,a⟩:=b;rw[Cn a];have:=(h.tree k (by unfold Go.Proofs.YtnfjcaoclahfjaaGreatDoor.memN;have:=a.1;omega)).tree
  rwa [B9 a.1]at this
 ·unfold AB;rw[dif_neg b];rfl
theorem OnW.oldM(h:OnW W V)(i:Nat):oldM V (A6 V i)=Go.Proofs.YtnfjcaoclahfjaaGreatDoor.oldM W (A6 W i):=by
 obtain⟨t,e,-⟩:=h.mem i;rw[e];show AE V.pool (AB V (A6 W i).A5).rs (AB V (A6 W i).A5).rb=_;rw[h.ahead,h.root];rfl
theorem OnW.specU(h:OnW W V)(hs:FW W)(C:AX V.pool):FW V:=by
 have f:∀x,BG V x↔BG W x:=fun x=>by unfold BG;rw[h.pn,h.A0]
 have l:∀x,CJ V x↔CJ W x:=fun x=>by unfold CJ;rw[h.sn,h.A2]
 have k:∀i,(A6 V i).rs=(A6 W i).rs/\(A6 V i).rb=(A6 W i).rb:=fun i=>by obtain⟨t,e,-⟩:=h.mem i;rw[e];exact⟨rfl,rfl⟩
 have a:∀i,i<Go.Proofs.YtnfjcaoclahfjaaGreatDoor.memN W->DV W i->DV V i:=fun i hi g=>by
  unfold DV at g ⊢;rw[h.treeM hi,h.oldM i];obtain⟨t,e,-⟩:=h.mem i;rw[e];exact g
 have m:∀i,i<V.pn->i<Go.Proofs.YtnfjcaoclahfjaaGreatDoor.memN W:=fun i hi=>by unfold Go.Proofs.YtnfjcaoclahfjaaGreatDoor.memN;rw[h.pn]at hi;omega
 have b:∀i,i<Go.Proofs.YtnfjcaoclahfjaaGreatDoor.memN W->An V.pool (A6 V i).rs (A6 V i).rb:=fun i hi=>by
  rw[(k i).1,(k i).2];exact(h.tree i hi).ok (hs.mem hi)
 refine⟨C,?_,?_,fun i hi=>?_,fun i hi=>?_,fun i hi=>a i (m i hi) (hs.dead i (by rw[<-h.pn];exact hi)),fun i hi=>?_,?_⟩
 ·obtain⟨⟨E,F⟩,q,r,s,u,v⟩:=hs.AP;have n:=h.time;refine⟨⟨by omega,n.2⟩,by rw[h.next];exact q,by rw[h.sn];exact r,by rw[h.pn];exact s,fun i hi=>?_,fun i hi=>?_⟩
  ·have g:=u i (by rw[<-h.sn];exact hi);unfold Gw at g ⊢;rw[h.A2];exact⟨g.1,g.2.1,fun e=>(f _).2 (g.2.2.1 e),fun e=>(f _).2 (g.2.2.2 e)⟩
  ·have g:=v i (by rw[<-h.pn];exact hi);unfold NE Zn Re Rf at g ⊢;rw[h.A0,h.next];obtain⟨⟨w,y,z,G,A,B⟩,⟨c1,o⟩,d⟩:=g;exact⟨⟨w,y,z,by omega,A,(l _).2 B⟩,⟨c1,fun e=>⟨(o e).1,(f _).2 (o e).2⟩⟩,d⟩
 ·intro i hi;rw[h.A2];exact(hs.lines i (by rw[<-h.sn];exact hi)).same h.pn h.A0
 ·have:=b i (m i hi)
  rwa [B9 hi]at this
 ·have c:V.pn+i<Go.Proofs.YtnfjcaoclahfjaaGreatDoor.memN W:=(by rw[<-h.memN];unfold Go.Proofs.YtnfjcaoclahfjaaGreatDoor.memN;omega);have:=b _ c;rw[By]at this;exact⟨this,a _ c (by rw[h.pn];exact(hs.A2 i (by rw[<-h.sn];exact hi)).2)⟩
 ·have c:i<Go.Proofs.YtnfjcaoclahfjaaGreatDoor.memN W:=(by rw[<-h.memN];exact hi);have g:=hs.born i c;unfold ER at g ⊢;rw[h.treeM c,h.oldM i];obtain⟨t,e,n⟩:=h.mem i;rw[e];dsimp only;rw[h.ahead];exact fun x p=>⟨Int.le_trans (g x p).1 n,(g x p).2⟩
 ·intro i hi j D;have c:i<Go.Proofs.YtnfjcaoclahfjaaGreatDoor.memN W:=(by rw[<-h.memN];exact hi);unfold CZ;rw[h.treeM c,h.oldM i,h.treeM (show j<Go.Proofs.YtnfjcaoclahfjaaGreatDoor.memN W by omega),h.oldM j];exact hs.BY i c j D
end
theorem Q3{z:Int}:∀{l:List (Int×Int)} {p:A7},Has (Ak p l).hn (Ak p l).h z↔Has p.hn p.h z\/∃x,x∈l/\x.1=z
 | [],p=>⟨.inl,fun h=>h.resolve_right fun ⟨_,b,_⟩=>by cases b⟩
 | a :: l,p=>by
  have e:Has (C9 p a.1).hn (C9 p a.1).h z↔Has p.hn p.h z\/z=a.1:=by
   refine⟨VD,fun h=>?_⟩;rcases h with⟨j,c,e⟩ | rfl
   ·exact⟨j,Nat.lt_succ_of_lt c,(if_neg (by omega)).trans e⟩
   ·exact⟨p.hn,Nat.lt_succ_self _,if_pos rfl⟩
  show Has (Ak (C9 p a.1) l).hn (Ak (C9 p a.1) l).h z↔_;rw[Q3,e];constructor
  ·rintro((h | rfl) | ⟨x,b,h⟩)
   ·exact .inl h
   ·exact .inr ⟨a,List.mem_cons_self ..,rfl⟩
   ·exact .inr ⟨x,List.mem_cons_of_mem _ b,h⟩
  ·rintro(h | ⟨x,b,h⟩)
   ·exact .inl (.inl h)
   ·rcases List.mem_cons.1 b with rfl | b
    ·exact .inl (.inr h.symm)
    ·exact .inr ⟨x,b,h⟩
variable{l:List (Int×Int)}
theorem yq{p:A7}{rs rb:Int}(h:∀z,z∈AE p rs rb->¬Has p.hn p.h z.1/\∀x,x∈l->x.1≠z.1):FV p (Ak p l) rs rb:=
 ⟨(EF l p).1,fun z a=>⟨by rw[(EF l p).2.1],fun g=>(Q3.1 g).elim (h z a).1 fun ⟨x,hx,e⟩=>(h z a).2 x hx e⟩⟩
section
variable {W : A4}
variable{x:Int×Int}
theorem KJ{m:DJ}(h:x∈oldM W m):∃j,BB W m.A5 j/\x∈treeM W (A6 W j):=by
 by_cases a:∃j,BB W m.A5 j
 ·obtain⟨j,b⟩:=a;unfold oldM at h;rw[Cn b]at h;exact⟨j,b,by rw[B9 b.1];exact h⟩
 ·have:AB W m.A5=CQ:=(by unfold AB;rw[dif_neg a]);unfold oldM at h;rw[this,AE,if_pos ⟨rfl,rfl⟩]at h;cases h
theorem Hz{m:DJ}:x∈CZ W m↔x∈treeM W m/\x∉oldM W m:=by
 unfold CZ BN;rw[List.mem_filter,decide_eq_true_iff]
theorem FW.apart'(b:FW W){j:Nat}(hi:i<memN W)(f:j<memN W)(a:i≠j){y:Int×Int}(c:x∈CZ W (A6 W i))(d:y∈CZ W (A6 W j)):x.1≠y.1:=by
 rcases Nat.lt_or_gt_of_ne a with h | h
 ·exact fun e=>b.BY j f i h y d x c e.symm
 ·exact b.BY i hi j h x c y d
end
section
variable {W : A4}
theorem FW.deadOf(a:FW W)(hi:i<memN W):DV W i:=by
 by_cases b:i<W.pn
 ·exact a.dead i b
 ·obtain⟨j,rfl⟩:∃j,i=W.pn+j:=⟨i - W.pn,by omega⟩;exact(a.A2 j (by unfold memN at hi;omega)).2
end
noncomputable def sdV(W:A4)(k c:Nat):A4:={W with pn:=W.pn - 1,A0:=del (fun j=>if j=c/\j<W.pn then Dj W (W.A0 k) (W.A0 j)else W.A0 j) k,A2:=fun j=>if W.pn+j=c then E8 W (W.A0 k) (W.A2 j)else W.A2 j}
structure C0 (W:A4) (k c:Nat):Prop where
 BI:k<W.pn
 next:c<memN W
 ne:c≠k
 A5:(A6 W c).A5=(W.A0 k).id
 only:∀m,m<memN W->m≠c->(A6 W m).A5≠(W.A0 k).id
section
variable {W : A4} {k c : Nat}
def sdI(k i:Nat):Nat:=if i<k then i else i+1
theorem LJ(k i:Nat):sdI k i≠k:=by unfold sdI;split<;>omega
theorem JL(h:C0 W k c)(i:Nat):A6 (sdV W k c) i=if sdI k i=c then {A6 W c with A5:=(W.A0 k).A5,dn:=(sdD W (W.A0 k) (A6 W c).dn (A6 W c).ds (A6 W c).db).length,ds:=AI (sdD W (W.A0 k) (A6 W c).dn (A6 W c).ds (A6 W c).db),db:=AK (sdD W (W.A0 k) (A6 W c).dn (A6 W c).ds (A6 W c).db)}else A6 W (sdI k i):=by
 have b:=h.BI;by_cases a:i<W.pn - 1
 ·have hs:sdI k i<W.pn:=(by unfold sdI;split<;>omega);refine(B9 (W:=sdV W k c) a).trans ?_;show Js (del (fun j=>if j=c/\j<W.pn then Dj W (W.A0 k) (W.A0 j)else W.A0 j) k i)=_;have e:del (fun j=>if j=c/\j<W.pn then Dj W (W.A0 k) (W.A0 j)else W.A0 j) k i=if sdI k i=c then Dj W (W.A0 k) (W.A0 (sdI k i))else W.A0 (sdI k i):=by
   have e0:del (fun j=>if j=c/\j<W.pn then Dj W (W.A0 k) (W.A0 j)else W.A0 j) k i=if sdI k i=c/\sdI k i<W.pn then Dj W (W.A0 k) (W.A0 (sdI k i))else W.A0 (sdI k i):=by
    unfold del sdI;split<;>rfl
   rw[e0];simp only[hs,and_true]
  rw[e];by_cases g:sdI k i=c
  ·rw[if_pos g,if_pos g,<-g,B9 hs];rfl
  ·rw[if_neg g,if_neg g,B9 hs]
 ·obtain⟨j,rfl⟩:∃j,i=(W.pn - 1)+j:=⟨i - (W.pn - 1),by omega⟩;have hs:sdI k (W.pn - 1+j)=W.pn+j:=(by unfold sdI;rw[if_neg (by omega)];omega);refine(By (sdV W k c) j).trans ?_;rw[hs];show MW W.time (if W.pn+j=c then E8 W (W.A0 k) (W.A2 j)else W.A2 j)=_;by_cases g:W.pn+j=c
  ·rw[if_pos g,if_pos g,<-g,By];rfl
  ·rw[if_neg g,if_neg g,By]
theorem Dx(h:C0 W k c)(hi:i<W.pn - 1):((sdV W k c).A0 i).id=(W.A0 (sdI k i)).id/\((sdV W k c).A0 i).name=(W.A0 (sdI k i)).name/\((sdV W k c).A0 i).set=(W.A0 (sdI k i)).set/\((sdV W k c).A0 i).time=(W.A0 (sdI k i)).time/\((sdV W k c).A0 i).rs=(W.A0 (sdI k i)).rs/\((sdV W k c).A0 i).rb=(W.A0 (sdI k i)).rb/\((sdV W k c).A0 i).A5=if sdI k i=c then(W.A0 k).A5 else(W.A0 (sdI k i)).A5:=by
 have e:(sdV W k c).A0 i=if sdI k i=c then Dj W (W.A0 k) (W.A0 (sdI k i))else W.A0 (sdI k i):=by
  have hs:sdI k i<W.pn:=(by have:=h.BI;unfold sdI;split<;>omega);have e0:del (fun j=>if j=c/\j<W.pn then Dj W (W.A0 k) (W.A0 j)else W.A0 j) k i=if sdI k i=c/\sdI k i<W.pn then Dj W (W.A0 k) (W.A0 (sdI k i))else W.A0 (sdI k i):=by
   unfold del sdI;split<;>rfl
  refine e0.trans ?_;simp only[hs,and_true]
 rw[e];by_cases g:sdI k i=c
 ·rw[if_pos g,if_pos g];exact⟨rfl,rfl,rfl,rfl,rfl,rfl,rfl⟩
 ·rw[if_neg g,if_neg g];exact⟨rfl,rfl,rfl,rfl,rfl,rfl,rfl⟩
theorem Ik(h:C0 W k c)(j:Nat):((sdV W k c).A2 j).name=(W.A2 j).name/\((sdV W k c).A2 j).origin=(W.A2 j).origin/\((sdV W k c).A2 j).rs=(W.A2 j).rs/\((sdV W k c).A2 j).rb=(W.A2 j).rb/\((sdV W k c).A2 j).A5=if W.pn+j=c then(W.A0 k).A5 else(W.A2 j).A5:=by
 show(if W.pn+j=c then E8 W (W.A0 k) (W.A2 j)else W.A2 j:Ac).name=_/\(if W.pn+j=c then E8 W (W.A0 k) (W.A2 j)else W.A2 j:Ac).origin=_/\(if W.pn+j=c then E8 W (W.A0 k) (W.A2 j)else W.A2 j:Ac).rs=_/\(if W.pn+j=c then E8 W (W.A0 k) (W.A2 j)else W.A2 j:Ac).rb=_/\(if W.pn+j=c then E8 W (W.A0 k) (W.A2 j)else W.A2 j:Ac).A5=_;by_cases g:W.pn+j=c
 ·rw[if_pos g,if_pos g];exact⟨rfl,rfl,rfl,rfl,rfl⟩
 ·rw[if_neg g,if_neg g];exact⟨rfl,rfl,rfl,rfl,rfl⟩
variable{j:Nat}
theorem TM(a:Ct W)(hi:i<W.pn)(b:j<W.pn)(e:(W.A0 i).id=(W.A0 j).id):i=j:=by
 rcases Nat.lt_trichotomy i j with g | g | g
 ·have:=Ii a g b;omega
 ·exact g
 ·have:=Ii a g hi;omega
theorem Iy(a:Ct W)(hi:i<W.pn):BB W (W.A0 i).id i:=⟨hi,rfl,fun j b e=>by have:=Ii a b hi;omega⟩
theorem N6(h:C0 W k c)(b:j<W.pn)(a:j≠k):∃i,i<W.pn - 1/\sdI k i=j:=by
 have:=h.BI;refine⟨if j<k then j else j - 1,by split<;>omega,?_⟩;unfold sdI;by_cases g:j<k
 ·rw[if_pos g,if_pos g]
 ·rw[if_neg g,if_neg (by omega)];omega
theorem Nh(h:C0 W k c)(m:Ct W){x:Int}(p:x≠(W.A0 k).id):(AB (sdV W k c) x).rs=(AB W x).rs/\(AB (sdV W k c) x).rb=(AB W x).rb/\(AB (sdV W k c) x).time=(AB W x).time:=by
 by_cases a:∃j,j<W.pn/\(W.A0 j).id=x
 ·obtain⟨j,f,rfl⟩:=a;obtain⟨i,hi,e⟩:=N6 h f (fun e=>p (by rw[e]));have s:=Dx h hi;rw[e]at s;have l:BB (sdV W k c) (W.A0 j).id i:=⟨hi,s.1,fun n b g=>by
   have d:n<W.pn - 1:=(by omega);have r:=(Dx h d).1;have o:sdI k n<j:=(by rw[<-e];unfold sdI;split<;>split<;>omega);have:=Ii m o f;omega⟩
  rw[Cn l,Cn (Iy m f)];exact⟨s.2.2.2.2.1,s.2.2.2.2.2.1,s.2.2.2.1⟩
 ·rw[Jp (W:=W) fun j f e=>a ⟨j,f,e⟩,Jp (W:=sdV W k c) fun i hi e=>by
   have q:=h.BI;have b:i<W.pn - 1:=hi;exact a ⟨sdI k i,by unfold sdI;split<;>omega,by rw[<-(Dx h b).1];exact e⟩]
  exact⟨rfl,rfl,rfl⟩
theorem Nj(h:C0 W k c)(d:Ct W){x:Int}(b:x≠(W.A0 k).id)(hi:BG W x):BG (sdV W k c) x:=by
 obtain⟨j,a,rfl⟩:=hi;obtain⟨i,hi,e⟩:=N6 h a (fun e=>b (by rw[e]));exact⟨i,hi,by rw[(Dx h hi).1,e]⟩
theorem NT(h:i<j):sdI k i<sdI k j:=by unfold sdI;split<;>split<;>omega
theorem Mh(h:C0 W k c)(hi:i<W.pn - 1):sdI k i<W.pn:=by have:=h.BI;unfold sdI;split<;>omega
theorem Q7(h:Ct W):∀{k i:Nat},i<k->k<W.pn->(W.A0 i).time<(W.A0 k).time
 | k+1,i,hi,hk=>by
  have g:=((h.2.2.2.2.2 (k+1) hk).2.1.1 (by omega)).2;rw[Nat.add_sub_cancel]at g;by_cases e:i=k
  ·rw[e];exact g
  ·exact Int.lt_trans (Q7 h (by omega) (by omega)) g
variable{n:Nat}
theorem ZV(h:C0 W k c)(b:j<W.sn)(hs:Steps W nm (W.A2 j).A5 n (W.A0 k).id):c=W.pn+j\/(c<W.pn/\(W.A0 c).set=nm):=by
 generalize a:(W.A0 k).id=e at hs;cases hs with
 | zero=>
  refine .inl (Classical.byContradiction fun g=>h.only (W.pn+j) (by unfold memN;omega) (fun f=>g f.symm) ?_);rw[By];exact a.symm
 | next hs hk hn=>
  rename_i x q
  have:q=c:=Classical.byContradiction fun g=>h.only q (by unfold memN;have:=hk.1;omega) g (by rw[B9 hk.1];exact a.symm)
  subst this;exact .inr ⟨hk.1,hn⟩
theorem Sl(h:C0 W k c)(b:Ab W)(i:j<W.sn)(hs:Steps W (W.A2 j).name (W.A2 j).A5 n (W.A0 k).id):(W.A2 j).name=(W.A0 k).set:=by
 obtain⟨g,a,e0⟩:=(b.AP.2.2.2.2.2 k h.BI).1.2.2.2.2.2;obtain⟨m,l⟩:=Pc b.AP.Cu.less (b.lines g a) h.BI e0.symm;have w0:=ZV h a l;have e:=ZV h i hs;rcases w0 with w0 | ⟨w0,d⟩<;>rcases e with e | ⟨e,f⟩
 ·rw[show j=g by omega];exact e0
 ·omega
 ·omega
 ·rw[<-f,d];exact e0
theorem zDb(h:C0 W k c)(a:Ab W)(d:j<W.sn):(W.A2 j).origin≠(W.A0 k).id:=fun e=>by
 obtain⟨n,i,f,g,l,b⟩:=a.lines j d;rw[e]at b;subst b;exact g ⟨k,Iy a.AP h.BI,(Sl h a d f).symm⟩
theorem NU(h:C0 W k c)(m:Ab W){y:Int}{t q:Nat}(hv:Steps (sdV W k c) nm st t y)(f:BB W y q)(hn:(W.A0 q).set=nm)(j:q≠k):Steps (sdV W k c) nm st (t+1) (if q=c then(W.A0 k).A5 else(W.A0 q).A5):=by
 obtain⟨i,hi,e⟩:=N6 h f.1 j;have s:=Dx h hi;rw[e]at s;have d:BB (sdV W k c) y i:=⟨hi,by rw[s.1];exact f.2.1,fun l b g=>by
  have a:l<W.pn - 1:=(by omega);rw[(Dx h a).1]at g;exact f.2.2 (sdI k l) (by rw[<-e];exact NT b) g⟩
 have:=Steps.next hv d (by rw[s.2.2.1];exact hn)
 rwa [s.2.2.2.2.2.2]at this
theorem ZT(h:C0 W k c)(nm:ByteArray):∀i,(i<=k->ownN (sdV W k c) nm i=ownN W nm i)/\(k<=i->i<=W.pn - 1->ownN (sdV W k c) nm i+(if (W.A0 k).set=nm then 1 else 0)=ownN W nm (i+1))
 | 0=>⟨fun _=>rfl,fun e _=>by
  obtain rfl:k=0:=(by omega);show 0+_=ownN W nm 1;unfold ownN ownN;rfl⟩
 | i+1=>by
  have e:=h.BI;obtain⟨a,b⟩:=ZT h nm i;have ei:ownN (sdV W k c) nm (i+1)=ownN (sdV W k c) nm i+(if ((sdV W k c).A0 i).set=nm then 1 else 0):=rfl;refine⟨fun hi=>?_,fun hi f=>?_⟩
  ·have s:=(Dx h (i:=i) (by omega)).2.2.1;rw[ei,a (by omega),s,show sdI k i=i from if_pos (by omega)];rfl
  ·by_cases g:k=i+1
   ·subst g;have s:=(Dx h (i:=i) (by omega)).2.2.1;rw[ei,a (by omega),s,show sdI (i+1) i=i from if_pos (by omega)];rfl
   ·have s:=(Dx h (i:=i) (by omega)).2.2.1;have d:=b (by omega) (by omega);rw[ei,s,show sdI k i=i+1 from if_neg (by omega)];show _+_+_=ownN W nm (i+1)+_;omega
theorem zp{e:Int}(h:Steps W nm st (n+1) e):∃y q,Steps W nm st n y/\BB W y q/\(W.A0 q).set=nm/\(W.A0 q).A5=e:=by
 cases h with
 | next hs hk hn=>exact⟨_,_,hs,hk,hn,rfl⟩
theorem zq{e:Int}(h:Steps W nm st 0 e):st=e:=by
 cases h;rfl
theorem zFY(h:C0 W k c)(o:Ab W)(C:j<W.sn):Ek (sdV W k c) (W.A2 j).name ((sdV W k c).A2 j).A5 (W.A2 j).origin:=by
 obtain⟨n,e,x,A,Y,I⟩:=o.lines j C;have D:=h.BI;have z:=o.AP;have s:=z.Cu.less;have v:¬Eh (sdV W k c) (W.A2 j).name e:=fun ⟨i,hi,hn⟩=>A ⟨sdI k i,by
  have:=Iy z (Mh h hi.1)
  rwa [<-(Dx h hi.1).1,hi.2.1]at this,by rw[<-(Dx h hi.1).2.2.1];exact hn⟩
 have u:c=W.pn+j->(W.A2 j).A5=(W.A0 k).id:=fun e=>by
  have:=h.A5;rw[e,By]at this;exact this
 have p:∀q,q<W.pn->q=c->(W.A0 q).A5=(W.A0 k).id:=fun q a e=>by
  have:=h.A5;rw[<-e,B9 a]at this;exact this
 have F:∀q,q<W.pn->(W.A0 q).A5=(W.A0 k).id->q=c:=fun q a e=>Classical.byContradiction fun g=>h.only q (by unfold memN;omega) g (by rw[B9 a];exact e)
 have b:=(ZT h (W.A2 j).name (W.pn - 1)).2 (by omega) (Nat.le_refl _);rw[show W.pn - 1+1=W.pn by omega]at b;have l:=(Ik h j).2.2.2.2;by_cases r:(W.A0 k).set=(W.A2 j).name;rotate_left
 ·have J:∀t y,Steps W (W.A2 j).name (W.A2 j).A5 t y->y≠(W.A0 k).id:=fun t y hs e=>r (Sl h o C (e▸hs)).symm
  rw[if_neg fun e=>J 0 _ .zero (u e.symm)]at l;have G:∀t y,Steps W (W.A2 j).name (W.A2 j).A5 t y->Steps (sdV W k c) (W.A2 j).name (W.A2 j).A5 t y:=fun t y hs=>by
   induction hs with
   | zero=>exact .zero
   | next hs a hn ih=>
    have:=NU h o ih a hn (fun e=>r (e▸hn))
    rwa [if_neg fun e=>J _ _ (hs.next a hn) (p _ a.1 e)]at this
  rw[if_neg r]at b;exact⟨n,e,by rw[l];exact G _ _ x,v,by show n=ownN (sdV W k c) _ (W.pn - 1);omega,I⟩
 ·obtain⟨m,d⟩:=Pc s (o.lines j C) D r;have w:Eh W (W.A2 j).name (W.A0 k).id:=⟨k,Iy z D,r⟩;have E:m<n:=by
   rcases Nat.lt_trichotomy m n with f | f | f
   ·exact f
   ·subst f;exact absurd w (by rw[<-Steps.det x d];exact A)
   ·obtain⟨y,R,Q⟩:=Steps.less d f;exact absurd Q (by rw[<-Steps.det x R];exact A)
  have S:∀t y,Steps W (W.A2 j).name (W.A2 j).A5 t y->t<m->Steps (sdV W k c) (W.A2 j).name ((sdV W k c).A2 j).A5 t y:=fun t y hs=>by
   induction hs with
   | zero=>
    intro B;rw[l,if_neg fun e=>by have:=Iz s d (Steps.zero (W:=W) (name:=(W.A2 j).name) (start:=(W.A2 j).A5)) B;rw[u e.symm]at this;omega];exact .zero
   | next hs a hn ih=>
    intro H;have N:=Iz s d hs (by omega);have O:=Iz s d (hs.next a hn) H;have:=NU h o (ih (by omega)) a hn (fun e=>by have:=a.2.1;rw[e]at this;omega)
    rwa [if_neg fun e=>by have:=p _ a.1 e;omega]at this
  have T:∀t y,Steps W (W.A2 j).name (W.A2 j).A5 t y->m<t->Steps (sdV W k c) (W.A2 j).name ((sdV W k c).A2 j).A5 (t - 1) y:=fun t y hs=>by
   induction hs with
   | zero=>exact fun B=>absurd B (Nat.not_lt_zero _)
   | @next t y q hs a hn ih=>
    intro H;rw[Nat.add_sub_cancel];by_cases P:t=m
    ·subst P;have M:=Steps.det hs d;have eq:q=k:=BB.uniq a (by rw[M];exact Iy z D);rw[eq];cases t with
     | zero=>
      have e0:=zq d;have L:W.pn+j=c:=Classical.byContradiction fun g=>h.only (W.pn+j) (by unfold memN;omega) g (by rw[By];exact e0)
      rw[l,if_pos L];exact .zero
     | succ m'=>
      obtain⟨y0,V,X,K,n0,U⟩:=zp d;have e0:=F V K.1 U;have:=NU h o (S _ _ X (Nat.lt_succ_self _)) K n0 (fun e=>h.ne (by rw[<-e0,e]))
      rwa [if_pos e0]at this
    ·have N:=Iz s hs d (by omega);have O:=Iz s (hs.next a hn) d H;have:=NU h o (ih (by omega)) a hn (fun e=>by have:=a.2.1;rw[e]at this;omega);rw[if_neg fun e=>by have:=p _ a.1 e;omega,show t - 1+1=t by omega]at this;exact this
  rw[if_pos r]at b;exact⟨n - 1,e,T _ _ x E,v,by show n - 1=ownN (sdV W k c) _ (W.pn - 1);omega,I⟩
theorem Od(f g:Nat->Int)(t:Int):∀n,BS f g t n=(B3 n f g).filter fun x=>decide (¬t<x.2)
 | 0=>rfl
 | n+1=>by
  unfold BS B3;rw[List.range_succ,List.map_append,List.filter_append,List.map_singleton,List.filter_cons];have:=Od f g t n;unfold B3 at this;rw[<-this];simp only[List.filter_nil];by_cases h:t<g n
  ·rw[if_pos h,if_neg (by simpa using h),List.append_nil]
  ·rw[if_neg h,if_pos (by simpa using h)]
theorem Ou(f g:Nat->Int)(t:Int):∀n,BE f g t n=(B3 n f g).filter fun x=>decide (t<x.2)
 | 0=>rfl
 | n+1=>by
  unfold BE B3;rw[List.range_succ,List.map_append,List.filter_append,List.map_singleton,List.filter_cons];have:=Ou f g t n;unfold B3 at this;rw[<-this];simp only[List.filter_nil];by_cases h:t<g n
  ·rw[if_pos h,if_pos (by simpa using h)]
  ·rw[if_neg h,if_neg (by simpa using h),List.append_nil]
theorem zFZ(h:C0 W k c)(o:Ab W):Ct (sdV W k c):=by
 have b:=o.AP;have v:=h.BI;obtain⟨z,A,B,T,C,r⟩:=b;have b:=o.AP;have m:∀y,CJ W y->CJ (sdV W k c) y:=fun y ⟨j,a,e⟩=>⟨j,a,by rw[(Ik h j).1];exact e⟩
 have K:(W.A0 k).A5<(W.A0 k).id:=b.Cu.less k v;have f:(W.A0 k).A5≠0->BG (sdV W k c) (W.A0 k).A5:=fun e=>Nj h b (by omega) ((r k v).2.1.2 e).2
 refine⟨z,A,B,by show W.pn - 1<=20;omega,fun j a=>?_,fun i hi=>?_⟩
 ·obtain⟨q1,L,M,N⟩:=C j a;have s:=Ik h j;unfold Gw;rw[s.1,s.2.1,s.2.2.2.2,(Ik h (j - 1)).1];refine⟨q1,L,fun e=>?_,fun e=>Nj h b (zDb h o a) (N e)⟩;by_cases g:W.pn+j=c
  ·rw[if_pos g]at e ⊢;exact f e
  ·rw[if_neg g]at e ⊢;refine Nj h b (fun n=>h.only (W.pn+j) (by unfold memN;have:j<W.sn:=a;omega) g ?_) (M e);rw[By];exact n
 ·have l:i<W.pn - 1:=hi;have a:=Mh h l;obtain⟨⟨D,E,F,G,H,I⟩,⟨c1,t⟩,d⟩:=r (sdI k i) a;obtain⟨s1,s2,s3,q,V,X,O⟩:=Dx h l;refine⟨⟨by rw[s1];exact D,by rw[s1];exact E,by rw[q];exact F,by rw[q];exact G,by rw[s2];exact H,by rw[s3];exact m _ I⟩,⟨fun U=>?_,fun e=>?_⟩,fun x p=>?_⟩
  ·obtain⟨P,-,-,S,-⟩:=Dx h (show i - 1<W.pn - 1 by omega);rw[s1,q,P,S];have w:sdI k (i - 1)<sdI k i:=NT (by omega);exact⟨Ii b w a,Q7 b w a⟩
  ·rw[O]at e ⊢;rw[s1];by_cases g:sdI k i=c
   ·rw[if_pos g]at e ⊢;refine⟨?_,f e⟩;have:=b.Cu.less (sdI k i) a;have u:=h.A5;rw[<-g,B9 a]at u;have J:(W.A0 (sdI k i)).A5=(W.A0 k).id:=u;omega
   ·rw[if_neg g]at e ⊢;refine⟨(t e).1,Nj h b (fun n=>h.only (sdI k i) (by unfold memN;omega) g ?_) (t e).2⟩;rw[B9 a];exact n
  ·obtain⟨-,Q,R,-⟩:=Dx h (show x<W.pn - 1 by omega);rw[s2,s3,Q,R];exact d (sdI k x) (NT p)
end
section
variable {p q : A7} {xs xb b ys yb ms mb gs gb : Int} {n : Nat}
end
theorem zBG{p:A7}(b:AX p){m:List (Int×Int)}(f:∀x,x∈l->BA p x.1 x.2)(c:l.Nodup)(d:m.Nodup)(a:m.length<=200)(h:∀x,x∈l↔x∈m):ES l.length (AI l) (AK l) m:=by
 have e:l.length=m.length:=((List.perm_ext_iff_of_nodup c d).2 h).length_eq;refine⟨Kt b f c (by omega),Kt b (fun x g=>f x ((h x).2 g)) d a,e,fun i hi=>?_⟩;rw[FG];unfold AI AK;rw[Co hi];exact(h _).1 (List.getElem_mem hi)
theorem Vg{n:Nat}{f g:Nat->Int}(h:ES n f g l):(∀x,x∈B3 n f g↔x∈l)/\(B3 n f g).Nodup:=by
 have p:=h.symm;refine⟨fun x=>⟨fun o=>?_,fun o=>?_⟩,?_⟩
 ·obtain⟨j,c,rfl⟩:=List.mem_map.1 o;have:=h.2.2.2 j (List.mem_range.1 c)
  rwa [FG]at this
 ·obtain⟨j,c,e⟩:=List.getElem_of_mem o;obtain⟨i,hi,d,k⟩:=p.2.2.2 j c;unfold AI at d;unfold AK at k;rw[Co c,e]at d k;exact List.mem_map.2 ⟨i,List.mem_range.2 hi,by rw[d,k]⟩
 ·unfold B3 List.Nodup;rw[List.pairwise_map];refine List.nodup_range.imp_of_mem fun {a b} q r m e=>m ?_
  exact h.1.2.2.inj (List.mem_range.1 q) (List.mem_range.1 r) (Prod.mk.inj e).1
section
variable {W : A4}
end
section
variable {W : A4} {k c : Nat}
variable{z:Int×Int}
theorem U7(b:Ab W){m:DJ}(h:z∈oldM W m):z.2<=(AB W m.A5).time:=by
 obtain⟨j,a,c⟩:=KJ h;have q:=b.born j (by unfold memN;have:=a.1;omega);unfold ER at q;rw[Cn a];have:=(q z c).1;rw[B9 a.1]at this;exact this
theorem ZU(h:C0 W k c)(a:Ab W):(AB W (W.A0 k).A5).time<=(W.A0 k).time:=by
 have d:=h.BI;by_cases e:∃j,BB W (W.A0 k).A5 j
 ·obtain⟨j,b⟩:=e;rw[Cn b];have i:=a.AP.Cu.less k d;have f:=b.2.1;rcases Nat.lt_trichotomy j k with g | g | g
  ·have:=Q7 a.AP g d;omega
  ·rw[g]at f;omega
  ·have:=Ii a.AP g b.1;omega
 ·unfold AB;rw[dif_neg e];have:1<=(W.A0 k).time:=(a.AP.2.2.2.2.2 k d).1.2.2.1;show(0:Int)<=_;omega
theorem Lv(h:C0 W k c)(i:Nat):treeM (sdV W k c) (A6 (sdV W k c) i)=treeM W (A6 W (sdI k i)):=by
 rw[JL h];by_cases g:sdI k i=c
 ·rw[if_pos g,g];rfl
 ·rw[if_neg g];rfl
theorem N7(h:C0 W k c)(a:Ab W):(W.A0 k).A5≠(W.A0 k).id:=by have:=a.AP.Cu.less k h.BI;omega
theorem PZ(h:C0 W k c)(d:Ab W)(hi:sdI k i<memN W):oldM (sdV W k c) (A6 (sdV W k c) i)=if sdI k i=c then oldM W (A6 W k)else oldM W (A6 W (sdI k i)):=by
 have e:=h.BI;rw[JL h];by_cases g:sdI k i=c
 ·rw[if_pos g,if_pos g,B9 e];obtain⟨a,b,-⟩:=Nh h d.AP (N7 h d);show AE W.pool (AB (sdV W k c) (W.A0 k).A5).rs (AB (sdV W k c) (W.A0 k).A5).rb=_;rw[a,b];rfl
 ·rw[if_neg g,if_neg g];obtain⟨a,b,-⟩:=Nh h d.AP (h.only _ hi g);show AE W.pool (AB (sdV W k c) (A6 W (sdI k i)).A5).rs (AB (sdV W k c) (A6 W (sdI k i)).A5).rb=_;rw[a,b];rfl
theorem ZS(h:C0 W k c)(a:Ab W):AB W (A6 W c).A5=W.A0 k:=by rw[h.A5];exact Cn (Iy a.AP h.BI)
theorem Pa(h:C0 W k c)(a:Ab W):oldM W (A6 W c)=treeM W (A6 W k):=by
 unfold oldM;rw[ZS h a,B9 h.BI];rfl
theorem qV(h:C0 W k c)(a:Ab W)(b:z∈treeM W (A6 W c)):z.2<=(A6 W c).time/\(z∈treeM W (A6 W k)↔z.2<=(W.A0 k).time):=by
 have q:=a.born c h.next;unfold ER at q;rw[Pa h a,ZS h a]at q;exact q z b
theorem J9(h:C0 W k c)(a:Ab W)(b:z∈treeM W (A6 W k)):z∈oldM W (A6 W k)↔z.2<=(AB W (W.A0 k).A5).time:=by
 have q:=a.born k (by unfold memN;have:=h.BI;omega);unfold ER at q;have:=(q z b).2;rw[this,B9 h.BI];exact Iff.rfl
theorem Nn{m:List (Int×Int)}{x:Int×Int}:x∈BN l m↔x∈l/\x∉m:=by unfold BN;rw[List.mem_filter,decide_eq_true_iff]
theorem Ni(h:C0 W k c)(d:Ab W):(∀x,x∈B3 (A6 W c).dn (A6 W c).ds (A6 W c).db↔x∈treeM W (A6 W k)/\x∉treeM W (A6 W c))/\(B3 (A6 W c).dn (A6 W c).ds (A6 W c).db).Nodup:=by
 have q:=d.toU.deadOf h.next;unfold DV at q;rw[Pa h d]at q;obtain⟨a,b⟩:=Vg q;exact⟨fun x=>by rw[a,Nn],b⟩
theorem zFV(h:C0 W k c)(d:Ab W):(∀x,x∈B3 (W.A0 k).dn (W.A0 k).ds (W.A0 k).db↔x∈oldM W (A6 W k)/\x∉treeM W (A6 W k))/\(B3 (W.A0 k).dn (W.A0 k).ds (W.A0 k).db).Nodup:=by
 have q:=d.dead k h.BI;unfold DV at q;have e:(A6 W k).dn=(W.A0 k).dn/\(A6 W k).ds=(W.A0 k).ds/\(A6 W k).db=(W.A0 k).db:=by rw[B9 h.BI];exact⟨rfl,rfl,rfl⟩
 rw[e.1,e.2.1,e.2.2]at q;obtain⟨a,b⟩:=Vg q;exact⟨fun x=>by rw[a,Nn],b⟩
theorem zIC(h:C0 W k c)(a:Ab W):ES (sdD W (W.A0 k) (A6 W c).dn (A6 W c).ds (A6 W c).db).length (AI (sdD W (W.A0 k) (A6 W c).dn (A6 W c).ds (A6 W c).db)) (AK (sdD W (W.A0 k) (A6 W c).dn (A6 W c).ds (A6 W c).db)) (BN (oldM W (A6 W k)) (treeM W (A6 W c))):=by
 have f:=a.right;have s:=h.BI;obtain⟨c1,q⟩:=Ni h a;obtain⟨p,t⟩:=zFV h a;have v:=ZU h a;have i:∀z,z∈oldM W (A6 W k)->z.2<=(AB W (W.A0 k).A5).time:=fun z l=>by
  have:=U7 a l
  rwa [B9 s]at this
 have n:∀z,z∈oldM W (A6 W k)->BA W.pool z.1 z.2:=fun z l=>by
  obtain⟨j,r,g⟩:=KJ l;exact(EY f (PF a (by unfold memN;have:=r.1;omega)) g).1
 have o:∀z,z∈sdD W (W.A0 k) (A6 W c).dn (A6 W c).ds (A6 W c).db↔z∈BN (oldM W (A6 W k)) (treeM W (A6 W c)):=fun z=>by
  unfold sdD sdO;rw[List.mem_append,p,Od,List.mem_filter,decide_eq_true_iff,c1,Nn];constructor
  ·rintro(⟨b,d⟩ | ⟨⟨b,d⟩,u⟩)
   ·refine⟨b,fun e=>d (((qV h a e).2).2 ?_)⟩;have:=i z b;omega
   ·exact⟨(J9 h a b).2 (by omega),d⟩
  ·rintro⟨b,d⟩;by_cases e:z∈treeM W (A6 W k)
   ·exact .inr ⟨⟨e,d⟩,by have:=(J9 h a e).1 b;omega⟩
   ·exact .inl ⟨b,e⟩
 have m:(oldM W (A6 W k)).Nodup:=Jr f (KK a.A0 _);refine zBG f (fun z g=>n z (Nn.1 ((o z).1 g)).1) ?_ (m.filter _) (Nat.le_trans (List.length_filter_le _ _) (Nat.le_trans (D7 ..) (by omega))) o;unfold sdD sdO;refine List.nodup_append.2 ⟨t,?_,fun z g w g' e=>?_⟩
 ·rw[Od];exact q.filter _
 ·subst e;rw[Od,List.mem_filter,c1]at g';exact((p z).1 g).2 g'.1.1
theorem zIX(h:C0 W k c)(f:Ab W):FW (sdV W k c):=by
 have o:=f.toU;have A:=h.BI;have s:memN (sdV W k c)=memN W - 1:=by show W.pn - 1+W.sn=W.pn+W.sn - 1;omega
 have d:∀i,i<memN (sdV W k c)->sdI k i<memN W:=fun i hi=>by rw[s]at hi;unfold sdI;split<;>omega
 have p:k<memN W:=by unfold memN;omega
 have l:∀i,i<memN (sdV W k c)->DV (sdV W k c) i:=fun i hi=>by
  unfold DV;rw[Lv h,PZ h f (d i hi)];by_cases g:sdI k i=c
  ·rw[if_pos g,JL h,if_pos g,g];exact zIC h f
  ·rw[if_neg g,JL h,if_neg g];exact o.deadOf (d i hi)
 have m:∀i,i<memN (sdV W k c)->∀z,z∈CZ (sdV W k c) (A6 (sdV W k c) i)->z∈CZ W (A6 W (sdI k i))\/(sdI k i=c/\z∈CZ W (A6 W k)):=fun i hi z r=>by
  obtain⟨z1,z2⟩:=Hz.1 r;rw[Lv h]at z1;rw[PZ h f (d i hi)]at z2;by_cases g:sdI k i=c
  ·rw[if_pos g]at z2;by_cases e:z∈treeM W (A6 W k)
   ·exact .inr ⟨g,Hz.2 ⟨e,z2⟩⟩
   ·refine .inl (Hz.2 ⟨z1,?_⟩);rw[g,Pa h f];exact e
  ·rw[if_neg g]at z2;exact .inl (Hz.2 ⟨z1,z2⟩)
 refine⟨f.right,zFZ h f,fun i hi=>?_,fun i hi=>?_,fun i hi=>⟨?_,l _ (by unfold memN;omega)⟩,fun i hi=>l i (by unfold memN;omega),fun i hi=>?_,?_⟩
 ·rw[(Ik h i).1,(Ik h i).2.1];exact zFY h f hi
 ·obtain⟨-,-,-,-,t,u,-⟩:=Dx h hi;rw[t,u];exact f.A0 _ (Mh h hi)
 ·obtain⟨-,-,t,u,-⟩:=Ik h i;rw[t,u];exact(f.A2 i hi).1
 ·unfold ER;rw[Lv h,PZ h f (d i hi)];by_cases g:sdI k i=c
  ·rw[if_pos g,JL h,if_pos g,g];show Gu _ _ (AB (sdV W k c) (W.A0 k).A5).time (A6 W c).time;rw[(Nh h f.AP (N7 h f)).2.2];intro z r;have v:=qV h f r;refine⟨v.1,fun e=>?_,fun e=>?_⟩
   ·have:=U7 f e
    rwa [B9 A]at this
   ·have:=ZU h f;exact(J9 h f (v.2.2 (by omega))).2 e
  ·rw[if_neg g,JL h,if_neg g,(Nh h f.AP (h.only _ (d i hi) g)).2.2];exact o.born _ (d i hi)
 ·intro i hi j x z r y B;have n:j<memN (sdV W k c):=(by omega);have q:sdI k i≠sdI k j:=(by have:=NT (k:=k) x;omega);rcases m i hi z r with a | ⟨a,w⟩<;>rcases m j n y B with b | ⟨b,b'⟩
  ·exact o.apart' (d i hi) (d j n) q a b
  ·exact o.apart' (d i hi) p (LJ k i) a b'
  ·exact o.apart' p (d j n) (Ne.symm (LJ k j)) w b
  ·exact absurd (a.trans b.symm) q
theorem QB(h:C0 W k c)(x:Ab W)(u:z∈CZ W (A6 W k)){m:Nat}(s:m<memN W)(r:m≠k)(t:z∈treeM W (A6 W m)):z∈treeM W (A6 W c):=by
 have d:=x.toU;have i:k<memN W:=by unfold memN;have:=h.BI;omega
 have hs:∀(N:Nat) (j:Nat),j<W.pn->(W.A0 j).id<N->j≠k->z∈treeM W (A6 W j)->z∈treeM W (A6 W c):=fun N=>by
  induction N with
  | zero=>intro j o v;have:=d.AP.Cu.pos j o;omega
  | succ N ih=>
   intro j o v p n;have e:j<memN W:=(by unfold memN;omega);by_cases l:z∈oldM W (A6 W j)
   ·obtain⟨q,a,b⟩:=KJ l;by_cases g:q=k
    ·have:j=c:=Classical.byContradiction fun f=>h.only j e f (by rw[<-g];exact a.2.1.symm)
     rw[<-this];exact n
    ·have y:=d.AP.Cu.less j o;have w:=a.2.1;rw[B9 o]at w;have A:(Js (W.A0 j)).A5=(W.A0 j).A5:=rfl;exact ih q a.1 (by omega) g b
   ·exact absurd rfl (d.apart' e i p (Hz.2 ⟨n,l⟩) u)
 by_cases l:z∈oldM W (A6 W m)
 ·obtain⟨q,a,b⟩:=KJ l;by_cases g:q=k
  ·have:m=c:=Classical.byContradiction fun f=>h.only m s f (by rw[<-g];exact a.2.1.symm)
   rw[<-this];exact t
  ·have:=d.AP.Cu.pos q a.1;exact hs ((W.A0 q).id.toNat+1) q a.1 (by omega) g b
 ·exact absurd rfl (d.apart' s i r (Hz.2 ⟨t,l⟩) u)
theorem zH3(h:C0 W k c)(d:Ab W):Ab {sdV W k c with pool:=Ak W.pool (sdY W (W.A0 k) (A6 W c).dn (A6 W c).ds (A6 W c).db)}/\∀m,m<memN W->m≠k->FV W.pool (Ak W.pool (sdY W (W.A0 k) (A6 W c).dn (A6 W c).ds (A6 W c).db)) (A6 W m).rs (A6 W m).rb:=by
 have N:=d.right;have T:=h.BI;obtain⟨Y,I⟩:∃l,sdY W (W.A0 k) (A6 W c).dn (A6 W c).ds (A6 W c).db=l:=⟨_,rfl⟩;have K:k<memN W:=by unfold memN;omega
 have w:∀x,x∈Y↔(x∈treeM W (A6 W k)/\x∉treeM W (A6 W c))/\(AB W (W.A0 k).A5).time<x.2:=fun x=>by
  rw[<-I];unfold sdY;rw[Ou,List.mem_filter,decide_eq_true_iff,(Ni h d).1]
 have G:∀x,x∈Y->x∈CZ W (A6 W k):=fun x u=>by
  obtain⟨⟨L,X⟩,Z⟩:=(w x).1 u;exact Hz.2 ⟨L,fun e=>by have:=(J9 h d L).1 e;omega⟩
 have F:∀m,m<memN W->∀z,z∈treeM W (A6 W m)->BA W.pool z.1 z.2:=fun m a z v=>(EY N (PF d a) v).1
 have E:∀m,m<memN W->m≠k->∀z,z∈treeM W (A6 W m)->∀x,x∈Y->x.1≠z.1:=fun m a o z v x u e=>by
  have U:=F k K x (Hz.1 (G x u)).1;have V:=F m a z v;have:x=z:=Prod.ext e (by rw[<-U.2.2.2,<-V.2.2.2,e]);subst this;exact((w x).1 u).1.2 (QB h d (G x u) a o v)
 have r:∀m,m<memN W->m≠k->FV W.pool (Ak W.pool Y) (A6 W m).rs (A6 W m).rb:=fun m a o=>yq fun z v=>⟨(EY N (PF d a) v).2.2,fun x u=>E m a o z v x u⟩
 have H:CK W.pool Y:=by rw[<-I];exact(M4 d h.next _).2
 have D:memN (sdV W k c)=memN W - 1:=by show W.pn - 1+W.sn=W.pn+W.sn - 1;omega
 have B:∀i,i<memN (sdV W k c)->sdI k i<memN W:=fun i hi=>by rw[D]at hi;unfold sdI;split<;>omega
 have y:OnW (sdV W k c) {sdV W k c with pool:=Ak W.pool Y}:=⟨rfl,rfl,rfl,rfl,rfl,⟨Int.le_refl _,d.AP.1.2⟩,fun i hi=>by
  have t:=r _ (B i hi) (LJ k i);rw[JL h];by_cases g:sdI k i=c
  ·rw[if_pos g];rw[g]at t;exact t
  ·rw[if_neg g];exact t⟩
 rw[I];refine⟨(y.specU (zIX h d) H.last).spec fun i hi=>?_,r⟩;have A:i<W.pool.n:=by
  have:i<(Ak W.pool Y).n:=hi
  rwa [(EF _ _).1]at this
 have S:(∃m,m<memN {sdV W k c with pool:=Ak W.pool Y}/\∃b,((i:Int),b)∈treeM {sdV W k c with pool:=Ak W.pool Y} (A6 {sdV W k c with pool:=Ak W.pool Y} m))↔∃m,m<memN W/\m≠k/\∃b,((i:Int),b)∈treeM W (A6 W m):=by
  constructor
  ·rintro⟨m,a,b,p⟩;rw[y.treeM (i:=m) a,Lv h]at p;exact⟨_,B m a,LJ k m,b,p⟩
  ·rintro⟨m,a,o,b,p⟩;have C:(if m<k then m else m - 1)<memN (sdV W k c):=(by rw[D];split<;>omega);refine⟨if m<k then m else m - 1,C,b,?_⟩;rw[y.treeM C,Lv h,show sdI k (if m<k then m else m - 1)=m by
    unfold sdI;by_cases g:m<k
    ·rw[if_pos g,if_pos g]
    ·rw[if_neg g,if_neg (by omega)];omega]
   exact p
 have J:(Ak W.pool Y).s=W.pool.s:=(EF _ _).2.1;rw[S];show _↔¬Am ((Ak W.pool Y).s i)/\¬Has (Ak W.pool Y).hn (Ak W.pool Y).h (i:Int);rw[J,Q3];constructor
 ·rintro⟨m,a,o,b,p⟩;have q:=(d.reach i A).1 ⟨m,a,b,p⟩;exact⟨q.1,fun g=>g.elim q.2 fun ⟨x,u,e⟩=>E m a o _ p x u e⟩
 ·rintro⟨q1,R⟩;obtain⟨m,a,b,p⟩:=(d.reach i A).2 ⟨q1,fun g=>R (.inl g)⟩;by_cases e:m=k
  ·subst e;by_cases O:((i:Int),b)∈treeM W (A6 W c)
   ·exact⟨c,h.next,h.ne,b,O⟩
   ·by_cases Q:((i:Int),b)∈oldM W (A6 W m)
    ·obtain⟨j,P,v⟩:=KJ Q;refine⟨j,by unfold memN;have:=P.1;omega,fun g=>?_,b,v⟩;have M:=P.2.1;rw[B9 T,g]at M;exact N7 h d M.symm
    ·refine absurd (.inr ⟨_,(w _).2 ⟨⟨p,O⟩,?_⟩,rfl⟩) R;have:=(J9 h d p);show _<b;have hn:¬b<=(AB W (W.A0 m).A5).time:=fun f=>Q (this.2 f)
     omega
  ·exact⟨m,a,e,b,p⟩
end
end Go.Proofs.YtnfjcaoclahfjaaGreatDoor
