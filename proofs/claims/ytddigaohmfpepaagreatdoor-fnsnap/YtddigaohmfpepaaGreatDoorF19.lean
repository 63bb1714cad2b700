/- A part of the proof. -/
import Derived.Test.YtddigaohmfpepaaGreatDoorF18
set_option linter.unusedVariables false
set_option maxRecDepth 20000
set_option maxHeartbeats 4000000
namespace Go.Proofs.YtddigaohmfpepaaGreatDoor
open Go.RowKit Go.Maps
theorem Na{V:A6}(h:DD V):∀{k i:Nat},i<k->k<V.sn->Cd (V.A2 i).name (V.A2 k).name
 | k+1,i,hi,hk=>by
  have g:=(h.2.2.2.2.1 (k+1) hk).2.1 (by omega);rw[Nat.add_sub_cancel]at g;by_cases e:i=k
  ·rw[e];exact g
  ·exact zBR (Na h (by omega) (by omega)) g
theorem ZU{V:A6}(h:DD V):∀{k i:Nat},i<k->k<V.pn->(V.A3 i).id<(V.A3 k).id
 | k+1,i,hi,hk=>by
  have g:=((h.2.2.2.2.2 (k+1) hk).2.1.1 (by omega)).1;rw[Nat.add_sub_cancel]at g;by_cases e:i=k
  ·rw[e];exact g
  ·exact Int.lt_trans (ZU h (by omega) (by omega)) g
def EU(p q:A7)(rs rb:Int):Prop:=q.n=p.n/\∀z,z∈AG p rs rb->q.s z.1.toNat=p.s z.1.toNat/\¬Has q.hn q.h z.1
section
variable {p q : A7} {rs rb : Int}
theorem NY(h:¬Nil rs rb):(rs,rb)∈AG p rs rb:=by
 unfold AG;rw[if_neg h];exact List.mem_cons_self ..
variable{i:Nat}
theorem T3(h:¬Nil rs rb){x:Int×Int}(hi:i<8)(a:x∈Ck p (AK (p.s rs.toNat) i) (AW (p.s rs.toNat) i)):x∈AG p rs rb:=by
 unfold AG;rw[if_neg h];exact List.mem_cons_of_mem _ (Gf.2 ⟨i,hi,a⟩)
theorem Pj(h:¬Nil rs rb)(hi:i<8)(a:¬Nil (AK (p.s rs.toNat) i) (AW (p.s rs.toNat) i)):(AK (p.s rs.toNat) i,AW (p.s rs.toNat) i)∈AG p rs rb:=T3 h hi (I5.2 ⟨a,.inl rfl⟩)
theorem T2(h:¬Nil rs rb){j:Nat}(hi:i<8)(a:j<8)(b:¬Nil (AK (p.s rs.toNat) i) (AW (p.s rs.toNat) i))(c:¬Nil (AK (p.s (AK (p.s rs.toNat) i).toNat) j) (AW (p.s (AK (p.s rs.toNat) i).toNat) j)):(AK (p.s (AK (p.s rs.toNat) i).toNat) j,AW (p.s (AK (p.s rs.toNat) i).toNat) j)∈AG p rs rb:=T3 h hi (I5.2 ⟨b,.inr (Gk.2 ⟨j,a,rfl,c⟩)⟩)
theorem UA{s:AH}:∀{k:Nat},(∀i,i<k->¬Nil (AK s i) (AW s i)->q.s (AK s i).toNat=p.s (AK s i).toNat)->CR q s k=CR p s k
 | 0,_=>rfl
 | k+1,h=>by
  unfold CR;rw[UA (fun i hi=>h i (by omega))];congr 1;unfold Ck;by_cases a:Nil (AK s k) (AW s k)
  ·rw[if_pos a,if_pos a]
  ·rw[if_neg a,if_neg a,h k (Nat.lt_succ_self k) a]
theorem EU.tree(h:EU p q rs rb):AG q rs rb=AG p rs rb:=by
 by_cases a:Nil rs rb
 ·unfold AG;rw[if_pos a,if_pos a]
 ·have e:=(h.2 _ (NY a)).1;have:=UA (p:=p) (q:=q) (s:=p.s rs.toNat) (k:=8) fun i hi b=>(h.2 _ (Pj a hi b)).1
  unfold AG;rw[if_neg a,if_neg a,e,this]
theorem EU.ok(h:EU p q rs rb)(v:B3 p rs rb):B3 q rs rb:=by
 refine v.imp id fun ⟨n,hT,hD⟩=>?_
 have k:¬Nil rs rb:=fun e=>by have:=n.1.1;have:=e.2;omega
 have t:∀a b,(a,b)∈AG p rs rb->B8 p a b->B8 q a b:=fun a b d c=>⟨c.1,c.2.1,by rw[h.1];exact c.2.2.1,by rw[(h.2 _ d).1];exact c.2.2.2⟩
 have r:∀a b,(a,b)∈AG p rs rb->Db p a b->Db q a b:=fun a b d c=>⟨t a b d c.1,by rw[(h.2 _ d).1];exact c.2.1,(h.2 _ d).2⟩
 refine⟨r _ _ (NY k) n,?_,by rw[h.tree];exact hD⟩;rw[(h.2 _ (NY k)).1];refine⟨fun i hi=>?_,hT.2⟩;by_cases g:Nil (AK (p.s rs.toNat) i) (AW (p.s rs.toNat) i)
 ·exact .inl g
 obtain⟨u,m⟩:=(hT.1 i hi).resolve_left g;have d:=Pj k hi g;refine .inr ⟨r _ _ d u,?_⟩;rw[(h.2 _ d).1];refine⟨fun j o=>?_,m.2⟩;by_cases l:Nil (AK (p.s (AK (p.s rs.toNat) i).toNat) j) (AW (p.s (AK (p.s rs.toNat) i).toNat) j)
 ·exact .inl l
 have c:=(m.1 j o).resolve_left l;have f:=T2 k hi o g l;exact .inr ⟨t _ _ f c.1,by rw[(h.2 _ f).1];exact c.2.1,(h.2 _ f).2⟩
theorem EU.AM(h:EU p q rs rb){k:Nat}(m:k<64):lwD q rs rb k=lwD p rs rb k:=by
 by_cases a:Nil rs rb
 ·rw[QN a,QN a]
 have e:=(h.2 _ (NY a)).1;have d:BV q rs rb k=BV p rs rb k/\Bj q rs rb k=Bj p rs rb k:=by
  unfold BV Bj BU Be;rw[if_neg a,if_neg a,if_neg a,if_neg a,e];exact⟨rfl,rfl⟩
 by_cases hn:Nil (BV p rs rb k) (Bj p rs rb k)
 ·rw[QM hn,QM (by rw[d.1,d.2];exact hn)]
 have c1:BV p rs rb k=AK (p.s rs.toNat) (k / 8):=if_neg a;have i:Bj p rs rb k=AW (p.s rs.toNat) (k / 8):=if_neg a;have c:¬Nil (AK (p.s rs.toNat) (k / 8)) (AW (p.s rs.toNat) (k / 8)):=by rw[<-c1,<-i];exact hn
 have l:q.s (BV p rs rb k).toNat=p.s (BV p rs rb k).toNat:=by rw[c1];exact(h.2 _ (Pj a (by omega) c)).1
 have f:BZ q rs rb k=BZ p rs rb k/\Bg q rs rb k=Bg p rs rb k:=by
  unfold BZ Bg;rw[d.1,d.2];unfold BU Be;rw[if_neg hn,if_neg hn,if_neg hn,if_neg hn,l];exact⟨rfl,rfl⟩
 unfold lwD;rw[f.1,f.2];by_cases b:Nil (BZ p rs rb k) (Bg p rs rb k)
 ·rw[if_pos b,if_pos b]
 ·rw[if_neg b,if_neg b];have g:BZ p rs rb k=AK (p.s (AK (p.s rs.toNat) (k / 8)).toNat) (k % 8):=(by rw[<-c1];exact if_neg hn);have j:Bg p rs rb k=AW (p.s (AK (p.s rs.toNat) (k / 8)).toNat) (k % 8):=(by rw[<-c1];exact if_neg hn);rw[g,j]at b;rw[g,(h.2 _ (T2 a (by omega) (by omega) c b)).1]
end
structure EI (W:A6):Prop where
 right:AZ W.pool
 Aq:DD W
 lines:∀i,i<W.sn->FA W (W.A2 i).name (W.A2 i).A8 (W.A2 i).origin
 A3:∀i,i<W.pn->B3 W.pool (W.A3 i).rs (W.A3 i).rb
 A2:∀i,i<W.sn->B3 W.pool (W.A2 i).rs (W.A2 i).rb/\DU W (W.pn+i)
 dead:∀i,i<W.pn->DU W i
 born:∀i,i<memN W->EX W i
 Bn:Ic W
variable{W:A6}
theorem B4.toU(h:B4 W):EI W:=⟨h.right,h.Aq,h.lines,h.A3,h.A2,h.dead,h.born,h.Bn⟩
theorem EI.spec(h:EI W)(a:Q1 W):B4 W:=⟨h.right,h.Aq,h.lines,h.A3,h.A2,h.dead,a,h.born,h.Bn⟩
variable{i:Nat}
theorem EI.mem(h:EI W)(hi:i<memN W):B3 W.pool (AA W i).rs (AA W i).rb:=(Nl h.right h.Aq h.A3 fun j a=>(h.A2 j a).1).tree i hi
theorem N2(h:B4 W)(hi:i<memN W):B3 W.pool (AA W i).rs (AA W i).rb:=h.toU.mem hi
variable{V:A6}{nm:ByteArray}
theorem Steps.same(a:V.pn=W.pn)(hs:V.A3=W.A3){st:Int}{n:Nat}{x:Int}(g:Steps W nm st n x):Steps V nm st n x:=by
 induction g with
 | zero=>exact .zero
 | next _ hk hn ih=>
  have:=Steps.next ih (show BW V _ _ by unfold BW at hk ⊢;rw[a,hs];exact hk) (by rw[hs];exact hn)
  rwa [hs]at this
theorem FA.same(b:V.pn=W.pn)(hs:V.A3=W.A3){st o:Int}(h:FA W nm st o):FA V nm st o:=by
 obtain⟨n,e,c,d,f,g⟩:=h;have a:∀k,ownN V nm k=ownN W nm k:=fun k=>by
  induction k with
  | zero=>rfl
  | succ k ih=>unfold ownN;rw[ih,hs]
 exact⟨n,e,c.same b hs,fun ⟨k,hk,hn⟩=>d ⟨k,by unfold BW at hk ⊢;rw[<-b,<-hs];exact hk,by rw[<-hs];exact hn⟩,by rw[a,b];exact f,g⟩
structure OnW (W V:A6):Prop where
 sn:V.sn=W.sn
 A2:V.A2=W.A2
 pn:V.pn=W.pn
 A3:V.A3=W.A3
 next:V.next=W.next
 time:W.time<=V.time/\V.time<=900000
 tree:∀i,i<memN W->EU W.pool V.pool (AA W i).rs (AA W i).rb
section
variable {W V : A6}
theorem OnW.snapNo(h:OnW W V)(x:Int)(k:Nat):BW V x k↔BW W x k:=by unfold BW;rw[h.pn,h.A3]
theorem OnW.ahead(h:OnW W V)(x:Int):AI V x=AI W x:=by
 by_cases b:∃k,BW W x k
 ·obtain⟨k,a⟩:=b;rw[DW a,DW ((h.snapNo x k).2 a),h.A3]
 ·unfold AI;rw[dif_neg b,dif_neg (fun ⟨k,a⟩=>b ⟨k,(h.snapNo x k).1 a⟩)]
theorem OnW.memN(h:OnW W V):memN V=memN W:=by unfold Go.Proofs.YtddigaohmfpepaaGreatDoor.memN;rw[h.sn,h.pn]
theorem OnW.mem(h:OnW W V)(i:Nat):∃t,AA V i = {AA W i with time:=t}/\(AA W i).time<=t:=by
 unfold AA;rw[h.pn,h.A3,h.A2];by_cases hi:i<W.pn
 ·rw[if_pos hi,if_pos hi];exact⟨_,rfl,Int.le_refl _⟩
 ·rw[if_neg hi,if_neg hi];exact⟨V.time,rfl,h.time.1⟩
theorem OnW.treeM(h:OnW W V)(hi:i<Go.Proofs.YtddigaohmfpepaaGreatDoor.memN W):treeM V (AA V i)=Go.Proofs.YtddigaohmfpepaaGreatDoor.treeM W (AA W i):=by
 obtain⟨t,e,-⟩:=h.mem i;rw[e];exact(h.tree i hi).tree
theorem OnW.root(h:OnW W V)(x:Int):AG V.pool (AI W x).rs (AI W x).rb=AG W.pool (AI W x).rs (AI W x).rb:=by
 by_cases b:∃k,BW W x k
 ·obtain⟨k,a⟩:=b;rw[DW a];have:=(h.tree k (by unfold Go.Proofs.YtddigaohmfpepaaGreatDoor.memN;have:=a.1;omega)).tree
  rwa [CH a.1]at this
 ·unfold AI;rw[dif_neg b];rfl
theorem OnW.oldM(h:OnW W V)(i:Nat):oldM V (AA V i)=Go.Proofs.YtddigaohmfpepaaGreatDoor.oldM W (AA W i):=by
 obtain⟨t,e,-⟩:=h.mem i;rw[e];show AG V.pool (AI V (AA W i).A8).rs (AI V (AA W i).A8).rb=_;rw[h.ahead,h.root];rfl
theorem OnW.specU(h:OnW W V)(hs:EI W)(C:AZ V.pool):EI V:=by
 have f:∀x,CK V x↔CK W x:=fun x=>by unfold CK;rw[h.pn,h.A3]
 have l:∀x,BL V x↔BL W x:=fun x=>by unfold BL;rw[h.sn,h.A2]
 have k:∀i,(AA V i).rs=(AA W i).rs/\(AA V i).rb=(AA W i).rb:=fun i=>by obtain⟨t,e,-⟩:=h.mem i;rw[e];exact⟨rfl,rfl⟩
 have a:∀i,i<Go.Proofs.YtddigaohmfpepaaGreatDoor.memN W->DU W i->DU V i:=fun i hi g=>by
  unfold DU at g ⊢;rw[h.treeM hi,h.oldM i];obtain⟨t,e,-⟩:=h.mem i;rw[e];exact g
 have m:∀i,i<V.pn->i<Go.Proofs.YtddigaohmfpepaaGreatDoor.memN W:=fun i hi=>by unfold Go.Proofs.YtddigaohmfpepaaGreatDoor.memN;rw[h.pn]at hi;omega
 have b:∀i,i<Go.Proofs.YtddigaohmfpepaaGreatDoor.memN W->B3 V.pool (AA V i).rs (AA V i).rb:=fun i hi=>by
  rw[(k i).1,(k i).2];exact(h.tree i hi).ok (hs.mem hi)
 refine⟨C,?_,?_,fun i hi=>?_,fun i hi=>?_,fun i hi=>a i (m i hi) (hs.dead i (by rw[<-h.pn];exact hi)),fun i hi=>?_,?_⟩
 ·obtain⟨⟨E,F⟩,q,r,s,u,v⟩:=hs.Aq;have n:=h.time;refine⟨⟨by omega,n.2⟩,by rw[h.next];exact q,by rw[h.sn];exact r,by rw[h.pn];exact s,fun i hi=>?_,fun i hi=>?_⟩
  ·have g:=u i (by rw[<-h.sn];exact hi);unfold GJ at g ⊢;rw[h.A2];exact⟨g.1,g.2.1,fun e=>(f _).2 (g.2.2.1 e),fun e=>(f _).2 (g.2.2.2 e)⟩
  ·have g:=v i (by rw[<-h.pn];exact hi);unfold KK Mp LH LI at g ⊢;rw[h.A3,h.next];obtain⟨⟨w,y,z,G,A,B⟩,⟨c1,o⟩,d⟩:=g;exact⟨⟨w,y,z,by omega,A,(l _).2 B⟩,⟨c1,fun e=>⟨(o e).1,(f _).2 (o e).2⟩⟩,d⟩
 ·intro i hi;rw[h.A2];exact(hs.lines i (by rw[<-h.sn];exact hi)).same h.pn h.A3
 ·have:=b i (m i hi)
  rwa [CH hi]at this
 ·have c:V.pn+i<Go.Proofs.YtddigaohmfpepaaGreatDoor.memN W:=(by rw[<-h.memN];unfold Go.Proofs.YtddigaohmfpepaaGreatDoor.memN;omega);have:=b _ c;rw[C4]at this;exact⟨this,a _ c (by rw[h.pn];exact(hs.A2 i (by rw[<-h.sn];exact hi)).2)⟩
 ·have c:i<Go.Proofs.YtddigaohmfpepaaGreatDoor.memN W:=(by rw[<-h.memN];exact hi);have g:=hs.born i c;unfold EX at g ⊢;rw[h.treeM c,h.oldM i];obtain⟨t,e,n⟩:=h.mem i;rw[e];dsimp only;rw[h.ahead];exact fun x p=>⟨Int.le_trans (g x p).1 n,(g x p).2⟩
 ·intro i hi j D;have c:i<Go.Proofs.YtddigaohmfpepaaGreatDoor.memN W:=(by rw[<-h.memN];exact hi);unfold CB;rw[h.treeM c,h.oldM i,h.treeM (show j<Go.Proofs.YtddigaohmfpepaaGreatDoor.memN W by omega),h.oldM j];exact hs.Bn i c j D
end
theorem NF{z:Int}:∀{l:List (Int×Int)} {p:A7},Has (BJ p l).hn (BJ p l).h z↔Has p.hn p.h z\/∃x,x∈l/\x.1=z
 | [],p=>⟨.inl,fun h=>h.resolve_right fun ⟨_,b,_⟩=>by cases b⟩
 | a :: l,p=>by
  have e:Has (CQ p a.1).hn (CQ p a.1).h z↔Has p.hn p.h z\/z=a.1:=by
   refine⟨XS,fun h=>?_⟩;rcases h with⟨j,c,e⟩ | rfl
   ·exact⟨j,Nat.lt_succ_of_lt c,(if_neg (by omega)).trans e⟩
   ·exact⟨p.hn,Nat.lt_succ_self _,if_pos rfl⟩
  show Has (BJ (CQ p a.1) l).hn (BJ (CQ p a.1) l).h z↔_;rw[NF,e];constructor
  ·rintro((h | rfl) | ⟨x,b,h⟩)
   ·exact .inl h
   ·exact .inr ⟨a,List.mem_cons_self ..,rfl⟩
   ·exact .inr ⟨x,List.mem_cons_of_mem _ b,h⟩
  ·rintro(h | ⟨x,b,h⟩)
   ·exact .inl (.inl h)
   ·rcases List.mem_cons.1 b with rfl | b
    ·exact .inl (.inr h.symm)
    ·exact .inr ⟨x,b,h⟩
theorem XT{p:A7}{l:List (Int×Int)}{rs rb:Int}(h:∀z,z∈AG p rs rb->¬Has p.hn p.h z.1/\∀x,x∈l->x.1≠z.1):EU p (BJ p l) rs rb:=
 ⟨(EQ l p).1,fun z a=>⟨by rw[(EQ l p).2.1],fun g=>(NF.1 g).elim (h z a).1 fun ⟨x,hx,e⟩=>(h z a).2 x hx e⟩⟩
section
variable {W : A6}
variable{m:Cq}{x:Int×Int}
theorem N3(h:x∈oldM W m):∃j,BW W m.A8 j/\x∈treeM W (AA W j):=by
 by_cases a:∃j,BW W m.A8 j
 ·obtain⟨j,b⟩:=a;unfold oldM at h;rw[DW b]at h;exact⟨j,b,by rw[CH b.1];exact h⟩
 ·have:AI W m.A8=DL:=(by unfold AI;rw[dif_neg a]);unfold oldM at h;rw[this,AG,if_pos ⟨rfl,rfl⟩]at h;cases h
theorem Gx:x∈CB W m↔x∈treeM W m/\x∉oldM W m:=by
 unfold CB BR;rw[List.mem_filter,decide_eq_true_iff]
theorem XV(a:EI W){x:Int×Int}:∀(N:Nat) (k:Nat),k<W.pn->(W.A3 k).id<N->x∈treeM W (AA W k)->∃i,i<W.pn/\x∈CB W (AA W i)
 | 0,k,hk,h1,_=>by have:=a.Aq.ER.pos k hk;omega
 | N+1,k,hk,h1,hx=>by
  by_cases d:x∈oldM W (AA W k)
  ·obtain⟨j,c,b⟩:=N3 d;have f:=a.Aq.ER.less k hk;have e:=c.2.1;rw[CH hk]at e;have g:(MW (W.A3 k)).A8=(W.A3 k).A8:=rfl;exact XV a N j c.1 (by omega) b
  ·exact⟨k,hk,Gx.2 ⟨hx,d⟩⟩
theorem zFj(a:EI W)(h:x∈oldM W m):∃i,i<W.pn/\x∈CB W (AA W i):=by
 obtain⟨j,b,c⟩:=N3 h;have:=a.Aq.ER.pos j b.1;exact XV a ((W.A3 j).id.toNat+1) j b.1 (by omega) c
variable{y:Int×Int}
theorem EI.apart'(b:EI W){j:Nat}(hi:i<memN W)(f:j<memN W)(a:i≠j)(c:x∈CB W (AA W i))(d:y∈CB W (AA W j)):x.1≠y.1:=by
 rcases Nat.lt_or_gt_of_ne a with h | h
 ·exact fun e=>b.Bn j f i h y d x c e.symm
 ·exact b.Bn i hi j h x c y d
theorem VW(b:EI W){k:Nat}(j:k<W.sn)(e:x∈CB W (AA W (W.pn+k))){m:Nat}(f:m<memN W)(c:m≠W.pn+k)(g:y∈treeM W (AA W m)):x.1≠y.1:=by
 have a:W.pn+k<memN W:=by unfold memN;omega
 by_cases d:y∈oldM W (AA W m)
 ·obtain⟨i,hi,h⟩:=zFj b d;exact b.apart' a (by unfold memN;omega) (by omega) e h
 ·exact b.apart' a f (Ne.symm c) e (Gx.2 ⟨g,d⟩)
end
theorem zDG(v0 v1:Value)(lo hi:Nat)(p:A7)(xs xb:Int)(w:World)(Y:CD w lo hi v0 v1 p)(hn:Ap p<=1048576) :
 Calls Tryz.prog 135 #[.agg #[v0,v1],.agg #[A0 xs,A0 xb]] w (PK (JK p xs xb) w):=by
 have K:=AT Y;obtain⟨a,c,a',c',rfl,rfl⟩:=Y.form;have Hn:=AT hn;have pC:p.hn<=1048576:=(by unfold Ap at hn;omega);have rA:p.n<=1048576:=(by unfold Ap at hn;omega);have mA:Hid (∀j,j<p.n->(p.s j).kn<=1048576):=fun j hj=>by have h2:=Tw p.s hj;unfold Ce at h2;unfold Ap at hn;omega
 have aD:p.hn<=c':=(by obtain⟨_,⟨_,_,_,e,h,_⟩⟩:=Y;simp only[Value.slice.injEq,true_and]at e;omega);have fA:=zIT w (.slice a p.n c) (.slice a' p.hn c') (A0 xs) (A0 xb) 26 38 117;obtain⟨i0,eA,X⟩:=Option.map_eq_some_iff.1 XZ;simp only[Prod.mk.injEq]at X;have O:=AT (And.intro eA X);clear Y hn eA X;go_enter Tryz.func135,Tryz.ntmps135;go_wp2_with fail;generalize ((w.alloc (.cells #[.slice a p.n c,.slice a' p.hn c'] 26)).alloc (.cells #[A0 xs,A0 xb] 38)).alloc (.cells #[A5,A5,A0 0,A0 0,A0 0] 117)=W at fA ⊢;obtain⟨hB,hX,hR,U,hz⟩:=fA;refine(MR _ _ lo hi p _ (K.out.A1 U)).mono ?_;rintro e w1 ⟨⟨t,rfl,x⟩,A⟩;have S:=AT (hB.A1 A);have T:=AT (hX.A1 A);have I:=AT (hR.A1 A);have L:=A9 U A;have vA:w.heap.size+3<=w1.heap.size:=(by have:=A.size;omega);clear hB hX hR U A hz;by_cases z:AZ p
 · have y:=AT z
   obtain rfl:t=true:=x.2 z;clear x z;obtain⟨⟨x0,x1⟩,⟨x2,x3⟩⟩:=S.out;obtain⟨⟨y0,y1⟩,⟨y2,y3⟩⟩:=T.out;go_wp2_with fail;refine(O5 _ p.n lo hi p.s _ _ _ (K.out.1.A1 L)).mono ?_;rintro e w2 ⟨⟨t,rfl,x⟩,C⟩;rw[O6 y.out]at x;have F:=AT (S.out.A1 C);have J:=AT (T.out.A1 C);have q:=AT (I.out.A1 C);have r:=A9 L C;have tC:w.heap.size+3<=w2.heap.size:=(by have:=C.size;omega);clear C L S T I vA x0 x1 x2 x3 y0 y1 y2 y3;by_cases hP:B8 p xs xb
   · have HP:=AT hP
     obtain rfl:t=true:=x.2 hP;clear x hP;obtain⟨⟨x0,x1⟩,⟨x2,x3⟩⟩:=F.out;obtain⟨⟨y0,y1⟩,⟨y2,y3⟩⟩:=J.out;go_wp2_with fail;refine(Oc _ p.hn lo hi p.h _ _ (K.out.2.A1 r)).mono ?_;rintro e Q ⟨⟨t,rfl,x⟩,tA⟩;subst tA;by_cases Z:Has p.hn p.h xs
     · have HH:=AT Z
       obtain rfl:t=true:=x.2 Z;clear x Z;obtain⟨⟨u0,u1⟩,⟨u2,u3⟩,⟨u4,u5⟩,⟨u6,u7⟩,⟨u8,u9⟩⟩:=q.out;go_wp2;have b:=q.out.put (A5) (A5) (A0 0) (A0 0) (A0 4);have m:=Jh (R:=w.heap.size+1+1) (u2:=A0 0) (u3:=A0 0) (u4:=A0 4) (by omega) r;rw[XU y.out (fun h=>h.2 HH.out)];exact bodyPost_ret (v:=.agg #[A5,A5,A0 0,A0 0,A0 4]) (by simp[results,Tryz.results135,go_sem,b.1.1,b.2.1.1,b.2.2.1.1,b.2.2.2.1.1,b.2.2.2.2.1]) rfl ⟨_,_,rfl,m.1,m.2⟩
     · have HH:=AT Z
       obtain rfl:t=false:=BQ x Z;clear x Z;obtain⟨⟨u0,u1⟩,⟨u2,u3⟩,⟨u4,u5⟩,⟨u6,u7⟩,⟨u8,u9⟩⟩:=q.out;have vB:(p.hn:Int)<=(c':Int):=(by omega);have n0:w.heap.size+1+1≠w.heap.size:=(by omega);have n1:w.heap.size+1+1≠w.heap.size+1:=(by omega);go_wp2_with fail;go_region_held3 (fun w'=>w'.cell? ⟨w.heap.size,0,none⟩=some (.slice a p.n c)/\w'.cell? ⟨w.heap.size,1,none⟩=some (.slice a' p.hn c')/\w'.cell? ⟨w.heap.size+1,0,none⟩=some (A0 xs)) (go_keep)
        (first
          | (go_at_call 156;refine(ZM _ p.n lo hi p.s _ ?_ rA mA.out).mono ?_;(first | exact K.out.1.A1 r.drew | exact K.out.1.A1 (A9 r (AB _ _)).drew);rintro e E ⟨v5,bs,kb,kv,rfl,V,P,H,N⟩;obtain⟨_,sa,gA,rfl,_⟩:=id V;(first | (have sA:E.cell? ⟨Q.heap.size,0,none⟩=some (A0 xs):=((Az (i:=0) (v:=A0 xs) (heap_alloc_new Q (.cells #[A0 xs] 2)) rfl).A1 (Cp N)).1) | skip);have g:Below Q.heap.size Q E:=(by first | exact Cp N | exact A9 (AB _ _) (Cp N));have u:∀k,FY bs kb p.n p.s k->Q.heap.size<=k/\k<E.heap.size:=(by first | exact H | exact fun k hk=>(by have:=H k hk;simp at this;omega));have z0:=(F.out.A1 g).1.1;have z1:=(F.out.A1 g).2.1;have z2:=(J.out.A1 g).1.1)
          | (refine step_append_grows rfl (.tmp 33) (.tmp 36) 24 rfl 2 i0 (A0 0) 1 8 (by kernel_rfl) O.out.1 O.out.2.1 O.out.2.2.1 O.out.2.2.2 rfl (by decide) a' p.hn p.hn (ic p.h p.hn) (by simp[Act.eval]) (Uw K.out.2) (Il _ _) (TK K.out.2 (A9 r (A9 g (AB E _)))) ⟨E.heap.size,0,none⟩ 1 1 [A0 xs] (by simp[Act.eval]) rfl (zIn _ _ _) (yz _) (by omega) (by unfold maxLen;omega) (by omega) ?_
             intro v6 w6 f l;obtain⟨a6,c6,rfl,_⟩:=Bw f;have D:Below E.heap.size E w6:=A9 (AB E _) (Rb l);have o:w6.ownsRow E.heap.size 2 1 (.slice a6 (p.hn+1) c6) (p.hn+1) (ic p.h p.hn ++ [A0 xs]):=Nd f (by simp);have d:=A9 g D;obtain⟨⟨p0,p1⟩,⟨p2,p3⟩⟩:=F.out.A1 d;obtain⟨⟨p4,p5⟩,⟨p6,p7⟩⟩:=J.out.A1 d;obtain⟨⟨p8,p9⟩,⟨aB,bB⟩,⟨cB,eB⟩,⟨fB,gB⟩,⟨iB,jB⟩⟩:=q.out.A1 d;clear f l)
          | (refine step_append_grows rfl (.tmp 33) (.tmp 36) 24 rfl 2 i0 (A0 0) 1 8 (by kernel_rfl) O.out.1 O.out.2.1 O.out.2.2.1 O.out.2.2.2 rfl (by decide) a' p.hn p.hn (ic p.h p.hn) (by simp[Act.eval]) (Uw K.out.2) (Il _ _) (TK K.out.2 (A9 r g)) ⟨Q.heap.size,0,none⟩ 1 1 [A0 xs] (by simp[Act.eval]) rfl (zFd sA) (yz _) (by omega) (by unfold maxLen;omega) (by omega) ?_
             intro v6 w6 f l;obtain⟨a6,c6,rfl,_⟩:=Bw f;have D:Below E.heap.size E w6:=Rb l;have o:w6.ownsRow E.heap.size 2 1 (.slice a6 (p.hn+1) c6) (p.hn+1) (ic p.h p.hn ++ [A0 xs]):=Nd f (by simp);have d:=A9 g D;obtain⟨⟨p0,p1⟩,⟨p2,p3⟩⟩:=F.out.A1 d;obtain⟨⟨p4,p5⟩,⟨p6,p7⟩⟩:=J.out.A1 d;obtain⟨⟨p8,p9⟩,⟨aB,bB⟩,⟨cB,eB⟩,⟨fB,gB⟩,⟨iB,jB⟩⟩:=q.out.A1 d;clear f l))
       all_goals
        have nA:=AT (zDr (p:=CQ p xs) (B:=Q.heap.size) (M:=Q.heap.size) (V.A1 D) P (fun k hk=>by have:=u k hk;have:=D.size;omega) (by show p.hn+1<=maxLen;unfold maxLen;omega) (by rw[<-zGE]at o;exact o) (fun k e=>by
         have Y:=o.lt k e;refine⟨by have:=g.size;omega,Or.inr (Or.inr ⟨Y.2,fun hx=>?_⟩)⟩;have:=u k hx;omega) (Nat.le_refl _) (fun e=>absurd e (Nat.succ_ne_zero _)))
        have lA:=AT (q.out.A1 d);have oA:=A9 r d;clear V P H u N g D d o;go_wp2;have G:=lA.out.put (.slice sa p.n gA) (.slice a6 (p.hn+1) c6) (A0 0) (A0 0) (A0 0);have m:=NK (R:=w.heap.size+1+1) (u2:=A0 0) (u3:=A0 0) (u4:=A0 0) nA.out (by omega) (by omega) (Nat.le_refl _) oA;rw[TU y.out HP.out HH.out];exact bodyPost_ret (v:=.agg #[.slice sa p.n gA,.slice a6 (p.hn+1) c6,A0 0,A0 0,A0 0]) (by simp[results,Tryz.results135,go_sem,G.1.1,G.2.1.1,G.2.2.1.1,G.2.2.2.1.1,G.2.2.2.2.1]) rfl ⟨_,_,rfl,m.1,m.2⟩
   · have HP:=AT hP
     obtain rfl:t=false:=BQ x hP;clear x hP;obtain⟨⟨u0,u1⟩,⟨u2,u3⟩,⟨u4,u5⟩,⟨u6,u7⟩,⟨u8,u9⟩⟩:=q.out;go_wp2;have b:=q.out.put (A5) (A5) (A0 0) (A0 0) (A0 4);have m:=Jh (R:=w.heap.size+1+1) (u2:=A0 0) (u3:=A0 0) (u4:=A0 4) (by omega) r;rw[XU y.out (fun h=>HP.out h.1)];exact bodyPost_ret (v:=.agg #[A5,A5,A0 0,A0 0,A0 4]) (by simp[results,Tryz.results135,go_sem,b.1.1,b.2.1.1,b.2.2.1.1,b.2.2.2.1.1,b.2.2.2.2.1]) rfl ⟨_,_,rfl,m.1,m.2⟩
 · have y:=AT z
   obtain rfl:t=false:=BQ x z;clear x z;obtain⟨⟨u0,u1⟩,⟨u2,u3⟩,⟨u4,u5⟩,⟨u6,u7⟩,⟨u8,u9⟩⟩:=I.out;go_wp2;have b:=I.out.put (A5) (A5) (A0 0) (A0 0) (A0 1);have m:=Jh (R:=w.heap.size+1+1) (u2:=A0 0) (u3:=A0 0) (u4:=A0 1) (by omega) L;rw[zq y.out];exact bodyPost_ret (v:=.agg #[A5,A5,A0 0,A0 0,A0 1]) (by simp[results,Tryz.results135,go_sem,b.1.1,b.2.1.1,b.2.2.1.1,b.2.2.2.1.1,b.2.2.2.2.1]) rfl ⟨_,_,rfl,m.1,m.2⟩
theorem ze(d v1:Value)(a b c:Int)(w:World):(Instr.field 117 (.agg #[d,v1,A0 a,A0 b,A0 c]) 0).run Tryz.prog w = .ok (.agg #[d,v1]) w:=by kernel_rfl
theorem zAU(C lo hi:Nat)(z0 z1 z2 z3 u8:Value)(tm V id m:Int)(p q:A7)(x:Int×Int)(w:World)(N:Bb w C z0 z1 (A0 tm) (A0 V) z2 z3 (A0 id) (A0 m) u8)(O:CD w lo hi z0 z1 p)(hn:Ap p<=1048576)(hh:JK p x.1 x.2=⟨q,0,0,0⟩)(hm:0<=m)(lA:m<=1000000) :
 Calls Tryz.prog 74 #[.pointer (some ⟨C,0,none⟩),.agg #[A0 x.1,A0 x.2]] w fun e w'=>(∃v,e = .returned v)/\∃Y Z,Bb w' C Y Z (A0 tm) (A0 V) z2 z3 (A0 id) (A0 (m+1)) u8/\Bq w' w.heap.size w'.heap.size Y Z q/\AC (fun j=>j=C) w w':=by
 obtain⟨a0,c0,a1,c1,rfl,rfl⟩:=O.form;have kA:=N.1.lt;have r:=AB w (.cells #[A0 x.1,A0 x.2] 38);have M:=A4 (Ad.new w (A0 x.1) (A0 x.2) 38);have L:=A4 (N.A1 r);have mA:IntKind.i64.wrap (m+1)=m+1:=by first | exact wrap_small (by omega) (by omega) | exact wrap_small _ (by omega) (by omega)
 have U:(w.alloc (.cells #[A0 x.1,A0 x.2] 38)).heap.size=w.heap.size+1:=World.size_alloc _ _;have f:=A4 (show ∀w',Below (w.alloc (.cells #[A0 x.1,A0 x.2] 38)).heap.size (w.alloc (.cells #[A0 x.1,A0 x.2] 38)) w'->Calls Tryz.prog 135 #[.agg #[.slice a0 p.n c0,.slice a1 p.hn c1],.agg #[A0 x.1,A0 x.2]] w' fun e B=>∃c d g i,e = .returned (.agg #[.slice c q.n d,.slice g q.hn i,A0 0,A0 0,A0 0])/\Bq B w'.heap.size B.heap.size (.slice c q.n d) (.slice g q.hn i) q/\Below w'.heap.size w' B from fun w' P=>by
  refine(zDG _ _ lo hi p x.1 x.2 w' ((O.A1 r).A1 P) hn).mono ?_;rw[hh];rintro e w2 ⟨Y,Z,rfl,ho,Q⟩;obtain⟨c,d,g,i,rfl,rfl⟩:=ho.at.form;exact⟨c,d,g,i,rfl,ho,Q⟩)
 clear O hh N hn;go_enter Tryz.func74,Tryz.ntmps74;go_wp2_with fail;generalize w.alloc (.cells #[A0 x.1,A0 x.2] 38)=u at r M L U f ⊢;have s:Below u.heap.size u u.drew:=(Below.refl _ _).drew;have y:=A4 (show ∀w',Below u.drew.heap.size u.drew w'->(fun w':World=>w'.cell? ⟨w.heap.size,0,none⟩=some (A0 x.1)/\w'.cell? ⟨w.heap.size,1,none⟩=some (A0 x.2)) w' from fun w' hb=>by
  have h:=(M.out.A1 s).A1 hb;exact⟨h.1.1,h.2.1⟩)
 obtain⟨⟨x0,-⟩,⟨x1,-⟩,-⟩:=L.out.A1 s;refine wp_region_held_drew (S:=(fun w':World=>w'.cell? ⟨w.heap.size,0,none⟩=some (A0 x.1)/\w'.cell? ⟨w.heap.size,1,none⟩=some (A0 x.2))) (by kernel_rfl) (y.out _ (Below.refl _ _)) (fun hHeld=>?_);have t:=s;generalize u.drew=q0 at hHeld y x0 x1 s t ⊢;refine tk 0 (h:=tk 1 (h:=tk 2 (h:=tk 3 (h:=tk 4 (h:=tk 6 (h:=?_))))));refine rd [5] (rc (fun K hK=>?_) .nil);go_simp
 (try go_wp2_with fail)
 refine hK.out _ _ (y.out _ (Below.refl _ _)) ?_;clear hK K;intro hHeld
 try simp only[Act.put,s1,s2,s3]
 refine rd [7] (rc (fun K hK=>?_) .nil);go_simp;go_at_call 135;refine(f.out q0 t).mono ?_;rintro e D ⟨c,d,g,i,rfl,H,J⟩;have E:=A4 H;have l:Below u.heap.size u D:=A9 t J;have a:=A4 (L.out.A1 l);have o:=A4 (M.out.A1 l);clear H
 (try go_wp2_with fail)
 refine hK.out _ _ ⟨o.out.1.1,o.out.2.1⟩ ?_;clear hK K hHeld;intro hHeld
 try simp only[Act.put,s1,s2,s3]
 have T:=ze (.slice c q.n d) (.slice g q.hn i) 0 0 0;refine tk 8 (h:=tk 9 (h:=tk 10 (h:=tk 11 (h:=?_))));refine rd [12] (rc (fun K hK=>?_) .nil);obtain⟨⟨t0,W⟩,⟨t1,X⟩,-⟩:=a.out;go_simp
 (try go_wp2_with fail)
 have I:=(AC.put D C 0 (.slice c q.n d)).trans (AC.put (D.setCell ⟨C,0,none⟩ (.slice c q.n d)) C 1 (.slice g q.hn i));have A:=o.out.AD I (fun h=>by omega);refine hK.out _ _ ⟨A.1.1,A.2.1⟩ ?_;clear hK K hHeld t0 W t1 X;intro hHeld
 try simp only[Act.put,s1,s2,s3]
 refine wpAnyH_done (by kernel_rfl) ?_ _;have b:=A4 (show Bb ((D.setCell ⟨C,0,none⟩ (.slice c q.n d)).setCell ⟨C,1,none⟩ (.slice g q.hn i)) C (.slice c q.n d) (.slice g q.hn i) (A0 tm) (A0 V) z2 z3 (A0 id) (A0 m) u8 from⟨(a.out.1.set _).other _ (Or.inr (by decide)),(a.out.2.1.other _ (Or.inr (by decide))).set _,(a.out.2.2.1.other _ (Or.inr (by decide))).other _ (Or.inr (by decide)),(a.out.2.2.2.1.other _ (Or.inr (by decide))).other _ (Or.inr (by decide)),(a.out.2.2.2.2.1.other _ (Or.inr (by decide))).other _ (Or.inr (by decide)),(a.out.2.2.2.2.2.1.other _ (Or.inr (by decide))).other _ (Or.inr (by decide)),(a.out.2.2.2.2.2.2.1.other _ (Or.inr (by decide))).other _ (Or.inr (by decide)),(a.out.2.2.2.2.2.2.2.1.other _ (Or.inr (by decide))).other _ (Or.inr (by decide)),(a.out.2.2.2.2.2.2.2.2.other _ (Or.inr (by decide))).other _ (Or.inr (by decide))⟩);have R:Below w.heap.size w D:=A9 r l;have G:=A4 (show AC (fun j=>j=C) w ((D.setCell ⟨C,0,none⟩ (.slice c q.n d)).setCell ⟨C,1,none⟩ (.slice g q.hn i))from(AC.EF R).trans I);have oA:=J.size;have nA:=t.size;have F:=A4 ((E.out.AD I (fun k e=>by omega)).wide (show w.heap.size<=q0.heap.size by omega) I.size);clear A I T a o E;generalize ((D.setCell ⟨C,0,none⟩ (.slice c q.n d)).setCell ⟨C,1,none⟩ (.slice g q.hn i))=w4 at b G F ⊢;obtain⟨y7,vA⟩:=b.out.2.2.2.2.2.2.2.1;go_wp2_with fail;have z:=AC.put w4 C 7 (A0 (m+1));go_end0;refine⟨⟨_,rfl⟩,_,_,⟨b.out.1.other _ (Or.inr (by decide)),b.out.2.1.other _ (Or.inr (by decide)),b.out.2.2.1.other _ (Or.inr (by decide)),b.out.2.2.2.1.other _ (Or.inr (by decide)),b.out.2.2.2.2.1.other _ (Or.inr (by decide)),b.out.2.2.2.2.2.1.other _ (Or.inr (by decide)),b.out.2.2.2.2.2.2.1.other _ (Or.inr (by decide)),b.out.2.2.2.2.2.2.2.1.set _,b.out.2.2.2.2.2.2.2.2.other _ (Or.inr (by decide))⟩,?_,G.out.trans z⟩;exact(F.out.AD z (fun k e=>by omega)).wide (Nat.le_refl _) z.size
theorem zJ(C lo hi n:Nat)(P:Nat->Prop)(z0 z1 z2 z3 u8 v:Value)(tm nx id m t:Int)(p:A7)(f g:Nat->Int)(w:World)(hv:BG w lo hi v n f g)(z:Cf n f g)(ht:FZ t)(hH:CT p (Bl f g t n))(hC:Bb w C z0 z1 (A0 tm) (A0 nx) z2 z3 (A0 id) (A0 m) u8)(hP:DJ w P z0 z1 p)(mA:∀k,P k->C<k/\k<w.heap.size)(hm:0<=m)(rB:m<=900000) :
 Calls Tryz.prog 72 #[v,A0 t,.func (.func 74) #[.pointer (some ⟨C,0,none⟩)] #[]] w fun e w'=>∃A B D,e = .returned A/\Ax w' w.heap.size A (C6 f g t n)/\Bb w' C B D (A0 tm) (A0 nx) z2 z3 (A0 id) (A0 (m+((Bl f g t n).length:Int))) u8/\DJ w' (fun j=>P j\/(w.heap.size<=j/\j<w'.heap.size)) B D (BJ p (Bl f g t n))/\AC (fun j=>j=C) w w':=by
 have pB:=hC.1.lt;have W:(Bl f g t n).length<=200:=by have:=Kq f g t n;have:=z.1;omega
 have Y:=A4 (show Calls Tryz.prog 131 #[v,A0 t] w fun e w'=>∃X A,e = .returned (.agg #[X,A])/\Ig (Bl f g t n) (C6 f g t n) w w' X A by
  refine(RX v n lo hi f g t w hv).mono ?_;rintro e I ⟨X,A,l,l',rfl,hy,ho,hr⟩;rw[hy.1 ⟨z,ht⟩,ho.1 ⟨z,ht⟩]at hr;exact⟨X,A,rfl,hr⟩)
 have HC:=A4 hC;have HP:=A4 hP;have HH:=A4 hH;obtain⟨-,av,cv,rfl,-,-⟩:=(show BG w lo hi v n f g from hv);clear hv z ht hC hP hH;generalize Bl f g t n=l at Y HH W ⊢;generalize C6 f g t n=l' at Y ⊢;go_enter Tryz.func72,Tryz.ntmps72;go_wp2_with fail;refine Y.out.mono ?_;clear Y;rintro e I ⟨X,A,rfl,G,H,-,U⟩;obtain⟨ay,cy,rfl,-⟩:=Bw G;obtain⟨Z,co,rfl,-⟩:=Bw H;obtain⟨bo,o,V⟩:=G.own (by unfold maxLen;omega);have x:=AB I (.cells #[.slice ay l.length cy,.slice Z l'.length co] 174);have HX:=A4 (Ad.new I (.slice ay l.length cy) (.slice Z l'.length co) 174);have y:=A9 U x;have J:=A4 (HC.out.A1 y);have M:=A4 (HP.out.A1 y);have F:=A4 (Ax.A1 H x);have L:=A4 (o.A1 x);have kA:=A4 V;have aC:=U.size;have oA:(I.alloc (.cells #[.slice ay l.length cy,.slice Z l'.length co] 174)).heap.size=I.heap.size+1:=World.size_alloc _ _;obtain⟨⟨x0,-⟩,⟨x1,-⟩⟩:=HX.out;clear G H o V HC HP;go_wp2_with fail;clear x0 x1;generalize I.alloc (.cells #[.slice ay l.length cy,.slice Z l'.length co] 174)=w2 at x HX y J M F L oA ⊢
 go_loopw [16] (fun i wr=>∃(k:Nat) (B D:Value),k<=l.length/\i=A0 k/\Bb wr C B D (A0 tm) (A0 nx) z2 z3 (A0 id) (A0 (m+(k:Int))) u8/\DJ wr (fun j=>P j\/(w.heap.size<=j/\j<wr.heap.size)) B D (BJ p (l.take k))/\AC (fun j=>j=C) w2 wr) (fun i _=>l.length - (intOf i).toNat)
 case atStart=>exact⟨0,_,_,Nat.zero_le _,rfl,by simpa using J.out,M.out.mono (fun j h=>Or.inl h),AC.refl _ _⟩
 case round=>
  obtain⟨k,B,D,hk,rfl,Q,S,u⟩:=hrel;have K:=A4 Q;have E:=A4 S;have b:=A4 u;have dC:=u.size;have hX:=HX.out.AD u (fun h=>by omega);obtain⟨⟨x0,-⟩,⟨x1,-⟩⟩:=hX;clear Q S u;by_cases s:k<l.length
  ·have gB:(k:Int)<(l.length:Int):=(by omega);have o:=L.out.AD b.out (fun h0 e=>by
    obtain⟨_,h,_⟩:=kA.out h0;omega)
   obtain⟨_,a,c,e1,_,hx⟩:=o;obtain⟨off,rfl,r⟩:=hx (by omega);simp only[Value.slice.injEq,true_and]at e1;obtain⟨rfl,rfl⟩:=e1;obtain⟨⟨q0,-⟩,⟨q1,-⟩⟩:=r k s;have hn:=HH.out.next s;have e0:l[k]=(AN l k,AP l k):=by
    unfold AN AP;rw[List.getD_eq_getElem?_getD,List.getElem?_eq_getElem s];rfl
   rw[e0]at hn;have HN:=A4 hn;clear hn e0 r hx;have d:=AB wr (.cells #[A0 (AN l k),A0 (AP l k)] 38);obtain⟨⟨r0,-⟩,⟨r1,-⟩⟩:=Ad.new wr (A0 (AN l k)) (A0 (AP l k)) 38;go_wp2_with fail;have bC:=d.size;refine(zAU C 0 wr.heap.size B D z2 z3 u8 tm nx id (m+(k:Int)) (BJ p (l.take k)) (BJ p (l.take (k+1))) (AN l k,AP l k) _ (K.out.A1 d) (((E.out.at (lo:=0) (hi:=wr.heap.size) (fun j h=>⟨Nat.zero_le _,by
    rcases h with h | h
    ·have:=mA j h;omega
    ·omega⟩))).A1 d) (by have:=Kz HN.out.2;omega) HN.out.1 (by omega) (by omega)).mono ?_
   rintro e w4 ⟨⟨ve,rfl⟩,t0,t1,O,R,T⟩;have gA:=A4 O;have iA:=A4 R;have N:=A4 T;clear r0 r1 q0 q1 x0 x1 O R T;go_wp2_with fail;go_roundw
   case rel=>
    have cC:=N.out.size;refine⟨k+1,t0,t1,by omega,by go_num,?_,iA.out.isIn (fun j h1 h2=>Or.inr ⟨by omega,h2⟩),b.out.trans ((AC.EF d).trans N.out)⟩;have e:m+((k+1:Nat):Int)=m+(k:Int)+1:=(by omega);rw[e];exact gA.out
   case measure=>simp[intOf];omega
  ·obtain rfl:k=l.length:=(by omega);go_wp2_with fail;rw[List.take_length]at E;go_ret;refine⟨_,B,D,rfl,?_,K.out,E.out,((AC.EF y).trans b.out)⟩;exact F.out.AD (row:=some C) ⟨b.out.os,b.out.tape,b.out.output,b.out.size,fun k hk hn=>b.out.block k hk (fun e=>hn (by rw[e]))⟩ (fun q hq e=>by
    injection e with e;have:=Ax.lt F.out hq;omega)
theorem zBi(v:Value)(s:Aa)(w:World):(Instr.field 41 (.agg #[A0 s.id,.string s.name,.string s.set,A0 s.A8,A0 s.time,A0 s.rs,A0 s.rb,v]) 4).run Tryz.prog w = .ok (A0 s.time) w:=by kernel_rfl
theorem zC0(C lo hi:Nat)(u y z D u6 u7 u8:Value)(W:A6)(x:Int)(w:World)(h:C7 w lo hi u y z D W)(q:Bb w C u y (A0 W.time) (A0 W.next) z D u6 u7 u8)(hn:W.pn<=20)(i:Mm W.pn W.A3)(r:Hj W)(t:(Lit.int .i64 x).wf=true) :
 Calls Tryz.prog 73 #[.pointer (some ⟨C,0,none⟩),A0 x] w fun e w'=>∃a c,e = .returned (DI (.slice a (AI W x).dn c) (AI W x))/\Below w.heap.size w w':=by
 have H:=A4 h;obtain⟨l0,R,l1,T,l2,U,l3,V,rfl,rfl,rfl,rfl⟩:=h.form;have F:=A4 r;have l:=A4 i;have I:=A4 t;have j:=AB w (.cells #[A0 0,.string ⟨#[]⟩,.string ⟨#[]⟩,A0 0,A0 0,A0 0,A0 0,A5] 41);obtain⟨⟨x0,-⟩,⟨x1,-⟩,⟨x2,-⟩,⟨x3,-⟩,⟨x4,-⟩,⟨x5,-⟩,-⟩:=q.A1 j;have o:=A4 (DX.new w (A0 0) (.string ⟨#[]⟩) (.string ⟨#[]⟩) (A0 0) (A0 0) (A0 0) (A0 0) (A5) 41);clear h r i t q;obtain⟨S,m⟩:∃S,S=AI W x:=⟨_,rfl⟩;rw[<-m];unfold DI;have G:=A4 m;clear m;go_enter Tryz.func73,Tryz.ntmps73;go_wp2_with fail;clear x0 x1 x2 x3 x4 x5;generalize w.alloc (.cells #[A0 0,.string ⟨#[]⟩,.string ⟨#[]⟩,A0 0,A0 0,A0 0,A0 0,A5] 41)=W1 at j o ⊢;refine(Yc _ _ _ _ lo hi W W1 (H.out.A1 j) hn l.out).mono ?_;rintro e w2 ⟨A,rfl,p,f⟩;have E:=A4 p;clear p;go_wp2_with fail;refine(Jo lo hi W A x w2 E.out F.out I.out hn).mono ?_;rw[<-G.out];unfold DI;rintro e w3 ⟨a,c,rfl,n,g⟩;have s:=A9 (A9 j f) g;have d:=A4 ((o.out.A1 f).A1 g);clear n;obtain⟨⟨⟨r0,g0⟩,⟨r1,J⟩,⟨X,K⟩,⟨Y,L⟩⟩,⟨Z,M⟩,⟨r5,N⟩,⟨r6,O⟩,⟨r7,P⟩⟩:=d.out;go_wp2_with fail;have b:=d.out.put (A0 S.id) (.string S.name) (.string S.set) (A0 S.A8) (A0 S.time) (A0 S.rs) (A0 S.rb) (.slice a S.dn c);have Q:=AC.put8 w3 w.heap.size (A0 S.id) (.string S.name) (.string S.set) (A0 S.A8) (A0 S.time) (A0 S.rs) (A0 S.rb) (.slice a S.dn c);clear r0 g0 r1 J X K Y L Z M r5 N r6 O r7 P;refine bodyPost_ret (v:=.agg #[A0 S.id,.string S.name,.string S.set,A0 S.A8,A0 S.time,A0 S.rs,A0 S.rb,.slice a S.dn c]) (by simp[results,Tryz.results73,go_sem,b.1.1.1,b.1.2.1.1,b.1.2.2.1.1,b.1.2.2.2.1,b.2.1.1,b.2.2.1.1,b.2.2.2.1.1,b.2.2.2.2.1]) rfl ⟨a,c,rfl,?_⟩
 ·exact s.trans (Q.A1 (B:=w.heap.size) s.size (fun k e=>by omega))
theorem zF(l:List (Int×Int)):BR l l = []:=List.filter_eq_nil_iff.2 fun x a=>by simp[a]
theorem zDt(f g h i:Nat->Int):F6 0 f g 0 h i:=⟨⟨Nat.zero_le _,fun i hi=>absurd hi (Nat.not_lt_zero _),fun i hi=>absurd hi (Nat.not_lt_zero _)⟩,⟨Nat.zero_le _,fun i hi=>absurd hi (Nat.not_lt_zero _),fun i hi=>absurd hi (Nat.not_lt_zero _)⟩,rfl,fun i hi=>absurd hi (Nat.not_lt_zero _)⟩
theorem zBO(c:V.pn=W.pn)(hs:V.A3=W.A3)(x:Int):AI V x=AI W x:=by
 have hn:∀k,BW V x k↔BW W x k:=fun k=>by unfold BW;rw[c,hs]
 by_cases b:∃k,BW W x k
 ·obtain⟨k,a⟩:=b;rw[DW a,DW ((hn k).2 a),hs]
 ·unfold AI;rw[dif_neg b,dif_neg fun ⟨k,a⟩=>b ⟨k,(hn k).1 a⟩]
section
variable {W : A6}
def Da(W:A6)(k:Nat)(r b:Int)(n:Nat)(f g:Nat->Int):A6:={W with A2:=fun j=>if j=k then {W.A2 k with rs:=r,rb:=b,dn:=n,ds:=f,db:=g}else W.A2 j}
variable{k n:Nat}{r b:Int}{f g:Nat->Int}
theorem La(h:i≠W.pn+k):AA (Da W k r b n f g) i=AA W i:=by
 by_cases a:i<W.pn
 ·rw[CH a];exact CH a
 ·obtain⟨j,rfl⟩:∃j,i=W.pn+j:=⟨i - W.pn,by omega⟩;rw[C4];refine(C4 (Da W k r b n f g) j).trans ?_;show L3 W.time (if j=k then _ else W.A2 j)=_;rw[if_neg (by omega)]
theorem LO:AA (Da W k r b n f g) (W.pn+k)=⟨(W.A2 k).A8,W.time,r,b,n,f,g⟩:=by
 refine(C4 (Da W k r b n f g) k).trans ?_;show L3 W.time (if k=k then _ else W.A2 k)=_;rw[if_pos rfl];rfl
theorem Qe(x:Int):AI (Da W k r b n f g) x=AI W x:=zBO rfl rfl x
theorem NR(m:Cq):oldM (Da W k r b n f g) m=oldM W m:=by unfold oldM;rw[Qe];rfl
theorem EI.root(p:EI W)(Z:k<W.sn)(R:B3 W.pool r b)(Q:E6 n f g (BR (oldM W (AA W (W.pn+k))) (AG W.pool r b)))
 (P:F3 (AG W.pool r b) (oldM W (AA W (W.pn+k))) (AI W (W.A2 k).A8).time W.time) (C:∀x,x∈AG W.pool r b->x∉oldM W (AA W (W.pn+k))->∀m,m<memN W->m≠W.pn+k->∀y,y∈CB W (AA W m)->x.1≠y.1):EI (Da W k r b n f g):=by
 have l:oldM (Da W k r b n f g) ⟨(W.A2 k).A8,W.time,r,b,n,f,g⟩=oldM W (AA W (W.pn+k)):=by rw[NR,C4];rfl
 have a:∀i,i<memN W->(i≠W.pn+k->DU W i)->DU (Da W k r b n f g) i:=fun i hi h=>by
  by_cases e:i=W.pn+k
  ·subst e;unfold DU;rw[LO,l];exact Q
  ·unfold DU;rw[La e,NR];exact h e
 have s:∀i,((Da W k r b n f g).A2 i).name=(W.A2 i).name/\((Da W k r b n f g).A2 i).A8=(W.A2 i).A8/\((Da W k r b n f g).A2 i).origin=(W.A2 i).origin:=fun i=>by
  show(if i=k then _ else W.A2 i:Ab).name=_/\(if i=k then _ else W.A2 i:Ab).A8=_/\(if i=k then _ else W.A2 i:Ab).origin=_;by_cases e:i=k
  ·subst e;rw[if_pos rfl];exact⟨rfl,rfl,rfl⟩
  ·rw[if_neg e];exact⟨rfl,rfl,rfl⟩
 have v:∀x,BL (Da W k r b n f g) x↔BL W x:=fun x=>exists_congr fun j=>and_congr_right fun _=>by rw[(s j).1]
 have z:memN (Da W k r b n f g)=memN W:=rfl;have A:∀i,i<W.sn->W.pn+i<memN W:=fun i hi=>by unfold memN;omega
 refine⟨p.right,?_,fun i hi=>?_,p.A3,fun i hi=>⟨?_,a _ (A i hi) fun _=>(p.A2 i hi).2⟩,fun i hi=>a i (by unfold memN;have:i<W.pn:=hi;omega) fun _=>p.dead i hi,fun i hi=>?_,?_⟩
 ·obtain⟨D,E,F,G,H,I⟩:=p.Aq;refine⟨D,E,F,G,fun i hi=>?_,fun i hi=>?_⟩
  ·have q:=H i hi;unfold GJ at q ⊢;rw[(s i).1,(s i).2.1,(s i).2.2,(s (i - 1)).1];exact q
  ·obtain⟨⟨J,K,L,M,N,O⟩,c,d⟩:=I i hi;exact⟨⟨J,K,L,M,N,(v _).2 O⟩,c,d⟩
 ·rw[(s i).1,(s i).2.1,(s i).2.2];exact FA.same (W:=W) (V:=Da W k r b n f g) rfl rfl (p.lines i hi)
 ·by_cases e:i=k
  ·subst e;show B3 W.pool (if i=i then _ else W.A2 i:Ab).rs (if i=i then _ else W.A2 i:Ab).rb;rw[if_pos rfl];exact R
  ·show B3 W.pool (if i=k then _ else W.A2 i:Ab).rs (if i=k then _ else W.A2 i:Ab).rb;rw[if_neg e];exact(p.A2 i hi).1
 ·by_cases e:i=W.pn+k
  ·subst e;unfold EX;rw[LO,l];show F3 _ _ (AI (Da W k r b n f g) (W.A2 k).A8).time _;rw[Qe];exact P
  ·have q:=p.born i hi;unfold EX at q ⊢;rw[La e,NR,Qe];exact q
 ·have o:∀i,i≠W.pn+k->CB (Da W k r b n f g) (AA (Da W k r b n f g) i)=CB W (AA W i):=fun i e=>by
   unfold CB;rw[La e,NR];rfl
  have t:∀x,x∈CB (Da W k r b n f g) (AA (Da W k r b n f g) (W.pn+k))->x∈AG W.pool r b/\x∉oldM W (AA W (W.pn+k)):=fun x u=>by
   rw[LO]at u;have:=Gx.1 u;rw[l]at this;exact this
  intro i hi j S x u y w;by_cases e:i=W.pn+k
  ·subst e;obtain⟨T,U⟩:=t x u;rw[o j (by omega)]at w;exact C x T U j (by rw[z]at hi;omega) (by omega) y w
  ·rw[o i e]at u;by_cases B:j=W.pn+k
   ·subst B;obtain⟨X,Y⟩:=t y w;exact fun h=>C y X Y i hi e x u h.symm
   ·rw[o j B]at w;exact p.Bn i hi j S x u y w
theorem EI.deadOf(a:EI W)(hi:i<memN W):DU W i:=by
 by_cases b:i<W.pn
 ·exact a.dead i b
 ·obtain⟨j,rfl⟩:∃j,i=W.pn+j:=⟨i - W.pn,by omega⟩;exact(a.A2 j (by unfold memN at hi;omega)).2
end
section
variable {W V : A6} {k : Nat} {name : ByteArray}
variable{x:Int}
theorem N0(a:DD W)(h:x≠0->CK W x):x<W.next:=by
 by_cases e:x=0
 ·have:1<=W.next:=a.2.1.1;omega
 ·obtain⟨j,b,c⟩:=h e;have:=(a.2.2.2.2.2 j b).1.2.1;omega
theorem Ng(a:DD W)(hi:i<memN W):(AA W i).A8<W.next:=by
 by_cases b:i<W.pn
 ·rw[CH b];exact N0 a fun e=>((a.2.2.2.2.2 i b).2.1.2 e).2
 ·obtain⟨j,rfl⟩:∃j,i=W.pn+j:=⟨i - W.pn,by omega⟩;rw[C4];exact N0 a (a.2.2.2.2.1 j (by unfold memN at hi;omega)).2.2.1
structure Dy (W V:A6) (k:Nat) (name:ByteArray):Prop where
 pool:V.pool=W.pool
 time:V.time=W.time+1
 next:V.next=W.next+1
 sn:V.sn=W.sn
 pn:V.pn=W.pn+1
 old:∀j,j<W.pn->V.A3 j=W.A3 j
 new:V.A3 W.pn=Ed W k name (W.A2 k).name
 at':V.A2 k = {W.A2 k with A8:=W.next,dn:=0}
 rest:∀j,j≠k->V.A2 j=W.A2 j
theorem Dy.no(g:Dy W V k name)(f:DD W)(h:x<W.next)(j:Nat):BW V x j↔BW W x j:=by
 unfold BW;rw[g.pn];constructor
 ·rintro⟨c,a,b⟩;have d:j<W.pn:=by
   refine Nat.lt_of_le_of_ne (by omega) fun e=>?_
   subst e;rw[g.new]at a;have:W.next=x:=a;omega
  rw[g.old j d]at a;exact⟨d,a,fun i hi=>by rw[<-g.old i (by omega)];exact b i hi⟩
 ·rintro⟨c,a,b⟩;exact⟨by omega,by rw[g.old j c];exact a,fun i hi=>by rw[g.old i (by omega)];exact b i hi⟩
theorem Dy.noNew(g:Dy W V k name)(a:DD W):BW V W.next W.pn:=by
 refine⟨by rw[g.pn];omega,by rw[g.new];rfl,fun i hi=>?_⟩;rw[g.old i hi];have:=(a.2.2.2.2.2 i hi).1.2.1;omega
theorem Dy.ahead(g:Dy W V k name)(b:DD W)(c:x<W.next):AI V x=AI W x:=by
 by_cases h:∃j,BW W x j
 ·obtain⟨j,a⟩:=h;rw[DW a,DW ((g.no b c j).2 a),g.old j a.1]
 ·unfold AI;rw[dif_neg h,dif_neg fun ⟨j,a⟩=>h ⟨j,(g.no b c j).1 a⟩]
theorem Dy.aheadNew(g:Dy W V k name)(a:DD W):AI V W.next=Ed W k name (W.A2 k).name:=by rw[DW (g.noNew a),g.new]
theorem Dy.treeM(g:Dy W V k name)(m:Cq):treeM V m=Go.Proofs.YtddigaohmfpepaaGreatDoor.treeM W m:=by unfold Go.Proofs.YtddigaohmfpepaaGreatDoor.treeM;rw[g.pool]
theorem Dy.oldM(g:Dy W V k name)(a:DD W){m:Cq}(h:m.A8<W.next):oldM V m=Go.Proofs.YtddigaohmfpepaaGreatDoor.oldM W m:=by unfold Go.Proofs.YtddigaohmfpepaaGreatDoor.oldM;rw[g.ahead a h,g.pool]
theorem Dy.memN(g:Dy W V k name):memN V=Go.Proofs.YtddigaohmfpepaaGreatDoor.memN W+1:=by unfold Go.Proofs.YtddigaohmfpepaaGreatDoor.memN;rw[g.sn,g.pn];omega
def lone(W:A6)(k:Nat):Cq:=⟨W.next,W.time+1,(W.A2 k).rs,(W.A2 k).rb,0,(W.A2 k).ds,(W.A2 k).db⟩
theorem Dy.mem(g:Dy W V k name)(d:k<W.sn)(hi:i<Go.Proofs.YtddigaohmfpepaaGreatDoor.memN V):(i=W.pn+1+k/\AA V i=lone W k)\/(i≠W.pn+1+k/\∃j t,j<Go.Proofs.YtddigaohmfpepaaGreatDoor.memN W/\j=(if i<W.pn then i else if i=W.pn then W.pn+k else i - 1)/\AA V i = {AA W j with time:=t}/\(AA W j).time<=t):=by
 rw[g.memN]at hi;have c:W.pn+k<Go.Proofs.YtddigaohmfpepaaGreatDoor.memN W:=by unfold Go.Proofs.YtddigaohmfpepaaGreatDoor.memN;omega
 by_cases a:i<W.pn
 ·refine .inr ⟨by omega,i,_,by unfold Go.Proofs.YtddigaohmfpepaaGreatDoor.memN;omega,(if_pos a).symm,?_,Int.le_refl _⟩;rw[CH (by rw[g.pn];omega),CH a,g.old i a]
 by_cases b:i=W.pn
 ·subst b;refine .inr ⟨by omega,W.pn+k,_,c,by rw[if_neg a,if_pos rfl],?_,Int.le_refl _⟩;rw[CH (by rw[g.pn];omega),g.new,C4];rfl
 obtain⟨j,rfl⟩:∃j,i=V.pn+j:=⟨i - V.pn,by rw[g.pn];omega⟩;rw[C4,g.time];rw[g.pn]at hi a b ⊢;by_cases e:j=k
 ·subst e;exact .inl ⟨rfl,by rw[g.at'];rfl⟩
 ·refine .inr ⟨by omega,W.pn+j,W.time+1,by omega,by rw[if_neg a,if_neg b];omega,?_,?_⟩
  ·rw[g.rest j e,C4];rfl
  ·rw[C4];show W.time<=_;omega
theorem Dy.spec(g:Dy W V k name)(h:B4 W)(A:k<W.sn)(hn:BX name)(P:¬∃i,i<W.pn/\(W.A3 i).set=(W.A2 k).name/\(W.A3 i).name=name)(hp:W.pn<20)(ht:W.time<900000)(hx:W.next<900000):B4 V:=by
 have F:=h.toU;have f:=h.Aq;have O:W.pn+k<Go.Proofs.YtddigaohmfpepaaGreatDoor.memN W:=by unfold Go.Proofs.YtddigaohmfpepaaGreatDoor.memN;omega
 have w:∀x,CK W x->CK V x:=fun x ⟨j,a,e⟩=>⟨j,by rw[g.pn];omega,by rw[g.old j a];exact e⟩
 have B:∀i,(V.A2 i).name=(W.A2 i).name/\(V.A2 i).origin=(W.A2 i).origin/\(V.A2 i).rs=(W.A2 i).rs/\(V.A2 i).rb=(W.A2 i).rb:=fun i=>by
  by_cases e:i=k
  ·subst e;rw[g.at'];exact⟨rfl,rfl,rfl,rfl⟩
  ·rw[g.rest i e];exact⟨rfl,rfl,rfl,rfl⟩
 have D:∀x,BL W x->BL V x:=fun x ⟨j,a,e⟩=>⟨j,by rw[g.sn];exact a,by rw[(B j).1];exact e⟩
 have l:Go.Proofs.YtddigaohmfpepaaGreatDoor.oldM V (lone W k)=Go.Proofs.YtddigaohmfpepaaGreatDoor.treeM W (lone W k):=by
  unfold Go.Proofs.YtddigaohmfpepaaGreatDoor.oldM;show AG V.pool (AI V W.next).rs (AI V W.next).rb=_;rw[g.aheadNew f,g.pool];rfl
 have C:∀i,i<Go.Proofs.YtddigaohmfpepaaGreatDoor.memN V->∀x,x∈CB V (AA V i)->∃j,j<Go.Proofs.YtddigaohmfpepaaGreatDoor.memN W/\i≠W.pn+1+k/\j=(if i<W.pn then i else if i=W.pn then W.pn+k else i - 1)/\x∈CB W (AA W j):=fun i hi x c=>by
  rcases g.mem A hi with⟨-,e⟩ | ⟨o,j,t,a,u,e,-⟩
  ·rw[e]at c;have:=Gx.1 c;rw[l,g.treeM]at this;exact absurd this.1 this.2
  ·refine⟨j,a,o,u,?_⟩;rw[e]at c;have:=Gx.1 c;rw[g.oldM f (show({AA W j with time:=t}:Cq).A8<W.next from Ng f a),g.treeM]at this;exact Gx.2 this
 have p:∀i,i<Go.Proofs.YtddigaohmfpepaaGreatDoor.memN V->DU V i:=fun i hi=>by
  unfold DU;rcases g.mem A hi with⟨-,e⟩ | ⟨o,j,t,a,u,e,-⟩
  ·rw[e,l,g.treeM,zF];exact zDt _ _ _ _
  ·rw[e,g.oldM f (show({AA W j with time:=t}:Cq).A8<W.next from Ng f a),g.treeM];exact F.deadOf a
 have r:∀i,i<Go.Proofs.YtddigaohmfpepaaGreatDoor.memN V->B3 V.pool (AA V i).rs (AA V i).rb:=fun i hi=>by
  rw[g.pool];rcases g.mem A hi with⟨-,e⟩ | ⟨o,j,t,a,u,e,-⟩
  ·rw[e];exact(h.A2 k A).1
  ·rw[e];exact F.mem a
 have K:∀i,i<V.sn->V.pn+i<Go.Proofs.YtddigaohmfpepaaGreatDoor.memN V:=fun i hi=>by unfold Go.Proofs.YtddigaohmfpepaaGreatDoor.memN;omega
 have J:∀i,i<V.pn->i<Go.Proofs.YtddigaohmfpepaaGreatDoor.memN V:=fun i hi=>by unfold Go.Proofs.YtddigaohmfpepaaGreatDoor.memN;omega
 refine⟨by rw[g.pool];exact h.right,?_,fun i hi=>?_,fun i hi=>?_,fun i hi=>⟨?_,p _ (K i hi)⟩,fun i hi=>p i (J i hi),fun i hi=>?_,fun i hi=>?_,?_⟩
 ·obtain⟨⟨a1,a2⟩,⟨a3,a4⟩,a5,a6,U,X⟩:=f;refine⟨by rw[g.time];exact⟨by omega,by omega⟩,by rw[g.next];exact⟨by omega,by omega⟩,by rw[g.sn];exact a5,by rw[g.pn];omega,fun i hi=>?_,fun i hi=>?_⟩
  ·obtain⟨q1,q2,q3,q4⟩:=U i (by rw[<-g.sn];exact hi);unfold GJ;rw[(B i).1,(B (i - 1)).1,(B i).2.1];refine⟨q1,q2,fun e=>?_,fun e=>w _ (q4 e)⟩;by_cases E:i=k
   ·subst E;rw[g.at'];exact⟨W.pn,by rw[g.pn];omega,by rw[g.new];rfl⟩
   ·rw[g.rest i E]at e ⊢;exact w _ (q3 e)
  ·rw[g.pn]at hi;by_cases ei:i=W.pn
   ·subst ei;unfold KK Mp LH LI;rw[g.new,g.next,g.time];refine⟨⟨a3,by show W.next<W.next+1;omega,a1,by show W.time<W.time+1;omega,hn,D _ ⟨k,A,rfl⟩⟩,⟨fun h0=>?_,fun e=>?_⟩,fun j a e=>P ⟨j,a,?_⟩⟩
    ·rw[g.old _ (by omega)];have:=(X (W.pn - 1) (by omega)).1;exact⟨this.2.1,this.2.2.2.1⟩
    ·have:=(U k A).2.2.1 e;exact⟨N0 h.Aq fun _=>this,w _ this⟩
    ·rw[g.old j a]at e;exact e
   ·have hi':i<W.pn:=(by omega);obtain⟨⟨b1,b2,b3,b4,b5,b6⟩,⟨c1,Y⟩,d⟩:=X i hi';unfold KK Mp LH LI;rw[g.old i hi',g.next,g.time];refine⟨⟨b1,by omega,b3,by omega,b5,D _ b6⟩,⟨fun h0=>?_,fun e=>⟨(Y e).1,w _ (Y e).2⟩⟩,fun j a=>?_⟩
    ·rw[g.old _ (by omega)];exact c1 h0
    ·rw[g.old j (by omega)];exact d j a
 ·rw[g.sn]at hi;rw[(B i).1,(B i).2.1];obtain⟨n,e,Z,M,L,G⟩:=h.lines i hi;have q:e<W.next:=(by rw[G];exact N0 f (f.2.2.2.2.1 i hi).2.2.2);have I:∀nm m,m<=W.pn->ownN V nm m=ownN W nm m:=fun nm m=>by
   induction m with
   | zero=>exact fun _=>rfl
   | succ m ih=>intro O;unfold ownN;rw[ih (by omega),g.old m (by omega)]
  have v:¬F5 V (W.A2 i).name e:=fun ⟨j,a,u⟩=>by
   have z:=(g.no f q j).1 a;exact M ⟨j,z,by rw[<-g.old j z.1];exact u⟩
  by_cases E:i=k
  ·subst E;refine⟨n+1,e,?_,v,?_,G⟩
   ·rw[g.at'];show Steps V _ W.next (n+1) e;clear M L G v q
    induction Z with
    | zero=>
     have:=Steps.next (.zero (W:=V) (name:=(W.A2 i).name) (start:=W.next)) (g.noNew f) (by rw[g.new];rfl)
     rwa [g.new]at this
    | next _ hs hs' ih=>
     have:=Steps.next ih ((g.no f (by have:=(f.2.2.2.2.2 _ hs.1).1.2.1;have:=hs.2.1;omega) _).2 hs) (by rw[g.old _ hs.1];exact hs')
     rwa [g.old _ hs.1]at this
   ·rw[g.pn,Nc (by rw[g.new];rfl),I _ _ (Nat.le_refl _),L]
  ·refine⟨n,e,?_,v,?_,G⟩
   ·rw[g.rest i E];clear M L G v q
    induction Z with
    | zero=>exact .zero
    | next _ hs hs' ih=>
     have:=Steps.next ih ((g.no f (by have:=(f.2.2.2.2.2 _ hs.1).1.2.1;have:=hs.2.1;omega) _).2 hs) (by rw[g.old _ hs.1];exact hs')
     rwa [g.old _ hs.1]at this
   ·have o:¬(W.A2 k).name=(W.A2 i).name:=by
     rcases Nat.lt_or_gt_of_ne E with N | N
     ·exact fun e=>Q5 (Na f N A) e.symm
     ·exact Q5 (Na f N hi)
    rw[g.pn,NM (by rw[g.new];exact o),I _ _ (Nat.le_refl _),L]
 ·have:=r i (J i hi)
  rwa [CH hi]at this
 ·have:=r _ (K i hi)
  rwa [C4]at this
 ·rw[g.pool]at hi ⊢;rw[<-h.reach i hi];constructor
  ·rintro⟨m,H,b,s⟩;rw[g.treeM]at s;rcases g.mem A H with⟨-,e⟩ | ⟨o,j,t,a,u,e,-⟩
   ·rw[e]at s;exact⟨W.pn+k,O,b,by rw[C4];exact s⟩
   ·rw[e]at s;exact⟨j,a,b,s⟩
  ·rintro⟨m,H,b,s⟩;by_cases h1:m<W.pn
   ·refine⟨m,by rw[g.memN];omega,b,?_⟩;rw[g.treeM,CH (by rw[g.pn];omega),g.old m h1]
    rwa [CH h1]at s
   ·obtain⟨j,rfl⟩:∃j,m=W.pn+j:=⟨m - W.pn,by omega⟩;refine⟨V.pn+j,by rw[g.memN,g.pn];omega,b,?_⟩;rw[g.treeM,C4];rw[C4]at s;unfold Go.Proofs.YtddigaohmfpepaaGreatDoor.treeM at s ⊢;show _∈AG W.pool (V.A2 j).rs (V.A2 j).rb;rw[(B j).2.2.1,(B j).2.2.2];exact s
 ·unfold EX;rcases g.mem A hi with⟨-,e⟩ | ⟨o,j,t,a,u,e,Q⟩
  ·rw[e,l,g.treeM];show F3 _ _ (AI V W.next).time (W.time+1);rw[g.aheadNew f];intro x c;have:=(F.born _ O x (by rw[C4];exact c)).1;rw[C4]at this;have:x.2<=W.time:=this;exact⟨by omega,fun _=>this,fun _=>c⟩
  ·rw[e,g.oldM f (show({AA W j with time:=t}:Cq).A8<W.next from Ng f a),g.treeM];show F3 _ _ (AI V (AA W j).A8).time t;rw[g.ahead f (Ng f a)];exact fun x c=>⟨Int.le_trans (F.born j a x c).1 Q,(F.born j a x c).2⟩
 ·intro i hi j a x c y T;obtain⟨i',hi',kA,ei,R⟩:=C i hi x c;obtain⟨j',z,lA,u,S⟩:=C j (by omega) y T;refine F.apart' hi' z ?_ R S;rw[ei,u];split<;>split<;>(try split)<;>(try split)<;>omega
end
theorem zEH{k:Nat}{name:ByteArray}(h:B4 W)(c:k<W.sn)(hn:BX name)(a:¬∃i,i<W.pn/\(W.A3 i).set=(W.A2 k).name/\(W.A3 i).name=name)(d:W.pn<20)(e:W.time<900000)(f:W.next<900000):B4 (Co W k name (W.A2 k).name):=
 Dy.spec (W:=W) (V:=Co W k name (W.A2 k).name) (k:=k) (name:=name) ⟨rfl,rfl,rfl,rfl,rfl,fun j b=>if_neg (by omega),if_pos rfl,if_pos rfl,fun j b=>if_neg b⟩ h c hn a d e f
theorem zBB(h:DD W)(x:Int):FZ (AI W x).time:=by
 by_cases c:∃k,BW W x k
 ·obtain⟨k,b⟩:=c;rw[DW b];have a:=(h.2.2.2.2.2 k b.1).1;have d:=h.1;unfold Jb at d;exact⟨by have:=a.2.2.1;omega,by have:=a.2.2.2.1;omega⟩
 ·have e:AI W x=DL:=(by unfold AI;rw[dif_neg c]);rw[e];exact⟨by decide,by decide⟩
def zBp(W:A6)(name:ByteArray)(AM:Int)(data:ByteArray)(w:World)(e:Ending)(w':World):Prop:=∃r o,FN W (∃i,i<2/\8000<((fun i=>match i with | 0=>name | _=>data) i).size) (∃i,i<0/\¬BX ((fun _=>⟨#[]⟩) i)) 1 (fun i=>match i with  | _=>BL W name) (fun i=>match i with  | _=>2) r/\(r=none->∃k,Gs W name k/\o=Dc W k (CF W.pool (W.A2 k).rs (W.A2 k).rb AM data W.time))/\Iv (Ez r o) w e w'
theorem ZJ(p:Nat->Addr)(d v1 f l:Value)(lo hi:Nat)(W:A6)(name:ByteArray)(AM:Int)(data:ByteArray)(o:Bm)(w:World)(hE:D8 w p)(h:C7 w lo hi d v1 f l W)(aB:G4 W)(b1:Ap W.pool<=1048576)(b2:W.sn<=1048576)(b3:W.pn<=1048576)(b4:JX W)(L:name.size<=maxLen)(M:(Lit.int .i64 AM).wf=true)(dA:data.size<=maxLen)
 (tA:∀B0 B1 B2 C w' z0 z1 z2 z3,w'.cell? ⟨B0,0,none⟩=some (.string name)->B0<C->w'.cell? ⟨B1,0,none⟩=some (A0 AM)->B1<C->w'.cell? ⟨B2,0,none⟩=some (.string data)->B2<C->DE W->¬(∃i,i<2/\8000<((fun i=>match i with | 0=>name | _=>data) i).size)->¬(∃i,i<0/\¬BX ((fun _=>⟨#[]⟩) i))->(∀j,j<1->(fun i=>match i with  | _=>BL W name) j)->C<w'.heap.size->Below w.heap.size w w'->D5 w' (C+1) w'.heap.size z0 z1 z2 z3 W->Bb w' C z0 z1 (A0 W.time) (A0 W.next) z2 z3 (A0 0) (A0 0) .nilIface->Calls Tryz.prog 33 #[.pointer (some ⟨C,0,none⟩),.pointer (some ⟨B0,0,none⟩),.pointer (some ⟨B1,0,none⟩),.pointer (some ⟨B2,0,none⟩)] w' (IU p o C w')) :
 Calls Tryz.prog 12 #[Cc d v1 f l W,.string name,A0 AM,.string data] w fun e w'=>∃r,FN W (∃i,i<2/\8000<((fun i=>match i with | 0=>name | _=>data) i).size) (∃i,i<0/\¬BX ((fun _=>⟨#[]⟩) i)) 1 (fun i=>match i with  | _=>BL W name) (fun i=>match i with  | _=>2) r/\Iv (Ez r o) w e w':=by
 have Hp:=AQ h;have HE:=AQ hE;have sB:=AQ tA;have bC:=AQ aB;have y:=AQ L;have u:=AQ dA;have fA:=AQ M;clear M;clear h hE tA aB;have pA:=AB w (.cells #[d,v1,A0 W.time,A0 W.next,f,l] 30);have bA:=AB (w.alloc (.cells #[d,v1,A0 W.time,A0 W.next,f,l] 30)) (.cells #[.string name] 9);have O:=AB ((w.alloc (.cells #[d,v1,A0 W.time,A0 W.next,f,l] 30)).alloc (.cells #[.string name] 9)) (.cells #[A0 AM] 2);have I:=AB (((w.alloc (.cells #[d,v1,A0 W.time,A0 W.next,f,l] 30)).alloc (.cells #[.string name] 9)).alloc (.cells #[A0 AM] 2)) (.cells #[.string data] 9);have A:=AB ((((w.alloc (.cells #[d,v1,A0 W.time,A0 W.next,f,l] 30)).alloc (.cells #[.string name] 9)).alloc (.cells #[A0 AM] 2)).alloc (.cells #[.string data] 9)) (.cells #[A5,A5,A0 0,A0 0,A5,A5,A0 0,A0 0,A0 0] 34);have hb:=A9 (A9 (A9 (A9 (pA) bA) O) I) A;have HX:=AQ (((((At.new w (d) (v1) (A0 W.time) (A0 W.next) (f) (l) 30).A1 bA).A1 O).A1 I).A1 A);have c0:((w.alloc (.cells #[d,v1,A0 W.time,A0 W.next,f,l] 30)).alloc (.cells #[.string name] 9)).cell? ⟨(w.alloc (.cells #[d,v1,A0 W.time,A0 W.next,f,l] 30)).heap.size,0,none⟩=some (.string name):=World.cell?_alloc_at _ _ _ _ rfl;rw[World.size_alloc]at c0;replace c0:=(O.cell (AV c0)).trans c0;replace c0:=(I.cell (AV c0)).trans c0;replace c0:=(A.cell (AV c0)).trans c0;have jA:=AQ c0;clear c0;have c1:(((w.alloc (.cells #[d,v1,A0 W.time,A0 W.next,f,l] 30)).alloc (.cells #[.string name] 9)).alloc (.cells #[A0 AM] 2)).cell? ⟨((w.alloc (.cells #[d,v1,A0 W.time,A0 W.next,f,l] 30)).alloc (.cells #[.string name] 9)).heap.size,0,none⟩=some (A0 AM):=World.cell?_alloc_at _ _ _ _ rfl;rw[World.size_alloc,World.size_alloc]at c1;replace c1:=(I.cell (AV c1)).trans c1;replace c1:=(A.cell (AV c1)).trans c1;have kA:=AQ c1;clear c1;have c2:((((w.alloc (.cells #[d,v1,A0 W.time,A0 W.next,f,l] 30)).alloc (.cells #[.string name] 9)).alloc (.cells #[A0 AM] 2)).alloc (.cells #[.string data] 9)).cell? ⟨(((w.alloc (.cells #[d,v1,A0 W.time,A0 W.next,f,l] 30)).alloc (.cells #[.string name] 9)).alloc (.cells #[A0 AM] 2)).heap.size,0,none⟩=some (.string data):=World.cell?_alloc_at _ _ _ _ rfl;rw[World.size_alloc,World.size_alloc,World.size_alloc]at c2;replace c2:=(A.cell (AV c2)).trans c2;have lA:=AQ c2;clear c2;have hr:=Bb.new ((((w.alloc (.cells #[d,v1,A0 W.time,A0 W.next,f,l] 30)).alloc (.cells #[.string name] 9)).alloc (.cells #[A0 AM] 2)).alloc (.cells #[.string data] 9)) (A5) (A5) (A0 0) (A0 0) (A5) (A5) (A0 0) (A0 0) (A0 0) 34;rw[World.size_alloc,World.size_alloc,World.size_alloc,World.size_alloc]at hr;have HR:=AQ hr;clear hr;have hz:(((((w.alloc (.cells #[d,v1,A0 W.time,A0 W.next,f,l] 30)).alloc (.cells #[.string name] 9)).alloc (.cells #[A0 AM] 2)).alloc (.cells #[.string data] 9)).alloc (.cells #[A5,A5,A0 0,A0 0,A5,A5,A0 0,A0 0,A0 0] 34)).heap.size=w.heap.size+5:=by rw[World.size_alloc,World.size_alloc,World.size_alloc,World.size_alloc,World.size_alloc]
 go_enter Tryz.func12,Tryz.ntmps12;go_upto_region 1 with fail;generalize (((((w.alloc (.cells #[d,v1,A0 W.time,A0 W.next,f,l] 30)).alloc (.cells #[.string name] 9)).alloc (.cells #[A0 AM] 2)).alloc (.cells #[.string data] 9)).alloc (.cells #[A5,A5,A0 0,A0 0,A5,A5,A0 0,A0 0,A0 0] 34))=W1 at hb HX HR hz jA kA lA ⊢;clear pA bA O I A;obtain⟨x0,x1,x2,x3,x4,x5⟩:=HX.out.c;have k0:=jA.out;have k1:=kA.out;have k2:=lA.out;have b:=AQ (show ∀w',Below (w.heap.size+1+1+1+1) W1 w'->(fun w'=>w'.cell? ⟨w.heap.size,0,none⟩=some (d)/\w'.cell? ⟨w.heap.size,1,none⟩=some (v1)/\w'.cell? ⟨w.heap.size,2,none⟩=some (A0 W.time)/\w'.cell? ⟨w.heap.size,3,none⟩=some (A0 W.next)/\w'.cell? ⟨w.heap.size,4,none⟩=some (f)/\w'.cell? ⟨w.heap.size,5,none⟩=some (l)/\w'.cell? ⟨w.heap.size+1,0,none⟩=some (.string name)/\w'.cell? ⟨w.heap.size+1+1,0,none⟩=some (A0 AM)/\w'.cell? ⟨w.heap.size+1+1+1,0,none⟩=some (.string data)/\Below (w.heap.size+1+1+1+1) W1 w') w' from fun w' a=>⟨(a.cell (p:=⟨w.heap.size,0,none⟩) (by show w.heap.size<_;omega)).trans x0,(a.cell (p:=⟨w.heap.size,1,none⟩) (by show w.heap.size<_;omega)).trans x1,(a.cell (p:=⟨w.heap.size,2,none⟩) (by show w.heap.size<_;omega)).trans x2,(a.cell (p:=⟨w.heap.size,3,none⟩) (by show w.heap.size<_;omega)).trans x3,(a.cell (p:=⟨w.heap.size,4,none⟩) (by show w.heap.size<_;omega)).trans x4,(a.cell (p:=⟨w.heap.size,5,none⟩) (by show w.heap.size<_;omega)).trans x5,(a.cell (p:=⟨w.heap.size+1,0,none⟩) (by show w.heap.size+1<_;omega)).trans k0,(a.cell (p:=⟨w.heap.size+1+1,0,none⟩) (by show w.heap.size+1+1<_;omega)).trans k1,(a.cell (p:=⟨w.heap.size+1+1+1,0,none⟩) (by show w.heap.size+1+1+1<_;omega)).trans k2,a⟩);have z:w.heap.size+1+1+1+1<=W1.heap.size:=by omega
 clear x0 x1 x2 x3 x4 x5 k0 k1 k2;refine wp_region_held_drew (S:=(fun w'=>w'.cell? ⟨w.heap.size,0,none⟩=some (d)/\w'.cell? ⟨w.heap.size,1,none⟩=some (v1)/\w'.cell? ⟨w.heap.size,2,none⟩=some (A0 W.time)/\w'.cell? ⟨w.heap.size,3,none⟩=some (A0 W.next)/\w'.cell? ⟨w.heap.size,4,none⟩=some (f)/\w'.cell? ⟨w.heap.size,5,none⟩=some (l)/\w'.cell? ⟨w.heap.size+1,0,none⟩=some (.string name)/\w'.cell? ⟨w.heap.size+1+1,0,none⟩=some (A0 AM)/\w'.cell? ⟨w.heap.size+1+1+1,0,none⟩=some (.string data)/\Below (w.heap.size+1+1+1+1) W1 w')) (by kernel_rfl) (b.out _ ((Below.refl _ _).drew.mono z)) (fun hHeld=>?_);have eC:Below W1.heap.size W1 W1.drew:=(Below.refl _ _).drew;refine tk 0 (h:=?_);refine tk 1 (h:=?_);refine tk 3 (h:=?_);refine tk 6 (h:=?_);refine tk 8 (h:=?_);refine QX [2,4,5] (fun i=>if i=5 then [4] else []) (fun i=>i+9) (fun i v w'=>(i=2->E3 w' v 2 (fun i=>match i with | 0=>name | _=>data))/\(i=4->QAt w' p 53 2 [.string name] v)/\(i=5->Gw w' p 1 (fun i=>match i with  | _=>53) (fun i=>match i with  | _=>2) (fun i=>match i with  | _=>[.string name]) v)) 3 (G:=fun w'=>Below W1.heap.size W1 w') (by kernel_rfl) (by decide) (by decide) (by decide) ?_ (fun _ _ h t=>A9 h t) (by assumption) eC ?_ ?_
 ·intro i v w' aF hf t;exact⟨fun e=>(hf.1 e).A1 t,fun e=>(hf.2.1 e).A1 t,fun e=>(hf.2.2 e).A1 t⟩
 ·intro i hi x Z hS F hD K hK;simp only[List.mem_cons,List.not_mem_nil,or_false]at hi;rcases hi with rfl | rfl | rfl
  ·refine wpOp_step (EC rfl) (fun K' H=>?_);simp only[BI,Act.put,Nat.reduceAdd,s1,s2,s3];have J:=AB Z (.cells #[.string name,.string data] 9);go_simp;refine H _ _ (hK.out _ _ _ ?_ (b.out _ ((A9 F J).mono z)) ⟨fun _=>Vp y.out u.out rfl rfl,fun e=>absurd e (by decide),fun e=>absurd e (by decide)⟩ J);simp only[BI,Act.put,Nat.reduceAdd,s1,s2,s3]
  ·refine wpOp_step (EC rfl) (fun K' H=>?_);simp only[BI,Act.put,Nat.reduceAdd,s1,s2,s3];go_simp;go_at_call 19;refine(Yz p name Z (HE.out.A1 (A9 hb F))).mono ?_;rintro e w3 ⟨B0,rfl,E,P⟩;refine H _ _ (hK.out _ _ w3 ?_ (b.out _ ((A9 F P).mono z)) ⟨fun e=>absurd e (by decide),fun _=>⟨_,rfl,D2.one E⟩,fun e=>absurd e (by decide)⟩ P);simp only[BI,Act.put,Nat.reduceAdd,s1,s2,s3]
  ·refine wpOp_step (EC rfl) (fun K' H=>?_);simp only[BI,Act.put,Nat.reduceAdd,s1,s2,s3];obtain⟨bB,e0,cA⟩:=(hD 4 (by decide)).2.1 rfl;simp only[e0];have J:=AB Z (.cells #[.func (.func 53) #[] bB,Af (p 2)] 61);have hA:Gw (Z.alloc (.cells #[.func (.func 53) #[] bB,Af (p 2)] 61)) p 1 (fun i=>match i with  | _=>53) (fun i=>match i with  | _=>2) (fun i=>match i with  | _=>[.string name]) (.slice (some ⟨Z.heap.size,0,none⟩) 1 1):=zHq (g:=(fun i=>match i with  | _=>53)) (ei:=(fun i=>match i with  | _=>2)) (caps:=(fun i=>match i with  | _=>[.string name])) cA;go_simp;refine H _ _ (hK.out _ _ _ ?_ (b.out _ ((A9 F J).mono z)) ⟨fun e=>absurd e (by decide),fun e=>absurd e (by decide),fun _=>hA⟩ J);simp only[BI,Act.put,Nat.reduceAdd,s1,s2,s3,e0]
 ·intro x Z hS F hF;have N:=(hF 2 (by decide)).1 rfl;obtain⟨-,ta,tc,et,-,-⟩:=id N;have hN:E3 Z (A5) 0 (fun _=>⟨#[]⟩):=⟨by omega,_,_,rfl,fun i hi=>absurd hi (Nat.not_lt_zero _),fun h=>absurd h (Nat.lt_irrefl _)⟩;obtain⟨lb,hA,X⟩:=(hF 5 (by decide)).2.2 rfl;obtain⟨-,qa,qc,eq,-⟩:=id hA;simp only[BI,DF,if_true,Act.put,Nat.reduceAdd,s1,s2,s3,et,eq];rw[et]at N;rw[eq]at hA;have a:=A9 hb F;have vB:=AQ N;have tB:=AQ hN;have rB:=AQ hA;have nA:=AQ X;clear N hN hA X hF;refine tk 7 (h:=?_);refine rd [9] (rc (fun K hK=>?_) .nil);go_simp;go_at_call 24;refine(qH p _ _ _ 33 #[.pointer (some ⟨w.heap.size+1,0,none⟩),.pointer (some ⟨w.heap.size+1+1,0,none⟩),.pointer (some ⟨w.heap.size+1+1+1,0,none⟩)] 2 0 1 (fun i=>match i with | 0=>name | _=>data) (fun _=>⟨#[]⟩) (fun i=>match i with  | _=>53) lb (fun i=>match i with  | _=>2) (fun i=>match i with  | _=>BL W name) o _ _ _ _ lo hi W Z (HE.out.A1 a) (Hp.out.A1 a) bC.out b1 b2 b3 b4 vB.out tB.out rB.out ?_ ?_ (enters_of Tryz.func33 (by kernel_rfl) rfl) ?_ ?_).mono ?_
  ·intro i hi;obtain rfl:i=0:=(by omega);decide
  ·intro i hi;obtain rfl:i=0:=(by omega);exact enters_of Tryz.func53 (by kernel_rfl) rfl
  ·intro i hi' w' s hI fE;have hW:=(Hp.out.A1 a).A1 s;have h8:=hI.Aq.A2.1;have cE:=hI.Aq.A3.1;obtain rfl:i=0:=(by omega);obtain⟨B0,cC,E⟩:=(nA.out 0 (by decide)).is1;replace E:=(s.cell (AV E)).trans E;rw[cC];exact Z3 d v1 f l lo hi W B0 name w' hW h8 L E
  ·intro C w' z0 z1 z2 z3 hC s dC hI hl iC hq q rA;exact sB.out (w.heap.size+1) (w.heap.size+1+1) (w.heap.size+1+1+1) C w' z0 z1 z2 z3 ((s.cell (AV hS.2.2.2.2.2.2.1)).trans hS.2.2.2.2.2.2.1) (by have:=F.size;omega) ((s.cell (AV hS.2.2.2.2.2.2.2.1)).trans hS.2.2.2.2.2.2.2.1) (by have:=F.size;omega) ((s.cell (AV hS.2.2.2.2.2.2.2.2.1)).trans hS.2.2.2.2.2.2.2.2.1) (by have:=F.size;omega) hI hl iC hq dC (A9 a s) q rA
  rintro e w3 ⟨r,Y,z0,z1,z2,z3,rfl,q,P⟩;obtain⟨n0,Q,n1,R,n2,T,n3,U,rfl,rfl,rfl,rfl⟩:=q.form;have D:=A9 F P;have mA:=AQ (HR.out.A1 D);have V:=AQ q;have oA:=AQ Y;clear q Y;generalize vA:Ez r o=oo at V ⊢;have aC:=AQ vA;clear vA
  (try go_wp2_with fail)
  refine hK.out _ _ (b.out _ (D.mono z)) ?_;clear hK K hHeld;intro hHeld
  try simp only[Act.put,s1,s2,s3]
  refine rd [10] (rc (fun K hK=>?_) .nil);obtain⟨⟨r0,g0⟩,⟨r1,g1⟩,⟨r2,g2⟩,⟨r3,g3⟩,⟨r4,g4⟩,⟨r5,g5⟩,⟨r6,g6⟩,⟨r7,g7⟩,⟨r8,g8⟩⟩:=mA.out;go_simp
  (try go_wp2_with fail)
  have N:=AC.put9 w3 (w.heap.size+1+1+1+1) (.slice n0 oo.world.pool.n Q) (.slice n1 oo.world.pool.hn R) (A0 oo.world.time) (A0 oo.world.next) (.slice n2 oo.world.sn T) (.slice n3 oo.world.pn U) (A0 oo.id) (A0 oo.many) (A0 oo.code);have fC:Below (w.heap.size+1+1+1+1) W1 (((((((((w3.setCell ⟨w.heap.size+1+1+1+1,0,none⟩ (.slice n0 oo.world.pool.n Q)).setCell ⟨w.heap.size+1+1+1+1,1,none⟩ (.slice n1 oo.world.pool.hn R)).setCell ⟨w.heap.size+1+1+1+1,2,none⟩ (A0 oo.world.time)).setCell ⟨w.heap.size+1+1+1+1,3,none⟩ (A0 oo.world.next)).setCell ⟨w.heap.size+1+1+1+1,4,none⟩ (.slice n2 oo.world.sn T)).setCell ⟨w.heap.size+1+1+1+1,5,none⟩ (.slice n3 oo.world.pn U)).setCell ⟨w.heap.size+1+1+1+1,6,none⟩ (A0 oo.id)).setCell ⟨w.heap.size+1+1+1+1,7,none⟩ (A0 oo.many)).setCell ⟨w.heap.size+1+1+1+1,8,none⟩ (A0 oo.code)):=(D.mono z).trans (N.A1 (B:=w.heap.size+1+1+1+1) (by have:=D.size;omega) (fun k e=>by omega));refine hK.out _ _ (b.out _ fC) ?_;clear hK K hHeld r0 r1 r2 r3 r4 r5 r6 r7 r8 g0 g1 g2 g3 g4 g5 g6 g7 g8;intro hHeld
  try simp only[Act.put,s1,s2,s3]
  refine wpAnyH_done (by kernel_rfl) ?_ _;go_wp2_with fail;have m:=mA.out.put (.slice n0 oo.world.pool.n Q) (.slice n1 oo.world.pool.hn R) (A0 oo.world.time) (A0 oo.world.next) (.slice n2 oo.world.sn T) (.slice n3 oo.world.pn U) (A0 oo.id) (A0 oo.many) (A0 oo.code);have sA:=A9 hb D;have lC:=N.size;have lE:=D.size;refine bodyPost_ret (v:=.agg #[.slice n0 oo.world.pool.n Q,.slice n1 oo.world.pool.hn R,A0 oo.world.time,A0 oo.world.next,.slice n2 oo.world.sn T,.slice n3 oo.world.pn U,A0 oo.id,A0 oo.many,A0 oo.code]) (by simp[results,Tryz.results12,go_sem,m.1.1,m.2.1.1,m.2.2.1.1,m.2.2.2.1.1,m.2.2.2.2.1.1,m.2.2.2.2.2.1.1,m.2.2.2.2.2.2.1.1,m.2.2.2.2.2.2.2.1.1,m.2.2.2.2.2.2.2.2.1]) rfl ⟨r,oA.out,?_⟩;rw[aC.out];refine⟨_,_,_,_,rfl,?_,?_⟩
  ·exact(V.out.AD N (fun k e=>by have:=F.size;omega)).wide (by have:=F.size;omega) lC
  ·exact sA.trans (N.A1 (B:=w.heap.size) sA.size (fun k e=>by omega))
end Go.Proofs.YtddigaohmfpepaaGreatDoor
