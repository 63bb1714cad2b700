/- A part of the proof. -/
import Derived.Test.YtehdoekmnicdiaaGreatDoorF26
set_option linter.unusedVariables false
set_option maxRecDepth 20000
set_option maxHeartbeats 4000000
namespace Go.Proofs.YtehdoekmnicdiaaGreatDoor
open Go.RowKit
theorem zCs(p:Nat->Addr)(C k E F:Nat)(z0 z1 z2 z3:Value)(W:A4)(name:ByteArray)(AA:Int)(w:World)(hE:DC w p)(hI:D3 W)(ht:F4 (AI W (W.A1 k).A6).time)(hx:(Lit.int .i64 (W.A1 k).A6).wf=true)(hk:GS W name k)(M:(W.A1 k).dn<=1048576)(fB:C<w.heap.size)(k0:w.cell? ⟨E,0,none⟩=some (.string name))(l0:E<C)(k1:w.cell? ⟨F,0,none⟩=some (.int .i64 AA))(l1:F<C)
 (ho:DA w (C+1) w.heap.size z0 z1 z2 z3 W) (hC:Bd w C z0 z1 (.int .i64 W.time) (.int .i64 W.next) z2 z3 (.int .i64 0) (.int .i64 0) .nilIface) :
 Calls Tryz.prog 36 #[.pointer (some ⟨C,0,none⟩),.pointer (some ⟨E,0,none⟩),.pointer (some ⟨F,0,none⟩)] w (Ia p (Cm W k (CV W.pool (W.A1 k).rs (W.A1 k).rb AA W.time)) C w):=by
 have h8:=hI.Ap.A1.1;have cA:=hk.1;have HC:=A3 hC;have HO:=A3 ho;obtain⟨L,N,m,T⟩:∃L N,Hid (∃nb nv,Em w L N nb nv (W.A1 k))/\Hid (∀w',Below w.heap.size w w'->Calls Tryz.prog 27 #[.pointer (some ⟨C,0,none⟩),.string name] w' fun e f=>e = .returned (.pointer (some ⟨L,N,none⟩))/\Below w'.heap.size w' f):=by
  obtain⟨P,Q,R,aA,dA⟩:=ho;have cB:=aA.isIn;obtain⟨sA,kb,kv,hS,mC,vA⟩:=cB.A1;obtain⟨off,c,rfl,A⟩:=hS.nth cA;refine⟨sA,off+k*6,A3 ⟨_,_,A⟩,A3 (fun w' q=>?_)⟩;obtain⟨c4,-⟩:=(hC.A0 q).2.2.2.2.1;refine(Qk C (C+1) w.heap.size W.sn k c _ W.A1 name w' c4 ((hS.at (lo:=C+1) (hi:=w.heap.size) (fun j hj=>dA j (Or.inr (Or.inl (vA j hj))))).A0 q) h8 cA hk.2.1 hk.2.2).mono ?_;rintro e B ⟨⟨b,dC,e1,rfl⟩,l⟩;simp only[Option.some.injEq,Addr.mk.injEq,and_true]at e1;obtain⟨rfl,rfl⟩:=e1;exact⟨rfl,l⟩
 obtain⟨nb,nv,A⟩:=m.out;clear m;have m:=A3 A;have o:C6 w (C+1) w.heap.size z0 z1 W.pool:=ho.own.at.pool;obtain⟨a0,c0,a1,c1,rfl,rfl⟩:=o.form;obtain⟨y,hy⟩:∃y,y=CV W.pool (W.A1 k).rs (W.A1 k).rb AA W.time:=⟨_,rfl⟩;have rA:=A3 (show ∀w',Below w.heap.size w w'->Calls Tryz.prog 37 #[.agg #[.slice a0 W.pool.n c0,.slice a1 W.pool.hn c1],.agg #[.int .i64 (W.A1 k).rs,.int .i64 (W.A1 k).rb],.int .i64 AA,.int .i64 W.time] w' (Lq y w')from fun w' u=>by
  rw[hy];exact zDN _ _ (C+1) w.heap.size W.pool (W.A1 k).rs (W.A1 k).rb AA W.time w' (o.A0 u))
 have HG:=A3 (show KF y by rw[hy];exact zEE _ _ _ _ _);rw[<-hy];have nA:=A3 (show ∀(w' f:World) (v0 v1 vo:Value) (lo hi:Nat),Below w.heap.size w w'->Below w'.heap.size w' f->Bo f lo hi v0 v1 y.pool->w'.heap.size<=lo->hi<=f.heap.size->At f w'.heap.size vo y.old->Calls Tryz.prog 25 #[.pointer (some ⟨C,0,none⟩),.string name,.agg #[v0,v1,.int .i64 y.rs,.int .i64 y.rb,vo,.int .i64 y.code]] f (Ia p (Cm W k y) C f)from fun w' f v0 v1 vo lo hi u q hp h1 h2 hr=>by
  have l:=A7 u q;have hz:=u.size;have sC:=q.size;have gB:=l.size;refine Sv p C k w.heap.size lo hi _ _ _ _ v0 v1 vo W y name f (hE.A0 l) hI HG.out ht hx hk M fB gB (ho.A0 l) (hC.A0 l) hp (by omega) h2 ?_;obtain⟨bb,h3,Z⟩:=At.own hr (by have:=HG.out.2.1;unfold maxLen;omega);exact h3.at (fun h0=>⟨by have:=(Z h0).2.1;omega,(Z h0).2.2⟩))
 have H:Below w.heap.size w w.drew:=(Below.refl _ _).drew;have a:=A3 (show ∀w',Below w.heap.size w w'->(fun w':World=>w'.cell? ⟨E,0,none⟩=some (.string name)/\w'.cell? ⟨F,0,none⟩=some (.int .i64 AA)) w' from fun w' u=>⟨(u.cell (AZ k0)).trans k0,(u.cell (AZ k1)).trans k1⟩);have z:=A3 (show ∀w',Below C w w'->(fun w':World=>w'.cell? ⟨E,0,none⟩=some (.string name)/\w'.cell? ⟨F,0,none⟩=some (.int .i64 AA)) w' from fun w' u=>⟨(u.cell (p:=⟨E,0,none⟩) l0).trans k0,(u.cell (p:=⟨F,0,none⟩) l1).trans k1⟩);clear hE hI ht hx hk M ho hC o A hy;go_enter Tryz.func36,Tryz.ntmps36;go_upto_region 0 with fail;clear k0 k1;refine wp_region_held_drew (S:=(fun w':World=>w'.cell? ⟨E,0,none⟩=some (.string name)/\w'.cell? ⟨F,0,none⟩=some (.int .i64 AA))) (by kernel_rfl) (a.out _ H) (fun hHeld=>?_);have X:=H;generalize w.drew=q0 at hHeld H X ⊢;refine tk 0 (h:=tk 1 (h:=tk 2 (h:=tk 3 (h:=tk 4 (h:=tk 5 (h:=tk 7 (h:=tk 8 (h:=tk 13 (h:=tk 14 (h:=tk 15 (h:=tk 16 (h:=tk 17 (h:=?_)))))))))))));refine OM [6,9,10,11,12,18] (fun i=>if i=10 then [9] else if i=11 then [10] else if i=12 then [11] else []) (fun i=>i+4) (fun i v w'=>(i=6->v = .agg #[.slice a0 W.pool.n c0,.slice a1 W.pool.hn c1])/\(i=9->v = .pointer (some ⟨L,N,none⟩))/\(i=10->v = .pointer (some ⟨L,N,none⟩))/\(i=11->v = .pointer (some ⟨L,N+3,none⟩))/\(i=12->v = .agg #[.int .i64 (W.A1 k).rs,.int .i64 (W.A1 k).rb])/\(i=18->v = .int .i64 W.time)) 2 (G:=fun w'=>Below w.heap.size w w') (by kernel_rfl) (by decide) (by decide) (by decide) ?_ (fun _ _ h t=>A7 h t) (by assumption) X ?_ ?_
 ·intro i v w' f hf t;exact hf
 ·intro i hi x B hS g M K hK;simp only[List.mem_cons,List.not_mem_nil,or_false]at hi;rcases hi with rfl | rfl | rfl | rfl | rfl | rfl
  ·refine wpOp_step (DZ rfl) (fun U d=>?_);simp only[B4,Act.put,Nat.reduceAdd,s1,s2,s3];obtain⟨⟨c0,-⟩,⟨c1,-⟩,⟨c2,-⟩,-⟩:=HC.out.A0 g;go_simp;refine d _ _ (hK.out _ _ B ?_ (a.out _ (A7 g (Below.refl _ _))) ⟨fun _=>rfl,fun e=>absurd e (by decide),fun e=>absurd e (by decide),fun e=>absurd e (by decide),fun e=>absurd e (by decide),fun e=>absurd e (by decide)⟩ (Below.refl _ _));simp only[B4,Act.put,Nat.reduceAdd,s1,s2,s3]
  ·refine wpOp_step (DZ rfl) (fun U d=>?_);simp only[B4,Act.put,Nat.reduceAdd,s1,s2,s3];go_simp;go_at_call 27;refine(T.out _ g).mono ?_;rintro e w3 ⟨rfl,r⟩;refine d _ _ (hK.out _ _ w3 ?_ (a.out _ (A7 g r)) ⟨fun e=>absurd e (by decide),fun _=>rfl,fun e=>absurd e (by decide),fun e=>absurd e (by decide),fun e=>absurd e (by decide),fun e=>absurd e (by decide)⟩ r);simp only[B4,Act.put,Nat.reduceAdd,s1,s2,s3]
  ·refine wpOp_step (DZ rfl) (fun U d=>?_);simp only[B4,Act.put,Nat.reduceAdd,s1,s2,s3];have D:=(M 9 (by decide)).2.1 rfl;simp only[D];go_simp;refine d _ _ (hK.out _ _ B ?_ (a.out _ (A7 g (Below.refl _ _))) ⟨fun e=>absurd e (by decide),fun e=>absurd e (by decide),fun _=>rfl,fun e=>absurd e (by decide),fun e=>absurd e (by decide),fun e=>absurd e (by decide)⟩ (Below.refl _ _));simp only[B4,Act.put,Nat.reduceAdd,s1,s2,s3,D]
  ·refine wpOp_step (DZ rfl) (fun U d=>?_);simp only[B4,Act.put,Nat.reduceAdd,s1,s2,s3];have D:=(M 10 (by decide)).2.2.1 rfl;simp only[D];go_simp;refine d _ _ (hK.out _ _ B ?_ (a.out _ (A7 g (Below.refl _ _))) ⟨fun e=>absurd e (by decide),fun e=>absurd e (by decide),fun e=>absurd e (by decide),fun _=>rfl,fun e=>absurd e (by decide),fun e=>absurd e (by decide)⟩ (Below.refl _ _));simp only[B4,Act.put,Nat.reduceAdd,s1,s2,s3,D]
  ·refine wpOp_step (DZ rfl) (fun U d=>?_);simp only[B4,Act.put,Nat.reduceAdd,s1,s2,s3];have D:=(M 11 (by decide)).2.2.2.1 rfl;simp only[D];obtain⟨q3,-⟩:=(m.out.A0 g).c3;obtain⟨q4,-⟩:=(m.out.A0 g).c4;go_simp;refine d _ _ (hK.out _ _ B ?_ (a.out _ (A7 g (Below.refl _ _))) ⟨fun e=>absurd e (by decide),fun e=>absurd e (by decide),fun e=>absurd e (by decide),fun e=>absurd e (by decide),fun _=>rfl,fun e=>absurd e (by decide)⟩ (Below.refl _ _));simp only[B4,Act.put,Nat.reduceAdd,s1,s2,s3,D]
  ·refine wpOp_step (DZ rfl) (fun U d=>?_);simp only[B4,Act.put,Nat.reduceAdd,s1,s2,s3];obtain⟨⟨c0,-⟩,⟨c1,-⟩,⟨c2,-⟩,-⟩:=HC.out.A0 g;go_simp;refine d _ _ (hK.out _ _ B ?_ (a.out _ (A7 g (Below.refl _ _))) ⟨fun e=>absurd e (by decide),fun e=>absurd e (by decide),fun e=>absurd e (by decide),fun e=>absurd e (by decide),fun e=>absurd e (by decide),fun _=>rfl⟩ (Below.refl _ _));simp only[B4,Act.put,Nat.reduceAdd,s1,s2,s3]
 ·intro x B hS g hF;have f6:=(hF 6 (by decide)).1 rfl;have f12:=(hF 12 (by decide)).2.2.2.2.1 rfl;have ft:=(hF 18 (by decide)).2.2.2.2.2 rfl;simp only[B4,D5,if_true,Act.put,Nat.reduceAdd,s1,s2,s3,f6,f12,ft];clear hF f6 f12 ft hHeld;refine rd [19] (rc (fun K hK=>?_) .nil);go_simp;go_at_call 37;refine(rA.out B g).mono ?_;rintro e w3 ⟨v0,v1,vo,lo,hi,rfl,eB,bB,I,J,-,r⟩;obtain⟨b0,d0,b1,d1,rfl,rfl⟩:=I.at.form;obtain⟨b2,d2,rfl,-⟩:=Bh J;have oA:=A3 I;have pA:=A3 J;have Y:=A7 g r;clear I J
  (try go_wp2_with fail)
  refine hK.out _ _ (a.out _ Y) ?_;clear hK K;intro hHeld
  try simp only[Act.put,s1,s2,s3]
  refine rd [20] (rc (fun K hK=>?_) .nil);go_simp;go_at_call 25;refine(nA.out B w3 _ _ _ lo hi g r oA.out eB bB pA.out).mono ?_;rintro e w4 ⟨⟨ve,rfl⟩,aB,s⟩;have O:=A3 s;have V:Below C w w4:=(Y.mono (by omega)).trans aB;clear s
  (try go_wp2_with fail)
  refine hK.out _ _ (z.out _ V) ?_;clear hK K;intro hHeld
  try simp only[Act.put,s1,s2,s3]
  refine wpAnyH_done (by kernel_rfl) ?_ _;clear hHeld;go_wp2_with fail;go_end0;refine⟨⟨_,rfl⟩,V,O.out.1,?_⟩;rcases O.out.2 with h | h
  ·exact Or.inl h
  ·exact Or.inr h
theorem zDG(p:Nat->Addr)(i v1 j l:Value)(lo hi:Nat)(W:A4)(name:ByteArray)(AA:Int)(w:World)(o:DC w p)(h:CE w lo hi i v1 j l W)(c:G7 W)(u:An W.pool<=1048576)(v:W.sn<=1048576)(x:W.pn<=1048576)(m:JX W)(a:name.size<=maxLen)(b:(Lit.int .i64 AA).wf=true) :
 Calls Tryz.prog 13 #[Cn i v1 j l W,.string name,.int .i64 AA] w (zBf W name AA w):=by
 by_cases hs:BP W name
 ·obtain⟨k,g⟩:=R5 hs;refine(ZO p i v1 j l lo hi W name AA (Cm W k (CV W.pool (W.A1 k).rs (W.A1 k).rb AA W.time)) w o h c u v x m a b ?_).mono ?_
  ·intro s t C w' I J K L E G F H q _ _ B d z A y;have M:=(OB W).1 q;have D:=c (W.pn+k) (by have:=g.1;unfold memN;omega);rw[Cp]at D;exact zCs p C k s t I J K L W name AA w' (o.A0 z) q (YE M.Ap _) D g (m.1 k g.1) d E G F H A y
  ·rintro e w' ⟨r,f,n⟩;exact⟨r,_,f,fun _=>⟨k,g,rfl⟩,n⟩
 ·refine(ZO p i v1 j l lo hi W name AA (BQ 0) w o h c u v x m a b ?_).mono ?_
  ·intro s t C w' I J K L E G F H q _ _ B d z A y;exact absurd (B 0 (by omega)) hs
  ·rintro e w' ⟨r,f,n⟩;exact⟨r,_,f,fun e=>absurd ((e▸f).all 0 (by omega)) hs,n⟩
def lwD(p:A5)(xs xb:Int)(k:Nat):ByteArray:=if Nil (BS p xs xb k) (BY p xs xb k)then⟨#[]⟩else(p.s (BS p xs xb k).toNat).data
variable{p:A5}{xs xb:Int}{k:Nat}
theorem QX(h:Nil xs xb):lwD p xs xb k=⟨#[]⟩:=by
 have hn:Nil (BW p xs xb k) (Bf p xs xb k):=⟨if_pos h,if_pos h⟩;exact if_pos ⟨if_pos hn,if_pos hn⟩
theorem QW(hn:Nil (BW p xs xb k) (Bf p xs xb k)):lwD p xs xb k=⟨#[]⟩:=if_pos ⟨if_pos hn,if_pos hn⟩
open Go.Maps
theorem Uf{V:A4}(h:EG V):∀{k i:Nat},i<k->k<V.sn->Ce (V.A1 i).name (V.A1 k).name
 | k+1,i,hi,hk=>by
  have g:=(h.2.2.2.2.1 (k+1) hk).2.1 (by omega);rw[Nat.add_sub_cancel]at g;by_cases e:i=k
  ·rw[e];exact g
  ·exact zBY (Uf h (by omega) (by omega)) g
theorem Zv{V:A4}(h:EG V):∀{k i:Nat},i<k->k<V.pn->(V.A2 i).id<(V.A2 k).id
 | k+1,i,hi,hk=>by
  have g:=((h.2.2.2.2.2 (k+1) hk).2.1.1 (by omega)).1;rw[Nat.add_sub_cancel]at g;by_cases e:i=k
  ·rw[e];exact g
  ·exact Int.lt_trans (Zv h (by omega) (by omega)) g
def Ei(p q:A5)(rs rb:Int):Prop:=q.n=p.n/\∀z,z∈AF p rs rb->q.s z.1.toNat=p.s z.1.toNat/\¬Has q.hn q.h z.1
section
variable {p q : A5} {rs rb : Int}
theorem Nw(h:¬Nil rs rb):(rs,rb)∈AF p rs rb:=by
 unfold AF;rw[if_neg h];exact List.mem_cons_self ..
variable{i:Nat}
theorem TI(h:¬Nil rs rb){x:Int×Int}(hi:i<8)(a:x∈Cg p (AH (p.s rs.toNat) i) (AT (p.s rs.toNat) i)):x∈AF p rs rb:=by
 unfold AF;rw[if_neg h];exact List.mem_cons_of_mem _ (Gj.2 ⟨i,hi,a⟩)
theorem Q6(h:¬Nil rs rb)(hi:i<8)(a:¬Nil (AH (p.s rs.toNat) i) (AT (p.s rs.toNat) i)):(AH (p.s rs.toNat) i,AT (p.s rs.toNat) i)∈AF p rs rb:=TI h hi (IB.2 ⟨a,.inl rfl⟩)
theorem TH(h:¬Nil rs rb){j:Nat}(hi:i<8)(a:j<8)(b:¬Nil (AH (p.s rs.toNat) i) (AT (p.s rs.toNat) i))(c:¬Nil (AH (p.s (AH (p.s rs.toNat) i).toNat) j) (AT (p.s (AH (p.s rs.toNat) i).toNat) j)):(AH (p.s (AH (p.s rs.toNat) i).toNat) j,AT (p.s (AH (p.s rs.toNat) i).toNat) j)∈AF p rs rb:=TI h hi (IB.2 ⟨b,.inr (Gn.2 ⟨j,a,rfl,c⟩)⟩)
theorem UR{s:AG}:∀{k:Nat},(∀i,i<k->¬Nil (AH s i) (AT s i)->q.s (AH s i).toNat=p.s (AH s i).toNat)->CN q s k=CN p s k
 | 0,_=>rfl
 | k+1,h=>by
  unfold CN;rw[UR (fun i hi=>h i (by omega))];congr 1;unfold Cg;by_cases a:Nil (AH s k) (AT s k)
  ·rw[if_pos a,if_pos a]
  ·rw[if_neg a,if_neg a,h k (Nat.lt_succ_self k) a]
theorem Ei.tree(h:Ei p q rs rb):AF q rs rb=AF p rs rb:=by
 by_cases a:Nil rs rb
 ·unfold AF;rw[if_pos a,if_pos a]
 ·have e:=(h.2 _ (Nw a)).1;have:=UR (p:=p) (q:=q) (s:=p.s rs.toNat) (k:=8) fun i hi b=>(h.2 _ (Q6 a hi b)).1
  unfold AF;rw[if_neg a,if_neg a,e,this]
theorem Ei.ok(h:Ei p q rs rb)(v:Ay p rs rb):Ay q rs rb:=by
 refine v.imp id fun ⟨n,hT,hD⟩=>?_
 have k:¬Nil rs rb:=fun e=>by have:=n.1.1;have:=e.2;omega
 have t:∀a b,(a,b)∈AF p rs rb->B5 p a b->B5 q a b:=fun a b d c=>⟨c.1,c.2.1,by rw[h.1];exact c.2.2.1,by rw[(h.2 _ d).1];exact c.2.2.2⟩
 have r:∀a b,(a,b)∈AF p rs rb->DO p a b->DO q a b:=fun a b d c=>⟨t a b d c.1,by rw[(h.2 _ d).1];exact c.2.1,(h.2 _ d).2⟩
 refine⟨r _ _ (Nw k) n,?_,by rw[h.tree];exact hD⟩;rw[(h.2 _ (Nw k)).1];refine⟨fun i hi=>?_,hT.2⟩;by_cases g:Nil (AH (p.s rs.toNat) i) (AT (p.s rs.toNat) i)
 ·exact .inl g
 obtain⟨u,m⟩:=(hT.1 i hi).resolve_left g;have d:=Q6 k hi g;refine .inr ⟨r _ _ d u,?_⟩;rw[(h.2 _ d).1];refine⟨fun j o=>?_,m.2⟩;by_cases l:Nil (AH (p.s (AH (p.s rs.toNat) i).toNat) j) (AT (p.s (AH (p.s rs.toNat) i).toNat) j)
 ·exact .inl l
 have c:=(m.1 j o).resolve_left l;have f:=TH k hi o g l;exact .inr ⟨t _ _ f c.1,by rw[(h.2 _ f).1];exact c.2.1,(h.2 _ f).2⟩
theorem Ei.AA(h:Ei p q rs rb)(m:k<64):lwD q rs rb k=lwD p rs rb k:=by
 by_cases a:Nil rs rb
 ·rw[QX a,QX a]
 have e:=(h.2 _ (Nw a)).1;have d:BW q rs rb k=BW p rs rb k/\Bf q rs rb k=Bf p rs rb k:=by
  unfold BW Bf BV Ba;rw[if_neg a,if_neg a,if_neg a,if_neg a,e];exact⟨rfl,rfl⟩
 by_cases hn:Nil (BW p rs rb k) (Bf p rs rb k)
 ·rw[QW hn,QW (by rw[d.1,d.2];exact hn)]
 have c1:BW p rs rb k=AH (p.s rs.toNat) (k / 8):=if_neg a;have i:Bf p rs rb k=AT (p.s rs.toNat) (k / 8):=if_neg a;have c:¬Nil (AH (p.s rs.toNat) (k / 8)) (AT (p.s rs.toNat) (k / 8)):=by rw[<-c1,<-i];exact hn
 have l:q.s (BW p rs rb k).toNat=p.s (BW p rs rb k).toNat:=by rw[c1];exact(h.2 _ (Q6 a (by omega) c)).1
 have f:BS q rs rb k=BS p rs rb k/\BY q rs rb k=BY p rs rb k:=by
  unfold BS BY;rw[d.1,d.2];unfold BV Ba;rw[if_neg hn,if_neg hn,if_neg hn,if_neg hn,l];exact⟨rfl,rfl⟩
 unfold lwD;rw[f.1,f.2];by_cases b:Nil (BS p rs rb k) (BY p rs rb k)
 ·rw[if_pos b,if_pos b]
 ·rw[if_neg b,if_neg b];have g:BS p rs rb k=AH (p.s (AH (p.s rs.toNat) (k / 8)).toNat) (k % 8):=(by rw[<-c1];exact if_neg hn);have j:BY p rs rb k=AT (p.s (AH (p.s rs.toNat) (k / 8)).toNat) (k % 8):=(by rw[<-c1];exact if_neg hn);rw[g,j]at b;rw[g,(h.2 _ (TH a (by omega) (by omega) c b)).1]
end
structure E9 (W:A4):Prop where
 right:AY W.pool
 Ap:EG W
 lines:∀i,i<W.sn->F3 W (W.A1 i).name (W.A1 i).A6 (W.A1 i).origin
 A2:∀i,i<W.pn->Ay W.pool (W.A2 i).rs (W.A2 i).rb
 A1:∀i,i<W.sn->Ay W.pool (W.A1 i).rs (W.A1 i).rb/\Df W (W.pn+i)
 dead:∀i,i<W.pn->Df W i
 born:∀i,i<memN W->Ek W i
 C7:Ig W
variable{W:A4}
theorem BE.toU(h:BE W):E9 W:=⟨h.right,h.Ap,h.lines,h.A2,h.A1,h.dead,h.born,h.C7⟩
theorem E9.spec(h:E9 W)(a:QC W):BE W:=⟨h.right,h.Ap,h.lines,h.A2,h.A1,h.dead,a,h.born,h.C7⟩
variable{i:Nat}
theorem E9.mem(h:E9 W)(hi:i<memN W):Ay W.pool (A8 W i).rs (A8 W i).rb:=(O5 h.right h.Ap h.A2 fun j a=>(h.A1 j a).1).tree i hi
theorem PN(h:BE W)(hi:i<memN W):Ay W.pool (A8 W i).rs (A8 W i).rb:=h.toU.mem hi
variable{V:A4}{nm:ByteArray}
theorem Steps.same(a:V.pn=W.pn)(hs:V.A2=W.A2){st:Int}{n:Nat}{x:Int}(g:Steps W nm st n x):Steps V nm st n x:=by
 induction g with
 | zero=>exact .zero
 | next _ hk hn ih=>
  have:=Steps.next ih (show Be V _ _ by unfold Be at hk ⊢;rw[a,hs];exact hk) (by rw[hs];exact hn)
  rwa [hs]at this
theorem F3.same(b:V.pn=W.pn)(hs:V.A2=W.A2){st o:Int}(h:F3 W nm st o):F3 V nm st o:=by
 obtain⟨n,e,c,d,f,g⟩:=h;have a:∀k,ownN V nm k=ownN W nm k:=fun k=>by
  induction k with
  | zero=>rfl
  | succ k ih=>unfold ownN;rw[ih,hs]
 exact⟨n,e,c.same b hs,fun ⟨k,hk,hn⟩=>d ⟨k,by unfold Be at hk ⊢;rw[<-b,<-hs];exact hk,by rw[<-hs];exact hn⟩,by rw[a,b];exact f,g⟩
structure OnW (W V:A4):Prop where
 sn:V.sn=W.sn
 A1:V.A1=W.A1
 pn:V.pn=W.pn
 A2:V.A2=W.A2
 next:V.next=W.next
 time:W.time<=V.time/\V.time<=900000
 tree:∀i,i<memN W->Ei W.pool V.pool (A8 W i).rs (A8 W i).rb
section
variable {W V : A4}
theorem OnW.snapNo(h:OnW W V)(x:Int)(k:Nat):Be V x k↔Be W x k:=by unfold Be;rw[h.pn,h.A2]
theorem OnW.ahead(h:OnW W V)(x:Int):AI V x=AI W x:=by
 by_cases b:∃k,Be W x k
 ·obtain⟨k,a⟩:=b;rw[Dv a,Dv ((h.snapNo x k).2 a),h.A2]
 ·unfold AI;rw[dif_neg b,dif_neg (fun ⟨k,a⟩=>b ⟨k,(h.snapNo x k).1 a⟩)]
theorem OnW.memN(h:OnW W V):memN V=memN W:=by unfold Go.Proofs.YtehdoekmnicdiaaGreatDoor.memN;rw[h.sn,h.pn]
theorem OnW.mem(h:OnW W V)(i:Nat):∃t,A8 V i = {A8 W i with time:=t}/\(A8 W i).time<=t:=by
 unfold A8;rw[h.pn,h.A2,h.A1];by_cases hi:i<W.pn
 ·rw[if_pos hi,if_pos hi];exact⟨_,rfl,Int.le_refl _⟩
 ·rw[if_neg hi,if_neg hi];exact⟨V.time,rfl,h.time.1⟩
theorem OnW.treeM(h:OnW W V)(hi:i<Go.Proofs.YtehdoekmnicdiaaGreatDoor.memN W):treeM V (A8 V i)=Go.Proofs.YtehdoekmnicdiaaGreatDoor.treeM W (A8 W i):=by
 obtain⟨t,e,-⟩:=h.mem i;rw[e];exact(h.tree i hi).tree
theorem OnW.root(h:OnW W V)(x:Int):AF V.pool (AI W x).rs (AI W x).rb=AF W.pool (AI W x).rs (AI W x).rb:=by
 by_cases b:∃k,Be W x k
 ·obtain⟨k,a⟩:=b;rw[Dv a];have:=(h.tree k (by unfold Go.Proofs.YtehdoekmnicdiaaGreatDoor.memN;have:=a.1;omega)).tree
  rwa [Co a.1]at this
 ·unfold AI;rw[dif_neg b];rfl
theorem OnW.oldM(h:OnW W V)(i:Nat):oldM V (A8 V i)=Go.Proofs.YtehdoekmnicdiaaGreatDoor.oldM W (A8 W i):=by
 obtain⟨t,e,-⟩:=h.mem i;rw[e];show AF V.pool (AI V (A8 W i).A6).rs (AI V (A8 W i).A6).rb=_;rw[h.ahead,h.root];rfl
theorem OnW.specU(h:OnW W V)(hs:E9 W)(C:AY V.pool):E9 V:=by
 have f:∀x,CT V x↔CT W x:=fun x=>by unfold CT;rw[h.pn,h.A2]
 have l:∀x,BP V x↔BP W x:=fun x=>by unfold BP;rw[h.sn,h.A1]
 have k:∀i,(A8 V i).rs=(A8 W i).rs/\(A8 V i).rb=(A8 W i).rb:=fun i=>by obtain⟨t,e,-⟩:=h.mem i;rw[e];exact⟨rfl,rfl⟩
 have a:∀i,i<Go.Proofs.YtehdoekmnicdiaaGreatDoor.memN W->Df W i->Df V i:=fun i hi g=>by
  unfold Df at g ⊢;rw[h.treeM hi,h.oldM i];obtain⟨t,e,-⟩:=h.mem i;rw[e];exact g
 have m:∀i,i<V.pn->i<Go.Proofs.YtehdoekmnicdiaaGreatDoor.memN W:=fun i hi=>by unfold Go.Proofs.YtehdoekmnicdiaaGreatDoor.memN;rw[h.pn]at hi;omega
 have b:∀i,i<Go.Proofs.YtehdoekmnicdiaaGreatDoor.memN W->Ay V.pool (A8 V i).rs (A8 V i).rb:=fun i hi=>by
  rw[(k i).1,(k i).2];exact(h.tree i hi).ok (hs.mem hi)
 refine⟨C,?_,?_,fun i hi=>?_,fun i hi=>?_,fun i hi=>a i (m i hi) (hs.dead i (by rw[<-h.pn];exact hi)),fun i hi=>?_,?_⟩
 ·obtain⟨⟨E,F⟩,q,r,s,u,v⟩:=hs.Ap;have n:=h.time;refine⟨⟨by omega,n.2⟩,by rw[h.next];exact q,by rw[h.sn];exact r,by rw[h.pn];exact s,fun i hi=>?_,fun i hi=>?_⟩
  ·have g:=u i (by rw[<-h.sn];exact hi);unfold Gt at g ⊢;rw[h.A1];exact⟨g.1,g.2.1,fun e=>(f _).2 (g.2.2.1 e),fun e=>(f _).2 (g.2.2.2 e)⟩
  ·have g:=v i (by rw[<-h.pn];exact hi);unfold NJ yE S8 S9 at g ⊢;rw[h.A2,h.next];obtain⟨⟨w,y,z,G,A,B⟩,⟨c1,o⟩,d⟩:=g;exact⟨⟨w,y,z,by omega,A,(l _).2 B⟩,⟨c1,fun e=>⟨(o e).1,(f _).2 (o e).2⟩⟩,d⟩
 ·intro i hi;rw[h.A1];exact(hs.lines i (by rw[<-h.sn];exact hi)).same h.pn h.A2
 ·have:=b i (m i hi)
  rwa [Co hi]at this
 ·have c:V.pn+i<Go.Proofs.YtehdoekmnicdiaaGreatDoor.memN W:=(by rw[<-h.memN];unfold Go.Proofs.YtehdoekmnicdiaaGreatDoor.memN;omega);have:=b _ c;rw[Cp]at this;exact⟨this,a _ c (by rw[h.pn];exact(hs.A1 i (by rw[<-h.sn];exact hi)).2)⟩
 ·have c:i<Go.Proofs.YtehdoekmnicdiaaGreatDoor.memN W:=(by rw[<-h.memN];exact hi);have g:=hs.born i c;unfold Ek at g ⊢;rw[h.treeM c,h.oldM i];obtain⟨t,e,n⟩:=h.mem i;rw[e];dsimp only;rw[h.ahead];exact fun x p=>⟨Int.le_trans (g x p).1 n,(g x p).2⟩
 ·intro i hi j D;have c:i<Go.Proofs.YtehdoekmnicdiaaGreatDoor.memN W:=(by rw[<-h.memN];exact hi);unfold CC;rw[h.treeM c,h.oldM i,h.treeM (show j<Go.Proofs.YtehdoekmnicdiaaGreatDoor.memN W by omega),h.oldM j];exact hs.C7 i c j D
end
theorem NT{z:Int}:∀{l:List (Int×Int)} {p:A5},Has (BH p l).hn (BH p l).h z↔Has p.hn p.h z\/∃x,x∈l/\x.1=z
 | [],p=>⟨.inl,fun h=>h.resolve_right fun ⟨_,b,_⟩=>by cases b⟩
 | a :: l,p=>by
  have e:Has (CM p a.1).hn (CM p a.1).h z↔Has p.hn p.h z\/z=a.1:=by
   refine⟨XR,fun h=>?_⟩;rcases h with⟨j,c,e⟩ | rfl
   ·exact⟨j,Nat.lt_succ_of_lt c,(if_neg (by omega)).trans e⟩
   ·exact⟨p.hn,Nat.lt_succ_self _,if_pos rfl⟩
  show Has (BH (CM p a.1) l).hn (BH (CM p a.1) l).h z↔_;rw[NT,e];constructor
  ·rintro((h | rfl) | ⟨x,b,h⟩)
   ·exact .inl h
   ·exact .inr ⟨a,List.mem_cons_self ..,rfl⟩
   ·exact .inr ⟨x,List.mem_cons_of_mem _ b,h⟩
  ·rintro(h | ⟨x,b,h⟩)
   ·exact .inl (.inl h)
   ·rcases List.mem_cons.1 b with rfl | b
    ·exact .inl (.inr h.symm)
    ·exact .inr ⟨x,b,h⟩
variable{l:List (Int×Int)}
theorem XS{rs rb:Int}(h:∀z,z∈AF p rs rb->¬Has p.hn p.h z.1/\∀x,x∈l->x.1≠z.1):Ei p (BH p l) rs rb:=
 ⟨(EL l p).1,fun z a=>⟨by rw[(EL l p).2.1],fun g=>(NT.1 g).elim (h z a).1 fun ⟨x,hx,e⟩=>(h z a).2 x hx e⟩⟩
section
variable {W : A4}
variable{m:Dd}{x:Int×Int}
theorem ND(h:x∈oldM W m):∃j,Be W m.A6 j/\x∈treeM W (A8 W j):=by
 by_cases a:∃j,Be W m.A6 j
 ·obtain⟨j,b⟩:=a;unfold oldM at h;rw[Dv b]at h;exact⟨j,b,by rw[Co b.1];exact h⟩
 ·have:AI W m.A6=DH:=(by unfold AI;rw[dif_neg a]);unfold oldM at h;rw[this,AF,if_pos ⟨rfl,rfl⟩]at h;cases h
theorem KV:x∈CC W m↔x∈treeM W m/\x∉oldM W m:=by
 unfold CC BX;rw[List.mem_filter,decide_eq_true_iff]
theorem Vc(a:E9 W){x:Int×Int}:∀(N:Nat) (k:Nat),k<W.pn->(W.A2 k).id<N->x∈treeM W (A8 W k)->∃i,i<W.pn/\x∈CC W (A8 W i)
 | 0,k,hk,h1,_=>by have:=a.Ap.EM.pos k hk;omega
 | N+1,k,hk,h1,hx=>by
  by_cases d:x∈oldM W (A8 W k)
  ·obtain⟨j,c,b⟩:=ND d;have f:=a.Ap.EM.less k hk;have e:=c.2.1;rw[Co hk]at e;have g:(Me (W.A2 k)).A6=(W.A2 k).A6:=rfl;exact Vc a N j c.1 (by omega) b
  ·exact⟨k,hk,KV.2 ⟨hx,d⟩⟩
theorem zFY(a:E9 W)(h:x∈oldM W m):∃i,i<W.pn/\x∈CC W (A8 W i):=by
 obtain⟨j,b,c⟩:=ND h;have:=a.Ap.EM.pos j b.1;exact Vc a ((W.A2 j).id.toNat+1) j b.1 (by omega) c
variable{y:Int×Int}
theorem E9.apart'(b:E9 W){j:Nat}(hi:i<memN W)(f:j<memN W)(a:i≠j)(c:x∈CC W (A8 W i))(d:y∈CC W (A8 W j)):x.1≠y.1:=by
 rcases Nat.lt_or_gt_of_ne a with h | h
 ·exact fun e=>b.C7 j f i h y d x c e.symm
 ·exact b.C7 i hi j h x c y d
theorem X5(b:E9 W)(j:k<W.sn)(e:x∈CC W (A8 W (W.pn+k))){m:Nat}(f:m<memN W)(c:m≠W.pn+k)(g:y∈treeM W (A8 W m)):x.1≠y.1:=by
 have a:W.pn+k<memN W:=by unfold memN;omega
 by_cases d:y∈oldM W (A8 W m)
 ·obtain⟨i,hi,h⟩:=zFY b d;exact b.apart' a (by unfold memN;omega) (by omega) e h
 ·exact b.apart' a f (Ne.symm c) e (KV.2 ⟨g,d⟩)
end
theorem zBT(c:V.pn=W.pn)(hs:V.A2=W.A2)(x:Int):AI V x=AI W x:=by
 have hn:∀k,Be V x k↔Be W x k:=fun k=>by unfold Be;rw[c,hs]
 by_cases b:∃k,Be W x k
 ·obtain⟨k,a⟩:=b;rw[Dv a,Dv ((hn k).2 a),hs]
 ·unfold AI;rw[dif_neg b,dif_neg fun ⟨k,a⟩=>b ⟨k,(hn k).1 a⟩]
section
variable {W : A4}
def DT(W:A4)(k:Nat)(r b:Int)(n:Nat)(f g:Nat->Int):A4:={W with A1:=fun j=>if j=k then {W.A1 k with rs:=r,rb:=b,dn:=n,ds:=f,db:=g}else W.A1 j}
variable{r b:Int}{n:Nat}{f g:Nat->Int}
theorem Lj(h:i≠W.pn+k):A8 (DT W k r b n f g) i=A8 W i:=by
 by_cases a:i<W.pn
 ·rw[Co a];exact Co a
 ·obtain⟨j,rfl⟩:∃j,i=W.pn+j:=⟨i - W.pn,by omega⟩;rw[Cp];refine(Cp (DT W k r b n f g) j).trans ?_;show LA W.time (if j=k then _ else W.A1 j)=_;rw[if_neg (by omega)]
theorem LW:A8 (DT W k r b n f g) (W.pn+k)=⟨(W.A1 k).A6,W.time,r,b,n,f,g⟩:=by
 refine(Cp (DT W k r b n f g) k).trans ?_;show LA W.time (if k=k then _ else W.A1 k)=_;rw[if_pos rfl];rfl
theorem R2(x:Int):AI (DT W k r b n f g) x=AI W x:=zBT rfl rfl x
theorem Ni(m:Dd):oldM (DT W k r b n f g) m=oldM W m:=by unfold oldM;rw[R2];rfl
theorem E9.root(p:E9 W)(Z:k<W.sn)(R:Ay W.pool r b)(Q:Dy n f g (BX (oldM W (A8 W (W.pn+k))) (AF W.pool r b)))
 (P:Fy (AF W.pool r b) (oldM W (A8 W (W.pn+k))) (AI W (W.A1 k).A6).time W.time) (C:∀x,x∈AF W.pool r b->x∉oldM W (A8 W (W.pn+k))->∀m,m<memN W->m≠W.pn+k->∀y,y∈CC W (A8 W m)->x.1≠y.1):E9 (DT W k r b n f g):=by
 have l:oldM (DT W k r b n f g) ⟨(W.A1 k).A6,W.time,r,b,n,f,g⟩=oldM W (A8 W (W.pn+k)):=by rw[Ni,Cp];rfl
 have a:∀i,i<memN W->(i≠W.pn+k->Df W i)->Df (DT W k r b n f g) i:=fun i hi h=>by
  by_cases e:i=W.pn+k
  ·subst e;unfold Df;rw[LW,l];exact Q
  ·unfold Df;rw[Lj e,Ni];exact h e
 have s:∀i,((DT W k r b n f g).A1 i).name=(W.A1 i).name/\((DT W k r b n f g).A1 i).A6=(W.A1 i).A6/\((DT W k r b n f g).A1 i).origin=(W.A1 i).origin:=fun i=>by
  show(if i=k then _ else W.A1 i:Ad).name=_/\(if i=k then _ else W.A1 i:Ad).A6=_/\(if i=k then _ else W.A1 i:Ad).origin=_;by_cases e:i=k
  ·subst e;rw[if_pos rfl];exact⟨rfl,rfl,rfl⟩
  ·rw[if_neg e];exact⟨rfl,rfl,rfl⟩
 have v:∀x,BP (DT W k r b n f g) x↔BP W x:=fun x=>exists_congr fun j=>and_congr_right fun _=>by rw[(s j).1]
 have z:memN (DT W k r b n f g)=memN W:=rfl;have A:∀i,i<W.sn->W.pn+i<memN W:=fun i hi=>by unfold memN;omega
 refine⟨p.right,?_,fun i hi=>?_,p.A2,fun i hi=>⟨?_,a _ (A i hi) fun _=>(p.A1 i hi).2⟩,fun i hi=>a i (by unfold memN;have:i<W.pn:=hi;omega) fun _=>p.dead i hi,fun i hi=>?_,?_⟩
 ·obtain⟨D,E,F,G,H,I⟩:=p.Ap;refine⟨D,E,F,G,fun i hi=>?_,fun i hi=>?_⟩
  ·have q:=H i hi;unfold Gt at q ⊢;rw[(s i).1,(s i).2.1,(s i).2.2,(s (i - 1)).1];exact q
  ·obtain⟨⟨J,K,L,M,N,O⟩,c,d⟩:=I i hi;exact⟨⟨J,K,L,M,N,(v _).2 O⟩,c,d⟩
 ·rw[(s i).1,(s i).2.1,(s i).2.2];exact F3.same (W:=W) (V:=DT W k r b n f g) rfl rfl (p.lines i hi)
 ·by_cases e:i=k
  ·subst e;show Ay W.pool (if i=i then _ else W.A1 i:Ad).rs (if i=i then _ else W.A1 i:Ad).rb;rw[if_pos rfl];exact R
  ·show Ay W.pool (if i=k then _ else W.A1 i:Ad).rs (if i=k then _ else W.A1 i:Ad).rb;rw[if_neg e];exact(p.A1 i hi).1
 ·by_cases e:i=W.pn+k
  ·subst e;unfold Ek;rw[LW,l];show Fy _ _ (AI (DT W k r b n f g) (W.A1 k).A6).time _;rw[R2];exact P
  ·have q:=p.born i hi;unfold Ek at q ⊢;rw[Lj e,Ni,R2];exact q
 ·have o:∀i,i≠W.pn+k->CC (DT W k r b n f g) (A8 (DT W k r b n f g) i)=CC W (A8 W i):=fun i e=>by
   unfold CC;rw[Lj e,Ni];rfl
  have t:∀x,x∈CC (DT W k r b n f g) (A8 (DT W k r b n f g) (W.pn+k))->x∈AF W.pool r b/\x∉oldM W (A8 W (W.pn+k)):=fun x u=>by
   rw[LW]at u;have:=KV.1 u;rw[l]at this;exact this
  intro i hi j S x u y w;by_cases e:i=W.pn+k
  ·subst e;obtain⟨T,U⟩:=t x u;rw[o j (by omega)]at w;exact C x T U j (by rw[z]at hi;omega) (by omega) y w
  ·rw[o i e]at u;by_cases B:j=W.pn+k
   ·subst B;obtain⟨X,Y⟩:=t y w;exact fun h=>C y X Y i hi e x u h.symm
   ·rw[o j B]at w;exact p.C7 i hi j S x u y w
theorem E9.deadOf(a:E9 W)(hi:i<memN W):Df W i:=by
 by_cases b:i<W.pn
 ·exact a.dead i b
 ·obtain⟨j,rfl⟩:∃j,i=W.pn+j:=⟨i - W.pn,by omega⟩;exact(a.A1 j (by unfold memN at hi;omega)).2
end
section
variable {p q : A5} {xs xb b ys yb ms mb gs gb : Int} {n : Nat}
def Frs(p:A5)(b:Int)(z:Int×Int):Prop:=FM p z.1/\z.2=b
theorem New.mem(h:New p xs xb n b q ys yb ms mb gs gb)(f:Ai p xs xb)(hn:n<64){z:Int×Int}(v:z∈AF q ys yb):z∈AF p xs xb\/Frs p b z:=by
 have r:=h.ok f hn;rcases(GD r).1 v with⟨rfl,a⟩ | ⟨i,hi,rfl,a⟩ | ⟨k,t,rfl,a⟩
 ·rcases h.root with⟨e,-⟩ | ⟨d,c,o,-⟩
  ·exact absurd e a
  ·refine .inr ⟨c,?_⟩;have:=d.1.2.2.2;rw[o]at this;exact this.symm
 ·obtain⟨j,l⟩:=h.nodes hi;rw[j,l]at a ⊢;by_cases e:i=n / 8
  ·subst e;have m:AX p xs xb n 0 ms (n / 8)=ms:=if_pos rfl;have s:AW p xs xb n 0 mb (n / 8)=mb:=if_pos rfl;rw[m,s]at a ⊢;rcases h.node with⟨g,-⟩ | ⟨d,c,o,-⟩
   ·exact absurd g a
   ·refine .inr ⟨c,?_⟩;have:=d.1.2.2.2;rw[o]at this;exact this.symm
  ·obtain⟨m,s⟩:=E6 (p:=p) (xs:=xs) (xb:=xb) (x:=ms) e;have u:=(E6 (p:=p) (xs:=xs) (xb:=xb) (x:=mb) e).2;rw[m,u]at a ⊢;exact .inl ((GD f).2 (.inr (.inl ⟨i,hi,rfl,a⟩)))
 ·obtain⟨j,l⟩:=h.pages f t;rw[j,l]at a ⊢;by_cases e:k=n
  ·rw[if_pos e,if_pos e]at a ⊢;rcases h.AA with g | ⟨d,c⟩
   ·exact absurd g a
   ·exact .inr ⟨c,h.born.resolve_left a⟩
  ·rw[if_neg e,if_neg e]at a ⊢;exact .inl ((GD f).2 (.inr (.inr ⟨k,t,rfl,a⟩)))
theorem New.fresh_in(h:New p xs xb n b q ys yb ms mb gs gb)(i:Ai p xs xb)(hn:n<64){j:Nat}(k:q.s j≠p.s j):∃c,((j:Int),c)∈AF q ys yb:=by
 have g:=h.ok i hn;rcases(h.only j).resolve_left k with⟨e,a⟩ | ⟨e,a⟩ | ⟨e,a⟩
 ·obtain⟨d,f⟩:=h.pages i hn;rw[if_pos rfl]at d f;exact⟨gb,(GD g).2 (.inr (.inr ⟨n,hn,by rw[d,f,e],by rw[d,f];exact a⟩))⟩
 ·obtain⟨d,f⟩:=h.nodes (show n / 8<8 by omega);rw[show AX p xs xb n 0 ms (n / 8)=ms from if_pos rfl]at d;rw[show AW p xs xb n 0 mb (n / 8)=mb from if_pos rfl]at f;exact⟨mb,(GD g).2 (.inr (.inl ⟨n / 8,by omega,by rw[d,f,e],by rw[d,f];exact a⟩))⟩
 ·exact⟨yb,(GD g).2 (.inl ⟨by rw[e],a⟩)⟩
end
variable{x:Int×Int}
theorem zAg(l:List (Int×Int))(t:Int):x∈Bj (AK l) (AM l) t l.length↔x∈l/\t<x.2:=by
 rw[QG];unfold E5;rw[List.mem_filter,decide_eq_true_iff]
theorem QK(l:List (Int×Int))(t:Int):∀k,k<=l.length->C5 (AK l) (AM l) t k=(l.take k).filter fun x=>decide (¬t<x.2)
 | 0,_=>by simp[C5]
 | k+1,hk=>by
  have a:k<l.length:=(by omega);unfold C5;rw[QK l t k (by omega),List.take_succ_eq_append_getElem a,List.filter_append,List.filter_cons];simp only[List.filter_nil];unfold AK AM;rw[Cz a];by_cases h:t<(l[k]).2
  ·rw[if_pos h,if_neg (by simpa using h),List.append_nil]
  ·rw[if_neg h,if_pos (by simpa using h)]
theorem zEt(l:List (Int×Int))(t:Int):x∈C5 (AK l) (AM l) t l.length↔x∈l/\¬t<x.2:=by
 rw[QK l t _ (Nat.le_refl _),List.take_length,List.mem_filter,decide_eq_true_iff]
theorem zAL(t:Int)(h:l.Nodup):(C5 (AK l) (AM l) t l.length).Nodup:=by
 rw[QK l t _ (Nat.le_refl _),List.take_length];exact h.filter _
theorem zBW(b:AY p){m:List (Int×Int)}(f:∀x,x∈l->B5 p x.1 x.2)(c:l.Nodup)(d:m.Nodup)(a:m.length<=200)(h:∀x,x∈l↔x∈m):Dy l.length (AK l) (AM l) m:=by
 have e:l.length=m.length:=((List.perm_ext_iff_of_nodup c d).2 h).length_eq;refine⟨L7 b f c (by omega),L7 b (fun x g=>f x ((h x).2 g)) d a,e,fun i hi=>?_⟩;rw[IC];unfold AK AM;rw[Cz hi];exact(h _).1 (List.getElem_mem hi)
theorem zDn{n:Nat}{f g:Nat->Int}(h:Dy n f g l):(∀x,x∈Bx n f g↔x∈l)/\(Bx n f g).Nodup:=by
 have p:=h.symm;refine⟨fun x=>⟨fun o=>?_,fun o=>?_⟩,?_⟩
 ·obtain⟨j,c,rfl⟩:=List.mem_map.1 o;have:=h.2.2.2 j (List.mem_range.1 c)
  rwa [IC]at this
 ·obtain⟨j,c,e⟩:=List.getElem_of_mem o;obtain⟨i,hi,d,k⟩:=p.2.2.2 j c;unfold AK at d;unfold AM at k;rw[Cz c,e]at d k;exact List.mem_map.2 ⟨i,List.mem_range.2 hi,by rw[d,k]⟩
 ·unfold Bx List.Nodup;rw[List.pairwise_map];refine List.nodup_range.imp_of_mem fun {a b} q r m e=>m ?_
  exact h.1.2.2.inj (List.mem_range.1 q) (List.mem_range.1 r) (Prod.mk.inj e).1
section
variable {W : A4}
theorem zEN(h:BE W)(x:Int):(AI W x).time<W.time:=by
 by_cases b:∃j,Be W x j
 ·obtain⟨j,a⟩:=b;rw[Dv a];exact(h.Ap.2.2.2.2.2 j a.1).1.2.2.2.1
 ·unfold AI;rw[dif_neg b];have:1<=W.time:=h.Ap.1.1;show(0:Int)<_;omega
theorem zF8(h:BE W)(hk:k<W.sn){y:D4}{n:Nat}{ms mb gs gb:Int}(hn:n<64)(ho:y.old=BN W.pool (W.A1 k).rs (W.A1 k).rb n 3)(E:New W.pool (W.A1 k).rs (W.A1 k).rb n W.time y.pool y.rs y.rb ms mb gs gb) :
 BE (Cu W k y)/\(∀m,m<memN W->m≠W.pn+k->Ei W.pool (Cu W k y).pool (A8 W m).rs (A8 W m).rb)/\Ei y.pool (Cu W k y).pool y.rs y.rb:=by
 have hU:=h.toU;have P:=h.right;have I:W.pn+k<memN W:=by unfold memN;omega
 have C:Ai W.pool (W.A1 k).rs (W.A1 k).rb:=⟨P,(h.A1 k hk).1⟩;have H:=E.ok C hn;obtain⟨T,hT⟩:∃l,AF W.pool (W.A1 k).rs (W.A1 k).rb=l:=⟨_,rfl⟩;obtain⟨M,u⟩:∃l,AF y.pool y.rs y.rb=l:=⟨_,rfl⟩;obtain⟨O,K⟩:∃l,oldM W (A8 W (W.pn+k))=l:=⟨_,rfl⟩;obtain⟨t,ht⟩:∃t,(AI W (W.A1 k).A6).time=t:=⟨_,rfl⟩;have pB:t<W.time:=ht▸zEN h _;have eT:treeM W (A8 W (W.pn+k))=T:=by rw[Cp];exact hT
 have hb:∀x,x∈T->x.2<=W.time/\(x∈O↔x.2<=t):=fun x d=>by
  have:=h.born (W.pn+k) I;unfold Ek at this;rw[eT,K]at this;have:=this x d;rw[Cp,<-ht]at *;exact this
 have X:∀x,x∈T->B5 W.pool x.1 x.2:=fun x d=>(EE P C.2 (hT▸d)).1
 have V:∀x,x∈O->B5 W.pool x.1 x.2:=fun x d=>by
  obtain⟨j,hj,g⟩:=ND (K▸d);exact(EE P (PN h (by unfold memN;have:=hj.1;omega)) g).1
 have F:∀x,x∈M->x∈T\/Frs W.pool W.time x:=fun x d=>by rw[<-hT];exact E.mem C hn (u▸d)
 have w:∀x,x∈T->(x∉M↔x∈y.old):=fun x d=>by rw[ho,<-u];exact E.gone C hn (hT▸d)
 have B:∀x,x∈y.old->x∈T:=fun x d=>by rw[<-hT];exact NE C hn (ho▸d)
 have L:∀x z:Int×Int,Frs W.pool W.time x->B5 W.pool z.1 z.2->x.1≠z.1:=fun x z d D=>Iy d.1 D
 have sA:∀x z:Int×Int,B5 W.pool x.1 x.2->B5 W.pool z.1 z.2->x.1=z.1->x=z:=fun x z d D e=>Prod.ext e (by rw[<-d.2.2.2,<-D.2.2.2,e])
 have o:OnW W {W with pool:=y.pool}:=⟨rfl,rfl,rfl,rfl,rfl,⟨Int.le_refl _,h.Ap.1.2⟩,fun i hi=>⟨E.ext.n,fun z D=>by
  have g:=EE P (PN h hi) D;exact⟨E.ext.at g.1,fun e=>g.2.2 ((E.ext.has _).1 e)⟩⟩⟩
 have hA:=o.specU hU E.right;have oA:oldM {W with pool:=y.pool} (A8 {W with pool:=y.pool} (W.pn+k))=O:=by rw[<-K];exact o.oldM _
 have aA:∀x,AI {W with pool:=y.pool} x=AI W x:=fun x=>rfl
 obtain⟨d1,d2⟩:=zDn (show Dy (W.A1 k).dn (W.A1 k).ds (W.A1 k).db (BX O T)by
  have:=hU.deadOf I;unfold Df at this;rw[K,eT,Cp]at this;exact this)
 have A:∀(l m:List (Int×Int)) x,x∈BX l m↔x∈l/\x∉m:=fun l m x=>by unfold BX;rw[List.mem_filter,decide_eq_true_iff]
 have fA:∀x,x∈Jy W k y↔x∈y.old/\¬t<x.2:=fun x=>by unfold Jy;rw[ht];exact zEt _ _
 have Q:∀x,x∈DR W k y↔x∈y.old/\t<x.2:=fun x=>by unfold DR;rw[ht];exact zAg _ _
 have aB:y.old.Nodup:=ho▸X4 C hn;have vA:O.Nodup:=by
  rw[<-K];exact L8 P (LU h.A2 _)
 have N:O.length<=200:=by rw[<-K];exact Nat.le_trans (DX ..) (by omega)
 have hD:Dy (CS W k y).length (AK (CS W k y)) (AM (CS W k y)) (BX O M):=by
  have d:∀x,x∈CS W k y↔x∈BX O M:=fun x=>by
   unfold CS;rw[List.mem_append,d1,A,A,fA];constructor
   ·rintro(⟨G,Y⟩ | ⟨G,Y⟩)
    ·exact⟨G,fun e=>(F x e).elim Y fun f=>L x x f (V x G) rfl⟩
    ·have:=B x G;exact⟨((hb x this).2).2 (by omega),(w x this).2 G⟩
   ·rintro⟨G,Y⟩;by_cases e:x∈T
    ·exact .inr ⟨(w x e).1 Y,by have:=((hb x e).2).1 G;omega⟩
    ·exact .inl ⟨G,e⟩
  refine zBW P (fun x g=>V x ((A _ _ _).1 ((d x).1 g)).1) ?_ (vA.filter _) (Nat.le_trans (List.length_filter_le _ _) N) d;unfold CS;refine List.nodup_append.2 ⟨d2,?_,fun x g z g' e=>?_⟩
  ·unfold Jy;exact zAL _ aB
  ·subst e;exact((A _ _ _).1 ((d1 x).1 g)).2 (B x ((fA x).1 g').1)
 have hV:=hA.root (k:=k) (r:=y.rs) (b:=y.rb) (n:=(CS W k y).length) (f:=AK (CS W k y)) (g:=AM (CS W k y)) hk H.2 (by rw[oA];show Dy _ _ _ (BX O (AF y.pool y.rs y.rb));rw[u];exact hD)
  (by
   rw[oA,aA];show Fy (AF y.pool y.rs y.rb) O (AI W (W.A1 k).A6).time W.time;rw[u,ht];intro x d;rcases F x d with g | g
   ·exact hb x g
   ·have:=g.2;exact⟨by omega,fun e=>absurd rfl (L x x g (V x e)),fun e=>by omega⟩)
  (fun x d jA m p R z D=>by
   have tA:x∈M:=u▸d;rw[oA]at jA;have J:z∈CC W (A8 W m):=by
    have e1:CC {W with pool:=y.pool} (A8 {W with pool:=y.pool} m)=CC W (A8 W m):=by
     unfold CC;rw[o.treeM p,o.oldM]
    rwa [e1]at D
   rcases F x tA with g | g
   ·exact hU.apart' I p (Ne.symm R) (KV.2 ⟨eT▸g,by rw[K];exact jA⟩) J
   ·exact L x z g (EE P (PN h p) (KV.1 J).1).1)
 have kA:∀x,x∈DR W k y->x∈CC W (A8 W (W.pn+k)):=fun x d=>by
  obtain⟨G,Y⟩:=(Q x).1 d;have Z:=B x G;exact KV.2 ⟨eT▸Z,by rw[K];exact fun e=>by have:=((hb x Z).2).1 e;omega⟩
 have pA:CP y.pool (DR W k y):=by
  refine(show CP y.pool y.old by rw[ho];exact E.hold C hn).sub ?_;have:=MO (AK y.old) (AM y.old) (AI W (W.A1 k).A6).time y.old.length
  rwa [XC]at this
 have gA:∀m,m<memN W->m≠W.pn+k->Ei y.pool (BH y.pool (DR W k y)) (A8 W m).rs (A8 W m).rb:=fun m p e=>XS fun z D=>by
  have J:z∈treeM W (A8 W m):=(by rwa [(o.tree m p).tree]at D);exact⟨((o.tree m p).2 z J).2,fun x d=>X5 hU hk (kA x d) p e J⟩
 have U:Ei y.pool (BH y.pool (DR W k y)) y.rs y.rb:=XS fun z D=>⟨(EE E.right H.2 D).2.2,fun x d e=>by
  obtain⟨G,Y⟩:=(Q x).1 d;have Z:=B x G;rcases F z (u▸D)with g | g
  ·exact((w x Z).2 G) (sA x z (X x Z) (X z g) e▸(u▸D))
  ·exact L z x g (X x Z) e.symm⟩
 have S:OnW (DT {W with pool:=y.pool} k y.rs y.rb (CS W k y).length (AK (CS W k y)) (AM (CS W k y))) (Cu W k y):=⟨rfl,rfl,rfl,rfl,rfl,⟨Int.le_refl _,h.Ap.1.2⟩,fun i hi=>by
  by_cases e:i=W.pn+k
  ·subst e;have:=LW (W:={W with pool:=y.pool}) (k:=k) (r:=y.rs) (b:=y.rb) (n:=(CS W k y).length) (f:=AK (CS W k y)) (g:=AM (CS W k y));rw[this];exact U
  ·have:=Lj (W:={W with pool:=y.pool}) (k:=k) (r:=y.rs) (b:=y.rb) (n:=(CS W k y).length) (f:=AK (CS W k y)) (g:=AM (CS W k y)) (i:=i) e;rw[this];exact gA i hi e⟩
 refine⟨(S.specU hV pA.last).spec fun i hi=>?_,fun m p e=>?_,U⟩;rotate_left
 ·have a:=o.tree m p;have c:=gA m p e;exact⟨c.1.trans a.1,fun z D=>⟨((c.2 z (by rw[a.tree];exact D)).1).trans (a.2 z D).1,(c.2 z (by rw[a.tree];exact D)).2⟩⟩
 have hi':i<W.pool.n:=by
  have:i<(BH y.pool (DR W k y)).n:=hi;rw[(EL _ _).1,E.ext.n]at this;exact this
 have ex:(∃m,m<memN (Cu W k y)/\∃b,((i:Int),b)∈treeM (Cu W k y) (A8 (Cu W k y) m))↔(∃m,m<memN W/\m≠W.pn+k/\∃b,((i:Int),b)∈treeM W (A8 W m))\/∃b,((i:Int),b)∈M:=by
  have ek:treeM (Cu W k y) (A8 (Cu W k y) (W.pn+k))=M:=by
   rw[S.treeM (i:=W.pn+k) I,LW (W:={W with pool:=y.pool})];exact u
  have em:∀m,m<memN W->m≠W.pn+k->treeM (Cu W k y) (A8 (Cu W k y) m)=treeM W (A8 W m):=fun m p e=>by
   rw[S.treeM (i:=m) p,Lj (W:={W with pool:=y.pool}) e];exact o.treeM p
  constructor
  ·rintro⟨m,p,c,v⟩;by_cases e:m=W.pn+k
   ·rw[e,ek]at v;exact .inr ⟨c,v⟩
   ·rw[em m p e]at v;exact .inl ⟨m,p,e,c,v⟩
  ·rintro(⟨m,p,e,c,v⟩ | ⟨c,v⟩)
   ·exact⟨m,p,c,by rw[em m p e];exact v⟩
   ·exact⟨W.pn+k,I,c,by rw[ek];exact v⟩
 have rA:(Cu W k y).pool.s=y.pool.s:=(EL _ _).2.1;rw[ex,rA];show _↔_/\¬Has (BH y.pool (DR W k y)).hn (BH y.pool (DR W k y)).h (i:Int);rw[NT];constructor
 ·rintro(⟨m,p,R,c,v⟩ | ⟨c,v⟩)
  ·have q:=(h.reach i hi').1 ⟨m,p,c,v⟩;refine⟨by rw[E.ext.s i q.1];exact q.1,fun g=>g.elim (fun g=>q.2 ((E.ext.has _).1 g)) fun ⟨x,d,e⟩=>X5 hU hk (kA x d) p R v e⟩
  ·have g:=EE E.right H.2 (u▸v:((i:Int),c)∈AF y.pool y.rs y.rb);refine⟨by have:=Rw g.1;rwa [Int.toNat_natCast]at this,fun f=>?_⟩;exact(U.2 _ (u▸v)).2 (NT.2 f)
 ·rintro⟨q1,q2⟩;by_cases e:y.pool.s i=W.pool.s i
  ·rw[e]at q1;obtain⟨m,p,c,v⟩:=(h.reach i hi').2 ⟨q1,fun g=>q2 (.inl ((E.ext.has _).2 g))⟩;by_cases e':m=W.pn+k
   ·subst e';rw[eT]at v;by_cases g:((i:Int),c)∈M
    ·exact .inr ⟨c,g⟩
    ·have go:=(w _ v).1 g;by_cases gt:t<c
     ·exact absurd (.inr ⟨_,(Q _).2 ⟨go,gt⟩,rfl⟩) q2
     ·have d:((i:Int),c)∈O:=((hb _ v).2).2 (by show c<=t;omega);obtain⟨j,hj,f⟩:=ND (K▸d);exact .inl ⟨j,by unfold memN;have:=hj.1;omega,by have:=hj.1;omega,c,f⟩
   ·exact .inl ⟨m,p,e',c,v⟩
  ·obtain⟨c,v⟩:=E.fresh_in C hn e;exact .inr ⟨c,u▸v⟩
end
theorem zF9{q:A5}{ys yb:Int}(c:Ext p q)(d:Ai p xs xb)(e:k<64)(a:BS q ys yb k=BS p xs xb k)(b:BY q ys yb k=BY p xs xb k):lwD p xs xb k=lwD q ys yb k:=by
 unfold lwD;rw[a,b];by_cases hn:Nil (BS p xs xb k) (BY p xs xb k)
 ·rw[if_pos hn,if_pos hn]
 ·rw[if_neg hn,if_neg hn,c.at ((Ip d e).resolve_left hn).1]
theorem New.same{q:A5}{b ys yb ms mb gs gb:Int}{n:Nat}(h:New p xs xb n b q ys yb ms mb gs gb)(c:Ai p xs xb):∀k:Nat,k<64->(k:Int)≠(n:Int)->lwD p xs xb k=lwD q ys yb k:=fun k d e=>by
 have a:=h.pages c d;rw[if_neg (by omega),if_neg (by omega)]at a;exact zF9 h.ext c d a.1 a.2
end Go.Proofs.YtehdoekmnicdiaaGreatDoor
