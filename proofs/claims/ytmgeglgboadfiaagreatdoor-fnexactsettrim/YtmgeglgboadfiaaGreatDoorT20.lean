/- The deed of impl.SetTrim. -/
import Derived.Test.YtmgeglgboadfiaaGreatDoorT19
set_option linter.unusedVariables false
set_option maxRecDepth 20000
set_option maxHeartbeats 4000000
namespace Go.Proofs.YtmgeglgboadfiaaGreatDoor
open Go.RowKit
theorem zI3(p:Nat->Addr)(C k B0 B1:Nat)(z0 z1 z2 z3:Value)(W:zH)(name:ByteArray)(zRV:Int)(w:World)(hE:zEp w p)(hI:zAu W)(ht:zB4 (zN W (W.zRS k).zRT).time)(hx:(Lit.int .i64 (W.zRS k).zRT).wf=true)(hk:zFe W name k)(hD:(W.zRS k).dn<=1048576)(jB:C<w.heap.size)(k0:w.cell? ⟨B0,0,none⟩=some (.string name))(l0:B0<C)(k1:w.cell? ⟨B1,0,none⟩=some (.int .i64 zRV))(l1:B1<C)
  (ho:qR w (C+1) w.heap.size z0 z1 z2 z3 W) (hC:yn w C z0 z1 (.int .i64 W.time) (.int .i64 W.next) z2 z3 (.int .i64 0) (.int .i64 0) .nilIface) :
  Calls Tryz.prog 47 #[.pointer (some ⟨C,0,none⟩),.pointer (some ⟨B0,0,none⟩),.pointer (some ⟨B1,0,none⟩)] w (zLH p (zBA W k (zAJ W.zRQ (W.zRS k).rs (W.zRS k).rb zRV W.time)) C w):=by
 have h8:=hI.zRa.zRS.1;have cB:=hk.1;have HC:=zB hC;have HO:=zB ho;obtain⟨bs,o2,kA,mA⟩:∃bs o2,Hid (∃nb nv,zAE w bs o2 nb nv (W.zRS k))/\Hid (∀w',Below w.heap.size w w'->Calls Tryz.prog 37 #[.pointer (some ⟨C,0,none⟩),.string name] w' fun e cA=>e = .returned (.pointer (some ⟨bs,o2,none⟩))/\Below w'.heap.size w' cA):=by
  obtain⟨P,Q,R,pA,rA⟩:=ho;have gB:=pA.isIn;obtain⟨rB,kb,kv,hS,tB,nB⟩:=gB.zRS;obtain⟨off,c,rfl,lA⟩:=hS.nth cB;refine⟨rB,off+k*6,zB ⟨_,_,lA⟩,zB (fun w' iA=>?_)⟩;obtain⟨c4,-⟩:=(hC.zRJ iA).2.2.2.2.1;refine(zJI C (C+1) w.heap.size W.sn k c _ W.zRS name w' c4 ((hS.at (lo:=C+1) (hi:=w.heap.size) (fun j hj=>rA j (Or.inr (Or.inl (nB j hj))))).zRJ iA) h8 cB hk.2.1 hk.2.2).mono ?_;rintro e w2 ⟨⟨b,kB,e1,rfl⟩,gA⟩;simp only[Option.some.injEq,Addr.mk.injEq,and_true]at e1;obtain⟨rfl,rfl⟩:=e1;exact⟨rfl,gA⟩
 obtain⟨nb,nv,lA⟩:=kA.out;clear kA;have kA:=zB lA;have eA:zy w (C+1) w.heap.size z0 z1 W.zRQ:=ho.own.at.zRQ;obtain⟨a0,c0,a1,c1,rfl,rfl⟩:=eA.form;obtain⟨y,hy⟩:∃y,y=zAJ W.zRQ (W.zRS k).rs (W.zRS k).rb zRV W.time:=⟨_,rfl⟩;have oB:=zB (show ∀w',Below w.heap.size w w'->Calls Tryz.prog 48 #[.agg #[.slice a0 W.zRQ.n c0,.slice a1 W.zRQ.hn c1],.agg #[.int .i64 (W.zRS k).rs,.int .i64 (W.zRS k).rb],.int .i64 zRV,.int .i64 W.time] w' (zHR y w')from fun w' hb=>by
  rw[hy];exact zGm _ _ (C+1) w.heap.size W.zRQ (W.zRS k).rs (W.zRS k).rb zRV W.time w' (eA.zRJ hb))
 have HG:=zB (show zG2 y by rw[hy];exact zGT _ _ _ _ _);rw[<-hy];have fB:=zB (show ∀(w' cA:World) (v0 v1 vo:Value) (lo hi:Nat),Below w.heap.size w w'->Below w'.heap.size w' cA->zt cA lo hi v0 v1 y.zRQ->w'.heap.size<=lo->hi<=cA.heap.size->zw cA w'.heap.size vo y.old->Calls Tryz.prog 35 #[.pointer (some ⟨C,0,none⟩),.string name,.agg #[v0,v1,.int .i64 y.rs,.int .i64 y.rb,vo,.int .i64 y.code]] cA (zLH p (zBA W k y) C cA)from fun w' cA v0 v1 vo lo hi hb iA hp h1 h2 hr=>by
  have gA:=zA hb iA;have hz:=hb.size;have vB:=iA.size;have mB:=gA.size;refine zP6 p C k w.heap.size lo hi _ _ _ _ v0 v1 vo W y name cA (hE.zRJ gA) hI HG.out ht hx hk hD jB mB (ho.zRJ gA) (hC.zRJ gA) hp (by omega) h2 ?_;obtain⟨bb,h3,aB⟩:=zw.own hr (by have:=HG.out.2.1;unfold maxLen;omega);exact h3.at (fun h0=>⟨by have:=(aB h0).2.1;omega,(aB h0).2.2⟩))
 have nA:Below w.heap.size w w.drew:=(Below.refl _ _).drew;have aA:=zB (show ∀w',Below w.heap.size w w'->(fun w':World=>w'.cell? ⟨B0,0,none⟩=some (.string name)/\w'.cell? ⟨B1,0,none⟩=some (.int .i64 zRV)) w' from fun w' hb=>⟨(hb.cell (zD k0)).trans k0,(hb.cell (zD k1)).trans k1⟩);have fA:=zB (show ∀w',Below C w w'->(fun w':World=>w'.cell? ⟨B0,0,none⟩=some (.string name)/\w'.cell? ⟨B1,0,none⟩=some (.int .i64 zRV)) w' from fun w' hb=>⟨(hb.cell (p:=⟨B0,0,none⟩) l0).trans k0,(hb.cell (p:=⟨B1,0,none⟩) l1).trans k1⟩);clear hE hI ht hx hk hD ho hC eA lA hy;go_enter Tryz.func47,Tryz.ntmps47;go_upto_region 0 with fail;clear k0 k1;refine wp_region_held_drew (S:=(fun w':World=>w'.cell? ⟨B0,0,none⟩=some (.string name)/\w'.cell? ⟨B1,0,none⟩=some (.int .i64 zRV))) (by kernel_rfl) (aA.out _ nA) (fun hHeld=>?_);have vA:=nA;generalize w.drew=q0 at hHeld nA vA ⊢;refine tk 0 (h:=tk 1 (h:=tk 2 (h:=tk 3 (h:=tk 4 (h:=tk 5 (h:=tk 7 (h:=tk 8 (h:=tk 13 (h:=tk 14 (h:=tk 15 (h:=tk 16 (h:=tk 17 (h:=?_)))))))))))));refine zJQ [6,9,10,11,12,18] (fun i=>if i=10 then [9] else if i=11 then [10] else if i=12 then [11] else []) (fun i=>i+4) (fun i v w'=>(i=6->v = .agg #[.slice a0 W.zRQ.n c0,.slice a1 W.zRQ.hn c1])/\(i=9->v = .pointer (some ⟨bs,o2,none⟩))/\(i=10->v = .pointer (some ⟨bs,o2,none⟩))/\(i=11->v = .pointer (some ⟨bs,o2+3,none⟩))/\(i=12->v = .agg #[.int .i64 (W.zRS k).rs,.int .i64 (W.zRS k).rb])/\(i=18->v = .int .i64 W.time)) 2 (G:=fun w'=>Below w.heap.size w w') (by kernel_rfl) (by decide) (by decide) (by decide) ?_ (fun _ _ h t=>zA h t) (by assumption) vA ?_ ?_
 ·intro i v w' cA hf t;exact hf
 ·intro i hi x w2 hS hG hD K hK;simp only[List.mem_cons,List.not_mem_nil,or_false]at hi;rcases hi with rfl | rfl | rfl | rfl | rfl | rfl
  ·refine wpOp_step (zAW rfl) (fun K' bA=>?_);simp only[qb,Act.put,Nat.reduceAdd,s1,s2,s3];obtain⟨⟨c0,-⟩,⟨c1,-⟩,⟨c2,-⟩,-⟩:=HC.out.zRJ hG;go_simp;refine bA _ _ (hK.out _ _ w2 ?_ (aA.out _ (zA hG (Below.refl _ _))) ⟨fun _=>rfl,fun e=>absurd e (by decide),fun e=>absurd e (by decide),fun e=>absurd e (by decide),fun e=>absurd e (by decide),fun e=>absurd e (by decide)⟩ (Below.refl _ _));simp only[qb,Act.put,Nat.reduceAdd,s1,s2,s3]
  ·refine wpOp_step (zAW rfl) (fun K' bA=>?_);simp only[qb,Act.put,Nat.reduceAdd,s1,s2,s3];go_simp;go_at_call 37;refine(mA.out _ hG).mono ?_;rintro e w3 ⟨rfl,jA⟩;refine bA _ _ (hK.out _ _ w3 ?_ (aA.out _ (zA hG jA)) ⟨fun e=>absurd e (by decide),fun _=>rfl,fun e=>absurd e (by decide),fun e=>absurd e (by decide),fun e=>absurd e (by decide),fun e=>absurd e (by decide)⟩ jA);simp only[qb,Act.put,Nat.reduceAdd,s1,s2,s3]
  ·refine wpOp_step (zAW rfl) (fun K' bA=>?_);simp only[qb,Act.put,Nat.reduceAdd,s1,s2,s3];have e9:=(hD 9 (by decide)).2.1 rfl;simp only[e9];go_simp;refine bA _ _ (hK.out _ _ w2 ?_ (aA.out _ (zA hG (Below.refl _ _))) ⟨fun e=>absurd e (by decide),fun e=>absurd e (by decide),fun _=>rfl,fun e=>absurd e (by decide),fun e=>absurd e (by decide),fun e=>absurd e (by decide)⟩ (Below.refl _ _));simp only[qb,Act.put,Nat.reduceAdd,s1,s2,s3,e9]
  ·refine wpOp_step (zAW rfl) (fun K' bA=>?_);simp only[qb,Act.put,Nat.reduceAdd,s1,s2,s3];have e9:=(hD 10 (by decide)).2.2.1 rfl;simp only[e9];go_simp;refine bA _ _ (hK.out _ _ w2 ?_ (aA.out _ (zA hG (Below.refl _ _))) ⟨fun e=>absurd e (by decide),fun e=>absurd e (by decide),fun e=>absurd e (by decide),fun _=>rfl,fun e=>absurd e (by decide),fun e=>absurd e (by decide)⟩ (Below.refl _ _));simp only[qb,Act.put,Nat.reduceAdd,s1,s2,s3,e9]
  ·refine wpOp_step (zAW rfl) (fun K' bA=>?_);simp only[qb,Act.put,Nat.reduceAdd,s1,s2,s3];have e9:=(hD 11 (by decide)).2.2.2.1 rfl;simp only[e9];obtain⟨q3,-⟩:=(kA.out.zRJ hG).c3;obtain⟨q4,-⟩:=(kA.out.zRJ hG).c4;go_simp;refine bA _ _ (hK.out _ _ w2 ?_ (aA.out _ (zA hG (Below.refl _ _))) ⟨fun e=>absurd e (by decide),fun e=>absurd e (by decide),fun e=>absurd e (by decide),fun e=>absurd e (by decide),fun _=>rfl,fun e=>absurd e (by decide)⟩ (Below.refl _ _));simp only[qb,Act.put,Nat.reduceAdd,s1,s2,s3,e9]
  ·refine wpOp_step (zAW rfl) (fun K' bA=>?_);simp only[qb,Act.put,Nat.reduceAdd,s1,s2,s3];obtain⟨⟨c0,-⟩,⟨c1,-⟩,⟨c2,-⟩,-⟩:=HC.out.zRJ hG;go_simp;refine bA _ _ (hK.out _ _ w2 ?_ (aA.out _ (zA hG (Below.refl _ _))) ⟨fun e=>absurd e (by decide),fun e=>absurd e (by decide),fun e=>absurd e (by decide),fun e=>absurd e (by decide),fun e=>absurd e (by decide),fun _=>rfl⟩ (Below.refl _ _));simp only[qb,Act.put,Nat.reduceAdd,s1,s2,s3]
 ·intro x w2 hS hG hF;have f6:=(hF 6 (by decide)).1 rfl;have f12:=(hF 12 (by decide)).2.2.2.2.1 rfl;have ft:=(hF 18 (by decide)).2.2.2.2.2 rfl;simp only[qb,zAt,if_true,Act.put,Nat.reduceAdd,s1,s2,s3,f6,f12,ft];clear hF f6 f12 ft hHeld;refine rd [19] (rc (fun K hK=>?_) .nil);go_simp;go_at_call 48;refine(oB.out w2 hG).mono ?_;rintro e w3 ⟨v0,v1,vo,lo,hi,rfl,eB,sB,oA,sA,-,jA⟩;obtain⟨b0,d0,b1,d1,rfl,rfl⟩:=oA.at.form;obtain⟨b2,d2,rfl,-⟩:=zW sA;have pB:=zB oA;have lB:=zB sA;have dB:=zA hG jA;clear oA sA
  (try go_wp2_with fail)
  refine hK.out _ _ (aA.out _ dB) ?_;clear hK K;intro hHeld
  try simp only[Act.put,s1,s2,s3]
  refine rd [20] (rc (fun K hK=>?_) .nil);go_simp;go_at_call 35;refine(fB.out w2 w3 _ _ _ lo hi hG jA pB.out eB sB lB.out).mono ?_;rintro e w4 ⟨⟨ve,rfl⟩,iB,dA⟩;have bB:=zB dA;have tA:Below C w w4:=(dB.mono (by omega)).trans iB;clear dA
  (try go_wp2_with fail)
  refine hK.out _ _ (fA.out _ tA) ?_;clear hK K;intro hHeld
  try simp only[Act.put,s1,s2,s3]
  refine wpAnyH_done (by kernel_rfl) ?_ _;clear hHeld;go_wp2_with fail;go_end0;refine⟨⟨_,rfl⟩,tA,bB.out.1,?_⟩;rcases bB.out.2 with h | h
  ·exact Or.inl h
  ·exact Or.inr h
theorem zNj{W:zH}{x:ByteArray}(h:zAP W x):∃k,zFe W x k:=by
 obtain⟨k,hk,hn⟩:=h
 induction k using Nat.strongRecOn with
 | _ k ih=>
  by_cases e:∃j,j<k/\(W.zRS j).name=x
  ·obtain⟨j,hj,hx⟩:=e;exact ih j hj (by omega) hx
  ·exact⟨k,hk,hn,fun j hj hx=>e ⟨j,hj,hx⟩⟩
theorem zH1.all{W:zH}{a b:Prop}{m:Nat}{Q:Nat->Prop}{ei:Nat->Nat}(h:zH1 W a b m Q ei none):∀j,j<m->Q j:=by
 rcases h with⟨_,e⟩ | ⟨_,_,e⟩ | ⟨_,_,_,k,hk,_,_,e⟩ | ⟨_,_,_,h4,_⟩
 ·cases e
 ·cases e
 ·cases e
 ·exact h4
theorem zH1.uniq{W:zH}{a b:Prop}{m:Nat}{Q:Nat->Prop}{ei:Nat->Nat}{r r':Option Nat}(h:zH1 W a b m Q ei r)(h':zH1 W a b m Q ei r'):r=r':=by
 rcases h with⟨h1,e⟩ | ⟨h1,h2,e⟩ | ⟨h1,h2,h3,i,hi,hn,hl,e⟩ | ⟨h1,h2,h3,h4,e⟩
 ·rcases h' with⟨g1,e'⟩ | ⟨g1,g2,e'⟩ | ⟨g1,g2,g3,j,hj,gn,gl,e'⟩ | ⟨g1,g2,g3,g4,e'⟩
  ·rw[e,e']
  ·exact absurd h1 g1
  ·exact absurd h1 g1
  ·exact absurd h1 g1
 ·rcases h' with⟨g1,e'⟩ | ⟨g1,g2,e'⟩ | ⟨g1,g2,g3,j,hj,gn,gl,e'⟩ | ⟨g1,g2,g3,g4,e'⟩
  ·exact absurd g1 h1
  ·rw[e,e']
  ·rcases h2 with h | h
   ·exact absurd g2 h
   ·exact absurd h g3
  ·rcases h2 with h | h
   ·exact absurd g2 h
   ·exact absurd h g3
 ·rcases h' with⟨g1,e'⟩ | ⟨g1,g2,e'⟩ | ⟨g1,g2,g3,j,hj,gn,gl,e'⟩ | ⟨g1,g2,g3,g4,e'⟩
  ·exact absurd g1 h1
  ·rcases g2 with h | h
   ·exact absurd h2 h
   ·exact absurd h h3
  ·rcases Nat.lt_trichotomy i j with h | h | h
   ·exact absurd (gl i h) hn
   ·rw[e,e',h]
   ·exact absurd (hl j h) gn
  ·exact absurd (g4 i hi) hn
 ·rcases h' with⟨g1,e'⟩ | ⟨g1,g2,e'⟩ | ⟨g1,g2,g3,j,hj,gn,gl,e'⟩ | ⟨g1,g2,g3,g4,e'⟩
  ·exact absurd g1 h1
  ·rcases g2 with h | h
   ·exact absurd h2 h
   ·exact absurd h h3
  ·exact absurd (h4 j hj) gn
  ·rw[e,e']
theorem zQT{a:ByteArray}:(∃i,i<1/\8000<((fun (_:Nat)=>a) i).size)↔8000<a.size:=⟨fun ⟨_,_,h⟩=>h,fun h=>⟨0,by omega,h⟩⟩
def zAi(W:zH)(name:ByteArray)(zRV:Int)(w:World)(e:Ending)(w':World):Prop:=∃r o,zH1 W (∃i,i<1/\8000<((fun (_:Nat)=>name) i).size) (∃i,i<0/\¬yM ((fun _=>⟨#[]⟩) i)) 1 (fun i=>match i with  | _=>zAP W name) (fun i=>match i with  | _=>2) r/\(r=none->∃k,zFe W name k/\o=zBA W k (zAJ W.zRQ (W.zRS k).rs (W.zRS k).rb zRV W.time))/\zBw (zMx r o) w e w'
theorem zAi.ill{W:zH}{name:ByteArray}{zRV:Int}{w w':World}{e:Ending}{i:Nat}(hr:zH1 W (∃i,i<1/\8000<((fun (_:Nat)=>name) i).size) (∃i,i<0/\¬yM ((fun _=>⟨#[]⟩) i)) 1 (fun i=>match i with  | _=>zAP W name) (fun i=>match i with  | _=>2) (some i))(h:zBw (zBr (zBU i)) w e w'):zAi W name zRV w e w':=⟨some i,zBr 0,hr,fun e=>(by cases e),h⟩
theorem zHH(p:Nat->Addr)(v0 v1 v2 v3:Value)(lo hi:Nat)(W:zH)(name:ByteArray)(zRV:Int)(w:World)(hE:zEp w p)(h:zl w lo hi v0 v1 v2 v3 W)(cA:zCG W)(b1:qD W.zRQ<=1048576)(b2:W.sn<=1048576)(b3:W.pn<=1048576)(b4:zDY W)(bA:name.size<=maxLen)(aA:(Lit.int .i64 zRV).wf=true) :
  Calls Tryz.prog 17 #[zz v0 v1 v2 v3 W,.string name,.int .i64 zRV] w (zAi W name zRV w):=by
 by_cases hs:zAP W name
 ·obtain⟨k,hk⟩:=zNj hs;refine(zD3 p v0 v1 v2 v3 lo hi W name zRV (zBA W k (zAJ W.zRQ (W.zRS k).rs (W.zRS k).rb zRV W.time)) w hE h cA b1 b2 b3 b4 bA aA ?_).mono ?_
  ·intro B0 B1 C w' z0 z1 z2 z3 k0 l0 k1 l1 hI _ _ hq dA hb ho hC;have hS:=(zGS W).1 hI;have hx:=cA (W.pn+k) (by have:=hk.1;unfold zq;omega);rw[yJ]at hx;exact zI3 p C k B0 B1 z0 z1 z2 z3 W name zRV w' (hE.zRJ hb) hI (zMS hS.zRa _) hx hk (b4.1 k hk.1) dA k0 l0 k1 l1 ho hC
  ·rintro e w' ⟨r,h1,h2⟩;exact⟨r,_,h1,fun _=>⟨k,hk,rfl⟩,h2⟩
 ·refine(zD3 p v0 v1 v2 v3 lo hi W name zRV (zBr 0) w hE h cA b1 b2 b3 b4 bA aA ?_).mono ?_
  ·intro B0 B1 C w' z0 z1 z2 z3 k0 l0 k1 l1 hI _ _ hq dA hb ho hC;exact absurd (hq 0 (by omega)) hs
  ·rintro e w' ⟨r,h1,h2⟩;exact⟨r,_,h1,fun e=>absurd ((e▸h1).all 0 (by omega)) hs,h2⟩
open Go.Maps
def zEr(s:qC):Nat:=s.name.size+s.dn
def zBJ(f:Nat->qC):Nat->Nat
 | 0=>0
 | k+1=>zBJ f k+zEr (f k)
def zDr(s:zm):Nat:=s.name.size+s.set.size+s.dn
def zAx(f:Nat->zm):Nat->Nat
 | 0=>0
 | k+1=>zAx f k+zDr (f k)
def yX(W:zH):Nat:=qD W.zRQ+(W.sn+zBJ W.zRS W.sn)+(W.pn+zAx W.zRP W.pn)
theorem zNy(v:Value)(lo hi:Nat)(s:qC)(left:Int)(w:World)(h1:zR w lo hi v s.dn s.ds s.db)(m1:s.name.size<=maxLen)(iA:0<=left)(fA:left<=1048576) :
  Calls Tryz.prog 66 #[zDF v s,.int .i64 left] w fun e w'=>zC3 (zEr s) left e/\Below w.heap.size w w':=by
 unfold zDF;have H1:=zB h1;obtain⟨-,a,c,rfl,-⟩:=id h1;clear h1;unfold maxLen at m1;have aA:=zC w (.cells #[.string s.name,.int .i64 s.origin,.int .i64 s.zRT,.int .i64 s.rs,.int .i64 s.rb,.slice a s.dn c] 116);go_enter Tryz.func66,Tryz.ntmps66;by_cases h:left - (s.name.size:Int)<0
 ·go_wp2;go_ret;exact⟨⟨-1,rfl,by omega,by omega,by omega⟩,aA⟩
 ·go_wp2_with fail;refine(zFK _ s.dn lo hi _ _ _ _ (H1.out.zRJ aA) (by omega) (by omega)).mono ?_;rintro e w1 ⟨⟨r,rfl,dA,gA,eA⟩,bA⟩;have cA:=zA aA bA;have Hr:=zB dA;clear dA bA aA;by_cases h2:r<0
  ·go_wp2;go_ret;exact⟨⟨-1,rfl,by omega,by omega,by omega⟩,cA⟩
  ·go_wp2;go_ret;refine⟨⟨_,rfl,fun _=>?_,by omega,by omega⟩,cA⟩;have:=Hr.out (by omega);unfold zEr;omega
theorem zMQ(v:Value)(lo hi:Nat)(s:zm)(left:Int)(w:World)(h1:zR w lo hi v s.dn s.ds s.db)(m1:s.name.size<=maxLen)(m2:s.set.size<=maxLen)(iA:0<=left)(fA:left<=1048576) :
  Calls Tryz.prog 67 #[yf v s,.int .i64 left] w fun e w'=>zC3 (zDr s) left e/\Below w.heap.size w w':=by
 unfold yf;have H1:=zB h1;obtain⟨-,a,c,rfl,-⟩:=id h1;clear h1;unfold maxLen at m1 m2;have aA:=zC w (.cells #[.int .i64 s.id,.string s.name,.string s.set,.int .i64 s.zRT,.int .i64 s.time,.int .i64 s.rs,.int .i64 s.rb,.slice a s.dn c] 119);go_enter Tryz.func67,Tryz.ntmps67;by_cases h:left - (s.name.size:Int)<0
 ·go_wp2;go_ret;exact⟨⟨-1,rfl,by omega,by omega,by omega⟩,aA⟩
 ·by_cases h':left - (s.name.size:Int) - (s.set.size:Int)<0
  ·go_wp2;go_ret;exact⟨⟨-1,rfl,by omega,by omega,by omega⟩,aA⟩
  ·go_wp2_with fail;refine(zFK _ s.dn lo hi _ _ _ _ (H1.out.zRJ aA) (by omega) (by omega)).mono ?_;rintro e w1 ⟨⟨r,rfl,dA,gA,eA⟩,bA⟩;have cA:=zA aA bA;have Hr:=zB dA;clear dA bA aA;by_cases h2:r<0
   ·go_wp2;go_ret;exact⟨⟨-1,rfl,by omega,by omega,by omega⟩,cA⟩
   ·go_wp2;go_ret;refine⟨⟨_,rfl,fun _=>?_,by omega,by omega⟩,cA⟩;have:=Hr.out (by omega);unfold zDr;omega
structure yw (bs o n:Nat) (w w':World):Prop where
 zRR:zF (fun b=>b=bs) w w'
 kept:∀x v,(x<o\/o+n<=x)->zX w bs x v->zX w' bs x v
theorem yw.refl(bs o n:Nat)(w:World):yw bs o n w w:=⟨zF.refl _ _,fun _ _ _ h=>h⟩
theorem yw.set{bs o n:Nat}{w w':World}(h:yw bs o n w w')(x:Nat)(u:Value)(h1:o<=x)(h2:x<o+n):yw bs o n w (w'.setCell ⟨bs,x,none⟩ u):=
 ⟨h.zRR.setCell (p:=⟨bs,x,none⟩) rfl u,fun y v hy hc=>(h.kept y v hy hc).zRK u (Or.inr (by omega))⟩
theorem yw.zRJ{bs o n:Nat}{w w' w2:World}(h:yw bs o n w w')(t:Below w'.heap.size w' w2):yw bs o n w w2:=
 ⟨h.zRR.trans (zF.zRM t),fun y v hy hc=>(h.kept y v hy hc).zRJ t⟩
theorem zPE{w w1 w2:World}{bs off n k:Nat}{kb:Nat->Nat}{kv:Nat->Value}{f:Nat->qC}{s:qC}(h:∀j,j<n->zAE w bs (off+j*6) (kb j) (kv j) (f j))(bA:zBI kb n f)(hk:k<n)
  (r:yw bs (off+k*6) 6 w w1) (t:zF (fun b=>0<(f k).dn/\b=kb k) w1 w2) (c0:zX w1 bs (off+k*6) (.string s.name)) (c1:zX w1 bs ((off+k*6)+1) (.int .i64 s.origin)) (c2:zX w1 bs ((off+k*6)+2) (.int .i64 s.zRT)) (c3:zX w1 bs ((off+k*6)+3) (.int .i64 s.rs)) (c4:zX w1 bs ((off+k*6)+4) (.int .i64 s.rb)) (c5:zX w1 bs (off+k*6+5) (kv k)) (cA:s.dn=(f k).dn) (hp:zj w2 (kb k) (kv k) s.dn s.ds s.db) (hs:s.name.size<=maxLen) :
  ∀j,j<n->zAE w2 bs (off+j*6) (kb j) (kv j) (if j=k then s else f j):=by
 intro j hj;have nb:¬(0<(f k).dn/\bs=kb k):=fun hx=>(h k hk).zRW hx.1 hx.2.symm
 by_cases e:j=k
 ·subst e;rw[if_pos rfl];exact⟨c0.zRR t nb,c1.zRR t nb,c2.zRR t nb,c3.zRR t nb,c4.zRR t nb,c5.zRR t nb,hp,hs,by rw[cA];exact(h j hj).zRW⟩
 ·rw[if_neg e];have aA:=h j hj;refine⟨(r.kept _ _ (by omega) aA.c0).zRR t nb,(r.kept _ _ (by omega) aA.c1).zRR t nb,(r.kept _ _ (by omega) aA.c2).zRR t nb,(r.kept _ _ (by omega) aA.c3).zRR t nb,(r.kept _ _ (by omega) aA.c4).zRR t nb,(r.kept _ _ (by omega) aA.c5).zRR t nb,?_,aA.zRZ,aA.zRW⟩;exact(aA.zRX.zRR r.zRR (fun h0 hx=>aA.zRW h0 hx)).zRR t (fun h0 hx=>bA j k hj hk e h0 hx.1 hx.2)
theorem zOI{w w1 w2:World}{bs off n k:Nat}{kb:Nat->Nat}{kv:Nat->Value}{f:Nat->zm}{s:zm}(h:∀j,j<n->zAI w bs (off+j*8) (kb j) (kv j) (f j))(bA:zA6 kb n f)(hk:k<n)
  (r:yw bs (off+k*8) 8 w w1) (t:zF (fun b=>0<(f k).dn/\b=kb k) w1 w2) (c0:zX w1 bs (off+k*8) (.int .i64 s.id)) (c1:zX w1 bs ((off+k*8)+1) (.string s.name)) (c2:zX w1 bs ((off+k*8)+2) (.string s.set)) (c3:zX w1 bs ((off+k*8)+3) (.int .i64 s.zRT)) (c4:zX w1 bs ((off+k*8)+4) (.int .i64 s.time)) (c5:zX w1 bs ((off+k*8)+5) (.int .i64 s.rs)) (c6:zX w1 bs ((off+k*8)+6) (.int .i64 s.rb)) (c7:zX w1 bs (off+k*8+7) (kv k)) (cA:s.dn=(f k).dn) (hp:zj w2 (kb k) (kv k) s.dn s.ds s.db) (hs:s.name.size<=maxLen/\s.set.size<=maxLen) :
  ∀j,j<n->zAI w2 bs (off+j*8) (kb j) (kv j) (if j=k then s else f j):=by
 intro j hj;have nb:¬(0<(f k).dn/\bs=kb k):=fun hx=>(h k hk).zRW hx.1 hx.2.symm
 by_cases e:j=k
 ·subst e;rw[if_pos rfl];exact⟨c0.zRR t nb,c1.zRR t nb,c2.zRR t nb,c3.zRR t nb,c4.zRR t nb,c5.zRR t nb,c6.zRR t nb,c7.zRR t nb,hp,hs,by rw[cA];exact(h j hj).zRW⟩
 ·rw[if_neg e];have aA:=h j hj;refine⟨(r.kept _ _ (by omega) aA.c0).zRR t nb,(r.kept _ _ (by omega) aA.c1).zRR t nb,(r.kept _ _ (by omega) aA.c2).zRR t nb,(r.kept _ _ (by omega) aA.c3).zRR t nb,(r.kept _ _ (by omega) aA.c4).zRR t nb,(r.kept _ _ (by omega) aA.c5).zRR t nb,(r.kept _ _ (by omega) aA.c6).zRR t nb,(r.kept _ _ (by omega) aA.c7).zRR t nb,?_,aA.zRZ,aA.zRW⟩;exact(aA.zRX.zRR r.zRR (fun h0 hx=>aA.zRW h0 hx)).zRR t (fun h0 hx=>bA j k hj hk e h0 hx.1 hx.2)
def zA8(k:Nat)(out:ByteArray):ByteArray:=
 if h:k=0 then out else zA8 (k / 10) (⟨#[48+UInt8.ofNat (k % 10)]⟩ ++ out)
termination_by k
decreasing_by omega
def mtF(k:Int):ByteArray:=if k<=0 then⟨#[109,48]⟩else⟨#[109]⟩ ++ zA8 k.toNat ⟨#[]⟩
theorem zLL{n:Nat}(h:(n:Int)<=1000000000000):n<10 ^ (13 - (⟨#[]⟩:ByteArray).size):=by
 show n<10 ^ 13;omega
theorem zLe(x:UInt8)(out:ByteArray):((⟨#[x]⟩:ByteArray) ++ out).size=out.size+1:=by
 rw[ByteArray.size_append];show 1+out.size=_;omega
theorem zOn{m:Nat}{out:ByteArray}(h:m<10 ^ (13 - out.size)):m<=10000000000000:=by
 have h2:10 ^ (13 - out.size)<=10 ^ 13:=Nat.pow_le_pow_right (by omega) (by omega);omega
theorem zNW{m:Nat}{out:ByteArray}(x:UInt8)(h0:¬m=0)(h:m<10 ^ (13 - out.size))(h2:out.size<=13) :
  m / 10<10 ^ (13 - ((⟨#[x]⟩:ByteArray) ++ out).size)/\((⟨#[x]⟩:ByteArray) ++ out).size<=13:=by
 rw[zLe];by_cases e:out.size=13
 ·rw[e]at h;simp at h;omega
 ·obtain⟨j,hj⟩:∃j,13 - out.size=j+1:=⟨12 - out.size,by omega⟩;rw[hj,Nat.pow_succ]at h;have:13 - (out.size+1)=j:=(by omega);rw[this];exact⟨by omega,by omega⟩
theorem zP3{m:Nat}{out:ByteArray}(h0:¬m=0):zA8 (m / 10) (⟨#[48+UInt8.ofNat (m % 10)]⟩ ++ out)=zA8 m out:=by
 conv=>rhs;rw[zA8]
 rw[dif_neg h0]
theorem zP9(m:Nat):∀(out:ByteArray),m<10 ^ (13 - out.size)->out.size<=13->(zA8 m out).size<=13:=by
 induction m using Nat.strongRecOn with
 | _ m ih=>
  intro out h h2;by_cases h0:m=0
  ·rw[zA8,dif_pos h0];exact h2
  ·rw[zA8,dif_neg h0];have:=zNW (48+UInt8.ofNat (m % 10)) h0 h h2;exact ih (m / 10) (by omega) _ this.1 this.2
theorem zF9{k:Int}(hk:k<=1000000000000):(mtF k).size<=maxLen:=by
 unfold mtF maxLen;split
 ·decide
 ·have h:(zA8 k.toNat ⟨#[]⟩).size<=13:=zP9 _ _ (zLL (by omega)) (Nat.zero_le _);rw[zLe];omega
theorem zPm(w:World)(n:Int):(convert 216 9 (.slice (some ⟨w.heap.size,0,none⟩) 1 1)).run Tryz.prog (w.alloc (.cells #[.int .u8 n] 5)) = .ok (.string ⟨#[UInt8.ofNat n.toNat]⟩) (w.alloc (.cells #[.int .u8 n] 5)):=
 run_convert_bytes_arg (P:=Tryz.prog) (w.alloc (.cells #[.int .u8 n] 5)) 216 5 (by kernel_rfl) (by kernel_rfl) w.heap.size 0 1 1 [n] rfl (fun i hi=>by
  obtain rfl:i=0:=(by omega);simp) 9 (by kernel_rfl)
theorem zAC(k:Int)(w:World)(hk:k<=1000000000000) :
  Calls Tryz.prog 114 #[.int .i64 k] w fun e w'=>e = .returned (.string (mtF k))/\Below w.heap.size w w':=by
 by_cases h0:k<=0
 ·have hm:Hid (mtF k=⟨#[109,48]⟩):=if_pos h0;go_enter Tryz.func114,Tryz.ntmps114;go_wp2;go_ret;exact⟨by rw[hm.out];rfl,Below.refl _ _⟩
 ·obtain⟨n,rfl⟩:=Int.eq_ofNat_of_zero_le (by omega:0<=k);have hm:Hid (mtF (n:Int)=⟨#[109]⟩ ++ zA8 n ⟨#[]⟩):=if_neg h0;have eA:Hid (n<10 ^ (13 - (⟨#[]⟩:ByteArray).size)):=zLL hk;have fA:=zPm;go_enter Tryz.func114,Tryz.ntmps114;go_wp2
  go_loopw [0,3] (fun v s wr=>∃(m:Nat) (out:ByteArray),v = .int .i64 m/\s = .string out/\m<10 ^ (13 - out.size)/\out.size<=13/\zA8 m out=zA8 n ⟨#[]⟩/\Below w.heap.size w wr) (fun v _ _=>(intOf v).toNat)
  case atStart=>exact⟨n,⟨#[]⟩,rfl,rfl,eA.out,Nat.zero_le _,rfl,Below.refl _ _⟩
  case round=>
   obtain⟨m,out,rfl,rfl,aA,dA,cA,hb⟩:=hrel;have bA:Hid (m<10 ^ (13 - out.size)/\zA8 m out=zA8 n ⟨#[]⟩):=⟨aA,cA⟩;have gA:=zOn aA;clear aA cA;by_cases hz:m=0
   ·subst hz;go_wp2;go_ret;refine⟨?_,hb⟩;have e1:=bA.out.2;rw[zA8,dif_pos rfl]at e1;rw[hm.out,<-e1];rfl
   ·have iA:(0:Int)<(m:Int):=(by omega);have Hz:Hid (¬m=0):=hz;clear hz;go_wp2;go_roundw
    case rel=>
     have hn:=zNW (48+UInt8.ofNat (m % 10)) Hz.out bA.out.1 dA;exact⟨m / 10,_,by go_num,rfl,hn.1,hn.2,(zP3 Hz.out).trans bA.out.2,hb.alloc hb.size _⟩
    case measure=>simp[intOf];omega
theorem za{P:Prop}(h:P):Hid P:=h
def zAo(b:Nat)(w w':World):Prop:=∀cur,w.heap[b]?=some (.cells cur 2 (0,0))->∃cur',w'.heap[b]?=some (.cells cur' 2 (0,0))/\cur'.size=cur.size
theorem zAo.refl(b:Nat)(w:World):zAo b w w:=fun aA h=>⟨aA,h,rfl⟩
theorem zAo.set{b:Nat}{w w':World}(h:zAo b w w')(o:Nat)(u:Value):zAo b w (w'.setCell ⟨b,o,none⟩ u):=fun bA hc=>by
 obtain⟨aA,h1,h2⟩:=h bA hc;exact⟨aA.setIfInBounds o u,zAX u h1,by simpa using h2⟩
theorem zAo.room{b:Nat}{w w':World}{a:Option Addr}{n c:Nat}(h:zAo b w w')(hr:zQd w b a n c):zQd w' b a n c:=fun bA=>by
 obtain⟨r0,r1,r2,cA,r3,r4⟩:=hr bA;obtain⟨aA,h1,h2⟩:=h cA r3;exact⟨r0,r1,r2,aA,h1,by omega⟩
theorem zHa(b:Nat)(v:Value)(n:Nat)(f:Nat->Int)(k0:Int)(w:World)(h1:qk w b v n f)(nA:0<=k0)(mA:k0+n<=1000000000000) :
  Calls Tryz.prog 113 #[v,.int .i64 k0] w fun e w'=>e = .returned (.int .i64 (k0+n))/\qk w' b v n (fun i=>k0+i)/\zF (fun k=>0<n/\k=b) w w':=by
 have jA:=h1;obtain⟨m1,a,c,rfl,mc,g1,bA⟩:=h1;have cA:=za bA;clear bA;by_cases kA:n=0
 ·subst kA;go_enter Tryz.func113,Tryz.ntmps113;go_wp2;refine wp_loop_rounds 1 ?_;rw[rounds_succ];go_wp2;go_ret;exact⟨by simp,⟨m1,a,c,rfl,mc,fun h=>absurd h (by omega),cA.out⟩,zF.refl _ _⟩
 ·obtain⟨off,rfl,g2⟩:=g1 (by omega);clear g1;have iA:=m1;unfold maxLen at m1;have G2:Hid (∀i,i<n->zX w b (off+i) (.int .i64 (f i))):=g2;clear g2 jA;go_enter Tryz.func113,Tryz.ntmps113;go_wp2
  go_loopw [1,5] (fun m i wr=>∃k:Nat,k<=n/\i = .int .i64 k/\m = .int .i64 (k0+k)/\(∀j,j<n->zX wr b (off+j) (.int .i64 (if j<k then k0+j else f j)))/\zF (fun k=>0<n/\k=b) w wr/\zAo b w wr) (fun _ i _=>n - (intOf i).toNat)
  case atStart=>exact⟨0,Nat.zero_le _,rfl,by simp,fun j hj=>by simpa using G2.out j hj,zF.refl _ _,zAo.refl _ _⟩
  case round=>
   obtain⟨k,hk,rfl,rfl,dA,ht,fA⟩:=hrel;have eA:=za fA;clear fA;have aA:Hid (∀j,j<n->zX wr b (off+j) (.int .i64 (if j<k then k0+j else f j))):=dA;clear dA;by_cases gA:k<n
   ·have lA:(k:Int)<(n:Int):=(by omega);obtain⟨hc,hf⟩:=aA.out k gA;go_wp2;go_roundw
    case rel=>
     refine⟨k+1,by omega,by go_num,by go_num,fun j hj=>?_,ht.setCell ⟨by omega,rfl⟩ _,eA.out.set _ _⟩;by_cases e:j=k
     ·subst e;rw[if_pos (by omega)];exact(aA.out j hj).set _
     ·have:=(aA.out j hj).zRK (b':=b) (o':=off+k) (.int .i64 (k0+k)) (Or.inr (by omega));by_cases e2:j<k
      ·rw[if_pos (by omega)];rw[if_pos e2]at this;exact this
      ·rw[if_neg (by omega)];rw[if_neg e2]at this;exact this
    case measure=>simp[intOf];omega
   ·obtain rfl:k=n:=(by omega);go_wp2;go_ret;refine⟨rfl,⟨iA,_,c,rfl,mc,fun _=>⟨off,rfl,fun i hi=>?_⟩,eA.out.room cA.out⟩,ht⟩;have:=aA.out i hi;rw[if_pos hi]at this;exact this
theorem zDl(b:Nat)(v:Value)(n:Nat)(f g:Nat->Int)(k0:Int)(w:World)(h1:zj w b v n f g)(jA:0<=k0)(iA:k0+2*n<=1000000000000) :
  Calls Tryz.prog 115 #[v,.int .i64 k0] w fun e w'=>e = .returned (.int .i64 (k0+2*n))/\zj w' b v n (fun i=>k0+2*i) (fun i=>k0+2*i+1)/\zF (fun k=>0<n/\k=b) w w':=by
 have eA:=h1;obtain⟨m1,a,c,rfl,mc,g1⟩:=h1;by_cases gA:n=0
 ·subst gA;go_enter Tryz.func115,Tryz.ntmps115;go_wp2;refine wp_loop_rounds 1 ?_;rw[rounds_succ];go_wp2;go_ret;exact⟨by simp,⟨m1,a,c,rfl,mc,fun h=>absurd h (by omega)⟩,zF.refl _ _⟩
 ·obtain⟨off,rfl,g2⟩:=g1 (by omega);clear g1;have dA:=m1;unfold maxLen at m1;have G2:Hid (∀i,i<n->zX w b (off+i*2) (.int .i64 (f i))/\zX w b (off+i*2+1) (.int .i64 (g i))):=g2;clear g2 eA;go_enter Tryz.func115,Tryz.ntmps115;go_wp2
  go_loopw [1,5] (fun m i wr=>∃k:Nat,k<=n/\i = .int .i64 k/\m = .int .i64 (k0+2*k)/\(∀j,j<n->zX wr b (off+j*2) (.int .i64 (if j<k then k0+2*j else f j))/\zX wr b (off+j*2+1) (.int .i64 (if j<k then k0+2*j+1 else g j)))/\zF (fun k=>0<n/\k=b) w wr) (fun _ i _=>n - (intOf i).toNat)
  case atStart=>exact⟨0,Nat.zero_le _,rfl,by simp,fun j hj=>by simpa using G2.out j hj,zF.refl _ _⟩
  case round=>
   obtain⟨k,hk,rfl,rfl,bA,ht⟩:=hrel;have aA:Hid (∀j,j<n->zX wr b (off+j*2) (.int .i64 (if j<k then k0+2*j else f j))/\zX wr b (off+j*2+1) (.int .i64 (if j<k then k0+2*j+1 else g j))):=bA;clear bA;by_cases cA:k<n
   ·have fA:(k:Int)<(n:Int):=(by omega);obtain⟨⟨hc,hf⟩,⟨lA,kA⟩⟩:=aA.out k cA;go_wp2;go_roundw
    case rel=>
     refine⟨k+1,by omega,by go_num,by go_num,fun j hj=>?_,(ht.setCell ⟨by omega,rfl⟩ _).setCell ⟨by omega,rfl⟩ _⟩;by_cases e:j=k
     ·subst e;rw[if_pos (by omega),if_pos (by omega)];exact⟨((aA.out j hj).1.set _).zRK _ (Or.inr (by omega)),((aA.out j hj).2.zRK _ (Or.inr (by omega))).set _⟩
     ·have t1:=((aA.out j hj).1.zRK (b':=b) (o':=off+k*2) (.int .i64 (k0+2*k)) (Or.inr (by omega))).zRK (b':=b) (o':=off+k*2+1) (.int .i64 (k0+2*k+1)) (Or.inr (by omega));have t2:=((aA.out j hj).2.zRK (b':=b) (o':=off+k*2) (.int .i64 (k0+2*k)) (Or.inr (by omega))).zRK (b':=b) (o':=off+k*2+1) (.int .i64 (k0+2*k+1)) (Or.inr (by omega));by_cases e2:j<k
      ·rw[if_pos (by omega),if_pos (by omega)];rw[if_pos e2]at t1 t2;exact⟨t1,t2⟩
      ·rw[if_neg (by omega),if_neg (by omega)];rw[if_neg e2]at t1 t2;exact⟨t1,t2⟩
    case measure=>simp[intOf];omega
   ·obtain rfl:k=n:=(by omega);go_wp2;go_ret;refine⟨rfl,⟨dA,_,c,rfl,mc,fun _=>⟨off,rfl,fun i hi=>?_⟩⟩,ht⟩;have:=aA.out i hi;rw[if_pos hi,if_pos hi]at this;exact this
def qU(f:Nat->zL)(k0:Int):Nat->Int
 | 0=>k0
 | j+1=>qU f k0 j+2+2*(f j).kn
def zQh(s:zL)(c:Int):zL:={zRU:=c,kn:=s.kn,ks:=fun i=>c+1+2*i,kb:=fun i=>c+1+2*i+1,data:=mtF (c+1+2*s.kn)}
theorem zHx(f:Nat->zL)(k0:Int)(j:Nat):∀m,qU f k0 j<=qU f k0 (j+m)
 | 0=>Int.le_refl _
 | m+1=>by
  have:=zHx f k0 j m;show _<=qU f k0 (j+m)+2+2*((f (j+m)).kn:Int);omega
theorem zCZ(f:Nat->zL)(k0:Int){j n:Nat}(h:j<=n):qU f k0 j<=qU f k0 n:=by
 obtain⟨m,rfl⟩:=Nat.exists_eq_add_of_le h;exact zHx f k0 j m
def zD2(f:Nat->zL)(k0:Int)(j:Nat):zL:=zQh (f j) (qU f k0 j)
theorem zM6{w w1 w2:World}{bs off:Nat}{kb:Nat->Nat}{kv:Nat->Value}{n k:Nat}{f:Nat->zL}{s':zL}
  (h:∀j,j<n->zAD w bs (off+j*3) (kb j) (kv j) (f j)) (cA:yS kb n f) (hk:k<n)
  (t1:zF (fun b=>0<(f k).kn/\b=kb k) (w.setCell ⟨bs,off+k*3,none⟩ (.int .i64 s'.zRU)) w1) (t2:Below w1.heap.size w1 w2)
  (bA:s'.kn=(f k).kn) (hp:zj w1 (kb k) (kv k) s'.kn s'.ks s'.kb) (hs:s'.data.size<=maxLen) :
  ∀j,j<n->zAD (w2.setCell ⟨bs,off+k*3+2,none⟩ (.string s'.data)) bs (off+j*3) (kb j) (kv j) (if j=k then s' else f j):=by
 intro j hj;have nb:¬(0<(f k).kn/\bs=kb k):=fun hx=>(h k hk).zRW hx.1 hx.2.symm
 by_cases e:j=k
 ·subst e;rw[if_pos rfl];have aA:=h j hj;refine⟨?_,?_,?_,?_,hs,?_⟩
  ·exact(((aA.zRU.set _).zRR t1 nb).zRJ t2).zRK _ (Or.inr (by omega))
  ·exact(((aA.kidsv.zRK _ (Or.inr (by omega))).zRR t1 nb).zRJ t2).zRK _ (Or.inr (by omega))
  ·exact(((aA.data.zRK _ (Or.inr (by omega))).zRR t1 nb).zRJ t2).set _
  ·refine(hp.zRJ t2).zRR (zF.put _ _ _ _) (fun h0 hx=>?_);exact aA.zRW (bA▸h0) hx
  ·rw[bA];exact aA.zRW
 ·rw[if_neg e];have aA:=h j hj;have c0:=aA.zRU.zRK (b':=bs) (o':=off+k*3) (.int .i64 s'.zRU) (Or.inr (by omega));have c1:=aA.kidsv.zRK (b':=bs) (o':=off+k*3) (.int .i64 s'.zRU) (Or.inr (by omega));have c2:=aA.data.zRK (b':=bs) (o':=off+k*3) (.int .i64 s'.zRU) (Or.inr (by omega));have c3:=aA.kids.zRR (zF.put w bs (off+k*3) (.int .i64 s'.zRU)) (fun h0 hx=>aA.zRW h0 hx);refine⟨?_,?_,?_,?_,aA.zRZ,aA.zRW⟩
  ·exact((c0.zRR t1 nb).zRJ t2).zRK _ (Or.inr (by omega))
  ·exact((c1.zRR t1 nb).zRJ t2).zRK _ (Or.inr (by omega))
  ·exact((c2.zRR t1 nb).zRJ t2).zRK _ (Or.inr (by omega))
  ·refine((c3.zRR t1 (fun h0 hx=>cA j k hj hk e h0 hx.1 hx.2)).zRJ t2).zRR (zF.put _ _ _ _) (fun h0 hx=>aA.zRW h0 hx)
theorem zOL(f:Nat->zL)(k0:Int)(j:Nat):(if j<0 then zD2 f k0 j else f j)=f j:=if_neg (by omega)
theorem zQv(f:Nat->zL)(k0:Int)(k j:Nat):(if j<k then zD2 f k0 j else f j).kn=(f j).kn:=by split<;>rfl
theorem zIw(bs:Nat)(kb:Nat->Nat)(kv:Nat->Value)(v:Value)(n:Nat)(f:Nat->zL)(k0:Int)(w:World)(h1:qX w bs kb kv v n f)(fA:yS kb n f)(fB:0<=k0)(jA:qU f k0 n<=1000000000000) :
  Calls Tryz.prog 112 #[v,.int .i64 k0] w fun e w'=>e = .returned (.int .i64 (qU f k0 n))/\qX w' bs kb kv v n (zD2 f k0)/\zF (yp bs kb n f) w w':=by
 obtain⟨m1,a,c,rfl,mc,g1⟩:=h1;by_cases vA:n=0
 ·subst vA;go_enter Tryz.func112,Tryz.ntmps112;go_wp2;refine wp_loop_rounds 1 ?_;rw[rounds_succ];go_wp2;go_ret;exact⟨by simp[qU],⟨m1,a,c,rfl,mc,fun h=>absurd h (by omega)⟩,zF.refl _ _⟩
 ·obtain⟨off,rfl,g2⟩:=g1 (by omega);clear g1;have pA:=m1;unfold maxLen at m1;have G2:Hid (∀j,j<n->zAD w bs (off+j*3) (kb j) (kv j) (f j)):=g2;have sA:Hid (yS kb n f):=fA;have kA:Hid (qU f k0 n<=1000000000000):=jA;clear g2 fA jA;go_enter Tryz.func112,Tryz.ntmps112;go_wp2
  go_loopw [1,5] (fun m i wr=>∃k:Nat,k<=n/\i = .int .i64 k/\m = .int .i64 (qU f k0 k)/\(∀j,j<n->zAD wr bs (off+j*3) (kb j) (kv j) (if j<k then zD2 f k0 j else f j))/\zF (yp bs kb n f) w wr) (fun _ i _=>n - (intOf i).toNat)
  case atStart=>exact⟨0,Nat.zero_le _,rfl,rfl,fun j hj=>by rw[zOL];exact G2.out j hj,zF.refl _ _⟩
  case round=>
   obtain⟨k,hk,rfl,rfl,bA,ht⟩:=hrel;have aA:Hid (∀j,j<n->zAD wr bs (off+j*3) (kb j) (kv j) (if j<k then zD2 f k0 j else f j)):=bA;clear bA;by_cases dA:k<n
   ·have bB:(k:Int)<(n:Int):=(by omega);have hs:=aA.out k dA;rw[if_neg (by omega)]at hs;have eB:k0<=qU f k0 k:=zCZ f k0 (Nat.zero_le k);have dB:qU f k0 k+2+2*((f k).kn:Int)<=1000000000000:=Int.le_trans (zCZ f k0 (show k+1<=n from dA)) kA.out;obtain⟨nA,oA⟩:=hs.zRU;obtain⟨aB,lA⟩:=hs.kidsv;obtain⟨cA,gA⟩:=hs.data;have Hs:Hid (zAD wr bs (off+k*3) (kb k) (kv k) (f k)):=hs;obtain⟨_,ka,kc,mA,_⟩:=hs.kids;clear hs;generalize hx:kv k=kvk at *;have Hx:Hid (kv k=kvk):=hx;clear hx;subst mA;go_wp2_with fail;refine(zDl (kb k) _ (f k).kn (f k).ks (f k).kb _ _ ?p1 ?p2 ?p3).mono ?_
    case p1=>exact Hs.out.kids.zRR (zF.put _ _ _ _) (fun h0 hx=>Hs.out.zRW h0 hx)
    case p2=>omega
    case p3=>omega
    rintro e w1 ⟨rfl,iA,eA⟩;have nb:¬(0<(f k).kn/\bs=kb k):=fun hx=>Hs.out.zRW hx.1 hx.2.symm
    have Hd:=((Hs.out.data.zRK (b':=bs) (o':=off+k*3) (.int .i64 (qU f k0 k)) (Or.inr (by omega))).zRR eA nb);have rA:Hid (zj w1 (kb k) (.slice ka (f k).kn kc) (f k).kn (fun i=>qU f k0 k+1+2*i) (fun i=>qU f k0 k+1+2*i+1)):=iA;clear nb iA nA oA aB lA cA gA;go_wp2_with fail;refine(zAC _ _ (by omega)).mono ?_;rintro e w2 ⟨rfl,cA⟩;obtain⟨cB,gA⟩:=Hd.zRJ cA;clear Hd;go_wp2;go_roundw
    case rel=>
     refine⟨k+1,by omega,by go_num,congrArg (Value.int .i64) (by show _=qU f k0 k+2+2*((f k).kn:Int);omega),fun j hj=>?_,?_⟩
     ·have st:=zM6 (s':=zD2 f k0 k) aA.out (by
        intro i j hi hj tA h1 h2;rw[zQv]at h1 h2;exact sA.out i j hi hj tA h1 h2) dA (by rw[if_neg (Nat.lt_irrefl k)];exact eA) cA (by rw[if_neg (Nat.lt_irrefl k)];rfl) (by rw[Hx.out];exact rA.out) (zF9 (by omega)) j hj
      by_cases e:j=k
      ·subst e;rw[if_pos rfl]at st;rw[if_pos (by omega)];exact st
      ·rw[if_neg e]at st;by_cases e2:j<k
       ·rw[if_pos e2]at st;rw[if_pos (by omega)];exact st
       ·rw[if_neg e2]at st;rw[if_neg (by omega)];exact st
     ·refine(((ht.setCell (Or.inl ⟨by omega,rfl⟩) _).trans (eA.mono ?_)).trans (zF.zRM cA)).setCell (Or.inl ⟨by omega,rfl⟩) _;rintro b ⟨hb,rfl⟩;exact Or.inr ⟨k,dA,hb,rfl⟩
    case measure=>simp[intOf];omega
   ·obtain rfl:k=n:=(by omega);go_wp2;go_ret;refine⟨rfl,⟨pA,_,c,rfl,mc,fun _=>⟨off,rfl,fun i hi=>?_⟩⟩,ht⟩;have:=aA.out i hi;rw[if_pos hi]at this;exact this
theorem zKN(bs hb:Nat)(kb:Nat->Nat)(kv:Nat->Value)(v0 v1:Value)(p:zJ)(k0:Int)(w:World)
  (h1:qX w bs kb kv v0 p.n p.s) (iA:yS kb p.n p.s) (h2:qk w hb v1 p.hn p.h) (hd:0<p.hn->¬yp bs kb p.n p.s hb)
  (fA:0<=k0) (dA:qU p.s k0 p.n+p.hn<=1000000000000) :
  Calls Tryz.prog 42 #[.agg #[v0,v1],.int .i64 k0] w fun e w'=>e = .returned (.int .i64 (qU p.s k0 p.n+p.hn))/\qX w' bs kb kv v0 p.n (zD2 p.s k0)/\qk w' hb v1 p.hn (fun i=>qU p.s k0 p.n+i)/\
   zF (fun k=>yp bs kb p.n p.s k\/(0<p.hn/\k=hb)) w w':=by
 have q1:=h1;have q2:=h2;obtain⟨_,a,c,rfl,_⟩:=h1;obtain⟨_,a',c',rfl,_⟩:=h2;have Hk:Hid (qU p.s k0 p.n+p.hn<=1000000000000):=dA;have aA:Hid (k0<=qU p.s k0 p.n):=zCZ p.s k0 (Nat.zero_le p.n);clear dA;go_enter Tryz.func42,Tryz.ntmps42;go_wp2_with fail;have cA:=(Below.refl w.heap.size w).alloc (Nat.le_refl _) (.cells #[.slice a p.n c,.slice a' p.hn c'] 33);refine(zIw bs kb kv _ p.n p.s _ _ (q1.zRJ cA) iA fA (by have:=Hk.out;omega)).mono ?_;rintro e w1 ⟨rfl,gA,bA⟩;have nb:¬yp bs kb p.n p.s w.heap.size:=fun x=>Nat.lt_irrefl _ (q1.lt x)
 have e1:=bA.cell (b:=w.heap.size) (o:=1) (by simp) nb;simp at e1;go_wp2_with fail;refine(zHa hb _ p.hn p.h _ _ ((q2.zRJ cA).zRR bA hd) (by have:=aA.out;omega) Hk.out).mono ?_;rintro e w2 ⟨rfl,jA,eA⟩;go_wp2;go_ret;refine⟨rfl,?_,jA,?_⟩
 ·refine gA.zRR eA (fun h0 hx=>?_) (fun i hi h0 hx=>?_)
  ·exact hd hx.1 (Or.inl ⟨h0,hx.2.symm⟩)
  ·exact hd hx.1 (Or.inr ⟨i,hi,h0,hx.2.symm⟩)
 ·exact((zF.zRM cA).trans (bA.mono fun k h=>Or.inl h)).trans (eA.mono fun k h=>Or.inr h)
def zQb(p:zJ)(k0:Int):zJ:={n:=p.n,s:=zD2 p.s k0,hn:=p.hn,h:=fun i=>qU p.s k0 p.n+i}
def zA7(p:zJ)(k0:Int):Int:=qU p.s k0 p.n+p.hn
def ze(f:Nat->qC)(k0:Int):Nat->Int
 | 0=>k0
 | j+1=>ze f k0 j+5+2*(f j).dn
def zOP(s:qC)(c:Int):qC:={name:=mtF (c),origin:=c+1,zRT:=c+1+1,rs:=c+1+1+1,rb:=c+1+1+1+1,dn:=s.dn,ds:=fun i=>c+1+1+1+1+1+2*i,db:=fun i=>c+1+1+1+1+1+2*i+1}
theorem zGp(f:Nat->qC)(k0:Int)(j:Nat):∀m,ze f k0 j<=ze f k0 (j+m)
 | 0=>Int.le_refl _
 | m+1=>by
  have:=zGp f k0 j m;show _<=ze f k0 (j+m)+5+2*((f (j+m)).dn:Int);omega
theorem zDR(f:Nat->qC)(k0:Int){j n:Nat}(h:j<=n):ze f k0 j<=ze f k0 n:=by
 obtain⟨m,rfl⟩:=Nat.exists_eq_add_of_le h;exact zGp f k0 j m
def zCj(f:Nat->qC)(k0:Int)(j:Nat):qC:=zOP (f j) (ze f k0 j)
theorem zLT(f:Nat->qC)(k0:Int)(j:Nat):(if j<0 then zCj f k0 j else f j)=f j:=if_neg (by omega)
theorem zO5(f:Nat->qC)(k0:Int)(k j:Nat):(if j<k then zCj f k0 j else f j).dn=(f j).dn:=by split<;>rfl
theorem zJ7(bs:Nat)(kb:Nat->Nat)(kv:Nat->Value)(v:Value)(n:Nat)(f:Nat->qC)(k0:Int)(w:World)(h1:yN w bs kb kv v n f)(nA:zBI kb n f)(cC:0<=k0)(fB:ze f k0 n<=1000000000000) :
  Calls Tryz.prog 43 #[v,.int .i64 k0] w fun e w'=>e = .returned (.int .i64 (ze f k0 n))/\yN w' bs kb kv v n (zCj f k0)/\zF (zCA bs kb n f) w w':=by
 obtain⟨m1,a,c,rfl,mc,g1⟩:=h1;by_cases tB:n=0
 ·subst tB;go_enter Tryz.func43,Tryz.ntmps43;go_wp2;refine wp_loop_rounds 1 ?_;rw[rounds_succ];go_wp2;go_ret;exact⟨by simp[ze],⟨m1,a,c,rfl,mc,fun h=>absurd h (by omega)⟩,zF.refl _ _⟩
 ·obtain⟨off,rfl,g2⟩:=g1 (by omega);clear g1;have oB:=m1;unfold maxLen at m1;have G2:=za g2;have rB:=za nA;have lB:=za fB;clear g2 nA fB;go_enter Tryz.func43,Tryz.ntmps43;go_wp2
  go_loopw [1,5] (fun m i wr=>∃k:Nat,k<=n/\i = .int .i64 k/\m = .int .i64 (ze f k0 k)/\(∀j,j<n->zAE wr bs (off+j*6) (kb j) (kv j) (if j<k then zCj f k0 j else f j))/\zF (zCA bs kb n f) w wr) (fun _ i _=>n - (intOf i).toNat)
  case atStart=>exact⟨0,Nat.zero_le _,rfl,rfl,fun j hj=>by rw[zLT];exact G2.out j hj,zF.refl _ _⟩
  case round=>
   obtain⟨k,hk,rfl,rfl,cA,ht⟩:=hrel;have bA:=za cA;clear cA;by_cases dA:k<n
   ·have vB:(k:Int)<(n:Int):=(by omega);have hs:=bA.out k dA;rw[if_neg (by omega)]at hs;have bC:k0<=ze f k0 k:=zDR f k0 (Nat.zero_le k);have aC:ze f k0 k+5+2*((f k).dn:Int)<=1000000000000:=Int.le_trans (zDR f k0 (show k+1<=n from dA)) lB.out;have Hs:=za hs;obtain⟨-,ka,kc,mB,-⟩:=hs.zRX;clear hs;generalize hx:kv k=kvk at *;have Hx:=za hx;clear hx;subst mB;obtain⟨⟨p0,kA⟩,⟨p1,fA⟩,⟨p2,gA⟩,⟨p3,jA⟩,⟨p4,iA⟩,⟨p5,lA⟩⟩:=And.intro Hs.out.c0 (And.intro Hs.out.c1 (And.intro Hs.out.c2 (And.intro Hs.out.c3 (And.intro Hs.out.c4 Hs.out.c5))));have HR:=za (yw.refl bs (off+k*6) 6 wr);go_wp2_with fail;clear p0 kA p1 fA p2 gA p3 jA p4 iA p5 lA;have sA:=za Hs.out.c0;have rA:=za Hs.out.c1;have oA:=za Hs.out.c2;have iB:=za Hs.out.c3;have cB:=za Hs.out.c4;have dB:=za Hs.out.c5;have pA:=za HR.out;refine(zAC _ wr (by omega)).mono ?_;rintro e w1 ⟨rfl,aA⟩;have eB:=za (sA.out.zRJ aA);have jB:=za (rA.out.zRJ aA);have tA:=za (oA.out.zRJ aA);have kB:=za (iB.out.zRJ aA);have mA:=za (cB.out.zRJ aA);have vA:=za (dB.out.zRJ aA);have nB:=za (pA.out.zRJ aA);clear aA pA sA rA oA iB cB dB;obtain⟨p0,kA⟩:=eB.out;obtain⟨p1,fA⟩:=jB.out;obtain⟨p2,gA⟩:=tA.out;obtain⟨p3,jA⟩:=kB.out;obtain⟨p4,iA⟩:=mA.out;obtain⟨p5,lA⟩:=vA.out;go_wp2_with fail;clear p0 kA p1 fA p2 gA p3 jA p4 iA p5 lA;have Ea:=za (((((eB.out.set (.string (mtF (ze f k0 k)))).zRK (b':=bs) (o':=off+k*6+1) (.int .i64 (ze f k0 k+1)) (Or.inr (by omega))).zRK (b':=bs) (o':=off+k*6+2) (.int .i64 (ze f k0 k+1+1)) (Or.inr (by omega))).zRK (b':=bs) (o':=off+k*6+3) (.int .i64 (ze f k0 k+1+1+1)) (Or.inr (by omega))).zRK (b':=bs) (o':=off+k*6+3+1) (.int .i64 (ze f k0 k+1+1+1+1)) (Or.inr (by omega)));have Eb:=za (((((jB.out.zRK (b':=bs) (o':=off+k*6) (.string (mtF (ze f k0 k))) (Or.inr (by omega))).set (.int .i64 (ze f k0 k+1))).zRK (b':=bs) (o':=off+k*6+2) (.int .i64 (ze f k0 k+1+1)) (Or.inr (by omega))).zRK (b':=bs) (o':=off+k*6+3) (.int .i64 (ze f k0 k+1+1+1)) (Or.inr (by omega))).zRK (b':=bs) (o':=off+k*6+3+1) (.int .i64 (ze f k0 k+1+1+1+1)) (Or.inr (by omega)));have Ec:=za (((((tA.out.zRK (b':=bs) (o':=off+k*6) (.string (mtF (ze f k0 k))) (Or.inr (by omega))).zRK (b':=bs) (o':=off+k*6+1) (.int .i64 (ze f k0 k+1)) (Or.inr (by omega))).set (.int .i64 (ze f k0 k+1+1))).zRK (b':=bs) (o':=off+k*6+3) (.int .i64 (ze f k0 k+1+1+1)) (Or.inr (by omega))).zRK (b':=bs) (o':=off+k*6+3+1) (.int .i64 (ze f k0 k+1+1+1+1)) (Or.inr (by omega)));have Ed:=za (((((kB.out.zRK (b':=bs) (o':=off+k*6) (.string (mtF (ze f k0 k))) (Or.inr (by omega))).zRK (b':=bs) (o':=off+k*6+1) (.int .i64 (ze f k0 k+1)) (Or.inr (by omega))).zRK (b':=bs) (o':=off+k*6+2) (.int .i64 (ze f k0 k+1+1)) (Or.inr (by omega))).set (.int .i64 (ze f k0 k+1+1+1))).zRK (b':=bs) (o':=off+k*6+3+1) (.int .i64 (ze f k0 k+1+1+1+1)) (Or.inr (by omega)));have Ee:=za (((((mA.out.zRK (b':=bs) (o':=off+k*6) (.string (mtF (ze f k0 k))) (Or.inr (by omega))).zRK (b':=bs) (o':=off+k*6+1) (.int .i64 (ze f k0 k+1)) (Or.inr (by omega))).zRK (b':=bs) (o':=off+k*6+2) (.int .i64 (ze f k0 k+1+1)) (Or.inr (by omega))).zRK (b':=bs) (o':=off+k*6+3) (.int .i64 (ze f k0 k+1+1+1)) (Or.inr (by omega))).set (.int .i64 (ze f k0 k+1+1+1+1)));have Ef:=za (((((vA.out.zRK (b':=bs) (o':=off+k*6) (.string (mtF (ze f k0 k))) (Or.inr (by omega))).zRK (b':=bs) (o':=off+k*6+1) (.int .i64 (ze f k0 k+1)) (Or.inr (by omega))).zRK (b':=bs) (o':=off+k*6+2) (.int .i64 (ze f k0 k+1+1)) (Or.inr (by omega))).zRK (b':=bs) (o':=off+k*6+3) (.int .i64 (ze f k0 k+1+1+1)) (Or.inr (by omega))).zRK (b':=bs) (o':=off+k*6+3+1) (.int .i64 (ze f k0 k+1+1+1+1)) (Or.inr (by omega)));have eA:=za (((((nB.out.set (off+k*6) (.string (mtF (ze f k0 k))) (by omega) (by omega)).set (off+k*6+1) (.int .i64 (ze f k0 k+1)) (by omega) (by omega)).set (off+k*6+2) (.int .i64 (ze f k0 k+1+1)) (by omega) (by omega)).set (off+k*6+3) (.int .i64 (ze f k0 k+1+1+1)) (by omega) (by omega)).set (off+k*6+3+1) (.int .i64 (ze f k0 k+1+1+1+1)) (by omega) (by omega));generalize (((((w1.setCell ⟨bs,off+k*6,none⟩ (.string (mtF (ze f k0 k)))).setCell ⟨bs,off+k*6+1,none⟩ (.int .i64 (ze f k0 k+1))).setCell ⟨bs,off+k*6+2,none⟩ (.int .i64 (ze f k0 k+1+1))).setCell ⟨bs,off+k*6+3,none⟩ (.int .i64 (ze f k0 k+1+1+1))).setCell ⟨bs,off+k*6+3+1,none⟩ (.int .i64 (ze f k0 k+1+1+1+1)))=Y at Ea Eb Ec Ed Ee Ef eA ⊢;refine(zDl (kb k) _ (f k).dn (f k).ds (f k).db _ Y (Hs.out.zRX.zRR eA.out.zRR (fun h0 hx=>Hs.out.zRW h0 hx)) (by omega) (by omega)).mono ?_;rintro e wz ⟨rfl,bB,aB⟩;have pB:=za bB;have gB:=za aB;clear bB aB;go_wp2;go_roundw
    case rel=>
     refine⟨k+1,by omega,by go_num,congrArg (Value.int .i64) (by show _=ze f k0 k+5+2*((f k).dn:Int);omega),fun j hj=>?_,?_⟩
     ·have st:=zPE (s:=zCj f k0 k) bA.out (by
        intro i j hi hj sB h1 h2;rw[zO5]at h1 h2;exact rB.out i j hi hj sB h1 h2) dA eA.out (by rw[if_neg (Nat.lt_irrefl k)];exact gB.out) Ea.out Eb.out Ec.out Ed.out Ee.out (by rw[Hx.out];exact Ef.out) (by rw[if_neg (Nat.lt_irrefl k)];rfl) (by rw[Hx.out];exact pB.out) (zF9 (by omega)) j hj
      by_cases e:j=k
      ·subst e;rw[if_pos rfl]at st;rw[if_pos (by omega)];exact st
      ·rw[if_neg e]at st;by_cases e2:j<k
       ·rw[if_pos e2]at st;rw[if_pos (by omega)];exact st
       ·rw[if_neg e2]at st;rw[if_neg (by omega)];exact st
     ·refine(ht.trans (eA.out.zRR.mono ?_)).trans (gB.out.mono ?_)
      ·rintro b rfl;exact Or.inl ⟨by omega,rfl⟩
      ·rintro b ⟨hb,rfl⟩;exact Or.inr ⟨k,dA,hb,rfl⟩
    case measure=>simp[intOf];omega
   ·obtain rfl:k=n:=(by omega);go_wp2;go_ret;refine⟨rfl,⟨oB,_,c,rfl,mc,fun _=>⟨off,rfl,fun i hi=>?_⟩⟩,ht⟩;have:=bA.out i hi;rw[if_pos hi]at this;exact this
def zM(f:Nat->zm)(k0:Int):Nat->Int
 | 0=>k0
 | j+1=>zM f k0 j+7+2*(f j).dn
def zMf(s:zm)(c:Int):zm:={id:=c,name:=mtF (c+1),set:=mtF (c+1+1),zRT:=c+1+1+1,time:=c+1+1+1+1,rs:=c+1+1+1+1+1,rb:=c+1+1+1+1+1+1,dn:=s.dn,ds:=fun i=>c+1+1+1+1+1+1+1+2*i,db:=fun i=>c+1+1+1+1+1+1+1+2*i+1}
theorem zFx(f:Nat->zm)(k0:Int)(j:Nat):∀m,zM f k0 j<=zM f k0 (j+m)
 | 0=>Int.le_refl _
 | m+1=>by
  have:=zFx f k0 j m;show _<=zM f k0 (j+m)+7+2*((f (j+m)).dn:Int);omega
theorem zCl(f:Nat->zm)(k0:Int){j n:Nat}(h:j<=n):zM f k0 j<=zM f k0 n:=by
 obtain⟨m,rfl⟩:=Nat.exists_eq_add_of_le h;exact zFx f k0 j m
def zBg(f:Nat->zm)(k0:Int)(j:Nat):zm:=zMf (f j) (zM f k0 j)
theorem zKE(f:Nat->zm)(k0:Int)(j:Nat):(if j<0 then zBg f k0 j else f j)=f j:=if_neg (by omega)
theorem zOV(f:Nat->zm)(k0:Int)(k j:Nat):(if j<k then zBg f k0 j else f j).dn=(f j).dn:=by split<;>rfl
theorem zIi(bs:Nat)(kb:Nat->Nat)(kv:Nat->Value)(v:Value)(n:Nat)(f:Nat->zm)(k0:Int)(w:World)(h1:yU w bs kb kv v n f)(sB:zA6 kb n f)(jD:0<=k0)(oC:zM f k0 n<=1000000000000) :
  Calls Tryz.prog 44 #[v,.int .i64 k0] w fun e w'=>e = .returned (.int .i64 (zM f k0 n))/\yU w' bs kb kv v n (zBg f k0)/\zF (zB6 bs kb n f) w w':=by
 obtain⟨m1,a,c,rfl,mc,g1⟩:=h1;by_cases dD:n=0
 ·subst dD;go_enter Tryz.func44,Tryz.ntmps44;go_wp2;refine wp_loop_rounds 1 ?_;rw[rounds_succ];go_wp2;go_ret;exact⟨by simp[zM],⟨m1,a,c,rfl,mc,fun h=>absurd h (by omega)⟩,zF.refl _ _⟩
 ·obtain⟨off,rfl,g2⟩:=g1 (by omega);clear g1;have vC:=m1;unfold maxLen at m1;have G2:=za g2;have bD:=za sB;have rC:=za oC;clear g2 sB oC;go_enter Tryz.func44,Tryz.ntmps44;go_wp2
  go_loopw [1,5] (fun m i wr=>∃k:Nat,k<=n/\i = .int .i64 k/\m = .int .i64 (zM f k0 k)/\(∀j,j<n->zAI wr bs (off+j*8) (kb j) (kv j) (if j<k then zBg f k0 j else f j))/\zF (zB6 bs kb n f) w wr) (fun _ i _=>n - (intOf i).toNat)
  case atStart=>exact⟨0,Nat.zero_le _,rfl,rfl,fun j hj=>by rw[zKE];exact G2.out j hj,zF.refl _ _⟩
  case round=>
   obtain⟨k,hk,rfl,rfl,jA,ht⟩:=hrel;have cA:=za jA;clear jA;by_cases nA:k<n
   ·have fD:(k:Int)<(n:Int):=(by omega);have hs:=cA.out k nA;rw[if_neg (by omega)]at hs;have iD:k0<=zM f k0 k:=zCl f k0 (Nat.zero_le k);have gD:zM f k0 k+7+2*((f k).dn:Int)<=1000000000000:=Int.le_trans (zCl f k0 (show k+1<=n from nA)) rC.out;have Hs:=za hs;obtain⟨-,ka,kc,sC,-⟩:=hs.zRX;clear hs;generalize hx:kv k=kvk at *;have Hx:=za hx;clear hx;subst sC;obtain⟨⟨p0,lA⟩,⟨p1,dA⟩,⟨p2,eA⟩,⟨p3,gA⟩,⟨p4,fA⟩,⟨p5,mA⟩,⟨p6,iA⟩,⟨p7,kA⟩⟩:=And.intro Hs.out.c0 (And.intro Hs.out.c1 (And.intro Hs.out.c2 (And.intro Hs.out.c3 (And.intro Hs.out.c4 (And.intro Hs.out.c5 (And.intro Hs.out.c6 Hs.out.c7))))));have HR:=za (yw.refl bs (off+k*8) 8 wr);go_wp2_with fail;clear p0 lA p1 dA p2 eA p3 gA p4 fA p5 mA p6 iA p7 kA;have bB:=za (Hs.out.c0.set (.int .i64 (zM f k0 k)));have vA:=za (Hs.out.c1.zRK (b':=bs) (o':=off+k*8) (.int .i64 (zM f k0 k)) (Or.inr (by omega)));have rA:=za (Hs.out.c2.zRK (b':=bs) (o':=off+k*8) (.int .i64 (zM f k0 k)) (Or.inr (by omega)));have jB:=za (Hs.out.c3.zRK (b':=bs) (o':=off+k*8) (.int .i64 (zM f k0 k)) (Or.inr (by omega)));have fB:=za (Hs.out.c4.zRK (b':=bs) (o':=off+k*8) (.int .i64 (zM f k0 k)) (Or.inr (by omega)));have gB:=za (Hs.out.c5.zRK (b':=bs) (o':=off+k*8) (.int .i64 (zM f k0 k)) (Or.inr (by omega)));have pA:=za (Hs.out.c6.zRK (b':=bs) (o':=off+k*8) (.int .i64 (zM f k0 k)) (Or.inr (by omega)));have lB:=za (Hs.out.c7.zRK (b':=bs) (o':=off+k*8) (.int .i64 (zM f k0 k)) (Or.inr (by omega)));have sA:=za (HR.out.set (off+k*8) (.int .i64 (zM f k0 k)) (by omega) (by omega));generalize (wr.setCell ⟨bs,off+k*8,none⟩ (.int .i64 (zM f k0 k)))=Y1 at bB vA rA jB fB gB pA lB sA ⊢;refine(zAC _ Y1 (by omega)).mono ?_;rintro e w1 ⟨rfl,bA⟩;have iC:=za (bB.out.zRJ bA);have lC:=za (vA.out.zRJ bA);have dC:=za (rA.out.zRJ bA);have nC:=za (jB.out.zRJ bA);have oB:=za (fB.out.zRJ bA);have fC:=za (gB.out.zRJ bA);have pC:=za (pA.out.zRJ bA);have pB:=za (lB.out.zRJ bA);have tC:=za (sA.out.zRJ bA);clear bA sA bB vA rA jB fB gB pA lB;obtain⟨p0,lA⟩:=iC.out;obtain⟨p1,dA⟩:=lC.out;obtain⟨p2,eA⟩:=dC.out;obtain⟨p3,gA⟩:=nC.out;obtain⟨p4,fA⟩:=oB.out;obtain⟨p5,mA⟩:=fC.out;obtain⟨p6,iA⟩:=pC.out;obtain⟨p7,kA⟩:=pB.out;go_wp2_with fail;clear p0 lA p1 dA p2 eA p3 gA p4 fA p5 mA p6 iA p7 kA;have kB:=za (iC.out.zRK (b':=bs) (o':=off+k*8+1) (.string (mtF (zM f k0 k+1))) (Or.inr (by omega)));have aB:=za (lC.out.set (.string (mtF (zM f k0 k+1))));have nB:=za (dC.out.zRK (b':=bs) (o':=off+k*8+1) (.string (mtF (zM f k0 k+1))) (Or.inr (by omega)));have dB:=za (nC.out.zRK (b':=bs) (o':=off+k*8+1) (.string (mtF (zM f k0 k+1))) (Or.inr (by omega)));have iB:=za (oB.out.zRK (b':=bs) (o':=off+k*8+1) (.string (mtF (zM f k0 k+1))) (Or.inr (by omega)));have cB:=za (fC.out.zRK (b':=bs) (o':=off+k*8+1) (.string (mtF (zM f k0 k+1))) (Or.inr (by omega)));have tA:=za (pC.out.zRK (b':=bs) (o':=off+k*8+1) (.string (mtF (zM f k0 k+1))) (Or.inr (by omega)));have mB:=za (pB.out.zRK (b':=bs) (o':=off+k*8+1) (.string (mtF (zM f k0 k+1))) (Or.inr (by omega)));have eB:=za (tC.out.set (off+k*8+1) (.string (mtF (zM f k0 k+1))) (by omega) (by omega));generalize (w1.setCell ⟨bs,off+k*8+1,none⟩ (.string (mtF (zM f k0 k+1))))=Y2 at kB aB nB dB iB cB tA mB eB ⊢;refine(zAC _ Y2 (by omega)).mono ?_;rintro e w2 ⟨rfl,aA⟩;have aC:=za (kB.out.zRJ aA);have rB:=za (aB.out.zRJ aA);have mC:=za (nB.out.zRJ aA);have cC:=za (dB.out.zRJ aA);have jC:=za (iB.out.zRJ aA);have vB:=za (cB.out.zRJ aA);have tB:=za (tA.out.zRJ aA);have bC:=za (mB.out.zRJ aA);have eD:=za (eB.out.zRJ aA);clear aA eB kB aB nB dB iB cB tA mB;obtain⟨p0,lA⟩:=aC.out;obtain⟨p1,dA⟩:=rB.out;obtain⟨p2,eA⟩:=mC.out;obtain⟨p3,gA⟩:=cC.out;obtain⟨p4,fA⟩:=jC.out;obtain⟨p5,mA⟩:=vB.out;obtain⟨p6,iA⟩:=tB.out;obtain⟨p7,kA⟩:=bC.out;go_wp2_with fail;clear p0 lA p1 dA p2 eA p3 gA p4 fA p5 mA p6 iA p7 kA;have Ea:=za (((((aC.out.zRK (b':=bs) (o':=off+k*8+2) (.string (mtF (zM f k0 k+1+1))) (Or.inr (by omega))).zRK (b':=bs) (o':=off+k*8+3) (.int .i64 (zM f k0 k+1+1+1)) (Or.inr (by omega))).zRK (b':=bs) (o':=off+k*8+4) (.int .i64 (zM f k0 k+1+1+1+1)) (Or.inr (by omega))).zRK (b':=bs) (o':=off+k*8+5) (.int .i64 (zM f k0 k+1+1+1+1+1)) (Or.inr (by omega))).zRK (b':=bs) (o':=off+k*8+5+1) (.int .i64 (zM f k0 k+1+1+1+1+1+1)) (Or.inr (by omega)));have Eb:=za (((((rB.out.zRK (b':=bs) (o':=off+k*8+2) (.string (mtF (zM f k0 k+1+1))) (Or.inr (by omega))).zRK (b':=bs) (o':=off+k*8+3) (.int .i64 (zM f k0 k+1+1+1)) (Or.inr (by omega))).zRK (b':=bs) (o':=off+k*8+4) (.int .i64 (zM f k0 k+1+1+1+1)) (Or.inr (by omega))).zRK (b':=bs) (o':=off+k*8+5) (.int .i64 (zM f k0 k+1+1+1+1+1)) (Or.inr (by omega))).zRK (b':=bs) (o':=off+k*8+5+1) (.int .i64 (zM f k0 k+1+1+1+1+1+1)) (Or.inr (by omega)));have Ec:=za (((((mC.out.set (.string (mtF (zM f k0 k+1+1)))).zRK (b':=bs) (o':=off+k*8+3) (.int .i64 (zM f k0 k+1+1+1)) (Or.inr (by omega))).zRK (b':=bs) (o':=off+k*8+4) (.int .i64 (zM f k0 k+1+1+1+1)) (Or.inr (by omega))).zRK (b':=bs) (o':=off+k*8+5) (.int .i64 (zM f k0 k+1+1+1+1+1)) (Or.inr (by omega))).zRK (b':=bs) (o':=off+k*8+5+1) (.int .i64 (zM f k0 k+1+1+1+1+1+1)) (Or.inr (by omega)));have Ed:=za (((((cC.out.zRK (b':=bs) (o':=off+k*8+2) (.string (mtF (zM f k0 k+1+1))) (Or.inr (by omega))).set (.int .i64 (zM f k0 k+1+1+1))).zRK (b':=bs) (o':=off+k*8+4) (.int .i64 (zM f k0 k+1+1+1+1)) (Or.inr (by omega))).zRK (b':=bs) (o':=off+k*8+5) (.int .i64 (zM f k0 k+1+1+1+1+1)) (Or.inr (by omega))).zRK (b':=bs) (o':=off+k*8+5+1) (.int .i64 (zM f k0 k+1+1+1+1+1+1)) (Or.inr (by omega)));have Ee:=za (((((jC.out.zRK (b':=bs) (o':=off+k*8+2) (.string (mtF (zM f k0 k+1+1))) (Or.inr (by omega))).zRK (b':=bs) (o':=off+k*8+3) (.int .i64 (zM f k0 k+1+1+1)) (Or.inr (by omega))).set (.int .i64 (zM f k0 k+1+1+1+1))).zRK (b':=bs) (o':=off+k*8+5) (.int .i64 (zM f k0 k+1+1+1+1+1)) (Or.inr (by omega))).zRK (b':=bs) (o':=off+k*8+5+1) (.int .i64 (zM f k0 k+1+1+1+1+1+1)) (Or.inr (by omega)));have Ef:=za (((((vB.out.zRK (b':=bs) (o':=off+k*8+2) (.string (mtF (zM f k0 k+1+1))) (Or.inr (by omega))).zRK (b':=bs) (o':=off+k*8+3) (.int .i64 (zM f k0 k+1+1+1)) (Or.inr (by omega))).zRK (b':=bs) (o':=off+k*8+4) (.int .i64 (zM f k0 k+1+1+1+1)) (Or.inr (by omega))).set (.int .i64 (zM f k0 k+1+1+1+1+1))).zRK (b':=bs) (o':=off+k*8+5+1) (.int .i64 (zM f k0 k+1+1+1+1+1+1)) (Or.inr (by omega)));have Eg:=za (((((tB.out.zRK (b':=bs) (o':=off+k*8+2) (.string (mtF (zM f k0 k+1+1))) (Or.inr (by omega))).zRK (b':=bs) (o':=off+k*8+3) (.int .i64 (zM f k0 k+1+1+1)) (Or.inr (by omega))).zRK (b':=bs) (o':=off+k*8+4) (.int .i64 (zM f k0 k+1+1+1+1)) (Or.inr (by omega))).zRK (b':=bs) (o':=off+k*8+5) (.int .i64 (zM f k0 k+1+1+1+1+1)) (Or.inr (by omega))).set (.int .i64 (zM f k0 k+1+1+1+1+1+1)));have Eh:=za (((((bC.out.zRK (b':=bs) (o':=off+k*8+2) (.string (mtF (zM f k0 k+1+1))) (Or.inr (by omega))).zRK (b':=bs) (o':=off+k*8+3) (.int .i64 (zM f k0 k+1+1+1)) (Or.inr (by omega))).zRK (b':=bs) (o':=off+k*8+4) (.int .i64 (zM f k0 k+1+1+1+1)) (Or.inr (by omega))).zRK (b':=bs) (o':=off+k*8+5) (.int .i64 (zM f k0 k+1+1+1+1+1)) (Or.inr (by omega))).zRK (b':=bs) (o':=off+k*8+5+1) (.int .i64 (zM f k0 k+1+1+1+1+1+1)) (Or.inr (by omega)));have oA:=za (((((eD.out.set (off+k*8+2) (.string (mtF (zM f k0 k+1+1))) (by omega) (by omega)).set (off+k*8+3) (.int .i64 (zM f k0 k+1+1+1)) (by omega) (by omega)).set (off+k*8+4) (.int .i64 (zM f k0 k+1+1+1+1)) (by omega) (by omega)).set (off+k*8+5) (.int .i64 (zM f k0 k+1+1+1+1+1)) (by omega) (by omega)).set (off+k*8+5+1) (.int .i64 (zM f k0 k+1+1+1+1+1+1)) (by omega) (by omega));generalize (((((w2.setCell ⟨bs,off+k*8+2,none⟩ (.string (mtF (zM f k0 k+1+1)))).setCell ⟨bs,off+k*8+3,none⟩ (.int .i64 (zM f k0 k+1+1+1))).setCell ⟨bs,off+k*8+4,none⟩ (.int .i64 (zM f k0 k+1+1+1+1))).setCell ⟨bs,off+k*8+5,none⟩ (.int .i64 (zM f k0 k+1+1+1+1+1))).setCell ⟨bs,off+k*8+5+1,none⟩ (.int .i64 (zM f k0 k+1+1+1+1+1+1)))=Y at Ea Eb Ec Ed Ee Ef Eg Eh oA ⊢;refine(zDl (kb k) _ (f k).dn (f k).ds (f k).db _ Y (Hs.out.zRX.zRR oA.out.zRR (fun h0 hx=>Hs.out.zRW h0 hx)) (by omega) (by omega)).mono ?_;rintro e wz ⟨rfl,gC,eC⟩;have aD:=za gC;have kC:=za eC;clear gC eC;go_wp2;go_roundw
    case rel=>
     refine⟨k+1,by omega,by go_num,congrArg (Value.int .i64) (by show _=zM f k0 k+7+2*((f k).dn:Int);omega),fun j hj=>?_,?_⟩
     ·have st:=zOI (s:=zBg f k0 k) cA.out (by
        intro i j hi hj cD h1 h2;rw[zOV]at h1 h2;exact bD.out i j hi hj cD h1 h2) nA oA.out (by rw[if_neg (Nat.lt_irrefl k)];exact kC.out) Ea.out Eb.out Ec.out Ed.out Ee.out Ef.out Eg.out (by rw[Hx.out];exact Eh.out) (by rw[if_neg (Nat.lt_irrefl k)];rfl) (by rw[Hx.out];exact aD.out) ⟨zF9 (by omega),zF9 (by omega)⟩ j hj
      by_cases e:j=k
      ·subst e;rw[if_pos rfl]at st;rw[if_pos (by omega)];exact st
      ·rw[if_neg e]at st;by_cases e2:j<k
       ·rw[if_pos e2]at st;rw[if_pos (by omega)];exact st
       ·rw[if_neg e2]at st;rw[if_neg (by omega)];exact st
     ·refine(ht.trans (oA.out.zRR.mono ?_)).trans (kC.out.mono ?_)
      ·rintro b rfl;exact Or.inl ⟨by omega,rfl⟩
      ·rintro b ⟨hb,rfl⟩;exact Or.inr ⟨k,nA,hb,rfl⟩
    case measure=>simp[intOf];omega
   ·obtain rfl:k=n:=(by omega);go_wp2;go_ret;refine⟨rfl,⟨vC,_,c,rfl,mc,fun _=>⟨off,rfl,fun i hi=>?_⟩⟩,ht⟩;have:=cA.out i hi;rw[if_pos hi]at this;exact this
def zNT(W:zH)(k0:Int):zH:={zRQ:=zQb W.zRQ k0,time:=W.time,next:=W.next,sn:=W.sn,zRS:=zCj W.zRS (zA7 W.zRQ k0),pn:=W.pn,zRP:=zBg W.zRP (ze W.zRS (zA7 W.zRQ k0) W.sn)}
def zAq(W:zH)(k0:Int):Int:=zM W.zRP (ze W.zRS (zA7 W.zRQ k0) W.sn) W.pn
theorem zP5(p:zJ)(k0:Int):k0<=zA7 p k0:=by
 unfold zA7;have:=zCZ p.s k0 (Nat.zero_le p.n);have h0:qU p.s k0 0=k0:=rfl;omega
theorem zDd(W:zH)(k0:Int):k0<=zA7 W.zRQ k0/\zA7 W.zRQ k0<=ze W.zRS (zA7 W.zRQ k0) W.sn/\ze W.zRS (zA7 W.zRQ k0) W.sn<=zAq W k0:=
 ⟨zP5 _ _,zDR W.zRS (zA7 W.zRQ k0) (Nat.zero_le _),zCl W.zRP (ze W.zRS (zA7 W.zRQ k0) W.sn) (Nat.zero_le _)⟩
theorem zE1(lo hi:Nat)(v0 v1 v2 v3:Value)(W:zH)(k0:Int)(w:World)(h:qO w lo hi v0 v1 v2 v3 W)(oA:0<=k0)(iA:zAq W k0<=1000000000000) :
  Calls Tryz.prog 13 #[zz v0 v1 v2 v3 W,.int .i64 k0] w fun e w'=>e = .returned (.int .i64 (zAq W k0))/\qO w' lo hi v0 v1 v2 v3 (zNT W k0)/\zF (fun k=>lo<=k/\k<hi) w w':=by
 obtain⟨a0,c0,a1,c1,a2,c2,a3,c3,rfl,rfl,rfl,rfl⟩:=h.form;obtain⟨P,Q,R,⟨⟨bs,hb,kb,kv,s1,s2,s3,s4,s5⟩,⟨bt,kt,vt,t1,t2,t3⟩,⟨bp,kp,vp,p1,p2,p3⟩,pq,pr,qr⟩,hl⟩:=h;have S1:=za s1;have S2:=za s2;have S3:=za s3;have S4:=za s4;have S5:=za s5;have T1:=za t1;have T2:=za t2;have T3:=za t3;have P1:=za p1;have P2:=za p2;have P3:=za p3;have aA:=za (And.intro pq (And.intro pr (And.intro qr hl)));have HE:=za (zDd W k0);have HK:=za iA;have HB:=za (zi.zRL w (.slice a0 W.zRQ.n c0) (.slice a1 W.zRQ.hn c1) (.int .i64 W.time) (.int .i64 W.next) (.slice a2 W.sn c2) (.slice a3 W.pn c3) 37);have ha:=zC w (.cells #[.slice a0 W.zRQ.n c0,.slice a1 W.zRQ.hn c1,.int .i64 W.time,.int .i64 W.next,.slice a2 W.sn c2,.slice a3 W.pn c3] 37);have NA:=za (show ∀k,yp bs kb W.zRQ.n W.zRQ.s k\/(0<W.zRQ.hn/\k=hb)->k<w.heap.size from fun k hk=>by
  rcases hk with hk | ⟨h0,rfl⟩
  ·exact s1.lt hk
  ·obtain⟨_,_,_,_,_,h3,_⟩:=s3;obtain⟨o,_,h4⟩:=h3 h0;exact(h4 0 h0).lt)
 have NB:=za (show ∀k,zCA bt kt W.sn W.zRS k->k<w.heap.size from fun k hk=>t1.lt hk);have NC:=za (show ∀k,zB6 bp kp W.pn W.zRP k->k<w.heap.size from fun k hk=>p1.lt hk);clear s1 s2 s3 s4 s5 t1 t2 t3 p1 p2 p3 pq pr qr hl iA;obtain⟨⟨x0,-⟩,⟨x1,-⟩,⟨x2,-⟩,⟨x3,-⟩,⟨x4,-⟩,⟨x5,-⟩⟩:=HB.out;go_enter Tryz.func13,Tryz.ntmps13;go_wp2_with fail;clear x0 x1 x2 x3 x4 x5;have gA:(w.alloc (.cells #[.slice a0 W.zRQ.n c0,.slice a1 W.zRQ.hn c1,.int .i64 W.time,.int .i64 W.next,.slice a2 W.sn c2,.slice a3 W.pn c3] 37)).heap.size=w.heap.size+1:=World.size_alloc _ _;have nA:=za gA;clear gA;generalize w.alloc (.cells #[.slice a0 W.zRQ.n c0,.slice a1 W.zRQ.hn c1,.int .i64 W.time,.int .i64 W.next,.slice a2 W.sn c2,.slice a3 W.pn c3] 37)=W0 at ha HB nA ⊢;refine(zKN bs hb kb kv _ _ W.zRQ k0 W0 (S1.out.zRJ ha) S2.out (S3.out.zRJ ha) S4.out oA (by have h1:=HE.out;have h2:=HK.out;unfold zA7 at h1;omega)).mono ?_;rintro e w1 ⟨rfl,g1,g2,bA⟩;have G1:=za g1;have G2:=za g2;have pA:=za bA;have fA:=za (HB.out.zRR bA (fun x=>absurd (NA.out _ x) (by omega)));have lA:=za ((T1.out.zRJ ha).zRR bA (fun k hk x=>aA.out.1 k (S5.out k x) (T3.out k hk)));have rA:=za ((P1.out.zRJ ha).zRR bA (fun k hk x=>aA.out.2.1 k (S5.out k x) (P3.out k hk)));clear g1 g2 bA HB;obtain⟨⟨x0,-⟩,⟨x1,-⟩,⟨x2,-⟩,⟨x3,-⟩,⟨x4,-⟩,⟨x5,-⟩⟩:=fA.out;go_wp2_with fail;clear x0 x1 x2 x3 x4 x5;refine(zJ7 bt kt vt _ W.sn W.zRS _ w1 lA.out T2.out (by have h1:=HE.out;unfold zA7 at h1;omega) (by have h1:=HE.out;have h2:=HK.out;unfold zA7 at h1;omega)).mono ?_;rintro e w2 ⟨rfl,g3,cA⟩;have G3:=za g3;have eA:=za cA;have jA:¬zCA bt kt W.sn W.zRS w.heap.size:=fun x=>absurd (NB.out _ x) (by omega)
 have mA:=za (fA.out.zRR cA jA);have sA:=za (rA.out.zRR cA (fun k hk x=>aA.out.2.2.1 k (T3.out k x) (P3.out k hk)));clear g3 cA fA jA;obtain⟨⟨x0,-⟩,⟨x1,-⟩,⟨x2,-⟩,⟨x3,-⟩,⟨x4,-⟩,⟨x5,-⟩⟩:=mA.out;go_wp2_with fail;clear x0 x1 x2 x3 x4 x5;refine(zIi bp kp vp _ W.pn W.zRP _ w2 sA.out P2.out (by have h1:=HE.out;unfold zA7 at h1;omega) (by have h1:=HE.out;have h2:=HK.out;unfold zAq zA7 at *;omega)).mono ?_;rintro e w3 ⟨rfl,g4,kA⟩;have G4:=za g4;have dA:=za kA;clear g4 kA;go_wp2;go_ret;refine⟨rfl,⟨P,Q,R,⟨⟨bs,hb,kb,kv,?_,S2.out,?_,S4.out,S5.out⟩,⟨bt,kt,vt,?_,T2.out,T3.out⟩,⟨bp,kp,vp,G4.out,P2.out,P3.out⟩,aA.out.1,aA.out.2.1,aA.out.2.2.1⟩,aA.out.2.2.2⟩,?_⟩
 ·refine(G1.out.zRR eA.out (fun h0 x=>?_) (fun i hi h0 x=>?_)).zRR dA.out (fun h0 x=>?_) (fun i hi h0 x=>?_)
  ·exact aA.out.1 _ (S5.out _ (Or.inl (Or.inl ⟨h0,rfl⟩))) (T3.out _ x)
  ·exact aA.out.1 _ (S5.out _ (Or.inl (Or.inr ⟨i,hi,h0,rfl⟩))) (T3.out _ x)
  ·exact aA.out.2.1 _ (S5.out _ (Or.inl (Or.inl ⟨h0,rfl⟩))) (P3.out _ x)
  ·exact aA.out.2.1 _ (S5.out _ (Or.inl (Or.inr ⟨i,hi,h0,rfl⟩))) (P3.out _ x)
 ·refine(G2.out.zRR eA.out (fun h0 x=>?_)).zRR dA.out (fun h0 x=>?_)
  ·exact aA.out.1 _ (S5.out _ (Or.inr ⟨h0,rfl⟩)) (T3.out _ x)
  ·exact aA.out.2.1 _ (S5.out _ (Or.inr ⟨h0,rfl⟩)) (P3.out _ x)
 ·exact G3.out.zRR dA.out (fun k hk x=>aA.out.2.2.1 k (T3.out k hk) (P3.out k x))
 ·refine(((zF.zRM ha).trans (pA.out.mono ?_)).trans (eA.out.mono ?_)).trans (dA.out.mono ?_)
  ·exact fun k hk=>aA.out.2.2.2 k (Or.inl (S5.out k hk))
  ·exact fun k hk=>aA.out.2.2.2 k (Or.inr (Or.inl (T3.out k hk)))
  ·exact fun k hk=>aA.out.2.2.2 k (Or.inr (Or.inr (P3.out k hk)))
theorem zGc(f:Nat->zL)(k0:Int):∀n,qU f k0 n<=k0+2*(n:Int)+2*(ym f n:Int)
 | 0=>by show k0<=_;omega
 | n+1=>by
  have:=zGc f k0 n;show qU f k0 n+2+2*((f n).kn:Int)<=k0+2*((n+1:Nat):Int)+2*((ym f n+((f n).kn+(f n).data.size):Nat):Int);omega
theorem zFU(f:Nat->qC)(k0:Int):∀n,ze f k0 n<=k0+5*(n:Int)+2*(zBJ f n:Int)
 | 0=>by show k0<=_;omega
 | n+1=>by
  have:=zFU f k0 n;show ze f k0 n+5+2*((f n).dn:Int)<=k0+5*((n+1:Nat):Int)+2*((zBJ f n+((f n).name.size+(f n).dn):Nat):Int);omega
theorem zEA(f:Nat->zm)(k0:Int):∀n,zM f k0 n<=k0+7*(n:Int)+2*(zAx f n:Int)
 | 0=>by show k0<=_;omega
 | n+1=>by
  have:=zEA f k0 n;show zM f k0 n+7+2*((f n).dn:Int)<=k0+7*((n+1:Nat):Int)+2*((zAx f n+((f n).name.size+(f n).set.size+(f n).dn):Nat):Int);omega
theorem zMH{W:zH}(h:yX W<=4000000):zAq W 1<=1000000000000/\0<=zAq W 1:=by
 have h1:=zGc W.zRQ.s 1 W.zRQ.n;have h2:=zDd W 1;have h3:=zFU W.zRS (zA7 W.zRQ 1) W.sn;have h4:=zEA W.zRP (ze W.zRS (zA7 W.zRQ 1) W.sn) W.pn;unfold yX qD at h;have h5:zA7 W.zRQ 1=qU W.zRQ.s 1 W.zRQ.n+W.zRQ.hn:=rfl;have h6:zAq W 1=zM W.zRP (ze W.zRS (zA7 W.zRQ 1) W.sn) W.pn:=rfl;generalize zA7 W.zRQ 1=e at *;generalize ze W.zRS e W.sn=s at *;omega
end Go.Proofs.YtmgeglgboadfiaaGreatDoor
