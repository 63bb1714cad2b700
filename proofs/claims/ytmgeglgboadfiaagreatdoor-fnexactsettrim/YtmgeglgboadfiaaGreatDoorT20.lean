/- The deed of impl.SetTrim. -/
import Derived.Test.YtmgeglgboadfiaaGreatDoorT19
set_option linter.unusedVariables false
set_option maxRecDepth 20000
set_option maxHeartbeats 4000000
namespace Go.Proofs.YtmgeglgboadfiaaGreatDoor
open Go.RowKit
theorem zIs(p:Nat->Addr)(C k B0 B1:Nat)(z0 z1 z2 z3:Value)(W:zH)(name:ByteArray)(zRV:Int)(w:World)(hE:zEs w p)(hI:zAt W)(ht:zB6 (zN W (W.zRS k).zRT).time)(hx:(Lit.int .i64 (W.zRS k).zRT).wf=true)(hk:zFu W name k)(hD:(W.zRS k).dn<=1048576)(mB:C<w.heap.size)(k0:w.cell? ⟨B0,0,none⟩=some (.string name))(l0:B0<C)(k1:w.cell? ⟨B1,0,none⟩=some (.int .i64 zRV))(l1:B1<C)
  (ho:qR w (C+1) w.heap.size z0 z1 z2 z3 W) (hC:yn w C z0 z1 (.int .i64 W.time) (.int .i64 W.next) z2 z3 (.int .i64 0) (.int .i64 0) .nilIface) :
  Calls Tryz.prog 47 #[.pointer (some ⟨C,0,none⟩),.pointer (some ⟨B0,0,none⟩),.pointer (some ⟨B1,0,none⟩)] w (zLS p (zBD W k (zAL W.zRQ (W.zRS k).rs (W.zRS k).rb zRV W.time)) C w):=by
 have h8:=hI.zRa.zRS.1;have vA:=hk.1;have HC:=zB hC;have HO:=zB ho;obtain⟨bs,o2,jA,nA⟩:∃bs o2,Hid (∃nb nv,zAE w bs o2 nb nv (W.zRS k))/\Hid (∀w',Below w.heap.size w w'->Calls Tryz.prog 37 #[.pointer (some ⟨C,0,none⟩),.string name] w' fun e bA=>e = .returned (.pointer (some ⟨bs,o2,none⟩))/\Below w'.heap.size w' bA):=by
  obtain⟨P,Q,R,sA,mA⟩:=ho;have lB:=sA.isIn;obtain⟨kB,kb,kv,hS,vB,gB⟩:=lB.zRS;obtain⟨off,c,rfl,lA⟩:=hS.nth vA;refine⟨kB,off+k*6,zB ⟨_,_,lA⟩,zB (fun w' kA=>?_)⟩;obtain⟨c4,-⟩:=(hC.zRJ kA).2.2.2.2.1;refine(zJi C (C+1) w.heap.size W.sn k c _ W.zRS name w' c4 ((hS.at (lo:=C+1) (hi:=w.heap.size) (fun j hj=>mA j (Or.inr (Or.inl (gB j hj))))).zRJ kA) h8 vA hk.2.1 hk.2.2).mono ?_;rintro e w2 ⟨⟨b,oB,e1,rfl⟩,gA⟩;simp only[Option.some.injEq,Addr.mk.injEq,and_true]at e1;obtain⟨rfl,rfl⟩:=e1;exact⟨rfl,gA⟩
 obtain⟨nb,nv,lA⟩:=jA.out;clear jA;have jA:=zB lA;have fA:zy w (C+1) w.heap.size z0 z1 W.zRQ:=ho.own.at.zRQ;obtain⟨a0,c0,a1,c1,rfl,rfl⟩:=fA.form;obtain⟨y,hy⟩:∃y,y=zAL W.zRQ (W.zRS k).rs (W.zRS k).rb zRV W.time:=⟨_,rfl⟩;have nB:=zB (show ∀w',Below w.heap.size w w'->Calls Tryz.prog 48 #[.agg #[.slice a0 W.zRQ.n c0,.slice a1 W.zRQ.hn c1],.agg #[.int .i64 (W.zRS k).rs,.int .i64 (W.zRS k).rb],.int .i64 zRV,.int .i64 W.time] w' (zHK y w')from fun w' hb=>by
  rw[hy];exact zGJ _ _ (C+1) w.heap.size W.zRQ (W.zRS k).rs (W.zRS k).rb zRV W.time w' (fA.zRJ hb))
 have HG:=zB (show zGw y by rw[hy];exact zGR _ _ _ _ _);rw[<-hy];have iB:=zB (show ∀(w' bA:World) (v0 v1 vo:Value) (lo hi:Nat),Below w.heap.size w w'->Below w'.heap.size w' bA->zt bA lo hi v0 v1 y.zRQ->w'.heap.size<=lo->hi<=bA.heap.size->zw bA w'.heap.size vo y.old->Calls Tryz.prog 35 #[.pointer (some ⟨C,0,none⟩),.string name,.agg #[v0,v1,.int .i64 y.rs,.int .i64 y.rb,vo,.int .i64 y.code]] bA (zLS p (zBD W k y) C bA)from fun w' bA v0 v1 vo lo hi hb kA hp h1 h2 hr=>by
  have gA:=zA hb kA;have hz:=hb.size;have tB:=kA.size;have rB:=gA.size;refine zQB p C k w.heap.size lo hi _ _ _ _ v0 v1 vo W y name bA (hE.zRJ gA) hI HG.out ht hx hk hD mB rB (ho.zRJ gA) (hC.zRJ gA) hp (by omega) h2 ?_;obtain⟨bb,h3,cB⟩:=zw.own hr (by have:=HG.out.2.1;unfold maxLen;omega);exact h3.at (fun h0=>⟨by have:=(cB h0).2.1;omega,(cB h0).2.2⟩))
 have oA:Below w.heap.size w w.drew:=(Below.refl _ _).drew;have aA:=zB (show ∀w',Below w.heap.size w w'->(fun w':World=>w'.cell? ⟨B0,0,none⟩=some (.string name)/\w'.cell? ⟨B1,0,none⟩=some (.int .i64 zRV)) w' from fun w' hb=>⟨(hb.cell (zD k0)).trans k0,(hb.cell (zD k1)).trans k1⟩);have eA:=zB (show ∀w',Below C w w'->(fun w':World=>w'.cell? ⟨B0,0,none⟩=some (.string name)/\w'.cell? ⟨B1,0,none⟩=some (.int .i64 zRV)) w' from fun w' hb=>⟨(hb.cell (p:=⟨B0,0,none⟩) l0).trans k0,(hb.cell (p:=⟨B1,0,none⟩) l1).trans k1⟩);clear hE hI ht hx hk hD ho hC fA lA hy;go_enter Tryz.func47,Tryz.ntmps47;go_upto_region 0 with fail;clear k0 k1;refine wp_region_held_drew (S:=(fun w':World=>w'.cell? ⟨B0,0,none⟩=some (.string name)/\w'.cell? ⟨B1,0,none⟩=some (.int .i64 zRV))) (by kernel_rfl) (aA.out _ oA) (fun hHeld=>?_);have tA:=oA;generalize w.drew=q0 at hHeld oA tA ⊢;refine tk 0 (h:=tk 1 (h:=tk 2 (h:=tk 3 (h:=tk 4 (h:=tk 5 (h:=tk 7 (h:=tk 8 (h:=tk 13 (h:=tk 14 (h:=tk 15 (h:=tk 16 (h:=tk 17 (h:=?_)))))))))))));refine zJh [6,9,10,11,12,18] (fun i=>if i=10 then [9] else if i=11 then [10] else if i=12 then [11] else []) (fun i=>i+4) (fun i v w'=>(i=6->v = .agg #[.slice a0 W.zRQ.n c0,.slice a1 W.zRQ.hn c1])/\(i=9->v = .pointer (some ⟨bs,o2,none⟩))/\(i=10->v = .pointer (some ⟨bs,o2,none⟩))/\(i=11->v = .pointer (some ⟨bs,o2+3,none⟩))/\(i=12->v = .agg #[.int .i64 (W.zRS k).rs,.int .i64 (W.zRS k).rb])/\(i=18->v = .int .i64 W.time)) 2 (G:=fun w'=>Below w.heap.size w w') (by kernel_rfl) (by decide) (by decide) (by decide) ?_ (fun _ _ h t=>zA h t) (by assumption) tA ?_ ?_
 ·intro i v w' bA hf t;exact hf
 ·intro i hi x w2 hS hG hD K hK;simp only[List.mem_cons,List.not_mem_nil,or_false]at hi;rcases hi with rfl | rfl | rfl | rfl | rfl | rfl
  ·refine wpOp_step (zAU rfl) (fun K' cA=>?_);simp only[qb,Act.put,Nat.reduceAdd,s1,s2,s3];obtain⟨⟨c0,-⟩,⟨c1,-⟩,⟨c2,-⟩,-⟩:=HC.out.zRJ hG;go_simp;refine cA _ _ (hK.out _ _ w2 ?_ (aA.out _ (zA hG (Below.refl _ _))) ⟨fun _=>rfl,fun e=>absurd e (by decide),fun e=>absurd e (by decide),fun e=>absurd e (by decide),fun e=>absurd e (by decide),fun e=>absurd e (by decide)⟩ (Below.refl _ _));simp only[qb,Act.put,Nat.reduceAdd,s1,s2,s3]
  ·refine wpOp_step (zAU rfl) (fun K' cA=>?_);simp only[qb,Act.put,Nat.reduceAdd,s1,s2,s3];go_simp;go_at_call 37;refine(nA.out _ hG).mono ?_;rintro e w3 ⟨rfl,iA⟩;refine cA _ _ (hK.out _ _ w3 ?_ (aA.out _ (zA hG iA)) ⟨fun e=>absurd e (by decide),fun _=>rfl,fun e=>absurd e (by decide),fun e=>absurd e (by decide),fun e=>absurd e (by decide),fun e=>absurd e (by decide)⟩ iA);simp only[qb,Act.put,Nat.reduceAdd,s1,s2,s3]
  ·refine wpOp_step (zAU rfl) (fun K' cA=>?_);simp only[qb,Act.put,Nat.reduceAdd,s1,s2,s3];have e9:=(hD 9 (by decide)).2.1 rfl;simp only[e9];go_simp;refine cA _ _ (hK.out _ _ w2 ?_ (aA.out _ (zA hG (Below.refl _ _))) ⟨fun e=>absurd e (by decide),fun e=>absurd e (by decide),fun _=>rfl,fun e=>absurd e (by decide),fun e=>absurd e (by decide),fun e=>absurd e (by decide)⟩ (Below.refl _ _));simp only[qb,Act.put,Nat.reduceAdd,s1,s2,s3,e9]
  ·refine wpOp_step (zAU rfl) (fun K' cA=>?_);simp only[qb,Act.put,Nat.reduceAdd,s1,s2,s3];have e9:=(hD 10 (by decide)).2.2.1 rfl;simp only[e9];go_simp;refine cA _ _ (hK.out _ _ w2 ?_ (aA.out _ (zA hG (Below.refl _ _))) ⟨fun e=>absurd e (by decide),fun e=>absurd e (by decide),fun e=>absurd e (by decide),fun _=>rfl,fun e=>absurd e (by decide),fun e=>absurd e (by decide)⟩ (Below.refl _ _));simp only[qb,Act.put,Nat.reduceAdd,s1,s2,s3,e9]
  ·refine wpOp_step (zAU rfl) (fun K' cA=>?_);simp only[qb,Act.put,Nat.reduceAdd,s1,s2,s3];have e9:=(hD 11 (by decide)).2.2.2.1 rfl;simp only[e9];obtain⟨q3,-⟩:=(jA.out.zRJ hG).c3;obtain⟨q4,-⟩:=(jA.out.zRJ hG).c4;go_simp;refine cA _ _ (hK.out _ _ w2 ?_ (aA.out _ (zA hG (Below.refl _ _))) ⟨fun e=>absurd e (by decide),fun e=>absurd e (by decide),fun e=>absurd e (by decide),fun e=>absurd e (by decide),fun _=>rfl,fun e=>absurd e (by decide)⟩ (Below.refl _ _));simp only[qb,Act.put,Nat.reduceAdd,s1,s2,s3,e9]
  ·refine wpOp_step (zAU rfl) (fun K' cA=>?_);simp only[qb,Act.put,Nat.reduceAdd,s1,s2,s3];obtain⟨⟨c0,-⟩,⟨c1,-⟩,⟨c2,-⟩,-⟩:=HC.out.zRJ hG;go_simp;refine cA _ _ (hK.out _ _ w2 ?_ (aA.out _ (zA hG (Below.refl _ _))) ⟨fun e=>absurd e (by decide),fun e=>absurd e (by decide),fun e=>absurd e (by decide),fun e=>absurd e (by decide),fun e=>absurd e (by decide),fun _=>rfl⟩ (Below.refl _ _));simp only[qb,Act.put,Nat.reduceAdd,s1,s2,s3]
 ·intro x w2 hS hG hF;have f6:=(hF 6 (by decide)).1 rfl;have f12:=(hF 12 (by decide)).2.2.2.2.1 rfl;have ft:=(hF 18 (by decide)).2.2.2.2.2 rfl;simp only[qb,zAv,if_true,Act.put,Nat.reduceAdd,s1,s2,s3,f6,f12,ft];clear hF f6 f12 ft hHeld;refine rd [19] (rc (fun K hK=>?_) .nil);go_simp;go_at_call 48;refine(nB.out w2 hG).mono ?_;rintro e w3 ⟨v0,v1,vo,lo,hi,rfl,pB,jB,rA,pA,-,iA⟩;obtain⟨b0,d0,b1,d1,rfl,rfl⟩:=rA.at.form;obtain⟨b2,d2,rfl,-⟩:=zW pA;have eB:=zB rA;have fB:=zB pA;have bB:=zA hG iA;clear rA pA
  (try go_wp2_with fail)
  refine hK.out _ _ (aA.out _ bB) ?_;clear hK K;intro hHeld
  try simp only[Act.put,s1,s2,s3]
  refine rd [20] (rc (fun K hK=>?_) .nil);go_simp;go_at_call 35;refine(iB.out w2 w3 _ _ _ lo hi hG iA eB.out pB jB fB.out).mono ?_;rintro e w4 ⟨⟨ve,rfl⟩,sB,dA⟩;have aB:=zB dA;have dB:Below C w w4:=(bB.mono (by omega)).trans sB;clear dA
  (try go_wp2_with fail)
  refine hK.out _ _ (eA.out _ dB) ?_;clear hK K;intro hHeld
  try simp only[Act.put,s1,s2,s3]
  refine wpAnyH_done (by kernel_rfl) ?_ _;clear hHeld;go_wp2_with fail;go_end0;refine⟨⟨_,rfl⟩,dB,aB.out.1,?_⟩;rcases aB.out.2 with h | h
  ·exact Or.inl h
  ·exact Or.inr h
theorem zOQ{W:zH}{x:ByteArray}(h:zAR W x):∃k,zFu W x k:=by
 obtain⟨k,hk,hn⟩:=h
 induction k using Nat.strongRecOn with
 |_ k ih=>
  by_cases e:∃j,j<k/\(W.zRS j).name=x
  ·obtain⟨j,hj,hx⟩:=e;exact ih j hj (by omega) hx
  ·exact⟨k,hk,hn,fun j hj hx=>e ⟨j,hj,hx⟩⟩
theorem zHn.all{W:zH}{a b:Prop}{m:Nat}{Q:Nat->Prop}{ei:Nat->Nat}(h:zHn W a b m Q ei none):∀j,j<m->Q j:=by
 rcases h with⟨_,e⟩ | ⟨_,_,e⟩ | ⟨_,_,_,k,hk,_,_,e⟩ | ⟨_,_,_,h4,_⟩
 ·cases e
 ·cases e
 ·cases e
 ·exact h4
theorem zHn.uniq{W:zH}{a b:Prop}{m:Nat}{Q:Nat->Prop}{ei:Nat->Nat}{r r':Option Nat}(h:zHn W a b m Q ei r)(h':zHn W a b m Q ei r'):r=r':=by
 rcases h with⟨h1,e⟩ | ⟨h1,h2,e⟩ | ⟨h1,h2,h3,i,hi,hn,hl,e⟩ | ⟨h1,h2,h3,h4,e⟩
 ·rcases h' with⟨g1,e'⟩ | ⟨g1,g2,e'⟩ | ⟨g1,g2,g3,j,hj,gn,gl,e'⟩ | ⟨g1,g2,g3,g4,e'⟩
  ·rw[e,e']
  ·exact absurd h1 g1
  ·exact absurd h1 g1
  ·exact absurd h1 g1
 ·rcases h' with⟨g1,e'⟩ | ⟨g1,g2,e'⟩ | ⟨g1,g2,g3,j,hj,gn,gl,e'⟩ | ⟨g1,g2,g3,g4,e'⟩
  ·exact absurd g1 h1
  ·rw[e,e']
  ·rcases h2 with h | h
   ·exact absurd g2 h
   ·exact absurd h g3
  ·rcases h2 with h | h
   ·exact absurd g2 h
   ·exact absurd h g3
 ·rcases h' with⟨g1,e'⟩ | ⟨g1,g2,e'⟩ | ⟨g1,g2,g3,j,hj,gn,gl,e'⟩ | ⟨g1,g2,g3,g4,e'⟩
  ·exact absurd g1 h1
  ·rcases g2 with h | h
   ·exact absurd h2 h
   ·exact absurd h h3
  ·rcases Nat.lt_trichotomy i j with h | h | h
   ·exact absurd (gl i h) hn
   ·rw[e,e',h]
   ·exact absurd (hl j h) gn
  ·exact absurd (g4 i hi) hn
 ·rcases h' with⟨g1,e'⟩ | ⟨g1,g2,e'⟩ | ⟨g1,g2,g3,j,hj,gn,gl,e'⟩ | ⟨g1,g2,g3,g4,e'⟩
  ·exact absurd g1 h1
  ·rcases g2 with h | h
   ·exact absurd h2 h
   ·exact absurd h h3
  ·exact absurd (h4 j hj) gn
  ·rw[e,e']
theorem zQb{a:ByteArray}:(∃i,i<1/\8000<((fun (_:Nat)=>a) i).size)↔8000<a.size:=⟨fun ⟨_,_,h⟩=>h,fun h=>⟨0,by omega,h⟩⟩
def zAg(W:zH)(name:ByteArray)(zRV:Int)(w:World)(e:Ending)(w':World):Prop:=∃r o,zHn W (∃i,i<1/\8000<((fun (_:Nat)=>name) i).size) (∃i,i<0/\¬yM ((fun _=>⟨#[]⟩) i)) 1 (fun i=>match i with  | _=>zAR W name) (fun i=>match i with  | _=>2) r/\(r=none->∃k,zFu W name k/\o=zBD W k (zAL W.zRQ (W.zRS k).rs (W.zRS k).rb zRV W.time))/\zBv (zM4 r o) w e w'
theorem zAg.ill{W:zH}{name:ByteArray}{zRV:Int}{w w':World}{e:Ending}{i:Nat}(hr:zHn W (∃i,i<1/\8000<((fun (_:Nat)=>name) i).size) (∃i,i<0/\¬yM ((fun _=>⟨#[]⟩) i)) 1 (fun i=>match i with  | _=>zAR W name) (fun i=>match i with  | _=>2) (some i))(h:zBv (zBt (zBY i)) w e w'):zAg W name zRV w e w':=⟨some i,zBt 0,hr,fun e=>(by cases e),h⟩
theorem zHF(p:Nat->Addr)(v0 v1 v2 v3:Value)(lo hi:Nat)(W:zH)(name:ByteArray)(zRV:Int)(w:World)(hE:zEs w p)(h:zl w lo hi v0 v1 v2 v3 W)(cA:zCG W)(b1:qD W.zRQ<=1048576)(b2:W.sn<=1048576)(b3:W.pn<=1048576)(b4:zDh W)(bA:name.size<=maxLen)(aA:(Lit.int .i64 zRV).wf=true) :
  Calls Tryz.prog 17 #[zz v0 v1 v2 v3 W,.string name,.int .i64 zRV] w (zAg W name zRV w):=by
 by_cases hs:zAR W name
 ·obtain⟨k,hk⟩:=zOQ hs;refine(zED p v0 v1 v2 v3 lo hi W name zRV (zBD W k (zAL W.zRQ (W.zRS k).rs (W.zRS k).rb zRV W.time)) w hE h cA b1 b2 b3 b4 bA aA ?_).mono ?_
  ·intro B0 B1 C w' z0 z1 z2 z3 k0 l0 k1 l1 hI _ _ hq dA hb ho hC;have hS:=(zGk W).1 hI;have hx:=cA (W.pn+k) (by have:=hk.1;unfold zq;omega);rw[yK]at hx;exact zIs p C k B0 B1 z0 z1 z2 z3 W name zRV w' (hE.zRJ hb) hI (zMi hS.zRa _) hx hk (b4.1 k hk.1) dA k0 l0 k1 l1 ho hC
  ·rintro e w' ⟨r,h1,h2⟩;exact⟨r,_,h1,fun _=>⟨k,hk,rfl⟩,h2⟩
 ·refine(zED p v0 v1 v2 v3 lo hi W name zRV (zBt 0) w hE h cA b1 b2 b3 b4 bA aA ?_).mono ?_
  ·intro B0 B1 C w' z0 z1 z2 z3 k0 l0 k1 l1 hI _ _ hq dA hb ho hC;exact absurd (hq 0 (by omega)) hs
  ·rintro e w' ⟨r,h1,h2⟩;exact⟨r,_,h1,fun e=>absurd ((e▸h1).all 0 (by omega)) hs,h2⟩
open Go.Maps
def zEo(s:qC):Nat:=s.name.size+s.dn
def zBM(f:Nat->qC):Nat->Nat
 |0=>0
 |k+1=>zBM f k+zEo (f k)
def zDt(s:zm):Nat:=s.name.size+s.set.size+s.dn
def zAx(f:Nat->zm):Nat->Nat
 |0=>0
 |k+1=>zAx f k+zDt (f k)
def yW(W:zH):Nat:=qD W.zRQ+(W.sn+zBM W.zRS W.sn)+(W.pn+zAx W.zRP W.pn)
theorem zOA(v:Value)(lo hi:Nat)(s:qC)(left:Int)(w:World)(h1:zR w lo hi v s.dn s.ds s.db)(m1:s.name.size<=maxLen)(eA:0<=left)(iA:left<=1048576) :
  Calls Tryz.prog 66 #[zDG v s,.int .i64 left] w fun e w'=>zDA (zEo s) left e/\Below w.heap.size w w':=by
 unfold zDG;have H1:=zB h1;obtain⟨-,a,c,rfl,-⟩:=id h1;clear h1;unfold maxLen at m1;have aA:=zC w (.cells #[.string s.name,.int .i64 s.origin,.int .i64 s.zRT,.int .i64 s.rs,.int .i64 s.rb,.slice a s.dn c] 116);go_enter Tryz.func66,Tryz.ntmps66;by_cases h:left - (s.name.size:Int)<0
 ·go_wp2;go_ret;exact⟨⟨-1,rfl,by omega,by omega,by omega⟩,aA⟩
 ·go_wp2_with fail;refine(zFC _ s.dn lo hi _ _ _ _ (H1.out.zRJ aA) (by omega) (by omega)).mono ?_;rintro e w1 ⟨⟨r,rfl,cA,gA,fA⟩,dA⟩;have bA:=zA aA dA;have Hr:=zB cA;clear cA dA aA;by_cases h2:r<0
  ·go_wp2;go_ret;exact⟨⟨-1,rfl,by omega,by omega,by omega⟩,bA⟩
  ·go_wp2;go_ret;refine⟨⟨_,rfl,fun _=>?_,by omega,by omega⟩,bA⟩;have:=Hr.out (by omega);unfold zEo;omega
theorem zMu(v:Value)(lo hi:Nat)(s:zm)(left:Int)(w:World)(h1:zR w lo hi v s.dn s.ds s.db)(m1:s.name.size<=maxLen)(m2:s.set.size<=maxLen)(eA:0<=left)(iA:left<=1048576) :
  Calls Tryz.prog 67 #[yg v s,.int .i64 left] w fun e w'=>zDA (zDt s) left e/\Below w.heap.size w w':=by
 unfold yg;have H1:=zB h1;obtain⟨-,a,c,rfl,-⟩:=id h1;clear h1;unfold maxLen at m1 m2;have aA:=zC w (.cells #[.int .i64 s.id,.string s.name,.string s.set,.int .i64 s.zRT,.int .i64 s.time,.int .i64 s.rs,.int .i64 s.rb,.slice a s.dn c] 119);go_enter Tryz.func67,Tryz.ntmps67;by_cases h:left - (s.name.size:Int)<0
 ·go_wp2;go_ret;exact⟨⟨-1,rfl,by omega,by omega,by omega⟩,aA⟩
 ·by_cases h':left - (s.name.size:Int) - (s.set.size:Int)<0
  ·go_wp2;go_ret;exact⟨⟨-1,rfl,by omega,by omega,by omega⟩,aA⟩
  ·go_wp2_with fail;refine(zFC _ s.dn lo hi _ _ _ _ (H1.out.zRJ aA) (by omega) (by omega)).mono ?_;rintro e w1 ⟨⟨r,rfl,cA,gA,fA⟩,dA⟩;have bA:=zA aA dA;have Hr:=zB cA;clear cA dA aA;by_cases h2:r<0
   ·go_wp2;go_ret;exact⟨⟨-1,rfl,by omega,by omega,by omega⟩,bA⟩
   ·go_wp2;go_ret;refine⟨⟨_,rfl,fun _=>?_,by omega,by omega⟩,bA⟩;have:=Hr.out (by omega);unfold zDt;omega
structure yw (bs o n:Nat) (w w':World):Prop where
 zRR:zF (fun b=>b=bs) w w'
 kept:∀x v,(x<o\/o+n<=x)->zX w bs x v->zX w' bs x v
theorem yw.refl(bs o n:Nat)(w:World):yw bs o n w w:=⟨zF.refl _ _,fun _ _ _ h=>h⟩
theorem yw.set{bs o n:Nat}{w w':World}(h:yw bs o n w w')(x:Nat)(u:Value)(h1:o<=x)(h2:x<o+n):yw bs o n w (w'.setCell ⟨bs,x,none⟩ u):=
 ⟨h.zRR.setCell (p:=⟨bs,x,none⟩) rfl u,fun y v hy hc=>(h.kept y v hy hc).zRK u (Or.inr (by omega))⟩
theorem yw.zRJ{bs o n:Nat}{w w' w2:World}(h:yw bs o n w w')(t:Below w'.heap.size w' w2):yw bs o n w w2:=
 ⟨h.zRR.trans (zF.zRM t),fun y v hy hc=>(h.kept y v hy hc).zRJ t⟩
theorem zO3{w w1 w2:World}{bs off n k:Nat}{kb:Nat->Nat}{kv:Nat->Value}{f:Nat->qC}{s:qC}(h:∀j,j<n->zAE w bs (off+j*6) (kb j) (kv j) (f j))(cA:zBK kb n f)(hk:k<n)
  (r:yw bs (off+k*6) 6 w w1) (t:zF (fun b=>0<(f k).dn/\b=kb k) w1 w2) (c0:zX w1 bs (off+k*6) (.string s.name)) (c1:zX w1 bs ((off+k*6)+1) (.int .i64 s.origin)) (c2:zX w1 bs ((off+k*6)+2) (.int .i64 s.zRT)) (c3:zX w1 bs ((off+k*6)+3) (.int .i64 s.rs)) (c4:zX w1 bs ((off+k*6)+4) (.int .i64 s.rb)) (c5:zX w1 bs (off+k*6+5) (kv k)) (bA:s.dn=(f k).dn) (hp:zj w2 (kb k) (kv k) s.dn s.ds s.db) (hs:s.name.size<=maxLen) :
  ∀j,j<n->zAE w2 bs (off+j*6) (kb j) (kv j) (if j=k then s else f j):=by
 intro j hj;have nb:¬(0<(f k).dn/\bs=kb k):=fun hx=>(h k hk).zRW hx.1 hx.2.symm
 by_cases e:j=k
 ·subst e;rw[if_pos rfl];exact⟨c0.zRR t nb,c1.zRR t nb,c2.zRR t nb,c3.zRR t nb,c4.zRR t nb,c5.zRR t nb,hp,hs,by rw[bA];exact(h j hj).zRW⟩
 ·rw[if_neg e];have aA:=h j hj;refine⟨(r.kept _ _ (by omega) aA.c0).zRR t nb,(r.kept _ _ (by omega) aA.c1).zRR t nb,(r.kept _ _ (by omega) aA.c2).zRR t nb,(r.kept _ _ (by omega) aA.c3).zRR t nb,(r.kept _ _ (by omega) aA.c4).zRR t nb,(r.kept _ _ (by omega) aA.c5).zRR t nb,?_,aA.zRZ,aA.zRW⟩;exact(aA.zRX.zRR r.zRR (fun h0 hx=>aA.zRW h0 hx)).zRR t (fun h0 hx=>cA j k hj hk e h0 hx.1 hx.2)
theorem zNq{w w1 w2:World}{bs off n k:Nat}{kb:Nat->Nat}{kv:Nat->Value}{f:Nat->zm}{s:zm}(h:∀j,j<n->zAI w bs (off+j*8) (kb j) (kv j) (f j))(cA:zBB kb n f)(hk:k<n)
  (r:yw bs (off+k*8) 8 w w1) (t:zF (fun b=>0<(f k).dn/\b=kb k) w1 w2) (c0:zX w1 bs (off+k*8) (.int .i64 s.id)) (c1:zX w1 bs ((off+k*8)+1) (.string s.name)) (c2:zX w1 bs ((off+k*8)+2) (.string s.set)) (c3:zX w1 bs ((off+k*8)+3) (.int .i64 s.zRT)) (c4:zX w1 bs ((off+k*8)+4) (.int .i64 s.time)) (c5:zX w1 bs ((off+k*8)+5) (.int .i64 s.rs)) (c6:zX w1 bs ((off+k*8)+6) (.int .i64 s.rb)) (c7:zX w1 bs (off+k*8+7) (kv k)) (bA:s.dn=(f k).dn) (hp:zj w2 (kb k) (kv k) s.dn s.ds s.db) (hs:s.name.size<=maxLen/\s.set.size<=maxLen) :
  ∀j,j<n->zAI w2 bs (off+j*8) (kb j) (kv j) (if j=k then s else f j):=by
 intro j hj;have nb:¬(0<(f k).dn/\bs=kb k):=fun hx=>(h k hk).zRW hx.1 hx.2.symm
 by_cases e:j=k
 ·subst e;rw[if_pos rfl];exact⟨c0.zRR t nb,c1.zRR t nb,c2.zRR t nb,c3.zRR t nb,c4.zRR t nb,c5.zRR t nb,c6.zRR t nb,c7.zRR t nb,hp,hs,by rw[bA];exact(h j hj).zRW⟩
 ·rw[if_neg e];have aA:=h j hj;refine⟨(r.kept _ _ (by omega) aA.c0).zRR t nb,(r.kept _ _ (by omega) aA.c1).zRR t nb,(r.kept _ _ (by omega) aA.c2).zRR t nb,(r.kept _ _ (by omega) aA.c3).zRR t nb,(r.kept _ _ (by omega) aA.c4).zRR t nb,(r.kept _ _ (by omega) aA.c5).zRR t nb,(r.kept _ _ (by omega) aA.c6).zRR t nb,(r.kept _ _ (by omega) aA.c7).zRR t nb,?_,aA.zRZ,aA.zRW⟩;exact(aA.zRX.zRR r.zRR (fun h0 hx=>aA.zRW h0 hx)).zRR t (fun h0 hx=>cA j k hj hk e h0 hx.1 hx.2)
def zBA(k:Nat)(out:ByteArray):ByteArray:=
 if h:k=0 then out else zBA (k / 10) (⟨#[48+UInt8.ofNat (k % 10)]⟩ ++ out)
termination_by k
decreasing_by omega
def mtF(k:Int):ByteArray:=if k<=0 then⟨#[109,48]⟩else⟨#[109]⟩ ++ zBA k.toNat ⟨#[]⟩
theorem zLJ{n:Nat}(h:(n:Int)<=1000000000000):n<10 ^ (13 - (⟨#[]⟩:ByteArray).size):=by
 show n<10 ^ 13;omega
theorem zL8(x:UInt8)(out:ByteArray):((⟨#[x]⟩:ByteArray) ++ out).size=out.size+1:=by
 rw[ByteArray.size_append];show 1+out.size=_;omega
theorem zPu{m:Nat}{out:ByteArray}(h:m<10 ^ (13 - out.size)):m<=10000000000000:=by
 have h2:10 ^ (13 - out.size)<=10 ^ 13:=Nat.pow_le_pow_right (by omega) (by omega);omega
theorem zNR{m:Nat}{out:ByteArray}(x:UInt8)(h0:¬m=0)(h:m<10 ^ (13 - out.size))(h2:out.size<=13) :
  m / 10<10 ^ (13 - ((⟨#[x]⟩:ByteArray) ++ out).size)/\((⟨#[x]⟩:ByteArray) ++ out).size<=13:=by
 rw[zL8];by_cases e:out.size=13
 ·rw[e]at h;simp at h;omega
 ·obtain⟨j,hj⟩:∃j,13 - out.size=j+1:=⟨12 - out.size,by omega⟩;rw[hj,Nat.pow_succ]at h;have:13 - (out.size+1)=j:=(by omega);rw[this];exact⟨by omega,by omega⟩
theorem zP2{m:Nat}{out:ByteArray}(h0:¬m=0):zBA (m / 10) (⟨#[48+UInt8.ofNat (m % 10)]⟩ ++ out)=zBA m out:=by
 conv=>rhs;rw[zBA]
 rw[dif_neg h0]
theorem zQJ(m:Nat):∀(out:ByteArray),m<10 ^ (13 - out.size)->out.size<=13->(zBA m out).size<=13:=by
 induction m using Nat.strongRecOn with
 |_ m ih=>
  intro out h h2;by_cases h0:m=0
  ·rw[zBA,dif_pos h0];exact h2
  ·rw[zBA,dif_neg h0];have:=zNR (48+UInt8.ofNat (m % 10)) h0 h h2;exact ih (m / 10) (by omega) _ this.1 this.2
theorem zFy{k:Int}(hk:k<=1000000000000):(mtF k).size<=maxLen:=by
 unfold mtF maxLen;split
 ·decide
 ·have h:(zBA k.toNat ⟨#[]⟩).size<=13:=zQJ _ _ (zLJ (by omega)) (Nat.zero_le _);rw[zL8];omega
theorem zPs(w:World)(n:Int):(convert 216 9 (.slice (some ⟨w.heap.size,0,none⟩) 1 1)).run Tryz.prog (w.alloc (.cells #[.int .u8 n] 5)) = .ok (.string ⟨#[UInt8.ofNat n.toNat]⟩) (w.alloc (.cells #[.int .u8 n] 5)):=
 run_convert_bytes_arg (P:=Tryz.prog) (w.alloc (.cells #[.int .u8 n] 5)) 216 5 (by kernel_rfl) (by kernel_rfl) w.heap.size 0 1 1 [n] rfl (fun i hi=>by
  obtain rfl:i=0:=(by omega);simp) 9 (by kernel_rfl)
theorem yz(k:Int)(w:World)(hk:k<=1000000000000) :
  Calls Tryz.prog 114 #[.int .i64 k] w fun e w'=>e = .returned (.string (mtF k))/\Below w.heap.size w w':=by
 by_cases h0:k<=0
 ·have hm:Hid (mtF k=⟨#[109,48]⟩):=if_pos h0;go_enter Tryz.func114,Tryz.ntmps114;go_wp2;go_ret;exact⟨by rw[hm.out];rfl,Below.refl _ _⟩
 ·obtain⟨n,rfl⟩:=Int.eq_ofNat_of_zero_le (by omega:0<=k);have hm:Hid (mtF (n:Int)=⟨#[109]⟩ ++ zBA n ⟨#[]⟩):=if_neg h0;have eA:Hid (n<10 ^ (13 - (⟨#[]⟩:ByteArray).size)):=zLJ hk;have iA:=zPs;go_enter Tryz.func114,Tryz.ntmps114;go_wp2
  go_loopw [0,3] (fun v s wr=>∃(m:Nat) (out:ByteArray),v = .int .i64 m/\s = .string out/\m<10 ^ (13 - out.size)/\out.size<=13/\zBA m out=zBA n ⟨#[]⟩/\Below w.heap.size w wr) (fun v _ _=>(intOf v).toNat)
  case atStart=>exact⟨n,⟨#[]⟩,rfl,rfl,eA.out,Nat.zero_le _,rfl,Below.refl _ _⟩
  case round=>
   obtain⟨m,out,rfl,rfl,aA,dA,cA,hb⟩:=hrel;have bA:Hid (m<10 ^ (13 - out.size)/\zBA m out=zBA n ⟨#[]⟩):=⟨aA,cA⟩;have fA:=zPu aA;clear aA cA;by_cases hz:m=0
   ·subst hz;go_wp2;go_ret;refine⟨?_,hb⟩;have e1:=bA.out.2;rw[zBA,dif_pos rfl]at e1;rw[hm.out,<-e1];rfl
   ·have gA:(0:Int)<(m:Int):=(by omega);have Hz:Hid (¬m=0):=hz;clear hz;go_wp2;go_roundw
    case rel=>
     have hn:=zNR (48+UInt8.ofNat (m % 10)) Hz.out bA.out.1 dA;exact⟨m / 10,_,by go_num,rfl,hn.1,hn.2,(zP2 Hz.out).trans bA.out.2,hb.alloc hb.size _⟩
    case measure=>simp[intOf];omega
theorem za{P:Prop}(h:P):Hid P:=h
def zAk(b:Nat)(w w':World):Prop:=∀cur,w.heap[b]?=some (.cells cur 2 (0,0))->∃cur',w'.heap[b]?=some (.cells cur' 2 (0,0))/\cur'.size=cur.size
theorem zAk.refl(b:Nat)(w:World):zAk b w w:=fun aA h=>⟨aA,h,rfl⟩
theorem zAk.set{b:Nat}{w w':World}(h:zAk b w w')(o:Nat)(u:Value):zAk b w (w'.setCell ⟨b,o,none⟩ u):=fun bA hc=>by
 obtain⟨aA,h1,h2⟩:=h bA hc;exact⟨aA.setIfInBounds o u,zAX u h1,by simpa using h2⟩
theorem zAk.room{b:Nat}{w w':World}{a:Option Addr}{n c:Nat}(h:zAk b w w')(hr:zQp w b a n c):zQp w' b a n c:=fun cA=>by
 obtain⟨r0,r1,r2,bA,r3,r4⟩:=hr cA;obtain⟨aA,h1,h2⟩:=h bA r3;exact⟨r0,r1,r2,aA,h1,by omega⟩
theorem zHy(b:Nat)(v:Value)(n:Nat)(f:Nat->Int)(k0:Int)(w:World)(h1:qk w b v n f)(nA:0<=k0)(mA:k0+n<=1000000000000) :
  Calls Tryz.prog 113 #[v,.int .i64 k0] w fun e w'=>e = .returned (.int .i64 (k0+n))/\qk w' b v n (fun i=>k0+i)/\zF (fun k=>0<n/\k=b) w w':=by
 have kA:=h1;obtain⟨m1,a,c,rfl,mc,g1,bA⟩:=h1;have cA:=za bA;clear bA;by_cases jA:n=0
 ·subst jA;go_enter Tryz.func113,Tryz.ntmps113;go_wp2;refine wp_loop_rounds 1 ?_;rw[rounds_succ];go_wp2;go_ret;exact⟨by simp,⟨m1,a,c,rfl,mc,fun h=>absurd h (by omega),cA.out⟩,zF.refl _ _⟩
 ·obtain⟨off,rfl,g2⟩:=g1 (by omega);clear g1;have iA:=m1;unfold maxLen at m1;have G2:Hid (∀i,i<n->zX w b (off+i) (.int .i64 (f i))):=g2;clear g2 kA;go_enter Tryz.func113,Tryz.ntmps113;go_wp2
  go_loopw [1,5] (fun m i wr=>∃k:Nat,k<=n/\i = .int .i64 k/\m = .int .i64 (k0+k)/\(∀j,j<n->zX wr b (off+j) (.int .i64 (if j<k then k0+j else f j)))/\zF (fun k=>0<n/\k=b) w wr/\zAk b w wr) (fun _ i _=>n - (intOf i).toNat)
  case atStart=>exact⟨0,Nat.zero_le _,rfl,by simp,fun j hj=>by simpa using G2.out j hj,zF.refl _ _,zAk.refl _ _⟩
  case round=>
   obtain⟨k,hk,rfl,rfl,dA,ht,eA⟩:=hrel;have fA:=za eA;clear eA;have aA:Hid (∀j,j<n->zX wr b (off+j) (.int .i64 (if j<k then k0+j else f j))):=dA;clear dA;by_cases lA:k<n
   ·have gA:(k:Int)<(n:Int):=(by omega);obtain⟨hc,hf⟩:=aA.out k lA;go_wp2;go_roundw
    case rel=>
     refine⟨k+1,by omega,by go_num,by go_num,fun j hj=>?_,ht.setCell ⟨by omega,rfl⟩ _,fA.out.set _ _⟩;by_cases e:j=k
     ·subst e;rw[if_pos (by omega)];exact(aA.out j hj).set _
     ·have:=(aA.out j hj).zRK (b':=b) (o':=off+k) (.int .i64 (k0+k)) (Or.inr (by omega));by_cases e2:j<k
      ·rw[if_pos (by omega)];rw[if_pos e2]at this;exact this
      ·rw[if_neg (by omega)];rw[if_neg e2]at this;exact this
    case measure=>simp[intOf];omega
   ·obtain rfl:k=n:=(by omega);go_wp2;go_ret;refine⟨rfl,⟨iA,_,c,rfl,mc,fun _=>⟨off,rfl,fun i hi=>?_⟩,fA.out.room cA.out⟩,ht⟩;have:=aA.out i hi;rw[if_pos hi]at this;exact this
theorem zDf(b:Nat)(v:Value)(n:Nat)(f g:Nat->Int)(k0:Int)(w:World)(h1:zj w b v n f g)(lA:0<=k0)(jA:k0+2*n<=1000000000000) :
  Calls Tryz.prog 115 #[v,.int .i64 k0] w fun e w'=>e = .returned (.int .i64 (k0+2*n))/\zj w' b v n (fun i=>k0+2*i) (fun i=>k0+2*i+1)/\zF (fun k=>0<n/\k=b) w w':=by
 have fA:=h1;obtain⟨m1,a,c,rfl,mc,g1⟩:=h1;by_cases eA:n=0
 ·subst eA;go_enter Tryz.func115,Tryz.ntmps115;go_wp2;refine wp_loop_rounds 1 ?_;rw[rounds_succ];go_wp2;go_ret;exact⟨by simp,⟨m1,a,c,rfl,mc,fun h=>absurd h (by omega)⟩,zF.refl _ _⟩
 ·obtain⟨off,rfl,g2⟩:=g1 (by omega);clear g1;have dA:=m1;unfold maxLen at m1;have G2:Hid (∀i,i<n->zX w b (off+i*2) (.int .i64 (f i))/\zX w b (off+i*2+1) (.int .i64 (g i))):=g2;clear g2 fA;go_enter Tryz.func115,Tryz.ntmps115;go_wp2
  go_loopw [1,5] (fun m i wr=>∃k:Nat,k<=n/\i = .int .i64 k/\m = .int .i64 (k0+2*k)/\(∀j,j<n->zX wr b (off+j*2) (.int .i64 (if j<k then k0+2*j else f j))/\zX wr b (off+j*2+1) (.int .i64 (if j<k then k0+2*j+1 else g j)))/\zF (fun k=>0<n/\k=b) w wr) (fun _ i _=>n - (intOf i).toNat)
  case atStart=>exact⟨0,Nat.zero_le _,rfl,by simp,fun j hj=>by simpa using G2.out j hj,zF.refl _ _⟩
  case round=>
   obtain⟨k,hk,rfl,rfl,bA,ht⟩:=hrel;have aA:Hid (∀j,j<n->zX wr b (off+j*2) (.int .i64 (if j<k then k0+2*j else f j))/\zX wr b (off+j*2+1) (.int .i64 (if j<k then k0+2*j+1 else g j))):=bA;clear bA;by_cases gA:k<n
   ·have cA:(k:Int)<(n:Int):=(by omega);obtain⟨⟨hc,hf⟩,⟨kA,iA⟩⟩:=aA.out k gA;go_wp2;go_roundw
    case rel=>
     refine⟨k+1,by omega,by go_num,by go_num,fun j hj=>?_,(ht.setCell ⟨by omega,rfl⟩ _).setCell ⟨by omega,rfl⟩ _⟩;by_cases e:j=k
     ·subst e;rw[if_pos (by omega),if_pos (by omega)];exact⟨((aA.out j hj).1.set _).zRK _ (Or.inr (by omega)),((aA.out j hj).2.zRK _ (Or.inr (by omega))).set _⟩
     ·have t1:=((aA.out j hj).1.zRK (b':=b) (o':=off+k*2) (.int .i64 (k0+2*k)) (Or.inr (by omega))).zRK (b':=b) (o':=off+k*2+1) (.int .i64 (k0+2*k+1)) (Or.inr (by omega));have t2:=((aA.out j hj).2.zRK (b':=b) (o':=off+k*2) (.int .i64 (k0+2*k)) (Or.inr (by omega))).zRK (b':=b) (o':=off+k*2+1) (.int .i64 (k0+2*k+1)) (Or.inr (by omega));by_cases e2:j<k
      ·rw[if_pos (by omega),if_pos (by omega)];rw[if_pos e2]at t1 t2;exact⟨t1,t2⟩
      ·rw[if_neg (by omega),if_neg (by omega)];rw[if_neg e2]at t1 t2;exact⟨t1,t2⟩
    case measure=>simp[intOf];omega
   ·obtain rfl:k=n:=(by omega);go_wp2;go_ret;refine⟨rfl,⟨dA,_,c,rfl,mc,fun _=>⟨off,rfl,fun i hi=>?_⟩⟩,ht⟩;have:=aA.out i hi;rw[if_pos hi,if_pos hi]at this;exact this
def qU(f:Nat->zL)(k0:Int):Nat->Int
 |0=>k0
 |j+1=>qU f k0 j+2+2*(f j).kn
def zQt(s:zL)(c:Int):zL:={zRU:=c,kn:=s.kn,ks:=fun i=>c+1+2*i,kb:=fun i=>c+1+2*i+1,data:=mtF (c+1+2*s.kn)}
theorem zHt(f:Nat->zL)(k0:Int)(j:Nat):∀m,qU f k0 j<=qU f k0 (j+m)
 |0=>Int.le_refl _
 |m+1=>by
  have:=zHt f k0 j m;show _<=qU f k0 (j+m)+2+2*((f (j+m)).kn:Int);omega
theorem zCh(f:Nat->zL)(k0:Int){j n:Nat}(h:j<=n):qU f k0 j<=qU f k0 n:=by
 obtain⟨m,rfl⟩:=Nat.exists_eq_add_of_le h;exact zHt f k0 j m
def zEB(f:Nat->zL)(k0:Int)(j:Nat):zL:=zQt (f j) (qU f k0 j)
theorem zMz{w w1 w2:World}{bs off:Nat}{kb:Nat->Nat}{kv:Nat->Value}{n k:Nat}{f:Nat->zL}{s':zL}
  (h:∀j,j<n->yy w bs (off+j*3) (kb j) (kv j) (f j)) (cA:yS kb n f) (hk:k<n)
  (t1:zF (fun b=>0<(f k).kn/\b=kb k) (w.setCell ⟨bs,off+k*3,none⟩ (.int .i64 s'.zRU)) w1) (t2:Below w1.heap.size w1 w2)
  (bA:s'.kn=(f k).kn) (hp:zj w1 (kb k) (kv k) s'.kn s'.ks s'.kb) (hs:s'.data.size<=maxLen) :
  ∀j,j<n->yy (w2.setCell ⟨bs,off+k*3+2,none⟩ (.string s'.data)) bs (off+j*3) (kb j) (kv j) (if j=k then s' else f j):=by
 intro j hj;have nb:¬(0<(f k).kn/\bs=kb k):=fun hx=>(h k hk).zRW hx.1 hx.2.symm
 by_cases e:j=k
 ·subst e;rw[if_pos rfl];have aA:=h j hj;refine⟨?_,?_,?_,?_,hs,?_⟩
  ·exact(((aA.zRU.set _).zRR t1 nb).zRJ t2).zRK _ (Or.inr (by omega))
  ·exact(((aA.kidsv.zRK _ (Or.inr (by omega))).zRR t1 nb).zRJ t2).zRK _ (Or.inr (by omega))
  ·exact(((aA.data.zRK _ (Or.inr (by omega))).zRR t1 nb).zRJ t2).set _
  ·refine(hp.zRJ t2).zRR (zF.put _ _ _ _) (fun h0 hx=>?_);exact aA.zRW (bA▸h0) hx
  ·rw[bA];exact aA.zRW
 ·rw[if_neg e];have aA:=h j hj;have c0:=aA.zRU.zRK (b':=bs) (o':=off+k*3) (.int .i64 s'.zRU) (Or.inr (by omega));have c1:=aA.kidsv.zRK (b':=bs) (o':=off+k*3) (.int .i64 s'.zRU) (Or.inr (by omega));have c2:=aA.data.zRK (b':=bs) (o':=off+k*3) (.int .i64 s'.zRU) (Or.inr (by omega));have c3:=aA.kids.zRR (zF.put w bs (off+k*3) (.int .i64 s'.zRU)) (fun h0 hx=>aA.zRW h0 hx);refine⟨?_,?_,?_,?_,aA.zRZ,aA.zRW⟩
  ·exact((c0.zRR t1 nb).zRJ t2).zRK _ (Or.inr (by omega))
  ·exact((c1.zRR t1 nb).zRJ t2).zRK _ (Or.inr (by omega))
  ·exact((c2.zRR t1 nb).zRJ t2).zRK _ (Or.inr (by omega))
  ·refine((c3.zRR t1 (fun h0 hx=>cA j k hj hk e h0 hx.1 hx.2)).zRJ t2).zRR (zF.put _ _ _ _) (fun h0 hx=>aA.zRW h0 hx)
theorem zOB(f:Nat->zL)(k0:Int)(j:Nat):(if j<0 then zEB f k0 j else f j)=f j:=if_neg (by omega)
theorem zQq(f:Nat->zL)(k0:Int)(k j:Nat):(if j<k then zEB f k0 j else f j).kn=(f j).kn:=by split<;>rfl
theorem zIi(bs:Nat)(kb:Nat->Nat)(kv:Nat->Value)(v:Value)(n:Nat)(f:Nat->zL)(k0:Int)(w:World)(h1:qY w bs kb kv v n f)(gA:yS kb n f)(cB:0<=k0)(iA:qU f k0 n<=1000000000000) :
  Calls Tryz.prog 112 #[v,.int .i64 k0] w fun e w'=>e = .returned (.int .i64 (qU f k0 n))/\qY w' bs kb kv v n (zEB f k0)/\zF (yp bs kb n f) w w':=by
 obtain⟨m1,a,c,rfl,mc,g1⟩:=h1;by_cases tA:n=0
 ·subst tA;go_enter Tryz.func112,Tryz.ntmps112;go_wp2;refine wp_loop_rounds 1 ?_;rw[rounds_succ];go_wp2;go_ret;exact⟨by simp[qU],⟨m1,a,c,rfl,mc,fun h=>absurd h (by omega)⟩,zF.refl _ _⟩
 ·obtain⟨off,rfl,g2⟩:=g1 (by omega);clear g1;have rA:=m1;unfold maxLen at m1;have G2:Hid (∀j,j<n->yy w bs (off+j*3) (kb j) (kv j) (f j)):=g2;have kA:Hid (yS kb n f):=gA;have oA:Hid (qU f k0 n<=1000000000000):=iA;clear g2 gA iA;go_enter Tryz.func112,Tryz.ntmps112;go_wp2
  go_loopw [1,5] (fun m i wr=>∃k:Nat,k<=n/\i = .int .i64 k/\m = .int .i64 (qU f k0 k)/\(∀j,j<n->yy wr bs (off+j*3) (kb j) (kv j) (if j<k then zEB f k0 j else f j))/\zF (yp bs kb n f) w wr) (fun _ i _=>n - (intOf i).toNat)
  case atStart=>exact⟨0,Nat.zero_le _,rfl,rfl,fun j hj=>by rw[zOB];exact G2.out j hj,zF.refl _ _⟩
  case round=>
   obtain⟨k,hk,rfl,rfl,cA,ht⟩:=hrel;have aA:Hid (∀j,j<n->yy wr bs (off+j*3) (kb j) (kv j) (if j<k then zEB f k0 j else f j)):=cA;clear cA;by_cases dA:k<n
   ·have pA:(k:Int)<(n:Int):=(by omega);have hs:=aA.out k dA;rw[if_neg (by omega)]at hs;have fB:k0<=qU f k0 k:=zCh f k0 (Nat.zero_le k);have dB:qU f k0 k+2+2*((f k).kn:Int)<=1000000000000:=Int.le_trans (zCh f k0 (show k+1<=n from dA)) oA.out;obtain⟨sA,mA⟩:=hs.zRU;obtain⟨bB,aB⟩:=hs.kidsv;obtain⟨bA,fA⟩:=hs.data;have Hs:Hid (yy wr bs (off+k*3) (kb k) (kv k) (f k)):=hs;obtain⟨_,ka,kc,lA,_⟩:=hs.kids;clear hs;generalize hx:kv k=kvk at *;have Hx:Hid (kv k=kvk):=hx;clear hx;subst lA;go_wp2_with fail;refine(zDf (kb k) _ (f k).kn (f k).ks (f k).kb _ _ ?p1 ?p2 ?p3).mono ?_
    case p1=>exact Hs.out.kids.zRR (zF.put _ _ _ _) (fun h0 hx=>Hs.out.zRW h0 hx)
    case p2=>omega
    case p3=>omega
    rintro e w1 ⟨rfl,jA,eA⟩;have nb:¬(0<(f k).kn/\bs=kb k):=fun hx=>Hs.out.zRW hx.1 hx.2.symm
    have Hd:=((Hs.out.data.zRK (b':=bs) (o':=off+k*3) (.int .i64 (qU f k0 k)) (Or.inr (by omega))).zRR eA nb);have vA:Hid (zj w1 (kb k) (.slice ka (f k).kn kc) (f k).kn (fun i=>qU f k0 k+1+2*i) (fun i=>qU f k0 k+1+2*i+1)):=jA;clear nb jA sA mA bB aB bA fA;go_wp2_with fail;refine(yz _ _ (by omega)).mono ?_;rintro e w2 ⟨rfl,bA⟩;obtain⟨eB,fA⟩:=Hd.zRJ bA;clear Hd;go_wp2;go_roundw
    case rel=>
     refine⟨k+1,by omega,by go_num,congrArg (Value.int .i64) (by show _=qU f k0 k+2+2*((f k).kn:Int);omega),fun j hj=>?_,?_⟩
     ·have st:=zMz (s':=zEB f k0 k) aA.out (by
        intro i j hi hj nA h1 h2;rw[zQq]at h1 h2;exact kA.out i j hi hj nA h1 h2) dA (by rw[if_neg (Nat.lt_irrefl k)];exact eA) bA (by rw[if_neg (Nat.lt_irrefl k)];rfl) (by rw[Hx.out];exact vA.out) (zFy (by omega)) j hj
      by_cases e:j=k
      ·subst e;rw[if_pos rfl]at st;rw[if_pos (by omega)];exact st
      ·rw[if_neg e]at st;by_cases e2:j<k
       ·rw[if_pos e2]at st;rw[if_pos (by omega)];exact st
       ·rw[if_neg e2]at st;rw[if_neg (by omega)];exact st
     ·refine(((ht.setCell (Or.inl ⟨by omega,rfl⟩) _).trans (eA.mono ?_)).trans (zF.zRM bA)).setCell (Or.inl ⟨by omega,rfl⟩) _;rintro b ⟨hb,rfl⟩;exact Or.inr ⟨k,dA,hb,rfl⟩
    case measure=>simp[intOf];omega
   ·obtain rfl:k=n:=(by omega);go_wp2;go_ret;refine⟨rfl,⟨rA,_,c,rfl,mc,fun _=>⟨off,rfl,fun i hi=>?_⟩⟩,ht⟩;have:=aA.out i hi;rw[if_pos hi]at this;exact this
theorem zJu(bs hb:Nat)(kb:Nat->Nat)(kv:Nat->Value)(v0 v1:Value)(p:zJ)(k0:Int)(w:World)
  (h1:qY w bs kb kv v0 p.n p.s) (fA:yS kb p.n p.s) (h2:qk w hb v1 p.hn p.h) (hd:0<p.hn->¬yp bs kb p.n p.s hb)
  (jA:0<=k0) (eA:qU p.s k0 p.n+p.hn<=1000000000000) :
  Calls Tryz.prog 42 #[.agg #[v0,v1],.int .i64 k0] w fun e w'=>e = .returned (.int .i64 (qU p.s k0 p.n+p.hn))/\qY w' bs kb kv v0 p.n (zEB p.s k0)/\qk w' hb v1 p.hn (fun i=>qU p.s k0 p.n+i)/\
   zF (fun k=>yp bs kb p.n p.s k\/(0<p.hn/\k=hb)) w w':=by
 have q1:=h1;have q2:=h2;obtain⟨_,a,c,rfl,_⟩:=h1;obtain⟨_,a',c',rfl,_⟩:=h2;have Hk:Hid (qU p.s k0 p.n+p.hn<=1000000000000):=eA;have bA:Hid (k0<=qU p.s k0 p.n):=zCh p.s k0 (Nat.zero_le p.n);clear eA;go_enter Tryz.func42,Tryz.ntmps42;go_wp2_with fail;have aA:=(Below.refl w.heap.size w).alloc (Nat.le_refl _) (.cells #[.slice a p.n c,.slice a' p.hn c'] 33);refine(zIi bs kb kv _ p.n p.s _ _ (q1.zRJ aA) fA jA (by have:=Hk.out;omega)).mono ?_;rintro e w1 ⟨rfl,gA,cA⟩;have nb:¬yp bs kb p.n p.s w.heap.size:=fun x=>Nat.lt_irrefl _ (q1.lt x)
 have e1:=cA.cell (b:=w.heap.size) (o:=1) (by simp) nb;simp at e1;go_wp2_with fail;refine(zHy hb _ p.hn p.h _ _ ((q2.zRJ aA).zRR cA hd) (by have:=bA.out;omega) Hk.out).mono ?_;rintro e w2 ⟨rfl,iA,dA⟩;go_wp2;go_ret;refine⟨rfl,?_,iA,?_⟩
 ·refine gA.zRR dA (fun h0 hx=>?_) (fun i hi h0 hx=>?_)
  ·exact hd hx.1 (Or.inl ⟨h0,hx.2.symm⟩)
  ·exact hd hx.1 (Or.inr ⟨i,hi,h0,hx.2.symm⟩)
 ·exact((zF.zRM aA).trans (cA.mono fun k h=>Or.inl h)).trans (dA.mono fun k h=>Or.inr h)
def zQW(p:zJ)(k0:Int):zJ:={n:=p.n,s:=zEB p.s k0,hn:=p.hn,h:=fun i=>qU p.s k0 p.n+i}
def zA8(p:zJ)(k0:Int):Int:=qU p.s k0 p.n+p.hn
def ze(f:Nat->qC)(k0:Int):Nat->Int
 |0=>k0
 |j+1=>ze f k0 j+5+2*(f j).dn
def zOC(s:qC)(c:Int):qC:={name:=mtF (c),origin:=c+1,zRT:=c+1+1,rs:=c+1+1+1,rb:=c+1+1+1+1,dn:=s.dn,ds:=fun i=>c+1+1+1+1+1+2*i,db:=fun i=>c+1+1+1+1+1+2*i+1}
theorem zGu(f:Nat->qC)(k0:Int)(j:Nat):∀m,ze f k0 j<=ze f k0 (j+m)
 |0=>Int.le_refl _
 |m+1=>by
  have:=zGu f k0 j m;show _<=ze f k0 (j+m)+5+2*((f (j+m)).dn:Int);omega
theorem zDE(f:Nat->qC)(k0:Int){j n:Nat}(h:j<=n):ze f k0 j<=ze f k0 n:=by
 obtain⟨m,rfl⟩:=Nat.exists_eq_add_of_le h;exact zGu f k0 j m
def zCc(f:Nat->qC)(k0:Int)(j:Nat):qC:=zOC (f j) (ze f k0 j)
theorem zLV(f:Nat->qC)(k0:Int)(j:Nat):(if j<0 then zCc f k0 j else f j)=f j:=if_neg (by omega)
theorem zPF(f:Nat->qC)(k0:Int)(k j:Nat):(if j<k then zCc f k0 j else f j).dn=(f j).dn:=by split<;>rfl
theorem zKa(bs:Nat)(kb:Nat->Nat)(kv:Nat->Value)(v:Value)(n:Nat)(f:Nat->qC)(k0:Int)(w:World)(h1:yN w bs kb kv v n f)(oA:zBK kb n f)(aC:0<=k0)(bB:ze f k0 n<=1000000000000) :
  Calls Tryz.prog 43 #[v,.int .i64 k0] w fun e w'=>e = .returned (.int .i64 (ze f k0 n))/\yN w' bs kb kv v n (zCc f k0)/\zF (zCA bs kb n f) w w':=by
 obtain⟨m1,a,c,rfl,mc,g1⟩:=h1;by_cases sB:n=0
 ·subst sB;go_enter Tryz.func43,Tryz.ntmps43;go_wp2;refine wp_loop_rounds 1 ?_;rw[rounds_succ];go_wp2;go_ret;exact⟨by simp[ze],⟨m1,a,c,rfl,mc,fun h=>absurd h (by omega)⟩,zF.refl _ _⟩
 ·obtain⟨off,rfl,g2⟩:=g1 (by omega);clear g1;have rB:=m1;unfold maxLen at m1;have G2:=za g2;have lB:=za oA;have oB:=za bB;clear g2 oA bB;go_enter Tryz.func43,Tryz.ntmps43;go_wp2
  go_loopw [1,5] (fun m i wr=>∃k:Nat,k<=n/\i = .int .i64 k/\m = .int .i64 (ze f k0 k)/\(∀j,j<n->zAE wr bs (off+j*6) (kb j) (kv j) (if j<k then zCc f k0 j else f j))/\zF (zCA bs kb n f) w wr) (fun _ i _=>n - (intOf i).toNat)
  case atStart=>exact⟨0,Nat.zero_le _,rfl,rfl,fun j hj=>by rw[zLV];exact G2.out j hj,zF.refl _ _⟩
  case round=>
   obtain⟨k,hk,rfl,rfl,cA,ht⟩:=hrel;have bA:=za cA;clear cA;by_cases eA:k<n
   ·have pB:(k:Int)<(n:Int):=(by omega);have hs:=bA.out k eA;rw[if_neg (by omega)]at hs;have cC:k0<=ze f k0 k:=zDE f k0 (Nat.zero_le k);have bC:ze f k0 k+5+2*((f k).dn:Int)<=1000000000000:=Int.le_trans (zDE f k0 (show k+1<=n from eA)) oB.out;have Hs:=za hs;obtain⟨-,ka,kc,mB,-⟩:=hs.zRX;clear hs;generalize hx:kv k=kvk at *;have Hx:=za hx;clear hx;subst mB;obtain⟨⟨p0,gA⟩,⟨p1,jA⟩,⟨p2,lA⟩,⟨p3,iA⟩,⟨p4,kA⟩,⟨p5,fA⟩⟩:=And.intro Hs.out.c0 (And.intro Hs.out.c1 (And.intro Hs.out.c2 (And.intro Hs.out.c3 (And.intro Hs.out.c4 Hs.out.c5))));have HR:=za (yw.refl bs (off+k*6) 6 wr);go_wp2_with fail;clear p0 gA p1 jA p2 lA p3 iA p4 kA p5 fA;have jB:=za Hs.out.c0;have iB:=za Hs.out.c1;have eB:=za Hs.out.c2;have cB:=za Hs.out.c3;have mA:=za Hs.out.c4;have fB:=za Hs.out.c5;have gB:=za HR.out;refine(yz _ wr (by omega)).mono ?_;rintro e w1 ⟨rfl,aA⟩;have tA:=za (jB.out.zRJ aA);have kB:=za (iB.out.zRJ aA);have dB:=za (eB.out.zRJ aA);have aB:=za (cB.out.zRJ aA);have pA:=za (mA.out.zRJ aA);have rA:=za (fB.out.zRJ aA);have vB:=za (gB.out.zRJ aA);clear aA gB jB iB eB cB mA fB;obtain⟨p0,gA⟩:=tA.out;obtain⟨p1,jA⟩:=kB.out;obtain⟨p2,lA⟩:=dB.out;obtain⟨p3,iA⟩:=aB.out;obtain⟨p4,kA⟩:=pA.out;obtain⟨p5,fA⟩:=rA.out;go_wp2_with fail;clear p0 gA p1 jA p2 lA p3 iA p4 kA p5 fA;have Ea:=za (((((tA.out.set (.string (mtF (ze f k0 k)))).zRK (b':=bs) (o':=off+k*6+1) (.int .i64 (ze f k0 k+1)) (Or.inr (by omega))).zRK (b':=bs) (o':=off+k*6+2) (.int .i64 (ze f k0 k+1+1)) (Or.inr (by omega))).zRK (b':=bs) (o':=off+k*6+3) (.int .i64 (ze f k0 k+1+1+1)) (Or.inr (by omega))).zRK (b':=bs) (o':=off+k*6+3+1) (.int .i64 (ze f k0 k+1+1+1+1)) (Or.inr (by omega)));have Eb:=za (((((kB.out.zRK (b':=bs) (o':=off+k*6) (.string (mtF (ze f k0 k))) (Or.inr (by omega))).set (.int .i64 (ze f k0 k+1))).zRK (b':=bs) (o':=off+k*6+2) (.int .i64 (ze f k0 k+1+1)) (Or.inr (by omega))).zRK (b':=bs) (o':=off+k*6+3) (.int .i64 (ze f k0 k+1+1+1)) (Or.inr (by omega))).zRK (b':=bs) (o':=off+k*6+3+1) (.int .i64 (ze f k0 k+1+1+1+1)) (Or.inr (by omega)));have Ec:=za (((((dB.out.zRK (b':=bs) (o':=off+k*6) (.string (mtF (ze f k0 k))) (Or.inr (by omega))).zRK (b':=bs) (o':=off+k*6+1) (.int .i64 (ze f k0 k+1)) (Or.inr (by omega))).set (.int .i64 (ze f k0 k+1+1))).zRK (b':=bs) (o':=off+k*6+3) (.int .i64 (ze f k0 k+1+1+1)) (Or.inr (by omega))).zRK (b':=bs) (o':=off+k*6+3+1) (.int .i64 (ze f k0 k+1+1+1+1)) (Or.inr (by omega)));have Ed:=za (((((aB.out.zRK (b':=bs) (o':=off+k*6) (.string (mtF (ze f k0 k))) (Or.inr (by omega))).zRK (b':=bs) (o':=off+k*6+1) (.int .i64 (ze f k0 k+1)) (Or.inr (by omega))).zRK (b':=bs) (o':=off+k*6+2) (.int .i64 (ze f k0 k+1+1)) (Or.inr (by omega))).set (.int .i64 (ze f k0 k+1+1+1))).zRK (b':=bs) (o':=off+k*6+3+1) (.int .i64 (ze f k0 k+1+1+1+1)) (Or.inr (by omega)));have Ee:=za (((((pA.out.zRK (b':=bs) (o':=off+k*6) (.string (mtF (ze f k0 k))) (Or.inr (by omega))).zRK (b':=bs) (o':=off+k*6+1) (.int .i64 (ze f k0 k+1)) (Or.inr (by omega))).zRK (b':=bs) (o':=off+k*6+2) (.int .i64 (ze f k0 k+1+1)) (Or.inr (by omega))).zRK (b':=bs) (o':=off+k*6+3) (.int .i64 (ze f k0 k+1+1+1)) (Or.inr (by omega))).set (.int .i64 (ze f k0 k+1+1+1+1)));have Ef:=za (((((rA.out.zRK (b':=bs) (o':=off+k*6) (.string (mtF (ze f k0 k))) (Or.inr (by omega))).zRK (b':=bs) (o':=off+k*6+1) (.int .i64 (ze f k0 k+1)) (Or.inr (by omega))).zRK (b':=bs) (o':=off+k*6+2) (.int .i64 (ze f k0 k+1+1)) (Or.inr (by omega))).zRK (b':=bs) (o':=off+k*6+3) (.int .i64 (ze f k0 k+1+1+1)) (Or.inr (by omega))).zRK (b':=bs) (o':=off+k*6+3+1) (.int .i64 (ze f k0 k+1+1+1+1)) (Or.inr (by omega)));have dA:=za (((((vB.out.set (off+k*6) (.string (mtF (ze f k0 k))) (by omega) (by omega)).set (off+k*6+1) (.int .i64 (ze f k0 k+1)) (by omega) (by omega)).set (off+k*6+2) (.int .i64 (ze f k0 k+1+1)) (by omega) (by omega)).set (off+k*6+3) (.int .i64 (ze f k0 k+1+1+1)) (by omega) (by omega)).set (off+k*6+3+1) (.int .i64 (ze f k0 k+1+1+1+1)) (by omega) (by omega));generalize (((((w1.setCell ⟨bs,off+k*6,none⟩ (.string (mtF (ze f k0 k)))).setCell ⟨bs,off+k*6+1,none⟩ (.int .i64 (ze f k0 k+1))).setCell ⟨bs,off+k*6+2,none⟩ (.int .i64 (ze f k0 k+1+1))).setCell ⟨bs,off+k*6+3,none⟩ (.int .i64 (ze f k0 k+1+1+1))).setCell ⟨bs,off+k*6+3+1,none⟩ (.int .i64 (ze f k0 k+1+1+1+1)))=Y at Ea Eb Ec Ed Ee Ef dA ⊢;refine(zDf (kb k) _ (f k).dn (f k).ds (f k).db _ Y (Hs.out.zRX.zRR dA.out.zRR (fun h0 hx=>Hs.out.zRW h0 hx)) (by omega) (by omega)).mono ?_;rintro e wz ⟨rfl,vA,nA⟩;have tB:=za vA;have sA:=za nA;clear vA nA;go_wp2;go_roundw
    case rel=>
     refine⟨k+1,by omega,by go_num,congrArg (Value.int .i64) (by show _=ze f k0 k+5+2*((f k).dn:Int);omega),fun j hj=>?_,?_⟩
     ·have st:=zO3 (s:=zCc f k0 k) bA.out (by
        intro i j hi hj nB h1 h2;rw[zPF]at h1 h2;exact lB.out i j hi hj nB h1 h2) eA dA.out (by rw[if_neg (Nat.lt_irrefl k)];exact sA.out) Ea.out Eb.out Ec.out Ed.out Ee.out (by rw[Hx.out];exact Ef.out) (by rw[if_neg (Nat.lt_irrefl k)];rfl) (by rw[Hx.out];exact tB.out) (zFy (by omega)) j hj
      by_cases e:j=k
      ·subst e;rw[if_pos rfl]at st;rw[if_pos (by omega)];exact st
      ·rw[if_neg e]at st;by_cases e2:j<k
       ·rw[if_pos e2]at st;rw[if_pos (by omega)];exact st
       ·rw[if_neg e2]at st;rw[if_neg (by omega)];exact st
     ·refine(ht.trans (dA.out.zRR.mono ?_)).trans (sA.out.mono ?_)
      ·rintro b rfl;exact Or.inl ⟨by omega,rfl⟩
      ·rintro b ⟨hb,rfl⟩;exact Or.inr ⟨k,eA,hb,rfl⟩
    case measure=>simp[intOf];omega
   ·obtain rfl:k=n:=(by omega);go_wp2;go_ret;refine⟨rfl,⟨rB,_,c,rfl,mc,fun _=>⟨off,rfl,fun i hi=>?_⟩⟩,ht⟩;have:=bA.out i hi;rw[if_pos hi]at this;exact this
def zM(f:Nat->zm)(k0:Int):Nat->Int
 |0=>k0
 |j+1=>zM f k0 j+7+2*(f j).dn
def zMj(s:zm)(c:Int):zm:={id:=c,name:=mtF (c+1),set:=mtF (c+1+1),zRT:=c+1+1+1,time:=c+1+1+1+1,rs:=c+1+1+1+1+1,rb:=c+1+1+1+1+1+1,dn:=s.dn,ds:=fun i=>c+1+1+1+1+1+1+1+2*i,db:=fun i=>c+1+1+1+1+1+1+1+2*i+1}
theorem zFp(f:Nat->zm)(k0:Int)(j:Nat):∀m,zM f k0 j<=zM f k0 (j+m)
 |0=>Int.le_refl _
 |m+1=>by
  have:=zFp f k0 j m;show _<=zM f k0 (j+m)+7+2*((f (j+m)).dn:Int);omega
theorem zCj(f:Nat->zm)(k0:Int){j n:Nat}(h:j<=n):zM f k0 j<=zM f k0 n:=by
 obtain⟨m,rfl⟩:=Nat.exists_eq_add_of_le h;exact zFp f k0 j m
def zBk(f:Nat->zm)(k0:Int)(j:Nat):zm:=zMj (f j) (zM f k0 j)
theorem zKz(f:Nat->zm)(k0:Int)(j:Nat):(if j<0 then zBk f k0 j else f j)=f j:=if_neg (by omega)
theorem zOM(f:Nat->zm)(k0:Int)(k j:Nat):(if j<k then zBk f k0 j else f j).dn=(f j).dn:=by split<;>rfl
theorem zIz(bs:Nat)(kb:Nat->Nat)(kv:Nat->Value)(v:Value)(n:Nat)(f:Nat->zm)(k0:Int)(w:World)(h1:yV w bs kb kv v n f)(pB:zBB kb n f)(gD:0<=k0)(eC:zM f k0 n<=1000000000000) :
  Calls Tryz.prog 44 #[v,.int .i64 k0] w fun e w'=>e = .returned (.int .i64 (zM f k0 n))/\yV w' bs kb kv v n (zBk f k0)/\zF (zB4 bs kb n f) w w':=by
 obtain⟨m1,a,c,rfl,mc,g1⟩:=h1;by_cases dD:n=0
 ·subst dD;go_enter Tryz.func44,Tryz.ntmps44;go_wp2;refine wp_loop_rounds 1 ?_;rw[rounds_succ];go_wp2;go_ret;exact⟨by simp[zM],⟨m1,a,c,rfl,mc,fun h=>absurd h (by omega)⟩,zF.refl _ _⟩
 ·obtain⟨off,rfl,g2⟩:=g1 (by omega);clear g1;have cD:=m1;unfold maxLen at m1;have G2:=za g2;have sC:=za pB;have aD:=za eC;clear g2 pB eC;go_enter Tryz.func44,Tryz.ntmps44;go_wp2
  go_loopw [1,5] (fun m i wr=>∃k:Nat,k<=n/\i = .int .i64 k/\m = .int .i64 (zM f k0 k)/\(∀j,j<n->zAI wr bs (off+j*8) (kb j) (kv j) (if j<k then zBk f k0 j else f j))/\zF (zB4 bs kb n f) w wr) (fun _ i _=>n - (intOf i).toNat)
  case atStart=>exact⟨0,Nat.zero_le _,rfl,rfl,fun j hj=>by rw[zKz];exact G2.out j hj,zF.refl _ _⟩
  case round=>
   obtain⟨k,hk,rfl,rfl,mA,ht⟩:=hrel;have cA:=za mA;clear mA;by_cases oA:k<n
   ·have bD:(k:Int)<(n:Int):=(by omega);have hs:=cA.out k oA;rw[if_neg (by omega)]at hs;have jD:k0<=zM f k0 k:=zCj f k0 (Nat.zero_le k);have iD:zM f k0 k+7+2*((f k).dn:Int)<=1000000000000:=Int.le_trans (zCj f k0 (show k+1<=n from oA)) aD.out;have Hs:=za hs;obtain⟨-,ka,kc,tC,-⟩:=hs.zRX;clear hs;generalize hx:kv k=kvk at *;have Hx:=za hx;clear hx;subst tC;obtain⟨⟨p0,eA⟩,⟨p1,iA⟩,⟨p2,lA⟩,⟨p3,fA⟩,⟨p4,kA⟩,⟨p5,dA⟩,⟨p6,jA⟩,⟨p7,gA⟩⟩:=And.intro Hs.out.c0 (And.intro Hs.out.c1 (And.intro Hs.out.c2 (And.intro Hs.out.c3 (And.intro Hs.out.c4 (And.intro Hs.out.c5 (And.intro Hs.out.c6 Hs.out.c7))))));have HR:=za (yw.refl bs (off+k*8) 8 wr);go_wp2_with fail;clear p0 eA p1 iA p2 lA p3 fA p4 kA p5 dA p6 jA p7 gA;have nB:=za (Hs.out.c0.set (.int .i64 (zM f k0 k)));have kB:=za (Hs.out.c1.zRK (b':=bs) (o':=off+k*8) (.int .i64 (zM f k0 k)) (Or.inr (by omega)));have gB:=za (Hs.out.c2.zRK (b':=bs) (o':=off+k*8) (.int .i64 (zM f k0 k)) (Or.inr (by omega)));have aB:=za (Hs.out.c3.zRK (b':=bs) (o':=off+k*8) (.int .i64 (zM f k0 k)) (Or.inr (by omega)));have pA:=za (Hs.out.c4.zRK (b':=bs) (o':=off+k*8) (.int .i64 (zM f k0 k)) (Or.inr (by omega)));have iB:=za (Hs.out.c5.zRK (b':=bs) (o':=off+k*8) (.int .i64 (zM f k0 k)) (Or.inr (by omega)));have mB:=za (Hs.out.c6.zRK (b':=bs) (o':=off+k*8) (.int .i64 (zM f k0 k)) (Or.inr (by omega)));have rA:=za (Hs.out.c7.zRK (b':=bs) (o':=off+k*8) (.int .i64 (zM f k0 k)) (Or.inr (by omega)));have jB:=za (HR.out.set (off+k*8) (.int .i64 (zM f k0 k)) (by omega) (by omega));generalize (wr.setCell ⟨bs,off+k*8,none⟩ (.int .i64 (zM f k0 k)))=Y1 at nB kB gB aB pA iB mB rA jB ⊢;refine(yz _ Y1 (by omega)).mono ?_;rintro e w1 ⟨rfl,bA⟩;have vB:=za (nB.out.zRJ bA);have oC:=za (kB.out.zRJ bA);have kC:=za (gB.out.zRJ bA);have cC:=za (aB.out.zRJ bA);have rB:=za (pA.out.zRJ bA);have sB:=za (iB.out.zRJ bA);have gC:=za (mB.out.zRJ bA);have lC:=za (rA.out.zRJ bA);have fD:=za (jB.out.zRJ bA);clear bA jB nB kB gB aB pA iB mB rA;obtain⟨p0,eA⟩:=vB.out;obtain⟨p1,iA⟩:=oC.out;obtain⟨p2,lA⟩:=kC.out;obtain⟨p3,fA⟩:=cC.out;obtain⟨p4,kA⟩:=rB.out;obtain⟨p5,dA⟩:=sB.out;obtain⟨p6,jA⟩:=gC.out;obtain⟨p7,gA⟩:=lC.out;go_wp2_with fail;clear p0 eA p1 iA p2 lA p3 fA p4 kA p5 dA p6 jA p7 gA;have cB:=za (vB.out.zRK (b':=bs) (o':=off+k*8+1) (.string (mtF (zM f k0 k+1))) (Or.inr (by omega)));have lB:=za (oC.out.set (.string (mtF (zM f k0 k+1))));have vA:=za (kC.out.zRK (b':=bs) (o':=off+k*8+1) (.string (mtF (zM f k0 k+1))) (Or.inr (by omega)));have eB:=za (cC.out.zRK (b':=bs) (o':=off+k*8+1) (.string (mtF (zM f k0 k+1))) (Or.inr (by omega)));have tA:=za (rB.out.zRK (b':=bs) (o':=off+k*8+1) (.string (mtF (zM f k0 k+1))) (Or.inr (by omega)));have fB:=za (sB.out.zRK (b':=bs) (o':=off+k*8+1) (.string (mtF (zM f k0 k+1))) (Or.inr (by omega)));have sA:=za (gC.out.zRK (b':=bs) (o':=off+k*8+1) (.string (mtF (zM f k0 k+1))) (Or.inr (by omega)));have dB:=za (lC.out.zRK (b':=bs) (o':=off+k*8+1) (.string (mtF (zM f k0 k+1))) (Or.inr (by omega)));have bB:=za (fD.out.set (off+k*8+1) (.string (mtF (zM f k0 k+1))) (by omega) (by omega));generalize (w1.setCell ⟨bs,off+k*8+1,none⟩ (.string (mtF (zM f k0 k+1))))=Y2 at cB lB vA eB tA fB sA dB bB ⊢;refine(yz _ Y2 (by omega)).mono ?_;rintro e w2 ⟨rfl,aA⟩;have jC:=za (cB.out.zRJ aA);have dC:=za (lB.out.zRJ aA);have fC:=za (vA.out.zRJ aA);have mC:=za (eB.out.zRJ aA);have bC:=za (tA.out.zRJ aA);have pC:=za (fB.out.zRJ aA);have iC:=za (sA.out.zRJ aA);have nC:=za (dB.out.zRJ aA);have rC:=za (bB.out.zRJ aA);clear aA bB cB lB vA eB tA fB sA dB;obtain⟨p0,eA⟩:=jC.out;obtain⟨p1,iA⟩:=dC.out;obtain⟨p2,lA⟩:=fC.out;obtain⟨p3,fA⟩:=mC.out;obtain⟨p4,kA⟩:=bC.out;obtain⟨p5,dA⟩:=pC.out;obtain⟨p6,jA⟩:=iC.out;obtain⟨p7,gA⟩:=nC.out;go_wp2_with fail;clear p0 eA p1 iA p2 lA p3 fA p4 kA p5 dA p6 jA p7 gA;have Ea:=za (((((jC.out.zRK (b':=bs) (o':=off+k*8+2) (.string (mtF (zM f k0 k+1+1))) (Or.inr (by omega))).zRK (b':=bs) (o':=off+k*8+3) (.int .i64 (zM f k0 k+1+1+1)) (Or.inr (by omega))).zRK (b':=bs) (o':=off+k*8+4) (.int .i64 (zM f k0 k+1+1+1+1)) (Or.inr (by omega))).zRK (b':=bs) (o':=off+k*8+5) (.int .i64 (zM f k0 k+1+1+1+1+1)) (Or.inr (by omega))).zRK (b':=bs) (o':=off+k*8+5+1) (.int .i64 (zM f k0 k+1+1+1+1+1+1)) (Or.inr (by omega)));have Eb:=za (((((dC.out.zRK (b':=bs) (o':=off+k*8+2) (.string (mtF (zM f k0 k+1+1))) (Or.inr (by omega))).zRK (b':=bs) (o':=off+k*8+3) (.int .i64 (zM f k0 k+1+1+1)) (Or.inr (by omega))).zRK (b':=bs) (o':=off+k*8+4) (.int .i64 (zM f k0 k+1+1+1+1)) (Or.inr (by omega))).zRK (b':=bs) (o':=off+k*8+5) (.int .i64 (zM f k0 k+1+1+1+1+1)) (Or.inr (by omega))).zRK (b':=bs) (o':=off+k*8+5+1) (.int .i64 (zM f k0 k+1+1+1+1+1+1)) (Or.inr (by omega)));have Ec:=za (((((fC.out.set (.string (mtF (zM f k0 k+1+1)))).zRK (b':=bs) (o':=off+k*8+3) (.int .i64 (zM f k0 k+1+1+1)) (Or.inr (by omega))).zRK (b':=bs) (o':=off+k*8+4) (.int .i64 (zM f k0 k+1+1+1+1)) (Or.inr (by omega))).zRK (b':=bs) (o':=off+k*8+5) (.int .i64 (zM f k0 k+1+1+1+1+1)) (Or.inr (by omega))).zRK (b':=bs) (o':=off+k*8+5+1) (.int .i64 (zM f k0 k+1+1+1+1+1+1)) (Or.inr (by omega)));have Ed:=za (((((mC.out.zRK (b':=bs) (o':=off+k*8+2) (.string (mtF (zM f k0 k+1+1))) (Or.inr (by omega))).set (.int .i64 (zM f k0 k+1+1+1))).zRK (b':=bs) (o':=off+k*8+4) (.int .i64 (zM f k0 k+1+1+1+1)) (Or.inr (by omega))).zRK (b':=bs) (o':=off+k*8+5) (.int .i64 (zM f k0 k+1+1+1+1+1)) (Or.inr (by omega))).zRK (b':=bs) (o':=off+k*8+5+1) (.int .i64 (zM f k0 k+1+1+1+1+1+1)) (Or.inr (by omega)));have Ee:=za (((((bC.out.zRK (b':=bs) (o':=off+k*8+2) (.string (mtF (zM f k0 k+1+1))) (Or.inr (by omega))).zRK (b':=bs) (o':=off+k*8+3) (.int .i64 (zM f k0 k+1+1+1)) (Or.inr (by omega))).set (.int .i64 (zM f k0 k+1+1+1+1))).zRK (b':=bs) (o':=off+k*8+5) (.int .i64 (zM f k0 k+1+1+1+1+1)) (Or.inr (by omega))).zRK (b':=bs) (o':=off+k*8+5+1) (.int .i64 (zM f k0 k+1+1+1+1+1+1)) (Or.inr (by omega)));have Ef:=za (((((pC.out.zRK (b':=bs) (o':=off+k*8+2) (.string (mtF (zM f k0 k+1+1))) (Or.inr (by omega))).zRK (b':=bs) (o':=off+k*8+3) (.int .i64 (zM f k0 k+1+1+1)) (Or.inr (by omega))).zRK (b':=bs) (o':=off+k*8+4) (.int .i64 (zM f k0 k+1+1+1+1)) (Or.inr (by omega))).set (.int .i64 (zM f k0 k+1+1+1+1+1))).zRK (b':=bs) (o':=off+k*8+5+1) (.int .i64 (zM f k0 k+1+1+1+1+1+1)) (Or.inr (by omega)));have Eg:=za (((((iC.out.zRK (b':=bs) (o':=off+k*8+2) (.string (mtF (zM f k0 k+1+1))) (Or.inr (by omega))).zRK (b':=bs) (o':=off+k*8+3) (.int .i64 (zM f k0 k+1+1+1)) (Or.inr (by omega))).zRK (b':=bs) (o':=off+k*8+4) (.int .i64 (zM f k0 k+1+1+1+1)) (Or.inr (by omega))).zRK (b':=bs) (o':=off+k*8+5) (.int .i64 (zM f k0 k+1+1+1+1+1)) (Or.inr (by omega))).set (.int .i64 (zM f k0 k+1+1+1+1+1+1)));have Eh:=za (((((nC.out.zRK (b':=bs) (o':=off+k*8+2) (.string (mtF (zM f k0 k+1+1))) (Or.inr (by omega))).zRK (b':=bs) (o':=off+k*8+3) (.int .i64 (zM f k0 k+1+1+1)) (Or.inr (by omega))).zRK (b':=bs) (o':=off+k*8+4) (.int .i64 (zM f k0 k+1+1+1+1)) (Or.inr (by omega))).zRK (b':=bs) (o':=off+k*8+5) (.int .i64 (zM f k0 k+1+1+1+1+1)) (Or.inr (by omega))).zRK (b':=bs) (o':=off+k*8+5+1) (.int .i64 (zM f k0 k+1+1+1+1+1+1)) (Or.inr (by omega)));have nA:=za (((((rC.out.set (off+k*8+2) (.string (mtF (zM f k0 k+1+1))) (by omega) (by omega)).set (off+k*8+3) (.int .i64 (zM f k0 k+1+1+1)) (by omega) (by omega)).set (off+k*8+4) (.int .i64 (zM f k0 k+1+1+1+1)) (by omega) (by omega)).set (off+k*8+5) (.int .i64 (zM f k0 k+1+1+1+1+1)) (by omega) (by omega)).set (off+k*8+5+1) (.int .i64 (zM f k0 k+1+1+1+1+1+1)) (by omega) (by omega));generalize (((((w2.setCell ⟨bs,off+k*8+2,none⟩ (.string (mtF (zM f k0 k+1+1)))).setCell ⟨bs,off+k*8+3,none⟩ (.int .i64 (zM f k0 k+1+1+1))).setCell ⟨bs,off+k*8+4,none⟩ (.int .i64 (zM f k0 k+1+1+1+1))).setCell ⟨bs,off+k*8+5,none⟩ (.int .i64 (zM f k0 k+1+1+1+1+1))).setCell ⟨bs,off+k*8+5+1,none⟩ (.int .i64 (zM f k0 k+1+1+1+1+1+1)))=Y at Ea Eb Ec Ed Ee Ef Eg Eh nA ⊢;refine(zDf (kb k) _ (f k).dn (f k).ds (f k).db _ Y (Hs.out.zRX.zRR nA.out.zRR (fun h0 hx=>Hs.out.zRW h0 hx)) (by omega) (by omega)).mono ?_;rintro e wz ⟨rfl,aC,oB⟩;have eD:=za aC;have tB:=za oB;clear aC oB;go_wp2;go_roundw
    case rel=>
     refine⟨k+1,by omega,by go_num,congrArg (Value.int .i64) (by show _=zM f k0 k+7+2*((f k).dn:Int);omega),fun j hj=>?_,?_⟩
     ·have st:=zNq (s:=zBk f k0 k) cA.out (by
        intro i j hi hj vC h1 h2;rw[zOM]at h1 h2;exact sC.out i j hi hj vC h1 h2) oA nA.out (by rw[if_neg (Nat.lt_irrefl k)];exact tB.out) Ea.out Eb.out Ec.out Ed.out Ee.out Ef.out Eg.out (by rw[Hx.out];exact Eh.out) (by rw[if_neg (Nat.lt_irrefl k)];rfl) (by rw[Hx.out];exact eD.out) ⟨zFy (by omega),zFy (by omega)⟩ j hj
      by_cases e:j=k
      ·subst e;rw[if_pos rfl]at st;rw[if_pos (by omega)];exact st
      ·rw[if_neg e]at st;by_cases e2:j<k
       ·rw[if_pos e2]at st;rw[if_pos (by omega)];exact st
       ·rw[if_neg e2]at st;rw[if_neg (by omega)];exact st
     ·refine(ht.trans (nA.out.zRR.mono ?_)).trans (tB.out.mono ?_)
      ·rintro b rfl;exact Or.inl ⟨by omega,rfl⟩
      ·rintro b ⟨hb,rfl⟩;exact Or.inr ⟨k,oA,hb,rfl⟩
    case measure=>simp[intOf];omega
   ·obtain rfl:k=n:=(by omega);go_wp2;go_ret;refine⟨rfl,⟨cD,_,c,rfl,mc,fun _=>⟨off,rfl,fun i hi=>?_⟩⟩,ht⟩;have:=cA.out i hi;rw[if_pos hi]at this;exact this
def zNT(W:zH)(k0:Int):zH:={zRQ:=zQW W.zRQ k0,time:=W.time,next:=W.next,sn:=W.sn,zRS:=zCc W.zRS (zA8 W.zRQ k0),pn:=W.pn,zRP:=zBk W.zRP (ze W.zRS (zA8 W.zRQ k0) W.sn)}
def zAm(W:zH)(k0:Int):Int:=zM W.zRP (ze W.zRS (zA8 W.zRQ k0) W.sn) W.pn
theorem zP5(p:zJ)(k0:Int):k0<=zA8 p k0:=by
 unfold zA8;have:=zCh p.s k0 (Nat.zero_le p.n);have h0:qU p.s k0 0=k0:=rfl;omega
theorem zDV(W:zH)(k0:Int):k0<=zA8 W.zRQ k0/\zA8 W.zRQ k0<=ze W.zRS (zA8 W.zRQ k0) W.sn/\ze W.zRS (zA8 W.zRQ k0) W.sn<=zAm W k0:=
 ⟨zP5 _ _,zDE W.zRS (zA8 W.zRQ k0) (Nat.zero_le _),zCj W.zRP (ze W.zRS (zA8 W.zRQ k0) W.sn) (Nat.zero_le _)⟩
theorem zE4(lo hi:Nat)(v0 v1 v2 v3:Value)(W:zH)(k0:Int)(w:World)(h:qM w lo hi v0 v1 v2 v3 W)(rA:0<=k0)(jA:zAm W k0<=1000000000000) :
  Calls Tryz.prog 13 #[zz v0 v1 v2 v3 W,.int .i64 k0] w fun e w'=>e = .returned (.int .i64 (zAm W k0))/\qM w' lo hi v0 v1 v2 v3 (zNT W k0)/\zF (fun k=>lo<=k/\k<hi) w w':=by
 obtain⟨a0,c0,a1,c1,a2,c2,a3,c3,rfl,rfl,rfl,rfl⟩:=h.form;obtain⟨P,Q,R,⟨⟨bs,hb,kb,kv,s1,s2,s3,s4,s5⟩,⟨bt,kt,vt,t1,t2,t3⟩,⟨bp,kp,vp,p1,p2,p3⟩,pq,pr,qr⟩,hl⟩:=h;have S1:=za s1;have S2:=za s2;have S3:=za s3;have S4:=za s4;have S5:=za s5;have T1:=za t1;have T2:=za t2;have T3:=za t3;have P1:=za p1;have P2:=za p2;have P3:=za p3;have aA:=za (And.intro pq (And.intro pr (And.intro qr hl)));have HE:=za (zDV W k0);have HK:=za jA;have HB:=za (zi.zRL w (.slice a0 W.zRQ.n c0) (.slice a1 W.zRQ.hn c1) (.int .i64 W.time) (.int .i64 W.next) (.slice a2 W.sn c2) (.slice a3 W.pn c3) 37);have ha:=zC w (.cells #[.slice a0 W.zRQ.n c0,.slice a1 W.zRQ.hn c1,.int .i64 W.time,.int .i64 W.next,.slice a2 W.sn c2,.slice a3 W.pn c3] 37);have NA:=za (show ∀k,yp bs kb W.zRQ.n W.zRQ.s k\/(0<W.zRQ.hn/\k=hb)->k<w.heap.size from fun k hk=>by
  rcases hk with hk | ⟨h0,rfl⟩
  ·exact s1.lt hk
  ·obtain⟨_,_,_,_,_,h3,_⟩:=s3;obtain⟨o,_,h4⟩:=h3 h0;exact(h4 0 h0).lt)
 have NB:=za (show ∀k,zCA bt kt W.sn W.zRS k->k<w.heap.size from fun k hk=>t1.lt hk);have NC:=za (show ∀k,zB4 bp kp W.pn W.zRP k->k<w.heap.size from fun k hk=>p1.lt hk);clear s1 s2 s3 s4 s5 t1 t2 t3 p1 p2 p3 pq pr qr hl jA;obtain⟨⟨x0,-⟩,⟨x1,-⟩,⟨x2,-⟩,⟨x3,-⟩,⟨x4,-⟩,⟨x5,-⟩⟩:=HB.out;go_enter Tryz.func13,Tryz.ntmps13;go_wp2_with fail;clear x0 x1 x2 x3 x4 x5;have kA:(w.alloc (.cells #[.slice a0 W.zRQ.n c0,.slice a1 W.zRQ.hn c1,.int .i64 W.time,.int .i64 W.next,.slice a2 W.sn c2,.slice a3 W.pn c3] 37)).heap.size=w.heap.size+1:=World.size_alloc _ _;have nA:=za kA;clear kA;generalize w.alloc (.cells #[.slice a0 W.zRQ.n c0,.slice a1 W.zRQ.hn c1,.int .i64 W.time,.int .i64 W.next,.slice a2 W.sn c2,.slice a3 W.pn c3] 37)=W0 at ha HB nA ⊢;refine(zJu bs hb kb kv _ _ W.zRQ k0 W0 (S1.out.zRJ ha) S2.out (S3.out.zRJ ha) S4.out rA (by have h1:=HE.out;have h2:=HK.out;unfold zA8 at h1;omega)).mono ?_;rintro e w1 ⟨rfl,g1,g2,bA⟩;have G1:=za g1;have G2:=za g2;have sA:=za bA;have fA:=za (HB.out.zRR bA (fun x=>absurd (NA.out _ x) (by omega)));have mA:=za ((T1.out.zRJ ha).zRR bA (fun k hk x=>aA.out.1 k (S5.out k x) (T3.out k hk)));have lA:=za ((P1.out.zRJ ha).zRR bA (fun k hk x=>aA.out.2.1 k (S5.out k x) (P3.out k hk)));clear g1 g2 bA HB;obtain⟨⟨x0,-⟩,⟨x1,-⟩,⟨x2,-⟩,⟨x3,-⟩,⟨x4,-⟩,⟨x5,-⟩⟩:=fA.out;go_wp2_with fail;clear x0 x1 x2 x3 x4 x5;refine(zKa bt kt vt _ W.sn W.zRS _ w1 mA.out T2.out (by have h1:=HE.out;unfold zA8 at h1;omega) (by have h1:=HE.out;have h2:=HK.out;unfold zA8 at h1;omega)).mono ?_;rintro e w2 ⟨rfl,g3,dA⟩;have G3:=za g3;have eA:=za dA;have gA:¬zCA bt kt W.sn W.zRS w.heap.size:=fun x=>absurd (NB.out _ x) (by omega)
 have oA:=za (fA.out.zRR dA gA);have pA:=za (lA.out.zRR dA (fun k hk x=>aA.out.2.2.1 k (T3.out k x) (P3.out k hk)));clear g3 dA fA gA;obtain⟨⟨x0,-⟩,⟨x1,-⟩,⟨x2,-⟩,⟨x3,-⟩,⟨x4,-⟩,⟨x5,-⟩⟩:=oA.out;go_wp2_with fail;clear x0 x1 x2 x3 x4 x5;refine(zIz bp kp vp _ W.pn W.zRP _ w2 pA.out P2.out (by have h1:=HE.out;unfold zA8 at h1;omega) (by have h1:=HE.out;have h2:=HK.out;unfold zAm zA8 at *;omega)).mono ?_;rintro e w3 ⟨rfl,g4,iA⟩;have G4:=za g4;have cA:=za iA;clear g4 iA;go_wp2;go_ret;refine⟨rfl,⟨P,Q,R,⟨⟨bs,hb,kb,kv,?_,S2.out,?_,S4.out,S5.out⟩,⟨bt,kt,vt,?_,T2.out,T3.out⟩,⟨bp,kp,vp,G4.out,P2.out,P3.out⟩,aA.out.1,aA.out.2.1,aA.out.2.2.1⟩,aA.out.2.2.2⟩,?_⟩
 ·refine(G1.out.zRR eA.out (fun h0 x=>?_) (fun i hi h0 x=>?_)).zRR cA.out (fun h0 x=>?_) (fun i hi h0 x=>?_)
  ·exact aA.out.1 _ (S5.out _ (Or.inl (Or.inl ⟨h0,rfl⟩))) (T3.out _ x)
  ·exact aA.out.1 _ (S5.out _ (Or.inl (Or.inr ⟨i,hi,h0,rfl⟩))) (T3.out _ x)
  ·exact aA.out.2.1 _ (S5.out _ (Or.inl (Or.inl ⟨h0,rfl⟩))) (P3.out _ x)
  ·exact aA.out.2.1 _ (S5.out _ (Or.inl (Or.inr ⟨i,hi,h0,rfl⟩))) (P3.out _ x)
 ·refine(G2.out.zRR eA.out (fun h0 x=>?_)).zRR cA.out (fun h0 x=>?_)
  ·exact aA.out.1 _ (S5.out _ (Or.inr ⟨h0,rfl⟩)) (T3.out _ x)
  ·exact aA.out.2.1 _ (S5.out _ (Or.inr ⟨h0,rfl⟩)) (P3.out _ x)
 ·exact G3.out.zRR cA.out (fun k hk x=>aA.out.2.2.1 k (T3.out k hk) (P3.out k x))
 ·refine(((zF.zRM ha).trans (sA.out.mono ?_)).trans (eA.out.mono ?_)).trans (cA.out.mono ?_)
  ·exact fun k hk=>aA.out.2.2.2 k (Or.inl (S5.out k hk))
  ·exact fun k hk=>aA.out.2.2.2 k (Or.inr (Or.inl (T3.out k hk)))
  ·exact fun k hk=>aA.out.2.2.2 k (Or.inr (Or.inr (P3.out k hk)))
theorem zGC(f:Nat->zL)(k0:Int):∀n,qU f k0 n<=k0+2*(n:Int)+2*(ym f n:Int)
 |0=>by show k0<=_;omega
 |n+1=>by
  have:=zGC f k0 n;show qU f k0 n+2+2*((f n).kn:Int)<=k0+2*((n+1:Nat):Int)+2*((ym f n+((f n).kn+(f n).data.size):Nat):Int);omega
theorem zFI(f:Nat->qC)(k0:Int):∀n,ze f k0 n<=k0+5*(n:Int)+2*(zBM f n:Int)
 |0=>by show k0<=_;omega
 |n+1=>by
  have:=zFI f k0 n;show ze f k0 n+5+2*((f n).dn:Int)<=k0+5*((n+1:Nat):Int)+2*((zBM f n+((f n).name.size+(f n).dn):Nat):Int);omega
theorem zD1(f:Nat->zm)(k0:Int):∀n,zM f k0 n<=k0+7*(n:Int)+2*(zAx f n:Int)
 |0=>by show k0<=_;omega
 |n+1=>by
  have:=zD1 f k0 n;show zM f k0 n+7+2*((f n).dn:Int)<=k0+7*((n+1:Nat):Int)+2*((zAx f n+((f n).name.size+(f n).set.size+(f n).dn):Nat):Int);omega
theorem zMW{W:zH}(h:yW W<=4000000):zAm W 1<=1000000000000/\0<=zAm W 1:=by
 have h1:=zGC W.zRQ.s 1 W.zRQ.n;have h2:=zDV W 1;have h3:=zFI W.zRS (zA8 W.zRQ 1) W.sn;have h4:=zD1 W.zRP (ze W.zRS (zA8 W.zRQ 1) W.sn) W.pn;unfold yW qD at h;have h5:zA8 W.zRQ 1=qU W.zRQ.s 1 W.zRQ.n+W.zRQ.hn:=rfl;have h6:zAm W 1=zM W.zRP (ze W.zRS (zA8 W.zRQ 1) W.sn) W.pn:=rfl;generalize zA8 W.zRQ 1=e at *;generalize ze W.zRS e W.sn=s at *;omega
end Go.Proofs.YtmgeglgboadfiaaGreatDoor
