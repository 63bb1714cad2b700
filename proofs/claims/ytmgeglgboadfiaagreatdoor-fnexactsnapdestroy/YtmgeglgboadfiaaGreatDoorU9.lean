/- A part of the proof. -/
import Derived.Test.YtmgeglgboadfiaaGreatDoorU8
import Derived.WideKeyEntry
set_option linter.unusedVariables false
set_option maxRecDepth 20000
set_option maxHeartbeats 8000000
namespace Go.Proofs.YtmgeglgboadfiaaGreatDoor
open Go.RowKit Go.Maps
abbrev zO6(vd:Value)(m:zDH):Value:=.agg #[.int .i64 m.zPH,.int .i64 m.time,.int .i64 m.rs,.int .i64 m.rb,vd]
theorem qE.putNe{w:World}{base b:Nat}{v:Value}{l:List (Int×Int)}(h:qE w base v l)(hb:v.ownBlock≠some b)(o:Nat)(u:Value):qE (w.setCell ⟨b,o,none⟩ u) base v l:=by
 refine⟨h.1,h.2.imp id ?_⟩;rintro⟨g,cap,aA,e,h1,h2,h3⟩;subst e;exact⟨g,cap,aA,rfl,h1,(Below.heap_setCell _ _ _ _ (fun e=>hb (by simp[Value.ownBlock];exact e))).trans h2,h3⟩
def zHQ(W:zE)(m:zDH)(S:zY):Prop:=m.rb<=m.time/\zCm (zAB (zX W.zPE m.rs m.rb) S.time).length (zk (zAB (zX W.zPE m.rs m.rb) S.time)) (zn (zAB (zX W.zPE m.rs m.rb) S.time)) (yu (zX W.zPE m.rs m.rb) (zX W.zPE S.rs S.rb))/\zCm m.dn m.ds m.db (yu (zX W.zPE S.rs S.rb) (qH (zX W.zPE m.rs m.rb) (zX W.zPE S.rs S.rb)))
theorem zI6(W:zE)(m:zDH)(S:zY):zHQ W m S↔(m.rb<=m.time/\zDJ (zAB (zX W.zPE m.rs m.rb) S.time).length (zk (zAB (zX W.zPE m.rs m.rb) S.time)) (zn (zAB (zX W.zPE m.rs m.rb) S.time)) (yu (zX W.zPE m.rs m.rb) (zX W.zPE S.rs S.rb)).length (zk (yu (zX W.zPE m.rs m.rb) (zX W.zPE S.rs S.rb))) (zn (yu (zX W.zPE m.rs m.rb) (zX W.zPE S.rs S.rb)))/\zDJ m.dn m.ds m.db (yu (zX W.zPE S.rs S.rb) (qH (zX W.zPE m.rs m.rb) (zX W.zPE S.rs S.rb))).length (zk (yu (zX W.zPE S.rs S.rb) (qH (zX W.zPE m.rs m.rb) (zX W.zPE S.rs S.rb)))) (zn (yu (zX W.zPE S.rs S.rb) (qH (zX W.zPE m.rs m.rb) (zX W.zPE S.rs S.rb))))):=Iff.rfl
theorem zHM(l:List (Int×Int))(t:Int):∀k,k<=l.length->zy (zk l) (zn l) t k=zAB (l.take k) t
 | 0,_=>by simp[zy,zAB]
 | k+1,hk=>by
  have aA:k<l.length:=(by omega);unfold zy;rw[zHM l t k (by omega)];unfold zAB;rw[List.take_succ_eq_append_getElem aA,List.filter_append,List.filter_cons];simp only[List.filter_nil];unfold zk zn;rw[yC aA];by_cases h:t<(l[k]).2
  ·rw[if_pos h,if_pos (by simpa using h)]
  ·rw[if_neg h,if_neg (by simpa using h),List.append_nil]
theorem zFI(l:List (Int×Int))(t:Int):zy (zk l) (zn l) t l.length=zAB l t:=by
 rw[zHM l t _ (Nat.le_refl _),List.take_length]
theorem zCq(v v':Value)(w:World):(Instr.field 201 (.agg #[v,v']) 0).run Tryz.prog w = .ok v w:=by kernel_rfl
theorem zF4(v0 v1 v2 v3:Value)(lo hi:Nat)(W:zE)(m:zDH)(S:zY)(ad sa:Option Addr)(cd sc:Nat)(w:World)(h:zd w lo hi v0 v1 v2 v3 W)(hR:qB W.zPE)(dE:zz W.zPE m.rs m.rb)(cE:zz W.zPE S.rs S.rb)(hD:zR w lo hi (.slice ad m.dn cd) m.dn m.ds m.db)(ht:zA8 S.time) :
  Calls Tryz.prog 225 #[zt v0 v1 v2 v3 W,zO6 (.slice ad m.dn cd) m,qX (.slice sa S.dn sc) S] w fun e w'=>zG (zHQ W m S) e/\Below w.heap.size w w':=by
 unfold qX;have Hp:=zB h;have HR:=zB hR;have pB:=zB dE;have aD:=zB cE;have iD:=zB hD;have jD:=zB ht;clear h hR dE cE hD ht;have nE:∀Wa Wb Wc:World,Wa=w.alloc (.cells #[v0,v1,.int .i64 W.time,.int .i64 W.next,v2,v3] 37)->Wb=Wa.alloc (.cells #[.int .i64 m.zPH,.int .i64 m.time,.int .i64 m.rs,.int .i64 m.rb,.slice ad m.dn cd] 224)->Wc=Wb.alloc (.cells #[.int .i64 S.id,.string S.name,.string S.set,.int .i64 S.zPH,.int .i64 S.time,.int .i64 S.rs,.int .i64 S.rb,.slice sa S.dn sc] 99)->zg Wc w.heap.size v0 v1 (.int .i64 W.time) (.int .i64 W.next) v2 v3/\zCU Wc (w.heap.size+1) (.int .i64 m.zPH) (.int .i64 m.time) (.int .i64 m.rs) (.int .i64 m.rb) (.slice ad m.dn cd)/\yx Wc (w.heap.size+2) (.int .i64 S.id) (.string S.name) (.string S.set) (.int .i64 S.zPH) (.int .i64 S.time) (.int .i64 S.rs) (.int .i64 S.rb) (.slice sa S.dn sc)/\Below w.heap.size w Wc:=by
  rintro Wa Wb Wc ea eb ec;have ha:=zC w (.cells #[v0,v1,.int .i64 W.time,.int .i64 W.next,v2,v3] 37);have h1:=zg.new w v0 v1 (.int .i64 W.time) (.int .i64 W.next) v2 v3 37;have z1:Wa.heap.size=w.heap.size+1:=(by rw[ea];exact World.size_alloc _ _);rw[<-ea]at ha h1;have hb:=zC Wa (.cells #[.int .i64 m.zPH,.int .i64 m.time,.int .i64 m.rs,.int .i64 m.rb,.slice ad m.dn cd] 224);have h2:=zCU.new Wa (.int .i64 m.zPH) (.int .i64 m.time) (.int .i64 m.rs) (.int .i64 m.rb) (.slice ad m.dn cd) 224;have z2:Wb.heap.size=w.heap.size+2:=(by rw[eb,World.size_alloc,z1]);rw[<-eb,z1]at h2;rw[<-eb]at hb;have hc:=zC Wb (.cells #[.int .i64 S.id,.string S.name,.string S.set,.int .i64 S.zPH,.int .i64 S.time,.int .i64 S.rs,.int .i64 S.rb,.slice sa S.dn sc] 99);have h3:=yx.new Wb (.int .i64 S.id) (.string S.name) (.string S.set) (.int .i64 S.zPH) (.int .i64 S.time) (.int .i64 S.rs) (.int .i64 S.rb) (.slice sa S.dn sc) 99;rw[<-ec,z2]at h3;rw[<-ec]at hc;exact⟨(h1.zO9 hb).zO9 hc,h2.zO9 hc,h3,zA (zA ha hb) hc⟩
 obtain⟨hx,hm,mE,gC⟩:=nE _ _ _ rfl rfl rfl;have sA:=zB hx;have pA:=zB hm;have rA:=zB mE;clear hx hm mE nE;go_enter Tryz.func225,Tryz.ntmps225;go_wp2_with fail;generalize ((w.alloc (.cells #[v0,v1,.int .i64 W.time,.int .i64 W.next,v2,v3] 37)).alloc (.cells #[.int .i64 m.zPH,.int .i64 m.time,.int .i64 m.rs,.int .i64 m.rb,.slice ad m.dn cd] 224)).alloc (.cells #[.int .i64 S.id,.string S.name,.string S.set,.int .i64 S.zPH,.int .i64 S.time,.int .i64 S.rs,.int .i64 S.rb,.slice sa S.dn sc] 99)=W0 at sA pA rA gC ⊢;obtain⟨⟨x0,-⟩,⟨x1,-⟩,⟨x2,-⟩,⟨x3,-⟩,⟨x4,-⟩,⟨x5,-⟩⟩:=sA.out;obtain⟨-,-,⟨y2,-⟩,⟨y3,-⟩,-⟩:=pA.out;obtain⟨-,-,⟨z5,-⟩,⟨z6,-⟩,-⟩:=rA.out;refine wp_region_held_drew (S:=(fun w'=>w'.cell? ⟨w.heap.size,0,none⟩=some v0/\w'.cell? ⟨w.heap.size,1,none⟩=some v1/\w'.cell? ⟨w.heap.size,2,none⟩=some (.int .i64 W.time)/\w'.cell? ⟨w.heap.size,3,none⟩=some (.int .i64 W.next)/\w'.cell? ⟨w.heap.size,4,none⟩=some v2/\w'.cell? ⟨w.heap.size,5,none⟩=some v3/\w'.cell? ⟨w.heap.size+1,2,none⟩=some (.int .i64 m.rs)/\w'.cell? ⟨w.heap.size+1,3,none⟩=some (.int .i64 m.rb)/\w'.cell? ⟨w.heap.size+2,5,none⟩=some (.int .i64 S.rs)/\w'.cell? ⟨w.heap.size+2,6,none⟩=some (.int .i64 S.rb))) (by kernel_rfl) ?_ (fun hHeld=>?_)
 ·(try dsimp only)
  go_keep
 have mD:Below W0.heap.size W0 W0.drew:=(Below.refl _ _).drew;have pE:W0.drew.heap.size=W0.heap.size:=rfl;refine tk 0 (h:=tk 1 (h:=tk 2 (h:=tk 4 (h:=tk 5 (h:=tk 6 (h:=?_))))));refine rd [3,8] (rc (fun K hK=>?_) (rc (fun K hK=>?_) .nil))
 ·go_simp;go_at_call 226;refine(zBH v0 v1 v2 v3 lo hi W m.rs m.rb _ ?_ HR.out pB.out).mono ?_
  ·exact Hp.out.zO9 (zA gC mD)
  rintro e w1 ⟨vt,rfl,rC,aC⟩;obtain⟨kD,lD,rfl,-⟩:=za rC;have fB:Below W0.heap.size W0 w1:=zA mD aC;obtain⟨⟨k0,_⟩,⟨k1,_⟩,⟨k2,_⟩,⟨k3,_⟩,⟨k4,_⟩,⟨k5,_⟩⟩:=sA.out.zO9 fB;obtain⟨_,_,⟨l2,_⟩,⟨l3,_⟩,_⟩:=pA.out.zO9 fB;obtain⟨_,_,⟨n5,_⟩,⟨n6,_⟩,_⟩:=rA.out.zO9 fB
  (try go_wp2_with fail)
  refine hK.out _ _ (by(try dsimp only);go_keep) ?_;clear hK K hHeld;intro hHeld
  try simp only[Act.put,s1,s2,s3]
  refine rd [7,8] (rc (fun K hK=>?_) (rc (fun K hK=>?_) .nil))
  ·go_simp;go_at_call 226;refine(zBH v0 v1 v2 v3 lo hi W S.rs S.rb _ ?_ HR.out aD.out).mono ?_
   ·exact Hp.out.zO9 (zA gC fB)
   rintro e w2 ⟨va,rfl,eC,gA⟩;obtain⟨av,cv,rfl,-⟩:=za eC;have nA:Below W0.heap.size W0 w2:=zA fB gA;obtain⟨⟨k0,_⟩,⟨k1,_⟩,⟨k2,_⟩,⟨k3,_⟩,⟨k4,_⟩,⟨k5,_⟩⟩:=sA.out.zO9 nA;obtain⟨_,_,⟨l2,_⟩,⟨l3,_⟩,_⟩:=pA.out.zO9 nA;obtain⟨_,_,⟨n5,_⟩,⟨n6,_⟩,_⟩:=rA.out.zO9 nA
   (try go_wp2_with fail)
   refine hK.out _ _ (by(try dsimp only);go_keep) ?_;clear hK K hHeld;intro hHeld
   try simp only[Act.put,s1,s2,s3]
   refine rd [8] (rc (fun K hK=>?_) .nil);go_simp;have vC:=zC w2 (.cells #[.slice none 0 0] 62);have dB:Below W0.heap.size W0 (w2.alloc (.cells #[.slice none 0 0] 62)):=zA nA vC;have bD:zQ (w2.alloc (.cells #[.slice none 0 0] 62)) w2.heap.size 0 (.slice none 0 0):=zH (heap_alloc_new _ _) rfl;obtain⟨⟨k0,_⟩,⟨k1,_⟩,⟨k2,_⟩,⟨k3,_⟩,⟨k4,_⟩,⟨k5,_⟩⟩:=sA.out.zO9 dB;obtain⟨_,_,⟨l2,_⟩,⟨l3,_⟩,_⟩:=pA.out.zO9 dB;obtain⟨_,_,⟨n5,_⟩,⟨n6,_⟩,_⟩:=rA.out.zO9 dB
   (try go_wp2_with fail)
   refine hK.out _ _ (by(try dsimp only);go_keep) ?_;clear hK K hHeld;intro hHeld
   try simp only[Act.put,s1,s2,s3]
   refine tk 9 (h:=?_);refine rd [10] (rc (fun K hK=>?_) .nil);go_simp;have fC:=zC w2 (.cells #[.slice av (zX W.zPE S.rs S.rb).length cv] 62);have bA:Below W0.heap.size W0 (w2.alloc (.cells #[.slice av (zX W.zPE S.rs S.rb).length cv] 62)):=zA nA fC;obtain⟨⟨k0,_⟩,⟨k1,_⟩,⟨k2,_⟩,⟨k3,_⟩,⟨k4,_⟩,⟨k5,_⟩⟩:=sA.out.zO9 bA;obtain⟨_,_,⟨l2,_⟩,⟨l3,_⟩,_⟩:=pA.out.zO9 bA;obtain⟨_,_,⟨n5,_⟩,⟨n6,_⟩,_⟩:=rA.out.zO9 bA
   (try go_wp2_with fail)
   refine hK.out _ _ (by(try dsimp only);go_keep) ?_;clear hK K hHeld;intro hHeld
   try simp only[Act.put,s1,s2,s3]
   refine wpAnyH_done (by kernel_rfl) ?_ _;have mA:=zB (show zQ (w2.alloc (.cells #[.slice av (zX W.zPE S.rs S.rb).length cv] 62)) w2.heap.size 0 (.slice av (zX W.zPE S.rs S.rb).length cv)from zH (heap_alloc_new _ _) rfl);have bB:=zB (((rC.zO9 gA).zO9 fC).mono (Nat.zero_le _));have aB:=zB ((eC.zO9 fC).mono (Nat.zero_le _));clear vC bD dB fC;have mC:=zB (sA.out.zO9 bA);have lB:=zB (pA.out.zO9 bA);have oB:=zB (rA.out.zO9 bA);have vB:=zA gC bA;clear bA hHeld
   as_aux_lemma=>
   generalize (w2.alloc (.cells #[.slice av (zX W.zPE S.rs S.rb).length cv] 62))=wz at mA bB aB mC lB oB vB ⊢;generalize w2.heap.size=T at mA ⊢;have gE:=qK W.zPE m.rs m.rb;have iE:=qK W.zPE S.rs S.rb;have dD:=zB (show qN (zX W.zPE m.rs m.rb).length (zk (zX W.zPE m.rs m.rb)) (zn (zX W.zPE m.rs m.rb))from zAn HR.out (fun x hx=>(zAF HR.out pB.out hx).1) (zAQ HR.out pB.out) (by omega));have vA:=zB (zI6 W m S);clear pB aD HR Hp mC;generalize zX W.zPE m.rs m.rb=tree at *;generalize zX W.zPE S.rs S.rb=old at *;have fE:(qH tree old).length<=tree.length:=List.length_filter_le _ _;have jE:(yu tree old).length<=tree.length:=List.length_filter_le _ _;have eE:(yu old (qH tree old)).length<=old.length:=List.length_filter_le _ _;have kE:(zAB tree S.time).length<=tree.length:=List.length_filter_le _ _;have lE:∀(fn:Fn) (first cap:Array Value) (w:World),(Instr.makeFunc fn first cap).run Tryz.prog w = .ok (.func fn first cap) w:=fun _ _ _ _=>rfl
   go_wp2_with fail;refine(zCO _ _ 0 _ 0 _ T tree old wz (bB.out.atW (by omega)) (by omega) (aB.out.atW (by omega)) mA.out.1).mono ?_;rintro e w3 ⟨vk,vo,rfl,cC,dC,-,fA⟩;obtain⟨ak,ck,rfl,-⟩:=za cC;obtain⟨ao,co,rfl,-⟩:=za dC;have aA:=zC w3 (.cells #[.slice ak (qH tree old).length ck] 62);have eA:=zB ((mA.out.zO9 fA).zO9 aA);have dA:=zB ((bB.out.zO9 fA).zO9 aA);have cA:=zB ((aB.out.zO9 fA).zO9 aA);have iB:=zB (cC.zO9 aA);have mB:=zB (dC.zO9 aA);have jB:=zB ((lB.out.zO9 fA).zO9 aA);have nB:=zB ((oB.out.zO9 fA).zO9 aA);have tA:=zB (show zQ (w3.alloc (.cells #[.slice ak (qH tree old).length ck] 62)) w3.heap.size 0 (.slice ak (qH tree old).length ck)from zH (heap_alloc_new _ _) rfl);have rB:=zA (zA vB fA) aA;clear cC dC fA aA mA bB aB lB oB vB;obtain⟨c0,-⟩:=eA.out;go_wp2_with fail;clear c0;generalize w3.alloc (.cells #[.slice ak (qH tree old).length ck] 62)=w4 at eA dA cA iB mB jB nB tA rB ⊢;generalize w3.heap.size=T9 at tA ⊢;refine(zC4 _ _ 0 _ 0 _ T9 old (qH tree old) w4 (cA.out.atW (by omega)) (by omega) (iB.out.atW (by omega)) tA.out.1).mono ?_;rintro e w5 ⟨vx,oE,rfl,-,bC,-,iA⟩;obtain⟨aE,bE,rfl,-⟩:=za bC;have lA:=zB (dA.out.zO9 iA);have jC:=zB (mB.out.zO9 iA);have iC:=zB (jB.out.zO9 iA);have lC:=zB (nB.out.zO9 iA);have jA:=zB bC;have oC:=zA rB iA;clear bC iA eA dA cA iB mB jB nB tA rB;obtain⟨-,⟨c4,-⟩,-⟩:=lC.out;go_wp2_with fail;clear c4;refine(zAa _ tree.length 0 _ (zk tree) (zn tree) S.time w5 (lA.out.atW (by omega))).mono ?_;rintro e w6 ⟨vy,vz,ly,lz,rfl,hY,-,hy,-,-,oA⟩;rw[(hY.1 ⟨dD.out,jD.out⟩).trans (zFI tree S.time)]at hy;have gD:∀w,(Instr.field 201 (.agg #[vy,vz]) 0).run Tryz.prog w = .ok vy w:=zCq vy vz;have nC:=zB hy;have kC:=zB (jC.out.zO9 oA);have kB:=zB (iC.out.zO9 oA);have kA:=zB (jA.out.zO9 oA);have sB:=zA oC oA;clear hY hy oA lA jC iC lC jA oC;obtain⟨-,⟨c1,-⟩,-,⟨c3,-⟩,⟨c5,-⟩⟩:=kB.out;by_cases h1:m.rb<=m.time;rotate_left
   ·have Hn:=zB (show ¬zHQ W m S from fun h=>h1 (vA.out.1 h).1);go_wp2;go_ret;exact⟨zG.no Hn.out,sB⟩
   have H1:=zB h1;go_wp2_with fail;clear h1 c1 c3 c5 gD;refine(yS _ _ _ 0 _ _ 0 _ _ _ _ _ w6 (nC.out.atW (by omega)) (kC.out.atW (by omega))).mono ?_;rintro e w7 ⟨⟨t7,rfl,sC⟩,eB⟩;have cD:=zB (kB.out.zO9 eB);have gB:=zB (kA.out.zO9 eB);have tB:=zA sB eB;have cB:=zB sC;clear sC eB nC kC kB kA sB;obtain⟨-,⟨c1,-⟩,-,⟨c3,-⟩,⟨c5,-⟩⟩:=cD.out;cases t7
   ·have Hn:=zB (show ¬zHQ W m S from fun h=>absurd (cB.out.2 (vA.out.1 h).2.1) (by simp));clear cB;go_wp2;go_ret;exact⟨zG.no Hn.out,tB⟩
   have H2:=zB (cB.out.1 rfl);clear cB;go_wp2_with fail;clear c1 c3 c5;refine(yS _ _ _ lo hi _ 0 _ _ _ _ _ w7 (iD.out.zO9 tB) (gB.out.atW (by omega))).mono ?_;rintro e w8 ⟨⟨t8,rfl,tC⟩,pC⟩;have eD:=zB (tC.trans ⟨fun h=>vA.out.2 ⟨H1.out,H2.out,h⟩,fun h=>(vA.out.1 h).2.2⟩);have fD:=zA tB pC;clear tC pC;go_wp2;go_ret;exact⟨⟨t8,rfl,eD.out⟩,fD⟩
  ·go_simp;have vC:=zC w1 (.cells #[.slice none 0 0] 62);have nA:Below W0.heap.size W0 (w1.alloc (.cells #[.slice none 0 0] 62)):=zA fB vC;have bD:zQ (w1.alloc (.cells #[.slice none 0 0] 62)) w1.heap.size 0 (.slice none 0 0):=zH (heap_alloc_new _ _) rfl;obtain⟨⟨k0,_⟩,⟨k1,_⟩,⟨k2,_⟩,⟨k3,_⟩,⟨k4,_⟩,⟨k5,_⟩⟩:=sA.out.zO9 nA;obtain⟨_,_,⟨l2,_⟩,⟨l3,_⟩,_⟩:=pA.out.zO9 nA;obtain⟨_,_,⟨n5,_⟩,⟨n6,_⟩,_⟩:=rA.out.zO9 nA
   (try go_wp2_with fail)
   refine hK.out _ _ (by(try dsimp only);go_keep) ?_;clear hK K hHeld;intro hHeld
   try simp only[Act.put,s1,s2,s3]
   refine rd [7] (rc (fun K hK=>?_) .nil);go_simp;go_at_call 226;refine(zBH v0 v1 v2 v3 lo hi W S.rs S.rb _ ?_ HR.out aD.out).mono ?_
   ·exact Hp.out.zO9 (zA gC nA)
   rintro e w2 ⟨va,rfl,eC,gA⟩;obtain⟨av,cv,rfl,-⟩:=za eC;have dB:Below W0.heap.size W0 w2:=zA nA gA;obtain⟨⟨k0,_⟩,⟨k1,_⟩,⟨k2,_⟩,⟨k3,_⟩,⟨k4,_⟩,⟨k5,_⟩⟩:=sA.out.zO9 dB;obtain⟨_,_,⟨l2,_⟩,⟨l3,_⟩,_⟩:=pA.out.zO9 dB;obtain⟨_,_,⟨n5,_⟩,⟨n6,_⟩,_⟩:=rA.out.zO9 dB
   (try go_wp2_with fail)
   refine hK.out _ _ (by(try dsimp only);go_keep) ?_;clear hK K hHeld;intro hHeld
   try simp only[Act.put,s1,s2,s3]
   refine tk 9 (h:=?_);have nD:=bD.zO9 gA;have rD:=(rC.zO9 vC).zO9 gA;have sD:(w1.alloc (.cells #[.slice none 0 0] 62)).heap.size=w1.heap.size+1:=World.size_alloc _ _;have pD:Value.ownBlock (.slice kD (zX W.zPE m.rs m.rb).length lD)≠some w1.heap.size:=fun e=>by have:=(rC.lt e).2;omega
   have oD:Value.ownBlock (.slice av (zX W.zPE S.rs S.rb).length cv)≠some w1.heap.size:=fun e=>by have:=(eC.lt e).1;omega
   have sE:=fB.size;obtain⟨tD,vD⟩:=nD;refine rd [10] (rc (fun K hK=>?_) .nil);go_simp;have bA:Below W0.heap.size W0 (w2.setCell ⟨w1.heap.size,0,none⟩ (.slice av (zX W.zPE S.rs S.rb).length cv)):=dB.setCell (show W0.heap.size<=w1.heap.size by omega) _;obtain⟨⟨k0,_⟩,⟨k1,_⟩,⟨k2,_⟩,⟨k3,_⟩,⟨k4,_⟩,⟨k5,_⟩⟩:=sA.out.zO9 bA;obtain⟨_,_,⟨l2,_⟩,⟨l3,_⟩,_⟩:=pA.out.zO9 bA;obtain⟨_,_,⟨n5,_⟩,⟨n6,_⟩,_⟩:=rA.out.zO9 bA
   (try go_wp2_with fail)
   refine hK.out _ _ (by(try dsimp only);go_keep) ?_;clear hK K hHeld;intro hHeld
   try simp only[Act.put,s1,s2,s3]
   refine wpAnyH_done (by kernel_rfl) ?_ _;have mA:=zB (show zQ (w2.setCell ⟨w1.heap.size,0,none⟩ (.slice av (zX W.zPE S.rs S.rb).length cv)) w1.heap.size 0 (.slice av (zX W.zPE S.rs S.rb).length cv)from zQ.set ⟨tD,vD⟩ _);have bB:=zB ((rD.putNe pD 0 (.slice av (zX W.zPE S.rs S.rb).length cv)).mono (Nat.zero_le _));have aB:=zB ((eC.putNe oD 0 (.slice av (zX W.zPE S.rs S.rb).length cv)).mono (Nat.zero_le _));have mC:=zB (sA.out.zO9 bA);have lB:=zB (pA.out.zO9 bA);have oB:=zB (rA.out.zO9 bA);have vB:=zA gC bA;clear bA hHeld
   as_aux_lemma=>
   generalize (w2.setCell ⟨w1.heap.size,0,none⟩ (.slice av (zX W.zPE S.rs S.rb).length cv))=wz at mA bB aB mC lB oB vB ⊢;generalize w1.heap.size=T at mA ⊢;have gE:=qK W.zPE m.rs m.rb;have iE:=qK W.zPE S.rs S.rb;have dD:=zB (show qN (zX W.zPE m.rs m.rb).length (zk (zX W.zPE m.rs m.rb)) (zn (zX W.zPE m.rs m.rb))from zAn HR.out (fun x hx=>(zAF HR.out pB.out hx).1) (zAQ HR.out pB.out) (by omega));have vA:=zB (zI6 W m S);clear pB aD HR Hp mC;generalize zX W.zPE m.rs m.rb=tree at *;generalize zX W.zPE S.rs S.rb=old at *;have fE:(qH tree old).length<=tree.length:=List.length_filter_le _ _;have jE:(yu tree old).length<=tree.length:=List.length_filter_le _ _;have eE:(yu old (qH tree old)).length<=old.length:=List.length_filter_le _ _;have kE:(zAB tree S.time).length<=tree.length:=List.length_filter_le _ _;have lE:∀(fn:Fn) (first cap:Array Value) (w:World),(Instr.makeFunc fn first cap).run Tryz.prog w = .ok (.func fn first cap) w:=fun _ _ _ _=>rfl
   go_wp2_with fail;refine(zCO _ _ 0 _ 0 _ T tree old wz (bB.out.atW (by omega)) (by omega) (aB.out.atW (by omega)) mA.out.1).mono ?_;rintro e w3 ⟨vk,vo,rfl,cC,dC,-,fA⟩;obtain⟨ak,ck,rfl,-⟩:=za cC;obtain⟨ao,co,rfl,-⟩:=za dC;have aA:=zC w3 (.cells #[.slice ak (qH tree old).length ck] 62);have eA:=zB ((mA.out.zO9 fA).zO9 aA);have dA:=zB ((bB.out.zO9 fA).zO9 aA);have cA:=zB ((aB.out.zO9 fA).zO9 aA);have iB:=zB (cC.zO9 aA);have mB:=zB (dC.zO9 aA);have jB:=zB ((lB.out.zO9 fA).zO9 aA);have nB:=zB ((oB.out.zO9 fA).zO9 aA);have tA:=zB (show zQ (w3.alloc (.cells #[.slice ak (qH tree old).length ck] 62)) w3.heap.size 0 (.slice ak (qH tree old).length ck)from zH (heap_alloc_new _ _) rfl);have rB:=zA (zA vB fA) aA;clear cC dC fA aA mA bB aB lB oB vB;obtain⟨c0,-⟩:=eA.out;go_wp2_with fail;clear c0;generalize w3.alloc (.cells #[.slice ak (qH tree old).length ck] 62)=w4 at eA dA cA iB mB jB nB tA rB ⊢;generalize w3.heap.size=T9 at tA ⊢;refine(zC4 _ _ 0 _ 0 _ T9 old (qH tree old) w4 (cA.out.atW (by omega)) (by omega) (iB.out.atW (by omega)) tA.out.1).mono ?_;rintro e w5 ⟨vx,oE,rfl,-,bC,-,iA⟩;obtain⟨aE,bE,rfl,-⟩:=za bC;have lA:=zB (dA.out.zO9 iA);have jC:=zB (mB.out.zO9 iA);have iC:=zB (jB.out.zO9 iA);have lC:=zB (nB.out.zO9 iA);have jA:=zB bC;have oC:=zA rB iA;clear bC iA eA dA cA iB mB jB nB tA rB;obtain⟨-,⟨c4,-⟩,-⟩:=lC.out;go_wp2_with fail;clear c4;refine(zAa _ tree.length 0 _ (zk tree) (zn tree) S.time w5 (lA.out.atW (by omega))).mono ?_;rintro e w6 ⟨vy,vz,ly,lz,rfl,hY,-,hy,-,-,oA⟩;rw[(hY.1 ⟨dD.out,jD.out⟩).trans (zFI tree S.time)]at hy;have gD:∀w,(Instr.field 201 (.agg #[vy,vz]) 0).run Tryz.prog w = .ok vy w:=zCq vy vz;have nC:=zB hy;have kC:=zB (jC.out.zO9 oA);have kB:=zB (iC.out.zO9 oA);have kA:=zB (jA.out.zO9 oA);have sB:=zA oC oA;clear hY hy oA lA jC iC lC jA oC;obtain⟨-,⟨c1,-⟩,-,⟨c3,-⟩,⟨c5,-⟩⟩:=kB.out;by_cases h1:m.rb<=m.time;rotate_left
   ·have Hn:=zB (show ¬zHQ W m S from fun h=>h1 (vA.out.1 h).1);go_wp2;go_ret;exact⟨zG.no Hn.out,sB⟩
   have H1:=zB h1;go_wp2_with fail;clear h1 c1 c3 c5 gD;refine(yS _ _ _ 0 _ _ 0 _ _ _ _ _ w6 (nC.out.atW (by omega)) (kC.out.atW (by omega))).mono ?_;rintro e w7 ⟨⟨t7,rfl,sC⟩,eB⟩;have cD:=zB (kB.out.zO9 eB);have gB:=zB (kA.out.zO9 eB);have tB:=zA sB eB;have cB:=zB sC;clear sC eB nC kC kB kA sB;obtain⟨-,⟨c1,-⟩,-,⟨c3,-⟩,⟨c5,-⟩⟩:=cD.out;cases t7
   ·have Hn:=zB (show ¬zHQ W m S from fun h=>absurd (cB.out.2 (vA.out.1 h).2.1) (by simp));clear cB;go_wp2;go_ret;exact⟨zG.no Hn.out,tB⟩
   have H2:=zB (cB.out.1 rfl);clear cB;go_wp2_with fail;clear c1 c3 c5;refine(yS _ _ _ lo hi _ 0 _ _ _ _ _ w7 (iD.out.zO9 tB) (gB.out.atW (by omega))).mono ?_;rintro e w8 ⟨⟨t8,rfl,tC⟩,pC⟩;have eD:=zB (tC.trans ⟨fun h=>vA.out.2 ⟨H1.out,H2.out,h⟩,fun h=>(vA.out.1 h).2.2⟩);have fD:=zA tB pC;clear tC pC;go_wp2;go_ret;exact⟨⟨t8,rfl,eD.out⟩,fD⟩
 ·go_simp;have vC:=zC W0.drew (.cells #[.slice none 0 0] 62);have fB:Below W0.heap.size W0 (W0.drew.alloc (.cells #[.slice none 0 0] 62)):=zA mD vC;have bD:zQ (W0.drew.alloc (.cells #[.slice none 0 0] 62)) W0.drew.heap.size 0 (.slice none 0 0):=zH (heap_alloc_new _ _) rfl;obtain⟨⟨k0,_⟩,⟨k1,_⟩,⟨k2,_⟩,⟨k3,_⟩,⟨k4,_⟩,⟨k5,_⟩⟩:=sA.out.zO9 fB;obtain⟨_,_,⟨l2,_⟩,⟨l3,_⟩,_⟩:=pA.out.zO9 fB;obtain⟨_,_,⟨n5,_⟩,⟨n6,_⟩,_⟩:=rA.out.zO9 fB
  (try go_wp2_with fail)
  refine hK.out _ _ (by(try dsimp only);go_keep) ?_;clear hK K hHeld;intro hHeld
  try simp only[Act.put,s1,s2,s3]
  refine rd [3] (rc (fun K hK=>?_) .nil);go_simp;go_at_call 226;refine(zBH v0 v1 v2 v3 lo hi W m.rs m.rb _ ?_ HR.out pB.out).mono ?_
  ·exact Hp.out.zO9 (zA gC fB)
  rintro e w1 ⟨vt,rfl,rC,aC⟩;obtain⟨kD,lD,rfl,-⟩:=za rC;have nA:Below W0.heap.size W0 w1:=zA fB aC;obtain⟨⟨k0,_⟩,⟨k1,_⟩,⟨k2,_⟩,⟨k3,_⟩,⟨k4,_⟩,⟨k5,_⟩⟩:=sA.out.zO9 nA;obtain⟨_,_,⟨l2,_⟩,⟨l3,_⟩,_⟩:=pA.out.zO9 nA;obtain⟨_,_,⟨n5,_⟩,⟨n6,_⟩,_⟩:=rA.out.zO9 nA
  (try go_wp2_with fail)
  refine hK.out _ _ (by(try dsimp only);go_keep) ?_;clear hK K hHeld;intro hHeld
  try simp only[Act.put,s1,s2,s3]
  refine rd [7] (rc (fun K hK=>?_) .nil);go_simp;go_at_call 226;refine(zBH v0 v1 v2 v3 lo hi W S.rs S.rb _ ?_ HR.out aD.out).mono ?_
  ·exact Hp.out.zO9 (zA gC nA)
  rintro e w2 ⟨va,rfl,eC,gA⟩;obtain⟨av,cv,rfl,-⟩:=za eC;have dB:Below W0.heap.size W0 w2:=zA nA gA;obtain⟨⟨k0,_⟩,⟨k1,_⟩,⟨k2,_⟩,⟨k3,_⟩,⟨k4,_⟩,⟨k5,_⟩⟩:=sA.out.zO9 dB;obtain⟨_,_,⟨l2,_⟩,⟨l3,_⟩,_⟩:=pA.out.zO9 dB;obtain⟨_,_,⟨n5,_⟩,⟨n6,_⟩,_⟩:=rA.out.zO9 dB
  (try go_wp2_with fail)
  refine hK.out _ _ (by(try dsimp only);go_keep) ?_;clear hK K hHeld;intro hHeld
  try simp only[Act.put,s1,s2,s3]
  refine tk 9 (h:=?_);rw[pE]at bD;have nD:=(bD.zO9 aC).zO9 gA;have rD:=rC.zO9 gA;have sD:(W0.drew.alloc (.cells #[.slice none 0 0] 62)).heap.size=W0.heap.size+1:=World.size_alloc _ _;have rE:(W0.alloc (.cells #[.slice none 0 0] 62)).drew.heap.size=W0.heap.size+1:=World.size_alloc _ _;have tE:=aC.size;have pD:Value.ownBlock (.slice kD (zX W.zPE m.rs m.rb).length lD)≠some W0.heap.size:=fun e=>by have:=(rC.lt e).1;omega
  have oD:Value.ownBlock (.slice av (zX W.zPE S.rs S.rb).length cv)≠some W0.heap.size:=fun e=>by have:=(eC.lt e).1;omega
  obtain⟨tD,vD⟩:=nD;refine rd [10] (rc (fun K hK=>?_) .nil);go_simp;have bA:Below W0.heap.size W0 (w2.setCell ⟨W0.heap.size,0,none⟩ (.slice av (zX W.zPE S.rs S.rb).length cv)):=dB.setCell (show W0.heap.size<=W0.heap.size by omega) _;obtain⟨⟨k0,_⟩,⟨k1,_⟩,⟨k2,_⟩,⟨k3,_⟩,⟨k4,_⟩,⟨k5,_⟩⟩:=sA.out.zO9 bA;obtain⟨_,_,⟨l2,_⟩,⟨l3,_⟩,_⟩:=pA.out.zO9 bA;obtain⟨_,_,⟨n5,_⟩,⟨n6,_⟩,_⟩:=rA.out.zO9 bA
  (try go_wp2_with fail)
  refine hK.out _ _ (by(try dsimp only);go_keep) ?_;clear hK K hHeld;intro hHeld
  try simp only[Act.put,s1,s2,s3]
  refine wpAnyH_done (by kernel_rfl) ?_ _;have mA:=zB (show zQ (w2.setCell ⟨W0.heap.size,0,none⟩ (.slice av (zX W.zPE S.rs S.rb).length cv)) W0.heap.size 0 (.slice av (zX W.zPE S.rs S.rb).length cv)from zQ.set ⟨tD,vD⟩ _);have bB:=zB ((rD.putNe pD 0 (.slice av (zX W.zPE S.rs S.rb).length cv)).mono (Nat.zero_le _));have aB:=zB ((eC.putNe oD 0 (.slice av (zX W.zPE S.rs S.rb).length cv)).mono (Nat.zero_le _));have mC:=zB (sA.out.zO9 bA);have lB:=zB (pA.out.zO9 bA);have oB:=zB (rA.out.zO9 bA);have vB:=zA gC bA;clear bA hHeld
  as_aux_lemma=>
  generalize (w2.setCell ⟨W0.heap.size,0,none⟩ (.slice av (zX W.zPE S.rs S.rb).length cv))=wz at mA bB aB mC lB oB vB ⊢;generalize W0.heap.size=T at mA ⊢;have gE:=qK W.zPE m.rs m.rb;have iE:=qK W.zPE S.rs S.rb;have dD:=zB (show qN (zX W.zPE m.rs m.rb).length (zk (zX W.zPE m.rs m.rb)) (zn (zX W.zPE m.rs m.rb))from zAn HR.out (fun x hx=>(zAF HR.out pB.out hx).1) (zAQ HR.out pB.out) (by omega));have vA:=zB (zI6 W m S);clear pB aD HR Hp mC;generalize zX W.zPE m.rs m.rb=tree at *;generalize zX W.zPE S.rs S.rb=old at *;have fE:(qH tree old).length<=tree.length:=List.length_filter_le _ _;have jE:(yu tree old).length<=tree.length:=List.length_filter_le _ _;have eE:(yu old (qH tree old)).length<=old.length:=List.length_filter_le _ _;have kE:(zAB tree S.time).length<=tree.length:=List.length_filter_le _ _;have lE:∀(fn:Fn) (first cap:Array Value) (w:World),(Instr.makeFunc fn first cap).run Tryz.prog w = .ok (.func fn first cap) w:=fun _ _ _ _=>rfl
  go_wp2_with fail;refine(zCO _ _ 0 _ 0 _ T tree old wz (bB.out.atW (by omega)) (by omega) (aB.out.atW (by omega)) mA.out.1).mono ?_;rintro e w3 ⟨vk,vo,rfl,cC,dC,-,fA⟩;obtain⟨ak,ck,rfl,-⟩:=za cC;obtain⟨ao,co,rfl,-⟩:=za dC;have aA:=zC w3 (.cells #[.slice ak (qH tree old).length ck] 62);have eA:=zB ((mA.out.zO9 fA).zO9 aA);have dA:=zB ((bB.out.zO9 fA).zO9 aA);have cA:=zB ((aB.out.zO9 fA).zO9 aA);have iB:=zB (cC.zO9 aA);have mB:=zB (dC.zO9 aA);have jB:=zB ((lB.out.zO9 fA).zO9 aA);have nB:=zB ((oB.out.zO9 fA).zO9 aA);have tA:=zB (show zQ (w3.alloc (.cells #[.slice ak (qH tree old).length ck] 62)) w3.heap.size 0 (.slice ak (qH tree old).length ck)from zH (heap_alloc_new _ _) rfl);have rB:=zA (zA vB fA) aA;clear cC dC fA aA mA bB aB lB oB vB;obtain⟨c0,-⟩:=eA.out;go_wp2_with fail;clear c0;generalize w3.alloc (.cells #[.slice ak (qH tree old).length ck] 62)=w4 at eA dA cA iB mB jB nB tA rB ⊢;generalize w3.heap.size=T9 at tA ⊢;refine(zC4 _ _ 0 _ 0 _ T9 old (qH tree old) w4 (cA.out.atW (by omega)) (by omega) (iB.out.atW (by omega)) tA.out.1).mono ?_;rintro e w5 ⟨vx,oE,rfl,-,bC,-,iA⟩;obtain⟨aE,bE,rfl,-⟩:=za bC;have lA:=zB (dA.out.zO9 iA);have jC:=zB (mB.out.zO9 iA);have iC:=zB (jB.out.zO9 iA);have lC:=zB (nB.out.zO9 iA);have jA:=zB bC;have oC:=zA rB iA;clear bC iA eA dA cA iB mB jB nB tA rB;obtain⟨-,⟨c4,-⟩,-⟩:=lC.out;go_wp2_with fail;clear c4;refine(zAa _ tree.length 0 _ (zk tree) (zn tree) S.time w5 (lA.out.atW (by omega))).mono ?_;rintro e w6 ⟨vy,vz,ly,lz,rfl,hY,-,hy,-,-,oA⟩;rw[(hY.1 ⟨dD.out,jD.out⟩).trans (zFI tree S.time)]at hy;have gD:∀w,(Instr.field 201 (.agg #[vy,vz]) 0).run Tryz.prog w = .ok vy w:=zCq vy vz;have nC:=zB hy;have kC:=zB (jC.out.zO9 oA);have kB:=zB (iC.out.zO9 oA);have kA:=zB (jA.out.zO9 oA);have sB:=zA oC oA;clear hY hy oA lA jC iC lC jA oC;obtain⟨-,⟨c1,-⟩,-,⟨c3,-⟩,⟨c5,-⟩⟩:=kB.out;by_cases h1:m.rb<=m.time;rotate_left
  ·have Hn:=zB (show ¬zHQ W m S from fun h=>h1 (vA.out.1 h).1);go_wp2;go_ret;exact⟨zG.no Hn.out,sB⟩
  have H1:=zB h1;go_wp2_with fail;clear h1 c1 c3 c5 gD;refine(yS _ _ _ 0 _ _ 0 _ _ _ _ _ w6 (nC.out.atW (by omega)) (kC.out.atW (by omega))).mono ?_;rintro e w7 ⟨⟨t7,rfl,sC⟩,eB⟩;have cD:=zB (kB.out.zO9 eB);have gB:=zB (kA.out.zO9 eB);have tB:=zA sB eB;have cB:=zB sC;clear sC eB nC kC kB kA sB;obtain⟨-,⟨c1,-⟩,-,⟨c3,-⟩,⟨c5,-⟩⟩:=cD.out;cases t7
  ·have Hn:=zB (show ¬zHQ W m S from fun h=>absurd (cB.out.2 (vA.out.1 h).2.1) (by simp));clear cB;go_wp2;go_ret;exact⟨zG.no Hn.out,tB⟩
  have H2:=zB (cB.out.1 rfl);clear cB;go_wp2_with fail;clear c1 c3 c5;refine(yS _ _ _ lo hi _ 0 _ _ _ _ _ w7 (iD.out.zO9 tB) (gB.out.atW (by omega))).mono ?_;rintro e w8 ⟨⟨t8,rfl,tC⟩,pC⟩;have eD:=zB (tC.trans ⟨fun h=>vA.out.2 ⟨H1.out,H2.out,h⟩,fun h=>(vA.out.1 h).2.2⟩);have fD:=zA tB pC;clear tC pC;go_wp2;go_ret;exact⟨⟨t8,rfl,eD.out⟩,fD⟩
theorem zOg{W:zE}(h:∀i,i<zm W->zz W.zPE (zJ W i).rs (zJ W i).rb)(x:Int):zz W.zPE (zK W x).rs (zK W x).rb:=by
 by_cases hx:∃k,qM W x k
 ·obtain⟨k,hk⟩:=hx;rw[qx hk];have:=h k (by unfold zm;have:=hk.1;omega);rw[qA hk.1]at this;exact this
 ·have:zK W x=yG:=by
   unfold zK;rw[dif_neg hx]
  rw[this];exact Or.inl ⟨rfl,rfl⟩
def zLe(W:zE)(i:Nat):Prop:=zHQ W (zJ W i) (zK W (zJ W i).zPH)
def zM0(W:zE):Prop:=(∀i,i<zm W->zz W.zPE (zJ W i).rs (zJ W i).rb)/\∀i,i<zm W->zLe W i
def zIh(W:zE):Prop:=∀x,zA8 (zK W x).time
theorem zHI(v0 v1 v2 v3:Value)(lo hi:Nat)(W:zE)(A:Nat)(w:World)(h:zd w lo hi v0 v1 v2 v3 W)(hs:W.sn<=8)(hp:W.pn<=20)(hA:zAq w lo hi W A)(hD:yy W)(dB:zAr W)(hR:qB W.zPE)(hT:zIh W) :
  Calls Tryz.prog 207 #[zt v0 v1 v2 v3 W,zEJ A] w fun e w'=>zG (zM0 W) e/\Below w.heap.size w w':=by
 have Hp:=zB h;have HA:=zB hA;have HD:=zB hD;have kB:=zB dB;have HR:=zB hR;have fB:=zB hT;clear h hA hD dB hR hT;have ha:=zC w (.cells #[v0,v1,.int .i64 W.time,.int .i64 W.next,v2,v3] 37);have HB:=zB (zg.new w v0 v1 (.int .i64 W.time) (.int .i64 W.next) v2 v3 37);obtain⟨⟨x0,-⟩,⟨x2,-⟩,⟨x4,-⟩,⟨x6,-⟩,⟨x8,-⟩,⟨nB,-⟩⟩:=HB.out;go_enter Tryz.func207,Tryz.ntmps207;go_wp2_with fail;clear x0 x2 x4 x6 x8 nB;generalize w.alloc (.cells #[v0,v1,.int .i64 W.time,.int .i64 W.next,v2,v3] 37)=W0 at ha HB ⊢;refine(zBQ v0 v1 v2 v3 lo hi W W0 (Hp.out.zO9 ha) hs hp).mono ?_;rintro e w1 ⟨vm,vd,rfl,hm,oA⟩;have HM:=zB hm;have sA:=zB (HB.out.zO9 oA);have jA:=zA ha oA;obtain⟨am,cm,rfl,oB⟩:=id hm.zPO;have pB:zm W<=28:=by unfold zm;omega
 clear ha oA hm HB;go_wp2
 go_loopw [14] (fun i wr=>∃k:Nat,k<=zm W/\i = .int .i64 k/\(∀j,j<k->zz W.zPE (zJ W j).rs (zJ W j).rb)/\Below w1.heap.size w1 wr) (fun i _=>zm W - (intOf i).toNat)
 case atStart=>exact⟨0,Nat.zero_le _,rfl,fun j hj=>absurd hj (Nat.not_lt_zero _),Below.refl _ _⟩
 case round=>
  obtain⟨k,hk,rfl,cA,hb⟩:=hrel;have aA:=zB cA;clear cA;by_cases bA:k<zm W
  ·have pA:(k:Int)<(zm W:Int):=(by omega);obtain⟨g,cg,e,q0,q1,q2,q3,q4⟩:=(HM.out.zO9 hb).cells k bA;obtain⟨-,ad,cd,lA,-,-⟩:=id ((HM.out.zO9 hb).zPK k bA);rw[lA]at q4;cases e;have fA:=zC wr (.cells #[.int .i64 (zJ W k).zPH,.int .i64 (zJ W k).time,.int .i64 (zJ W k).rs,.int .i64 (zJ W k).rb,.slice ad (zJ W k).dn cd] 224);have HV:=zB (zCU.new wr (.int .i64 (zJ W k).zPH) (.int .i64 (zJ W k).time) (.int .i64 (zJ W k).rs) (.int .i64 (zJ W k).rb) (.slice ad (zJ W k).dn cd) 224);have gA:=zB ((sA.out.zO9 hb).zO9 fA);have eA:=zA hb fA;clear lA fA;obtain⟨⟨y0,-⟩,⟨y1,-⟩,⟨y2,-⟩,⟨y3,-⟩,⟨y4,-⟩⟩:=HV.out;obtain⟨⟨x0,-⟩,⟨x2,-⟩,-⟩:=gA.out;go_wp2_with fail;clear q0 q1 q2 q3 q4 y0 y1 y2 y3 y4 x0 x2;refine(zHs v0 v1 lo hi W.zPE (zJ W k).rs (zJ W k).rb _ (Hp.out.zPE.zO9 (zA jA eA)) HR.out).mono ?_;rintro e w6 ⟨⟨t6,rfl,bB⟩,kA⟩;have Ht:=zB (bB.trans (zHG HR.out));have iA:=zA eA kA;clear bB kA eA HV gA;cases t6
   ·have Hn:=zB (show ¬zz W.zPE (zJ W k).rs (zJ W k).rb from fun hA=>absurd (Ht.out.2 hA) (by simp));clear Ht;go_wp2;go_ret;exact⟨zG.no fun hA=>Hn.out (hA.1 k bA),zA jA iA⟩
   ·have Hn:=zB (Ht.out.1 rfl);clear Ht;go_wp2;go_roundw
    case rel=>exact⟨k+1,by omega,by go_num,zr bA aA.out Hn.out,iA⟩
    case measure=>simp[intOf];omega
  obtain rfl:k=zm W:=(by omega);have nA:=zB aA.out;clear aA bA hk;go_wp2
  go_loopw [27] (fun i wr=>∃k:Nat,k<=zm W/\i = .int .i64 k/\(∀j,j<k->zLe W j)/\Below w1.heap.size w1 wr) (fun i _=>zm W - (intOf i).toNat)
  case atStart=>exact⟨0,Nat.zero_le _,rfl,fun j hj=>absurd hj (Nat.not_lt_zero _),hb⟩
  case round=>
   clear hb;obtain⟨k,hk,rfl,cA,hb⟩:=hrel;have aA:=zB cA;clear cA;by_cases bA:k<zm W;rotate_left
   ·obtain rfl:k=zm W:=(by omega);go_wp2;go_ret;exact⟨zG.yes ⟨nA.out,aA.out⟩,zA jA hb⟩
   have pA:(k:Int)<(zm W:Int):=(by omega);obtain⟨g,cg,e,q0,q1,q2,q3,q4⟩:=(HM.out.zO9 hb).cells k bA;have mA:=(HM.out.zO9 hb).zPK k bA;obtain⟨-,ad,cd,lA,-,-⟩:=id mA;rw[lA]at q4 mA;cases e;have fA:=zC wr (.cells #[.int .i64 (zJ W k).zPH,.int .i64 (zJ W k).time,.int .i64 (zJ W k).rs,.int .i64 (zJ W k).rb,.slice ad (zJ W k).dn cd] 224);have HV:=zB (zCU.new wr (.int .i64 (zJ W k).zPH) (.int .i64 (zJ W k).time) (.int .i64 (zJ W k).rs) (.int .i64 (zJ W k).rb) (.slice ad (zJ W k).dn cd) 224);have gA:=zB ((sA.out.zO9 hb).zO9 fA);have tA:=zB (mA.zO9 fA);have eA:=zA hb fA;have rA:=zB (HA.out.zO9 (zA jA eA));have vA:=zB (Hp.out.zO9 (zA jA eA));have lB:=zB (kB.out k bA);have eB:=zB (nA.out k bA);have gB:=zB (zOg nA.out (zJ W k).zPH);have jB:=zB (fB.out (zJ W k).zPH);have iB:=zB (show zLe W k↔zHQ W (zJ W k) (zK W (zJ W k).zPH)from Iff.rfl);clear lA fA mA;generalize zJ W k=mk at *;go_wp2_with fail;clear q0 q1 q2 q3 q4;generalize wr.alloc (.cells #[.int .i64 mk.zPH,.int .i64 mk.time,.int .i64 mk.rs,.int .i64 mk.rb,.slice ad mk.dn cd] 224)=W2 at HV gA tA rA vA eA ⊢;generalize wr.heap.size=V at HV ⊢;obtain⟨⟨y0,-⟩,⟨y1,-⟩,⟨y2,-⟩,⟨y3,-⟩,⟨y4,-⟩⟩:=HV.out;obtain⟨⟨x0,-⟩,⟨x1,-⟩,⟨x2,-⟩,⟨x3,-⟩,⟨x4,-⟩,⟨x5,-⟩⟩:=gA.out;go_region_held3 (fun w'=>w'.cell? ⟨w.heap.size,0,none⟩=some v0/\w'.cell? ⟨w.heap.size,1,none⟩=some v1/\w'.cell? ⟨w.heap.size,2,none⟩=some (.int .i64 W.time)/\w'.cell? ⟨w.heap.size,3,none⟩=some (.int .i64 W.next)/\w'.cell? ⟨w.heap.size,4,none⟩=some v2/\w'.cell? ⟨w.heap.size,5,none⟩=some v3/\w'.cell? ⟨V,0,none⟩=some (.int .i64 mk.zPH)/\w'.cell? ⟨V,1,none⟩=some (.int .i64 mk.time)/\w'.cell? ⟨V,2,none⟩=some (.int .i64 mk.rs)/\w'.cell? ⟨V,3,none⟩=some (.int .i64 mk.rb)/\w'.cell? ⟨V,4,none⟩=some (.slice ad mk.dn cd)) (go_keep)
    (first
     | (go_at_call 190;refine(zA9 lo hi W A mk.zPH _ ?_ HD.out lB.out hp).mono ?_;(exact rA.out.zO9 (Below.refl _ _).drew);rintro e w6 ⟨aa,ca,rfl,mB,kA⟩;have dA:=zI kA;obtain⟨⟨k0,_⟩,⟨k1,_⟩,⟨k2,_⟩,⟨k3,_⟩,⟨k4,_⟩,⟨k5,_⟩⟩:=gA.out.zO9 dA;obtain⟨⟨l0,_⟩,⟨l1,_⟩,⟨l2,_⟩,⟨l3,_⟩,⟨l4,_⟩⟩:=HV.out.zO9 dA)
     | (go_at_call 225;refine(zF4 v0 v1 v2 v3 lo hi W mk (zK W mk.zPH) ad aa cd ca _ (vA.out.zO9 dA) HR.out eB.out gB.out (tA.out.zO9 dA) jB.out).mono ?_;rintro e w7 ⟨⟨t7,rfl,cB⟩,iA⟩;obtain⟨⟨f0,_⟩,⟨f1,_⟩,⟨f2,_⟩,⟨f3,_⟩,⟨f4,_⟩,⟨f5,_⟩⟩:=(gA.out.zO9 dA).zO9 iA;obtain⟨⟨g0,_⟩,⟨g1,_⟩,⟨g2,_⟩,⟨g3,_⟩,⟨g4,_⟩⟩:=(HV.out.zO9 dA).zO9 iA))
   have aB:=zA (zA eA dA) iA;have Ht:=zB (cB.trans iB.out.symm);clear cB iA dA kA mB k0 k1 k2 k3 k4 k5 l0 l1 l2 l3 l4 f0 f1 f2 f3 f4 f5 g0 g1 g2 g3 g4 x0 x1 x2 x3 x4 x5 y0 y1 y2 y3 y4;cases t7
   ·have Hn:=zB (show ¬zLe W k from fun hA=>absurd (Ht.out.2 hA) (by simp));clear Ht;go_wp2;go_ret;exact⟨zG.no fun hA=>Hn.out (hA.2 k bA),zA jA aB⟩
   ·have Hn:=zB (Ht.out.1 rfl);clear Ht;go_wp2;go_roundw
    case rel=>exact⟨k+1,by omega,by go_num,zr bA aA.out Hn.out,aB⟩
    case measure=>simp[intOf];omega
theorem zOH(s t:ByteArray):(s.toList == t.toList)=true↔s=t:=⟨fun h=>zM6 (by simpa using h),fun h=>zCS h⟩
theorem zMa(a:Option Addr)(c:Nat)(s:zY)(name:ByteArray)(T:Nat)(w:World)(hT:w.cell? ⟨T,0,none⟩=some (.string name)) :
  Calls Tryz.prog 230 #[qX (.slice a s.dn c) s,.pointer (some ⟨T,0,none⟩)] w fun e w'=>zG (s.set=name) e/\Below w.heap.size w w':=by
 unfold qX;have bA:=zC w (.cells #[.int .i64 s.id,.string s.name,.string s.set,.int .i64 s.zPH,.int .i64 s.time,.int .i64 s.rs,.int .i64 s.rb,.slice a s.dn c] 99);have cA:=(bA.cell (p:=⟨T,0,none⟩) (zD hT)).trans hT;obtain⟨⟨⟨y0,-⟩,⟨y1,-⟩,⟨y2,-⟩,⟨y3,-⟩⟩,-⟩:=yx.new w (.int .i64 s.id) (.string s.name) (.string s.set) (.int .i64 s.zPH) (.int .i64 s.time) (.int .i64 s.rs) (.int .i64 s.rb) (.slice a s.dn c) 99;clear hT;have aA:=zB (zOH s.set name);go_enter Tryz.func230,Tryz.ntmps230;go_wp2;go_ret;exact⟨⟨_,rfl,aA.out⟩,bA⟩
def zFO(w:World)(base:Nat)(v:Value)(n:Nat):Prop:=∃xs,w.ownsRow base 99 8 v n xs
theorem zFO.zO9{w w1:World}{base:Nat}{v:Value}{n:Nat}(h:zFO w base v n)(hb:Below w.heap.size w w1):zFO w1 base v n:=by
 obtain⟨xs,h⟩:=h;exact⟨xs,h.kept (yW hb none) (by cases v.ownBlock<;>simp)⟩
theorem zFO.lt{w:World}{base:Nat}{v:Value}{n:Nat}(h:zFO w base v n){q:Nat}(hq:v.ownBlock=some q):base<=q/\q<w.heap.size:=by
 obtain⟨xs,h⟩:=h;rcases h.2 with⟨rfl,_⟩ | ⟨g,cap,aA,rfl,hb,hg,_⟩
 ·simp[Value.ownBlock]at hq
 ·simp only[Value.ownBlock,Option.some.injEq]at hq;subst hq;exact⟨hb,(Array.getElem?_eq_some_iff.1 hg).1⟩
theorem zFO.zPF{w w1:World}{base:Nat}{v:Value}{n:Nat}{row:Option Nat}(h:zFO w base v n)(hg:w.grownBy w1 row)(aA:∀q,v.ownBlock=some q->row≠some q):zFO w1 base v n:=by
 obtain⟨xs,h⟩:=h;refine⟨xs,h.kept hg ?_⟩;cases hv:v.ownBlock with
 | none=>simp
 | some q=>exact Or.inr (fun e=>aA q hv e.symm)
theorem zMP:(Tryz.prog.info? 99).map (fun i=>(i.zero,i.size,i.bytes))=some (some (.agg #[.int .i64 0,.string ⟨#[]⟩,.string ⟨#[]⟩,.int .i64 0,.int .i64 0,.int .i64 0,.int .i64 0,.slice none 0 0]),8,96):=by kernel_rfl
def zO4(w w':World)(v v':Value)(n n':Nat):Prop:=zFO w' w.heap.size v n/\zFO w' w.heap.size v' n'/\(∀q,v.ownBlock=some q->v'.ownBlock≠some q)/\Below w.heap.size w w'
theorem zIT{w1 w2:World}{base g cap n n':Nat}{v v':Value}{xs:List Value}(h':zFO w1 base v' n')(ha:∀q,v.ownBlock=some q->v'.ownBlock≠some q)
  (aA:w2.ownsRow base 99 8 (.slice (some ⟨g,0,none⟩) (n+1) cap) (n+1) xs) (hg:w1.grownBy w2 v.ownBlock) (bA:v.ownBlock=some g\/g=w1.heap.size) :
  zFO w2 base (.slice (some ⟨g,0,none⟩) (n+1) cap) (n+1)/\zFO w2 base v' n'/\(∀q,(Value.slice (some ⟨g,0,none⟩) (n+1) cap).ownBlock=some q->v'.ownBlock≠some q):=by
 refine⟨⟨xs,aA⟩,h'.zPF hg (fun q hq e=>ha q e hq),fun q hq e=>?_⟩;simp only[Value.ownBlock,Option.some.injEq]at hq;subst hq;rcases bA with h | h
 ·exact ha _ h e
 ·have:=(h'.lt e).2;omega
theorem zJH(v:Value)(lo hi:Nat)(W:zE)(name:ByteArray)(T:Nat)(w:World)(h:qf w lo hi v W.pn W.zPD)(hn:W.pn<=20)(hT:w.cell? ⟨T,0,none⟩=some (.string name)) :
  Calls Tryz.prog 229 #[v,.func (.func 230) #[] #[.pointer (some ⟨T,0,none⟩)]] w fun e w'=>∃a c vo,e = .returned (.tuple #[.slice a (yH W name W.pn) c,vo])/\Below w.heap.size w w':=by
 have Hp:=zB h;have HT:=zB hT;obtain⟨m1,a,c,rfl,mc,-⟩:=id h;unfold maxLen at m1;clear h hT;obtain⟨i0,bB,rA⟩:=Option.map_eq_some_iff.1 zMP;simp only[Prod.mk.injEq]at rA;have HI:=zB (And.intro bB rA);clear bB rA;have jB:∀(fn:Fn) (first cap:Array Value) (w:World),(Instr.makeFunc fn first cap).run Tryz.prog w = .ok (.func fn first cap) w:=fun _ _ _ _=>rfl
 go_enter Tryz.func229,Tryz.ntmps229;go_wp2
 go_loopw [6,7,12] (fun vy vo i wr=>∃k:Nat,k<=W.pn/\i = .int .i64 k/\zO4 w wr vy vo (yH W name k) (k - yH W name k)) (fun _ _ i _=>W.pn - (intOf i).toNat)
 case atStart=>exact⟨0,Nat.zero_le _,rfl,⟨[],World.ownsRow_nil _ _ _ _⟩,⟨[],World.ownsRow_nil _ _ _ _⟩,fun q hq=>by simp[Value.ownBlock]at hq,Below.refl _ _⟩
 case round=>
  obtain⟨k,hk,rfl,hy,ho,aB,hb⟩:=hrel;have Hy:=zB hy;have Ho:=zB ho;have tA:=zB aB;have fB:=zGC W name k;clear hy ho aB;by_cases gB:k<W.pn
  ·have iB:(k:Int)<(W.pn:Int):=(by omega);obtain⟨b,off,vd,rfl,cA⟩:=(Hp.out.zO9 hb).cells gB;obtain⟨-,ad,cd,rfl,-,-⟩:=id cA.zPK;have jA:=zC wr (.cells #[.int .i64 (W.zPD k).id,.string (W.zPD k).name,.string (W.zPD k).set,.int .i64 (W.zPD k).zPH,.int .i64 (W.zPD k).time,.int .i64 (W.zPD k).rs,.int .i64 (W.zPD k).rb,.slice ad (W.zPD k).dn cd] 99);have HV:=zB (yx.new wr (.int .i64 (W.zPD k).id) (.string (W.zPD k).name) (.string (W.zPD k).set) (.int .i64 (W.zPD k).zPH) (.int .i64 (W.zPD k).time) (.int .i64 (W.zPD k).rs) (.int .i64 (W.zPD k).rb) (.slice ad (W.zPD k).dn cd) 99);have oA:=zA hb jA;have sA:=zB ((oA.cell (p:=⟨T,0,none⟩) (zD HT.out)).trans HT.out);have q0:=cA.c0;have q1:=cA.c1;have q2:=cA.c2;have q3:=cA.c3;have q4:=cA.c4;have q5:=cA.c5;have q6:=cA.c6;have q7:=cA.c7;obtain⟨⟨⟨y0,-⟩,⟨y1,-⟩,⟨y2,-⟩,⟨y3,-⟩⟩,⟨y4,-⟩,⟨y5,-⟩,⟨y6,-⟩,⟨y7,-⟩⟩:=HV.out;clear cA;go_wp2_with fail;clear q0 q1 q2 q3 q4 q5 q6 q7 y0 y1 y2 y3 y4 y5 y6 y7;refine(zMa ad cd (W.zPD k) name T _ sA.out).mono ?_;rintro e w1 ⟨⟨s,rfl,hs⟩,fA⟩;have eB:=zB ((Hy.out.zO9 jA).zO9 fA);have dB:=zB ((Ho.out.zO9 jA).zO9 fA);have cB:=zB (HV.out.zO9 fA);have vA:=zA oA fA;clear fA oA jA Hy Ho HV sA;have kB:=vA.size;obtain⟨⟨⟨y0,-⟩,⟨y1,-⟩,⟨y2,-⟩,⟨y3,-⟩⟩,⟨y4,-⟩,⟨y5,-⟩,⟨y6,-⟩,⟨y7,-⟩⟩:=cB.out;have gA:=zC w1 (.cells #[.int .i64 (W.zPD k).id,.string (W.zPD k).name,.string (W.zPD k).set,.int .i64 (W.zPD k).zPH,.int .i64 (W.zPD k).time,.int .i64 (W.zPD k).rs,.int .i64 (W.zPD k).rb,.slice ad (W.zPD k).dn cd] 99);have mA:=zB (eB.out.zO9 gA);have kA:=zB (dB.out.zO9 gA);have iA:=zA vA gA;have lB:=gA.size;have HN:=zB (World.news_of_block (heap_alloc_last w1 (.cells #[.int .i64 (W.zPD k).id,.string (W.zPD k).name,.string (W.zPD k).set,.int .i64 (W.zPD k).zPH,.int .i64 (W.zPD k).time,.int .i64 (W.zPD k).rs,.int .i64 (W.zPD k).rb,.slice ad (W.zPD k).dn cd] 99)));clear gA;by_cases hq:(W.zPD k).set=name
   ·obtain rfl:s=true:=hs.2 hq;have ey:=zB (zDZ hq);clear hs hq;obtain⟨xs,dA⟩:=mA.out;have lA:=zB dA;clear dA;go_wp2_with (first
     | (at_builtin;refine wpList_append_lies _ rfl _ _ 35 rfl w.heap.size 99 i0 (.agg #[.int .i64 0,.string ⟨#[]⟩,.string ⟨#[]⟩,.int .i64 0,.int .i64 0,.int .i64 0,.int .i64 0,.slice none 0 0]) 8 96 (by kernel_rfl) HI.out.1 HI.out.2.1 HI.out.2.2.1 HI.out.2.2.2 rfl (by decide) _ _ _ rfl lA.out ⟨w1.heap.size,0,none⟩ 1 1 [.int .i64 (W.zPD k).id,.string (W.zPD k).name,.string (W.zPD k).set,.int .i64 (W.zPD k).zPH,.int .i64 (W.zPD k).time,.int .i64 (W.zPD k).rs,.int .i64 (W.zPD k).rb,.slice ad (W.zPD k).dn cd] rfl rfl HN.out (by simp[Value.oneCell']) (by decide) (by unfold maxLen;omega) (by omega) (by omega) _ rfl ?_;intro g' nA w4 bA aA eA pA)
     | go_in)
    go_roundw
    case rel=>
     obtain⟨r1,r2,r3⟩:=zIT kA.out tA.out bA aA eA;refine⟨k+1,by omega,by go_num,by rw[ey.out];exact r1,?_,r3,iA.grown aA iA.size (fun q hq=>(mA.out.lt hq).1)⟩;rw[ey.out,show k+1 - (yH W name k+1)=k - yH W name k by omega];exact r2
    case measure=>simp[intOf];omega
   ·obtain rfl:s=false:=zW hs hq;have ey:=zB (zGD hq);clear hs hq;obtain⟨xs,dA⟩:=kA.out;have lA:=zB dA;clear dA;go_wp2_with (first
     | (at_builtin;refine wpList_append_lies _ rfl _ _ 35 rfl w.heap.size 99 i0 (.agg #[.int .i64 0,.string ⟨#[]⟩,.string ⟨#[]⟩,.int .i64 0,.int .i64 0,.int .i64 0,.int .i64 0,.slice none 0 0]) 8 96 (by kernel_rfl) HI.out.1 HI.out.2.1 HI.out.2.2.1 HI.out.2.2.2 rfl (by decide) _ _ _ rfl lA.out ⟨w1.heap.size,0,none⟩ 1 1 [.int .i64 (W.zPD k).id,.string (W.zPD k).name,.string (W.zPD k).set,.int .i64 (W.zPD k).zPH,.int .i64 (W.zPD k).time,.int .i64 (W.zPD k).rs,.int .i64 (W.zPD k).rb,.slice ad (W.zPD k).dn cd] rfl rfl HN.out (by simp[Value.oneCell']) (by decide) (by unfold maxLen;omega) (by omega) (by omega) _ rfl ?_;intro g' nA w4 bA aA eA pA)
     | go_in)
    go_roundw
    case rel=>
     obtain⟨r1,r2,r3⟩:=zIT mA.out (fun q h h'=>tA.out q h' h) bA aA eA;refine⟨k+1,by omega,by go_num,by rw[ey.out];exact r2,?_,fun q h h'=>r3 q h' h,iA.grown aA iA.size (fun q hq=>(kA.out.lt hq).1)⟩;rw[ey.out,show k+1 - yH W name k=k - yH W name k+1 by omega];exact r1
    case measure=>simp[intOf];omega
  ·obtain rfl:k=W.pn:=(by omega);obtain⟨xs,dA⟩:=Hy.out;obtain⟨ay,cy,rfl,-⟩:=za dA;clear dA;go_wp2
   go_ret2
   exact⟨ay,cy,_,rfl,hb⟩
theorem zL9{W:zE}{name:ByteArray}(aA:name.toList.isEmpty=false)(y:Int):(zK W y).set=name↔zEh W name y:=by
 constructor
 ·intro h;by_cases hx:∃k,qM W y k
  ·obtain⟨k,hk⟩:=hx;rw[qx hk]at h;exact⟨k,hk,h⟩
  ·have e:zK W y=yG:=(by unfold zK;rw[dif_neg hx]);rw[e]at h;rw[<-h]at aA;have h0:yG.set.toList = []:=(by rw[Go.ByteArray.toList_eq];rfl);rw[h0]at aA;exact absurd aA (by decide)
 ·rintro⟨k,hk,h⟩;rw[qx hk];exact h
theorem zBq.wf{W:zE}{name:ByteArray}{start:Int}{n:Nat}{y:Int}(h:zBq W name start n y):(Lit.int .i64 y).wf=true:=by
 have h1:=h.least;have h2:=h.sum;exact WalkArith.wf_i64 (by omega)
theorem zHh(v0 v1 v2 v3:Value)(lo hi:Nat)(W:zE)(A:Nat)(sa:Option Addr)(sc:Nat)(S:zv)(w:World)(h:zd w lo hi v0 v1 v2 v3 W)(hp:W.pn<=20)(hA:zAq w lo hi W A)(hD:yy W)(hP:zBX W)(cB:S.name.toList.isEmpty=false)(hS:S.zPH=0\/qD W S.zPH) :
  Calls Tryz.prog 224 #[zt v0 v1 v2 v3 W,zDC (.slice sa S.dn sc) S,zEJ A] w fun e w'=>zG (zAe W S.name S.zPH S.origin) e/\Below w.heap.size w w':=by
 unfold zDC;have Hp:=zB h;have HA:=zB hA;have HD:=zB hD;have HP:=zB hP;have cA:=zB (zL9 (W:=W) cB);have dB:=zB hS;clear h hA hD hP cB hS;have nB:∀(fn:Fn) (first cap:Array Value) (w:World),(Instr.makeFunc fn first cap).run Tryz.prog w = .ok (.func fn first cap) w:=fun _ _ _ _=>rfl
 have ha:=zC w (.cells #[v0,v1,.int .i64 W.time,.int .i64 W.next,v2,v3] 37);have hB:=zg.new w v0 v1 (.int .i64 W.time) (.int .i64 W.next) v2 v3 37;have hz:(w.alloc (.cells #[v0,v1,.int .i64 W.time,.int .i64 W.next,v2,v3] 37)).heap.size=w.heap.size+1:=World.size_alloc _ _;have nA:=zC (w.alloc (.cells #[v0,v1,.int .i64 W.time,.int .i64 W.next,v2,v3] 37)) (.cells #[.string S.name,.int .i64 S.origin,.int .i64 S.zPH,.int .i64 S.rs,.int .i64 S.rb,.slice sa S.dn sc] 67);have hT:=zg.new (w.alloc (.cells #[v0,v1,.int .i64 W.time,.int .i64 W.next,v2,v3] 37)) (.string S.name) (.int .i64 S.origin) (.int .i64 S.zPH) (.int .i64 S.rs) (.int .i64 S.rb) (.slice sa S.dn sc) 67;rw[hz]at hT;have HT:=zB hT;have iA:=zA ha nA;obtain⟨⟨x0,-⟩,⟨x2,-⟩,⟨x4,-⟩,⟨x6,-⟩,⟨x8,-⟩,⟨lB,-⟩⟩:=hB.zO9 nA;clear hT ha nA hB;go_enter Tryz.func224,Tryz.ntmps224;go_wp2_with fail;clear x0 x2 x4 x6 x8 lB;generalize (w.alloc (.cells #[v0,v1,.int .i64 W.time,.int .i64 W.next,v2,v3] 37)).alloc (.cells #[.string S.name,.int .i64 S.origin,.int .i64 S.zPH,.int .i64 S.rs,.int .i64 S.rb,.slice sa S.dn sc] 67)=W0 at HT iA ⊢;refine(zJH v3 lo hi W S.name (w.heap.size+1) W0 (Hp.out.zPD.zO9 iA) hp HT.out.1.1).mono ?_;rintro e w1 ⟨ay,cy,vo,rfl,oA⟩;have kA:=zB (HT.out.zO9 oA);have aB:=zA iA oA;have pB:=zGC W S.name W.pn;clear HT iA oA hz;obtain⟨⟨y0,-⟩,⟨y1,-⟩,⟨y2,-⟩,-⟩:=kA.out;go_wp2;clear y0 y1 y2;generalize w.heap.size+1=T at *
 go_loopw [9,10] (fun x i wr=>∃(n:Nat) (y:Int),i = .int .i64 n/\x = .int .i64 y/\zBq W S.name S.zPH n y/\zg wr T (.string S.name) (.int .i64 S.origin) (.int .i64 S.zPH) (.int .i64 S.rs) (.int .i64 S.rb) (.slice sa S.dn sc)/\Below w.heap.size w wr) (fun x _ _=>(intOf x).toNat)
 case atStart=>exact⟨0,_,rfl,rfl,zBq.start HP.out _ dB.out,kA.out,aB⟩
 case round=>
  clear kA aB;obtain⟨n,y,rfl,rfl,hw,hT,hb⟩:=hrel;have HT:=zB hT;have Hw:=zB hw;have mA:=zB hw.wf;have kB:=hw.sum;have mB:=hw.least;clear hT hw;have fA:=zB (HA.out.zO9 hb);obtain⟨⟨y0,-⟩,⟨y1,-⟩,-⟩:=HT.out;by_cases hq:(zK W y).set=S.name
  ·obtain⟨kk,dA,bB⟩:=(cA.out y).1 hq;have sA:=zB (Hw.out.next HP.out dA bB);have fB:=zB (show(W.zPD kk).zPH<y by have h1:=HP.out.less kk dA.1;have h2:=dA.2.1;omega);have iB:=zB (show(zK W y).zPH=(W.zPD kk).zPH by rw[qx dA]);have Hq:=zB hq;clear dA bB hq;go_wp2_with fail;go_region_held3 (fun w'=>w'.cell? ⟨T,0,none⟩=some (.string S.name)) (go_keep)
    (first | (go_at_call 190;refine(zA9 lo hi W A y _ ?_ HD.out mA.out hp).mono ?_;(exact fA.out.zO9 (Below.refl _ _).drew);rintro e w6 ⟨aa,ca,rfl,eA,aA⟩;have jA:=fun w=>(show(Instr.field 99 (qX (.slice aa (zK W y).dn ca) (zK W y)) 2).run Tryz.prog w = .ok (.string S.name) w by rw[<-Hq.out];exact(zCr (.slice aa (zK W y).dn ca) (zK W y) w).2.1);obtain⟨⟨z0,_⟩,_⟩:=HT.out.zO9 (zI aA)))
   have gA:=zB (HT.out.zO9 (zI aA));have bA:=qZ hb aA;have rA:=zB (HA.out.zO9 bA);have oB:(n:Int)<1000000:=(by omega);clear aA eA jA z0 y0 y1 HT fA hb;go_wp2_with fail;refine(zA9 lo hi W A y _ rA.out HD.out mA.out hp).mono ?_;rintro e w7 ⟨tA,vA,rfl,eA,pA⟩;have jA:=fun w=>(show(Instr.field 99 (qX (.slice tA (zK W y).dn vA) (zK W y)) 3).run Tryz.prog w = .ok (.int .i64 (W.zPD kk).zPH) w by rw[<-iB.out];exact(zCr (.slice tA (zK W y).dn vA) (zK W y) w).2.2.1)
   have eB:=zB (gA.out.zO9 pA);have jB:=zA bA pA;clear eA pA gA bA rA;go_wp2;go_roundw
   case rel=>exact⟨n+1,_,by go_num,rfl,sA.out,eB.out,jB⟩
   case measure=>simp[intOf];have:=fB.out;have:=sA.out.least;omega
  ·have gB:=zB (fun h=>hq ((cA.out y).2 h));have f1:=zEY hq;clear hq;go_wp2_with fail;go_region_held3 (fun w'=>w'.cell? ⟨T,0,none⟩=some (.string S.name)) (go_keep)
    (first | (go_at_call 190;refine(zA9 lo hi W A y _ ?_ HD.out mA.out hp).mono ?_;(exact fA.out.zO9 (Below.refl _ _).drew);rintro e w6 ⟨aa,ca,rfl,eA,aA⟩;have jA:=fun w=>(zCr (.slice aa (zK W y).dn ca) (zK W y) w).2.1;obtain⟨⟨z0,_⟩,_⟩:=HT.out.zO9 (zI aA)))
   have gA:=zB (HT.out.zO9 (zI aA));have bA:=qZ hb aA;clear aA eA jA z0 y0 y1 HT fA hb f1;obtain⟨⟨z0,-⟩,⟨z1,-⟩,-⟩:=gA.out;have lA:=zB (zB0 (origin:=S.origin) Hw.out.steps gB.out);by_cases h1:n=yH W S.name W.pn
   ·by_cases h2:y=S.origin
    ·have Hl:=zB (lA.out.2 ⟨h1,h2⟩);have g1:((n:Int) == (yH W S.name W.pn:Int))=true:=(by simp[h1]);have g2:(y == S.origin)=true:=(by simp[h2]);clear h1 h2;go_wp2;go_ret;exact⟨zG.yes Hl.out,bA⟩
    ·have Hl:=zB (fun h=>h2 (lA.out.1 h).2);have g1:((n:Int) == (yH W S.name W.pn:Int))=true:=(by simp[h1]);have g2:(y == S.origin)=false:=(by simp[h2]);clear h1 h2;go_wp2;go_ret;exact⟨zG.no Hl.out,bA⟩
   ·have Hl:=zB (fun h=>h1 (lA.out.1 h).1);have h3:¬(n:Int)=(yH W S.name W.pn:Int):=(by omega);have g1:((n:Int) == (yH W S.name W.pn:Int))=false:=(by simp[h3]);clear h1 h3;go_wp2;go_ret;exact⟨zG.no Hl.out,bA⟩
theorem zGi(v0 v1 v2 v3:Value)(lo hi:Nat)(W:zE)(A:Nat)(w:World)(h:zd w lo hi v0 v1 v2 v3 W)(hp:W.pn<=20)(hs:W.sn<=8)(hA:zAq w lo hi W A)(hD:yy W)(hP:zBX W) :
  Calls Tryz.prog 206 #[zt v0 v1 v2 v3 W,zEJ A] w fun e w'=>zG (∀i,i<W.sn->zAe W (W.zPG i).name (W.zPG i).zPH (W.zPG i).origin) e/\Below w.heap.size w w':=by
 have Hp:=zB h;have HA:=zB hA;have HD:=zB hD;have HP:=zB hP;obtain⟨m2,a',c',rfl,oA,-⟩:=id h.zPG;unfold maxLen at m2;clear h hA hD hP;have ha:=zC w (.cells #[v0,v1,.int .i64 W.time,.int .i64 W.next,.slice a' W.sn c',v3] 37);have HB:=zB (zg.new w v0 v1 (.int .i64 W.time) (.int .i64 W.next) (.slice a' W.sn c') v3 37);obtain⟨⟨x0,-⟩,⟨x2,-⟩,⟨x4,-⟩,⟨x6,-⟩,⟨x8,-⟩,⟨jA,-⟩⟩:=HB.out;go_enter Tryz.func206,Tryz.ntmps206;go_wp2;clear x0 x2 x4 x6 x8 jA
 go_loopw [10] (fun i wr=>∃k:Nat,k<=W.sn/\i = .int .i64 k/\(∀j,j<k->zAe W (W.zPG j).name (W.zPG j).zPH (W.zPG j).origin)/\zg wr w.heap.size v0 v1 (.int .i64 W.time) (.int .i64 W.next) (.slice a' W.sn c') v3/\Below w.heap.size w wr) (fun i _=>W.sn - (intOf i).toNat)
 case atStart=>exact⟨0,Nat.zero_le _,rfl,fun j hj=>absurd hj (Nat.not_lt_zero _),HB.out,ha⟩
 case round=>
  clear HB ha;obtain⟨k,hk,rfl,cA,hX,hb⟩:=hrel;have bA:=zB cA;have HX:=zB hX;clear cA hX;by_cases dA:k<W.sn;rotate_left
  ·obtain rfl:k=W.sn:=(by omega);go_wp2;go_ret;exact⟨zG.yes bA.out,hb⟩
  have nA:(k:Int)<(W.sn:Int):=(by omega);obtain⟨b,off,vd,rfl,aA⟩:=(Hp.out.zPG.zO9 hb).cells dA;obtain⟨-,ad,cd,rfl,-,-⟩:=id aA.zPK;have iA:=zC wr (.cells #[.string (W.zPG k).name,.int .i64 (W.zPG k).origin,.int .i64 (W.zPG k).zPH,.int .i64 (W.zPG k).rs,.int .i64 (W.zPG k).rb,.slice ad (W.zPG k).dn cd] 67);have HV:=zB (zg.new wr (.string (W.zPG k).name) (.int .i64 (W.zPG k).origin) (.int .i64 (W.zPG k).zPH) (.int .i64 (W.zPG k).rs) (.int .i64 (W.zPG k).rb) (.slice ad (W.zPG k).dn cd) 67);have fA:=zB (HX.out.zO9 iA);have eA:=zA hb iA;have q0:=aA.c0;have q1:=aA.c1;have q2:=aA.c2;have q3:=aA.c3;have q4:=aA.c4;have q5:=aA.c5;obtain⟨⟨y0,-⟩,⟨y1,-⟩,⟨y2,-⟩,⟨y3,-⟩,⟨y4,-⟩,⟨y5,-⟩⟩:=HV.out;obtain⟨⟨x0,-⟩,⟨x2,-⟩,⟨x4,-⟩,⟨x6,-⟩,⟨x8,-⟩,⟨jA,-⟩⟩:=fA.out;clear aA iA;go_wp2_with fail;clear q0 q1 q2 q3 q4 q5 y0 y1 y2 y3 y4 y5 x0 x2 x4 x6 x8 jA HX hb HV;refine(zHh v0 v1 _ v3 lo hi W A ad cd (W.zPG k) _ (Hp.out.zO9 eA) hp (HA.out.zO9 eA) HD.out HP.out (HP.out.zPL k dA) (HP.out.zPG k dA)).mono ?_;rintro e w6 ⟨⟨t6,rfl,lA⟩,gA⟩;have mA:=zB (fA.out.zO9 gA);have kA:=zA eA gA;have Ht:=zB lA;clear lA gA eA fA;cases t6
  ·have Hn:=zB (show ¬zAe W (W.zPG k).name (W.zPG k).zPH (W.zPG k).origin from fun hA=>absurd (Ht.out.2 hA) (by simp));clear Ht;go_wp2;go_ret;exact⟨zG.no fun hA=>Hn.out (hA k dA),kA⟩
  ·have Hn:=zB (Ht.out.1 rfl);clear Ht;go_wp2;go_roundw
   case rel=>exact⟨k+1,by omega,by go_num,zr dA bA.out Hn.out,mA.out,kA⟩
   case measure=>simp[intOf];omega
structure zCA (W:zE):Prop where
 time:zBM W.time 1 900000
 next:zBM W.next 1 900000
 zPG:zON W.sn W.zPG
 zPD:zMz W
structure yk (W:zE):Prop where
 zPL:zCA W
 right:qB W.zPE
 prevs:∀i,i<zm W->zGJ W i
 lines:∀i,i<W.sn->zAe W (W.zPG i).name (W.zPG i).zPH (W.zPG i).origin
 trees:zM0 W
 homes:zEg W
theorem zCA.range{W:zE}(h:zCA W):∀i,i<W.pn->1<=(W.zPD i).id/\(W.zPD i).id<W.next/\1<=(W.zPD i).time/\(W.zPD i).time<W.time
 | 0,hi=>by
  have:=(h.zPD.2.1 0 hi).2.2.2;have h1:Mid 0 (W.zPD 0).id W.next:=this.1;have h2:Mid 0 (W.zPD 0).time W.time:=this.2;have a1:=h1.1;have a2:=h1.2;have a3:=h2.1;have a4:=h2.2;omega
 | i+1,hi=>by
  have ih:=h.range i (by omega);have:=(h.zPD.2.1 (i+1) hi).2.2.2;have h1:Mid (W.zPD i).id (W.zPD (i+1)).id W.next:=this.1;have h2:Mid (W.zPD i).time (W.zPD (i+1)).time W.time:=this.2;have a1:=h1.1;have a2:=h1.2;have a3:=h2.1;have a4:=h2.2;omega
theorem zCA.rise{W:zE}(h:zCA W):∀i,i<W.pn->∀j,j<i->(W.zPD j).id<(W.zPD i).id
 | 0,_,j,hj=>absurd hj (Nat.not_lt_zero _)
 | i+1,hi,j,hj=>by
  have h1:Mid (W.zPD i).id (W.zPD (i+1)).id W.next:=(h.zPD.2.1 (i+1) hi).2.2.2.1;have a1:=h1.1;by_cases e:j=i
  ·subst e;exact a1
  ·have:=h.rise i (by omega) j (by omega);omega
theorem zCA.dist{W:zE}(h:zCA W):yy W:=fun i hi j hj e=>by have:=h.rise i hi j hj;omega
theorem zCA.idsWf{W:zE}(h:zCA W):zD3 W.pn W.zPD:=fun i hi=>by
 have h1:=h.range i hi;have h2:=h.next.2;exact WalkArith.wf_i64 (by omega)
theorem zCA.times{W:zE}(h:zCA W):zIh W:=fun x=>by
 by_cases hx:∃k,qM W x k
 ·obtain⟨k,hk⟩:=hx;rw[qx hk];have h1:=h.range k hk.1;have h2:=h.time.2;exact⟨by omega,by omega⟩
 ·have:zK W x=yG:=(by unfold zK;rw[dif_neg hx]);rw[this];exact⟨Int.le_refl _,by decide⟩
theorem zGr{W:zE}{i:Nat}(hp:zBn W):zGJ W i↔((zJ W i).zPH=0\/qD W (zJ W i).zPH):=by
 unfold zGJ;constructor
 ·intro h;by_cases hx:∃k,qM W (zJ W i).zPH k
  ·obtain⟨k,hk⟩:=hx;exact Or.inr ⟨k,hk.1,hk.2.1⟩
  ·have e:zK W (zJ W i).zPH=yG:=(by unfold zK;rw[dif_neg hx]);rw[e]at h;exact Or.inl h.symm
 ·rintro(h | h)
  ·rw[h,zEI (fun k hk e=>by have:=hp k hk;omega)];rfl
  ·obtain⟨k,hk⟩:=h.no;rw[qx hk];exact hk.2.1
theorem zCA.prevOk{W:zE}(h:zCA W)(hp:∀i,i<zm W->zGJ W i):zBX W where
 ids:=fun k hk=>by have h1:=h.range k hk;have h2:=h.next.2;omega
 zPH:=fun k hk=>by
  have:=(zGr (fun k hk=>(h.range k hk).1)).1 (hp k (by unfold zm;omega));rw[qA hk]at this;exact this
 less:=fun k hk=>(h.zPD.2.1 k hk).2.2.1
 zPG:=fun k hk=>by
  have:=(zGr (fun k hk=>(h.range k hk).1)).1 (hp (W.pn+k) (by unfold zm;omega));rw[qz]at this;exact this
 zPL:=fun k hk=>zCN (h.zPG.2 k hk).1
theorem zKV{W:zE}(h:zBX W){name:ByteArray}{start:Int}(hs:start=0\/qD W start):∀{n:Nat} {e:Int},zAD W name start n e->(e=0\/qD W e)
 | 0,_,.zero=>hs
 | n+1,_,.next (k:=k) _ hk _=>h.zPH k hk.1
theorem zGu{f:Nat->zv}{i:Nat}(hn:yE (f i).name):zCW (zDW f i) (f i).name↔(0<i->zCW (f (i - 1)).name (f i).name):=by
 cases i with
 | zero=>
  refine⟨fun _ h=>absurd h (by omega),fun _=>?_⟩;have aA:=zCN hn;unfold zCW zDW;have h0:(⟨#[]⟩:ByteArray).toList = []:=(by rw[Go.ByteArray.toList_eq]);rw[h0];cases hl:(f 0).name.toList with
  | nil=>rw[hl]at aA;exact absurd aA (by decide)
  | cons a l=>simp[Op.bytesLess]
 | succ i=>exact⟨fun h _=>h,fun h=>h (by omega)⟩
theorem zBK(W:zE):yk W↔zGN W:=by
 constructor
 ·intro h;have hP:=h.zPL.prevOk h.prevs;have hN:zAi W:=by
   refine⟨h.zPL.time,h.zPL.next,h.zPL.zPG.1,h.zPL.zPD.1,fun i hi=>?_,fun i hi=>?_⟩
   ·have hs:=h.zPL.zPG.2 i hi;refine⟨hs.1,(zGu hs.1).1 hs.2,fun hz=>(hP.zPG i hi).resolve_left hz,fun hz=>?_⟩;obtain⟨n,e,aA,_,_,rfl⟩:=h.lines i hi;exact(zKV hP (hP.zPG i hi) aA).resolve_left hz
   ·have hs:=h.zPL.zPD.2.1 i hi;have hr:=h.zPL.range i hi;refine⟨⟨hr.1,hr.2.1,hr.2.2.1,hr.2.2.2,hs.2.1,hs.1⟩,⟨fun h0=>?_,fun hz=>⟨hs.2.2.1,(hP.zPH i hi).resolve_left hz⟩⟩,fun k hk=>h.zPL.zPD.2.2 i hi k hk⟩;cases i with
    | zero=>omega
    | succ i=>exact⟨hs.2.2.2.1.1,hs.2.2.2.2.1⟩
  have hT:zAj W:=zHJ h.right hN (fun i hi=>by have:=h.trees.1 i (by unfold zm;omega);rw[qA hi]at this;exact this) (fun i hi=>by have:=h.trees.1 (W.pn+i) (by unfold zm;omega);rw[qz]at this;exact this);have hM:∀i,i<zm W->zHv W (zJ W i):=fun i hi=>(zGk hT hi).1 (h.trees.2 i hi)
  have hh:=(zH7 hT (fun j hj=>by have:=hP.pos j hj;omega) hM).1 h.homes;exact⟨h.right,hN,h.lines,fun i hi=>hT.snap hi,fun i hi=>⟨hT.set hi,(hM (W.pn+i) (by unfold zm;omega)).1⟩,fun i hi=>(hM i (by unfold zm;omega)).1,hh.1,fun i hi=>(hM i hi).2,hh.2⟩
 ·intro h;have hP:=h.zPL.prevOk;have hT:zAj W:=zHJ h.right h.zPL h.zPD (fun i hi=>(h.zPG i hi).1);have hM:∀i,i<zm W->zHv W (zJ W i):=fun i hi=>by
   refine⟨?_,h.born i hi⟩;by_cases hp:i<W.pn
   ·exact h.zPK i hp
   ·have:=(h.zPG (i - W.pn) (by unfold zm at hi;omega)).2;rw[show W.pn+(i - W.pn)=i by omega]at this;exact this
  have hh:=(zH7 hT (fun j hj=>by have:=hP.pos j hj;omega) hM).2 ⟨h.reach,h.zPJ⟩;refine⟨⟨h.zPL.1,h.zPL.2.1,⟨h.zPL.2.2.1,fun i hi=>?_⟩,⟨h.zPL.2.2.2.1,fun i hi=>?_,fun i hi k hk=>(h.zPL.2.2.2.2.2 i hi).2.2 k hk⟩⟩,h.right,fun i hi=>?_,h.lines,⟨hT.tree,fun i hi=>(zGk hT hi).2 (hM i hi)⟩,hh⟩
  ·have hs:=h.zPL.2.2.2.2.1 i hi;exact⟨hs.1,(zGu hs.1).2 hs.2.1⟩
  ·have hs:=h.zPL.2.2.2.2.2 i hi;refine⟨hs.1.2.2.2.2.2,hs.1.2.2.2.2.1,hP.less i hi,?_,?_⟩
   ·cases i with
    | zero=>exact⟨by have:=hs.1.1;show(0:Int)<_;omega,hs.1.2.1⟩
    | succ i=>exact⟨(hs.2.1.1 (by omega)).1,hs.1.2.1⟩
   ·cases i with
    | zero=>exact⟨by have:=hs.1.2.2.1;show(0:Int)<_;omega,hs.1.2.2.2.1⟩
    | succ i=>exact⟨(hs.2.1.1 (by omega)).2,hs.1.2.2.2.1⟩
  ·refine(zGr hP.pos).2 ?_;by_cases hp:i<W.pn
   ·rw[qA hp];exact hP.zPH i hp
   ·have e:=qz W (i - W.pn);rw[show W.pn+(i - W.pn)=i by omega]at e;rw[e];exact hP.zPG _ (by unfold zm at hi;omega)
open Go.ChangeMaps Go.MapKept
open Go.WideElems (Fit rd rg pl rd_val elemAt findIdx_arr findIdx_born modify_last set_self)
open Go.WideMaps (KeyLaw)
theorem zG4(w:World)(b:Nat)(o o':Obj):setBlock (setBlock w b o) b o'=setBlock w b o':=by simp[setBlock]
theorem zHn{w:World}{b:Nat}{o:Obj}(h:w.heap[b]?=some o):setBlock w b o=w:=by
 have e:w.heap.setIfInBounds b o=w.heap:=by
  apply Array.ext_getElem?;intro i;by_cases hi:i=b
  ·subst hi;rw[Array.getElem?_setIfInBounds_self_of_lt (Array.getElem?_eq_some_iff.1 h).1];exact h.symm
  ·rw[Array.getElem?_setIfInBounds_ne (fun e=>hi e.symm)]
 unfold setBlock;rw[e]
theorem zGY{w:World}{b:Nat}{es aA:Array MapEntry}{c c':Nat}(hb:w.heap[b]?=some (.map es c)):w.grownBy (setBlock w b (.map aA c')) (some b):=
 ⟨rfl,rfl,rfl,by simp[setBlock],fun i _ hi=>heap_setBlock_other hb _ (fun e=>hi (by rw[e]))⟩
theorem zH2{P:Program}{k e t:TypeId}{w:World}{b n:Nat}{D:DataW Value}(h:w.ownsMap P k zBV b n D)(K0:KeyLaw P k)(ht:P.underlying t=some (.map k e))(hn:n<maxLen){z:Value}(hz:∀u:World,(zeroValue e).run P u = .ok z u)
  {key val v:Value} {kl:Lit} (aA:keyOf P k key=some kl) (oA:D.atKey kl (.held z) = .held v) :
  ∃(v0:Value) (st:Nat) (w1 w2:World),(Instr.mapEntry t (.map (some b)) key).run P w = .ok (.tuple #[v0,goInt st]) w1/\(Instr.lookup t (.map (some b)) key false).run P w1 = .ok v w1/\(Instr.entryStore t (.map (some b)) (goInt st) val).run P w1 = .ok () w2/\w2.ownsMap P k zBV b (n+1) (D.put kl (.held val))/\w.grownBy w1 (some b)/\w.grownBy w2 (some b):=by
 have K:=Keyed.of_law K0;obtain⟨w',lA,fA,rA⟩:=h.update K ht hn aA (zA2 val);obtain⟨wz,kA,gA,iB⟩:=h.update K ht hn aA (zA2 z);have eA:=h.lookup K ht (hz w) (zA2 z) aA;obtain⟨es,bA,hb,F,hs,hD⟩:=h;obtain⟨v0,st,dA,c1,cA,jB,cB⟩:=WideElems.entry_then_store K0 ht hz hb F aA;have pA:(setBlock w b (.map dA c1)).heap[b]?=some (.map dA c1):=heap_setBlock_same hb _;obtain⟨nA,c2,bB,dB⟩:=cB _ val pA;have e2:setBlock (setBlock w b (.map dA c1)) b (.map nA c2)=w':=by
  rw[zG4];rw[dB]at lA;injection lA
 refine⟨v0,st,setBlock w b (.map dA c1),w',cA,?_,by rw[<-e2];exact bB,fA,zGY hb,rA⟩;obtain⟨v',ps,hl,eB⟩:=eA;have ev:v'=v:=by
  have e1:=zDb eB;rw[oA]at e1;injection e1 with e1;exact e1.symm
 subst ev
 suffices hh:∀ww:World,ww=setBlock w b (.map dA c1)->(Instr.lookup t (.map (some b)) key false).run P ww = .ok v' ww from hh _ rfl
 intro ww mA;rcases K0.find w aA es.toList F.keys with⟨h1,h2⟩ | ⟨j,e0,h1,h2,h3⟩
 ·-- it was not there: behind the entry it is there with the zero value
  have gB:setBlock w b (.map dA c1)=wz:=by
   have hm:(Instr.mapEntry t (.map (some b)) key).run P w = .ok (.tuple #[z,goInt bA]) (setBlock w b (.map (es.push ⟨key,z,bA⟩) (bA+1))):=by
    simp[Instr.mapEntry,run_underlying ht,MapKept.run_getObj_map hb,K0.check w false aA,h1,hz,MapKept.run_setObj_map _ hb,Result.andThen,setBlock]
   have hu:(Instr.mapUpdate t (.map (some b)) key z).run P w = .ok () (setBlock w b (.map (es.push ⟨key,z,bA⟩) (bA+1))):=by
    simp[Instr.mapUpdate,run_underlying ht,MapKept.run_getObj_map hb,K0.check w false aA,h1,MapKept.run_setObj_map _ hb,Result.andThen,setBlock]
   rw[cA]at hm;rw[kA]at hu;injection hm with _ hm;injection hu with _ hu;rw[hm,hu]
  obtain rfl:ww=wz:=mA.trans gB;obtain⟨v2,kB,vA,fB⟩:=gA.lookup K ht (hz _) (zA2 z) aA;have e3:=zDb fB;rw[atKey_put_same (show IsMap D from⟨_,hD⟩) (K.key aA)]at e3;replace e3:=DataW.held.inj e3;have e4:v'=z:=by
   have tA:(Instr.lookup t (.map (some b)) key false).run P w = .ok z w:=by
    rcases Maps.fit_look false K ht (hz w) hb F aA with⟨jA,_,_⟩ | ⟨e0,y,aB,sA,_,_,_,_⟩
    ·exact jA
    ·exact absurd sA (h2 e0 aB)
   rw[tA]at hl;injection hl with hl _;exact hl.symm
  subst e3;subst e4;exact vA
 ·-- it was there: the entry leaves the map as it was
  have hj:es[j]?=some e0:=(by simpa using h2);have iA:es.modify j (fun e=>{e with key:=key})=es:=by
   apply Array.ext';rw[Array.toList_modify,modify_eq_set _ _ _ _ h2];have:({e0 with key:=key}:MapEntry)=e0:=(by rw[<-h3]);rw[this];exact set_self _ _ _ h2
  have hm:(Instr.mapEntry t (.map (some b)) key).run P w = .ok (.tuple #[e0.val,goInt e0.born]) (setBlock w b (.map es bA)):=by
   simp[Instr.mapEntry,run_underlying ht,MapKept.run_getObj_map hb,K0.check w false aA,h1,hj,h3,K0.stays w aA,iA,MapKept.run_setObj_map _ hb,Result.andThen,setBlock]
  rw[cA,zHn hb]at hm;obtain rfl:ww=w:=mA.trans (Result.ok.inj hm).2;exact hl
end Go.Proofs.YtmgeglgboadfiaaGreatDoor
