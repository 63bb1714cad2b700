/- What impl.memberRight answers. -/
import Derived.Test.YtmgeglgboadfiaaGreatDoorT8
import Derived.WideKeyEntry
set_option linter.unusedVariables false
set_option maxRecDepth 20000
set_option maxHeartbeats 4000000
namespace Go.Proofs.YtmgeglgboadfiaaGreatDoor
open Go.RowKit Go.Maps
abbrev zRI(vd:Value)(m:zEp):Value:=.agg #[.int .i64 m.zRT,.int .i64 m.time,.int .i64 m.rs,.int .i64 m.rb,vd]
theorem zw.putNe{w:World}{base b:Nat}{v:Value}{l:List (Int×Int)}(h:zw w base v l)(hb:v.ownBlock≠some b)(o:Nat)(u:Value):zw (w.setCell ⟨b,o,none⟩ u) base v l:=by
 refine⟨h.1,h.2.imp id ?_⟩;rintro⟨g,bA,aA,e,h1,h2,h3⟩;subst e;exact⟨g,bA,aA,rfl,h1,(Below.heap_setCell _ _ _ _ (fun e=>hb (by simp[Value.ownBlock];exact e))).trans h2,h3⟩
def zIw(W:zH)(m:zEp)(S:zm):Prop:=m.rb<=m.time/\zDh (zAO (zR W.zRQ m.rs m.rb) S.time).length (zf (zAO (zR W.zRQ m.rs m.rb) S.time)) (zh (zAO (zR W.zRQ m.rs m.rb) S.time)) (zAP (zR W.zRQ m.rs m.rb) (zR W.zRQ S.rs S.rb))/\zDh m.dn m.ds m.db (zAP (zR W.zRQ S.rs S.rb) (qQ (zR W.zRQ m.rs m.rb) (zR W.zRQ S.rs S.rb)))
theorem zKJ(W:zH)(m:zEp)(S:zm):zIw W m S↔(m.rb<=m.time/\zEU (zAO (zR W.zRQ m.rs m.rb) S.time).length (zf (zAO (zR W.zRQ m.rs m.rb) S.time)) (zh (zAO (zR W.zRQ m.rs m.rb) S.time)) (zAP (zR W.zRQ m.rs m.rb) (zR W.zRQ S.rs S.rb)).length (zf (zAP (zR W.zRQ m.rs m.rb) (zR W.zRQ S.rs S.rb))) (zh (zAP (zR W.zRQ m.rs m.rb) (zR W.zRQ S.rs S.rb)))/\zEU m.dn m.ds m.db (zAP (zR W.zRQ S.rs S.rb) (qQ (zR W.zRQ m.rs m.rb) (zR W.zRQ S.rs S.rb))).length (zf (zAP (zR W.zRQ S.rs S.rb) (qQ (zR W.zRQ m.rs m.rb) (zR W.zRQ S.rs S.rb)))) (zh (zAP (zR W.zRQ S.rs S.rb) (qQ (zR W.zRQ m.rs m.rb) (zR W.zRQ S.rs S.rb))))):=Iff.rfl
theorem zIF(l:List (Int×Int))(t:Int):∀k,k<=l.length->qd (zf l) (zh l) t k=zAO (l.take k) t
 | 0,_=>by simp[qd,zAO]
 | k+1,hk=>by
  have aA:k<l.length:=(by omega);unfold qd;rw[zIF l t k (by omega)];unfold zAO;rw[List.take_succ_eq_append_getElem aA,List.filter_append,List.filter_cons];simp only[List.filter_nil];unfold zf zh;rw[yE aA];by_cases h:t<(l[k]).2
  ·rw[if_pos h,if_pos (by simpa using h)]
  ·rw[if_neg h,if_neg (by simpa using h),List.append_nil]
theorem zFh(l:List (Int×Int))(t:Int):qd (zf l) (zh l) t l.length=zAO l t:=by
 rw[zIF l t _ (Nat.le_refl _),List.take_length]
theorem zDc(v v':Value)(w:World):(Instr.field 201 (.agg #[v,v']) 0).run Tryz.prog w = .ok v w:=by kernel_rfl
theorem zHB(v0 v1 v2 v3:Value)(lo hi:Nat)(W:zH)(m:zEp)(S:zm)(ad sa:Option Addr)(cd sc:Nat)(w:World)(h:zl w lo hi v0 v1 v2 v3 W)(hR:zv W.zRQ)(gE:qG W.zRQ m.rs m.rb)(lE:qG W.zRQ S.rs S.rb)(hD:zU w lo hi (.slice ad m.dn cd) m.dn m.ds m.db)(ht:zB3 S.time) :
  Calls Tryz.prog 225 #[zz v0 v1 v2 v3 W,zRI (.slice ad m.dn cd) m,ye (.slice sa S.dn sc) S] w fun e w'=>zG (zIw W m S) e/\Below w.heap.size w w':=by
 unfold ye;have Hp:=zB h;have HR:=zB hR;have pB:=zB gE;have bD:=zB lE;have tD:=zB hD;have oD:=zB ht;clear h hR gE lE hD ht;have iE:∀Wa Wb Wc:World,Wa=w.alloc (.cells #[v0,v1,.int .i64 W.time,.int .i64 W.next,v2,v3] 37)->Wb=Wa.alloc (.cells #[.int .i64 m.zRT,.int .i64 m.time,.int .i64 m.rs,.int .i64 m.rb,.slice ad m.dn cd] 224)->Wc=Wb.alloc (.cells #[.int .i64 S.id,.string S.name,.string S.set,.int .i64 S.zRT,.int .i64 S.time,.int .i64 S.rs,.int .i64 S.rb,.slice sa S.dn sc] 99)->zi Wc w.heap.size v0 v1 (.int .i64 W.time) (.int .i64 W.next) v2 v3/\zEV Wc (w.heap.size+1) (.int .i64 m.zRT) (.int .i64 m.time) (.int .i64 m.rs) (.int .i64 m.rb) (.slice ad m.dn cd)/\zCH Wc (w.heap.size+2) (.int .i64 S.id) (.string S.name) (.string S.set) (.int .i64 S.zRT) (.int .i64 S.time) (.int .i64 S.rs) (.int .i64 S.rb) (.slice sa S.dn sc)/\Below w.heap.size w Wc:=by
  rintro Wa Wb Wc ea eb ec;have ha:=zC w (.cells #[v0,v1,.int .i64 W.time,.int .i64 W.next,v2,v3] 37);have h1:=zi.zRL w v0 v1 (.int .i64 W.time) (.int .i64 W.next) v2 v3 37;have z1:Wa.heap.size=w.heap.size+1:=(by rw[ea];exact World.size_alloc _ _);rw[<-ea]at ha h1;have hb:=zC Wa (.cells #[.int .i64 m.zRT,.int .i64 m.time,.int .i64 m.rs,.int .i64 m.rb,.slice ad m.dn cd] 224);have h2:=zEV.zRL Wa (.int .i64 m.zRT) (.int .i64 m.time) (.int .i64 m.rs) (.int .i64 m.rb) (.slice ad m.dn cd) 224;have z2:Wb.heap.size=w.heap.size+2:=(by rw[eb,World.size_alloc,z1]);rw[<-eb,z1]at h2;rw[<-eb]at hb;have hc:=zC Wb (.cells #[.int .i64 S.id,.string S.name,.string S.set,.int .i64 S.zRT,.int .i64 S.time,.int .i64 S.rs,.int .i64 S.rb,.slice sa S.dn sc] 99);have h3:=zCH.zRL Wb (.int .i64 S.id) (.string S.name) (.string S.set) (.int .i64 S.zRT) (.int .i64 S.time) (.int .i64 S.rs) (.int .i64 S.rb) (.slice sa S.dn sc) 99;rw[<-ec,z2]at h3;rw[<-ec]at hc;exact⟨(h1.zRJ hb).zRJ hc,h2.zRJ hc,h3,zA (zA ha hb) hc⟩
 obtain⟨hx,hm,eE,gC⟩:=iE _ _ _ rfl rfl rfl;have sA:=zB hx;have pA:=zB hm;have rA:=zB eE;clear hx hm eE iE;go_enter Tryz.func225,Tryz.ntmps225;go_wp2_with fail;generalize ((w.alloc (.cells #[v0,v1,.int .i64 W.time,.int .i64 W.next,v2,v3] 37)).alloc (.cells #[.int .i64 m.zRT,.int .i64 m.time,.int .i64 m.rs,.int .i64 m.rb,.slice ad m.dn cd] 224)).alloc (.cells #[.int .i64 S.id,.string S.name,.string S.set,.int .i64 S.zRT,.int .i64 S.time,.int .i64 S.rs,.int .i64 S.rb,.slice sa S.dn sc] 99)=W0 at sA pA rA gC ⊢;obtain⟨⟨x0,-⟩,⟨x1,-⟩,⟨x2,-⟩,⟨x3,-⟩,⟨x4,-⟩,⟨x5,-⟩⟩:=sA.out;obtain⟨-,-,⟨y2,-⟩,⟨y3,-⟩,-⟩:=pA.out;obtain⟨-,-,⟨z5,-⟩,⟨z6,-⟩,-⟩:=rA.out;refine wp_region_held_drew (S:=(fun w'=>w'.cell? ⟨w.heap.size,0,none⟩=some v0/\w'.cell? ⟨w.heap.size,1,none⟩=some v1/\w'.cell? ⟨w.heap.size,2,none⟩=some (.int .i64 W.time)/\w'.cell? ⟨w.heap.size,3,none⟩=some (.int .i64 W.next)/\w'.cell? ⟨w.heap.size,4,none⟩=some v2/\w'.cell? ⟨w.heap.size,5,none⟩=some v3/\w'.cell? ⟨w.heap.size+1,2,none⟩=some (.int .i64 m.rs)/\w'.cell? ⟨w.heap.size+1,3,none⟩=some (.int .i64 m.rb)/\w'.cell? ⟨w.heap.size+2,5,none⟩=some (.int .i64 S.rs)/\w'.cell? ⟨w.heap.size+2,6,none⟩=some (.int .i64 S.rb))) (by kernel_rfl) ?_ (fun hHeld=>?_)
 ·(try dsimp only)
  go_keep
 have jD:Below W0.heap.size W0 W0.drew:=(Below.refl _ _).drew;have rE:W0.drew.heap.size=W0.heap.size:=rfl;refine tk 0 (h:=tk 1 (h:=tk 2 (h:=tk 4 (h:=tk 5 (h:=tk 6 (h:=?_))))));refine rd [3,8] (rc (fun K hK=>?_) (rc (fun K hK=>?_) .nil))
 ·go_simp;go_at_call 226;refine(zBn v0 v1 v2 v3 lo hi W m.rs m.rb _ ?_ HR.out pB.out).mono ?_
  ·exact Hp.out.zRJ (zA gC jD)
  rintro e w1 ⟨vt,rfl,kC,mB⟩;obtain⟨mD,lD,rfl,-⟩:=zW kC;have fB:Below W0.heap.size W0 w1:=zA jD mB;obtain⟨⟨k0,_⟩,⟨k1,_⟩,⟨k2,_⟩,⟨k3,_⟩,⟨k4,_⟩,⟨k5,_⟩⟩:=sA.out.zRJ fB;obtain⟨_,_,⟨l2,_⟩,⟨l3,_⟩,_⟩:=pA.out.zRJ fB;obtain⟨_,_,⟨n5,_⟩,⟨n6,_⟩,_⟩:=rA.out.zRJ fB
  (try go_wp2_with fail)
  refine hK.out _ _ (by(try dsimp only);go_keep) ?_;clear hK K hHeld;intro hHeld
  try simp only[Act.put,s1,s2,s3]
  refine rd [7,8] (rc (fun K hK=>?_) (rc (fun K hK=>?_) .nil))
  ·go_simp;go_at_call 226;refine(zBn v0 v1 v2 v3 lo hi W S.rs S.rb _ ?_ HR.out bD.out).mono ?_
   ·exact Hp.out.zRJ (zA gC fB)
   rintro e w2 ⟨va,rfl,eC,gA⟩;obtain⟨av,cv,rfl,-⟩:=zW eC;have mA:Below W0.heap.size W0 w2:=zA fB gA;obtain⟨⟨k0,_⟩,⟨k1,_⟩,⟨k2,_⟩,⟨k3,_⟩,⟨k4,_⟩,⟨k5,_⟩⟩:=sA.out.zRJ mA;obtain⟨_,_,⟨l2,_⟩,⟨l3,_⟩,_⟩:=pA.out.zRJ mA;obtain⟨_,_,⟨n5,_⟩,⟨n6,_⟩,_⟩:=rA.out.zRJ mA
   (try go_wp2_with fail)
   refine hK.out _ _ (by(try dsimp only);go_keep) ?_;clear hK K hHeld;intro hHeld
   try simp only[Act.put,s1,s2,s3]
   refine rd [8] (rc (fun K hK=>?_) .nil);go_simp;have aD:=zC w2 (.cells #[.slice none 0 0] 62);have aB:Below W0.heap.size W0 (w2.alloc (.cells #[.slice none 0 0] 62)):=zA mA aD;have cD:zX (w2.alloc (.cells #[.slice none 0 0] 62)) w2.heap.size 0 (.slice none 0 0):=zI (heap_alloc_new _ _) rfl;obtain⟨⟨k0,_⟩,⟨k1,_⟩,⟨k2,_⟩,⟨k3,_⟩,⟨k4,_⟩,⟨k5,_⟩⟩:=sA.out.zRJ aB;obtain⟨_,_,⟨l2,_⟩,⟨l3,_⟩,_⟩:=pA.out.zRJ aB;obtain⟨_,_,⟨n5,_⟩,⟨n6,_⟩,_⟩:=rA.out.zRJ aB
   (try go_wp2_with fail)
   refine hK.out _ _ (by(try dsimp only);go_keep) ?_;clear hK K hHeld;intro hHeld
   try simp only[Act.put,s1,s2,s3]
   refine tk 9 (h:=?_);refine rd [10] (rc (fun K hK=>?_) .nil);go_simp;have fC:=zC w2 (.cells #[.slice av (zR W.zRQ S.rs S.rb).length cv] 62);have bA:Below W0.heap.size W0 (w2.alloc (.cells #[.slice av (zR W.zRQ S.rs S.rb).length cv] 62)):=zA mA fC;obtain⟨⟨k0,_⟩,⟨k1,_⟩,⟨k2,_⟩,⟨k3,_⟩,⟨k4,_⟩,⟨k5,_⟩⟩:=sA.out.zRJ bA;obtain⟨_,_,⟨l2,_⟩,⟨l3,_⟩,_⟩:=pA.out.zRJ bA;obtain⟨_,_,⟨n5,_⟩,⟨n6,_⟩,_⟩:=rA.out.zRJ bA
   (try go_wp2_with fail)
   refine hK.out _ _ (by(try dsimp only);go_keep) ?_;clear hK K hHeld;intro hHeld
   try simp only[Act.put,s1,s2,s3]
   refine wpAnyH_done (by kernel_rfl) ?_ _;have lA:=zB (show zX (w2.alloc (.cells #[.slice av (zR W.zRQ S.rs S.rb).length cv] 62)) w2.heap.size 0 (.slice av (zR W.zRQ S.rs S.rb).length cv)from zI (heap_alloc_new _ _) rfl);have vA:=zB (((kC.zRJ gA).zRJ fC).mono (Nat.zero_le _));have eB:=zB ((eC.zRJ fC).mono (Nat.zero_le _));clear aD cD aB fC;have vC:=zB (sA.out.zRJ bA);have bC:=zB (pA.out.zRJ bA);have cC:=zB (rA.out.zRJ bA);have gB:=zA gC bA;clear bA hHeld
   as_aux_lemma=>
   generalize (w2.alloc (.cells #[.slice av (zR W.zRQ S.rs S.rb).length cv] 62))=wz at lA vA eB vC bC cC gB ⊢;generalize w2.heap.size=T at lA ⊢;have pE:=qP W.zRQ m.rs m.rb;have fE:=qP W.zRQ S.rs S.rb;have dD:=zB (show qx (zR W.zRQ m.rs m.rb).length (zf (zR W.zRQ m.rs m.rb)) (zh (zR W.zRQ m.rs m.rb))from zBJ HR.out (fun x hx=>(zAX HR.out pB.out hx).1) (zAe HR.out pB.out) (by omega));have tA:=zB (zKJ W m S);clear pB bD HR Hp vC;generalize zR W.zRQ m.rs m.rb=tree at *;generalize zR W.zRQ S.rs S.rb=old at *;have nE:(qQ tree old).length<=tree.length:=List.length_filter_le _ _;have cE:(zAP tree old).length<=tree.length:=List.length_filter_le _ _;have jE:(zAP old (qQ tree old)).length<=old.length:=List.length_filter_le _ _;have oE:(zAO tree S.time).length<=tree.length:=List.length_filter_le _ _;have mE:∀(fn:Fn) (first iC:Array Value) (w:World),(Instr.makeFunc fn first iC).run Tryz.prog w = .ok (.func fn first iC) w:=fun _ _ _ _=>rfl
   go_wp2_with fail;refine(zC3 _ _ 0 _ 0 _ T tree old wz (vA.out.atW (by omega)) (by omega) (eB.out.atW (by omega)) lA.out.1).mono ?_;rintro e w3 ⟨vk,vo,rfl,iB,nB,-,eA⟩;obtain⟨ak,ck,rfl,-⟩:=zW iB;obtain⟨ao,co,rfl,-⟩:=zW nB;have aA:=zC w3 (.cells #[.slice ak (qQ tree old).length ck] 62);have dA:=zB ((lA.out.zRJ eA).zRJ aA);have fA:=zB ((vA.out.zRJ eA).zRJ aA);have cA:=zB ((eB.out.zRJ eA).zRJ aA);have vB:=zB (iB.zRJ aA);have sB:=zB (nB.zRJ aA);have rB:=zB ((bC.out.zRJ eA).zRJ aA);have jB:=zB ((cC.out.zRJ eA).zRJ aA);have bB:=zB (show zX (w3.alloc (.cells #[.slice ak (qQ tree old).length ck] 62)) w3.heap.size 0 (.slice ak (qQ tree old).length ck)from zI (heap_alloc_new _ _) rfl);have kB:=zA (zA gB eA) aA;clear iB nB eA aA lA vA eB bC cC gB;obtain⟨c0,-⟩:=dA.out;go_wp2_with fail;clear c0;generalize w3.alloc (.cells #[.slice ak (qQ tree old).length ck] 62)=w4 at dA fA cA vB sB rB jB bB kB ⊢;generalize w3.heap.size=T9 at bB ⊢;refine(zDa _ _ 0 _ 0 _ T9 old (qQ tree old) w4 (cA.out.atW (by omega)) (by omega) (vB.out.atW (by omega)) bB.out.1).mono ?_;rintro e w5 ⟨vx,bE,rfl,-,dC,-,iA⟩;obtain⟨dE,kE,rfl,-⟩:=zW dC;have nA:=zB (fA.out.zRJ iA);have mC:=zB (sB.out.zRJ iA);have pC:=zB (rB.out.zRJ iA);have jC:=zB (jB.out.zRJ iA);have kA:=zB dC;have lC:=zA kB iA;clear dC iA dA fA cA vB sB rB jB bB kB;obtain⟨-,⟨c4,-⟩,-⟩:=jC.out;go_wp2_with fail;clear c4;refine(zA1 _ tree.length 0 _ (zf tree) (zh tree) S.time w5 (nA.out.atW (by omega))).mono ?_;rintro e w6 ⟨vy,vz,ly,lz,rfl,hY,-,hy,-,-,oA⟩;rw[(hY.1 ⟨dD.out,oD.out⟩).trans (zFh tree S.time)]at hy;have eD:∀w,(Instr.field 201 (.agg #[vy,vz]) 0).run Tryz.prog w = .ok vy w:=zDc vy vz;have nC:=zB hy;have sC:=zB (mC.out.zRJ oA);have tB:=zB (pC.out.zRJ oA);have jA:=zB (kA.out.zRJ oA);have oB:=zA lC oA;clear hY hy oA nA mC pC jC kA lC;obtain⟨-,⟨c1,-⟩,-,⟨c3,-⟩,⟨c5,-⟩⟩:=tB.out;by_cases h1:m.rb<=m.time;rotate_left
   ·have Hn:=zB (show ¬zIw W m S from fun h=>h1 (tA.out.1 h).1);go_wp2;go_ret;exact⟨zG.no Hn.out,oB⟩
   have H1:=zB h1;go_wp2_with fail;clear h1 c1 c3 c5 eD;refine(yh _ _ _ 0 _ _ 0 _ _ _ _ _ w6 (nC.out.atW (by omega)) (sC.out.atW (by omega))).mono ?_;rintro e w7 ⟨⟨t7,rfl,tC⟩,dB⟩;have gD:=zB (tB.out.zRJ dB);have lB:=zB (jA.out.zRJ dB);have aC:=zA oB dB;have cB:=zB tC;clear tC dB nC sC tB jA oB;obtain⟨-,⟨c1,-⟩,-,⟨c3,-⟩,⟨c5,-⟩⟩:=gD.out;cases t7
   ·have Hn:=zB (show ¬zIw W m S from fun h=>absurd (cB.out.2 (tA.out.1 h).2.1) (by simp));clear cB;go_wp2;go_ret;exact⟨zG.no Hn.out,aC⟩
   have H2:=zB (cB.out.1 rfl);clear cB;go_wp2_with fail;clear c1 c3 c5;refine(yh _ _ _ lo hi _ 0 _ _ _ _ _ w7 (tD.out.zRJ aC) (lB.out.atW (by omega))).mono ?_;rintro e w8 ⟨⟨t8,rfl,oC⟩,rC⟩;have fD:=zB (oC.trans ⟨fun h=>tA.out.2 ⟨H1.out,H2.out,h⟩,fun h=>(tA.out.1 h).2.2⟩);have iD:=zA aC rC;clear oC rC;go_wp2;go_ret;exact⟨⟨t8,rfl,fD.out⟩,iD⟩
  ·go_simp;have aD:=zC w1 (.cells #[.slice none 0 0] 62);have mA:Below W0.heap.size W0 (w1.alloc (.cells #[.slice none 0 0] 62)):=zA fB aD;have cD:zX (w1.alloc (.cells #[.slice none 0 0] 62)) w1.heap.size 0 (.slice none 0 0):=zI (heap_alloc_new _ _) rfl;obtain⟨⟨k0,_⟩,⟨k1,_⟩,⟨k2,_⟩,⟨k3,_⟩,⟨k4,_⟩,⟨k5,_⟩⟩:=sA.out.zRJ mA;obtain⟨_,_,⟨l2,_⟩,⟨l3,_⟩,_⟩:=pA.out.zRJ mA;obtain⟨_,_,⟨n5,_⟩,⟨n6,_⟩,_⟩:=rA.out.zRJ mA
   (try go_wp2_with fail)
   refine hK.out _ _ (by(try dsimp only);go_keep) ?_;clear hK K hHeld;intro hHeld
   try simp only[Act.put,s1,s2,s3]
   refine rd [7] (rc (fun K hK=>?_) .nil);go_simp;go_at_call 226;refine(zBn v0 v1 v2 v3 lo hi W S.rs S.rb _ ?_ HR.out bD.out).mono ?_
   ·exact Hp.out.zRJ (zA gC mA)
   rintro e w2 ⟨va,rfl,eC,gA⟩;obtain⟨av,cv,rfl,-⟩:=zW eC;have aB:Below W0.heap.size W0 w2:=zA mA gA;obtain⟨⟨k0,_⟩,⟨k1,_⟩,⟨k2,_⟩,⟨k3,_⟩,⟨k4,_⟩,⟨k5,_⟩⟩:=sA.out.zRJ aB;obtain⟨_,_,⟨l2,_⟩,⟨l3,_⟩,_⟩:=pA.out.zRJ aB;obtain⟨_,_,⟨n5,_⟩,⟨n6,_⟩,_⟩:=rA.out.zRJ aB
   (try go_wp2_with fail)
   refine hK.out _ _ (by(try dsimp only);go_keep) ?_;clear hK K hHeld;intro hHeld
   try simp only[Act.put,s1,s2,s3]
   refine tk 9 (h:=?_);have aE:=cD.zRJ gA;have vD:=(kC.zRJ aD).zRJ gA;have sD:(w1.alloc (.cells #[.slice none 0 0] 62)).heap.size=w1.heap.size+1:=World.size_alloc _ _;have nD:Value.ownBlock (.slice mD (zR W.zRQ m.rs m.rb).length lD)≠some w1.heap.size:=fun e=>by have:=(kC.lt e).2;omega
   have rD:Value.ownBlock (.slice av (zR W.zRQ S.rs S.rb).length cv)≠some w1.heap.size:=fun e=>by have:=(eC.lt e).1;omega
   have tE:=fB.size;obtain⟨kD,pD⟩:=aE;refine rd [10] (rc (fun K hK=>?_) .nil);go_simp;have bA:Below W0.heap.size W0 (w2.setCell ⟨w1.heap.size,0,none⟩ (.slice av (zR W.zRQ S.rs S.rb).length cv)):=aB.setCell (show W0.heap.size<=w1.heap.size by omega) _;obtain⟨⟨k0,_⟩,⟨k1,_⟩,⟨k2,_⟩,⟨k3,_⟩,⟨k4,_⟩,⟨k5,_⟩⟩:=sA.out.zRJ bA;obtain⟨_,_,⟨l2,_⟩,⟨l3,_⟩,_⟩:=pA.out.zRJ bA;obtain⟨_,_,⟨n5,_⟩,⟨n6,_⟩,_⟩:=rA.out.zRJ bA
   (try go_wp2_with fail)
   refine hK.out _ _ (by(try dsimp only);go_keep) ?_;clear hK K hHeld;intro hHeld
   try simp only[Act.put,s1,s2,s3]
   refine wpAnyH_done (by kernel_rfl) ?_ _;have lA:=zB (show zX (w2.setCell ⟨w1.heap.size,0,none⟩ (.slice av (zR W.zRQ S.rs S.rb).length cv)) w1.heap.size 0 (.slice av (zR W.zRQ S.rs S.rb).length cv)from zX.set ⟨kD,pD⟩ _);have vA:=zB ((vD.putNe nD 0 (.slice av (zR W.zRQ S.rs S.rb).length cv)).mono (Nat.zero_le _));have eB:=zB ((eC.putNe rD 0 (.slice av (zR W.zRQ S.rs S.rb).length cv)).mono (Nat.zero_le _));have vC:=zB (sA.out.zRJ bA);have bC:=zB (pA.out.zRJ bA);have cC:=zB (rA.out.zRJ bA);have gB:=zA gC bA;clear bA hHeld
   as_aux_lemma=>
   generalize (w2.setCell ⟨w1.heap.size,0,none⟩ (.slice av (zR W.zRQ S.rs S.rb).length cv))=wz at lA vA eB vC bC cC gB ⊢;generalize w1.heap.size=T at lA ⊢;have pE:=qP W.zRQ m.rs m.rb;have fE:=qP W.zRQ S.rs S.rb;have dD:=zB (show qx (zR W.zRQ m.rs m.rb).length (zf (zR W.zRQ m.rs m.rb)) (zh (zR W.zRQ m.rs m.rb))from zBJ HR.out (fun x hx=>(zAX HR.out pB.out hx).1) (zAe HR.out pB.out) (by omega));have tA:=zB (zKJ W m S);clear pB bD HR Hp vC;generalize zR W.zRQ m.rs m.rb=tree at *;generalize zR W.zRQ S.rs S.rb=old at *;have nE:(qQ tree old).length<=tree.length:=List.length_filter_le _ _;have cE:(zAP tree old).length<=tree.length:=List.length_filter_le _ _;have jE:(zAP old (qQ tree old)).length<=old.length:=List.length_filter_le _ _;have oE:(zAO tree S.time).length<=tree.length:=List.length_filter_le _ _;have mE:∀(fn:Fn) (first iC:Array Value) (w:World),(Instr.makeFunc fn first iC).run Tryz.prog w = .ok (.func fn first iC) w:=fun _ _ _ _=>rfl
   go_wp2_with fail;refine(zC3 _ _ 0 _ 0 _ T tree old wz (vA.out.atW (by omega)) (by omega) (eB.out.atW (by omega)) lA.out.1).mono ?_;rintro e w3 ⟨vk,vo,rfl,iB,nB,-,eA⟩;obtain⟨ak,ck,rfl,-⟩:=zW iB;obtain⟨ao,co,rfl,-⟩:=zW nB;have aA:=zC w3 (.cells #[.slice ak (qQ tree old).length ck] 62);have dA:=zB ((lA.out.zRJ eA).zRJ aA);have fA:=zB ((vA.out.zRJ eA).zRJ aA);have cA:=zB ((eB.out.zRJ eA).zRJ aA);have vB:=zB (iB.zRJ aA);have sB:=zB (nB.zRJ aA);have rB:=zB ((bC.out.zRJ eA).zRJ aA);have jB:=zB ((cC.out.zRJ eA).zRJ aA);have bB:=zB (show zX (w3.alloc (.cells #[.slice ak (qQ tree old).length ck] 62)) w3.heap.size 0 (.slice ak (qQ tree old).length ck)from zI (heap_alloc_new _ _) rfl);have kB:=zA (zA gB eA) aA;clear iB nB eA aA lA vA eB bC cC gB;obtain⟨c0,-⟩:=dA.out;go_wp2_with fail;clear c0;generalize w3.alloc (.cells #[.slice ak (qQ tree old).length ck] 62)=w4 at dA fA cA vB sB rB jB bB kB ⊢;generalize w3.heap.size=T9 at bB ⊢;refine(zDa _ _ 0 _ 0 _ T9 old (qQ tree old) w4 (cA.out.atW (by omega)) (by omega) (vB.out.atW (by omega)) bB.out.1).mono ?_;rintro e w5 ⟨vx,bE,rfl,-,dC,-,iA⟩;obtain⟨dE,kE,rfl,-⟩:=zW dC;have nA:=zB (fA.out.zRJ iA);have mC:=zB (sB.out.zRJ iA);have pC:=zB (rB.out.zRJ iA);have jC:=zB (jB.out.zRJ iA);have kA:=zB dC;have lC:=zA kB iA;clear dC iA dA fA cA vB sB rB jB bB kB;obtain⟨-,⟨c4,-⟩,-⟩:=jC.out;go_wp2_with fail;clear c4;refine(zA1 _ tree.length 0 _ (zf tree) (zh tree) S.time w5 (nA.out.atW (by omega))).mono ?_;rintro e w6 ⟨vy,vz,ly,lz,rfl,hY,-,hy,-,-,oA⟩;rw[(hY.1 ⟨dD.out,oD.out⟩).trans (zFh tree S.time)]at hy;have eD:∀w,(Instr.field 201 (.agg #[vy,vz]) 0).run Tryz.prog w = .ok vy w:=zDc vy vz;have nC:=zB hy;have sC:=zB (mC.out.zRJ oA);have tB:=zB (pC.out.zRJ oA);have jA:=zB (kA.out.zRJ oA);have oB:=zA lC oA;clear hY hy oA nA mC pC jC kA lC;obtain⟨-,⟨c1,-⟩,-,⟨c3,-⟩,⟨c5,-⟩⟩:=tB.out;by_cases h1:m.rb<=m.time;rotate_left
   ·have Hn:=zB (show ¬zIw W m S from fun h=>h1 (tA.out.1 h).1);go_wp2;go_ret;exact⟨zG.no Hn.out,oB⟩
   have H1:=zB h1;go_wp2_with fail;clear h1 c1 c3 c5 eD;refine(yh _ _ _ 0 _ _ 0 _ _ _ _ _ w6 (nC.out.atW (by omega)) (sC.out.atW (by omega))).mono ?_;rintro e w7 ⟨⟨t7,rfl,tC⟩,dB⟩;have gD:=zB (tB.out.zRJ dB);have lB:=zB (jA.out.zRJ dB);have aC:=zA oB dB;have cB:=zB tC;clear tC dB nC sC tB jA oB;obtain⟨-,⟨c1,-⟩,-,⟨c3,-⟩,⟨c5,-⟩⟩:=gD.out;cases t7
   ·have Hn:=zB (show ¬zIw W m S from fun h=>absurd (cB.out.2 (tA.out.1 h).2.1) (by simp));clear cB;go_wp2;go_ret;exact⟨zG.no Hn.out,aC⟩
   have H2:=zB (cB.out.1 rfl);clear cB;go_wp2_with fail;clear c1 c3 c5;refine(yh _ _ _ lo hi _ 0 _ _ _ _ _ w7 (tD.out.zRJ aC) (lB.out.atW (by omega))).mono ?_;rintro e w8 ⟨⟨t8,rfl,oC⟩,rC⟩;have fD:=zB (oC.trans ⟨fun h=>tA.out.2 ⟨H1.out,H2.out,h⟩,fun h=>(tA.out.1 h).2.2⟩);have iD:=zA aC rC;clear oC rC;go_wp2;go_ret;exact⟨⟨t8,rfl,fD.out⟩,iD⟩
 ·go_simp;have aD:=zC W0.drew (.cells #[.slice none 0 0] 62);have fB:Below W0.heap.size W0 (W0.drew.alloc (.cells #[.slice none 0 0] 62)):=zA jD aD;have cD:zX (W0.drew.alloc (.cells #[.slice none 0 0] 62)) W0.drew.heap.size 0 (.slice none 0 0):=zI (heap_alloc_new _ _) rfl;obtain⟨⟨k0,_⟩,⟨k1,_⟩,⟨k2,_⟩,⟨k3,_⟩,⟨k4,_⟩,⟨k5,_⟩⟩:=sA.out.zRJ fB;obtain⟨_,_,⟨l2,_⟩,⟨l3,_⟩,_⟩:=pA.out.zRJ fB;obtain⟨_,_,⟨n5,_⟩,⟨n6,_⟩,_⟩:=rA.out.zRJ fB
  (try go_wp2_with fail)
  refine hK.out _ _ (by(try dsimp only);go_keep) ?_;clear hK K hHeld;intro hHeld
  try simp only[Act.put,s1,s2,s3]
  refine rd [3] (rc (fun K hK=>?_) .nil);go_simp;go_at_call 226;refine(zBn v0 v1 v2 v3 lo hi W m.rs m.rb _ ?_ HR.out pB.out).mono ?_
  ·exact Hp.out.zRJ (zA gC fB)
  rintro e w1 ⟨vt,rfl,kC,mB⟩;obtain⟨mD,lD,rfl,-⟩:=zW kC;have mA:Below W0.heap.size W0 w1:=zA fB mB;obtain⟨⟨k0,_⟩,⟨k1,_⟩,⟨k2,_⟩,⟨k3,_⟩,⟨k4,_⟩,⟨k5,_⟩⟩:=sA.out.zRJ mA;obtain⟨_,_,⟨l2,_⟩,⟨l3,_⟩,_⟩:=pA.out.zRJ mA;obtain⟨_,_,⟨n5,_⟩,⟨n6,_⟩,_⟩:=rA.out.zRJ mA
  (try go_wp2_with fail)
  refine hK.out _ _ (by(try dsimp only);go_keep) ?_;clear hK K hHeld;intro hHeld
  try simp only[Act.put,s1,s2,s3]
  refine rd [7] (rc (fun K hK=>?_) .nil);go_simp;go_at_call 226;refine(zBn v0 v1 v2 v3 lo hi W S.rs S.rb _ ?_ HR.out bD.out).mono ?_
  ·exact Hp.out.zRJ (zA gC mA)
  rintro e w2 ⟨va,rfl,eC,gA⟩;obtain⟨av,cv,rfl,-⟩:=zW eC;have aB:Below W0.heap.size W0 w2:=zA mA gA;obtain⟨⟨k0,_⟩,⟨k1,_⟩,⟨k2,_⟩,⟨k3,_⟩,⟨k4,_⟩,⟨k5,_⟩⟩:=sA.out.zRJ aB;obtain⟨_,_,⟨l2,_⟩,⟨l3,_⟩,_⟩:=pA.out.zRJ aB;obtain⟨_,_,⟨n5,_⟩,⟨n6,_⟩,_⟩:=rA.out.zRJ aB
  (try go_wp2_with fail)
  refine hK.out _ _ (by(try dsimp only);go_keep) ?_;clear hK K hHeld;intro hHeld
  try simp only[Act.put,s1,s2,s3]
  refine tk 9 (h:=?_);rw[rE]at cD;have aE:=(cD.zRJ mB).zRJ gA;have vD:=kC.zRJ gA;have sD:(W0.drew.alloc (.cells #[.slice none 0 0] 62)).heap.size=W0.heap.size+1:=World.size_alloc _ _;have sE:(W0.alloc (.cells #[.slice none 0 0] 62)).drew.heap.size=W0.heap.size+1:=World.size_alloc _ _;have vE:=mB.size;have nD:Value.ownBlock (.slice mD (zR W.zRQ m.rs m.rb).length lD)≠some W0.heap.size:=fun e=>by have:=(kC.lt e).1;omega
  have rD:Value.ownBlock (.slice av (zR W.zRQ S.rs S.rb).length cv)≠some W0.heap.size:=fun e=>by have:=(eC.lt e).1;omega
  obtain⟨kD,pD⟩:=aE;refine rd [10] (rc (fun K hK=>?_) .nil);go_simp;have bA:Below W0.heap.size W0 (w2.setCell ⟨W0.heap.size,0,none⟩ (.slice av (zR W.zRQ S.rs S.rb).length cv)):=aB.setCell (show W0.heap.size<=W0.heap.size by omega) _;obtain⟨⟨k0,_⟩,⟨k1,_⟩,⟨k2,_⟩,⟨k3,_⟩,⟨k4,_⟩,⟨k5,_⟩⟩:=sA.out.zRJ bA;obtain⟨_,_,⟨l2,_⟩,⟨l3,_⟩,_⟩:=pA.out.zRJ bA;obtain⟨_,_,⟨n5,_⟩,⟨n6,_⟩,_⟩:=rA.out.zRJ bA
  (try go_wp2_with fail)
  refine hK.out _ _ (by(try dsimp only);go_keep) ?_;clear hK K hHeld;intro hHeld
  try simp only[Act.put,s1,s2,s3]
  refine wpAnyH_done (by kernel_rfl) ?_ _;have lA:=zB (show zX (w2.setCell ⟨W0.heap.size,0,none⟩ (.slice av (zR W.zRQ S.rs S.rb).length cv)) W0.heap.size 0 (.slice av (zR W.zRQ S.rs S.rb).length cv)from zX.set ⟨kD,pD⟩ _);have vA:=zB ((vD.putNe nD 0 (.slice av (zR W.zRQ S.rs S.rb).length cv)).mono (Nat.zero_le _));have eB:=zB ((eC.putNe rD 0 (.slice av (zR W.zRQ S.rs S.rb).length cv)).mono (Nat.zero_le _));have vC:=zB (sA.out.zRJ bA);have bC:=zB (pA.out.zRJ bA);have cC:=zB (rA.out.zRJ bA);have gB:=zA gC bA;clear bA hHeld
  as_aux_lemma=>
  generalize (w2.setCell ⟨W0.heap.size,0,none⟩ (.slice av (zR W.zRQ S.rs S.rb).length cv))=wz at lA vA eB vC bC cC gB ⊢;generalize W0.heap.size=T at lA ⊢;have pE:=qP W.zRQ m.rs m.rb;have fE:=qP W.zRQ S.rs S.rb;have dD:=zB (show qx (zR W.zRQ m.rs m.rb).length (zf (zR W.zRQ m.rs m.rb)) (zh (zR W.zRQ m.rs m.rb))from zBJ HR.out (fun x hx=>(zAX HR.out pB.out hx).1) (zAe HR.out pB.out) (by omega));have tA:=zB (zKJ W m S);clear pB bD HR Hp vC;generalize zR W.zRQ m.rs m.rb=tree at *;generalize zR W.zRQ S.rs S.rb=old at *;have nE:(qQ tree old).length<=tree.length:=List.length_filter_le _ _;have cE:(zAP tree old).length<=tree.length:=List.length_filter_le _ _;have jE:(zAP old (qQ tree old)).length<=old.length:=List.length_filter_le _ _;have oE:(zAO tree S.time).length<=tree.length:=List.length_filter_le _ _;have mE:∀(fn:Fn) (first iC:Array Value) (w:World),(Instr.makeFunc fn first iC).run Tryz.prog w = .ok (.func fn first iC) w:=fun _ _ _ _=>rfl
  go_wp2_with fail;refine(zC3 _ _ 0 _ 0 _ T tree old wz (vA.out.atW (by omega)) (by omega) (eB.out.atW (by omega)) lA.out.1).mono ?_;rintro e w3 ⟨vk,vo,rfl,iB,nB,-,eA⟩;obtain⟨ak,ck,rfl,-⟩:=zW iB;obtain⟨ao,co,rfl,-⟩:=zW nB;have aA:=zC w3 (.cells #[.slice ak (qQ tree old).length ck] 62);have dA:=zB ((lA.out.zRJ eA).zRJ aA);have fA:=zB ((vA.out.zRJ eA).zRJ aA);have cA:=zB ((eB.out.zRJ eA).zRJ aA);have vB:=zB (iB.zRJ aA);have sB:=zB (nB.zRJ aA);have rB:=zB ((bC.out.zRJ eA).zRJ aA);have jB:=zB ((cC.out.zRJ eA).zRJ aA);have bB:=zB (show zX (w3.alloc (.cells #[.slice ak (qQ tree old).length ck] 62)) w3.heap.size 0 (.slice ak (qQ tree old).length ck)from zI (heap_alloc_new _ _) rfl);have kB:=zA (zA gB eA) aA;clear iB nB eA aA lA vA eB bC cC gB;obtain⟨c0,-⟩:=dA.out;go_wp2_with fail;clear c0;generalize w3.alloc (.cells #[.slice ak (qQ tree old).length ck] 62)=w4 at dA fA cA vB sB rB jB bB kB ⊢;generalize w3.heap.size=T9 at bB ⊢;refine(zDa _ _ 0 _ 0 _ T9 old (qQ tree old) w4 (cA.out.atW (by omega)) (by omega) (vB.out.atW (by omega)) bB.out.1).mono ?_;rintro e w5 ⟨vx,bE,rfl,-,dC,-,iA⟩;obtain⟨dE,kE,rfl,-⟩:=zW dC;have nA:=zB (fA.out.zRJ iA);have mC:=zB (sB.out.zRJ iA);have pC:=zB (rB.out.zRJ iA);have jC:=zB (jB.out.zRJ iA);have kA:=zB dC;have lC:=zA kB iA;clear dC iA dA fA cA vB sB rB jB bB kB;obtain⟨-,⟨c4,-⟩,-⟩:=jC.out;go_wp2_with fail;clear c4;refine(zA1 _ tree.length 0 _ (zf tree) (zh tree) S.time w5 (nA.out.atW (by omega))).mono ?_;rintro e w6 ⟨vy,vz,ly,lz,rfl,hY,-,hy,-,-,oA⟩;rw[(hY.1 ⟨dD.out,oD.out⟩).trans (zFh tree S.time)]at hy;have eD:∀w,(Instr.field 201 (.agg #[vy,vz]) 0).run Tryz.prog w = .ok vy w:=zDc vy vz;have nC:=zB hy;have sC:=zB (mC.out.zRJ oA);have tB:=zB (pC.out.zRJ oA);have jA:=zB (kA.out.zRJ oA);have oB:=zA lC oA;clear hY hy oA nA mC pC jC kA lC;obtain⟨-,⟨c1,-⟩,-,⟨c3,-⟩,⟨c5,-⟩⟩:=tB.out;by_cases h1:m.rb<=m.time;rotate_left
  ·have Hn:=zB (show ¬zIw W m S from fun h=>h1 (tA.out.1 h).1);go_wp2;go_ret;exact⟨zG.no Hn.out,oB⟩
  have H1:=zB h1;go_wp2_with fail;clear h1 c1 c3 c5 eD;refine(yh _ _ _ 0 _ _ 0 _ _ _ _ _ w6 (nC.out.atW (by omega)) (sC.out.atW (by omega))).mono ?_;rintro e w7 ⟨⟨t7,rfl,tC⟩,dB⟩;have gD:=zB (tB.out.zRJ dB);have lB:=zB (jA.out.zRJ dB);have aC:=zA oB dB;have cB:=zB tC;clear tC dB nC sC tB jA oB;obtain⟨-,⟨c1,-⟩,-,⟨c3,-⟩,⟨c5,-⟩⟩:=gD.out;cases t7
  ·have Hn:=zB (show ¬zIw W m S from fun h=>absurd (cB.out.2 (tA.out.1 h).2.1) (by simp));clear cB;go_wp2;go_ret;exact⟨zG.no Hn.out,aC⟩
  have H2:=zB (cB.out.1 rfl);clear cB;go_wp2_with fail;clear c1 c3 c5;refine(yh _ _ _ lo hi _ 0 _ _ _ _ _ w7 (tD.out.zRJ aC) (lB.out.atW (by omega))).mono ?_;rintro e w8 ⟨⟨t8,rfl,oC⟩,rC⟩;have fD:=zB (oC.trans ⟨fun h=>tA.out.2 ⟨H1.out,H2.out,h⟩,fun h=>(tA.out.1 h).2.2⟩);have iD:=zA aC rC;clear oC rC;go_wp2;go_ret;exact⟨⟨t8,rfl,fD.out⟩,iD⟩
theorem zQk{W:zH}(h:∀i,i<zq W->qG W.zRQ (zO W i).rs (zO W i).rb)(x:Int):qG W.zRQ (zN W x).rs (zN W x).rb:=by
 by_cases hx:∃k,yC W x k
 ·obtain⟨k,hk⟩:=hx;rw[yA hk];have:=h k (by unfold zq;have:=hk.1;omega);rw[qS hk.1]at this;exact this
 ·have:zN W x=yP:=by
   unfold zN;rw[dif_neg hx]
  rw[this];exact Or.inl ⟨rfl,rfl⟩
def zNf(W:zH)(i:Nat):Prop:=zIw W (zO W i) (zN W (zO W i).zRT)
def zPH(W:zH):Prop:=(∀i,i<zq W->qG W.zRQ (zO W i).rs (zO W i).rb)/\∀i,i<zq W->zNf W i
def zKH(W:zH):Prop:=∀x,zB3 (zN W x).time
theorem zIU(v0 v1 v2 v3:Value)(lo hi:Nat)(W:zH)(A:Nat)(w:World)(h:zl w lo hi v0 v1 v2 v3 W)(hs:W.sn<=8)(hp:W.pn<=20)(hA:zBb w lo hi W A)(hD:zCE W)(dB:zCK W)(hR:zv W.zRQ)(hT:zKH W) :
  Calls Tryz.prog 207 #[zz v0 v1 v2 v3 W,zGJ A] w fun e w'=>zG (zPH W) e/\Below w.heap.size w w':=by
 have Hp:=zB h;have HA:=zB hA;have HD:=zB hD;have fB:=zB dB;have HR:=zB hR;have eB:=zB hT;clear h hA hD dB hR hT;have ha:=zC w (.cells #[v0,v1,.int .i64 W.time,.int .i64 W.next,v2,v3] 37);have HB:=zB (zi.zRL w v0 v1 (.int .i64 W.time) (.int .i64 W.next) v2 v3 37);obtain⟨⟨x0,-⟩,⟨x2,-⟩,⟨x4,-⟩,⟨x6,-⟩,⟨x8,-⟩,⟨lB,-⟩⟩:=HB.out;go_enter Tryz.func207,Tryz.ntmps207;go_wp2_with fail;clear x0 x2 x4 x6 x8 lB;generalize w.alloc (.cells #[v0,v1,.int .i64 W.time,.int .i64 W.next,v2,v3] 37)=W0 at ha HB ⊢;refine(zC9 v0 v1 v2 v3 lo hi W W0 (Hp.out.zRJ ha) hs hp).mono ?_;rintro e w1 ⟨vm,vd,rfl,hm,oA⟩;have HM:=zB hm;have vA:=zB (HB.out.zRJ oA);have jA:=zA ha oA;obtain⟨am,cm,rfl,pB⟩:=id hm.form;have oB:zq W<=28:=by unfold zq;omega
 clear ha oA hm HB;go_wp2
 go_loopw [14] (fun i wr=>∃k:Nat,k<=zq W/\i = .int .i64 k/\(∀j,j<k->qG W.zRQ (zO W j).rs (zO W j).rb)/\Below w1.heap.size w1 wr) (fun i _=>zq W - (intOf i).toNat)
 case atStart=>exact⟨0,Nat.zero_le _,rfl,fun j hj=>absurd hj (Nat.not_lt_zero _),Below.refl _ _⟩
 case round=>
  obtain⟨k,hk,rfl,cA,hb⟩:=hrel;have aA:=zB cA;clear cA;by_cases bA:k<zq W
  ·have pA:(k:Int)<(zq W:Int):=(by omega);obtain⟨g,cg,e,q0,q1,q2,q3,q4⟩:=(HM.out.zRJ hb).cells k bA;obtain⟨-,ad,cd,lA,-,-⟩:=id ((HM.out.zRJ hb).zRX k bA);rw[lA]at q4;cases e;have eA:=zC wr (.cells #[.int .i64 (zO W k).zRT,.int .i64 (zO W k).time,.int .i64 (zO W k).rs,.int .i64 (zO W k).rb,.slice ad (zO W k).dn cd] 224);have HV:=zB (zEV.zRL wr (.int .i64 (zO W k).zRT) (.int .i64 (zO W k).time) (.int .i64 (zO W k).rs) (.int .i64 (zO W k).rb) (.slice ad (zO W k).dn cd) 224);have gA:=zB ((vA.out.zRJ hb).zRJ eA);have dA:=zA hb eA;clear lA eA;obtain⟨⟨y0,-⟩,⟨y1,-⟩,⟨y2,-⟩,⟨y3,-⟩,⟨y4,-⟩⟩:=HV.out;obtain⟨⟨x0,-⟩,⟨x2,-⟩,-⟩:=gA.out;go_wp2_with fail;clear q0 q1 q2 q3 q4 y0 y1 y2 y3 y4 x0 x2;refine(zE1 v0 v1 lo hi W.zRQ (zO W k).rs (zO W k).rb _ (Hp.out.zRQ.zRJ (zA jA dA)) HR.out).mono ?_;rintro e w6 ⟨⟨t6,rfl,sA⟩,kA⟩;have Ht:=zB (sA.trans (zFs HR.out));have iA:=zA dA kA;clear sA kA dA HV gA;cases t6
   ·have Hn:=zB (show ¬qG W.zRQ (zO W k).rs (zO W k).rb from fun hA=>absurd (Ht.out.2 hA) (by simp));clear Ht;go_wp2;go_ret;exact⟨zG.no fun hA=>Hn.out (hA.1 k bA),zA jA iA⟩
   ·have Hn:=zB (Ht.out.1 rfl);clear Ht;go_wp2;go_roundw
    case rel=>exact⟨k+1,by omega,by go_num,zo bA aA.out Hn.out,iA⟩
    case measure=>simp[intOf];omega
  obtain rfl:k=zq W:=(by omega);have nA:=zB aA.out;clear aA bA hk;go_wp2
  go_loopw [27] (fun i wr=>∃k:Nat,k<=zq W/\i = .int .i64 k/\(∀j,j<k->zNf W j)/\Below w1.heap.size w1 wr) (fun i _=>zq W - (intOf i).toNat)
  case atStart=>exact⟨0,Nat.zero_le _,rfl,fun j hj=>absurd hj (Nat.not_lt_zero _),hb⟩
  case round=>
   clear hb;obtain⟨k,hk,rfl,cA,hb⟩:=hrel;have aA:=zB cA;clear cA;by_cases bA:k<zq W;rotate_left
   ·obtain rfl:k=zq W:=(by omega);go_wp2;go_ret;exact⟨zG.yes ⟨nA.out,aA.out⟩,zA jA hb⟩
   have pA:(k:Int)<(zq W:Int):=(by omega);obtain⟨g,cg,e,q0,q1,q2,q3,q4⟩:=(HM.out.zRJ hb).cells k bA;have mA:=(HM.out.zRJ hb).zRX k bA;obtain⟨-,ad,cd,lA,-,-⟩:=id mA;rw[lA]at q4 mA;cases e;have eA:=zC wr (.cells #[.int .i64 (zO W k).zRT,.int .i64 (zO W k).time,.int .i64 (zO W k).rs,.int .i64 (zO W k).rb,.slice ad (zO W k).dn cd] 224);have HV:=zB (zEV.zRL wr (.int .i64 (zO W k).zRT) (.int .i64 (zO W k).time) (.int .i64 (zO W k).rs) (.int .i64 (zO W k).rb) (.slice ad (zO W k).dn cd) 224);have gA:=zB ((vA.out.zRJ hb).zRJ eA);have bB:=zB (mA.zRJ eA);have dA:=zA hb eA;have tA:=zB (HA.out.zRJ (zA jA dA));have rA:=zB (Hp.out.zRJ (zA jA dA));have kB:=zB (fB.out k bA);have nB:=zB (nA.out k bA);have gB:=zB (zQk nA.out (zO W k).zRT);have iB:=zB (eB.out (zO W k).zRT);have jB:=zB (show zNf W k↔zIw W (zO W k) (zN W (zO W k).zRT)from Iff.rfl);clear lA eA mA;generalize zO W k=mk at *;go_wp2_with fail;clear q0 q1 q2 q3 q4;generalize wr.alloc (.cells #[.int .i64 mk.zRT,.int .i64 mk.time,.int .i64 mk.rs,.int .i64 mk.rb,.slice ad mk.dn cd] 224)=W2 at HV gA bB tA rA dA ⊢;generalize wr.heap.size=V at HV ⊢;obtain⟨⟨y0,-⟩,⟨y1,-⟩,⟨y2,-⟩,⟨y3,-⟩,⟨y4,-⟩⟩:=HV.out;obtain⟨⟨x0,-⟩,⟨x1,-⟩,⟨x2,-⟩,⟨x3,-⟩,⟨x4,-⟩,⟨x5,-⟩⟩:=gA.out;go_region_held3 (fun w'=>w'.cell? ⟨w.heap.size,0,none⟩=some v0/\w'.cell? ⟨w.heap.size,1,none⟩=some v1/\w'.cell? ⟨w.heap.size,2,none⟩=some (.int .i64 W.time)/\w'.cell? ⟨w.heap.size,3,none⟩=some (.int .i64 W.next)/\w'.cell? ⟨w.heap.size,4,none⟩=some v2/\w'.cell? ⟨w.heap.size,5,none⟩=some v3/\w'.cell? ⟨V,0,none⟩=some (.int .i64 mk.zRT)/\w'.cell? ⟨V,1,none⟩=some (.int .i64 mk.time)/\w'.cell? ⟨V,2,none⟩=some (.int .i64 mk.rs)/\w'.cell? ⟨V,3,none⟩=some (.int .i64 mk.rb)/\w'.cell? ⟨V,4,none⟩=some (.slice ad mk.dn cd)) (go_keep)
    (first
     | (go_at_call 190;refine(zBg lo hi W A mk.zRT _ ?_ HD.out kB.out hp).mono ?_;(exact tA.out.zRJ (Below.refl _ _).drew);rintro e w6 ⟨aa,ca,rfl,mB,kA⟩;have fA:=zK kA;obtain⟨⟨k0,_⟩,⟨k1,_⟩,⟨k2,_⟩,⟨k3,_⟩,⟨k4,_⟩,⟨k5,_⟩⟩:=gA.out.zRJ fA;obtain⟨⟨l0,_⟩,⟨l1,_⟩,⟨l2,_⟩,⟨l3,_⟩,⟨l4,_⟩⟩:=HV.out.zRJ fA)
     | (go_at_call 225;refine(zHB v0 v1 v2 v3 lo hi W mk (zN W mk.zRT) ad aa cd ca _ (rA.out.zRJ fA) HR.out nB.out gB.out (bB.out.zRJ fA) iB.out).mono ?_;rintro e w7 ⟨⟨t7,rfl,cB⟩,iA⟩;obtain⟨⟨f0,_⟩,⟨f1,_⟩,⟨f2,_⟩,⟨f3,_⟩,⟨f4,_⟩,⟨f5,_⟩⟩:=(gA.out.zRJ fA).zRJ iA;obtain⟨⟨g0,_⟩,⟨g1,_⟩,⟨g2,_⟩,⟨g3,_⟩,⟨g4,_⟩⟩:=(HV.out.zRJ fA).zRJ iA))
   have aB:=zA (zA dA fA) iA;have Ht:=zB (cB.trans jB.out.symm);clear cB iA fA kA mB k0 k1 k2 k3 k4 k5 l0 l1 l2 l3 l4 f0 f1 f2 f3 f4 f5 g0 g1 g2 g3 g4 x0 x1 x2 x3 x4 x5 y0 y1 y2 y3 y4;cases t7
   ·have Hn:=zB (show ¬zNf W k from fun hA=>absurd (Ht.out.2 hA) (by simp));clear Ht;go_wp2;go_ret;exact⟨zG.no fun hA=>Hn.out (hA.2 k bA),zA jA aB⟩
   ·have Hn:=zB (Ht.out.1 rfl);clear Ht;go_wp2;go_roundw
    case rel=>exact⟨k+1,by omega,by go_num,zo bA aA.out Hn.out,aB⟩
    case measure=>simp[intOf];omega
theorem zP0(s t:ByteArray):(s.toList == t.toList)=true↔s=t:=⟨fun h=>zOz (by simpa using h),fun h=>zCg h⟩
theorem zOR(a:Option Addr)(c:Nat)(s:zm)(name:ByteArray)(T:Nat)(w:World)(hT:w.cell? ⟨T,0,none⟩=some (.string name)) :
  Calls Tryz.prog 230 #[ye (.slice a s.dn c) s,.pointer (some ⟨T,0,none⟩)] w fun e w'=>zG (s.set=name) e/\Below w.heap.size w w':=by
 unfold ye;have bA:=zC w (.cells #[.int .i64 s.id,.string s.name,.string s.set,.int .i64 s.zRT,.int .i64 s.time,.int .i64 s.rs,.int .i64 s.rb,.slice a s.dn c] 99);have cA:=(bA.cell (p:=⟨T,0,none⟩) (zD hT)).trans hT;obtain⟨⟨⟨y0,-⟩,⟨y1,-⟩,⟨y2,-⟩,⟨y3,-⟩⟩,-⟩:=zCH.zRL w (.int .i64 s.id) (.string s.name) (.string s.set) (.int .i64 s.zRT) (.int .i64 s.time) (.int .i64 s.rs) (.int .i64 s.rb) (.slice a s.dn c) 99;clear hT;have aA:=zB (zP0 s.set name);go_enter Tryz.func230,Tryz.ntmps230;go_wp2;go_ret;exact⟨⟨_,rfl,aA.out⟩,bA⟩
def zGe(w:World)(base:Nat)(v:Value)(n:Nat):Prop:=∃xs,w.ownsRow base 99 8 v n xs
theorem zGe.zRJ{w w1:World}{base:Nat}{v:Value}{n:Nat}(h:zGe w base v n)(hb:Below w.heap.size w w1):zGe w1 base v n:=by
 obtain⟨xs,h⟩:=h;exact⟨xs,h.kept (yu hb none) (by cases v.ownBlock<;>simp)⟩
theorem zGe.lt{w:World}{base:Nat}{v:Value}{n:Nat}(h:zGe w base v n){q:Nat}(hq:v.ownBlock=some q):base<=q/\q<w.heap.size:=by
 obtain⟨xs,h⟩:=h;rcases h.2 with⟨rfl,_⟩ | ⟨g,bA,aA,rfl,hb,hg,_⟩
 ·simp[Value.ownBlock]at hq
 ·simp only[Value.ownBlock,Option.some.injEq]at hq;subst hq;exact⟨hb,(Array.getElem?_eq_some_iff.1 hg).1⟩
theorem zGe.zRR{w w1:World}{base:Nat}{v:Value}{n:Nat}{row:Option Nat}(h:zGe w base v n)(hg:w.grownBy w1 row)(aA:∀q,v.ownBlock=some q->row≠some q):zGe w1 base v n:=by
 obtain⟨xs,h⟩:=h;refine⟨xs,h.kept hg ?_⟩;cases hv:v.ownBlock with
 | none=>simp
 | some q=>exact Or.inr (fun e=>aA q hv e.symm)
theorem zNy:(Tryz.prog.info? 99).map (fun i=>(i.zero,i.size,i.bytes))=some (some (.agg #[.int .i64 0,.string ⟨#[]⟩,.string ⟨#[]⟩,.int .i64 0,.int .i64 0,.int .i64 0,.int .i64 0,.slice none 0 0]),8,96):=by kernel_rfl
def zRG(w w':World)(v v':Value)(n n':Nat):Prop:=zGe w' w.heap.size v n/\zGe w' w.heap.size v' n'/\(∀q,v.ownBlock=some q->v'.ownBlock≠some q)/\Below w.heap.size w w'
theorem zJe{w1 w2:World}{base g aA n n':Nat}{v v':Value}{xs:List Value}(h':zGe w1 base v' n')(ha:∀q,v.ownBlock=some q->v'.ownBlock≠some q)
  (bA:w2.ownsRow base 99 8 (.slice (some ⟨g,0,none⟩) (n+1) aA) (n+1) xs) (hg:w1.grownBy w2 v.ownBlock) (cA:v.ownBlock=some g\/g=w1.heap.size) :
  zGe w2 base (.slice (some ⟨g,0,none⟩) (n+1) aA) (n+1)/\zGe w2 base v' n'/\(∀q,(Value.slice (some ⟨g,0,none⟩) (n+1) aA).ownBlock=some q->v'.ownBlock≠some q):=by
 refine⟨⟨xs,bA⟩,h'.zRR hg (fun q hq e=>ha q e hq),fun q hq e=>?_⟩;simp only[Value.ownBlock,Option.some.injEq]at hq;subst hq;rcases cA with h | h
 ·exact ha _ h e
 ·have:=(h'.lt e).2;omega
theorem zKB(v:Value)(lo hi:Nat)(W:zH)(name:ByteArray)(T:Nat)(w:World)(h:yB w lo hi v W.pn W.zRP)(hn:W.pn<=20)(hT:w.cell? ⟨T,0,none⟩=some (.string name)) :
  Calls Tryz.prog 229 #[v,.func (.func 230) #[] #[.pointer (some ⟨T,0,none⟩)]] w fun e w'=>∃a c vo,e = .returned (.tuple #[.slice a (yt W name W.pn) c,vo])/\Below w.heap.size w w':=by
 have Hp:=zB h;have HT:=zB hT;obtain⟨m1,a,c,rfl,mc,-⟩:=id h;unfold maxLen at m1;clear h hT;obtain⟨i0,bB,pA⟩:=Option.map_eq_some_iff.1 zNy;simp only[Prod.mk.injEq]at pA;have HI:=zB (And.intro bB pA);clear bB pA;have kB:∀(fn:Fn) (first tA:Array Value) (w:World),(Instr.makeFunc fn first tA).run Tryz.prog w = .ok (.func fn first tA) w:=fun _ _ _ _=>rfl
 go_enter Tryz.func229,Tryz.ntmps229;go_wp2
 go_loopw [6,7,12] (fun vy vo i wr=>∃k:Nat,k<=W.pn/\i = .int .i64 k/\zRG w wr vy vo (yt W name k) (k - yt W name k)) (fun _ _ i _=>W.pn - (intOf i).toNat)
 case atStart=>exact⟨0,Nat.zero_le _,rfl,⟨[],World.ownsRow_nil _ _ _ _⟩,⟨[],World.ownsRow_nil _ _ _ _⟩,fun q hq=>by simp[Value.ownBlock]at hq,Below.refl _ _⟩
 case round=>
  obtain⟨k,hk,rfl,hy,ho,sA,hb⟩:=hrel;have Hy:=zB hy;have Ho:=zB ho;have vA:=zB sA;have jB:=zHK W name k;clear hy ho sA;by_cases gB:k<W.pn
  ·have iB:(k:Int)<(W.pn:Int):=(by omega);obtain⟨b,off,vd,rfl,cA⟩:=(Hp.out.zRJ hb).cells gB;obtain⟨-,ad,cd,rfl,-,-⟩:=id cA.zRX;have jA:=zC wr (.cells #[.int .i64 (W.zRP k).id,.string (W.zRP k).name,.string (W.zRP k).set,.int .i64 (W.zRP k).zRT,.int .i64 (W.zRP k).time,.int .i64 (W.zRP k).rs,.int .i64 (W.zRP k).rb,.slice ad (W.zRP k).dn cd] 99);have HV:=zB (zCH.zRL wr (.int .i64 (W.zRP k).id) (.string (W.zRP k).name) (.string (W.zRP k).set) (.int .i64 (W.zRP k).zRT) (.int .i64 (W.zRP k).time) (.int .i64 (W.zRP k).rs) (.int .i64 (W.zRP k).rb) (.slice ad (W.zRP k).dn cd) 99);have kA:=zA hb jA;have cB:=zB ((kA.cell (p:=⟨T,0,none⟩) (zD HT.out)).trans HT.out);have q0:=cA.c0;have q1:=cA.c1;have q2:=cA.c2;have q3:=cA.c3;have q4:=cA.c4;have q5:=cA.c5;have q6:=cA.c6;have q7:=cA.c7;obtain⟨⟨⟨y0,-⟩,⟨y1,-⟩,⟨y2,-⟩,⟨y3,-⟩⟩,⟨y4,-⟩,⟨y5,-⟩,⟨y6,-⟩,⟨y7,-⟩⟩:=HV.out;clear cA;go_wp2_with fail;clear q0 q1 q2 q3 q4 q5 q6 q7 y0 y1 y2 y3 y4 y5 y6 y7;refine(zOR ad cd (W.zRP k) name T _ cB.out).mono ?_;rintro e w1 ⟨⟨s,rfl,hs⟩,gA⟩;have fB:=zB ((Hy.out.zRJ jA).zRJ gA);have eB:=zB ((Ho.out.zRJ jA).zRJ gA);have dB:=zB (HV.out.zRJ gA);have aB:=zA kA gA;clear gA kA jA Hy Ho HV cB;have lB:=aB.size;obtain⟨⟨⟨y0,-⟩,⟨y1,-⟩,⟨y2,-⟩,⟨y3,-⟩⟩,⟨y4,-⟩,⟨y5,-⟩,⟨y6,-⟩,⟨y7,-⟩⟩:=dB.out;have fA:=zC w1 (.cells #[.int .i64 (W.zRP k).id,.string (W.zRP k).name,.string (W.zRP k).set,.int .i64 (W.zRP k).zRT,.int .i64 (W.zRP k).time,.int .i64 (W.zRP k).rs,.int .i64 (W.zRP k).rb,.slice ad (W.zRP k).dn cd] 99);have rA:=zB (fB.out.zRJ fA);have oA:=zB (eB.out.zRJ fA);have iA:=zA aB fA;have mB:=fA.size;have HN:=zB (World.news_of_block (heap_alloc_last w1 (.cells #[.int .i64 (W.zRP k).id,.string (W.zRP k).name,.string (W.zRP k).set,.int .i64 (W.zRP k).zRT,.int .i64 (W.zRP k).time,.int .i64 (W.zRP k).rs,.int .i64 (W.zRP k).rb,.slice ad (W.zRP k).dn cd] 99)));clear fA;by_cases hq:(W.zRP k).set=name
   ·obtain rfl:s=true:=hs.2 hq;have ey:=zB (zIb hq);clear hs hq;obtain⟨xs,dA⟩:=rA.out;have lA:=zB dA;clear dA;go_wp2_with (first
     | (at_builtin;refine wpList_append_lies _ rfl _ _ 35 rfl w.heap.size 99 i0 (.agg #[.int .i64 0,.string ⟨#[]⟩,.string ⟨#[]⟩,.int .i64 0,.int .i64 0,.int .i64 0,.int .i64 0,.slice none 0 0]) 8 96 (by kernel_rfl) HI.out.1 HI.out.2.1 HI.out.2.2.1 HI.out.2.2.2 rfl (by decide) _ _ _ rfl lA.out ⟨w1.heap.size,0,none⟩ 1 1 [.int .i64 (W.zRP k).id,.string (W.zRP k).name,.string (W.zRP k).set,.int .i64 (W.zRP k).zRT,.int .i64 (W.zRP k).time,.int .i64 (W.zRP k).rs,.int .i64 (W.zRP k).rb,.slice ad (W.zRP k).dn cd] rfl rfl HN.out (by simp[Value.oneCell']) (by decide) (by unfold maxLen;omega) (by omega) (by omega) _ rfl ?_;intro g' nA w4 bA aA eA mA)
     | go_in)
    go_roundw
    case rel=>
     obtain⟨r1,r2,r3⟩:=zJe oA.out vA.out bA aA eA;refine⟨k+1,by omega,by go_num,by rw[ey.out];exact r1,?_,r3,iA.grown aA iA.size (fun q hq=>(rA.out.lt hq).1)⟩;rw[ey.out,show k+1 - (yt W name k+1)=k - yt W name k by omega];exact r2
    case measure=>simp[intOf];omega
   ·obtain rfl:s=false:=zQ hs hq;have ey:=zB (zJs hq);clear hs hq;obtain⟨xs,dA⟩:=oA.out;have lA:=zB dA;clear dA;go_wp2_with (first
     | (at_builtin;refine wpList_append_lies _ rfl _ _ 35 rfl w.heap.size 99 i0 (.agg #[.int .i64 0,.string ⟨#[]⟩,.string ⟨#[]⟩,.int .i64 0,.int .i64 0,.int .i64 0,.int .i64 0,.slice none 0 0]) 8 96 (by kernel_rfl) HI.out.1 HI.out.2.1 HI.out.2.2.1 HI.out.2.2.2 rfl (by decide) _ _ _ rfl lA.out ⟨w1.heap.size,0,none⟩ 1 1 [.int .i64 (W.zRP k).id,.string (W.zRP k).name,.string (W.zRP k).set,.int .i64 (W.zRP k).zRT,.int .i64 (W.zRP k).time,.int .i64 (W.zRP k).rs,.int .i64 (W.zRP k).rb,.slice ad (W.zRP k).dn cd] rfl rfl HN.out (by simp[Value.oneCell']) (by decide) (by unfold maxLen;omega) (by omega) (by omega) _ rfl ?_;intro g' nA w4 bA aA eA mA)
     | go_in)
    go_roundw
    case rel=>
     obtain⟨r1,r2,r3⟩:=zJe rA.out (fun q h h'=>vA.out q h' h) bA aA eA;refine⟨k+1,by omega,by go_num,by rw[ey.out];exact r2,?_,fun q h h'=>r3 q h' h,iA.grown aA iA.size (fun q hq=>(oA.out.lt hq).1)⟩;rw[ey.out,show k+1 - yt W name k=k - yt W name k+1 by omega];exact r1
    case measure=>simp[intOf];omega
  ·obtain rfl:k=W.pn:=(by omega);obtain⟨xs,dA⟩:=Hy.out;obtain⟨ay,cy,rfl,-⟩:=zW dA;clear dA;go_wp2
   go_ret2
   exact⟨ay,cy,_,rfl,hb⟩
theorem zNi{W:zH}{name:ByteArray}(aA:name.toList.isEmpty=false)(y:Int):(zN W y).set=name↔zFp W name y:=by
 constructor
 ·intro h;by_cases hx:∃k,yC W y k
  ·obtain⟨k,hk⟩:=hx;rw[yA hk]at h;exact⟨k,hk,h⟩
  ·have e:zN W y=yP:=(by unfold zN;rw[dif_neg hx]);rw[e]at h;rw[<-h]at aA;have h0:yP.set.toList = []:=(by rw[Go.ByteArray.toList_eq];rfl);rw[h0]at aA;exact absurd aA (by decide)
 ·rintro⟨k,hk,h⟩;rw[yA hk];exact h
theorem zCS.wf{W:zH}{name:ByteArray}{start:Int}{n:Nat}{y:Int}(h:zCS W name start n y):(Lit.int .i64 y).wf=true:=by
 have h1:=h.least;have h2:=h.sum;exact WalkArith.wf_i64 (by omega)
theorem zIr(v0 v1 v2 v3:Value)(lo hi:Nat)(W:zH)(A:Nat)(sa:Option Addr)(sc:Nat)(S:qC)(w:World)(h:zl w lo hi v0 v1 v2 v3 W)(hp:W.pn<=20)(hA:zBb w lo hi W A)(hD:zCE W)(hP:zB9 W)(bB:S.name.toList.isEmpty=false)(hS:S.zRT=0\/qs W S.zRT) :
  Calls Tryz.prog 224 #[zz v0 v1 v2 v3 W,zDO (.slice sa S.dn sc) S,zGJ A] w fun e w'=>zG (zBR W S.name S.zRT S.origin) e/\Below w.heap.size w w':=by
 unfold zDO;have Hp:=zB h;have HA:=zB hA;have HD:=zB hD;have HP:=zB hP;have eA:=zB (zNi (W:=W) bB);have lB:=zB hS;clear h hA hD hP bB hS;have nB:∀(fn:Fn) (first vA:Array Value) (w:World),(Instr.makeFunc fn first vA).run Tryz.prog w = .ok (.func fn first vA) w:=fun _ _ _ _=>rfl
 have ha:=zC w (.cells #[v0,v1,.int .i64 W.time,.int .i64 W.next,v2,v3] 37);have hB:=zi.zRL w v0 v1 (.int .i64 W.time) (.int .i64 W.next) v2 v3 37;have hz:(w.alloc (.cells #[v0,v1,.int .i64 W.time,.int .i64 W.next,v2,v3] 37)).heap.size=w.heap.size+1:=World.size_alloc _ _;have kA:=zC (w.alloc (.cells #[v0,v1,.int .i64 W.time,.int .i64 W.next,v2,v3] 37)) (.cells #[.string S.name,.int .i64 S.origin,.int .i64 S.zRT,.int .i64 S.rs,.int .i64 S.rb,.slice sa S.dn sc] 67);have hT:=zi.zRL (w.alloc (.cells #[v0,v1,.int .i64 W.time,.int .i64 W.next,v2,v3] 37)) (.string S.name) (.int .i64 S.origin) (.int .i64 S.zRT) (.int .i64 S.rs) (.int .i64 S.rb) (.slice sa S.dn sc) 67;rw[hz]at hT;have HT:=zB hT;have iA:=zA ha kA;obtain⟨⟨x0,-⟩,⟨x2,-⟩,⟨x4,-⟩,⟨x6,-⟩,⟨x8,-⟩,⟨jB,-⟩⟩:=hB.zRJ kA;clear hT ha kA hB;go_enter Tryz.func224,Tryz.ntmps224;go_wp2_with fail;clear x0 x2 x4 x6 x8 jB;generalize (w.alloc (.cells #[v0,v1,.int .i64 W.time,.int .i64 W.next,v2,v3] 37)).alloc (.cells #[.string S.name,.int .i64 S.origin,.int .i64 S.zRT,.int .i64 S.rs,.int .i64 S.rb,.slice sa S.dn sc] 67)=W0 at HT iA ⊢;refine(zKB v3 lo hi W S.name (w.heap.size+1) W0 (Hp.out.zRP.zRJ iA) hp HT.out.1.1).mono ?_;rintro e w1 ⟨ay,cy,vo,rfl,lA⟩;have mA:=zB (HT.out.zRJ lA);have sA:=zA iA lA;have oB:=zHK W S.name W.pn;clear HT iA lA hz;obtain⟨⟨y0,-⟩,⟨y1,-⟩,⟨y2,-⟩,-⟩:=mA.out;go_wp2;clear y0 y1 y2;generalize w.heap.size+1=T at *
 go_loopw [9,10] (fun x i wr=>∃(n:Nat) (y:Int),i = .int .i64 n/\x = .int .i64 y/\zCS W S.name S.zRT n y/\zi wr T (.string S.name) (.int .i64 S.origin) (.int .i64 S.zRT) (.int .i64 S.rs) (.int .i64 S.rb) (.slice sa S.dn sc)/\Below w.heap.size w wr) (fun x _ _=>(intOf x).toNat)
 case atStart=>exact⟨0,_,rfl,rfl,zCS.start HP.out _ lB.out,mA.out,sA⟩
 case round=>
  clear mA sA;obtain⟨n,y,rfl,rfl,hw,hT,hb⟩:=hrel;have HT:=zB hT;have Hw:=zB hw;have nA:=zB hw.wf;have gB:=hw.sum;have pB:=hw.least;clear hT hw;have jA:=zB (HA.out.zRJ hb);obtain⟨⟨y0,-⟩,⟨y1,-⟩,-⟩:=HT.out;by_cases hq:(zN W y).set=S.name
  ·obtain⟨kk,cA,aB⟩:=(eA.out y).1 hq;have tA:=zB (Hw.out.next HP.out cA aB);have eB:=zB (show(W.zRP kk).zRT<y by have h1:=HP.out.less kk cA.1;have h2:=cA.2.1;omega);have kB:=zB (show(zN W y).zRT=(W.zRP kk).zRT by rw[yA cA]);have Hq:=zB hq;clear cA aB hq;go_wp2_with fail;go_region_held3 (fun w'=>w'.cell? ⟨T,0,none⟩=some (.string S.name)) (go_keep)
    (first | (go_at_call 190;refine(zBg lo hi W A y _ ?_ HD.out nA.out hp).mono ?_;(exact jA.out.zRJ (Below.refl _ _).drew);rintro e w6 ⟨aa,ca,rfl,dA,aA⟩;have fA:=fun w=>(show(Instr.field 99 (ye (.slice aa (zN W y).dn ca) (zN W y)) 2).run Tryz.prog w = .ok (.string S.name) w by rw[<-Hq.out];exact(zDZ (.slice aa (zN W y).dn ca) (zN W y) w).2.1);obtain⟨⟨z0,_⟩,_⟩:=HT.out.zRJ (zK aA)))
   have gA:=zB (HT.out.zRJ (zK aA));have bA:=qi hb aA;have rA:=zB (HA.out.zRJ bA);have rB:(n:Int)<1000000:=(by omega);clear aA dA fA z0 y0 y1 HT jA hb;go_wp2_with fail;refine(zBg lo hi W A y _ rA.out HD.out nA.out hp).mono ?_;rintro e w7 ⟨cB,dB,rfl,dA,oA⟩;have fA:=fun w=>(show(Instr.field 99 (ye (.slice cB (zN W y).dn dB) (zN W y)) 3).run Tryz.prog w = .ok (.int .i64 (W.zRP kk).zRT) w by rw[<-kB.out];exact(zDZ (.slice cB (zN W y).dn dB) (zN W y) w).2.2.1)
   have mB:=zB (gA.out.zRJ oA);have fB:=zA bA oA;clear dA oA gA bA rA;go_wp2;go_roundw
   case rel=>exact⟨n+1,_,by go_num,rfl,tA.out,mB.out,fB⟩
   case measure=>simp[intOf];have:=eB.out;have:=tA.out.least;omega
  ·have iB:=zB (fun h=>hq ((eA.out y).2 h));have f1:=zEO hq;clear hq;go_wp2_with fail;go_region_held3 (fun w'=>w'.cell? ⟨T,0,none⟩=some (.string S.name)) (go_keep)
    (first | (go_at_call 190;refine(zBg lo hi W A y _ ?_ HD.out nA.out hp).mono ?_;(exact jA.out.zRJ (Below.refl _ _).drew);rintro e w6 ⟨aa,ca,rfl,dA,aA⟩;have fA:=fun w=>(zDZ (.slice aa (zN W y).dn ca) (zN W y) w).2.1;obtain⟨⟨z0,_⟩,_⟩:=HT.out.zRJ (zK aA)))
   have gA:=zB (HT.out.zRJ (zK aA));have bA:=qi hb aA;clear aA dA fA z0 y0 y1 HT jA hb f1;obtain⟨⟨z0,-⟩,⟨z1,-⟩,-⟩:=gA.out;have pA:=zB (zCd (origin:=S.origin) Hw.out.steps iB.out);by_cases h1:n=yt W S.name W.pn
   ·by_cases h2:y=S.origin
    ·have Hl:=zB (pA.out.2 ⟨h1,h2⟩);have g1:((n:Int) == (yt W S.name W.pn:Int))=true:=(by simp[h1]);have g2:(y == S.origin)=true:=(by simp[h2]);clear h1 h2;go_wp2;go_ret;exact⟨zG.yes Hl.out,bA⟩
    ·have Hl:=zB (fun h=>h2 (pA.out.1 h).2);have g1:((n:Int) == (yt W S.name W.pn:Int))=true:=(by simp[h1]);have g2:(y == S.origin)=false:=(by simp[h2]);clear h1 h2;go_wp2;go_ret;exact⟨zG.no Hl.out,bA⟩
   ·have Hl:=zB (fun h=>h1 (pA.out.1 h).1);have h3:¬(n:Int)=(yt W S.name W.pn:Int):=(by omega);have g1:((n:Int) == (yt W S.name W.pn:Int))=false:=(by simp[h3]);clear h1 h3;go_wp2;go_ret;exact⟨zG.no Hl.out,bA⟩
theorem zHV(v0 v1 v2 v3:Value)(lo hi:Nat)(W:zH)(A:Nat)(w:World)(h:zl w lo hi v0 v1 v2 v3 W)(hp:W.pn<=20)(hs:W.sn<=8)(hA:zBb w lo hi W A)(hD:zCE W)(hP:zB9 W) :
  Calls Tryz.prog 206 #[zz v0 v1 v2 v3 W,zGJ A] w fun e w'=>zG (∀i,i<W.sn->zBR W (W.zRS i).name (W.zRS i).zRT (W.zRS i).origin) e/\Below w.heap.size w w':=by
 have Hp:=zB h;have HA:=zB hA;have HD:=zB hD;have HP:=zB hP;obtain⟨m2,a',c',rfl,oA,-⟩:=id h.zRS;unfold maxLen at m2;clear h hA hD hP;have ha:=zC w (.cells #[v0,v1,.int .i64 W.time,.int .i64 W.next,.slice a' W.sn c',v3] 37);have HB:=zB (zi.zRL w v0 v1 (.int .i64 W.time) (.int .i64 W.next) (.slice a' W.sn c') v3 37);obtain⟨⟨x0,-⟩,⟨x2,-⟩,⟨x4,-⟩,⟨x6,-⟩,⟨x8,-⟩,⟨jA,-⟩⟩:=HB.out;go_enter Tryz.func206,Tryz.ntmps206;go_wp2;clear x0 x2 x4 x6 x8 jA
 go_loopw [10] (fun i wr=>∃k:Nat,k<=W.sn/\i = .int .i64 k/\(∀j,j<k->zBR W (W.zRS j).name (W.zRS j).zRT (W.zRS j).origin)/\zi wr w.heap.size v0 v1 (.int .i64 W.time) (.int .i64 W.next) (.slice a' W.sn c') v3/\Below w.heap.size w wr) (fun i _=>W.sn - (intOf i).toNat)
 case atStart=>exact⟨0,Nat.zero_le _,rfl,fun j hj=>absurd hj (Nat.not_lt_zero _),HB.out,ha⟩
 case round=>
  clear HB ha;obtain⟨k,hk,rfl,bA,hX,hb⟩:=hrel;have dA:=zB bA;have HX:=zB hX;clear bA hX;by_cases cA:k<W.sn;rotate_left
  ·obtain rfl:k=W.sn:=(by omega);go_wp2;go_ret;exact⟨zG.yes dA.out,hb⟩
  have nA:(k:Int)<(W.sn:Int):=(by omega);obtain⟨b,off,vd,rfl,aA⟩:=(Hp.out.zRS.zRJ hb).cells cA;obtain⟨-,ad,cd,rfl,-,-⟩:=id aA.zRX;have fA:=zC wr (.cells #[.string (W.zRS k).name,.int .i64 (W.zRS k).origin,.int .i64 (W.zRS k).zRT,.int .i64 (W.zRS k).rs,.int .i64 (W.zRS k).rb,.slice ad (W.zRS k).dn cd] 67);have HV:=zB (zi.zRL wr (.string (W.zRS k).name) (.int .i64 (W.zRS k).origin) (.int .i64 (W.zRS k).zRT) (.int .i64 (W.zRS k).rs) (.int .i64 (W.zRS k).rb) (.slice ad (W.zRS k).dn cd) 67);have gA:=zB (HX.out.zRJ fA);have eA:=zA hb fA;have q0:=aA.c0;have q1:=aA.c1;have q2:=aA.c2;have q3:=aA.c3;have q4:=aA.c4;have q5:=aA.c5;obtain⟨⟨y0,-⟩,⟨y1,-⟩,⟨y2,-⟩,⟨y3,-⟩,⟨y4,-⟩,⟨y5,-⟩⟩:=HV.out;obtain⟨⟨x0,-⟩,⟨x2,-⟩,⟨x4,-⟩,⟨x6,-⟩,⟨x8,-⟩,⟨jA,-⟩⟩:=gA.out;clear aA fA;go_wp2_with fail;clear q0 q1 q2 q3 q4 q5 y0 y1 y2 y3 y4 y5 x0 x2 x4 x6 x8 jA HX hb HV;refine(zIr v0 v1 _ v3 lo hi W A ad cd (W.zRS k) _ (Hp.out.zRJ eA) hp (HA.out.zRJ eA) HD.out HP.out (HP.out.zRa k cA) (HP.out.zRS k cA)).mono ?_;rintro e w6 ⟨⟨t6,rfl,lA⟩,iA⟩;have mA:=zB (gA.out.zRJ iA);have kA:=zA eA iA;have Ht:=zB lA;clear lA iA eA gA;cases t6
  ·have Hn:=zB (show ¬zBR W (W.zRS k).name (W.zRS k).zRT (W.zRS k).origin from fun hA=>absurd (Ht.out.2 hA) (by simp));clear Ht;go_wp2;go_ret;exact⟨zG.no fun hA=>Hn.out (hA k cA),kA⟩
  ·have Hn:=zB (Ht.out.1 rfl);clear Ht;go_wp2;go_roundw
   case rel=>exact⟨k+1,by omega,by go_num,zo cA dA.out Hn.out,mA.out,kA⟩
   case measure=>simp[intOf];omega
structure zCx (W:zH):Prop where
 time:zBt W.time 1 900000
 next:zBt W.next 1 900000
 zRS:zQS W.sn W.zRS
 zRP:zOw W
structure zAu (W:zH):Prop where
 zRa:zCx W
 right:zv W.zRQ
 prevs:∀i,i<zq W->zIW W i
 lines:∀i,i<W.sn->zBR W (W.zRS i).name (W.zRS i).zRT (W.zRS i).origin
 trees:zPH W
 homes:zFr W
theorem zCx.range{W:zH}(h:zCx W):∀i,i<W.pn->1<=(W.zRP i).id/\(W.zRP i).id<W.next/\1<=(W.zRP i).time/\(W.zRP i).time<W.time
 | 0,hi=>by
  have:=(h.zRP.2.1 0 hi).2.2.2;have h1:Mid 0 (W.zRP 0).id W.next:=this.1;have h2:Mid 0 (W.zRP 0).time W.time:=this.2;have a1:=h1.1;have a2:=h1.2;have a3:=h2.1;have a4:=h2.2;omega
 | i+1,hi=>by
  have ih:=h.range i (by omega);have:=(h.zRP.2.1 (i+1) hi).2.2.2;have h1:Mid (W.zRP i).id (W.zRP (i+1)).id W.next:=this.1;have h2:Mid (W.zRP i).time (W.zRP (i+1)).time W.time:=this.2;have a1:=h1.1;have a2:=h1.2;have a3:=h2.1;have a4:=h2.2;omega
theorem zCx.rise{W:zH}(h:zCx W):∀i,i<W.pn->∀j,j<i->(W.zRP j).id<(W.zRP i).id
 | 0,_,j,hj=>absurd hj (Nat.not_lt_zero _)
 | i+1,hi,j,hj=>by
  have h1:Mid (W.zRP i).id (W.zRP (i+1)).id W.next:=(h.zRP.2.1 (i+1) hi).2.2.2.1;have a1:=h1.1;by_cases e:j=i
  ·subst e;exact a1
  ·have:=h.rise i (by omega) j (by omega);omega
theorem zCx.dist{W:zH}(h:zCx W):zCE W:=fun i hi j hj e=>by have:=h.rise i hi j hj;omega
theorem zCx.idsWf{W:zH}(h:zCx W):zNG W.pn W.zRP:=fun i hi=>by
 have h1:=h.range i hi;have h2:=h.next.2;exact WalkArith.wf_i64 (by omega)
theorem zCx.times{W:zH}(h:zCx W):zKH W:=fun x=>by
 by_cases hx:∃k,yC W x k
 ·obtain⟨k,hk⟩:=hx;rw[yA hk];have h1:=h.range k hk.1;have h2:=h.time.2;exact⟨by omega,by omega⟩
 ·have:zN W x=yP:=(by unfold zN;rw[dif_neg hx]);rw[this];exact⟨Int.le_refl _,by decide⟩
theorem zHU{W:zH}{i:Nat}(hp:zCc W):zIW W i↔((zO W i).zRT=0\/qs W (zO W i).zRT):=by
 unfold zIW;constructor
 ·intro h;by_cases hx:∃k,yC W (zO W i).zRT k
  ·obtain⟨k,hk⟩:=hx;exact Or.inr ⟨k,hk.1,hk.2.1⟩
  ·have e:zN W (zO W i).zRT=yP:=(by unfold zN;rw[dif_neg hx]);rw[e]at h;exact Or.inl h.symm
 ·rintro(h | h)
  ·rw[h,zFG (fun k hk e=>by have:=hp k hk;omega)];rfl
  ·obtain⟨k,hk⟩:=h.no;rw[yA hk];exact hk.2.1
theorem zCx.prevOk{W:zH}(h:zCx W)(hp:∀i,i<zq W->zIW W i):zB9 W where
 ids:=fun k hk=>by have h1:=h.range k hk;have h2:=h.next.2;omega
 zRT:=fun k hk=>by
  have:=(zHU (fun k hk=>(h.range k hk).1)).1 (hp k (by unfold zq;omega));rw[qS hk]at this;exact this
 less:=fun k hk=>(h.zRP.2.1 k hk).2.2.1
 zRS:=fun k hk=>by
  have:=(zHU (fun k hk=>(h.range k hk).1)).1 (hp (W.pn+k) (by unfold zq;omega));rw[yH]at this;exact this
 zRa:=fun k hk=>zC4 (h.zRS.2 k hk).1
theorem zLw{W:zH}(h:zB9 W){name:ByteArray}{start:Int}(hs:start=0\/qs W start):∀{n:Nat} {e:Int},Steps W name start n e->(e=0\/qs W e)
 | 0,_,.zero=>hs
 | n+1,_,.next (k:=k) _ hk _=>h.zRT k hk.1
theorem zHa{f:Nat->qC}{i:Nat}(hn:yM (f i).name):zDI (zEN f i) (f i).name↔(0<i->zDI (f (i - 1)).name (f i).name):=by
 cases i with
 | zero=>
  refine⟨fun _ h=>absurd h (by omega),fun _=>?_⟩;have aA:=zC4 hn;unfold zDI zEN;have h0:(⟨#[]⟩:ByteArray).toList = []:=(by rw[Go.ByteArray.toList_eq]);rw[h0];cases hl:(f 0).name.toList with
  | nil=>rw[hl]at aA;exact absurd aA (by decide)
  | cons a l=>simp[Op.bytesLess]
 | succ i=>exact⟨fun h _=>h,fun h=>h (by omega)⟩
theorem zGG(W:zH):zAu W↔zNL W:=by
 constructor
 ·intro h;have hP:=h.zRa.prevOk h.prevs;have hN:zBK W:=by
   refine⟨h.zRa.time,h.zRa.next,h.zRa.zRS.1,h.zRa.zRP.1,fun i hi=>?_,fun i hi=>?_⟩
   ·have hs:=h.zRa.zRS.2 i hi;refine⟨hs.1,(zHa hs.1).1 hs.2,fun hz=>(hP.zRS i hi).resolve_left hz,fun hz=>?_⟩;obtain⟨n,e,aA,_,_,rfl⟩:=h.lines i hi;exact(zLw hP (hP.zRS i hi) aA).resolve_left hz
   ·have hs:=h.zRa.zRP.2.1 i hi;have hr:=h.zRa.range i hi;refine⟨⟨hr.1,hr.2.1,hr.2.2.1,hr.2.2.2,hs.2.1,hs.1⟩,⟨fun h0=>?_,fun hz=>⟨hs.2.2.1,(hP.zRT i hi).resolve_left hz⟩⟩,fun k hk=>h.zRa.zRP.2.2 i hi k hk⟩;cases i with
    | zero=>omega
    | succ i=>exact⟨hs.2.2.2.1.1,hs.2.2.2.2.1⟩
  have hT:zBF W:=zHv h.right hN (fun i hi=>by have:=h.trees.1 i (by unfold zq;omega);rw[qS hi]at this;exact this) (fun i hi=>by have:=h.trees.1 (W.pn+i) (by unfold zq;omega);rw[yH]at this;exact this);have hM:∀i,i<zq W->zJF W (zO W i):=fun i hi=>(zHl hT hi).1 (h.trees.2 i hi)
  have hh:=(zJD hT (fun j hj=>by have:=hP.pos j hj;omega) hM).1 h.homes;exact⟨h.right,hN,h.lines,fun i hi=>hT.snap hi,fun i hi=>⟨hT.set hi,(hM (W.pn+i) (by unfold zq;omega)).1⟩,fun i hi=>(hM i (by unfold zq;omega)).1,hh.1,fun i hi=>(hM i hi).2,hh.2⟩
 ·intro h;have hP:=h.zRa.prevOk;have hT:zBF W:=zHv h.right h.zRa h.zRP (fun i hi=>(h.zRS i hi).1);have hM:∀i,i<zq W->zJF W (zO W i):=fun i hi=>by
   refine⟨?_,h.born i hi⟩;by_cases hp:i<W.pn
   ·exact h.zRX i hp
   ·have:=(h.zRS (i - W.pn) (by unfold zq at hi;omega)).2;rw[show W.pn+(i - W.pn)=i by omega]at this;exact this
  have hh:=(zJD hT (fun j hj=>by have:=hP.pos j hj;omega) hM).2 ⟨h.reach,h.zRW⟩;refine⟨⟨h.zRa.1,h.zRa.2.1,⟨h.zRa.2.2.1,fun i hi=>?_⟩,⟨h.zRa.2.2.2.1,fun i hi=>?_,fun i hi k hk=>(h.zRa.2.2.2.2.2 i hi).2.2 k hk⟩⟩,h.right,fun i hi=>?_,h.lines,⟨hT.tree,fun i hi=>(zHl hT hi).2 (hM i hi)⟩,hh⟩
  ·have hs:=h.zRa.2.2.2.2.1 i hi;exact⟨hs.1,(zHa hs.1).2 hs.2.1⟩
  ·have hs:=h.zRa.2.2.2.2.2 i hi;refine⟨hs.1.2.2.2.2.2,hs.1.2.2.2.2.1,hP.less i hi,?_,?_⟩
   ·cases i with
    | zero=>exact⟨by have:=hs.1.1;show(0:Int)<_;omega,hs.1.2.1⟩
    | succ i=>exact⟨(hs.2.1.1 (by omega)).1,hs.1.2.1⟩
   ·cases i with
    | zero=>exact⟨by have:=hs.1.2.2.1;show(0:Int)<_;omega,hs.1.2.2.2.1⟩
    | succ i=>exact⟨(hs.2.1.1 (by omega)).2,hs.1.2.2.2.1⟩
  ·refine(zHU hP.pos).2 ?_;by_cases hp:i<W.pn
   ·rw[qS hp];exact hP.zRT i hp
   ·have e:=yH W (i - W.pn);rw[show W.pn+(i - W.pn)=i by omega]at e;rw[e];exact hP.zRS _ (by unfold zq at hi;omega)
open Go.ChangeMaps Go.MapKept
open Go.WideElems (Fit rd rg pl rd_val elemAt findIdx_arr findIdx_born modify_last set_self)
open Go.WideMaps (KeyLaw)
theorem zHm(w:World)(b:Nat)(o o':Obj):setBlock (setBlock w b o) b o'=setBlock w b o':=by simp[setBlock]
theorem zIs{w:World}{b:Nat}{o:Obj}(h:w.heap[b]?=some o):setBlock w b o=w:=by
 have e:w.heap.setIfInBounds b o=w.heap:=by
  apply Array.ext_getElem?;intro i;by_cases hi:i=b
  ·subst hi;rw[Array.getElem?_setIfInBounds_self_of_lt (Array.getElem?_eq_some_iff.1 h).1];exact h.symm
  ·rw[Array.getElem?_setIfInBounds_ne (fun e=>hi e.symm)]
 unfold setBlock;rw[e]
theorem zHx{w:World}{b:Nat}{es aA:Array MapEntry}{c c':Nat}(hb:w.heap[b]?=some (.map es c)):w.grownBy (setBlock w b (.map aA c')) (some b):=
 ⟨rfl,rfl,rfl,by simp[setBlock],fun i _ hi=>heap_setBlock_other hb _ (fun e=>hi (by rw[e]))⟩
theorem zJa{P:Program}{k e t:TypeId}{w:World}{b n:Nat}{D:DataW Value}(h:w.ownsMap P k zCG b n D)(K0:KeyLaw P k)(ht:P.underlying t=some (.map k e))(hn:n<maxLen){z:Value}(hz:∀u:World,(zeroValue e).run P u = .ok z u)
  {key val v:Value} {kl:Lit} (aA:keyOf P k key=some kl) (nA:D.atKey kl (.held z) = .held v) :
  ∃(v0:Value) (st:Nat) (w1 w2:World),(Instr.mapEntry t (.map (some b)) key).run P w = .ok (.tuple #[v0,goInt st]) w1/\(Instr.lookup t (.map (some b)) key false).run P w1 = .ok v w1/\(Instr.entryStore t (.map (some b)) (goInt st) val).run P w1 = .ok () w2/\w2.ownsMap P k zCG b (n+1) (D.put kl (.held val))/\w.grownBy w1 (some b)/\w.grownBy w2 (some b):=by
 have K:=Keyed.of_law K0;obtain⟨w',mA,fA,cB⟩:=h.update K ht hn aA (zBv val);obtain⟨wz,kA,iA,kB⟩:=h.update K ht hn aA (zBv z);have eA:=h.lookup K ht (hz w) (zBv z) aA;obtain⟨es,bA,hb,F,hs,hD⟩:=h;obtain⟨v0,st,dA,c1,cA,jB,rA⟩:=WideElems.entry_then_store K0 ht hz hb F aA;have bB:(setBlock w b (.map dA c1)).heap[b]?=some (.map dA c1):=heap_setBlock_same hb _;obtain⟨aB,c2,sA,fB⟩:=rA _ val bB;have e2:setBlock (setBlock w b (.map dA c1)) b (.map aB c2)=w':=by
  rw[zHm];rw[fB]at mA;injection mA
 refine⟨v0,st,setBlock w b (.map dA c1),w',cA,?_,by rw[<-e2];exact sA,fA,zHx hb,cB⟩;obtain⟨v',ps,hl,vA⟩:=eA;have ev:v'=v:=by
  have e1:=zEJ vA;rw[nA]at e1;injection e1 with e1;exact e1.symm
 subst ev
 suffices hh:∀ww:World,ww=setBlock w b (.map dA c1)->(Instr.lookup t (.map (some b)) key false).run P ww = .ok v' ww from hh _ rfl
 intro ww lA;rcases K0.find w aA es.toList F.keys with⟨h1,h2⟩ | ⟨j,e0,h1,h2,h3⟩
 ·-- it was not there: behind the entry it is there with the zero value
  have tA:setBlock w b (.map dA c1)=wz:=by
   have hm:(Instr.mapEntry t (.map (some b)) key).run P w = .ok (.tuple #[z,goInt bA]) (setBlock w b (.map (es.push ⟨key,z,bA⟩) (bA+1))):=by
    simp[Instr.mapEntry,run_underlying ht,MapKept.run_getObj_map hb,K0.check w false aA,h1,hz,MapKept.run_setObj_map _ hb,Result.andThen,setBlock]
   have hu:(Instr.mapUpdate t (.map (some b)) key z).run P w = .ok () (setBlock w b (.map (es.push ⟨key,z,bA⟩) (bA+1))):=by
    simp[Instr.mapUpdate,run_underlying ht,MapKept.run_getObj_map hb,K0.check w false aA,h1,MapKept.run_setObj_map _ hb,Result.andThen,setBlock]
   rw[cA]at hm;rw[kA]at hu;injection hm with _ hm;injection hu with _ hu;rw[hm,hu]
  obtain rfl:ww=wz:=lA.trans tA;obtain⟨v2,iB,pA,dB⟩:=iA.lookup K ht (hz _) (zBv z) aA;have e3:=zEJ dB;rw[atKey_put_same (show IsMap D from⟨_,hD⟩) (K.key aA)]at e3;replace e3:=DataW.held.inj e3;have e4:v'=z:=by
   have gB:(Instr.lookup t (.map (some b)) key false).run P w = .ok z w:=by
    rcases Maps.fit_look false K ht (hz w) hb F aA with⟨jA,_,_⟩ | ⟨e0,y,eB,oA,_,_,_,_⟩
    ·exact jA
    ·exact absurd oA (h2 e0 eB)
   rw[gB]at hl;injection hl with hl _;exact hl.symm
  subst e3;subst e4;exact pA
 ·-- it was there: the entry leaves the map as it was
  have hj:es[j]?=some e0:=(by simpa using h2);have gA:es.modify j (fun e=>{e with key:=key})=es:=by
   apply Array.ext';rw[Array.toList_modify,modify_eq_set _ _ _ _ h2];have:({e0 with key:=key}:MapEntry)=e0:=(by rw[<-h3]);rw[this];exact set_self _ _ _ h2
  have hm:(Instr.mapEntry t (.map (some b)) key).run P w = .ok (.tuple #[e0.val,goInt e0.born]) (setBlock w b (.map es bA)):=by
   simp[Instr.mapEntry,run_underlying ht,MapKept.run_getObj_map hb,K0.check w false aA,h1,hj,h3,K0.stays w aA,gA,MapKept.run_setObj_map _ hb,Result.andThen,setBlock]
  rw[cA,zIs hb]at hm;obtain rfl:ww=w:=lA.trans (Result.ok.inj hm).2;exact hl
end Go.Proofs.YtmgeglgboadfiaaGreatDoor
