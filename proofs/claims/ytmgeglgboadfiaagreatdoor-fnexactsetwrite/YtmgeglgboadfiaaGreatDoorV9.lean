/- What impl.memberRight answers. -/
import Derived.Test.YtmgeglgboadfiaaGreatDoorV8
import Derived.WideKeyEntry
set_option linter.unusedVariables false
set_option maxRecDepth 20000
set_option maxHeartbeats 4000000
namespace Go.Proofs.YtmgeglgboadfiaaGreatDoor
open Go.RowKit Go.Maps
abbrev zRT(vd:Value)(m:zE6):Value:=.agg #[.int .i64 m.zRh,.int .i64 m.time,.int .i64 m.rs,.int .i64 m.rb,vd]
theorem zw.putNe{w:World}{base b:Nat}{v:Value}{l:List (Int×Int)}(h:zw w base v l)(hb:v.ownBlock≠some b)(o:Nat)(u:Value):zw (w.setCell ⟨b,o,none⟩ u) base v l:=by
 refine⟨h.1,h.2.imp id ?_⟩;rintro⟨g,bA,aA,e,h1,h2,h3⟩;subst e;exact⟨g,bA,aA,rfl,h1,(Below.heap_setCell _ _ _ _ (fun e=>hb (by simp[Value.ownBlock];exact e))).trans h2,h3⟩
def zJA(W:zH)(m:zE6)(S:zl):Prop:=m.rb<=m.time/\zDi (zAQ (zR W.zRd m.rs m.rb) S.time).length (zf (zAQ (zR W.zRd m.rs m.rb) S.time)) (zh (zAQ (zR W.zRd m.rs m.rb) S.time)) (zAV (zR W.zRd m.rs m.rb) (zR W.zRd S.rs S.rb))/\zDi m.dn m.ds m.db (zAV (zR W.zRd S.rs S.rb) (qO (zR W.zRd m.rs m.rb) (zR W.zRd S.rs S.rb)))
theorem zKt(W:zH)(m:zE6)(S:zl):zJA W m S↔(m.rb<=m.time/\zES (zAQ (zR W.zRd m.rs m.rb) S.time).length (zf (zAQ (zR W.zRd m.rs m.rb) S.time)) (zh (zAQ (zR W.zRd m.rs m.rb) S.time)) (zAV (zR W.zRd m.rs m.rb) (zR W.zRd S.rs S.rb)).length (zf (zAV (zR W.zRd m.rs m.rb) (zR W.zRd S.rs S.rb))) (zh (zAV (zR W.zRd m.rs m.rb) (zR W.zRd S.rs S.rb)))/\zES m.dn m.ds m.db (zAV (zR W.zRd S.rs S.rb) (qO (zR W.zRd m.rs m.rb) (zR W.zRd S.rs S.rb))).length (zf (zAV (zR W.zRd S.rs S.rb) (qO (zR W.zRd m.rs m.rb) (zR W.zRd S.rs S.rb)))) (zh (zAV (zR W.zRd S.rs S.rb) (qO (zR W.zRd m.rs m.rb) (zR W.zRd S.rs S.rb))))):=Iff.rfl
theorem zHt(l:List (Int×Int))(t:Int):∀k,k<=l.length->qZ (zf l) (zh l) t k=zAQ (l.take k) t
 | 0,_=>by simp[qZ,zAQ]
 | k+1,hk=>by
  have aA:k<l.length:=(by omega);unfold qZ;rw[zHt l t k (by omega)];unfold zAQ;rw[List.take_succ_eq_append_getElem aA,List.filter_append,List.filter_cons];simp only[List.filter_nil];unfold zf zh;rw[yD aA];by_cases h:t<(l[k]).2
  ·rw[if_pos h,if_pos (by simpa using h)]
  ·rw[if_neg h,if_neg (by simpa using h),List.append_nil]
theorem zF4(l:List (Int×Int))(t:Int):qZ (zf l) (zh l) t l.length=zAQ l t:=by
 rw[zHt l t _ (Nat.le_refl _),List.take_length]
theorem zD2(v v':Value)(w:World):(Instr.field 201 (.agg #[v,v']) 0).run Tryz.prog w = .ok v w:=by kernel_rfl
theorem zHO(v0 v1 v2 v3:Value)(lo hi:Nat)(W:zH)(m:zE6)(S:zl)(ad sa:Option Addr)(cd sc:Nat)(w:World)(h:zk w lo hi v0 v1 v2 v3 W)(hR:zx W.zRd)(oE:qH W.zRd m.rs m.rb)(kE:qH W.zRd S.rs S.rb)(hD:zU w lo hi (.slice ad m.dn cd) m.dn m.ds m.db)(ht:zCE S.time) :
  Calls Tryz.prog 225 #[zz v0 v1 v2 v3 W,zRT (.slice ad m.dn cd) m,yd (.slice sa S.dn sc) S] w fun e w'=>zG (zJA W m S) e/\Below w.heap.size w w':=by
 unfold yd;have Hp:=zB h;have HR:=zB hR;have nB:=zB oE;have cD:=zB kE;have kD:=zB hD;have jD:=zB ht;clear h hR oE kE hD ht;have fE:∀Wa Wb Wc:World,Wa=w.alloc (.cells #[v0,v1,.int .i64 W.time,.int .i64 W.next,v2,v3] 37)->Wb=Wa.alloc (.cells #[.int .i64 m.zRh,.int .i64 m.time,.int .i64 m.rs,.int .i64 m.rb,.slice ad m.dn cd] 224)->Wc=Wb.alloc (.cells #[.int .i64 S.id,.string S.name,.string S.set,.int .i64 S.zRh,.int .i64 S.time,.int .i64 S.rs,.int .i64 S.rb,.slice sa S.dn sc] 99)->zi Wc w.heap.size v0 v1 (.int .i64 W.time) (.int .i64 W.next) v2 v3/\zEG Wc (w.heap.size+1) (.int .i64 m.zRh) (.int .i64 m.time) (.int .i64 m.rs) (.int .i64 m.rb) (.slice ad m.dn cd)/\zCP Wc (w.heap.size+2) (.int .i64 S.id) (.string S.name) (.string S.set) (.int .i64 S.zRh) (.int .i64 S.time) (.int .i64 S.rs) (.int .i64 S.rb) (.slice sa S.dn sc)/\Below w.heap.size w Wc:=by
  rintro Wa Wb Wc ea eb ec;have ha:=zC w (.cells #[v0,v1,.int .i64 W.time,.int .i64 W.next,v2,v3] 37);have h1:=zi.zRZ w v0 v1 (.int .i64 W.time) (.int .i64 W.next) v2 v3 37;have z1:Wa.heap.size=w.heap.size+1:=(by rw[ea];exact World.size_alloc _ _);rw[<-ea]at ha h1;have hb:=zC Wa (.cells #[.int .i64 m.zRh,.int .i64 m.time,.int .i64 m.rs,.int .i64 m.rb,.slice ad m.dn cd] 224);have h2:=zEG.zRZ Wa (.int .i64 m.zRh) (.int .i64 m.time) (.int .i64 m.rs) (.int .i64 m.rb) (.slice ad m.dn cd) 224;have z2:Wb.heap.size=w.heap.size+2:=(by rw[eb,World.size_alloc,z1]);rw[<-eb,z1]at h2;rw[<-eb]at hb;have hc:=zC Wb (.cells #[.int .i64 S.id,.string S.name,.string S.set,.int .i64 S.zRh,.int .i64 S.time,.int .i64 S.rs,.int .i64 S.rb,.slice sa S.dn sc] 99);have h3:=zCP.zRZ Wb (.int .i64 S.id) (.string S.name) (.string S.set) (.int .i64 S.zRh) (.int .i64 S.time) (.int .i64 S.rs) (.int .i64 S.rb) (.slice sa S.dn sc) 99;rw[<-ec,z2]at h3;rw[<-ec]at hc;exact⟨(h1.zRX hb).zRX hc,h2.zRX hc,h3,zA (zA ha hb) hc⟩
 obtain⟨hx,hm,pE,gC⟩:=fE _ _ _ rfl rfl rfl;have pA:=zB hx;have sA:=zB hm;have rA:=zB pE;clear hx hm pE fE;go_enter Tryz.func225,Tryz.ntmps225;go_wp2_with fail;generalize ((w.alloc (.cells #[v0,v1,.int .i64 W.time,.int .i64 W.next,v2,v3] 37)).alloc (.cells #[.int .i64 m.zRh,.int .i64 m.time,.int .i64 m.rs,.int .i64 m.rb,.slice ad m.dn cd] 224)).alloc (.cells #[.int .i64 S.id,.string S.name,.string S.set,.int .i64 S.zRh,.int .i64 S.time,.int .i64 S.rs,.int .i64 S.rb,.slice sa S.dn sc] 99)=W0 at pA sA rA gC ⊢;obtain⟨⟨x0,-⟩,⟨x1,-⟩,⟨x2,-⟩,⟨x3,-⟩,⟨x4,-⟩,⟨x5,-⟩⟩:=pA.out;obtain⟨-,-,⟨y2,-⟩,⟨y3,-⟩,-⟩:=sA.out;obtain⟨-,-,⟨z5,-⟩,⟨z6,-⟩,-⟩:=rA.out;refine wp_region_held_drew (S:=(fun w'=>w'.cell? ⟨w.heap.size,0,none⟩=some v0/\w'.cell? ⟨w.heap.size,1,none⟩=some v1/\w'.cell? ⟨w.heap.size,2,none⟩=some (.int .i64 W.time)/\w'.cell? ⟨w.heap.size,3,none⟩=some (.int .i64 W.next)/\w'.cell? ⟨w.heap.size,4,none⟩=some v2/\w'.cell? ⟨w.heap.size,5,none⟩=some v3/\w'.cell? ⟨w.heap.size+1,2,none⟩=some (.int .i64 m.rs)/\w'.cell? ⟨w.heap.size+1,3,none⟩=some (.int .i64 m.rb)/\w'.cell? ⟨w.heap.size+2,5,none⟩=some (.int .i64 S.rs)/\w'.cell? ⟨w.heap.size+2,6,none⟩=some (.int .i64 S.rb))) (by kernel_rfl) ?_ (fun hHeld=>?_)
 ·(try dsimp only)
  go_keep
 have lD:Below W0.heap.size W0 W0.drew:=(Below.refl _ _).drew;have sE:W0.drew.heap.size=W0.heap.size:=rfl;refine tk 0 (h:=tk 1 (h:=tk 2 (h:=tk 4 (h:=tk 5 (h:=tk 6 (h:=?_))))));refine rd [3,8] (rc (fun K hK=>?_) (rc (fun K hK=>?_) .nil))
 ·go_simp;go_at_call 226;refine(zBw v0 v1 v2 v3 lo hi W m.rs m.rb _ ?_ HR.out nB.out).mono ?_
  ·exact Hp.out.zRX (zA gC lD)
  rintro e w1 ⟨vt,rfl,rC,tB⟩;obtain⟨aE,oD,rfl,-⟩:=zY rC;have fB:Below W0.heap.size W0 w1:=zA lD tB;obtain⟨⟨k0,_⟩,⟨k1,_⟩,⟨k2,_⟩,⟨k3,_⟩,⟨k4,_⟩,⟨k5,_⟩⟩:=pA.out.zRX fB;obtain⟨_,_,⟨l2,_⟩,⟨l3,_⟩,_⟩:=sA.out.zRX fB;obtain⟨_,_,⟨n5,_⟩,⟨n6,_⟩,_⟩:=rA.out.zRX fB
  (try go_wp2_with fail)
  refine hK.out _ _ (by(try dsimp only);go_keep) ?_;clear hK K hHeld;intro hHeld
  try simp only[Act.put,s1,s2,s3]
  refine rd [7,8] (rc (fun K hK=>?_) (rc (fun K hK=>?_) .nil))
  ·go_simp;go_at_call 226;refine(zBw v0 v1 v2 v3 lo hi W S.rs S.rb _ ?_ HR.out cD.out).mono ?_
   ·exact Hp.out.zRX (zA gC fB)
   rintro e w2 ⟨va,rfl,eC,gA⟩;obtain⟨av,cv,rfl,-⟩:=zY eC;have lA:Below W0.heap.size W0 w2:=zA fB gA;obtain⟨⟨k0,_⟩,⟨k1,_⟩,⟨k2,_⟩,⟨k3,_⟩,⟨k4,_⟩,⟨k5,_⟩⟩:=pA.out.zRX lA;obtain⟨_,_,⟨l2,_⟩,⟨l3,_⟩,_⟩:=sA.out.zRX lA;obtain⟨_,_,⟨n5,_⟩,⟨n6,_⟩,_⟩:=rA.out.zRX lA
   (try go_wp2_with fail)
   refine hK.out _ _ (by(try dsimp only);go_keep) ?_;clear hK K hHeld;intro hHeld
   try simp only[Act.put,s1,s2,s3]
   refine rd [8] (rc (fun K hK=>?_) .nil);go_simp;have aD:=zC w2 (.cells #[.slice none 0 0] 62);have tA:Below W0.heap.size W0 (w2.alloc (.cells #[.slice none 0 0] 62)):=zA lA aD;have bD:zW (w2.alloc (.cells #[.slice none 0 0] 62)) w2.heap.size 0 (.slice none 0 0):=zJ (heap_alloc_new _ _) rfl;obtain⟨⟨k0,_⟩,⟨k1,_⟩,⟨k2,_⟩,⟨k3,_⟩,⟨k4,_⟩,⟨k5,_⟩⟩:=pA.out.zRX tA;obtain⟨_,_,⟨l2,_⟩,⟨l3,_⟩,_⟩:=sA.out.zRX tA;obtain⟨_,_,⟨n5,_⟩,⟨n6,_⟩,_⟩:=rA.out.zRX tA
   (try go_wp2_with fail)
   refine hK.out _ _ (by(try dsimp only);go_keep) ?_;clear hK K hHeld;intro hHeld
   try simp only[Act.put,s1,s2,s3]
   refine tk 9 (h:=?_);refine rd [10] (rc (fun K hK=>?_) .nil);go_simp;have fC:=zC w2 (.cells #[.slice av (zR W.zRd S.rs S.rb).length cv] 62);have bA:Below W0.heap.size W0 (w2.alloc (.cells #[.slice av (zR W.zRd S.rs S.rb).length cv] 62)):=zA lA fC;obtain⟨⟨k0,_⟩,⟨k1,_⟩,⟨k2,_⟩,⟨k3,_⟩,⟨k4,_⟩,⟨k5,_⟩⟩:=pA.out.zRX bA;obtain⟨_,_,⟨l2,_⟩,⟨l3,_⟩,_⟩:=sA.out.zRX bA;obtain⟨_,_,⟨n5,_⟩,⟨n6,_⟩,_⟩:=rA.out.zRX bA
   (try go_wp2_with fail)
   refine hK.out _ _ (by(try dsimp only);go_keep) ?_;clear hK K hHeld;intro hHeld
   try simp only[Act.put,s1,s2,s3]
   refine wpAnyH_done (by kernel_rfl) ?_ _;have jA:=zB (show zW (w2.alloc (.cells #[.slice av (zR W.zRd S.rs S.rb).length cv] 62)) w2.heap.size 0 (.slice av (zR W.zRd S.rs S.rb).length cv)from zJ (heap_alloc_new _ _) rfl);have aB:=zB (((rC.zRX gA).zRX fC).mono (Nat.zero_le _));have vA:=zB ((eC.zRX fC).mono (Nat.zero_le _));clear aD bD tA fC;have oC:=zB (pA.out.zRX bA);have gB:=zB (sA.out.zRX bA);have oB:=zB (rA.out.zRX bA);have kB:=zA gC bA;clear bA hHeld
   as_aux_lemma=>
   generalize (w2.alloc (.cells #[.slice av (zR W.zRd S.rs S.rb).length cv] 62))=wz at jA aB vA oC gB oB kB ⊢;generalize w2.heap.size=T at jA ⊢;have nE:=qL W.zRd m.rs m.rb;have cE:=qL W.zRd S.rs S.rb;have dD:=zB (show qm (zR W.zRd m.rs m.rb).length (zf (zR W.zRd m.rs m.rb)) (zh (zR W.zRd m.rs m.rb))from zBK HR.out (fun x hx=>(zAX HR.out nB.out hx).1) (zAk HR.out nB.out) (by omega));have eB:=zB (zKt W m S);clear nB cD HR Hp oC;generalize zR W.zRd m.rs m.rb=tree at *;generalize zR W.zRd S.rs S.rb=old at *;have lE:(qO tree old).length<=tree.length:=List.length_filter_le _ _;have mE:(zAV tree old).length<=tree.length:=List.length_filter_le _ _;have dE:(zAV old (qO tree old)).length<=old.length:=List.length_filter_le _ _;have bE:(zAQ tree S.time).length<=tree.length:=List.length_filter_le _ _;have eE:∀(fn:Fn) (first lC:Array Value) (w:World),(Instr.makeFunc fn first lC).run Tryz.prog w = .ok (.func fn first lC) w:=fun _ _ _ _=>rfl
   go_wp2_with fail;refine(zDG _ _ 0 _ 0 _ T tree old wz (aB.out.atW (by omega)) (by omega) (vA.out.atW (by omega)) jA.out.1).mono ?_;rintro e w3 ⟨vk,vo,rfl,lB,jB,-,dA⟩;obtain⟨ak,ck,rfl,-⟩:=zY lB;obtain⟨ao,co,rfl,-⟩:=zY jB;have aA:=zC w3 (.cells #[.slice ak (qO tree old).length ck] 62);have eA:=zB ((jA.out.zRX dA).zRX aA);have cA:=zB ((aB.out.zRX dA).zRX aA);have fA:=zB ((vA.out.zRX dA).zRX aA);have sB:=zB (lB.zRX aA);have dC:=zB (jB.zRX aA);have bC:=zB ((gB.out.zRX dA).zRX aA);have cC:=zB ((oB.out.zRX dA).zRX aA);have cB:=zB (show zW (w3.alloc (.cells #[.slice ak (qO tree old).length ck] 62)) w3.heap.size 0 (.slice ak (qO tree old).length ck)from zJ (heap_alloc_new _ _) rfl);have rB:=zA (zA kB dA) aA;clear lB jB dA aA jA aB vA gB oB kB;obtain⟨c0,-⟩:=eA.out;go_wp2_with fail;clear c0;generalize w3.alloc (.cells #[.slice ak (qO tree old).length ck] 62)=w4 at eA cA fA sB dC bC cC cB rB ⊢;generalize w3.heap.size=T9 at cB ⊢;refine(zDw _ _ 0 _ 0 _ T9 old (qO tree old) w4 (fA.out.atW (by omega)) (by omega) (sB.out.atW (by omega)) cB.out.1).mono ?_;rintro e w5 ⟨vx,jE,rfl,-,mB,-,iA⟩;obtain⟨gE,iE,rfl,-⟩:=zY mB;have mA:=zB (cA.out.zRX iA);have kC:=zB (dC.out.zRX iA);have nC:=zB (bC.out.zRX iA);have sC:=zB (cC.out.zRX iA);have nA:=zB mB;have pC:=zA rB iA;clear mB iA eA cA fA sB dC bC cC cB rB;obtain⟨-,⟨c4,-⟩,-⟩:=sC.out;go_wp2_with fail;clear c4;refine(zA2 _ tree.length 0 _ (zf tree) (zh tree) S.time w5 (mA.out.atW (by omega))).mono ?_;rintro e w6 ⟨vy,vz,ly,lz,rfl,hY,-,hy,-,-,oA⟩;rw[(hY.1 ⟨dD.out,jD.out⟩).trans (zF4 tree S.time)]at hy;have iD:∀w,(Instr.field 201 (.agg #[vy,vz]) 0).run Tryz.prog w = .ok vy w:=zD2 vy vz;have iC:=zB hy;have tC:=zB (kC.out.zRX oA);have vB:=zB (nC.out.zRX oA);have kA:=zB (nA.out.zRX oA);have aC:=zA pC oA;clear hY hy oA mA kC nC sC nA pC;obtain⟨-,⟨c1,-⟩,-,⟨c3,-⟩,⟨c5,-⟩⟩:=vB.out;by_cases h1:m.rb<=m.time;rotate_left
   ·have Hn:=zB (show ¬zJA W m S from fun h=>h1 (eB.out.1 h).1);go_wp2;go_ret;exact⟨zG.no Hn.out,aC⟩
   have H1:=zB h1;go_wp2_with fail;clear h1 c1 c3 c5 iD;refine(yf _ _ _ 0 _ _ 0 _ _ _ _ _ w6 (iC.out.atW (by omega)) (tC.out.atW (by omega))).mono ?_;rintro e w7 ⟨⟨t7,rfl,jC⟩,bB⟩;have fD:=zB (vB.out.zRX bB);have iB:=zB (kA.out.zRX bB);have pB:=zA aC bB;have dB:=zB jC;clear jC bB iC tC vB kA aC;obtain⟨-,⟨c1,-⟩,-,⟨c3,-⟩,⟨c5,-⟩⟩:=fD.out;cases t7
   ·have Hn:=zB (show ¬zJA W m S from fun h=>absurd (dB.out.2 (eB.out.1 h).2.1) (by simp));clear dB;go_wp2;go_ret;exact⟨zG.no Hn.out,pB⟩
   have H2:=zB (dB.out.1 rfl);clear dB;go_wp2_with fail;clear c1 c3 c5;refine(yf _ _ _ lo hi _ 0 _ _ _ _ _ w7 (kD.out.zRX pB) (iB.out.atW (by omega))).mono ?_;rintro e w8 ⟨⟨t8,rfl,vC⟩,mC⟩;have gD:=zB (vC.trans ⟨fun h=>eB.out.2 ⟨H1.out,H2.out,h⟩,fun h=>(eB.out.1 h).2.2⟩);have eD:=zA pB mC;clear vC mC;go_wp2;go_ret;exact⟨⟨t8,rfl,gD.out⟩,eD⟩
  ·go_simp;have aD:=zC w1 (.cells #[.slice none 0 0] 62);have lA:Below W0.heap.size W0 (w1.alloc (.cells #[.slice none 0 0] 62)):=zA fB aD;have bD:zW (w1.alloc (.cells #[.slice none 0 0] 62)) w1.heap.size 0 (.slice none 0 0):=zJ (heap_alloc_new _ _) rfl;obtain⟨⟨k0,_⟩,⟨k1,_⟩,⟨k2,_⟩,⟨k3,_⟩,⟨k4,_⟩,⟨k5,_⟩⟩:=pA.out.zRX lA;obtain⟨_,_,⟨l2,_⟩,⟨l3,_⟩,_⟩:=sA.out.zRX lA;obtain⟨_,_,⟨n5,_⟩,⟨n6,_⟩,_⟩:=rA.out.zRX lA
   (try go_wp2_with fail)
   refine hK.out _ _ (by(try dsimp only);go_keep) ?_;clear hK K hHeld;intro hHeld
   try simp only[Act.put,s1,s2,s3]
   refine rd [7] (rc (fun K hK=>?_) .nil);go_simp;go_at_call 226;refine(zBw v0 v1 v2 v3 lo hi W S.rs S.rb _ ?_ HR.out cD.out).mono ?_
   ·exact Hp.out.zRX (zA gC lA)
   rintro e w2 ⟨va,rfl,eC,gA⟩;obtain⟨av,cv,rfl,-⟩:=zY eC;have tA:Below W0.heap.size W0 w2:=zA lA gA;obtain⟨⟨k0,_⟩,⟨k1,_⟩,⟨k2,_⟩,⟨k3,_⟩,⟨k4,_⟩,⟨k5,_⟩⟩:=pA.out.zRX tA;obtain⟨_,_,⟨l2,_⟩,⟨l3,_⟩,_⟩:=sA.out.zRX tA;obtain⟨_,_,⟨n5,_⟩,⟨n6,_⟩,_⟩:=rA.out.zRX tA
   (try go_wp2_with fail)
   refine hK.out _ _ (by(try dsimp only);go_keep) ?_;clear hK K hHeld;intro hHeld
   try simp only[Act.put,s1,s2,s3]
   refine tk 9 (h:=?_);have vD:=bD.zRX gA;have pD:=(rC.zRX aD).zRX gA;have nD:(w1.alloc (.cells #[.slice none 0 0] 62)).heap.size=w1.heap.size+1:=World.size_alloc _ _;have mD:Value.ownBlock (.slice aE (zR W.zRd m.rs m.rb).length oD)≠some w1.heap.size:=fun e=>by have:=(rC.lt e).2;omega
   have sD:Value.ownBlock (.slice av (zR W.zRd S.rs S.rb).length cv)≠some w1.heap.size:=fun e=>by have:=(eC.lt e).1;omega
   have vE:=fB.size;obtain⟨rD,tD⟩:=vD;refine rd [10] (rc (fun K hK=>?_) .nil);go_simp;have bA:Below W0.heap.size W0 (w2.setCell ⟨w1.heap.size,0,none⟩ (.slice av (zR W.zRd S.rs S.rb).length cv)):=tA.setCell (show W0.heap.size<=w1.heap.size by omega) _;obtain⟨⟨k0,_⟩,⟨k1,_⟩,⟨k2,_⟩,⟨k3,_⟩,⟨k4,_⟩,⟨k5,_⟩⟩:=pA.out.zRX bA;obtain⟨_,_,⟨l2,_⟩,⟨l3,_⟩,_⟩:=sA.out.zRX bA;obtain⟨_,_,⟨n5,_⟩,⟨n6,_⟩,_⟩:=rA.out.zRX bA
   (try go_wp2_with fail)
   refine hK.out _ _ (by(try dsimp only);go_keep) ?_;clear hK K hHeld;intro hHeld
   try simp only[Act.put,s1,s2,s3]
   refine wpAnyH_done (by kernel_rfl) ?_ _;have jA:=zB (show zW (w2.setCell ⟨w1.heap.size,0,none⟩ (.slice av (zR W.zRd S.rs S.rb).length cv)) w1.heap.size 0 (.slice av (zR W.zRd S.rs S.rb).length cv)from zW.set ⟨rD,tD⟩ _);have aB:=zB ((pD.putNe mD 0 (.slice av (zR W.zRd S.rs S.rb).length cv)).mono (Nat.zero_le _));have vA:=zB ((eC.putNe sD 0 (.slice av (zR W.zRd S.rs S.rb).length cv)).mono (Nat.zero_le _));have oC:=zB (pA.out.zRX bA);have gB:=zB (sA.out.zRX bA);have oB:=zB (rA.out.zRX bA);have kB:=zA gC bA;clear bA hHeld
   as_aux_lemma=>
   generalize (w2.setCell ⟨w1.heap.size,0,none⟩ (.slice av (zR W.zRd S.rs S.rb).length cv))=wz at jA aB vA oC gB oB kB ⊢;generalize w1.heap.size=T at jA ⊢;have nE:=qL W.zRd m.rs m.rb;have cE:=qL W.zRd S.rs S.rb;have dD:=zB (show qm (zR W.zRd m.rs m.rb).length (zf (zR W.zRd m.rs m.rb)) (zh (zR W.zRd m.rs m.rb))from zBK HR.out (fun x hx=>(zAX HR.out nB.out hx).1) (zAk HR.out nB.out) (by omega));have eB:=zB (zKt W m S);clear nB cD HR Hp oC;generalize zR W.zRd m.rs m.rb=tree at *;generalize zR W.zRd S.rs S.rb=old at *;have lE:(qO tree old).length<=tree.length:=List.length_filter_le _ _;have mE:(zAV tree old).length<=tree.length:=List.length_filter_le _ _;have dE:(zAV old (qO tree old)).length<=old.length:=List.length_filter_le _ _;have bE:(zAQ tree S.time).length<=tree.length:=List.length_filter_le _ _;have eE:∀(fn:Fn) (first lC:Array Value) (w:World),(Instr.makeFunc fn first lC).run Tryz.prog w = .ok (.func fn first lC) w:=fun _ _ _ _=>rfl
   go_wp2_with fail;refine(zDG _ _ 0 _ 0 _ T tree old wz (aB.out.atW (by omega)) (by omega) (vA.out.atW (by omega)) jA.out.1).mono ?_;rintro e w3 ⟨vk,vo,rfl,lB,jB,-,dA⟩;obtain⟨ak,ck,rfl,-⟩:=zY lB;obtain⟨ao,co,rfl,-⟩:=zY jB;have aA:=zC w3 (.cells #[.slice ak (qO tree old).length ck] 62);have eA:=zB ((jA.out.zRX dA).zRX aA);have cA:=zB ((aB.out.zRX dA).zRX aA);have fA:=zB ((vA.out.zRX dA).zRX aA);have sB:=zB (lB.zRX aA);have dC:=zB (jB.zRX aA);have bC:=zB ((gB.out.zRX dA).zRX aA);have cC:=zB ((oB.out.zRX dA).zRX aA);have cB:=zB (show zW (w3.alloc (.cells #[.slice ak (qO tree old).length ck] 62)) w3.heap.size 0 (.slice ak (qO tree old).length ck)from zJ (heap_alloc_new _ _) rfl);have rB:=zA (zA kB dA) aA;clear lB jB dA aA jA aB vA gB oB kB;obtain⟨c0,-⟩:=eA.out;go_wp2_with fail;clear c0;generalize w3.alloc (.cells #[.slice ak (qO tree old).length ck] 62)=w4 at eA cA fA sB dC bC cC cB rB ⊢;generalize w3.heap.size=T9 at cB ⊢;refine(zDw _ _ 0 _ 0 _ T9 old (qO tree old) w4 (fA.out.atW (by omega)) (by omega) (sB.out.atW (by omega)) cB.out.1).mono ?_;rintro e w5 ⟨vx,jE,rfl,-,mB,-,iA⟩;obtain⟨gE,iE,rfl,-⟩:=zY mB;have mA:=zB (cA.out.zRX iA);have kC:=zB (dC.out.zRX iA);have nC:=zB (bC.out.zRX iA);have sC:=zB (cC.out.zRX iA);have nA:=zB mB;have pC:=zA rB iA;clear mB iA eA cA fA sB dC bC cC cB rB;obtain⟨-,⟨c4,-⟩,-⟩:=sC.out;go_wp2_with fail;clear c4;refine(zA2 _ tree.length 0 _ (zf tree) (zh tree) S.time w5 (mA.out.atW (by omega))).mono ?_;rintro e w6 ⟨vy,vz,ly,lz,rfl,hY,-,hy,-,-,oA⟩;rw[(hY.1 ⟨dD.out,jD.out⟩).trans (zF4 tree S.time)]at hy;have iD:∀w,(Instr.field 201 (.agg #[vy,vz]) 0).run Tryz.prog w = .ok vy w:=zD2 vy vz;have iC:=zB hy;have tC:=zB (kC.out.zRX oA);have vB:=zB (nC.out.zRX oA);have kA:=zB (nA.out.zRX oA);have aC:=zA pC oA;clear hY hy oA mA kC nC sC nA pC;obtain⟨-,⟨c1,-⟩,-,⟨c3,-⟩,⟨c5,-⟩⟩:=vB.out;by_cases h1:m.rb<=m.time;rotate_left
   ·have Hn:=zB (show ¬zJA W m S from fun h=>h1 (eB.out.1 h).1);go_wp2;go_ret;exact⟨zG.no Hn.out,aC⟩
   have H1:=zB h1;go_wp2_with fail;clear h1 c1 c3 c5 iD;refine(yf _ _ _ 0 _ _ 0 _ _ _ _ _ w6 (iC.out.atW (by omega)) (tC.out.atW (by omega))).mono ?_;rintro e w7 ⟨⟨t7,rfl,jC⟩,bB⟩;have fD:=zB (vB.out.zRX bB);have iB:=zB (kA.out.zRX bB);have pB:=zA aC bB;have dB:=zB jC;clear jC bB iC tC vB kA aC;obtain⟨-,⟨c1,-⟩,-,⟨c3,-⟩,⟨c5,-⟩⟩:=fD.out;cases t7
   ·have Hn:=zB (show ¬zJA W m S from fun h=>absurd (dB.out.2 (eB.out.1 h).2.1) (by simp));clear dB;go_wp2;go_ret;exact⟨zG.no Hn.out,pB⟩
   have H2:=zB (dB.out.1 rfl);clear dB;go_wp2_with fail;clear c1 c3 c5;refine(yf _ _ _ lo hi _ 0 _ _ _ _ _ w7 (kD.out.zRX pB) (iB.out.atW (by omega))).mono ?_;rintro e w8 ⟨⟨t8,rfl,vC⟩,mC⟩;have gD:=zB (vC.trans ⟨fun h=>eB.out.2 ⟨H1.out,H2.out,h⟩,fun h=>(eB.out.1 h).2.2⟩);have eD:=zA pB mC;clear vC mC;go_wp2;go_ret;exact⟨⟨t8,rfl,gD.out⟩,eD⟩
 ·go_simp;have aD:=zC W0.drew (.cells #[.slice none 0 0] 62);have fB:Below W0.heap.size W0 (W0.drew.alloc (.cells #[.slice none 0 0] 62)):=zA lD aD;have bD:zW (W0.drew.alloc (.cells #[.slice none 0 0] 62)) W0.drew.heap.size 0 (.slice none 0 0):=zJ (heap_alloc_new _ _) rfl;obtain⟨⟨k0,_⟩,⟨k1,_⟩,⟨k2,_⟩,⟨k3,_⟩,⟨k4,_⟩,⟨k5,_⟩⟩:=pA.out.zRX fB;obtain⟨_,_,⟨l2,_⟩,⟨l3,_⟩,_⟩:=sA.out.zRX fB;obtain⟨_,_,⟨n5,_⟩,⟨n6,_⟩,_⟩:=rA.out.zRX fB
  (try go_wp2_with fail)
  refine hK.out _ _ (by(try dsimp only);go_keep) ?_;clear hK K hHeld;intro hHeld
  try simp only[Act.put,s1,s2,s3]
  refine rd [3] (rc (fun K hK=>?_) .nil);go_simp;go_at_call 226;refine(zBw v0 v1 v2 v3 lo hi W m.rs m.rb _ ?_ HR.out nB.out).mono ?_
  ·exact Hp.out.zRX (zA gC fB)
  rintro e w1 ⟨vt,rfl,rC,tB⟩;obtain⟨aE,oD,rfl,-⟩:=zY rC;have lA:Below W0.heap.size W0 w1:=zA fB tB;obtain⟨⟨k0,_⟩,⟨k1,_⟩,⟨k2,_⟩,⟨k3,_⟩,⟨k4,_⟩,⟨k5,_⟩⟩:=pA.out.zRX lA;obtain⟨_,_,⟨l2,_⟩,⟨l3,_⟩,_⟩:=sA.out.zRX lA;obtain⟨_,_,⟨n5,_⟩,⟨n6,_⟩,_⟩:=rA.out.zRX lA
  (try go_wp2_with fail)
  refine hK.out _ _ (by(try dsimp only);go_keep) ?_;clear hK K hHeld;intro hHeld
  try simp only[Act.put,s1,s2,s3]
  refine rd [7] (rc (fun K hK=>?_) .nil);go_simp;go_at_call 226;refine(zBw v0 v1 v2 v3 lo hi W S.rs S.rb _ ?_ HR.out cD.out).mono ?_
  ·exact Hp.out.zRX (zA gC lA)
  rintro e w2 ⟨va,rfl,eC,gA⟩;obtain⟨av,cv,rfl,-⟩:=zY eC;have tA:Below W0.heap.size W0 w2:=zA lA gA;obtain⟨⟨k0,_⟩,⟨k1,_⟩,⟨k2,_⟩,⟨k3,_⟩,⟨k4,_⟩,⟨k5,_⟩⟩:=pA.out.zRX tA;obtain⟨_,_,⟨l2,_⟩,⟨l3,_⟩,_⟩:=sA.out.zRX tA;obtain⟨_,_,⟨n5,_⟩,⟨n6,_⟩,_⟩:=rA.out.zRX tA
  (try go_wp2_with fail)
  refine hK.out _ _ (by(try dsimp only);go_keep) ?_;clear hK K hHeld;intro hHeld
  try simp only[Act.put,s1,s2,s3]
  refine tk 9 (h:=?_);rw[sE]at bD;have vD:=(bD.zRX tB).zRX gA;have pD:=rC.zRX gA;have nD:(W0.drew.alloc (.cells #[.slice none 0 0] 62)).heap.size=W0.heap.size+1:=World.size_alloc _ _;have rE:(W0.alloc (.cells #[.slice none 0 0] 62)).drew.heap.size=W0.heap.size+1:=World.size_alloc _ _;have tE:=tB.size;have mD:Value.ownBlock (.slice aE (zR W.zRd m.rs m.rb).length oD)≠some W0.heap.size:=fun e=>by have:=(rC.lt e).1;omega
  have sD:Value.ownBlock (.slice av (zR W.zRd S.rs S.rb).length cv)≠some W0.heap.size:=fun e=>by have:=(eC.lt e).1;omega
  obtain⟨rD,tD⟩:=vD;refine rd [10] (rc (fun K hK=>?_) .nil);go_simp;have bA:Below W0.heap.size W0 (w2.setCell ⟨W0.heap.size,0,none⟩ (.slice av (zR W.zRd S.rs S.rb).length cv)):=tA.setCell (show W0.heap.size<=W0.heap.size by omega) _;obtain⟨⟨k0,_⟩,⟨k1,_⟩,⟨k2,_⟩,⟨k3,_⟩,⟨k4,_⟩,⟨k5,_⟩⟩:=pA.out.zRX bA;obtain⟨_,_,⟨l2,_⟩,⟨l3,_⟩,_⟩:=sA.out.zRX bA;obtain⟨_,_,⟨n5,_⟩,⟨n6,_⟩,_⟩:=rA.out.zRX bA
  (try go_wp2_with fail)
  refine hK.out _ _ (by(try dsimp only);go_keep) ?_;clear hK K hHeld;intro hHeld
  try simp only[Act.put,s1,s2,s3]
  refine wpAnyH_done (by kernel_rfl) ?_ _;have jA:=zB (show zW (w2.setCell ⟨W0.heap.size,0,none⟩ (.slice av (zR W.zRd S.rs S.rb).length cv)) W0.heap.size 0 (.slice av (zR W.zRd S.rs S.rb).length cv)from zW.set ⟨rD,tD⟩ _);have aB:=zB ((pD.putNe mD 0 (.slice av (zR W.zRd S.rs S.rb).length cv)).mono (Nat.zero_le _));have vA:=zB ((eC.putNe sD 0 (.slice av (zR W.zRd S.rs S.rb).length cv)).mono (Nat.zero_le _));have oC:=zB (pA.out.zRX bA);have gB:=zB (sA.out.zRX bA);have oB:=zB (rA.out.zRX bA);have kB:=zA gC bA;clear bA hHeld
  as_aux_lemma=>
  generalize (w2.setCell ⟨W0.heap.size,0,none⟩ (.slice av (zR W.zRd S.rs S.rb).length cv))=wz at jA aB vA oC gB oB kB ⊢;generalize W0.heap.size=T at jA ⊢;have nE:=qL W.zRd m.rs m.rb;have cE:=qL W.zRd S.rs S.rb;have dD:=zB (show qm (zR W.zRd m.rs m.rb).length (zf (zR W.zRd m.rs m.rb)) (zh (zR W.zRd m.rs m.rb))from zBK HR.out (fun x hx=>(zAX HR.out nB.out hx).1) (zAk HR.out nB.out) (by omega));have eB:=zB (zKt W m S);clear nB cD HR Hp oC;generalize zR W.zRd m.rs m.rb=tree at *;generalize zR W.zRd S.rs S.rb=old at *;have lE:(qO tree old).length<=tree.length:=List.length_filter_le _ _;have mE:(zAV tree old).length<=tree.length:=List.length_filter_le _ _;have dE:(zAV old (qO tree old)).length<=old.length:=List.length_filter_le _ _;have bE:(zAQ tree S.time).length<=tree.length:=List.length_filter_le _ _;have eE:∀(fn:Fn) (first lC:Array Value) (w:World),(Instr.makeFunc fn first lC).run Tryz.prog w = .ok (.func fn first lC) w:=fun _ _ _ _=>rfl
  go_wp2_with fail;refine(zDG _ _ 0 _ 0 _ T tree old wz (aB.out.atW (by omega)) (by omega) (vA.out.atW (by omega)) jA.out.1).mono ?_;rintro e w3 ⟨vk,vo,rfl,lB,jB,-,dA⟩;obtain⟨ak,ck,rfl,-⟩:=zY lB;obtain⟨ao,co,rfl,-⟩:=zY jB;have aA:=zC w3 (.cells #[.slice ak (qO tree old).length ck] 62);have eA:=zB ((jA.out.zRX dA).zRX aA);have cA:=zB ((aB.out.zRX dA).zRX aA);have fA:=zB ((vA.out.zRX dA).zRX aA);have sB:=zB (lB.zRX aA);have dC:=zB (jB.zRX aA);have bC:=zB ((gB.out.zRX dA).zRX aA);have cC:=zB ((oB.out.zRX dA).zRX aA);have cB:=zB (show zW (w3.alloc (.cells #[.slice ak (qO tree old).length ck] 62)) w3.heap.size 0 (.slice ak (qO tree old).length ck)from zJ (heap_alloc_new _ _) rfl);have rB:=zA (zA kB dA) aA;clear lB jB dA aA jA aB vA gB oB kB;obtain⟨c0,-⟩:=eA.out;go_wp2_with fail;clear c0;generalize w3.alloc (.cells #[.slice ak (qO tree old).length ck] 62)=w4 at eA cA fA sB dC bC cC cB rB ⊢;generalize w3.heap.size=T9 at cB ⊢;refine(zDw _ _ 0 _ 0 _ T9 old (qO tree old) w4 (fA.out.atW (by omega)) (by omega) (sB.out.atW (by omega)) cB.out.1).mono ?_;rintro e w5 ⟨vx,jE,rfl,-,mB,-,iA⟩;obtain⟨gE,iE,rfl,-⟩:=zY mB;have mA:=zB (cA.out.zRX iA);have kC:=zB (dC.out.zRX iA);have nC:=zB (bC.out.zRX iA);have sC:=zB (cC.out.zRX iA);have nA:=zB mB;have pC:=zA rB iA;clear mB iA eA cA fA sB dC bC cC cB rB;obtain⟨-,⟨c4,-⟩,-⟩:=sC.out;go_wp2_with fail;clear c4;refine(zA2 _ tree.length 0 _ (zf tree) (zh tree) S.time w5 (mA.out.atW (by omega))).mono ?_;rintro e w6 ⟨vy,vz,ly,lz,rfl,hY,-,hy,-,-,oA⟩;rw[(hY.1 ⟨dD.out,jD.out⟩).trans (zF4 tree S.time)]at hy;have iD:∀w,(Instr.field 201 (.agg #[vy,vz]) 0).run Tryz.prog w = .ok vy w:=zD2 vy vz;have iC:=zB hy;have tC:=zB (kC.out.zRX oA);have vB:=zB (nC.out.zRX oA);have kA:=zB (nA.out.zRX oA);have aC:=zA pC oA;clear hY hy oA mA kC nC sC nA pC;obtain⟨-,⟨c1,-⟩,-,⟨c3,-⟩,⟨c5,-⟩⟩:=vB.out;by_cases h1:m.rb<=m.time;rotate_left
  ·have Hn:=zB (show ¬zJA W m S from fun h=>h1 (eB.out.1 h).1);go_wp2;go_ret;exact⟨zG.no Hn.out,aC⟩
  have H1:=zB h1;go_wp2_with fail;clear h1 c1 c3 c5 iD;refine(yf _ _ _ 0 _ _ 0 _ _ _ _ _ w6 (iC.out.atW (by omega)) (tC.out.atW (by omega))).mono ?_;rintro e w7 ⟨⟨t7,rfl,jC⟩,bB⟩;have fD:=zB (vB.out.zRX bB);have iB:=zB (kA.out.zRX bB);have pB:=zA aC bB;have dB:=zB jC;clear jC bB iC tC vB kA aC;obtain⟨-,⟨c1,-⟩,-,⟨c3,-⟩,⟨c5,-⟩⟩:=fD.out;cases t7
  ·have Hn:=zB (show ¬zJA W m S from fun h=>absurd (dB.out.2 (eB.out.1 h).2.1) (by simp));clear dB;go_wp2;go_ret;exact⟨zG.no Hn.out,pB⟩
  have H2:=zB (dB.out.1 rfl);clear dB;go_wp2_with fail;clear c1 c3 c5;refine(yf _ _ _ lo hi _ 0 _ _ _ _ _ w7 (kD.out.zRX pB) (iB.out.atW (by omega))).mono ?_;rintro e w8 ⟨⟨t8,rfl,vC⟩,mC⟩;have gD:=zB (vC.trans ⟨fun h=>eB.out.2 ⟨H1.out,H2.out,h⟩,fun h=>(eB.out.1 h).2.2⟩);have eD:=zA pB mC;clear vC mC;go_wp2;go_ret;exact⟨⟨t8,rfl,gD.out⟩,eD⟩
theorem zQq{W:zH}(h:∀i,i<zq W->qH W.zRd (zO W i).rs (zO W i).rb)(x:Int):qH W.zRd (zN W x).rs (zN W x).rb:=by
 by_cases hx:∃k,qs W x k
 ·obtain⟨k,hk⟩:=hx;rw[qq hk];have:=h k (by unfold zq;have:=hk.1;omega);rw[qQ hk.1]at this;exact this
 ·have:zN W x=yK:=by
   unfold zN;rw[dif_neg hx]
  rw[this];exact Or.inl ⟨rfl,rfl⟩
def zNS(W:zH)(i:Nat):Prop:=zJA W (zO W i) (zN W (zO W i).zRh)
def zPS(W:zH):Prop:=(∀i,i<zq W->qH W.zRd (zO W i).rs (zO W i).rb)/\∀i,i<zq W->zNS W i
def zKQ(W:zH):Prop:=∀x,zCE (zN W x).time
theorem zIg(v0 v1 v2 v3:Value)(lo hi:Nat)(W:zH)(A:Nat)(w:World)(h:zk w lo hi v0 v1 v2 v3 W)(hs:W.sn<=8)(hp:W.pn<=20)(hA:zBW w lo hi W A)(hD:zCU W)(dB:zCQ W)(hR:zx W.zRd)(hT:zKQ W) :
  Calls Tryz.prog 207 #[zz v0 v1 v2 v3 W,zGX A] w fun e w'=>zG (zPS W) e/\Below w.heap.size w w':=by
 have Hp:=zB h;have HA:=zB hA;have HD:=zB hD;have jB:=zB dB;have HR:=zB hR;have gB:=zB hT;clear h hA hD dB hR hT;have ha:=zC w (.cells #[v0,v1,.int .i64 W.time,.int .i64 W.next,v2,v3] 37);have HB:=zB (zi.zRZ w v0 v1 (.int .i64 W.time) (.int .i64 W.next) v2 v3 37);obtain⟨⟨x0,-⟩,⟨x2,-⟩,⟨x4,-⟩,⟨x6,-⟩,⟨x8,-⟩,⟨eB,-⟩⟩:=HB.out;go_enter Tryz.func207,Tryz.ntmps207;go_wp2_with fail;clear x0 x2 x4 x6 x8 eB;generalize w.alloc (.cells #[v0,v1,.int .i64 W.time,.int .i64 W.next,v2,v3] 37)=W0 at ha HB ⊢;refine(zDN v0 v1 v2 v3 lo hi W W0 (Hp.out.zRX ha) hs hp).mono ?_;rintro e w1 ⟨vm,vd,rfl,hm,nA⟩;have HM:=zB hm;have bB:=zB (HB.out.zRX nA);have jA:=zA ha nA;obtain⟨am,cm,rfl,oB⟩:=id hm.form;have pB:zq W<=28:=by unfold zq;omega
 clear ha nA hm HB;go_wp2
 go_loopw [14] (fun i wr=>∃k:Nat,k<=zq W/\i = .int .i64 k/\(∀j,j<k->qH W.zRd (zO W j).rs (zO W j).rb)/\Below w1.heap.size w1 wr) (fun i _=>zq W - (intOf i).toNat)
 case atStart=>exact⟨0,Nat.zero_le _,rfl,fun j hj=>absurd hj (Nat.not_lt_zero _),Below.refl _ _⟩
 case round=>
  obtain⟨k,hk,rfl,cA,hb⟩:=hrel;have aA:=zB cA;clear cA;by_cases bA:k<zq W
  ·have oA:(k:Int)<(zq W:Int):=(by omega);obtain⟨g,cg,e,q0,q1,q2,q3,q4⟩:=(HM.out.zRX hb).cells k bA;obtain⟨-,ad,cd,lA,-,-⟩:=id ((HM.out.zRX hb).zRl k bA);rw[lA]at q4;cases e;have dA:=zC wr (.cells #[.int .i64 (zO W k).zRh,.int .i64 (zO W k).time,.int .i64 (zO W k).rs,.int .i64 (zO W k).rb,.slice ad (zO W k).dn cd] 224);have HV:=zB (zEG.zRZ wr (.int .i64 (zO W k).zRh) (.int .i64 (zO W k).time) (.int .i64 (zO W k).rs) (.int .i64 (zO W k).rb) (.slice ad (zO W k).dn cd) 224);have gA:=zB ((bB.out.zRX hb).zRX dA);have eA:=zA hb dA;clear lA dA;obtain⟨⟨y0,-⟩,⟨y1,-⟩,⟨y2,-⟩,⟨y3,-⟩,⟨y4,-⟩⟩:=HV.out;obtain⟨⟨x0,-⟩,⟨x2,-⟩,-⟩:=gA.out;go_wp2_with fail;clear q0 q1 q2 q3 q4 y0 y1 y2 y3 y4 x0 x2;refine(zFK v0 v1 lo hi W.zRd (zO W k).rs (zO W k).rb _ (Hp.out.zRd.zRX (zA jA eA)) HR.out).mono ?_;rintro e w6 ⟨⟨t6,rfl,sA⟩,kA⟩;have Ht:=zB (sA.trans (zF5 HR.out));have iA:=zA eA kA;clear sA kA eA HV gA;cases t6
   ·have Hn:=zB (show ¬qH W.zRd (zO W k).rs (zO W k).rb from fun hA=>absurd (Ht.out.2 hA) (by simp));clear Ht;go_wp2;go_ret;exact⟨zG.no fun hA=>Hn.out (hA.1 k bA),zA jA iA⟩
   ·have Hn:=zB (Ht.out.1 rfl);clear Ht;go_wp2;go_roundw
    case rel=>exact⟨k+1,by omega,by go_num,zo bA aA.out Hn.out,iA⟩
    case measure=>simp[intOf];omega
  obtain rfl:k=zq W:=(by omega);have pA:=zB aA.out;clear aA bA hk;go_wp2
  go_loopw [27] (fun i wr=>∃k:Nat,k<=zq W/\i = .int .i64 k/\(∀j,j<k->zNS W j)/\Below w1.heap.size w1 wr) (fun i _=>zq W - (intOf i).toNat)
  case atStart=>exact⟨0,Nat.zero_le _,rfl,fun j hj=>absurd hj (Nat.not_lt_zero _),hb⟩
  case round=>
   clear hb;obtain⟨k,hk,rfl,cA,hb⟩:=hrel;have aA:=zB cA;clear cA;by_cases bA:k<zq W;rotate_left
   ·obtain rfl:k=zq W:=(by omega);go_wp2;go_ret;exact⟨zG.yes ⟨pA.out,aA.out⟩,zA jA hb⟩
   have oA:(k:Int)<(zq W:Int):=(by omega);obtain⟨g,cg,e,q0,q1,q2,q3,q4⟩:=(HM.out.zRX hb).cells k bA;have mA:=(HM.out.zRX hb).zRl k bA;obtain⟨-,ad,cd,lA,-,-⟩:=id mA;rw[lA]at q4 mA;cases e;have dA:=zC wr (.cells #[.int .i64 (zO W k).zRh,.int .i64 (zO W k).time,.int .i64 (zO W k).rs,.int .i64 (zO W k).rb,.slice ad (zO W k).dn cd] 224);have HV:=zB (zEG.zRZ wr (.int .i64 (zO W k).zRh) (.int .i64 (zO W k).time) (.int .i64 (zO W k).rs) (.int .i64 (zO W k).rb) (.slice ad (zO W k).dn cd) 224);have gA:=zB ((bB.out.zRX hb).zRX dA);have vA:=zB (mA.zRX dA);have eA:=zA hb dA;have rA:=zB (HA.out.zRX (zA jA eA));have tA:=zB (Hp.out.zRX (zA jA eA));have lB:=zB (jB.out k bA);have iB:=zB (pA.out k bA);have nB:=zB (zQq pA.out (zO W k).zRh);have fB:=zB (gB.out (zO W k).zRh);have mB:=zB (show zNS W k↔zJA W (zO W k) (zN W (zO W k).zRh)from Iff.rfl);clear lA dA mA;generalize zO W k=mk at *;go_wp2_with fail;clear q0 q1 q2 q3 q4;generalize wr.alloc (.cells #[.int .i64 mk.zRh,.int .i64 mk.time,.int .i64 mk.rs,.int .i64 mk.rb,.slice ad mk.dn cd] 224)=W2 at HV gA vA rA tA eA ⊢;generalize wr.heap.size=V at HV ⊢;obtain⟨⟨y0,-⟩,⟨y1,-⟩,⟨y2,-⟩,⟨y3,-⟩,⟨y4,-⟩⟩:=HV.out;obtain⟨⟨x0,-⟩,⟨x1,-⟩,⟨x2,-⟩,⟨x3,-⟩,⟨x4,-⟩,⟨x5,-⟩⟩:=gA.out;go_region_held3 (fun w'=>w'.cell? ⟨w.heap.size,0,none⟩=some v0/\w'.cell? ⟨w.heap.size,1,none⟩=some v1/\w'.cell? ⟨w.heap.size,2,none⟩=some (.int .i64 W.time)/\w'.cell? ⟨w.heap.size,3,none⟩=some (.int .i64 W.next)/\w'.cell? ⟨w.heap.size,4,none⟩=some v2/\w'.cell? ⟨w.heap.size,5,none⟩=some v3/\w'.cell? ⟨V,0,none⟩=some (.int .i64 mk.zRh)/\w'.cell? ⟨V,1,none⟩=some (.int .i64 mk.time)/\w'.cell? ⟨V,2,none⟩=some (.int .i64 mk.rs)/\w'.cell? ⟨V,3,none⟩=some (.int .i64 mk.rb)/\w'.cell? ⟨V,4,none⟩=some (.slice ad mk.dn cd)) (go_keep)
    (first
     | (go_at_call 190;refine(zBt lo hi W A mk.zRh _ ?_ HD.out lB.out hp).mono ?_;(exact rA.out.zRX (Below.refl _ _).drew);rintro e w6 ⟨aa,ca,rfl,kB,kA⟩;have fA:=zK kA;obtain⟨⟨k0,_⟩,⟨k1,_⟩,⟨k2,_⟩,⟨k3,_⟩,⟨k4,_⟩,⟨k5,_⟩⟩:=gA.out.zRX fA;obtain⟨⟨l0,_⟩,⟨l1,_⟩,⟨l2,_⟩,⟨l3,_⟩,⟨l4,_⟩⟩:=HV.out.zRX fA)
     | (go_at_call 225;refine(zHO v0 v1 v2 v3 lo hi W mk (zN W mk.zRh) ad aa cd ca _ (tA.out.zRX fA) HR.out iB.out nB.out (vA.out.zRX fA) fB.out).mono ?_;rintro e w7 ⟨⟨t7,rfl,cB⟩,iA⟩;obtain⟨⟨f0,_⟩,⟨f1,_⟩,⟨f2,_⟩,⟨f3,_⟩,⟨f4,_⟩,⟨f5,_⟩⟩:=(gA.out.zRX fA).zRX iA;obtain⟨⟨g0,_⟩,⟨g1,_⟩,⟨g2,_⟩,⟨g3,_⟩,⟨g4,_⟩⟩:=(HV.out.zRX fA).zRX iA))
   have aB:=zA (zA eA fA) iA;have Ht:=zB (cB.trans mB.out.symm);clear cB iA fA kA kB k0 k1 k2 k3 k4 k5 l0 l1 l2 l3 l4 f0 f1 f2 f3 f4 f5 g0 g1 g2 g3 g4 x0 x1 x2 x3 x4 x5 y0 y1 y2 y3 y4;cases t7
   ·have Hn:=zB (show ¬zNS W k from fun hA=>absurd (Ht.out.2 hA) (by simp));clear Ht;go_wp2;go_ret;exact⟨zG.no fun hA=>Hn.out (hA.2 k bA),zA jA aB⟩
   ·have Hn:=zB (Ht.out.1 rfl);clear Ht;go_wp2;go_roundw
    case rel=>exact⟨k+1,by omega,by go_num,zo bA aA.out Hn.out,aB⟩
    case measure=>simp[intOf];omega
theorem zQQ(s t:ByteArray):(s.toList == t.toList)=true↔s=t:=⟨fun h=>zO1 (by simpa using h),fun h=>zCt h⟩
theorem zOc(a:Option Addr)(c:Nat)(s:zl)(name:ByteArray)(T:Nat)(w:World)(hT:w.cell? ⟨T,0,none⟩=some (.string name)) :
  Calls Tryz.prog 230 #[yd (.slice a s.dn c) s,.pointer (some ⟨T,0,none⟩)] w fun e w'=>zG (s.set=name) e/\Below w.heap.size w w':=by
 unfold yd;have bA:=zC w (.cells #[.int .i64 s.id,.string s.name,.string s.set,.int .i64 s.zRh,.int .i64 s.time,.int .i64 s.rs,.int .i64 s.rb,.slice a s.dn c] 99);have cA:=(bA.cell (p:=⟨T,0,none⟩) (zD hT)).trans hT;obtain⟨⟨⟨y0,-⟩,⟨y1,-⟩,⟨y2,-⟩,⟨y3,-⟩⟩,-⟩:=zCP.zRZ w (.int .i64 s.id) (.string s.name) (.string s.set) (.int .i64 s.zRh) (.int .i64 s.time) (.int .i64 s.rs) (.int .i64 s.rb) (.slice a s.dn c) 99;clear hT;have aA:=zB (zQQ s.set name);go_enter Tryz.func230,Tryz.ntmps230;go_wp2;go_ret;exact⟨⟨_,rfl,aA.out⟩,bA⟩
def zGw(w:World)(base:Nat)(v:Value)(n:Nat):Prop:=∃xs,w.ownsRow base 99 8 v n xs
theorem zGw.zRX{w w1:World}{base:Nat}{v:Value}{n:Nat}(h:zGw w base v n)(hb:Below w.heap.size w w1):zGw w1 base v n:=by
 obtain⟨xs,h⟩:=h;exact⟨xs,h.kept (yt hb none) (by cases v.ownBlock<;>simp)⟩
theorem zGw.lt{w:World}{base:Nat}{v:Value}{n:Nat}(h:zGw w base v n){q:Nat}(hq:v.ownBlock=some q):base<=q/\q<w.heap.size:=by
 obtain⟨xs,h⟩:=h;rcases h.2 with⟨rfl,_⟩ | ⟨g,bA,aA,rfl,hb,hg,_⟩
 ·simp[Value.ownBlock]at hq
 ·simp only[Value.ownBlock,Option.some.injEq]at hq;subst hq;exact⟨hb,(Array.getElem?_eq_some_iff.1 hg).1⟩
theorem zGw.zRf{w w1:World}{base:Nat}{v:Value}{n:Nat}{row:Option Nat}(h:zGw w base v n)(hg:w.grownBy w1 row)(aA:∀q,v.ownBlock=some q->row≠some q):zGw w1 base v n:=by
 obtain⟨xs,h⟩:=h;refine⟨xs,h.kept hg ?_⟩;cases hv:v.ownBlock with
 | none=>simp
 | some q=>exact Or.inr (fun e=>aA q hv e.symm)
theorem zON:(Tryz.prog.info? 99).map (fun i=>(i.zero,i.size,i.bytes))=some (some (.agg #[.int .i64 0,.string ⟨#[]⟩,.string ⟨#[]⟩,.int .i64 0,.int .i64 0,.int .i64 0,.int .i64 0,.slice none 0 0]),8,96):=by kernel_rfl
def zRU(w w':World)(v v':Value)(n n':Nat):Prop:=zGw w' w.heap.size v n/\zGw w' w.heap.size v' n'/\(∀q,v.ownBlock=some q->v'.ownBlock≠some q)/\Below w.heap.size w w'
theorem zJF{w1 w2:World}{base g bA n n':Nat}{v v':Value}{xs:List Value}(h':zGw w1 base v' n')(ha:∀q,v.ownBlock=some q->v'.ownBlock≠some q)
  (aA:w2.ownsRow base 99 8 (.slice (some ⟨g,0,none⟩) (n+1) bA) (n+1) xs) (hg:w1.grownBy w2 v.ownBlock) (cA:v.ownBlock=some g\/g=w1.heap.size) :
  zGw w2 base (.slice (some ⟨g,0,none⟩) (n+1) bA) (n+1)/\zGw w2 base v' n'/\(∀q,(Value.slice (some ⟨g,0,none⟩) (n+1) bA).ownBlock=some q->v'.ownBlock≠some q):=by
 refine⟨⟨xs,aA⟩,h'.zRf hg (fun q hq e=>ha q e hq),fun q hq e=>?_⟩;simp only[Value.ownBlock,Option.some.injEq]at hq;subst hq;rcases cA with h | h
 ·exact ha _ h e
 ·have:=(h'.lt e).2;omega
theorem zJ2(v:Value)(lo hi:Nat)(W:zH)(name:ByteArray)(T:Nat)(w:World)(h:qu w lo hi v W.pn W.zRe)(hn:W.pn<=20)(hT:w.cell? ⟨T,0,none⟩=some (.string name)) :
  Calls Tryz.prog 229 #[v,.func (.func 230) #[] #[.pointer (some ⟨T,0,none⟩)]] w fun e w'=>∃a c vo,e = .returned (.tuple #[.slice a (yq W name W.pn) c,vo])/\Below w.heap.size w w':=by
 have Hp:=zB h;have HT:=zB hT;obtain⟨m1,a,c,rfl,mc,-⟩:=id h;unfold maxLen at m1;clear h hT;obtain⟨i0,tA,nA⟩:=Option.map_eq_some_iff.1 zON;simp only[Prod.mk.injEq]at nA;have HI:=zB (And.intro tA nA);clear tA nA;have kB:∀(fn:Fn) (first bB:Array Value) (w:World),(Instr.makeFunc fn first bB).run Tryz.prog w = .ok (.func fn first bB) w:=fun _ _ _ _=>rfl
 go_enter Tryz.func229,Tryz.ntmps229;go_wp2
 go_loopw [6,7,12] (fun vy vo i wr=>∃k:Nat,k<=W.pn/\i = .int .i64 k/\zRU w wr vy vo (yq W name k) (k - yq W name k)) (fun _ _ i _=>W.pn - (intOf i).toNat)
 case atStart=>exact⟨0,Nat.zero_le _,rfl,⟨[],World.ownsRow_nil _ _ _ _⟩,⟨[],World.ownsRow_nil _ _ _ _⟩,fun q hq=>by simp[Value.ownBlock]at hq,Below.refl _ _⟩
 case round=>
  obtain⟨k,hk,rfl,hy,ho,cB,hb⟩:=hrel;have Hy:=zB hy;have Ho:=zB ho;have aB:=zB cB;have gB:=zHZ W name k;clear hy ho cB;by_cases fB:k<W.pn
  ·have iB:(k:Int)<(W.pn:Int):=(by omega);obtain⟨b,off,vd,rfl,cA⟩:=(Hp.out.zRX hb).cells fB;obtain⟨-,ad,cd,rfl,-,-⟩:=id cA.zRl;have iA:=zC wr (.cells #[.int .i64 (W.zRe k).id,.string (W.zRe k).name,.string (W.zRe k).set,.int .i64 (W.zRe k).zRh,.int .i64 (W.zRe k).time,.int .i64 (W.zRe k).rs,.int .i64 (W.zRe k).rb,.slice ad (W.zRe k).dn cd] 99);have HV:=zB (zCP.zRZ wr (.int .i64 (W.zRe k).id) (.string (W.zRe k).name) (.string (W.zRe k).set) (.int .i64 (W.zRe k).zRh) (.int .i64 (W.zRe k).time) (.int .i64 (W.zRe k).rs) (.int .i64 (W.zRe k).rb) (.slice ad (W.zRe k).dn cd) 99);have mA:=zA hb iA;have vA:=zB ((mA.cell (p:=⟨T,0,none⟩) (zD HT.out)).trans HT.out);have q0:=cA.c0;have q1:=cA.c1;have q2:=cA.c2;have q3:=cA.c3;have q4:=cA.c4;have q5:=cA.c5;have q6:=cA.c6;have q7:=cA.c7;obtain⟨⟨⟨y0,-⟩,⟨y1,-⟩,⟨y2,-⟩,⟨y3,-⟩⟩,⟨y4,-⟩,⟨y5,-⟩,⟨y6,-⟩,⟨y7,-⟩⟩:=HV.out;clear cA;go_wp2_with fail;clear q0 q1 q2 q3 q4 q5 q6 q7 y0 y1 y2 y3 y4 y5 y6 y7;refine(zOc ad cd (W.zRe k) name T _ vA.out).mono ?_;rintro e w1 ⟨⟨s,rfl,hs⟩,fA⟩;have dB:=zB ((Hy.out.zRX iA).zRX fA);have eB:=zB ((Ho.out.zRX iA).zRX fA);have jB:=zB (HV.out.zRX fA);have sA:=zA mA fA;clear fA mA iA Hy Ho HV vA;have mB:=sA.size;obtain⟨⟨⟨y0,-⟩,⟨y1,-⟩,⟨y2,-⟩,⟨y3,-⟩⟩,⟨y4,-⟩,⟨y5,-⟩,⟨y6,-⟩,⟨y7,-⟩⟩:=jB.out;have gA:=zC w1 (.cells #[.int .i64 (W.zRe k).id,.string (W.zRe k).name,.string (W.zRe k).set,.int .i64 (W.zRe k).zRh,.int .i64 (W.zRe k).time,.int .i64 (W.zRe k).rs,.int .i64 (W.zRe k).rb,.slice ad (W.zRe k).dn cd] 99);have pA:=zB (dB.out.zRX gA);have kA:=zB (eB.out.zRX gA);have jA:=zA sA gA;have lB:=gA.size;have HN:=zB (World.news_of_block (heap_alloc_last w1 (.cells #[.int .i64 (W.zRe k).id,.string (W.zRe k).name,.string (W.zRe k).set,.int .i64 (W.zRe k).zRh,.int .i64 (W.zRe k).time,.int .i64 (W.zRe k).rs,.int .i64 (W.zRe k).rb,.slice ad (W.zRe k).dn cd] 99)));clear gA;by_cases hq:(W.zRe k).set=name
   ·obtain rfl:s=true:=hs.2 hq;have ey:=zB (zID hq);clear hs hq;obtain⟨xs,dA⟩:=pA.out;have lA:=zB dA;clear dA;go_wp2_with (first
     | (at_builtin;refine wpList_append_lies _ rfl _ _ 35 rfl w.heap.size 99 i0 (.agg #[.int .i64 0,.string ⟨#[]⟩,.string ⟨#[]⟩,.int .i64 0,.int .i64 0,.int .i64 0,.int .i64 0,.slice none 0 0]) 8 96 (by kernel_rfl) HI.out.1 HI.out.2.1 HI.out.2.2.1 HI.out.2.2.2 rfl (by decide) _ _ _ rfl lA.out ⟨w1.heap.size,0,none⟩ 1 1 [.int .i64 (W.zRe k).id,.string (W.zRe k).name,.string (W.zRe k).set,.int .i64 (W.zRe k).zRh,.int .i64 (W.zRe k).time,.int .i64 (W.zRe k).rs,.int .i64 (W.zRe k).rb,.slice ad (W.zRe k).dn cd] rfl rfl HN.out (by simp[Value.oneCell']) (by decide) (by unfold maxLen;omega) (by omega) (by omega) _ rfl ?_;intro g' rA w4 bA aA eA oA)
     | go_in)
    go_roundw
    case rel=>
     obtain⟨r1,r2,r3⟩:=zJF kA.out aB.out bA aA eA;refine⟨k+1,by omega,by go_num,by rw[ey.out];exact r1,?_,r3,jA.grown aA jA.size (fun q hq=>(pA.out.lt hq).1)⟩;rw[ey.out,show k+1 - (yq W name k+1)=k - yq W name k by omega];exact r2
    case measure=>simp[intOf];omega
   ·obtain rfl:s=false:=zQ hs hq;have ey:=zB (zKz hq);clear hs hq;obtain⟨xs,dA⟩:=kA.out;have lA:=zB dA;clear dA;go_wp2_with (first
     | (at_builtin;refine wpList_append_lies _ rfl _ _ 35 rfl w.heap.size 99 i0 (.agg #[.int .i64 0,.string ⟨#[]⟩,.string ⟨#[]⟩,.int .i64 0,.int .i64 0,.int .i64 0,.int .i64 0,.slice none 0 0]) 8 96 (by kernel_rfl) HI.out.1 HI.out.2.1 HI.out.2.2.1 HI.out.2.2.2 rfl (by decide) _ _ _ rfl lA.out ⟨w1.heap.size,0,none⟩ 1 1 [.int .i64 (W.zRe k).id,.string (W.zRe k).name,.string (W.zRe k).set,.int .i64 (W.zRe k).zRh,.int .i64 (W.zRe k).time,.int .i64 (W.zRe k).rs,.int .i64 (W.zRe k).rb,.slice ad (W.zRe k).dn cd] rfl rfl HN.out (by simp[Value.oneCell']) (by decide) (by unfold maxLen;omega) (by omega) (by omega) _ rfl ?_;intro g' rA w4 bA aA eA oA)
     | go_in)
    go_roundw
    case rel=>
     obtain⟨r1,r2,r3⟩:=zJF pA.out (fun q h h'=>aB.out q h' h) bA aA eA;refine⟨k+1,by omega,by go_num,by rw[ey.out];exact r2,?_,fun q h h'=>r3 q h' h,jA.grown aA jA.size (fun q hq=>(kA.out.lt hq).1)⟩;rw[ey.out,show k+1 - yq W name k=k - yq W name k+1 by omega];exact r1
    case measure=>simp[intOf];omega
  ·obtain rfl:k=W.pn:=(by omega);obtain⟨xs,dA⟩:=Hy.out;obtain⟨ay,cy,rfl,-⟩:=zY dA;clear dA;go_wp2
   go_ret2
   exact⟨ay,cy,_,rfl,hb⟩
theorem zN8{W:zH}{name:ByteArray}(aA:name.toList.isEmpty=false)(y:Int):(zN W y).set=name↔zGP W name y:=by
 constructor
 ·intro h;by_cases hx:∃k,qs W y k
  ·obtain⟨k,hk⟩:=hx;rw[qq hk]at h;exact⟨k,hk,h⟩
  ·have e:zN W y=yK:=(by unfold zN;rw[dif_neg hx]);rw[e]at h;rw[<-h]at aA;have h0:yK.set.toList = []:=(by rw[Go.ByteArray.toList_eq];rfl);rw[h0]at aA;exact absurd aA (by decide)
 ·rintro⟨k,hk,h⟩;rw[qq hk];exact h
theorem zCw.wf{W:zH}{name:ByteArray}{start:Int}{n:Nat}{y:Int}(h:zCw W name start n y):(Lit.int .i64 y).wf=true:=by
 have h1:=h.least;have h2:=h.sum;exact WalkArith.wf_i64 (by omega)
theorem zIq(v0 v1 v2 v3:Value)(lo hi:Nat)(W:zH)(A:Nat)(sa:Option Addr)(sc:Nat)(S:qD)(w:World)(h:zk w lo hi v0 v1 v2 v3 W)(hp:W.pn<=20)(hA:zBW w lo hi W A)(hD:zCU W)(hP:zCF W)(sA:S.name.toList.isEmpty=false)(hS:S.zRh=0\/ql W S.zRh) :
  Calls Tryz.prog 224 #[zz v0 v1 v2 v3 W,zDU (.slice sa S.dn sc) S,zGX A] w fun e w'=>zG (zBc W S.name S.zRh S.origin) e/\Below w.heap.size w w':=by
 unfold zDU;have Hp:=zB h;have HA:=zB hA;have HD:=zB hD;have HP:=zB hP;have cA:=zB (zN8 (W:=W) sA);have kB:=zB hS;clear h hA hD hP sA hS;have rB:∀(fn:Fn) (first cB:Array Value) (w:World),(Instr.makeFunc fn first cB).run Tryz.prog w = .ok (.func fn first cB) w:=fun _ _ _ _=>rfl
 have ha:=zC w (.cells #[v0,v1,.int .i64 W.time,.int .i64 W.next,v2,v3] 37);have hB:=zi.zRZ w v0 v1 (.int .i64 W.time) (.int .i64 W.next) v2 v3 37;have hz:(w.alloc (.cells #[v0,v1,.int .i64 W.time,.int .i64 W.next,v2,v3] 37)).heap.size=w.heap.size+1:=World.size_alloc _ _;have lA:=zC (w.alloc (.cells #[v0,v1,.int .i64 W.time,.int .i64 W.next,v2,v3] 37)) (.cells #[.string S.name,.int .i64 S.origin,.int .i64 S.zRh,.int .i64 S.rs,.int .i64 S.rb,.slice sa S.dn sc] 67);have hT:=zi.zRZ (w.alloc (.cells #[v0,v1,.int .i64 W.time,.int .i64 W.next,v2,v3] 37)) (.string S.name) (.int .i64 S.origin) (.int .i64 S.zRh) (.int .i64 S.rs) (.int .i64 S.rb) (.slice sa S.dn sc) 67;rw[hz]at hT;have HT:=zB hT;have gA:=zA ha lA;obtain⟨⟨x0,-⟩,⟨x2,-⟩,⟨x4,-⟩,⟨x6,-⟩,⟨x8,-⟩,⟨fB,-⟩⟩:=hB.zRX lA;clear hT ha lA hB;go_enter Tryz.func224,Tryz.ntmps224;go_wp2_with fail;clear x0 x2 x4 x6 x8 fB;generalize (w.alloc (.cells #[v0,v1,.int .i64 W.time,.int .i64 W.next,v2,v3] 37)).alloc (.cells #[.string S.name,.int .i64 S.origin,.int .i64 S.zRh,.int .i64 S.rs,.int .i64 S.rb,.slice sa S.dn sc] 67)=W0 at HT gA ⊢;refine(zJ2 v3 lo hi W S.name (w.heap.size+1) W0 (Hp.out.zRe.zRX gA) hp HT.out.1.1).mono ?_;rintro e w1 ⟨ay,cy,vo,rfl,mA⟩;have oA:=zB (HT.out.zRX mA);have tA:=zA gA mA;have oB:=zHZ W S.name W.pn;clear HT gA mA hz;obtain⟨⟨y0,-⟩,⟨y1,-⟩,⟨y2,-⟩,-⟩:=oA.out;go_wp2;clear y0 y1 y2;generalize w.heap.size+1=T at *
 go_loopw [9,10] (fun x i wr=>∃(n:Nat) (y:Int),i = .int .i64 n/\x = .int .i64 y/\zCw W S.name S.zRh n y/\zi wr T (.string S.name) (.int .i64 S.origin) (.int .i64 S.zRh) (.int .i64 S.rs) (.int .i64 S.rb) (.slice sa S.dn sc)/\Below w.heap.size w wr) (fun x _ _=>(intOf x).toNat)
 case atStart=>exact⟨0,_,rfl,rfl,zCw.start HP.out _ kB.out,oA.out,tA⟩
 case round=>
  clear oA tA;obtain⟨n,y,rfl,rfl,hw,hT,hb⟩:=hrel;have HT:=zB hT;have Hw:=zB hw;have nA:=zB hw.wf;have eB:=hw.sum;have nB:=hw.least;clear hT hw;have fA:=zB (HA.out.zRX hb);obtain⟨⟨y0,-⟩,⟨y1,-⟩,-⟩:=HT.out;by_cases hq:(zN W y).set=S.name
  ·obtain⟨kk,dA,rA⟩:=(cA.out y).1 hq;have dB:=zB (Hw.out.next HP.out dA rA);have jB:=zB (show(W.zRe kk).zRh<y by have h1:=HP.out.less kk dA.1;have h2:=dA.2.1;omega);have gB:=zB (show(zN W y).zRh=(W.zRe kk).zRh by rw[qq dA]);have Hq:=zB hq;clear dA rA hq;go_wp2_with fail;go_region_held3 (fun w'=>w'.cell? ⟨T,0,none⟩=some (.string S.name)) (go_keep)
    (first | (go_at_call 190;refine(zBt lo hi W A y _ ?_ HD.out nA.out hp).mono ?_;(exact fA.out.zRX (Below.refl _ _).drew);rintro e w6 ⟨aa,ca,rfl,eA,aA⟩;have iA:=fun w=>(show(Instr.field 99 (yd (.slice aa (zN W y).dn ca) (zN W y)) 2).run Tryz.prog w = .ok (.string S.name) w by rw[<-Hq.out];exact(zDn (.slice aa (zN W y).dn ca) (zN W y) w).2.1);obtain⟨⟨z0,_⟩,_⟩:=HT.out.zRX (zK aA)))
   have jA:=zB (HT.out.zRX (zK aA));have bA:=qd hb aA;have vA:=zB (HA.out.zRX bA);have pB:(n:Int)<1000000:=(by omega);clear aA eA iA z0 y0 y1 HT fA hb;go_wp2_with fail;refine(zBt lo hi W A y _ vA.out HD.out nA.out hp).mono ?_;rintro e w7 ⟨bB,aB,rfl,eA,kA⟩;have iA:=fun w=>(show(Instr.field 99 (yd (.slice bB (zN W y).dn aB) (zN W y)) 3).run Tryz.prog w = .ok (.int .i64 (W.zRe kk).zRh) w by rw[<-gB.out];exact(zDn (.slice bB (zN W y).dn aB) (zN W y) w).2.2.1)
   have mB:=zB (jA.out.zRX kA);have iB:=zA bA kA;clear eA kA jA bA vA;go_wp2;go_roundw
   case rel=>exact⟨n+1,_,by go_num,rfl,dB.out,mB.out,iB⟩
   case measure=>simp[intOf];have:=jB.out;have:=dB.out.least;omega
  ·have lB:=zB (fun h=>hq ((cA.out y).2 h));have f1:=zEP hq;clear hq;go_wp2_with fail;go_region_held3 (fun w'=>w'.cell? ⟨T,0,none⟩=some (.string S.name)) (go_keep)
    (first | (go_at_call 190;refine(zBt lo hi W A y _ ?_ HD.out nA.out hp).mono ?_;(exact fA.out.zRX (Below.refl _ _).drew);rintro e w6 ⟨aa,ca,rfl,eA,aA⟩;have iA:=fun w=>(zDn (.slice aa (zN W y).dn ca) (zN W y) w).2.1;obtain⟨⟨z0,_⟩,_⟩:=HT.out.zRX (zK aA)))
   have jA:=zB (HT.out.zRX (zK aA));have bA:=qd hb aA;clear aA eA iA z0 y0 y1 HT fA hb f1;obtain⟨⟨z0,-⟩,⟨z1,-⟩,-⟩:=jA.out;have pA:=zB (zC1 (origin:=S.origin) Hw.out.steps lB.out);by_cases h1:n=yq W S.name W.pn
   ·by_cases h2:y=S.origin
    ·have Hl:=zB (pA.out.2 ⟨h1,h2⟩);have g1:((n:Int) == (yq W S.name W.pn:Int))=true:=(by simp[h1]);have g2:(y == S.origin)=true:=(by simp[h2]);clear h1 h2;go_wp2;go_ret;exact⟨zG.yes Hl.out,bA⟩
    ·have Hl:=zB (fun h=>h2 (pA.out.1 h).2);have g1:((n:Int) == (yq W S.name W.pn:Int))=true:=(by simp[h1]);have g2:(y == S.origin)=false:=(by simp[h2]);clear h1 h2;go_wp2;go_ret;exact⟨zG.no Hl.out,bA⟩
   ·have Hl:=zB (fun h=>h1 (pA.out.1 h).1);have h3:¬(n:Int)=(yq W S.name W.pn:Int):=(by omega);have g1:((n:Int) == (yq W S.name W.pn:Int))=false:=(by simp[h3]);clear h1 h3;go_wp2;go_ret;exact⟨zG.no Hl.out,bA⟩
theorem zH7(v0 v1 v2 v3:Value)(lo hi:Nat)(W:zH)(A:Nat)(w:World)(h:zk w lo hi v0 v1 v2 v3 W)(hp:W.pn<=20)(hs:W.sn<=8)(hA:zBW w lo hi W A)(hD:zCU W)(hP:zCF W) :
  Calls Tryz.prog 206 #[zz v0 v1 v2 v3 W,zGX A] w fun e w'=>zG (∀i,i<W.sn->zBc W (W.zRg i).name (W.zRg i).zRh (W.zRg i).origin) e/\Below w.heap.size w w':=by
 have Hp:=zB h;have HA:=zB hA;have HD:=zB hD;have HP:=zB hP;obtain⟨m2,a',c',rfl,oA,-⟩:=id h.zRg;unfold maxLen at m2;clear h hA hD hP;have ha:=zC w (.cells #[v0,v1,.int .i64 W.time,.int .i64 W.next,.slice a' W.sn c',v3] 37);have HB:=zB (zi.zRZ w v0 v1 (.int .i64 W.time) (.int .i64 W.next) (.slice a' W.sn c') v3 37);obtain⟨⟨x0,-⟩,⟨x2,-⟩,⟨x4,-⟩,⟨x6,-⟩,⟨x8,-⟩,⟨iA,-⟩⟩:=HB.out;go_enter Tryz.func206,Tryz.ntmps206;go_wp2;clear x0 x2 x4 x6 x8 iA
 go_loopw [10] (fun i wr=>∃k:Nat,k<=W.sn/\i = .int .i64 k/\(∀j,j<k->zBc W (W.zRg j).name (W.zRg j).zRh (W.zRg j).origin)/\zi wr w.heap.size v0 v1 (.int .i64 W.time) (.int .i64 W.next) (.slice a' W.sn c') v3/\Below w.heap.size w wr) (fun i _=>W.sn - (intOf i).toNat)
 case atStart=>exact⟨0,Nat.zero_le _,rfl,fun j hj=>absurd hj (Nat.not_lt_zero _),HB.out,ha⟩
 case round=>
  clear HB ha;obtain⟨k,hk,rfl,dA,hX,hb⟩:=hrel;have bA:=zB dA;have HX:=zB hX;clear dA hX;by_cases cA:k<W.sn;rotate_left
  ·obtain rfl:k=W.sn:=(by omega);go_wp2;go_ret;exact⟨zG.yes bA.out,hb⟩
  have mA:(k:Int)<(W.sn:Int):=(by omega);obtain⟨b,off,vd,rfl,aA⟩:=(Hp.out.zRg.zRX hb).cells cA;obtain⟨-,ad,cd,rfl,-,-⟩:=id aA.zRl;have fA:=zC wr (.cells #[.string (W.zRg k).name,.int .i64 (W.zRg k).origin,.int .i64 (W.zRg k).zRh,.int .i64 (W.zRg k).rs,.int .i64 (W.zRg k).rb,.slice ad (W.zRg k).dn cd] 67);have HV:=zB (zi.zRZ wr (.string (W.zRg k).name) (.int .i64 (W.zRg k).origin) (.int .i64 (W.zRg k).zRh) (.int .i64 (W.zRg k).rs) (.int .i64 (W.zRg k).rb) (.slice ad (W.zRg k).dn cd) 67);have jA:=zB (HX.out.zRX fA);have eA:=zA hb fA;have q0:=aA.c0;have q1:=aA.c1;have q2:=aA.c2;have q3:=aA.c3;have q4:=aA.c4;have q5:=aA.c5;obtain⟨⟨y0,-⟩,⟨y1,-⟩,⟨y2,-⟩,⟨y3,-⟩,⟨y4,-⟩,⟨y5,-⟩⟩:=HV.out;obtain⟨⟨x0,-⟩,⟨x2,-⟩,⟨x4,-⟩,⟨x6,-⟩,⟨x8,-⟩,⟨iA,-⟩⟩:=jA.out;clear aA fA;go_wp2_with fail;clear q0 q1 q2 q3 q4 q5 y0 y1 y2 y3 y4 y5 x0 x2 x4 x6 x8 iA HX hb HV;refine(zIq v0 v1 _ v3 lo hi W A ad cd (W.zRg k) _ (Hp.out.zRX eA) hp (HA.out.zRX eA) HD.out HP.out (HP.out.zRo k cA) (HP.out.zRg k cA)).mono ?_;rintro e w6 ⟨⟨t6,rfl,lA⟩,gA⟩;have nA:=zB (jA.out.zRX gA);have kA:=zA eA gA;have Ht:=zB lA;clear lA gA eA jA;cases t6
  ·have Hn:=zB (show ¬zBc W (W.zRg k).name (W.zRg k).zRh (W.zRg k).origin from fun hA=>absurd (Ht.out.2 hA) (by simp));clear Ht;go_wp2;go_ret;exact⟨zG.no fun hA=>Hn.out (hA k cA),kA⟩
  ·have Hn:=zB (Ht.out.1 rfl);clear Ht;go_wp2;go_roundw
   case rel=>exact⟨k+1,by omega,by go_num,zo cA bA.out Hn.out,nA.out,kA⟩
   case measure=>simp[intOf];omega
structure zDC (W:zH):Prop where
 time:zB6 W.time 1 900000
 next:zB6 W.next 1 900000
 zRg:zQo W.sn W.zRg
 zRe:zPz W
structure zAx (W:zH):Prop where
 zRo:zDC W
 right:zx W.zRd
 prevs:∀i,i<zq W->zHh W i
 lines:∀i,i<W.sn->zBc W (W.zRg i).name (W.zRg i).zRh (W.zRg i).origin
 trees:zPS W
 homes:zFs W
theorem zDC.range{W:zH}(h:zDC W):∀i,i<W.pn->1<=(W.zRe i).id/\(W.zRe i).id<W.next/\1<=(W.zRe i).time/\(W.zRe i).time<W.time
 | 0,hi=>by
  have:=(h.zRe.2.1 0 hi).2.2.2;have h1:Mid 0 (W.zRe 0).id W.next:=this.1;have h2:Mid 0 (W.zRe 0).time W.time:=this.2;have a1:=h1.1;have a2:=h1.2;have a3:=h2.1;have a4:=h2.2;omega
 | i+1,hi=>by
  have ih:=h.range i (by omega);have:=(h.zRe.2.1 (i+1) hi).2.2.2;have h1:Mid (W.zRe i).id (W.zRe (i+1)).id W.next:=this.1;have h2:Mid (W.zRe i).time (W.zRe (i+1)).time W.time:=this.2;have a1:=h1.1;have a2:=h1.2;have a3:=h2.1;have a4:=h2.2;omega
theorem zDC.rise{W:zH}(h:zDC W):∀i,i<W.pn->∀j,j<i->(W.zRe j).id<(W.zRe i).id
 | 0,_,j,hj=>absurd hj (Nat.not_lt_zero _)
 | i+1,hi,j,hj=>by
  have h1:Mid (W.zRe i).id (W.zRe (i+1)).id W.next:=(h.zRe.2.1 (i+1) hi).2.2.2.1;have a1:=h1.1;by_cases e:j=i
  ·subst e;exact a1
  ·have:=h.rise i (by omega) j (by omega);omega
theorem zDC.dist{W:zH}(h:zDC W):zCU W:=fun i hi j hj e=>by have:=h.rise i hi j hj;omega
theorem zDC.idsWf{W:zH}(h:zDC W):zNW W.pn W.zRe:=fun i hi=>by
 have h1:=h.range i hi;have h2:=h.next.2;exact WalkArith.wf_i64 (by omega)
theorem zDC.times{W:zH}(h:zDC W):zKQ W:=fun x=>by
 by_cases hx:∃k,qs W x k
 ·obtain⟨k,hk⟩:=hx;rw[qq hk];have h1:=h.range k hk.1;have h2:=h.time.2;exact⟨by omega,by omega⟩
 ·have:zN W x=yK:=(by unfold zN;rw[dif_neg hx]);rw[this];exact⟨Int.le_refl _,by decide⟩
theorem zIf{W:zH}{i:Nat}(hp:zCo W):zHh W i↔((zO W i).zRh=0\/ql W (zO W i).zRh):=by
 unfold zHh;constructor
 ·intro h;by_cases hx:∃k,qs W (zO W i).zRh k
  ·obtain⟨k,hk⟩:=hx;exact Or.inr ⟨k,hk.1,hk.2.1⟩
  ·have e:zN W (zO W i).zRh=yK:=(by unfold zN;rw[dif_neg hx]);rw[e]at h;exact Or.inl h.symm
 ·rintro(h | h)
  ·rw[h,zFV (fun k hk e=>by have:=hp k hk;omega)];rfl
  ·obtain⟨k,hk⟩:=h.no;rw[qq hk];exact hk.2.1
theorem zDC.prevOk{W:zH}(h:zDC W)(hp:∀i,i<zq W->zHh W i):zCF W where
 ids:=fun k hk=>by have h1:=h.range k hk;have h2:=h.next.2;omega
 zRh:=fun k hk=>by
  have:=(zIf (fun k hk=>(h.range k hk).1)).1 (hp k (by unfold zq;omega));rw[qQ hk]at this;exact this
 less:=fun k hk=>(h.zRe.2.1 k hk).2.2.1
 zRg:=fun k hk=>by
  have:=(zIf (fun k hk=>(h.range k hk).1)).1 (hp (W.pn+k) (by unfold zq;omega));rw[yF]at this;exact this
 zRo:=fun k hk=>zDK (h.zRg.2 k hk).1
theorem zLN{W:zH}(h:zCF W){name:ByteArray}{start:Int}(hs:start=0\/ql W start):∀{n:Nat} {e:Int},Steps W name start n e->(e=0\/ql W e)
 | 0,_,.zero=>hs
 | n+1,_,.next (k:=k) _ hk _=>h.zRh k hk.1
theorem zIA{f:Nat->qD}{i:Nat}(hn:yI (f i).name):zDV (zEk f i) (f i).name↔(0<i->zDV (f (i - 1)).name (f i).name):=by
 cases i with
 | zero=>
  refine⟨fun _ h=>absurd h (by omega),fun _=>?_⟩;have aA:=zDK hn;unfold zDV zEk;have h0:(⟨#[]⟩:ByteArray).toList = []:=(by rw[Go.ByteArray.toList_eq]);rw[h0];cases hl:(f 0).name.toList with
  | nil=>rw[hl]at aA;exact absurd aA (by decide)
  | cons a l=>simp[Op.bytesLess]
 | succ i=>exact⟨fun h _=>h,fun h=>h (by omega)⟩
theorem zGu(W:zH):zAx W↔zNm W:=by
 constructor
 ·intro h;have hP:=h.zRo.prevOk h.prevs;have hN:zBI W:=by
   refine⟨h.zRo.time,h.zRo.next,h.zRo.zRg.1,h.zRo.zRe.1,fun i hi=>?_,fun i hi=>?_⟩
   ·have hs:=h.zRo.zRg.2 i hi;refine⟨hs.1,(zIA hs.1).1 hs.2,fun hz=>(hP.zRg i hi).resolve_left hz,fun hz=>?_⟩;obtain⟨n,e,aA,_,_,rfl⟩:=h.lines i hi;exact(zLN hP (hP.zRg i hi) aA).resolve_left hz
   ·have hs:=h.zRo.zRe.2.1 i hi;have hr:=h.zRo.range i hi;refine⟨⟨hr.1,hr.2.1,hr.2.2.1,hr.2.2.2,hs.2.1,hs.1⟩,⟨fun h0=>?_,fun hz=>⟨hs.2.2.1,(hP.zRh i hi).resolve_left hz⟩⟩,fun k hk=>h.zRo.zRe.2.2 i hi k hk⟩;cases i with
    | zero=>omega
    | succ i=>exact⟨hs.2.2.2.1.1,hs.2.2.2.2.1⟩
  have hT:zBJ W:=zIa h.right hN (fun i hi=>by have:=h.trees.1 i (by unfold zq;omega);rw[qQ hi]at this;exact this) (fun i hi=>by have:=h.trees.1 (W.pn+i) (by unfold zq;omega);rw[yF]at this;exact this);have hM:∀i,i<zq W->zJu W (zO W i):=fun i hi=>(zH4 hT hi).1 (h.trees.2 i hi)
  have hh:=(zJU hT (fun j hj=>by have:=hP.pos j hj;omega) hM).1 h.homes;exact⟨h.right,hN,h.lines,fun i hi=>hT.snap hi,fun i hi=>⟨hT.set hi,(hM (W.pn+i) (by unfold zq;omega)).1⟩,fun i hi=>(hM i (by unfold zq;omega)).1,hh.1,fun i hi=>(hM i hi).2,hh.2⟩
 ·intro h;have hP:=h.zRo.prevOk;have hT:zBJ W:=zIa h.right h.zRo h.zRe (fun i hi=>(h.zRg i hi).1);have hM:∀i,i<zq W->zJu W (zO W i):=fun i hi=>by
   refine⟨?_,h.born i hi⟩;by_cases hp:i<W.pn
   ·exact h.zRl i hp
   ·have:=(h.zRg (i - W.pn) (by unfold zq at hi;omega)).2;rw[show W.pn+(i - W.pn)=i by omega]at this;exact this
  have hh:=(zJU hT (fun j hj=>by have:=hP.pos j hj;omega) hM).2 ⟨h.reach,h.zRk⟩;refine⟨⟨h.zRo.1,h.zRo.2.1,⟨h.zRo.2.2.1,fun i hi=>?_⟩,⟨h.zRo.2.2.2.1,fun i hi=>?_,fun i hi k hk=>(h.zRo.2.2.2.2.2 i hi).2.2 k hk⟩⟩,h.right,fun i hi=>?_,h.lines,⟨hT.tree,fun i hi=>(zH4 hT hi).2 (hM i hi)⟩,hh⟩
  ·have hs:=h.zRo.2.2.2.2.1 i hi;exact⟨hs.1,(zIA hs.1).2 hs.2.1⟩
  ·have hs:=h.zRo.2.2.2.2.2 i hi;refine⟨hs.1.2.2.2.2.2,hs.1.2.2.2.2.1,hP.less i hi,?_,?_⟩
   ·cases i with
    | zero=>exact⟨by have:=hs.1.1;show(0:Int)<_;omega,hs.1.2.1⟩
    | succ i=>exact⟨(hs.2.1.1 (by omega)).1,hs.1.2.1⟩
   ·cases i with
    | zero=>exact⟨by have:=hs.1.2.2.1;show(0:Int)<_;omega,hs.1.2.2.2.1⟩
    | succ i=>exact⟨(hs.2.1.1 (by omega)).2,hs.1.2.2.2.1⟩
  ·refine(zIf hP.pos).2 ?_;by_cases hp:i<W.pn
   ·rw[qQ hp];exact hP.zRh i hp
   ·have e:=yF W (i - W.pn);rw[show W.pn+(i - W.pn)=i by omega]at e;rw[e];exact hP.zRg _ (by unfold zq at hi;omega)
open Go.ChangeMaps Go.MapKept
open Go.WideElems (Fit rd rg pl rd_val elemAt findIdx_arr findIdx_born modify_last set_self)
open Go.WideMaps (KeyLaw)
theorem zHr(w:World)(b:Nat)(o o':Obj):setBlock (setBlock w b o) b o'=setBlock w b o':=by simp[setBlock]
theorem zI3{w:World}{b:Nat}{o:Obj}(h:w.heap[b]?=some o):setBlock w b o=w:=by
 have e:w.heap.setIfInBounds b o=w.heap:=by
  apply Array.ext_getElem?;intro i;by_cases hi:i=b
  ·subst hi;rw[Array.getElem?_setIfInBounds_self_of_lt (Array.getElem?_eq_some_iff.1 h).1];exact h.symm
  ·rw[Array.getElem?_setIfInBounds_ne (fun e=>hi e.symm)]
 unfold setBlock;rw[e]
theorem zIW{w:World}{b:Nat}{es aA:Array MapEntry}{c c':Nat}(hb:w.heap[b]?=some (.map es c)):w.grownBy (setBlock w b (.map aA c')) (some b):=
 ⟨rfl,rfl,rfl,by simp[setBlock],fun i _ hi=>heap_setBlock_other hb _ (fun e=>hi (by rw[e]))⟩
theorem zJd{P:Program}{k e t:TypeId}{w:World}{b n:Nat}{D:DataW Value}(h:w.ownsMap P k zCS b n D)(K0:KeyLaw P k)(ht:P.underlying t=some (.map k e))(hn:n<maxLen){z:Value}(hz:∀u:World,(zeroValue e).run P u = .ok z u)
  {key val v:Value} {kl:Lit} (aA:keyOf P k key=some kl) (oA:D.atKey kl (.held z) = .held v) :
  ∃(v0:Value) (st:Nat) (w1 w2:World),(Instr.mapEntry t (.map (some b)) key).run P w = .ok (.tuple #[v0,goInt st]) w1/\(Instr.lookup t (.map (some b)) key false).run P w1 = .ok v w1/\(Instr.entryStore t (.map (some b)) (goInt st) val).run P w1 = .ok () w2/\w2.ownsMap P k zCS b (n+1) (D.put kl (.held val))/\w.grownBy w1 (some b)/\w.grownBy w2 (some b):=by
 have K:=Keyed.of_law K0;obtain⟨w',lA,fA,eB⟩:=h.update K ht hn aA (zBz val);obtain⟨wz,kA,iA,kB⟩:=h.update K ht hn aA (zBz z);have gA:=h.lookup K ht (hz w) (zBz z) aA;obtain⟨es,bA,hb,F,hs,hD⟩:=h;obtain⟨v0,st,dA,c1,cA,jB,gB⟩:=WideElems.entry_then_store K0 ht hz hb F aA;have sA:(setBlock w b (.map dA c1)).heap[b]?=some (.map dA c1):=heap_setBlock_same hb _;obtain⟨bB,c2,tA,nA⟩:=gB _ val sA;have e2:setBlock (setBlock w b (.map dA c1)) b (.map bB c2)=w':=by
  rw[zHr];rw[nA]at lA;injection lA
 refine⟨v0,st,setBlock w b (.map dA c1),w',cA,?_,by rw[<-e2];exact tA,fA,zIW hb,eB⟩;obtain⟨v',ps,hl,rA⟩:=gA;have ev:v'=v:=by
  have e1:=zEc rA;rw[oA]at e1;injection e1 with e1;exact e1.symm
 subst ev
 suffices hh:∀ww:World,ww=setBlock w b (.map dA c1)->(Instr.lookup t (.map (some b)) key false).run P ww = .ok v' ww from hh _ rfl
 intro ww mA;rcases K0.find w aA es.toList F.keys with⟨h1,h2⟩ | ⟨j,e0,h1,h2,h3⟩
 ·-- it was not there: behind the entry it is there with the zero value
  have aB:setBlock w b (.map dA c1)=wz:=by
   have hm:(Instr.mapEntry t (.map (some b)) key).run P w = .ok (.tuple #[z,goInt bA]) (setBlock w b (.map (es.push ⟨key,z,bA⟩) (bA+1))):=by
    simp[Instr.mapEntry,run_underlying ht,MapKept.run_getObj_map hb,K0.check w false aA,h1,hz,MapKept.run_setObj_map _ hb,Result.andThen,setBlock]
   have hu:(Instr.mapUpdate t (.map (some b)) key z).run P w = .ok () (setBlock w b (.map (es.push ⟨key,z,bA⟩) (bA+1))):=by
    simp[Instr.mapUpdate,run_underlying ht,MapKept.run_getObj_map hb,K0.check w false aA,h1,MapKept.run_setObj_map _ hb,Result.andThen,setBlock]
   rw[cA]at hm;rw[kA]at hu;injection hm with _ hm;injection hu with _ hu;rw[hm,hu]
  obtain rfl:ww=wz:=mA.trans aB;obtain⟨v2,iB,cB,fB⟩:=iA.lookup K ht (hz _) (zBz z) aA;have e3:=zEc fB;rw[atKey_put_same (show IsMap D from⟨_,hD⟩) (K.key aA)]at e3;replace e3:=DataW.held.inj e3;have e4:v'=z:=by
   have vA:(Instr.lookup t (.map (some b)) key false).run P w = .ok z w:=by
    rcases Maps.fit_look false K ht (hz w) hb F aA with⟨jA,_,_⟩ | ⟨e0,y,pA,dB,_,_,_,_⟩
    ·exact jA
    ·exact absurd dB (h2 e0 pA)
   rw[vA]at hl;injection hl with hl _;exact hl.symm
  subst e3;subst e4;exact cB
 ·-- it was there: the entry leaves the map as it was
  have hj:es[j]?=some e0:=(by simpa using h2);have eA:es.modify j (fun e=>{e with key:=key})=es:=by
   apply Array.ext';rw[Array.toList_modify,modify_eq_set _ _ _ _ h2];have:({e0 with key:=key}:MapEntry)=e0:=(by rw[<-h3]);rw[this];exact set_self _ _ _ h2
  have hm:(Instr.mapEntry t (.map (some b)) key).run P w = .ok (.tuple #[e0.val,goInt e0.born]) (setBlock w b (.map es bA)):=by
   simp[Instr.mapEntry,run_underlying ht,MapKept.run_getObj_map hb,K0.check w false aA,h1,hj,h3,K0.stays w aA,eA,MapKept.run_setObj_map _ hb,Result.andThen,setBlock]
  rw[cA,zI3 hb]at hm;obtain rfl:ww=w:=mA.trans (Result.ok.inj hm).2;exact hl
end Go.Proofs.YtmgeglgboadfiaaGreatDoor
