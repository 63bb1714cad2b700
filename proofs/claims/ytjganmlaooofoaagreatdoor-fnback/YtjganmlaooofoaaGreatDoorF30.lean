/- A part of the proof. -/
import Derived.Test.YtjganmlaooofoaaGreatDoorF29
set_option linter.unusedVariables false
set_option maxRecDepth 20000
set_option maxHeartbeats 4000000
namespace Go.Proofs.YtjganmlaooofoaaGreatDoor
open Go.RowKit
theorem zFr(p:Nat->Addr)(v0 v1 v2 v3:Value)(lo hi:Nat)(W:zB)(name:ByteArray)(o:zAk)(w:World)(hE:zF1 w p)(h:yO w lo hi v0 v1 v2 v3 W)(sB:zCs W)(b1:qs W.pool<=1048576)(b2:W.sn<=1048576)(b3:W.pn<=1048576)(b4:zGm W)(gA:name.size<=maxLen)
  (pB:∀B0 C w' z0 z1 z2 z3,w'.cell? ⟨B0,0,none⟩=some (.string name)->B0<C->zCa W->¬(∃i,i<1/\8000<((fun (_:Nat)=>name) i).size)->¬(∃i,i<0/\¬zA0 ((fun _=>⟨#[]⟩) i))->(∀j,j<2->(fun i=>match i with | 0=>qG W name | _=>¬∃i,i<W.pn/\(W.zeJ i).set=name) j)->C<w'.heap.size->Below w.heap.size w w'->yk w' (C+1) w'.heap.size z0 z1 z2 z3 W->zCE w' C z0 z1 (.int .i64 W.time) (.int .i64 W.next) z2 z3 (.int .i64 0) (.int .i64 0) .nilIface->Calls Tryz.prog 36 #[.pointer (some ⟨C,0,none⟩),.pointer (some ⟨B0,0,none⟩)] w' (zMD p o C w')) :
  Calls Tryz.prog 14 #[zA8 v0 v1 v2 v3 W,.string name] w fun e w'=>∃r,zLl W (∃i,i<1/\8000<((fun (_:Nat)=>name) i).size) (∃i,i<0/\¬zA0 ((fun _=>⟨#[]⟩) i)) 2 (fun i=>match i with | 0=>qG W name | _=>¬∃i,i<W.pn/\(W.zeJ i).set=name) (fun i=>match i with | 0=>2 | _=>5) r/\zFn (zKy r o) w e w':=by
 have Hp:=zR h;have HE:=zR hE;have bC:=zR pB;have fC:=zR sB;have dA:=zR gA;clear h hE pB sB;have nB:=zD w (.cells #[v0,v1,.int .i64 W.time,.int .i64 W.next,v2,v3] 30);have jB:=zD (w.alloc (.cells #[v0,v1,.int .i64 W.time,.int .i64 W.next,v2,v3] 30)) (.cells #[.string name] 9);have aB:=zD ((w.alloc (.cells #[v0,v1,.int .i64 W.time,.int .i64 W.next,v2,v3] 30)).alloc (.cells #[.string name] 9)) (.cells #[.slice none 0 0,.slice none 0 0,.int .i64 0,.int .i64 0,.slice none 0 0,.slice none 0 0,.int .i64 0,.int .i64 0,.int .i64 0] 34);have hb:=zA (zA (nB) jB) aB;have HX:=zR (((zAN.new w (v0) (v1) (.int .i64 W.time) (.int .i64 W.next) (v2) (v3) 30).zeF jB).zeF aB);have c0:((w.alloc (.cells #[v0,v1,.int .i64 W.time,.int .i64 W.next,v2,v3] 30)).alloc (.cells #[.string name] 9)).cell? ⟨(w.alloc (.cells #[v0,v1,.int .i64 W.time,.int .i64 W.next,v2,v3] 30)).heap.size,0,none⟩=some (.string name):=World.cell?_alloc_at _ _ _ _ rfl;rw[World.size_alloc]at c0;replace c0:=(aB.cell (zH c0)).trans c0;have lB:=zR c0;clear c0;have hr:=zCE.new ((w.alloc (.cells #[v0,v1,.int .i64 W.time,.int .i64 W.next,v2,v3] 30)).alloc (.cells #[.string name] 9)) (.slice none 0 0) (.slice none 0 0) (.int .i64 0) (.int .i64 0) (.slice none 0 0) (.slice none 0 0) (.int .i64 0) (.int .i64 0) (.int .i64 0) 34;rw[World.size_alloc,World.size_alloc]at hr;have HR:=zR hr;clear hr;have hz:(((w.alloc (.cells #[v0,v1,.int .i64 W.time,.int .i64 W.next,v2,v3] 30)).alloc (.cells #[.string name] 9)).alloc (.cells #[.slice none 0 0,.slice none 0 0,.int .i64 0,.int .i64 0,.slice none 0 0,.slice none 0 0,.int .i64 0,.int .i64 0,.int .i64 0] 34)).heap.size=w.heap.size+3:=by rw[World.size_alloc,World.size_alloc,World.size_alloc]
 go_enter Tryz.func14,Tryz.ntmps14;go_upto_region 1 with fail;generalize (((w.alloc (.cells #[v0,v1,.int .i64 W.time,.int .i64 W.next,v2,v3] 30)).alloc (.cells #[.string name] 9)).alloc (.cells #[.slice none 0 0,.slice none 0 0,.int .i64 0,.int .i64 0,.slice none 0 0,.slice none 0 0,.int .i64 0,.int .i64 0,.int .i64 0] 34))=W1 at hb HX HR hz lB ⊢;clear nB jB aB;obtain⟨x0,x1,x2,x3,x4,x5⟩:=HX.out.c;have k0:=lB.out;have aA:=zR (show ∀w',Below (w.heap.size+1+1) W1 w'->(fun w'=>w'.cell? ⟨w.heap.size,0,none⟩=some (v0)/\w'.cell? ⟨w.heap.size,1,none⟩=some (v1)/\w'.cell? ⟨w.heap.size,2,none⟩=some (.int .i64 W.time)/\w'.cell? ⟨w.heap.size,3,none⟩=some (.int .i64 W.next)/\w'.cell? ⟨w.heap.size,4,none⟩=some (v2)/\w'.cell? ⟨w.heap.size,5,none⟩=some (v3)/\w'.cell? ⟨w.heap.size+1,0,none⟩=some (.string name)/\Below (w.heap.size+1+1) W1 w') w' from fun w' bA=>⟨(bA.cell (p:=⟨w.heap.size,0,none⟩) (by show w.heap.size<_;omega)).trans x0,(bA.cell (p:=⟨w.heap.size,1,none⟩) (by show w.heap.size<_;omega)).trans x1,(bA.cell (p:=⟨w.heap.size,2,none⟩) (by show w.heap.size<_;omega)).trans x2,(bA.cell (p:=⟨w.heap.size,3,none⟩) (by show w.heap.size<_;omega)).trans x3,(bA.cell (p:=⟨w.heap.size,4,none⟩) (by show w.heap.size<_;omega)).trans x4,(bA.cell (p:=⟨w.heap.size,5,none⟩) (by show w.heap.size<_;omega)).trans x5,(bA.cell (p:=⟨w.heap.size+1,0,none⟩) (by show w.heap.size+1<_;omega)).trans k0,bA⟩);have jA:w.heap.size+1+1<=W1.heap.size:=by omega
 clear x0 x1 x2 x3 x4 x5 k0;refine wp_region_held_drew (S:=(fun w'=>w'.cell? ⟨w.heap.size,0,none⟩=some (v0)/\w'.cell? ⟨w.heap.size,1,none⟩=some (v1)/\w'.cell? ⟨w.heap.size,2,none⟩=some (.int .i64 W.time)/\w'.cell? ⟨w.heap.size,3,none⟩=some (.int .i64 W.next)/\w'.cell? ⟨w.heap.size,4,none⟩=some (v2)/\w'.cell? ⟨w.heap.size,5,none⟩=some (v3)/\w'.cell? ⟨w.heap.size+1,0,none⟩=some (.string name)/\Below (w.heap.size+1+1) W1 w')) (by kernel_rfl) (aA.out _ ((Below.refl _ _).drew.mono jA)) (fun hHeld=>?_);have kC:Below W1.heap.size W1 W1.drew:=(Below.refl _ _).drew;refine tk 0 (h:=?_);refine tk 2 (h:=?_);refine tk 4 (h:=?_);refine tk 7 (h:=?_);refine tk 9 (h:=?_);refine zPd [1,3,5,6] (fun i=>if i=6 then [3,5] else []) (fun i=>i+5) (fun i v w'=>(i=1->zB2 w' v 1 (fun (_:Nat)=>name))/\(i=3->QAt w' p 45 2 [.string name] v)/\(i=5->QAt w' p 76 5 [.string name] v)/\(i=6->zHT w' p 2 (fun i=>match i with | 0=>45 | _=>76) (fun i=>match i with | 0=>2 | _=>5) (fun i=>match i with | 0=>[.string name] | _=>[.string name]) v)) 3 (G:=fun w'=>Below W1.heap.size W1 w') (by kernel_rfl) (by decide) (by decide) (by decide) ?_ (fun _ _ h t=>zA h t) (by assumption) kC ?_ ?_
 ·intro i v w' sC hf t;exact⟨fun e=>(hf.1 e).zeF t,fun e=>(hf.2.1 e).zeF t,fun e=>(hf.2.2.1 e).zeF t,fun e=>(hf.2.2.2 e).zeF t⟩
 ·intro i hi x w2 hS hG hD K hK;simp only[List.mem_cons,List.not_mem_nil,or_false]at hi;rcases hi with rfl | rfl | rfl | rfl
  ·refine wpOp_step (zC7 rfl) (fun K' iA=>?_);simp only[zAh,Act.put,Nat.reduceAdd,s1,s2,s3];have pA:=zD w2 (.cells #[.string name] 9);go_simp;refine iA _ _ (hK.out _ _ _ ?_ (aA.out _ ((zA hG pA).mono jA)) ⟨fun _=>zPq dA.out rfl,fun e=>absurd e (by decide),fun e=>absurd e (by decide),fun e=>absurd e (by decide)⟩ pA);simp only[zAh,Act.put,Nat.reduceAdd,s1,s2,s3]
  ·refine wpOp_step (zC7 rfl) (fun K' iA=>?_);simp only[zAh,Act.put,Nat.reduceAdd,s1,s2,s3];go_simp;go_at_call 18;refine(zKL p name w2 (HE.out.zeF (zA hb hG))).mono ?_;rintro e w3 ⟨B0,rfl,cA,kA⟩;refine iA _ _ (hK.out _ _ w3 ?_ (aA.out _ ((zA hG kA).mono jA)) ⟨fun e=>absurd e (by decide),fun _=>⟨_,rfl,zDb.one cA⟩,fun e=>absurd e (by decide),fun e=>absurd e (by decide)⟩ kA);simp only[zAh,Act.put,Nat.reduceAdd,s1,s2,s3]
  ·refine wpOp_step (zC7 rfl) (fun K' iA=>?_);simp only[zAh,Act.put,Nat.reduceAdd,s1,s2,s3];go_simp;go_at_call 35;refine(zLF p name w2 (HE.out.zeF (zA hb hG))).mono ?_;rintro e w3 ⟨B0,rfl,cA,kA⟩;refine iA _ _ (hK.out _ _ w3 ?_ (aA.out _ ((zA hG kA).mono jA)) ⟨fun e=>absurd e (by decide),fun e=>absurd e (by decide),fun _=>⟨_,rfl,zDb.one cA⟩,fun e=>absurd e (by decide)⟩ kA);simp only[zAh,Act.put,Nat.reduceAdd,s1,s2,s3]
  ·refine wpOp_step (zC7 rfl) (fun K' iA=>?_);simp only[zAh,Act.put,Nat.reduceAdd,s1,s2,s3];obtain⟨tB,e0,sA⟩:=(hD 3 (by decide)).2.1 rfl;obtain⟨vB,e1,tA⟩:=(hD 5 (by decide)).2.2.1 rfl;simp only[e0,e1];have pA:=zD w2 (.cells #[.func (.func 45) #[] tB,yg (p 2),.func (.func 76) #[] vB,yg (p 5)] 55);have hA:zHT (w2.alloc (.cells #[.func (.func 45) #[] tB,yg (p 2),.func (.func 76) #[] vB,yg (p 5)] 55)) p 2 (fun i=>match i with | 0=>45 | _=>76) (fun i=>match i with | 0=>2 | _=>5) (fun i=>match i with | 0=>[.string name] | _=>[.string name]) (.slice (some ⟨w2.heap.size,0,none⟩) 2 2):=zX2 (g:=(fun i=>match i with | 0=>45 | _=>76)) (ei:=(fun i=>match i with | 0=>2 | _=>5)) (caps:=(fun i=>match i with | 0=>[.string name] | _=>[.string name])) sA tA;go_simp;refine iA _ _ (hK.out _ _ _ ?_ (aA.out _ ((zA hG pA).mono jA)) ⟨fun e=>absurd e (by decide),fun e=>absurd e (by decide),fun e=>absurd e (by decide),fun _=>hA⟩ pA);simp only[zAh,Act.put,Nat.reduceAdd,s1,s2,s3,e0,e1]
 ·intro x w2 hS hG hF;have hT:=(hF 1 (by decide)).1 rfl;obtain⟨-,ta,tc,et,-,-⟩:=id hT;have hN:zB2 w2 (.slice none 0 0) 0 (fun _=>⟨#[]⟩):=⟨by omega,_,_,rfl,fun i hi=>absurd hi (Nat.not_lt_zero _),fun h=>absurd h (Nat.lt_irrefl _)⟩;obtain⟨lb,hA,rA⟩:=(hF 6 (by decide)).2.2.2 rfl;obtain⟨-,qa,qc,eq,-⟩:=id hA;simp only[zAh,zDM,if_true,Act.put,Nat.reduceAdd,s1,s2,s3,et,eq];rw[et]at hT;rw[eq]at hA;have bA:=zA hb hG;have dC:=zR hT;have cC:=zR hN;have aC:=zR hA;have nA:=zR rA;clear hT hN hA rA hF;refine tk 8 (h:=?_);refine rd [10] (rc (fun K hK=>?_) .nil);go_simp;go_at_call 22;refine(zZh p _ _ _ 36 #[.pointer (some ⟨w.heap.size+1,0,none⟩)] 1 0 2 (fun (_:Nat)=>name) (fun _=>⟨#[]⟩) (fun i=>match i with | 0=>45 | _=>76) lb (fun i=>match i with | 0=>2 | _=>5) (fun i=>match i with | 0=>qG W name | _=>¬∃i,i<W.pn/\(W.zeJ i).set=name) o _ _ _ _ lo hi W w2 (HE.out.zeF bA) (Hp.out.zeF bA) fC.out b1 b2 b3 b4 dC.out cC.out aC.out ?_ ?_ (enters_of Tryz.func36 (by kernel_rfl) rfl) ?_ ?_).mono ?_
  ·intro i hi;rcases(by omega:i=0\/i=1)with rfl | rfl
   all_goals decide
  ·intro i hi;rcases(by omega:i=0\/i=1)with rfl | rfl
   ·exact enters_of Tryz.func45 (by kernel_rfl) rfl
   ·exact enters_of Tryz.func76 (by kernel_rfl) rfl
  ·intro i pC w' mA hI oC;have hW:=(Hp.out.zeF bA).zeF mA;have h8:=hI.zeM.zeK.1;have iC:=hI.zeM.zeJ.1;rcases(by omega:i=0\/i=1)with rfl | rfl
   ·obtain⟨B0,iB,cA⟩:=(nA.out 0 (by decide)).is1;replace cA:=(mA.cell (zH cA)).trans cA;rw[iB];exact zIo v0 v1 v2 v3 lo hi W B0 name w' hW h8 gA cA
   ·obtain⟨B0,iB,cA⟩:=(nA.out 1 (by decide)).is1;replace cA:=(mA.cell (zH cA)).trans cA;rw[iB];exact zKU v0 v1 v2 v3 lo hi W B0 name w' hW iC cA
  ·intro C w' z0 z1 z2 z3 hC mA jC hI hl mC hq eA kB;exact bC.out (w.heap.size+1) C w' z0 z1 z2 z3 ((mA.cell (zH hS.2.2.2.2.2.2.1)).trans hS.2.2.2.2.2.2.1) (by have:=hG.size;omega) hI hl mC hq jC (zA bA mA) eA kB
  rintro e w3 ⟨r,vA,z0,z1,z2,z3,rfl,eA,kA⟩;obtain⟨n0,bB,n1,cB,n2,eB,n3,fB,rfl,rfl,rfl,rfl⟩:=eA.zeQ;have lA:=zA hG kA;have mB:=zR (HR.out.zeF lA);have oA:=zR eA;have gB:=zR vA;clear eA vA;generalize rB:zKy r o=oo at oA ⊢;have eC:=zR rB;clear rB
  (try go_wp2_with fail)
  refine hK.out _ _ (aA.out _ (lA.mono jA)) ?_;clear hK K hHeld;intro hHeld
  try simp only[Act.put,s1,s2,s3]
  refine rd [11] (rc (fun K hK=>?_) .nil);obtain⟨⟨r0,g0⟩,⟨r1,g1⟩,⟨r2,g2⟩,⟨r3,g3⟩,⟨r4,g4⟩,⟨r5,g5⟩,⟨r6,g6⟩,⟨r7,g7⟩,⟨r8,g8⟩⟩:=mB.out;go_simp
  (try go_wp2_with fail)
  have hT:=zJ.put9 w3 (w.heap.size+1+1) (.slice n0 oo.world.pool.n bB) (.slice n1 oo.world.pool.hn cB) (.int .i64 oo.world.time) (.int .i64 oo.world.next) (.slice n2 oo.world.sn eB) (.slice n3 oo.world.pn fB) (.int .i64 oo.id) (.int .i64 oo.many) (.int .i64 oo.code);have lC:Below (w.heap.size+1+1) W1 (((((((((w3.setCell ⟨w.heap.size+1+1,0,none⟩ (.slice n0 oo.world.pool.n bB)).setCell ⟨w.heap.size+1+1,1,none⟩ (.slice n1 oo.world.pool.hn cB)).setCell ⟨w.heap.size+1+1,2,none⟩ (.int .i64 oo.world.time)).setCell ⟨w.heap.size+1+1,3,none⟩ (.int .i64 oo.world.next)).setCell ⟨w.heap.size+1+1,4,none⟩ (.slice n2 oo.world.sn eB)).setCell ⟨w.heap.size+1+1,5,none⟩ (.slice n3 oo.world.pn fB)).setCell ⟨w.heap.size+1+1,6,none⟩ (.int .i64 oo.id)).setCell ⟨w.heap.size+1+1,7,none⟩ (.int .i64 oo.many)).setCell ⟨w.heap.size+1+1,8,none⟩ (.int .i64 oo.code)):=(lA.mono jA).trans (hT.zeF (B:=w.heap.size+1+1) (by have:=lA.size;omega) (fun k e=>by omega));refine hK.out _ _ (aA.out _ lC) ?_;clear hK K hHeld r0 r1 r2 r3 r4 r5 r6 r7 r8 g0 g1 g2 g3 g4 g5 g6 g7 g8;intro hHeld
  try simp only[Act.put,s1,s2,s3]
  refine wpAnyH_done (by kernel_rfl) ?_ _;go_wp2_with fail;have fA:=mB.out.put (.slice n0 oo.world.pool.n bB) (.slice n1 oo.world.pool.hn cB) (.int .i64 oo.world.time) (.int .i64 oo.world.next) (.slice n2 oo.world.sn eB) (.slice n3 oo.world.pn fB) (.int .i64 oo.id) (.int .i64 oo.many) (.int .i64 oo.code);have oB:=zA hb lA;have nC:=hT.size;have rC:=lA.size;refine bodyPost_ret (v:=.agg #[.slice n0 oo.world.pool.n bB,.slice n1 oo.world.pool.hn cB,.int .i64 oo.world.time,.int .i64 oo.world.next,.slice n2 oo.world.sn eB,.slice n3 oo.world.pn fB,.int .i64 oo.id,.int .i64 oo.many,.int .i64 oo.code]) (by simp[results,Tryz.results14,go_sem,fA.1.1,fA.2.1.1,fA.2.2.1.1,fA.2.2.2.1.1,fA.2.2.2.2.1.1,fA.2.2.2.2.2.1.1,fA.2.2.2.2.2.2.1.1,fA.2.2.2.2.2.2.2.1.1,fA.2.2.2.2.2.2.2.2.1]) rfl ⟨r,gB.out,?_⟩;rw[eC.out];refine⟨_,_,_,_,rfl,?_,?_⟩
  ·exact(oA.out.zeG hT (fun k e=>by have:=hG.size;omega)).wide (by have:=hG.size;omega) nC
  ·exact oB.trans (hT.zeF (B:=w.heap.size) oB.size (fun k e=>by omega))
theorem zI9(p:Nat->Addr)(v0 v1 v2 v3:Value)(lo hi:Nat)(W:zB)(name:ByteArray)(w:World)(hE:zF1 w p)(h:yO w lo hi v0 v1 v2 v3 W)(bA:zCs W)(b1:qs W.pool<=1048576)(b2:W.sn<=1048576)(b3:W.pn<=1048576)(b4:zGm W)(aA:name.size<=maxLen) :
  Calls Tryz.prog 14 #[zA8 v0 v1 v2 v3 W,.string name] w (zOC W name w):=by
 by_cases hs:qG W name
 ·obtain⟨k,hk⟩:=zIR hs;refine(zFr p v0 v1 v2 v3 lo hi W name ⟨zEx W k,0,((zAa W (W.zeK k)).length:Int),0⟩ w hE h bA b1 b2 b3 b4 aA ?_).mono ?_
  ·intro B0 C w' z0 z1 z2 z3 k0 _ hI _ _ hq cA hb ho hC;have hS:=(zGi W).1 hI;have hx:=bA (W.pn+k) (by have:=hk.1;unfold memN;omega);rw[qN]at hx;exact zK8 p C k B0 z0 z1 z2 z3 W name w' hI (hS.zeK k hk.1).1 (zMN hS.zeM _) hx hk cA k0 ho hC
  ·rintro e w' ⟨r,h1,h2⟩;exact⟨r,_,h1,fun _=>⟨k,hk,rfl⟩,h2⟩
 ·refine(zFr p v0 v1 v2 v3 lo hi W name (qD 0) w hE h bA b1 b2 b3 b4 aA ?_).mono ?_
  ·intro B0 C w' z0 z1 z2 z3 k0 _ hI _ _ hq cA hb ho hC;exact absurd (hq 0 (by omega)) hs
  ·rintro e w' ⟨r,h1,h2⟩;exact⟨r,_,h1,fun e=>absurd ((e▸h1).all 0 (by omega)) hs,h2⟩
theorem zHo{x:ByteArray}:(∃i,i<1/\8000<((fun (_:Nat)=>x) i).size)↔8000<x.size:=⟨fun ⟨_,_,h⟩=>h,fun h=>⟨0,by omega,h⟩⟩
theorem zZa{P:Nat->Prop}:¬∃i,i<0/\P i:=fun ⟨_,h,_⟩=>Nat.not_lt_zero _ h
theorem zWT{W:zB}{x:ByteArray}{r:Option Nat}{o:zAk}(h:zLl W (∃i,i<1/\8000<((fun (_:Nat)=>x) i).size) (∃i,i<0/\¬zA0 ((fun _=>⟨#[]⟩) i)) 2 (fun i=>match i with | 0=>qG W x | _=>¬∃i,i<W.pn/\(W.zeJ i).set=x) (fun i=>match i with | 0=>2 | _=>5) r)(ho:r=none->∃k,zDK W x k/\o=⟨zEx W k,0,((zAa W (W.zeK k)).length:Int),0⟩):zKy r o=zEe W x:=by
 unfold zEe;rcases zVz o h with⟨h1,e⟩ | ⟨h1,h2,e⟩ | ⟨h1,h2,h3,i,hi,hq,hj,e⟩ | ⟨h1,h2,h3,hq,hr,e⟩
 ·rw[e,if_pos (zHo.1 h1)]
 ·rw[e,if_neg fun g=>h1 (zHo.2 g),if_neg (h2.resolve_right zZa)]
 ·rw[e,if_neg fun g=>h1 (zHo.2 g),if_pos h2]
  match i,hi with
  | 0,_=>rw[if_neg (show ¬qG W x from hq)];rfl
  | 1,_=>rw[if_pos (show qG W x from hj 0 (by omega)),if_pos (show ∃i,i<W.pn/\(W.zeJ i).set=x from Classical.not_not.1 hq)];rfl
 ·obtain⟨k,hk,rfl⟩:=ho hr;rw[e,if_neg fun g=>h1 (zHo.2 g),if_pos h2,if_pos (zV6 hk),if_neg (show ¬∃i,i<W.pn/\(W.zeJ i).set=x from hq 1 (by omega)),zL9 hk];rfl
theorem zXO{W:zB}{x:ByteArray}{r:Option Nat}{o:zAk}(h:zLl W (∃i,i<1/\8000<((fun (_:Nat)=>x) i).size) (∃i,i<0/\¬zA0 ((fun _=>⟨#[]⟩) i)) 2 (fun i=>match i with | 0=>qG W x | _=>(zE W (zBy W x).zeL).set=x) (fun i=>match i with | 0=>2 | _=>2) r)(ho:r=none->∃k,zDK W x k/\o=⟨zDo W k,0,((zAa W (W.zeK k)).length:Int),0⟩):zKy r o=zEl W x:=by
 unfold zEl;have hA:∀k,zDK W x k->qo W->((zE W (zBy W x).zeL).set=x↔zBU W (W.zeK k).zeL/\(W.zeJ (zH3 W (W.zeK k).zeL)).set=x):=fun k hk hS=>by
  rw[zKK hk];by_cases aA:zBU W (W.zeK k).zeL
  ·rw[(zJN aA).2];exact⟨fun g=>⟨aA,g⟩,fun g=>g.2⟩
  ·rw[zGq fun j hj e=>aA ⟨j,hj,e⟩];refine⟨fun g=>?_,fun g=>absurd g.1 aA⟩;have h1:1<=x.size:=(by rw[<-hk.2.1];exact(hS.zeM.2.2.2.2.1 k hk.1).1.1);rw[<-g]at h1;exact absurd h1 (by decide)
 rcases zVz o h with⟨h1,e⟩ | ⟨h1,h2,e⟩ | ⟨h1,h2,h3,i,hi,hq,hj,e⟩ | ⟨h1,h2,h3,hq,hr,e⟩
 ·rw[e,if_pos (zHo.1 h1)]
 ·rw[e,if_neg fun g=>h1 (zHo.2 g),if_neg (h2.resolve_right zZa)]
 ·rw[e,if_neg fun g=>h1 (zHo.2 g),if_pos h2]
  match i,hi with
  | 0,_=>rw[if_neg (show ¬qG W x from hq)];rfl
  | 1,_=>
   have hx:qG W x:=hj 0 (by omega);obtain⟨k,hk⟩:=zIR hx;rw[if_pos hx,zL9 hk,zNm,if_neg fun g=>hq ((hA k hk h2).2 g)];rfl
 ·obtain⟨k,hk,rfl⟩:=ho hr;have g:=(hA k hk h2).1 (hq 1 (by omega));have ea:=(zJN g.1).2;rw[e,if_neg fun g=>h1 (zHo.2 g),if_pos h2,if_pos (zV6 hk),zL9 hk,zNm,if_pos g];show(⟨{W with pool:=zT W.pool (zAa W (W.zeK k)),zeK:=fun j=>if j=k then {W.zeK k with rs:=(zE W (W.zeK k).zeL).rs,rb:=(zE W (W.zeK k).zeL).rb,dn:=0}else W.zeK j},0,((zAa W (W.zeK k)).length:Int),0⟩:zAk)=_;unfold zAa;rw[ea];rfl
noncomputable def zY7:zX:=qk (fun q:zB×ByteArray=>[woT q.1,sT q.2]) (fun q=>zAz 1 q.1/\q.2.size<=8000) (fun q=>[wuZ (zEl q.1 q.2)])
theorem zIJ(W:zB)(x:ByteArray):zY7 [woT W,sT x]=some (zAz 1 W/\x.size<=8000,[wuZ (zEl W x)]):=zO (fun l=>(zCW (nth l 0),zDP (nth l 1 0))) (fun _=>rfl) (W,x)
theorem zZ1{w:World}{p:Nat->Addr}(hE:zF1 w p):zDX Tryz.prog 5 zY7 w:=by
 refine zHI ?_;rintro⟨W,x⟩ ⟨hC,hx⟩ g0 ys hz hy;replace hC:zAz 1 W:=hC;replace hx:x.size<=8000:=hx;obtain⟨y,y',rfl,⟨ds,rfl,aA⟩,⟨T,eT,hT⟩⟩:=zCN hy;cases eT;have bW:=hC.bounds (by omega);obtain⟨t0,t1,t2,t3,rfl,hA⟩:=zN6 (by omega) hC aA;rw[hT.1];refine(zKp p t0 t1 t2 t3 0 w.heap.size W x w hE hA hC.wf bW.1 bW.2.1 bW.2.2.1 bW.2.2.2 (Nat.le_trans hx (by decide))).mono ?_;rintro e w' ⟨r,o,h1,h2,h3⟩;rw[zXO h1 h2]at h3;exact zZm hz h3
noncomputable def zYu:zX:=qk (fun q:zB×ByteArray=>[woT q.1,sT q.2]) (fun q=>zAz 1 q.1/\q.2.size<=8000) (fun q=>[wuZ (zEe q.1 q.2)])
theorem zIG(W:zB)(x:ByteArray):zYu [woT W,sT x]=some (zAz 1 W/\x.size<=8000,[wuZ (zEe W x)]):=zO (fun l=>(zCW (nth l 0),zDP (nth l 1 0))) (fun _=>rfl) (W,x)
theorem zYG{w:World}{p:Nat->Addr}(hE:zF1 w p):zDX Tryz.prog 14 zYu w:=by
 refine zHI ?_;rintro⟨W,x⟩ ⟨hC,hx⟩ g0 ys hz hy;replace hC:zAz 1 W:=hC;replace hx:x.size<=8000:=hx;obtain⟨y,y',rfl,⟨ds,rfl,aA⟩,⟨T,eT,hT⟩⟩:=zCN hy;cases eT;have bW:=hC.bounds (by omega);obtain⟨t0,t1,t2,t3,rfl,hA⟩:=zN6 (by omega) hC aA;rw[hT.1];refine(zI9 p t0 t1 t2 t3 0 w.heap.size W x w hE hA hC.wf bW.1 bW.2.1 bW.2.2.1 bW.2.2.2 (Nat.le_trans hx (by decide))).mono ?_;rintro e w' ⟨r,o,h1,h2,h3⟩;rw[zWT h1 h2]at h3;exact zZm hz h3
theorem wf_i64{x:Int}(h:-1000000000000000000<=x)(h':x<=1000000000000000000):(Lit.int .i64 x).wf=true:=by
 show(decide (IntKind.min .i64<=_) && decide (_<=IntKind.max .i64))=true;simp[IntKind.min,IntKind.max,IntKind.signed,IntKind.bits];omega
theorem zPv{w:World}{g:Nat->Bs}{W:zB}{y:Value}{c:Nat}(hc:c<=10)(hW:zAz c W)(h:zLi w g (woT W) y):∃v0 v1 v2 v3,y=zA8 v0 v1 v2 v3 W/\yO w 0 w.heap.size v0 v1 v2 v3 W:=by
 obtain⟨ds,rfl,aA⟩:=h;obtain⟨t0,t1,t2,t3,rfl,hA⟩:=zN6 hc hW aA;exact⟨t0,t1,t2,t3,rfl,hA⟩
theorem zZl{p:Prop}{e:Ending}{w w':World}{g0:Nat->Bs}(hz:∀b,∃r,g0 b = .fz r)(h:zL p e)(hb:Below w.heap.size w w'):∃v g,e = .returned v/\Kp w g0 w' g/\zTE w' g (bR p) v:=by
 obtain⟨b,rfl,hp⟩:=h;refine⟨_,_,rfl,zM5 hz hb,_,⟨_,[],_,rfl,rfl,⟨_,_,rfl,⟨?_,rfl⟩,rfl⟩,rfl⟩,rfl⟩;by_cases h:p
 ·rw[zBe.2 h,hp.2 h]
 ·rw[zCH.2 h,Bool.eq_false_iff.2 fun e=>h (hp.1 e)]
noncomputable def zdq:zX:=qk (fun W:zB=>[woT W]) (fun W=>zAz 1 W) (fun W=>bR (qo W))
theorem zVV(W:zB):zdq [woT W]=some (zAz 1 W,bR (qo W)):=zO (fun l=>zCW (nth l 0)) (fun _=>rfl) W
theorem zdR:zy Tryz.prog 24 zdq:=fun w=>by
 refine zHI ?_;rintro W hC g0 ys hz hy;replace hC:zAz 1 W:=hC;obtain⟨y,rfl,h1⟩:=zCf hy;obtain⟨v0,v1,v2,v3,rfl,hA⟩:=zPv (by omega) hC h1;refine(zDf v0 v1 v2 v3 0 w.heap.size W w hA hC.wf).mono ?_;rintro e w' ⟨he,hb⟩;rw[zGi]at he;exact zZl hz he hb
set_option linter.unusedSimpArgs false
set_option maxRecDepth 20000
set_option maxHeartbeats 3200000
attribute [local go_sem] qg List.map_cons List.map_nil Tr.cv yv qT yF yD yu yr yq yC zBD zBF zBE zBA zBC zBB zCc zCe zCd qY zt qZ zu qR qQ qf zAL zp zq yL qW tmpsOf zAy yK qV zA9 yz yx yw zAA yy stpP opds opd opdC kap zAS qS zo coreU bin zAl zCO get put dlO fgt zBP zBI zBM zBN tyT yp yo Op.operands Call.operands evLoad evLen evStore evAlloc zAn and_true true_and List.append_nil List.nil_append List.cons_append Ret resCv zCB yY cellM zBl zCI qh StW StR hpT hpO hpV hpA hpL hpC sg nin zCT bdO tmW obW AvE CsE CvE Av.tup Av.ids Cv.ids inD ObE Ob.ids TrE.refl qU yH yI qb qd qe zr zf zd zAC zBe zCH zBG evCall argL argOf qq outOb obO yU qK cvO tot Tr.own rid partsOf fillC zU zBj frz frz1 evBuildSlice zc trs Cv.tr evSlice Option.toArray_none Option.toArray_some evMakeSlice evAppend dstOf srcOf zA7 zBO zBL zBJ zBK ikT yB yA qz qy RetP RetN zBs qP evLd evSt evStoreH zAe evAppendM evAppendT tlOf mvOf rowE shp evTake oOf evC evCallP evCallN evCallO unlast zAX zA6 zAZ argsF zCS qu pmC varT vT evField evConv dB0 Option.bind_some Option.bind_none Option.map_some Option.map_none Option.isSome_some Option.isSome_none
attribute [local go_sem] yP zb zA5 yW qw zAs zAt zAu zAv zAw zAx zAD zAE zAF zAG zAH zAI zAJ zAK yR qt
attribute [-go_sem] zb
attribute [local go_sem] zAP zB7 zB8 zAU yb
structure zQB (x y:zAk):Prop where
 code:x.code=y.code
 id:x.id=y.id
 many:x.many=y.many
 no:x.code≠0->x.world.sn=0/\x.world.pool.n=0
 ok:x.code=0->qo x.world
 good:zAz 1 x.world
noncomputable def zcY:zX:=qk (fun q:zAk×zAk=>[wuL q.1,wuL q.2]) (fun q=>zQB q.1 q.2) (fun _=>tT)
theorem zEi(x y:zAk):zcY [wuL x,wuL y]=some (zQB x y,tT):=zO (fun l=>(zb0 (nth l 0),zb0 (nth l 1))) (fun _=>rfl) (x,y)
theorem zWx:zy Tryz.prog 6 zcY:=by
 refine zQ qA (GOk.cons zAW (zG Tryz.func23 rfl rfl) (GOk.cons zdR (zG Tryz.func24 rfl rfl) GOk.nil)) zz Tryz.func6 rfl Tryz.ntmps6 Tryz.results6 6 ?_;rintro⟨x,y⟩ hT;replace hT:zQB x y:=hT;obtain⟨h1,h2,h3,h4,h5,h6⟩:=hT;have cW:=(h6.zeP (c:=1) (by omega)).toSmallW;refine⟨by simp,?_⟩;by_cases h0:x.code=0
 ·have hS:=h5 h0;simp[go_sem,zAp,zVV,<-h1,<-h2,<-h3,h0,hS,h6,cW]
 ·obtain⟨a,b⟩:=h4 h0;simp[go_sem,zAp,zVV,<-h1,<-h2,<-h3,h0,a,b]
set_option maxRecDepth 20000
set_option maxHeartbeats 3200000
attribute [local go_sem] qg List.map_cons List.map_nil Tr.cv yv qT yF yD yu yr yq yC zBD zBF zBE zBA zBC zBB zCc zCe zCd qY zt qZ zu qR qQ qf zAL zp zq yL qW tmpsOf zAy yK qV zA9 yz yx yw zAA yy stpP opds opd opdC kap zAS qS zo coreU bin zAl zCO get put dlO fgt zBP zBI zBM zBN tyT yp yo Op.operands Call.operands evLoad evLen evStore evAlloc zAn and_true true_and List.append_nil List.nil_append List.cons_append Ret resCv zCB yY cellM zBl zCI qh StW StR hpT hpO hpV hpA hpL hpC sg nin zCT bdO tmW obW AvE CsE CvE Av.tup Av.ids Cv.ids inD ObE Ob.ids TrE.refl qU yH yI qb qd qe zr zf zd zAC zBe zCH zBG evCall argL argOf qq outOb obO yU qK cvO tot Tr.own rid partsOf fillC zU zBj frz frz1 evBuildSlice zc trs Cv.tr evSlice Option.toArray_none Option.toArray_some evMakeSlice evAppend dstOf srcOf zA7 zBO zBL zBJ zBK ikT yB yA qz qy RetP RetN zBs qP evLd evSt evStoreH zAe evAppendM evAppendT tlOf mvOf rowE shp evTake oOf evC evCallP evCallN evCallO unlast zAX zA6 zAZ argsF zCS qu pmC varT vT evField evConv dB0 Option.bind_some Option.bind_none Option.map_some Option.map_none Option.isSome_some Option.isSome_none
attribute [local go_sem] yP zb zA5 yW qw zAs zAt zAu zAv zAw zAx zAD zAE zAF zAG zAH zAI zAJ zAK yR qt
attribute [-go_sem] zb zAl
attribute [local go_sem] zAP zB7 zB8 zAU yb zL1 zL2 zOr zOp zOq zKd zKe zKf zOk zOo zOn zOm zOl zEC
def zFv(s:zAq)(p:zF):zAq×Int×Int:=if nV s 8=0\/p.n=0 then(nS (nS (nS s 8) 14) 4,zRe (nS s 8),nV (nS (nS s 8) 14) 4)else(nS (nS s 8) p.n,nV (nS s 8) p.n,(p.s (nV (nS s 8) p.n).toNat).birth)
noncomputable def zcO:zX:=qk (fun q:zAq×zF=>(true,srV q.1) :: [poT q.2.n q.2.s q.2.hn q.2.h]) (fun q=>yS q.1/\q.2.n<=1000000) (fun q=>[(true,srV (zFv q.1 q.2).1),pT (zFv q.1 q.2).2.1 (zFv q.1 q.2).2.2])
theorem zY4(s:zAq)(p:zF):zcO ((true,srV s) :: [poT p.n p.s p.hn p.h])=some (yS s/\p.n<=1000000,[(true,srV (zFv s p).1),pT (zFv s p).2.1 (zFv s p).2.2]):=zO (fun l=>(zIf (nth l 0),zEu (nth l 1 0) (nth l 1 1))) (fun _=>rfl) (s,p)
theorem zWo:zBv Tryz.prog 86 zcO:=by
 refine zBg qA (GOk.ptr zST (zG Tryz.func83 rfl rfl) (GOk.ptr zUO (zG Tryz.func85 rfl rfl) (GOk.ptr zUw (zG Tryz.func138 rfl rfl) GOk.nil))) zz Tryz.func86 rfl Tryz.ntmps86 Tryz.results86 6 ?_;rintro⟨s,p⟩ hs;obtain⟨hs,hp⟩:yS s/\p.n<=1000000:=hs;have h1:=zBV hs 8;have h2:=zBV h1 14;refine⟨by simp,?_⟩;by_cases h0:nV s 8=0
 ·simp[go_sem,zDl,zCZ,zHr,hs,h1,h2,h0,zFv,qH]
 by_cases hn:p.n=0
 ·simp[go_sem,zDl,zCZ,zHr,hs,h1,h2,h0,hn,zFv,qH]
 have hv:=zNS (nS s 8) (m:=p.n) (by omega);simp[go_sem,zDl,zCZ,zHr,hs,h1,h2,h0,hn,zFv,qH];exact⟨by omega,hv.1,by omega⟩
noncomputable def stepAt(s:zAq)(W:zB)(x:ByteArray)(a:Int):Nat->zAq×zAk
 | 0=>(s,zEZ W x)
 | 1=>(zLt s,zLg W x (zSa s))
 | 2 | 3 | 4=>(nS s 3,zEo W x ([⟨#[115,49]⟩,⟨#[115,50]⟩,⟨#[115,51]⟩].getD (nV s 3).toNat ⟨#[]⟩))
 | 5=>(s,sdE W a)
 | 6 | 7=>(nS s 3,zFC W a ([⟨#[98]⟩,⟨#[99]⟩,⟨#[100]⟩].getD (nV s 3).toNat ⟨#[]⟩))
 | 8=>(s,zEe W x)
 | 9=>(s,zEl W x)
 | 10=>(s,zSd W x)
 | 11=>(s,⟨{W with pool:=zLf W.pool},0,0,0⟩)
 | _=>(zUt (zLt s),zH4 W x (zSa s) (zUu (zLt s)))
noncomputable def zCQ(s:zAq)(W:zB):zAq×zAk:=stepAt (nS (nS (nS s (max 1 W.next)) 5) 16) W (zLU (nS s (max 1 W.next))) (1+nV s (max 1 W.next)) (nV (nS (nS s (max 1 W.next)) 5) 16).toNat
noncomputable def zcW:zX:=qk (fun q:zAq×zB=>(true,srV q.1) :: [woT q.2]) (fun q=>yS q.1/\ym q.2/\q.2.next<=1000000000) (fun q=>[(true,srV (zCQ q.1 q.2).1),wuO (zCQ q.1 q.2).2])
theorem zSP(s:zAq)(W:zB):zcW ((true,srV s) :: [woT W])=some (yS s/\ym W/\W.next<=1000000000,[(true,srV (zCQ s W).1),wuO (zCQ s W).2]):=zO (fun l=>(zIf (nth l 0),zCW (nth l 1))) (fun _=>rfl) (s,W)
theorem zT7:zBv Tryz.prog 84 zcW:=by
 refine zBg qA (GOk.cons zCY (zG Tryz.func28 rfl rfl) (GOk.cons zRH (zG Tryz.func135 rfl rfl) (GOk.ptr zST (zG Tryz.func83 rfl rfl) (GOk.cons zOf (zG Tryz.func81 rfl rfl) (GOk.cons zWn (zG Tryz.func128 rfl rfl) (GOk.ptr zM9 (zG Tryz.func44 rfl rfl) (GOk.cons zTH (zG Tryz.func129 rfl rfl) (GOk.ptr zTU (zG Tryz.func130 rfl rfl) (GOk.cons zTI (zG Tryz.func131 rfl rfl) (GOk.ptr zVw (zG Tryz.func87 rfl rfl) (GOk.cons zML (zG Tryz.func132 rfl rfl) (GOk.cons zRB (zG Tryz.func133 rfl rfl) (GOk.cons zIZ (zG Tryz.func15 rfl rfl) (GOk.cons zLG (zG Tryz.func7 rfl rfl) (GOk.cons zTG (zG Tryz.func134 rfl rfl) (GOk.cons zRJ (zG Tryz.func136 rfl rfl) (GOk.ptr zTy (zG Tryz.func137 rfl rfl) GOk.nil))))))))))))))))) zz Tryz.func84 rfl Tryz.ntmps84 Tryz.results84 70 ?_;rintro⟨s,W⟩ hs;obtain⟨hs,hW,hx⟩:yS s/\ym W/\W.next<=1000000000:=hs;have hm:max 1 W.next<=1000000000000000000:=by omega
 have hi:=zNS s hm;have hw:IntKind.i64.wrap (1+nV s (max 1 W.next))=1+nV s (max 1 W.next):=zEp (by omega) (by omega);obtain⟨t,ht⟩:∃t,zCQ s W=t:=⟨_,rfl⟩;obtain⟨a,ea⟩:∃a,1+nV s (max 1 W.next)=a:=⟨_,rfl⟩;rw[ea]at hw;obtain⟨s1,e1⟩:∃s1,nS s (max 1 W.next)=s1:=⟨_,rfl⟩;obtain⟨x,ex⟩:∃x,zLU s1=x:=⟨_,rfl⟩;obtain⟨s2,e2⟩:∃s2,nS s1 5=s2:=⟨_,rfl⟩;obtain⟨s3,e3⟩:∃s3,nS s2 16=s3:=⟨_,rfl⟩;obtain⟨v,hv⟩:∃v:Nat,nV s2 16=v:=⟨_,(Int.toNat_of_nonneg (zNS s2 (m:=16) (by omega)).1).symm⟩;have h1:yS s1:=e1▸zBV hs _;have h2:yS s2:=e2▸zBV h1 5;have h3:yS s3:=e3▸zBV h2 16;have hn:=hW.n;have hh:=hW.hn;have hk:(∀i,i<W.pool.n->(W.pool.s i).kn<=1000000)↔True:=⟨fun _=>trivial,fun _=>hW.kn⟩;have hq:t=stepAt s3 W x a v:=by
  rw[<-ht];unfold zCQ;rw[e1,e2,e3,ex,ea,hv];rfl
 have q0:v=0->t=(s3,zEZ W x):=fun h=>by rw[hq,h];rfl
 have q1:v=1->t=(zLt s3,zLg W x (zSa s3)):=fun h=>by rw[hq,h];rfl
 have q2:v=2\/v=3\/v=4->t=(nS s3 3,zEo W x ([⟨#[115,49]⟩,⟨#[115,50]⟩,⟨#[115,51]⟩].getD (nV s3 3).toNat ⟨#[]⟩)):=fun h=>by rcases h with h | h | h<;>(rw[hq,h];rfl)
 have q5:v=5->t=(s3,sdE W a):=fun h=>by rw[hq,h];rfl
 have q6:v=6\/v=7->t=(nS s3 3,zFC W a ([⟨#[98]⟩,⟨#[99]⟩,⟨#[100]⟩].getD (nV s3 3).toNat ⟨#[]⟩)):=fun h=>by rcases h with h | h<;>(rw[hq,h];rfl)
 have q8:v=8->t=(s3,zEe W x):=fun h=>by rw[hq,h];rfl
 have q9:v=9->t=(s3,zEl W x):=fun h=>by rw[hq,h];rfl
 have aA:v=10->t=(s3,zSd W x):=fun h=>by rw[hq,h];rfl
 have bA:v=11->t=(s3,⟨{W with pool:=zLf W.pool},0,0,0⟩):=fun h=>by rw[hq,h];rfl
 have cA:12<=v->t=(zUt (zLt s3),zH4 W x (zSa s3) (zUu (zLt s3))):=fun h=>by
  obtain⟨w,rfl⟩:∃w,v=w+12:=⟨v - 12,by omega⟩;rw[hq];rfl
 clear hq;refine⟨by simp,?_⟩;show ev _ _ _ _ _ _ (zRE _ _ [(true,srV (zCQ s W).1),wuO (zCQ s W).2]);rw[ht];simp[go_sem,zbF,zDl,zPX,zbG,zYt,zW2,zNM,zZI,zW6,zSO,zW0,zc2,zHq,zHt,zbH,zAQ,zZE,hs,hW,h1,h2,h3,e1,e2,e3,ex,ea,hm,hw,hv,hn,hh,hk,zQl h3]
 repeat' first | refine⟨fun _=>?_,fun _=>?_⟩ | fail
 all_goals first
  | (exfalso;omega)
  | rw[q0 (by omega)]
  | rw[q1 (by omega)]
  | rw[q2 (by omega)]
  | rw[q5 (by omega)]
  | rw[q6 (by omega)]
  | rw[q8 (by omega)]
  | rw[q9 (by omega)]
  | rw[aA (by omega)]
  | rw[bA (by omega)]
  | rw[cA (by omega)]
 all_goals first
  | exact⟨⟨⟨TrE.refl _,qH⟩,rfl,rfl,rfl⟩,⟨TrE.refl _,zW⟩,⟨TrE.refl _,zm⟩,rfl,rfl,⟨TrE.refl _,qm⟩,⟨TrE.refl _,qI⟩,rfl,rfl,rfl⟩
  | exact⟨by as_aux_lemma=>kernel_rfl,⟨⟨TrE.refl _,qH⟩,rfl,rfl,rfl⟩,⟨TrE.refl _,zW⟩,⟨TrE.refl _,zm⟩,rfl,rfl,⟨TrE.refl _,qm⟩,⟨TrE.refl _,qI⟩,rfl,rfl,rfl⟩
set_option maxRecDepth 20000
set_option maxHeartbeats 3200000
theorem zbx{a b:Int}:zAl .mul .i64 a .i64 b=some (True,.int .i64 (IntKind.i64.wrap (a*b))):=rfl
theorem zby{a b:Int}:zAl .sub .i64 a .i64 b=some (True,.int .i64 (IntKind.i64.wrap (a - b))):=rfl
theorem zPC{c:Nat}{W:zB}(h:zAz c W)(s:zAq):zAz c (zCQ s W).2.world:=by
 unfold zCQ;generalize nV (nS (nS s (max 1 W.next)) 5) 16=v;generalize nS (nS (nS s (max 1 W.next)) 5) 16=s3;unfold stepAt;split
 ·exact(zHi ..).up
 ·exact(zWd ..).up
 ·exact(zGw ..).up
 ·exact(zGw ..).up
 ·exact(zGw ..).up
 ·exact(za3 ..).up
 ·exact(zMr ..).up
 ·exact(zMr ..).up
 ·exact(zKk ..).up
 ·exact(zKl ..).up
 ·exact(zYM ..).up
 ·exact zWc h
 ·exact(zTl ..).up
theorem zKM{s:zAq}(h:yS s)(W:zB):yS (zCQ s W).1:=by
 have h3:=zBV (zBV (zBV h (max 1 W.next)) 5) 16;unfold zCQ;generalize nV (nS (nS s (max 1 W.next)) 5) 16=v;generalize nS (nS (nS s (max 1 W.next)) 5) 16=s3 at h3;unfold stepAt;split<;>dsimp only
 all_goals first
  | exact h3
  | exact zBV h3 _
  | exact zQl h3
  | exact zBV (zBV (zQl h3) _) _
theorem zZc(x:Int):ym (nwW x):=by
 unfold nwW;split
 ·refine⟨⟨by show x.toNat<=_;omega,Nat.zero_le _,Nat.zero_le _,Nat.zero_le _,fun i hi=>absurd hi (Nat.not_lt_zero _),fun i hi=>absurd hi (Nat.not_lt_zero _)⟩,fun i hi=>Nat.zero_le _⟩
 ·exact⟨⟨Nat.zero_le _,Nat.zero_le _,Nat.zero_le _,Nat.zero_le _,fun i hi=>absurd hi (Nat.not_lt_zero _),fun i hi=>absurd hi (Nat.not_lt_zero _)⟩,fun i hi=>Nat.zero_le _⟩
noncomputable def runW:Nat->zAq->zB->zAq×zB
 | 0,s,W=>(s,W)
 | r+1,s,W=>if (zCQ s W).2.code=0 then runW r (zCQ s W).1 (zCQ s W).2.world else runW r (zCQ s W).1 W
theorem zQw:∀(r:Nat) {s:zAq} {W:zB},yS s->zAz 0 W->yS (runW r s W).1/\zAz 0 (runW r s W).2
 | 0,s,W,hs,hW=>⟨hs,hW⟩
 | r+1,s,W,hs,hW=>by
  unfold runW;split
  ·exact zQw r (zKM hs W) (zPC hW s)
  ·exact zQw r (zKM hs W) hW
noncomputable def spoilAt(s:zAq)(W:zB):Nat->zAq×zB
 | 0=>(nS s 3,{W with time:=[0,900000,900001].getD (nV s 3).toNat 0})
 | 1=>(s,{W with next:=1})
 | 2=>if 0<W.sn then(s,{W with zeK:=fun i=>if i=0 then {W.zeK 0 with dn:=(zD6 (W.zeK 0).dn (W.zeK 0).ds (W.zeK 0).db ++ [(1,1)]).length,ds:=zh (zD6 (W.zeK 0).dn (W.zeK 0).ds (W.zeK 0).db ++ [(1,1)]),db:=zn (zD6 (W.zeK 0).dn (W.zeK 0).ds (W.zeK 0).db ++ [(1,1)])}else W.zeK i})else(s,W)
 | 3=>if 0<W.pn then(nS s 3,{W with zeJ:=fun i=>if i=0 then {W.zeJ 0 with zeL:=1+nV s 3}else W.zeJ i})else(s,W)
 | 4=>if 0<W.sn then((zFv s W.pool).1,{W with zeK:=fun i=>if i=0 then {W.zeK 0 with rs:=(zFv s W.pool).2.1,rb:=(zFv s W.pool).2.2}else W.zeK i})else(s,W)
 | _=>(nS s 5,{W with pool:=zBw W.pool (nV s 5)})
noncomputable def zFx(s:zAq)(W:zB):zAq×zB:=if nV s 20=0 then spoilAt (nS (nS s 20) 6) W (nV (nS s 20) 6).toNat else(nS s 20,W)
noncomputable def zDJ(s:zAq):zAq×zB:=
 let q:=runW (nV (nS s 60) (12+2*(nS s 60).size)).toNat (nS (nS s 60) (12+2*(nS s 60).size)) (zEZ (nwW (20+nV s 60)) ⟨#[97]⟩).world
 zFx q.1 q.2
attribute [local go_sem] qg List.map_cons List.map_nil Tr.cv yv qT yF yD yu yr yq yC zBD zBF zBE zBA zBC zBB zCc zCe zCd qY zt qZ zu qR qQ qf zAL zp zq yL qW tmpsOf zAy yK qV zA9 yz yx yw zAA yy stpP opds opd opdC kap zAS qS zo coreU bin zAl zCO get put dlO fgt zBP zBI zBM zBN tyT yp yo Op.operands Call.operands evLoad evLen evStore evAlloc zAn and_true true_and List.append_nil List.nil_append List.cons_append Ret resCv zCB yY cellM zBl zCI qh StW StR hpT hpO hpV hpA hpL hpC sg nin zCT bdO tmW obW AvE CsE CvE Av.tup Av.ids Cv.ids inD ObE Ob.ids TrE.refl qU yH yI qb qd qe zr zf zd zAC zBe zCH zBG evCall argL argOf qq outOb obO yU qK cvO tot Tr.own rid partsOf fillC zU zBj frz frz1 evBuildSlice zc trs Cv.tr evSlice Option.toArray_none Option.toArray_some evMakeSlice evAppend dstOf srcOf zA7 zBO zBL zBJ zBK ikT yB yA qz qy RetP RetN zBs qP evLd evSt evStoreH zAe evAppendM evAppendT tlOf mvOf rowE shp evTake oOf evC evCallP evCallN evCallO unlast zAX zA6 zAZ argsF zCS qu pmC varT vT evField evConv dB0 Option.bind_some Option.bind_none Option.map_some Option.map_none Option.isSome_some Option.isSome_none
attribute [local go_sem] yP zb zA5 yW qw zAs zAt zAu zAv zAw zAx zAD zAE zAF zAG zAH zAI zAJ zAK yR qt
attribute [-go_sem] zb zAl
attribute [local go_sem] zAP zB7 zB8 zAU yb zL1 zL2 zOr zOp zOq zKd zKe zKf zOk zbx zby zOo zOn zOm zOl zEC
noncomputable def zZM:zX:=qk (fun s:zAq=>[(true,srV s)]) (fun s=>yS s) (fun s=>[(true,srV (zDJ s).1),woO (zDJ s).2])
theorem zW5(s:zAq):zZM [(true,srV s)]=some (yS s,[(true,srV (zDJ s).1),woO (zDJ s).2]):=zO (fun l=>zIf (nth l 0)) (fun _=>rfl) s
theorem zSB:zBv Tryz.prog 43 zZM:=by
 refine zBg (A:=fun _=>[]) qA (GOk.cons zRN (zG Tryz.func82 rfl rfl) (GOk.ptr zT7 (zG Tryz.func84 rfl rfl) (GOk.ptr zUO (zG Tryz.func85 rfl rfl) (GOk.ptr zST (zG Tryz.func83 rfl rfl) (GOk.cons zOf (zG Tryz.func81 rfl rfl) (GOk.ptr zWo (zG Tryz.func86 rfl rfl) GOk.nil)))))) zz Tryz.func43 rfl Tryz.ntmps43 Tryz.results43 88 ?_;rintro s hs;replace hs:yS s:=hs;obtain⟨t,ht⟩:∃t,zDJ s=t:=⟨_,rfl⟩;obtain⟨s1,e1⟩:∃s1,nS s 60=s1:=⟨_,rfl⟩;have h1:yS s1:=e1▸zBV hs _;have hv:=zIm s (m:=60) (by omega) (by omega);have hz:=h1.size;have gA:IntKind.i64.wrap (20+nV s 60)=20+nV s 60:=zEp (by omega) (by omega);have iA:IntKind.i64.wrap (2*s1.size)=2*s1.size:=zEp (by omega) (by omega);have jA:IntKind.i64.wrap (12+2*s1.size)=12+2*s1.size:=zEp (by omega) (by omega);have hm:12+2*s1.size<=1000000000000000000:=by omega
 obtain⟨s2,e2⟩:∃s2,nS s1 (12+2*s1.size)=s2:=⟨_,rfl⟩;have h2:yS s2:=e2▸zBV h1 _;obtain⟨K,hK⟩:∃K:Nat,nV s1 (12+2*s1.size)=K:=⟨_,(Int.toNat_of_nonneg (zNS s1 hm).1).symm⟩;have eA:K<40:=by have:=(zIm s1 (m:=12+2*s1.size) (by omega) hm).2;omega
 have hN:ym (nwW (20+nV s 60)):=zZc _;obtain⟨o,eo⟩:∃o,zEZ (nwW (20+nV s 60)) ⟨#[97]⟩=o:=⟨_,rfl⟩;have hg:zAz 0 o.world:=eo▸zHi _ _;have hq:t=zFx (runW K s2 o.world).1 (runW K s2 o.world).2:=by
  rw[<-ht];show zFx (runW (nV (nS s 60) (12+2*(nS s 60).size)).toNat (nS (nS s 60) (12+2*(nS s 60).size)) (zEZ (nwW (20+nV s 60)) ⟨#[97]⟩).world).1 (runW (nV (nS s 60) (12+2*(nS s 60).size)).toNat (nS (nS s 60) (12+2*(nS s 60).size)) (zEZ (nwW (20+nV s 60)) ⟨#[97]⟩).world).2=_;rw[e1,e2,hK,eo];rfl
 refine⟨by simp,?_⟩;show ev _ _ _ _ _ _ (zRE _ _ [(true,srV (zDJ s).1),woO (zDJ s).2]);rw[ht];simp[go_sem,zDl,zZL,zNM,hs,h1,e1,e2,gA,iA,jA,hm,hK,hN,eo];refine yE (fun q:Nat×zAq×zB=>⟨[(4,true,.i q.1),(3,true,.m false [.p 3 0]),(2,true,.m false [.p 2 0]),(0,true,.m false [.p 0 0])],[(0,.var [.s .z 1 q.2.1.bn (zF6 q.2.1.bf),.v (.int .i64 q.2.1.pos),.v (.int .u64 q.2.1.mix),.v (.int .i64 q.2.1.size)]),(3,.var [.h 61,.h 62,.v (.int .i64 q.2.2.time),.v (.int .i64 q.2.2.next),.h 63,.h 64]),(64,.row 8 q.2.2.pn (snapsE .z q.2.2.zeJ)),(63,.row 6 q.2.2.sn (setsE .o q.2.2.zeK)),(62,.row 1 q.2.2.pool.hn (yT q.2.2.pool.h)),(61,.row 3 q.2.2.pool.n (zk .z q.2.2.pool.s)),(2,.var [.v n0,.v n0,.v i0,.v i0,.v n0,.v n0])]⟩) (fun q=>q.1) (fun q=>q.1<40/\yS q.2.1/\zAz 0 q.2.2/\t=zFx (runW q.1 q.2.1 q.2.2).1 (runW q.1 q.2.1 q.2.2).2) (K,s2,o.world) (by simp[go_sem]) ⟨eA,h2,hg,hq⟩ ?_;rintro⟨r,s,W⟩ ⟨dA,hs,hW,hq⟩;replace dA:r<40:=dA;replace hs:yS s:=hs;replace hW:zAz 0 W:=hW;replace hq:t=zFx (runW r s W).1 (runW r s W).2:=hq;have hC:=hW.zeP (by omega);have hx:=hW.next;cases r with
 | succ r=>
  have hr:IntKind.i64.wrap (r:Int)=r:=zEp (by omega) (by omega);have cA:=hq;unfold runW at cA;by_cases hc:(zCQ s W).2.code=0
  ·rw[if_pos hc]at cA;simp[go_sem,zSP,hs,hC,show W.next<=1000000000 by omega,hc,hr];exact⟨r,(zCQ s W).1,(zCQ s W).2.world,⟨by omega,zKM hs W,zPC hW s,cA⟩,by omega,rfl,⟨TrE.refl _,rfl,rfl,rfl⟩,⟨rfl,rfl⟩,TrE.refl _,TrE.refl _,TrE.refl _,TrE.refl _⟩
  ·rw[if_neg hc]at cA;simp[go_sem,zSP,hs,hC,show W.next<=1000000000 by omega,hc,hr];exact⟨r,(zCQ s W).1,W,⟨by omega,zKM hs W,hW,cA⟩,by omega,rfl,⟨TrE.refl _,rfl,rfl,rfl⟩,⟨rfl,rfl⟩,TrE.refl _,TrE.refl _,TrE.refl _,TrE.refl _⟩
 | zero=>
  replace hq:t=zFx s W:=hq;unfold zFx at hq;by_cases aA:nV s 20=0;rotate_left
  ·rw[if_neg aA]at hq;simp[go_sem,zCZ,hs,aA,hq,qH,zW,zm,qm,qI]
  rw[if_pos aA]at hq;obtain⟨a,ea⟩:∃a,nS s 20=a:=⟨_,rfl⟩;obtain⟨b,eb⟩:∃b,nS a 6=b:=⟨_,rfl⟩;obtain⟨v,bA⟩:∃v:Nat,nV a 6=v:=⟨_,(Int.toNat_of_nonneg (zNS a (m:=6) (by omega)).1).symm⟩;have ha:yS a:=ea▸zBV hs _;have hb:yS b:=eb▸zBV ha _;rw[ea,eb,bA]at hq;have hn:=hC.n;have lA:=zIm b (m:=3) (by omega) (by omega);have hw:IntKind.i64.wrap (1+nV b 3)=1+nV b 3:=zEp (by omega) (by omega);have fA:v<6:=(by have:=(zIm a (m:=6) (by omega) (by omega)).2;omega);have hd:=fun h=>(hW.zeK 0 h).dn
  rcases(show v=0\/v=1\/v=2\/v=3\/v=4\/v=5 by omega)with e | e | e | e | e | e<;>subst e
  ·have q:t=(nS b 3,{W with time:=[0,900000,900001].getD (nV b 3).toNat 0}):=hq;rcases(show nV b 3=0\/nV b 3=1\/nV b 3=2 by omega)with h3 | h3 | h3<;>simp[go_sem,zCZ,zDl,hs,ha,hb,aA,ea,eb,bA,h3,q,qH,zW,zm,qm,qI]
  ·have q:t=(b,{W with next:=1}):=hq;simp[go_sem,zCZ,zDl,hs,ha,hb,aA,ea,eb,bA,q,qH,zW,zm,qm,qI]
  ·replace hq:t=if 0<W.sn then _ else _:=hq
   by_cases h0:0<W.sn
   ·rw[if_pos h0]at hq;simp[go_sem,zCZ,zDl,hs,ha,hb,aA,ea,eb,bA,h0,hq,qH,zW,zm,qm,qI];have kA:=hd h0;refine⟨by omega,by kernel_rfl,⟨.inl rfl,rfl,rfl,fun i j hi hj=>?_⟩⟩;by_cases e:i=0
    ·subst e
     match j,hj with
     | 0,_ | 1,_ | 2,_ | 3,_ | 4,_=>exact TrE.of_eq (by simp[yN,setsE])
     | 5,_=>
      have:=zJp (n:=(W.zeK 0).dn) (m:=(W.zeK 0).dn+1) (f:=(W.zeK 0).ds) (g:=(W.zeK 0).db) (l:=[(1,1)]) (F:=yX (ptrsT (W.zeK 0).ds (W.zeK 0).db) (W.zeK 0).dn fun p q=>(([.v (.int .i64 1),.v (.int .i64 1)]:List Tr)[p*2+q]?.getD (.v (.bool false))).nt) rfl (fun a b ha hb=>by
       unfold yX;split
       ·rfl
       ·have:a - (W.zeK 0).dn=0:=(by omega);rw[this]
        match b,hb with
        | 0,_ | 1,_=>rfl)
      simpa[yN,setsE]using this
    ·exact TrE.of_eq (by unfold setsE;simp[yN,e])
   ·rw[if_neg h0]at hq;simp[go_sem,zCZ,zDl,hs,ha,hb,aA,ea,eb,bA,h0,hq,qH,zW,zm,qm,qI]
  ·replace hq:t=if 0<W.pn then _ else _:=hq
   by_cases h0:0<W.pn
   ·rw[if_pos h0]at hq;simp[go_sem,zCZ,zDl,hs,ha,hb,aA,ea,eb,bA,h0,hq,hw,qH,zW,zm,qm,qI];refine⟨by kernel_rfl,⟨.inl rfl,rfl,rfl,fun i j hi hj=>TrE.of_eq ?_⟩⟩;by_cases e:i=0
    ·subst e
     match j,hj with
     | 0,_ | 1,_ | 2,_ | 3,_ | 4,_ | 5,_ | 6,_ | 7,_=>simp[yN,snapsE]
    ·unfold snapsE;simp[yN,e]
   ·rw[if_neg h0]at hq;simp[go_sem,zCZ,zDl,hs,ha,hb,aA,ea,eb,bA,h0,hq,qH,zW,zm,qm,qI]
  ·replace hq:t=if 0<W.sn then _ else _:=hq
   by_cases h0:0<W.sn
   ·rw[if_pos h0]at hq;simp[go_sem,zCZ,zDl,zY4,hs,ha,hb,aA,ea,eb,bA,h0,hq,hn,qH,zW,zm,qm,qI];refine⟨by kernel_rfl,⟨.inl rfl,rfl,rfl,fun i j hi hj=>TrE.of_eq ?_⟩⟩;by_cases e:i=0
    ·subst e
     match j,hj with
     | 0,_ | 1,_ | 2,_ | 3,_ | 4,_ | 5,_=>simp[yN,setsE]
    ·unfold setsE;simp[yN,e]
   ·rw[if_neg h0]at hq;simp[go_sem,zCZ,zDl,hs,ha,hb,aA,ea,eb,bA,h0,hq,qH,zW,zm,qm,qI]
  ·have q:t=(nS b 5,{W with pool:=zBw W.pool (nV b 5)}):=hq;simp[go_sem,zCZ,zDl,hs,ha,hb,aA,ea,eb,bA,q,qH,zW,zm,qm,qI];have:=hC.hn;exact⟨by omega,by kernel_rfl,TrE.refl _,zKr⟩
set_option maxRecDepth 20000
set_option maxHeartbeats 3200000
theorem zbY{s:zAq}(h:yS s)(p:zF):yS (zFv s p).1:=by
 unfold zFv;split
 ·exact zBV (zBV (zBV h 8) 14) 4
 ·exact zBV (zBV h 8) p.n
theorem zUd{s:zAq}{W:zB}(hs:yS s)(h:zAz 0 W)(v:Nat):yS (spoilAt s W v).1/\zAz 1 (spoilAt s W v).2:=by
 have g:zAz 1 W:=h.up;unfold spoilAt;split
 ·exact⟨zBV hs 3,⟨g.pool,g.sn,g.pn,g.next,g.zeK,g.zeJ⟩⟩
 ·exact⟨hs,⟨g.pool,g.sn,g.pn,by show(0:Int)<=1/\(1:Int)<=900001;omega,g.zeK,g.zeJ⟩⟩
 ·split
  ·rename_i h0
   have h1:=h.zeK 0 h0;refine⟨hs,⟨g.pool,g.sn,g.pn,g.next,fun i hi=>?_,g.zeJ⟩⟩;dsimp only;split
   ·refine⟨?_,h1.name,h1.zeL⟩;have:=h1.dn;simp only[List.length_append,zIP,List.length_cons,List.length_nil];omega
   ·exact g.zeK i hi
  ·exact⟨hs,g⟩
 ·split
  ·rename_i h0
   have h1:=g.zeJ 0 h0;have hv:=zIm s (m:=3) (by omega) (by omega);refine⟨zBV hs 3,⟨g.pool,g.sn,g.pn,g.next,g.zeK,fun i hi=>?_⟩⟩;dsimp only;split
   ·exact⟨h1.dn,h1.name,h1.set,by dsimp only;omega,h1.id⟩
   ·exact g.zeJ i hi
  ·exact⟨hs,g⟩
 ·split
  ·rename_i h0
   have h1:=g.zeK 0 h0;refine⟨zbY hs _,⟨g.pool,g.sn,g.pn,g.next,fun i hi=>?_,g.zeJ⟩⟩;dsimp only;split
   ·exact⟨h1.dn,h1.name,h1.zeL⟩
   ·exact g.zeK i hi
  ·exact⟨hs,g⟩
 ·refine⟨zBV hs 5,⟨?_,g.sn,g.pn,g.next,g.zeK,g.zeJ⟩⟩;have:=h.pool;show W.pool.n+zBp W.pool.s W.pool.n+(W.pool.hn+1)<=19000+1;unfold qs at this;omega
theorem zS8{s:zAq}(hs:yS s):yS (zDJ s).1/\zAz 1 (zDJ s).2:=by
 have h:=zQw (nV (nS s 60) (12+2*(nS s 60).size)).toNat (zBV (zBV hs 60) (12+2*(nS s 60).size)) (zHi (nwW (20+nV s 60)) ⟨#[97]⟩);unfold zDJ zFx;dsimp only;split
 ·exact zUd (zBV (zBV h.1 20) 6) h.2 _
 ·exact⟨zBV h.1 20,h.2.up⟩
set_option maxRecDepth 20000
set_option maxHeartbeats 3200000
attribute [local go_sem] qg List.map_cons List.map_nil Tr.cv yv qT yF yD yu yr yq yC zBD zBF zBE zBA zBC zBB zCc zCe zCd qY zt qZ zu qR qQ qf zAL zp zq yL qW tmpsOf zAy yK qV zA9 yz yx yw zAA yy stpP opds opd opdC kap zAS qS zo coreU bin zAl zCO get put dlO fgt zBP zBI zBM zBN tyT yp yo Op.operands Call.operands evLoad evLen evStore evAlloc zAn and_true true_and List.append_nil List.nil_append List.cons_append Ret resCv zCB yY cellM zBl zCI qh StW StR hpT hpO hpV hpA hpL hpC sg nin zCT bdO tmW obW AvE CsE CvE Av.tup Av.ids Cv.ids inD ObE Ob.ids TrE.refl qU yH yI qb qd qe zr zf zd zAC zBe zCH zBG evCall argL argOf qq outOb obO yU qK cvO tot Tr.own rid partsOf fillC zU zBj frz frz1 evBuildSlice zc trs Cv.tr evSlice Option.toArray_none Option.toArray_some evMakeSlice evAppend dstOf srcOf zA7 zBO zBL zBJ zBK ikT yB yA qz qy RetP RetN zBs qP evLd evSt evStoreH zAe evAppendM evAppendT tlOf mvOf rowE shp evTake oOf evC evCallP evCallN evCallO unlast zAX zA6 zAZ argsF zCS qu pmC varT vT evField evConv dB0 Option.bind_some Option.bind_none Option.map_some Option.map_none Option.isSome_some Option.isSome_none
attribute [local go_sem] yP zb zA5 yW qw zAs zAt zAu zAv zAw zAx zAD zAE zAF zAG zAH zAI zAJ zAK yR qt
attribute [-go_sem] zb
attribute [local go_sem] zAP zB7 zB8 zAU yb
theorem zbE:zy Tryz.prog 34 mIn:=by
 refine zQ qA GOk.nil zz Tryz.func34 rfl Tryz.ntmps34 Tryz.results34 6 ?_;rintro⟨⟨n,f,g⟩,a,b⟩ hn;replace hn:n<=1000000:=hn;refine⟨by simp,?_⟩;simp[go_sem];refine yE (fun k:Nat=>⟨[(3,true,.m false [.p 3 0]),(0,true,.m false [.s .b 2 n (ptrsT f g)]),(5,true,.i k)],[(3,.var [.v (.int .i64 a),.v (.int .i64 b)])]⟩) (fun k=>n - k) (fun k=>k<=n/\∀i,i<k->¬(f i=a/\g i=b)) 0 (by simp[go_sem]) (by simp) ?_;rintro k ⟨hk,aA⟩;simp[go_sem,qB (show k<=1000000000 by omega)];refine⟨fun hl=>⟨hl,by kernel_rfl,fun h1 h2=>⟨k,hl,h1,h2⟩,fun h=>⟨k+1,⟨by omega,fun i hi h1 h2=>?_⟩,by omega,rfl⟩⟩,fun hl ⟨j,h1,h2⟩=>aA j (by omega) h2⟩;rcases Nat.lt_succ_iff_lt_or_eq.1 hi with h3 | rfl
 ·exact aA i h3 ⟨h1,h2⟩
 ·exact h h1 h2
theorem zRK:zy Tryz.prog 33 zZH:=by
 refine zQ qA (GOk.cons zGo (zG Tryz.func75 rfl rfl) (GOk.cons zC4 (zG Tryz.func30 rfl rfl) GOk.nil)) zz Tryz.func33 rfl Tryz.ntmps33 Tryz.results33 5 ?_;rintro⟨p,a,b⟩ ⟨hR,hT⟩;replace hR:zg p:=hR;replace hT:za p a b:=hT;have hn:p.n<=1000000:=by have:=hR.1;omega
 have hm:p.hn<=1000000:=by have:=zGP hR;omega
 have aA:yf p a b:=⟨hR,hT⟩;refine⟨by simp,?_⟩;simp[go_sem,zJ9,zBx,hn,hm,hR,hT,aA,zC1]
attribute [-go_sem] zAl
attribute [local go_sem] zL1 zL2 zOr zOp zOq zKd zKe zKf zOk zbx zby zOo zOn zOm zOl zEC
noncomputable def zEX(n:Nat)(f:Nat->Int):zB×ByteArray:=((zDJ (zLB n f)).2,zLU (zDJ (zLB n f)).1)
noncomputable def zJ7:zX:=qk (fun q:Nat×(Nat->Int)=>[byT q.1 q.2]) (fun q=>zFl q.1 q.2) (fun q=>[woO (zEX q.1 q.2).1,sT' (zEX q.1 q.2).2])
theorem zDk(n:Nat)(f:Nat->Int):zJ7 [byT n f]=some (zFl n f,[woO (zEX n f).1,sT' (zEX n f).2]):=zO (fun l=>(zF8 (nth l 0 0),fun i=>match zCh (nth l 0 0) i 0 with | .v (.int _ x)=>x | _=>0)) (fun _=>rfl) (n,f)
theorem zJY:zy Tryz.prog 17 zJ7:=by
 refine zQ qA (GOk.new zQa (zG Tryz.func42 rfl rfl) (GOk.ptr zSB (zG Tryz.func43 rfl rfl) (GOk.ptr zM9 (zG Tryz.func44 rfl rfl) GOk.nil))) zz Tryz.func17 rfl Tryz.ntmps17 Tryz.results17 6 ?_;rintro⟨n,f⟩ hb;replace hb:zFl n f:=hb;have h0:=zPo hb.1 hb.2;have hn:=hb.1;have h1:=zS8 h0;obtain⟨q,eq⟩:∃q,zDJ (zLB n f)=q:=⟨_,rfl⟩;rw[eq]at h1;have eD:zEX n f=(q.2,zLU q.1):=by unfold zEX;rw[eq]
 refine⟨by simp,?_⟩;simp[go_sem,zUD,zW5,zPX,hn,h0,h1,eq,eD,qH,zW,zm,qm,qI];kernel_rfl
theorem zSU(s:zAq):(zLU s).size<=8000:=by
 have h:∀i,(zZX.getD i ⟨#[]⟩).size<=8000:=fun i=>by
  match i with
  | 0 | 1 | 2 | 3 | 4=>decide
  | i+5=>exact Nat.zero_le _
 exact h _
end Go.Proofs.YtjganmlaooofoaaGreatDoor
