/- A part of the proof. -/
import Derived.Test.YtjganmlaooofoaaGreatDoorF28
set_option linter.unusedVariables false
set_option maxRecDepth 20000
set_option maxHeartbeats 4000000
namespace Go.Proofs.YtjganmlaooofoaaGreatDoor
open Go.RowKit
theorem zI1(v0 v1 v2 v3:Value)(lo hi:Nat)(W:zB)(B:Nat)(name:ByteArray)(w:World)(h:yO w lo hi v0 v1 v2 v3 W)(hI:zEc W)(pA:zCs W)(oA:name.size<=maxLen)(hc:w.cell? ⟨B,0,none⟩=some (.string name)) :
  Calls Tryz.prog 47 #[zA8 v0 v1 v2 v3 W,.pointer (some ⟨B,0,none⟩)] w fun e w'=>zL ((zE W (zBy W name).zeL).set=name) e/\Below w.heap.size w w':=by
 have Hp:=zC h;have HI:=zC hI;have Hx:=zC (zaF pA name);have Hz:=zC oA;have h8:=hI.zeK.1;have fA:=hI.zeJ.1;clear h hI pA oA;obtain⟨S1,iA⟩:∃S1,S1=zBy W name:=⟨_,rfl⟩;have mA:=zC (show ∀(w2 w':World) (vd:Nat->Value),zDV w' W (w2.heap.size+1) W.sn vd->zJc w2 lo hi W.sn W.zeK vd->∃a c,(Instr.lookup 78 (.map (some (w2.heap.size+1))) (.string name) false).run Tryz.prog w' = .ok (zHG (.slice a S1.dn c) S1) w' from fun w2 w' vd hm hd=>by
  obtain⟨a,c,rA,-⟩:=zIn HI.out.setsDist hd name;rw[iA];exact⟨a,c,zaJ hm Hz.out rA⟩)
 rw[<-iA]at Hx ⊢;clear iA;obtain⟨A1,gA⟩:∃A1,A1=zE W S1.zeL:=⟨_,rfl⟩;have lA:=zC (show ∀(A:Nat) (w':World),zDT w' lo hi W A->Calls Tryz.prog 89 #[.int .i64 S1.zeL,.pointer (some ⟨A,0,none⟩)] w' fun e eB=>(∃a c,e = .returned (zCi (.slice a A1.dn c) A1))/\Below w'.heap.size w' eB from fun A w' hA=>by
  refine(zDh lo hi W A S1.zeL w' hA HI.out.dist Hx.out fA).mono ?_;rw[<-gA];rintro e w2 ⟨a,c,rfl,-,hb⟩;exact⟨⟨a,c,rfl⟩,hb⟩)
 rw[<-gA];clear gA;have ha:=zD w (.cells #[v0,v1,.int .i64 W.time,.int .i64 W.next,v2,v3] 30);have nA:=(ha.cell (zH hc)).trans hc;have HB:=zC (zAN.new w (v0) (v1) (.int .i64 W.time) (.int .i64 W.next) (v2) (v3) 30);have dA:=zC nA;obtain⟨x0,x1,x2,x3,x4,x5⟩:=HB.out.c;go_enter Tryz.func47,Tryz.ntmps47;go_wp2_with fail;generalize w.alloc (.cells #[v0,v1,.int .i64 W.time,.int .i64 W.next,v2,v3] 30)=W0 at ha nA HB dA x0 x1 x2 x3 x4 x5 ⊢;clear hc;by_cases hq:A1.set=name
 ·have HQ:=zC hq;have e0:(A1.set.toList == name.toList)=true:=zN0 hq;clear hq;go_region_held3 (fun w'=>w'.cell? ⟨w.heap.size,0,none⟩=some (v0)/\w'.cell? ⟨w.heap.size,1,none⟩=some (v1)/\w'.cell? ⟨w.heap.size,2,none⟩=some (.int .i64 W.time)/\w'.cell? ⟨w.heap.size,3,none⟩=some (.int .i64 W.next)/\w'.cell? ⟨w.heap.size,4,none⟩=some (v2)/\w'.cell? ⟨w.heap.size,5,none⟩=some (v3)/\w'.cell? ⟨B,0,none⟩=some (.string name)) (go_keep)
   (first
    | (go_at_call 48;refine(zFp v0 v1 v2 v3 lo hi W _ ((Hp.out.zeF ha).zeF (Below.refl _ _).drew) fA HI.out.idsWf).mono ?_;rintro e w2 ⟨A,rfl,hA,jA⟩;have aA:=qF jA;obtain⟨y0,y1,y2,y3,y4,y5⟩:=(HB.out.zeF aA).c;have sA:=(aA.cell (zH dA.out)).trans dA.out;have HA:=zC hA;clear hA)
    | (go_at_call 40;refine(zDA v0 v1 v2 v3 lo hi W _ ((Hp.out.zeF ha).zeF aA) h8).mono ?_;rintro e w3 ⟨vd,rfl,hm,hd,eA⟩;have bA:=zA aA eA;obtain⟨a3,c3,cB⟩:=mA.out w2 _ _ hm hd;have aB:=fun w=>zO8 (.slice a3 S1.dn c3) S1 w;obtain⟨z0,z1,z2,z3,z4,z5⟩:=(HB.out.zeF bA).c;have tA:=(bA.cell (zH dA.out)).trans dA.out;clear hm hd)
    | (go_at_call 89;refine(lA.out _ _ (HA.out.zeF eA)).mono ?_;rintro e w4 ⟨⟨a4,c4,rfl⟩,kA⟩;have cA:=zA bA kA;have bB:=fun w=>(zEE (.slice a4 A1.dn c4) A1 w).2.1;obtain⟨k0,k1,k2,k3,k4,k5⟩:=(HB.out.zeF cA).c;have vA:=(cA.cell (zH dA.out)).trans dA.out))
  go_wp2;go_ret;exact⟨zL.yes HQ.out,zA ha cA⟩
 ·have HQ:=zC hq;have e0:(A1.set.toList == name.toList)=false:=zN1 hq;clear hq;go_region_held3 (fun w'=>w'.cell? ⟨w.heap.size,0,none⟩=some (v0)/\w'.cell? ⟨w.heap.size,1,none⟩=some (v1)/\w'.cell? ⟨w.heap.size,2,none⟩=some (.int .i64 W.time)/\w'.cell? ⟨w.heap.size,3,none⟩=some (.int .i64 W.next)/\w'.cell? ⟨w.heap.size,4,none⟩=some (v2)/\w'.cell? ⟨w.heap.size,5,none⟩=some (v3)/\w'.cell? ⟨B,0,none⟩=some (.string name)) (go_keep)
   (first
    | (go_at_call 48;refine(zFp v0 v1 v2 v3 lo hi W _ ((Hp.out.zeF ha).zeF (Below.refl _ _).drew) fA HI.out.idsWf).mono ?_;rintro e w2 ⟨A,rfl,hA,jA⟩;have aA:=qF jA;obtain⟨y0,y1,y2,y3,y4,y5⟩:=(HB.out.zeF aA).c;have sA:=(aA.cell (zH dA.out)).trans dA.out;have HA:=zC hA;clear hA)
    | (go_at_call 40;refine(zDA v0 v1 v2 v3 lo hi W _ ((Hp.out.zeF ha).zeF aA) h8).mono ?_;rintro e w3 ⟨vd,rfl,hm,hd,eA⟩;have bA:=zA aA eA;obtain⟨a3,c3,cB⟩:=mA.out w2 _ _ hm hd;have aB:=fun w=>zO8 (.slice a3 S1.dn c3) S1 w;obtain⟨z0,z1,z2,z3,z4,z5⟩:=(HB.out.zeF bA).c;have tA:=(bA.cell (zH dA.out)).trans dA.out;clear hm hd)
    | (go_at_call 89;refine(lA.out _ _ (HA.out.zeF eA)).mono ?_;rintro e w4 ⟨⟨a4,c4,rfl⟩,kA⟩;have cA:=zA bA kA;have bB:=fun w=>(zEE (.slice a4 A1.dn c4) A1 w).2.1;obtain⟨k0,k1,k2,k3,k4,k5⟩:=(HB.out.zeF cA).c;have vA:=(cA.cell (zH dA.out)).trans dA.out))
  go_wp2;go_ret;exact⟨zL.no HQ.out,zA ha cA⟩
theorem zJk(p:Nat->Addr)(s0:ByteArray)(w:World)(hE:zF1 w p) :
  Calls Tryz.prog 19 #[.string s0] w fun e w'=>∃B0:Nat,e = .returned (.agg #[.func (.func 47) #[] #[.pointer (some ⟨B0,0,none⟩)],yg (p 2)])/\w'.cell? ⟨B0,0,none⟩=some (.string s0)/\Below w.heap.size w w':=by
 have bA:=zD w (.cells #[.string s0] 9);have fA:=zD (w.alloc (.cells #[.string s0] 9)) (.cells #[.nilFunc,.nilIface] 55);have hb:=zA (bA) fA;have c0:(w.alloc (.cells #[.string s0] 9)).cell? ⟨w.heap.size,0,none⟩=some (.string s0):=World.cell?_alloc_at _ _ _ _ rfl;have hg:((w.alloc (.cells #[.string s0] 9)).alloc (.cells #[.nilFunc,.nilIface] 55)).cell? ⟨0,0,none⟩=some (yg (p 2)):=(hE.zeF hb).cell 2 (by omega);have cA:=zD (w.alloc (.cells #[.string s0] 9)) (.cells #[.func (.func 47) #[] #[.pointer (some ⟨w.heap.size,0,none⟩)],yg (p 2)] 55);have eA:=zA (bA) cA;have dA:=zC ((cA.cell (zH c0)).trans c0);clear c0;go_enter Tryz.func19,Tryz.ntmps19;have gA:=fun (ww:World) (a:Addr)=>run_store Tryz.prog ww a (.func (.func 47) #[] #[.pointer (some ⟨w.heap.size,0,none⟩)]) .plain rfl
 go_wp2_with fail;have aA:=zAT.new (w.alloc (.cells #[.string s0] 9)) (.func (.func 47) #[] #[.pointer (some ⟨w.heap.size,0,none⟩)]) (yg (p 2)) 55;rw[World.size_alloc]at aA;refine bodyPost_ret (v:=.agg #[.func (.func 47) #[] #[.pointer (some ⟨w.heap.size,0,none⟩)],yg (p 2)]) (by simp[results,Tryz.results19,go_sem,aA.1.1,aA.2.1]) rfl ⟨_,rfl,dA.out,eA⟩
theorem zHN(p:Nat->Addr)(v0 v1 v2 v3:Value)(lo hi:Nat)(W:zB)(name:ByteArray)(o:zAk)(w:World)(hE:zF1 w p)(h:yO w lo hi v0 v1 v2 v3 W)(tB:zCs W)(b1:qs W.pool<=1048576)(b2:W.sn<=1048576)(b3:W.pn<=1048576)(b4:zGm W)(eA:name.size<=maxLen)
  (rB:∀B0 C w' z0 z1 z2 z3,w'.cell? ⟨B0,0,none⟩=some (.string name)->B0<C->zCa W->¬(∃i,i<1/\8000<((fun (_:Nat)=>name) i).size)->¬(∃i,i<0/\¬zA0 ((fun _=>⟨#[]⟩) i))->(∀j,j<2->(fun i=>match i with | 0=>qG W name | _=>(zE W (zBy W name).zeL).set=name) j)->C<w'.heap.size->Below w.heap.size w w'->yk w' (C+1) w'.heap.size z0 z1 z2 z3 W->zCE w' C z0 z1 (.int .i64 W.time) (.int .i64 W.next) z2 z3 (.int .i64 0) (.int .i64 0) .nilIface->Calls Tryz.prog 20 #[.pointer (some ⟨C,0,none⟩),.pointer (some ⟨B0,0,none⟩)] w' (zMD p o C w')) :
  Calls Tryz.prog 5 #[zA8 v0 v1 v2 v3 W,.string name] w fun e w'=>∃r,zLl W (∃i,i<1/\8000<((fun (_:Nat)=>name) i).size) (∃i,i<0/\¬zA0 ((fun _=>⟨#[]⟩) i)) 2 (fun i=>match i with | 0=>qG W name | _=>(zE W (zBy W name).zeL).set=name) (fun i=>match i with | 0=>2 | _=>2) r/\zFn (zKy r o) w e w':=by
 have Hp:=zR h;have HE:=zR hE;have cC:=zR rB;have nB:=zR tB;have dA:=zR eA;clear h hE rB tB;have oB:=zD w (.cells #[v0,v1,.int .i64 W.time,.int .i64 W.next,v2,v3] 30);have jB:=zD (w.alloc (.cells #[v0,v1,.int .i64 W.time,.int .i64 W.next,v2,v3] 30)) (.cells #[.string name] 9);have aB:=zD ((w.alloc (.cells #[v0,v1,.int .i64 W.time,.int .i64 W.next,v2,v3] 30)).alloc (.cells #[.string name] 9)) (.cells #[.slice none 0 0,.slice none 0 0,.int .i64 0,.int .i64 0,.slice none 0 0,.slice none 0 0,.int .i64 0,.int .i64 0,.int .i64 0] 34);have hb:=zA (zA (oB) jB) aB;have HX:=zR (((zAN.new w (v0) (v1) (.int .i64 W.time) (.int .i64 W.next) (v2) (v3) 30).zeF jB).zeF aB);have c0:((w.alloc (.cells #[v0,v1,.int .i64 W.time,.int .i64 W.next,v2,v3] 30)).alloc (.cells #[.string name] 9)).cell? ⟨(w.alloc (.cells #[v0,v1,.int .i64 W.time,.int .i64 W.next,v2,v3] 30)).heap.size,0,none⟩=some (.string name):=World.cell?_alloc_at _ _ _ _ rfl;rw[World.size_alloc]at c0;replace c0:=(aB.cell (zH c0)).trans c0;have lB:=zR c0;clear c0;have hr:=zCE.new ((w.alloc (.cells #[v0,v1,.int .i64 W.time,.int .i64 W.next,v2,v3] 30)).alloc (.cells #[.string name] 9)) (.slice none 0 0) (.slice none 0 0) (.int .i64 0) (.int .i64 0) (.slice none 0 0) (.slice none 0 0) (.int .i64 0) (.int .i64 0) (.int .i64 0) 34;rw[World.size_alloc,World.size_alloc]at hr;have HR:=zR hr;clear hr;have hz:(((w.alloc (.cells #[v0,v1,.int .i64 W.time,.int .i64 W.next,v2,v3] 30)).alloc (.cells #[.string name] 9)).alloc (.cells #[.slice none 0 0,.slice none 0 0,.int .i64 0,.int .i64 0,.slice none 0 0,.slice none 0 0,.int .i64 0,.int .i64 0,.int .i64 0] 34)).heap.size=w.heap.size+3:=by rw[World.size_alloc,World.size_alloc,World.size_alloc]
 go_enter Tryz.func5,Tryz.ntmps5;go_upto_region 1 with fail;generalize (((w.alloc (.cells #[v0,v1,.int .i64 W.time,.int .i64 W.next,v2,v3] 30)).alloc (.cells #[.string name] 9)).alloc (.cells #[.slice none 0 0,.slice none 0 0,.int .i64 0,.int .i64 0,.slice none 0 0,.slice none 0 0,.int .i64 0,.int .i64 0,.int .i64 0] 34))=W1 at hb HX HR hz lB ⊢;clear oB jB aB;obtain⟨x0,x1,x2,x3,x4,x5⟩:=HX.out.c;have k0:=lB.out;have aA:=zR (show ∀w',Below (w.heap.size+1+1) W1 w'->(fun w'=>w'.cell? ⟨w.heap.size,0,none⟩=some (v0)/\w'.cell? ⟨w.heap.size,1,none⟩=some (v1)/\w'.cell? ⟨w.heap.size,2,none⟩=some (.int .i64 W.time)/\w'.cell? ⟨w.heap.size,3,none⟩=some (.int .i64 W.next)/\w'.cell? ⟨w.heap.size,4,none⟩=some (v2)/\w'.cell? ⟨w.heap.size,5,none⟩=some (v3)/\w'.cell? ⟨w.heap.size+1,0,none⟩=some (.string name)/\Below (w.heap.size+1+1) W1 w') w' from fun w' bA=>⟨(bA.cell (p:=⟨w.heap.size,0,none⟩) (by show w.heap.size<_;omega)).trans x0,(bA.cell (p:=⟨w.heap.size,1,none⟩) (by show w.heap.size<_;omega)).trans x1,(bA.cell (p:=⟨w.heap.size,2,none⟩) (by show w.heap.size<_;omega)).trans x2,(bA.cell (p:=⟨w.heap.size,3,none⟩) (by show w.heap.size<_;omega)).trans x3,(bA.cell (p:=⟨w.heap.size,4,none⟩) (by show w.heap.size<_;omega)).trans x4,(bA.cell (p:=⟨w.heap.size,5,none⟩) (by show w.heap.size<_;omega)).trans x5,(bA.cell (p:=⟨w.heap.size+1,0,none⟩) (by show w.heap.size+1<_;omega)).trans k0,bA⟩);have jA:w.heap.size+1+1<=W1.heap.size:=by omega
 clear x0 x1 x2 x3 x4 x5 k0;refine wp_region_held_drew (S:=(fun w'=>w'.cell? ⟨w.heap.size,0,none⟩=some (v0)/\w'.cell? ⟨w.heap.size,1,none⟩=some (v1)/\w'.cell? ⟨w.heap.size,2,none⟩=some (.int .i64 W.time)/\w'.cell? ⟨w.heap.size,3,none⟩=some (.int .i64 W.next)/\w'.cell? ⟨w.heap.size,4,none⟩=some (v2)/\w'.cell? ⟨w.heap.size,5,none⟩=some (v3)/\w'.cell? ⟨w.heap.size+1,0,none⟩=some (.string name)/\Below (w.heap.size+1+1) W1 w')) (by kernel_rfl) (aA.out _ ((Below.refl _ _).drew.mono jA)) (fun hHeld=>?_);have jC:Below W1.heap.size W1 W1.drew:=(Below.refl _ _).drew;refine tk 0 (h:=?_);refine tk 2 (h:=?_);refine tk 4 (h:=?_);refine tk 7 (h:=?_);refine tk 9 (h:=?_);refine zPd [1,3,5,6] (fun i=>if i=6 then [3,5] else []) (fun i=>i+5) (fun i v w'=>(i=1->zB2 w' v 1 (fun (_:Nat)=>name))/\(i=3->QAt w' p 45 2 [.string name] v)/\(i=5->QAt w' p 47 2 [.string name] v)/\(i=6->zHT w' p 2 (fun i=>match i with | 0=>45 | _=>47) (fun i=>match i with | 0=>2 | _=>2) (fun i=>match i with | 0=>[.string name] | _=>[.string name]) v)) 3 (G:=fun w'=>Below W1.heap.size W1 w') (by kernel_rfl) (by decide) (by decide) (by decide) ?_ (fun _ _ h t=>zA h t) (by assumption) jC ?_ ?_
 ·intro i v w' sC hf t;exact⟨fun e=>(hf.1 e).zeF t,fun e=>(hf.2.1 e).zeF t,fun e=>(hf.2.2.1 e).zeF t,fun e=>(hf.2.2.2 e).zeF t⟩
 ·intro i hi x w2 hS hG hD K hK;simp only[List.mem_cons,List.not_mem_nil,or_false]at hi;rcases hi with rfl | rfl | rfl | rfl
  ·refine wpOp_step (zC7 rfl) (fun K' iA=>?_);simp only[zAh,Act.put,Nat.reduceAdd,s1,s2,s3];have pA:=zD w2 (.cells #[.string name] 9);go_simp;refine iA _ _ (hK.out _ _ _ ?_ (aA.out _ ((zA hG pA).mono jA)) ⟨fun _=>zPq dA.out rfl,fun e=>absurd e (by decide),fun e=>absurd e (by decide),fun e=>absurd e (by decide)⟩ pA);simp only[zAh,Act.put,Nat.reduceAdd,s1,s2,s3]
  ·refine wpOp_step (zC7 rfl) (fun K' iA=>?_);simp only[zAh,Act.put,Nat.reduceAdd,s1,s2,s3];go_simp;go_at_call 18;refine(zKL p name w2 (HE.out.zeF (zA hb hG))).mono ?_;rintro e w3 ⟨B0,rfl,cA,kA⟩;refine iA _ _ (hK.out _ _ w3 ?_ (aA.out _ ((zA hG kA).mono jA)) ⟨fun e=>absurd e (by decide),fun _=>⟨_,rfl,zDb.one cA⟩,fun e=>absurd e (by decide),fun e=>absurd e (by decide)⟩ kA);simp only[zAh,Act.put,Nat.reduceAdd,s1,s2,s3]
  ·refine wpOp_step (zC7 rfl) (fun K' iA=>?_);simp only[zAh,Act.put,Nat.reduceAdd,s1,s2,s3];go_simp;go_at_call 19;refine(zJk p name w2 (HE.out.zeF (zA hb hG))).mono ?_;rintro e w3 ⟨B0,rfl,cA,kA⟩;refine iA _ _ (hK.out _ _ w3 ?_ (aA.out _ ((zA hG kA).mono jA)) ⟨fun e=>absurd e (by decide),fun e=>absurd e (by decide),fun _=>⟨_,rfl,zDb.one cA⟩,fun e=>absurd e (by decide)⟩ kA);simp only[zAh,Act.put,Nat.reduceAdd,s1,s2,s3]
  ·refine wpOp_step (zC7 rfl) (fun K' iA=>?_);simp only[zAh,Act.put,Nat.reduceAdd,s1,s2,s3];obtain⟨vB,e0,sA⟩:=(hD 3 (by decide)).2.1 rfl;obtain⟨aC,e1,tA⟩:=(hD 5 (by decide)).2.2.1 rfl;simp only[e0,e1];have pA:=zD w2 (.cells #[.func (.func 45) #[] vB,yg (p 2),.func (.func 47) #[] aC,yg (p 2)] 55);have hA:zHT (w2.alloc (.cells #[.func (.func 45) #[] vB,yg (p 2),.func (.func 47) #[] aC,yg (p 2)] 55)) p 2 (fun i=>match i with | 0=>45 | _=>47) (fun i=>match i with | 0=>2 | _=>2) (fun i=>match i with | 0=>[.string name] | _=>[.string name]) (.slice (some ⟨w2.heap.size,0,none⟩) 2 2):=zX2 (g:=(fun i=>match i with | 0=>45 | _=>47)) (ei:=(fun i=>match i with | 0=>2 | _=>2)) (caps:=(fun i=>match i with | 0=>[.string name] | _=>[.string name])) sA tA;go_simp;refine iA _ _ (hK.out _ _ _ ?_ (aA.out _ ((zA hG pA).mono jA)) ⟨fun e=>absurd e (by decide),fun e=>absurd e (by decide),fun e=>absurd e (by decide),fun _=>hA⟩ pA);simp only[zAh,Act.put,Nat.reduceAdd,s1,s2,s3,e0,e1]
 ·intro x w2 hS hG hF;have hT:=(hF 1 (by decide)).1 rfl;obtain⟨-,ta,tc,et,-,-⟩:=id hT;have hN:zB2 w2 (.slice none 0 0) 0 (fun _=>⟨#[]⟩):=⟨by omega,_,_,rfl,fun i hi=>absurd hi (Nat.not_lt_zero _),fun h=>absurd h (Nat.lt_irrefl _)⟩;obtain⟨lb,hA,rA⟩:=(hF 6 (by decide)).2.2.2 rfl;obtain⟨-,qa,qc,eq,-⟩:=id hA;simp only[zAh,zDM,if_true,Act.put,Nat.reduceAdd,s1,s2,s3,et,eq];rw[et]at hT;rw[eq]at hA;have bA:=zA hb hG;have eC:=zR hT;have dC:=zR hN;have bC:=zR hA;have nA:=zR rA;clear hT hN hA rA hF;refine tk 8 (h:=?_);refine rd [10] (rc (fun K hK=>?_) .nil);go_simp;go_at_call 22;refine(zZh p _ _ _ 20 #[.pointer (some ⟨w.heap.size+1,0,none⟩)] 1 0 2 (fun (_:Nat)=>name) (fun _=>⟨#[]⟩) (fun i=>match i with | 0=>45 | _=>47) lb (fun i=>match i with | 0=>2 | _=>2) (fun i=>match i with | 0=>qG W name | _=>(zE W (zBy W name).zeL).set=name) o _ _ _ _ lo hi W w2 (HE.out.zeF bA) (Hp.out.zeF bA) nB.out b1 b2 b3 b4 eC.out dC.out bC.out ?_ ?_ (enters_of Tryz.func20 (by kernel_rfl) rfl) ?_ ?_).mono ?_
  ·intro i hi;rcases(by omega:i=0\/i=1)with rfl | rfl
   all_goals decide
  ·intro i hi;rcases(by omega:i=0\/i=1)with rfl | rfl
   ·exact enters_of Tryz.func45 (by kernel_rfl) rfl
   ·exact enters_of Tryz.func47 (by kernel_rfl) rfl
  ·intro i pC w' mA hI oC;have hW:=(Hp.out.zeF bA).zeF mA;have h8:=hI.zeM.zeK.1;have nC:=hI.zeM.zeJ.1;rcases(by omega:i=0\/i=1)with rfl | rfl
   ·obtain⟨B0,iB,cA⟩:=(nA.out 0 (by decide)).is1;replace cA:=(mA.cell (zH cA)).trans cA;rw[iB];exact zIo v0 v1 v2 v3 lo hi W B0 name w' hW h8 eA cA
   ·obtain⟨B0,iB,cA⟩:=(nA.out 1 (by decide)).is1;replace cA:=(mA.cell (zH cA)).trans cA;rw[iB];exact zI1 v0 v1 v2 v3 lo hi W B0 name w' hW hI.zeM nB.out eA cA
  ·intro C w' z0 z1 z2 z3 hC mA iC hI hl lC hq fA kB;exact cC.out (w.heap.size+1) C w' z0 z1 z2 z3 ((mA.cell (zH hS.2.2.2.2.2.2.1)).trans hS.2.2.2.2.2.2.1) (by have:=hG.size;omega) hI hl lC hq iC (zA bA mA) fA kB
  rintro e w3 ⟨r,vA,z0,z1,z2,z3,rfl,fA,kA⟩;obtain⟨n0,bB,n1,cB,n2,eB,n3,fB,rfl,rfl,rfl,rfl⟩:=fA.zeQ;have lA:=zA hG kA;have mB:=zR (HR.out.zeF lA);have oA:=zR fA;have gB:=zR vA;clear fA vA;generalize sB:zKy r o=oo at oA ⊢;have fC:=zR sB;clear sB
  (try go_wp2_with fail)
  refine hK.out _ _ (aA.out _ (lA.mono jA)) ?_;clear hK K hHeld;intro hHeld
  try simp only[Act.put,s1,s2,s3]
  refine rd [11] (rc (fun K hK=>?_) .nil);obtain⟨⟨r0,g0⟩,⟨r1,g1⟩,⟨r2,g2⟩,⟨r3,g3⟩,⟨r4,g4⟩,⟨r5,g5⟩,⟨r6,g6⟩,⟨r7,g7⟩,⟨r8,g8⟩⟩:=mB.out;go_simp
  (try go_wp2_with fail)
  have hT:=zJ.put9 w3 (w.heap.size+1+1) (.slice n0 oo.world.pool.n bB) (.slice n1 oo.world.pool.hn cB) (.int .i64 oo.world.time) (.int .i64 oo.world.next) (.slice n2 oo.world.sn eB) (.slice n3 oo.world.pn fB) (.int .i64 oo.id) (.int .i64 oo.many) (.int .i64 oo.code);have kC:Below (w.heap.size+1+1) W1 (((((((((w3.setCell ⟨w.heap.size+1+1,0,none⟩ (.slice n0 oo.world.pool.n bB)).setCell ⟨w.heap.size+1+1,1,none⟩ (.slice n1 oo.world.pool.hn cB)).setCell ⟨w.heap.size+1+1,2,none⟩ (.int .i64 oo.world.time)).setCell ⟨w.heap.size+1+1,3,none⟩ (.int .i64 oo.world.next)).setCell ⟨w.heap.size+1+1,4,none⟩ (.slice n2 oo.world.sn eB)).setCell ⟨w.heap.size+1+1,5,none⟩ (.slice n3 oo.world.pn fB)).setCell ⟨w.heap.size+1+1,6,none⟩ (.int .i64 oo.id)).setCell ⟨w.heap.size+1+1,7,none⟩ (.int .i64 oo.many)).setCell ⟨w.heap.size+1+1,8,none⟩ (.int .i64 oo.code)):=(lA.mono jA).trans (hT.zeF (B:=w.heap.size+1+1) (by have:=lA.size;omega) (fun k e=>by omega));refine hK.out _ _ (aA.out _ kC) ?_;clear hK K hHeld r0 r1 r2 r3 r4 r5 r6 r7 r8 g0 g1 g2 g3 g4 g5 g6 g7 g8;intro hHeld
  try simp only[Act.put,s1,s2,s3]
  refine wpAnyH_done (by kernel_rfl) ?_ _;go_wp2_with fail;have gA:=mB.out.put (.slice n0 oo.world.pool.n bB) (.slice n1 oo.world.pool.hn cB) (.int .i64 oo.world.time) (.int .i64 oo.world.next) (.slice n2 oo.world.sn eB) (.slice n3 oo.world.pn fB) (.int .i64 oo.id) (.int .i64 oo.many) (.int .i64 oo.code);have pB:=zA hb lA;have mC:=hT.size;have rC:=lA.size;refine bodyPost_ret (v:=.agg #[.slice n0 oo.world.pool.n bB,.slice n1 oo.world.pool.hn cB,.int .i64 oo.world.time,.int .i64 oo.world.next,.slice n2 oo.world.sn eB,.slice n3 oo.world.pn fB,.int .i64 oo.id,.int .i64 oo.many,.int .i64 oo.code]) (by simp[results,Tryz.results5,go_sem,gA.1.1,gA.2.1.1,gA.2.2.1.1,gA.2.2.2.1.1,gA.2.2.2.2.1.1,gA.2.2.2.2.2.1.1,gA.2.2.2.2.2.2.1.1,gA.2.2.2.2.2.2.2.1.1,gA.2.2.2.2.2.2.2.2.1]) rfl ⟨r,gB.out,?_⟩;rw[fC.out];refine⟨_,_,_,_,rfl,?_,?_⟩
  ·exact(oA.out.zeG hT (fun k e=>by have:=hG.size;omega)).wide (by have:=hG.size;omega) mC
  ·exact pB.trans (hT.zeF (B:=w.heap.size) pB.size (fun k e=>by omega))
theorem zKp(p:Nat->Addr)(v0 v1 v2 v3:Value)(lo hi:Nat)(W:zB)(name:ByteArray)(w:World)(hE:zF1 w p)(h:yO w lo hi v0 v1 v2 v3 W)(bA:zCs W)(b1:qs W.pool<=1048576)(b2:W.sn<=1048576)(b3:W.pn<=1048576)(b4:zGm W)(aA:name.size<=maxLen) :
  Calls Tryz.prog 5 #[zA8 v0 v1 v2 v3 W,.string name] w (zRA W name w):=by
 by_cases hs:qG W name
 ·obtain⟨k,hk⟩:=zIR hs;refine(zHN p v0 v1 v2 v3 lo hi W name ⟨zDo W k,0,((zAa W (W.zeK k)).length:Int),0⟩ w hE h bA b1 b2 b3 b4 aA ?_).mono ?_
  ·intro B0 C w' z0 z1 z2 z3 k0 _ hI _ _ hq cA hb ho hC;have hS:=(zGi W).1 hI;have hx:=bA (W.pn+k) (by have:=hk.1;unfold memN;omega);rw[qN]at hx;exact zNn p C k B0 z0 z1 z2 z3 W name w' hI (hS.zeK k hk.1).1 (zMN hS.zeM _) hx hk cA k0 ho hC
  ·rintro e w' ⟨r,h1,h2⟩;exact⟨r,_,h1,fun _=>⟨k,hk,rfl⟩,h2⟩
 ·refine(zHN p v0 v1 v2 v3 lo hi W name (qD 0) w hE h bA b1 b2 b3 b4 aA ?_).mono ?_
  ·intro B0 C w' z0 z1 z2 z3 k0 _ hI _ _ hq cA hb ho hC;exact absurd (hq 0 (by omega)) hs
  ·rintro e w' ⟨r,h1,h2⟩;exact⟨r,_,h1,fun e=>absurd ((e▸h1).all 0 (by omega)) hs,h2⟩
theorem zaG{w:World}{bs o nb:Nat}{f:Nat->qi}{kv:Nat->Value}{i:Nat}(h:zDs w bs o nb (kv i) (f i)):∀r,r<6->zY w bs (o+r) (zCV f kv i r)
 | 0,_=>h.c0
 | 1,_=>h.c1
 | 2,_=>h.c2
 | 3,_=>h.c3
 | 4,_=>h.c4
 | 5,_=>h.c5
 | n+6,h=>absurd h (by omega)
def zIt:List Value:=[.string ⟨#[]⟩,.int .i64 0,.int .i64 0,.int .i64 0,.int .i64 0,.slice none 0 0]
theorem zUU(w:World)(ty:TypeId)(b o c:Nat)(hc:∀j,j<6->(w.cell? ⟨b,o+j,none⟩).isSome=true)(hf:∀j,j<6->w.frozen? ⟨b,o+j,none⟩=false) :
  (Builtin.clear_ #[27] ty #[.slice (some ⟨b,o,none⟩) 1 c]).run Tryz.prog w = .ok (.tuple #[]) (w.setCells b o zIt):=by
 have hu:Tryz.prog.underlying 27=some (.slice 44):=by kernel_rfl
 have aA:=run_storeCells_cells (P:=Tryz.prog) b o zIt 0 w (by simpa[zIt]using hc) (by simpa[zIt]using hf) (by intro v hv;simp only[zIt,List.mem_cons,List.not_mem_nil,or_false]at hv;rcases hv with rfl | rfl | rfl | rfl | rfl | rfl<;>rfl);simp only[Nat.add_zero]at aA;have bA:(Builtin.zeroCells (Value.agg #[.string ⟨#[]⟩,.int .i64 0,.int .i64 0,.int .i64 0,.int .i64 0,.slice none 0 0]).cells 1).toList=zIt:=by kernel_rfl
 simp[Builtin.clear_,run_underlying hu,bA,aA]
theorem zGg{b:Nat}:∀(l:List Value) (o:Nat) (w:World),zJ (fun j=>j=b) w (w.setCells b o l)
 | [],_,w=>zJ.refl _ _
 | v :: l,o,w=>(zJ.put w b o v).trans (zGg l (o+1) _)
theorem zJr(s:qi)(a:Option Addr)(c B:Nat)(name:ByteArray)(w:World)(h0:w.cell? ⟨B,0,none⟩=some (.string name)) :
  Calls Tryz.prog 80 #[.agg #[.string s.name,.int .i64 s.origin,.int .i64 s.zeL,.int .i64 s.rs,.int .i64 s.rb,.slice a s.dn c],.pointer (some ⟨B,0,none⟩)] w fun e w'=>zL (s.name=name) e/\Below w.heap.size w w':=by
 have ha:=zD w (.cells #[.string s.name,.int .i64 s.origin,.int .i64 s.zeL,.int .i64 s.rs,.int .i64 s.rb,.slice a s.dn c] 44);have k0:=(ha.cell (zH h0)).trans h0;clear h0;obtain⟨x0,x1,x2,x3,x4,x5⟩:=(zAN.new w (.string s.name) (.int .i64 s.origin) (.int .i64 s.zeL) (.int .i64 s.rs) (.int .i64 s.rb) (.slice a s.dn c) 44).c;by_cases e1:s.name=name
 ·have a1:=zN0 e1;have H:=zC e1;clear e1;go_enter Tryz.func80,Tryz.ntmps80;go_wp2;go_ret;exact⟨zL.yes H.out,ha⟩
 ·have a1:=zN1 e1;have H:=zC e1;clear e1;go_enter Tryz.func80,Tryz.ntmps80;go_wp2;go_ret;exact⟨zL.no H.out,ha⟩
theorem zTR(lo hi bs off n c k B:Nat)(kb:Nat->Nat)(kv:Nat->Value)(f:Nat->qi)(name:ByteArray)(w:World)(hS:zBZ w bs kb kv (.slice (some ⟨bs,off,none⟩) n c) n f)(eB:zCo w lo hi (.slice (some ⟨bs,off,none⟩) n c) n f)(hk:k<n)(hn:n<=8)(bC:n<=c)(cA:(f k).name=name)(oA:∀i,i<n->i≠k->(f i).name≠name)(hB:w.cell? ⟨B,0,none⟩=some (.string name))(jB:B≠bs) :
  Calls Tryz.prog 79 #[.slice (some ⟨bs,off,none⟩) n c,.func (.func 80) #[] #[.pointer (some ⟨B,0,none⟩)]] w fun e w'=>e = .returned (.slice (some ⟨bs,off,none⟩) (n - 1) c)/\zJ (fun j=>j=bs) w w'/\∀i,i<n - 1->∀r,r<6->zY w' bs (off+i*6+r) (zCV (del f k) (del kv k) i r):=by
 have kA:∀i,i<n->zDs w bs (off+i*6) (kb i) (kv i) (f i):=fun i hi=>by
  obtain⟨nB,c',ev,h⟩:=hS.nth hi;simp only[Value.slice.injEq,Option.some.injEq,Addr.mk.injEq,and_true,true_and]at ev;obtain⟨rfl,rfl⟩:=ev;exact h
 have aC:bs<w.heap.size:=(kA k hk).c0.lt;have rA:=zC kA;have HN:=zC cA;have HU:=zC oA;have HB:=zC hB;have sA:=zC (show Calls Tryz.prog 90 #[.slice (some ⟨bs,off,none⟩) n c,.func (.func 80) #[] #[.pointer (some ⟨B,0,none⟩)]] w fun e w'=>e = .returned (.int .i64 (k:Int))/\Below w.heap.size w w' by
  refine(zJz 80 #[.pointer (some ⟨B,0,none⟩)] (enters_of Tryz.func80 (by kernel_rfl) rfl) (fun i=>(f i).name=name) _ n lo hi f w eB (by omega) (fun i lA a c w' kB _=>zJr (f i) a c B name w' ((kB.cell (zH hB)).trans hB))).mono ?_;rintro e w2 ⟨hr,fA⟩;rcases hr with⟨i,lA,h1,h2,rfl⟩ | ⟨h1,rfl⟩
  ·refine⟨?_,fA⟩;by_cases e:i=k
   ·rw[e]
   ·exact absurd h1 (oA i lA e)
  ·exact absurd cA (h1 k hk))
 clear hS eB cA oA kA hB;go_enter Tryz.func79,Tryz.ntmps79;go_wp2_with fail;refine sA.out.mono ?_;rintro e w1 ⟨rfl,jA⟩;clear sA;have jC:=jA.size;have k2:¬(k:Int) = -1:=by omega
 have k0:((k:Int) == -1)=false:=by simp[k2]
 have k1:decide ((k:Int) = -1)=false:=by simp[k2]
 have iC:IntKind.i64.wrap ((k:Int)+1)=((k+1:Nat):Int):=by first | (rw[wrap_small (by omega) (by omega)];rfl) | (rw[wrap_small _ (by omega) (by omega)];rfl)
 go_wp2_with fail
 go_loopw [5,6] (fun a b wr=>∃j:Nat,k+1<=j/\j<=n/\a = .int .i64 ((j - 1:Nat):Int)/\b = .int .i64 (j:Int)/\zJ (fun i=>i=bs) w wr/\∀m,m<n->∀r,r<6->zY wr bs (off+m*6+r) (zCV f kv (zJG k j m) r)) (fun _ b _=>n - (intOf b).toNat)
 case atStart=>
  refine⟨k+1,Nat.le_refl _,hk,rfl,rfl,zJ.zeH jA,fun m hm r hr=>?_⟩;have e:zJG k (k+1) m=m:=by
   unfold zJG;split
   ·rfl
   ·rw[if_neg (by omega)]
  rw[e];exact(zaG (rA.out m hm) r hr).zeF jA
 case round=>
  obtain⟨j,dC,eC,rfl,rfl,hT,dA⟩:=hrel;have HT:=zC hT;have HC:=zC dA;have kC:=hT.size;clear hT dA;have bB:wr.cell? ⟨B,0,none⟩=some (.string name):=(HT.out.cell (o:=0) (zH HB.out) jB).trans HB.out;by_cases mA:j<n
  ·have mB:(j:Int)<(n:Int):=(by omega);obtain⟨va,vc,fB⟩:∃a c,kv j = .slice a (f j).dn c:=by
    obtain⟨_,a,cc,hv,_⟩:=(rA.out j mA).dead;exact⟨a,cc,hv⟩
   have em:zJG k j j=j:=(by unfold zJG;rw[if_neg (by omega),if_neg (by omega)]);have eA:∀r,r<6->zY wr bs (off+j*6+r) (zCV f kv j r):=fun r hr=>by
    have:=HC.out j mA r hr
    rwa [em]at this
   have q0:wr.cell? ⟨bs,off+j*6,none⟩=some (.string (f j).name):=(eA 0 (by omega)).1;have q1:wr.cell? ⟨bs,off+j*6+1,none⟩=some (.int .i64 (f j).origin):=(eA 1 (by omega)).1;have q2:wr.cell? ⟨bs,off+j*6+2,none⟩=some (.int .i64 (f j).zeL):=(eA 2 (by omega)).1;have q3:wr.cell? ⟨bs,off+j*6+3,none⟩=some (.int .i64 (f j).rs):=(eA 3 (by omega)).1;have q4:wr.cell? ⟨bs,off+j*6+4,none⟩=some (.int .i64 (f j).rb):=(eA 4 (by omega)).1;have q5:wr.cell? ⟨bs,off+j*6+5,none⟩=some (kv j):=(eA 5 (by omega)).1;rw[fB]at q5;have oB:=zC eA;clear eA;have gA:=zD wr (.cells #[.string (f j).name,.int .i64 (f j).origin,.int .i64 (f j).zeL,.int .i64 (f j).rs,.int .i64 (f j).rb,.slice va (f j).dn vc] 44);have HX:=zC (zAN.new wr (.string (f j).name) (.int .i64 (f j).origin) (.int .i64 (f j).zeL) (.int .i64 (f j).rs) (.int .i64 (f j).rb) (.slice va (f j).dn vc) 44);obtain⟨x0,x1,x2,x3,x4,x5⟩:=HX.out.c;go_wp2_with fail;clear q0 q1 q2 q3 q4 q5 x0 x1 x2 x3 x4 x5;have aB:=(gA.cell (zH bB)).trans bB;have iA:=zC (show ∀m,m<n->∀r,r<6->zY (wr.alloc (.cells #[.string (f j).name,.int .i64 (f j).origin,.int .i64 (f j).zeL,.int .i64 (f j).rs,.int .i64 (f j).rb,.slice va (f j).dn vc] 44)) bs (off+m*6+r) (zCV f kv (zJG k j m) r)from fun m hm r hr=>(HC.out m hm r hr).zeF gA);have tA:=zC (show zJ (fun i=>i=bs) w (wr.alloc (.cells #[.string (f j).name,.int .i64 (f j).origin,.int .i64 (f j).zeL,.int .i64 (f j).rs,.int .i64 (f j).rb,.slice va (f j).dn vc] 44))from HT.out.trans (zJ.zeH gA));generalize (wr.alloc (.cells #[.string (f j).name,.int .i64 (f j).origin,.int .i64 (f j).zeL,.int .i64 (f j).rs,.int .i64 (f j).rb,.slice va (f j).dn vc] 44))=wa at gA HX aB iA tA ⊢;refine(zJr (f j) va vc B name wa aB).mono ?_;rintro e w2 ⟨⟨t,rfl,ht⟩,fA⟩;obtain rfl:t=false:=qj ht (HU.out j mA (by omega));clear ht;obtain⟨x0,x1,x2,x3,x4,x5⟩:=(HX.out.zeF fA).c;have lA:((j - 1:Nat):Int)<(n:Int):=(by omega);have aA:∀r,r<6->zY w2 bs (off+(j - 1)*6+r) (zCV f kv (zJG k j (j - 1)) r):=fun r hr=>(iA.out (j - 1) (by omega) r hr).zeF fA
   obtain⟨t0,lC⟩:zY w2 bs (off+(j - 1)*6) _:=aA 0 (by omega);obtain⟨t1,mC⟩:zY w2 bs (off+(j - 1)*6+1) _:=aA 1 (by omega);obtain⟨t2,nC⟩:zY w2 bs (off+(j - 1)*6+2) _:=aA 2 (by omega);obtain⟨t3,oC⟩:zY w2 bs (off+(j - 1)*6+3) _:=aA 3 (by omega);obtain⟨t4,pC⟩:zY w2 bs (off+(j - 1)*6+4) _:=aA 4 (by omega);obtain⟨t5,rC⟩:zY w2 bs (off+(j - 1)*6+5) _:=aA 5 (by omega);have gB:=zC aA;clear aA;go_wp2_with fail;have nA:zJ (fun i=>i=bs) w2 ((((((w2.setCell ⟨bs,off+(j - 1)*6,none⟩ (.string (f j).name)).setCell ⟨bs,off+(j - 1)*6+1,none⟩ (.int .i64 (f j).origin)).setCell ⟨bs,off+(j - 1)*6+2,none⟩ (.int .i64 (f j).zeL)).setCell ⟨bs,off+(j - 1)*6+3,none⟩ (.int .i64 (f j).rs)).setCell ⟨bs,off+(j - 1)*6+4,none⟩ (.int .i64 (f j).rb)).setCell ⟨bs,off+(j - 1)*6+5,none⟩ (.slice va (f j).dn vc)):=(((((zJ.put _ bs _ _).trans (zJ.put _ bs _ _)).trans (zJ.put _ bs _ _)).trans (zJ.put _ bs _ _)).trans (zJ.put _ bs _ _)).trans (zJ.put _ bs _ _);have e1:((j - 1:Nat):Int)+1=((j+1 - 1:Nat):Int):=(by omega);have e2:(j:Int)+1=((j+1:Nat):Int):=(by omega);refine⟨⟨j+1,by omega,by omega,by rw[e1],by rw[e2],(tA.out.trans (zJ.zeH fA)).trans nA,fun m hm r hr=>?_⟩,by simp[intOf];omega⟩;have aA:=gB.out;by_cases iB:m=j - 1
   ·subst iB;have e3:zJG k (j+1) (j - 1)=j:=by
     unfold zJG;rw[if_neg (by omega),if_pos (by omega)];omega
    rw[e3];rcases(by omega:r=0\/r=1\/r=2\/r=3\/r=4\/r=5)with rfl | rfl | rfl | rfl | rfl | rfl
    ·exact(((((((aA 0 (by omega)).set _).other _ (Or.inr (by omega))).other _ (Or.inr (by omega))).other _ (Or.inr (by omega))).other _ (Or.inr (by omega))).other _ (Or.inr (by omega)))
    ·exact(((((((aA 1 (by omega)).other _ (Or.inr (by omega))).set _).other _ (Or.inr (by omega))).other _ (Or.inr (by omega))).other _ (Or.inr (by omega))).other _ (Or.inr (by omega)))
    ·exact(((((((aA 2 (by omega)).other _ (Or.inr (by omega))).other _ (Or.inr (by omega))).set _).other _ (Or.inr (by omega))).other _ (Or.inr (by omega))).other _ (Or.inr (by omega)))
    ·exact(((((((aA 3 (by omega)).other _ (Or.inr (by omega))).other _ (Or.inr (by omega))).other _ (Or.inr (by omega))).set _).other _ (Or.inr (by omega))).other _ (Or.inr (by omega)))
    ·exact(((((((aA 4 (by omega)).other _ (Or.inr (by omega))).other _ (Or.inr (by omega))).other _ (Or.inr (by omega))).other _ (Or.inr (by omega))).set _).other _ (Or.inr (by omega)))
    ·show zY _ bs _ (kv j);rw[fB];exact(((((((aA 5 (by omega)).other _ (Or.inr (by omega))).other _ (Or.inr (by omega))).other _ (Or.inr (by omega))).other _ (Or.inr (by omega))).other _ (Or.inr (by omega))).set _)
   ·have e3:zJG k (j+1) m=zJG k j m:=by
     unfold zJG;split
     ·rfl
     ·by_cases h:m+1<j
      ·rw[if_pos h,if_pos (by omega)]
      ·rw[if_neg h,if_neg (by omega)]
    rw[e3];have h:=(iA.out m hm r hr).zeF fA;exact((((((h.other _ (Or.inr (by omega))).other _ (Or.inr (by omega))).other _ (Or.inr (by omega))).other _ (Or.inr (by omega))).other _ (Or.inr (by omega))).other _ (Or.inr (by omega)))
  ·obtain rfl:j=n:=(by omega);have pB:(0:Int)<=((j - 1:Nat):Int):=(by omega);have rB:((j - 1:Nat):Int)<=(j:Int):=(by omega);have sB:((j - 1:Nat):Int)<=(c:Int):=(by omega);have tB:j - 1<=c:=(by omega);have vB:j - 1<=j:=(by omega);have cC:¬c=j - 1:=(by omega);have fC:j - (j - 1)=1:=(by omega);have bA:∀r,r<6->zY wr bs (off+(j - 1)*6+r) (zCV f kv (zJG k j (j - 1)) r):=fun r hr=>HC.out (j - 1) (by omega) r hr
   have lB:=fun ty=>zUU wr ty bs (off+(j - 1)*6) (c - (j - 1)) (fun r hr=>by rw[(bA r hr).1];rfl) (fun r hr=>(bA r hr).2)
   have cB:=zGg (b:=bs) zIt (off+(j - 1)*6) wr;have pA:=zC (show ∀i,i<j - 1->∀r,r<6->zY (wr.setCells bs (off+(j - 1)*6) zIt) bs (off+i*6+r) (zCV (del f k) (del kv k) i r)from fun i hi r hr=>by
    have h:=zIb zIt (off+(j - 1)*6) wr (HC.out i (by omega) r hr) (by omega);have e:zCV (del f k) (del kv k) i r=zCV f kv (zJG k j i) r:=by
     unfold zCV del zJG;by_cases e:i<k
     ·simp only[if_pos e]
     ·simp only[if_neg e,if_pos (show i+1<j by omega)]
    rw[e];exact h)
   have vA:=zC (HT.out.trans cB);clear bA cB;generalize wr.setCells bs (off+(j - 1)*6) zIt=wz at lB pA vA;go_wp2_with fail;go_ret;exact⟨rfl,vA.out,pA.out⟩
theorem zTT{α : Type}{f:Nat->α}{k i:Nat}(h:i<k):del f k i=f i:=if_pos h
theorem zTS{α : Type}{f:Nat->α}{k i:Nat}(h:¬i<k):del f k i=f (i+1):=if_neg h
theorem zaI{w w':World}{bs off c n k:Nat}{kb:Nat->Nat}{kv:Nat->Value}{f:Nat->qi}{S:Nat->Prop}(ho:zBZ w bs kb kv (.slice (some ⟨bs,off,none⟩) n c) n f)(eA:zE9 kb n f)(hk:k<n)(ht:zJ S w w')(hS:∀i,i<n->0<(f i).dn->¬S (kb i))
  (hc:∀i,i<n - 1->∀r,r<6->zY w' bs (off+i*6+r) (zCV (del f k) (del kv k) i r)) :
  zBZ w' bs (del kb k) (del kv k) (.slice (some ⟨bs,off,none⟩) (n - 1) c) (n - 1) (del f k)/\zE9 (del kb k) (n - 1) (del f k)/\∀j,zJd bs (del kb k) (n - 1) (del f k) j->zJd bs kb n f j:=by
 have fA:∀i,i<n->zDs w bs (off+i*6) (kb i) (kv i) (f i):=fun i hi=>by
  obtain⟨jA,c',ev,h⟩:=ho.nth hi;simp only[Value.slice.injEq,Option.some.injEq,Addr.mk.injEq,and_true,true_and]at ev;obtain⟨rfl,rfl⟩:=ev;exact h
 obtain⟨hm,a,cc,hv,kA,-⟩:=ho;simp only[Value.slice.injEq,true_and]at hv;obtain⟨rfl,rfl⟩:=hv;have key:∀i,i<n - 1->∃i',i'<n/\del kb k i=kb i'/\del kv k i=kv i'/\del f k i=f i'/\i'=(if i<k then i else i+1):=fun i hi=>by
  by_cases e:i<k
  ·exact⟨i,by omega,zTT e,zTT e,zTT e,by rw[if_pos e]⟩
  ·exact⟨i+1,by omega,zTS e,zTS e,zTS e,by rw[if_neg e]⟩
 refine⟨⟨by omega,_,_,rfl,by omega,fun _=>⟨off,rfl,fun i hi=>?_⟩⟩,fun i j hi hj gA h1 h2=>?_,?_⟩
 ·have aA:=hc i hi;obtain⟨i',bA,e1,e2,e3,-⟩:=key i hi;have h:=fA i' bA;refine⟨aA 0 (by omega),aA 1 (by omega),aA 2 (by omega),aA 3 (by omega),aA 4 (by omega),aA 5 (by omega),?_,?_,?_⟩
  ·rw[e1,e2,e3];exact h.dead.zeG ht (fun h0=>hS i' bA h0)
  ·rw[e3];exact h.zeP
  ·rw[e1,e3];exact h.zeN
 ·obtain⟨i',bA,e1,-,e3,f1⟩:=key i hi;obtain⟨j',iA,cA,-,dA,f2⟩:=key j hj;rw[e1,cA];rw[e3]at h1;rw[dA]at h2;refine eA i' j' bA iA (fun e=>gA ?_) h1 h2;rw[f1,f2]at e;split at e<;>split at e<;>omega
 ·rintro j (⟨h0,rfl⟩ | ⟨i,hi,h0,rfl⟩)
  ·exact Or.inl ⟨by omega,rfl⟩
  ·obtain⟨i',bA,e1,-,e3,-⟩:=key i hi;rw[e3]at h0;exact Or.inr ⟨i',bA,h0,e1⟩
noncomputable def zEx(W:zB)(k:Nat):zB:={W with pool:=zT W.pool (zAa W (W.zeK k)),sn:=W.sn - 1,zeK:=del W.zeK k}
theorem zRd(p:Nat->Addr)(C k:Nat)(z0 z1 z2 z3:Value)(W:zB)(name:ByteArray)(w:World)(hI:zCa W)(hT:za W.pool (W.zeK k).rs (W.zeK k).rb)(ht:zDd (zE W (W.zeK k).zeL).time)(hx:(Lit.int .i64 (W.zeK k).zeL).wf=true)(hk:zDK W name k)(aD:C<w.heap.size)
  (ho:yk w (C+1) w.heap.size z0 z1 z2 z3 W) (hC:zCE w C z0 z1 (.int .i64 W.time) (.int .i64 W.next) z2 z3 (.int .i64 0) (.int .i64 0) .nilIface) :
  Calls Tryz.prog 37 #[.pointer (some ⟨C,0,none⟩),.string name] w (zMD p ⟨zEx W k,0,((zAa W (W.zeK k)).length:Int),0⟩ C w):=by
 have h8:=hI.zeM.zeK.1;have oC:=hI.zeM.zeJ.1;have HI:=zC hI;have HT:=zC hT;have Ht:=zC ht;have Hx:=zC hx;have Hk:=zC hk;have pA:=hk.1;obtain⟨P,Q,R,oA,dA⟩:=ho;have oB:=oA.isIn;obtain⟨iB,kb,kv,hS,aC,vA⟩:=oB.zeK;obtain⟨off,c,rfl,eC⟩:=hS.nth pA;have lB:Q iB:=vA _ (Or.inl ⟨by omega,rfl⟩);have vC:=dA iB (Or.inr (Or.inl lB));obtain⟨bs,dC⟩:∃bs,bs=iB:=⟨_,rfl⟩;have nB:=zD w (.cells #[.string name] 9);have sC:(w.alloc (.cells #[.string name] 9)).heap.size=w.heap.size+1:=World.size_alloc _ _;have cB:(w.alloc (.cells #[.string name] 9)).cell? ⟨w.heap.size,0,none⟩=some (.string name):=World.cell?_alloc_at _ _ _ _ rfl;have mA:=zC (show ∀w',Below w.heap.size w w'->Calls Tryz.prog 49 #[.pointer (some ⟨C,0,none⟩),.string name] w' fun e tC=>e = .returned (.pointer (some ⟨bs,off+k*6,none⟩))/\Below w'.heap.size w' tC from fun w' cC=>by
  obtain⟨c4,-⟩:=(hC.zeF cC).2.2.2.2.1;refine(zO0 C (C+1) w.heap.size W.sn k c _ W.zeK name w' c4 ((hS.at (lo:=C+1) (hi:=w.heap.size) (fun j hj=>dA j (Or.inr (Or.inl (vA j hj))))).zeF cC) h8 pA hk.2.1 hk.2.2).mono ?_;rintro e w2 ⟨⟨b,pB,e1,rfl⟩,eA⟩;simp only[Option.some.injEq,Addr.mk.injEq,and_true]at e1;obtain⟨rfl,rfl⟩:=e1;exact⟨by rw[dC],eA⟩)
 subst dC;have HC:=zC hC;have gA:=zC oB;have aA:=zC dA;have gB:=zC hS;have kC:=zC aC;have rA:=zC vA;have lC:=zC eC;have rB:=zC lB;have fB:=zC cB;clear oA oB dA hS aC vA eC hC hI hT ht hx hk lB;go_enter Tryz.func37,Tryz.ntmps37;go_wp2_with fail;clear cB;generalize w.alloc (.cells #[.string name] 9)=w1 at nB sC fB ⊢;refine(mA.out _ nB).mono ?_;clear mA;rintro e w2 ⟨rfl,jA⟩;have eA:=zA nB jA;have jB:=(jA.cell (zH fB.out)).trans fB.out;go_wp2_with fail;have bD:=jA.size;have bB:bs≠C:=by omega
 have eB:=lC.out.zeF eA;refine(zSq C bs (off+k*6) P Q R _ _ _ _ _ 0 0 W (W.zeK k) w2 (gA.out.zeF eA) (fun j hj=>by have:=aA.out j hj;omega) (HC.out.zeF eA) ⟨eB.c2.1,eB.c3.1,eB.c4.1⟩ bB HI.out.right HT.out Ht.out oC HI.out.zeM.idsWf HI.out.zeM.dist Hx.out (by omega) (by omega)).mono ?_;rintro e w3 ⟨⟨ve,rfl⟩,y0,y1,sA,vB,kA⟩;have cD:=kA.size;rw[Int.zero_add]at sA;have tA:=(gB.out.zeF eA).zeG kA (fun j hj e=>by have:=aA.out j (Or.inr (Or.inl (rA.out j hj)));omega);have bC:=(gA.out.zeJ.zeG (zJ.zeH (S:=fun _=>False) eA) (fun _ _ h=>h)).zeG kA (fun j hj e=>by have:=aA.out j (Or.inr (Or.inr hj));omega);have tB:=(kA.cell (o:=0) (zH jB) (fun h=>by omega)).trans jB;have rC:W.sn<=c:=by obtain⟨_,a,c',e,h,_⟩:=gB.out;injection e with e1 e2 e3;omega
 have lA:=zC (zTR 0 w3.heap.size bs off W.sn c k w.heap.size kb kv W.zeK name w3 tA (tA.at (fun j hj=>⟨Nat.zero_le _,by have:=aA.out j (Or.inr (Or.inl (rA.out j hj)));omega⟩)) pA h8 rC Hk.out.2.1 (fun i hi bB h=>by
  rcases Nat.lt_or_gt_of_ne bB with h1 | h1
  ·exact HI.out.zeM.setsDist k pA i h1 (by rw[h,Hk.out.2.1])
  ·exact HI.out.zeM.setsDist i hi k h1 (by rw[h,Hk.out.2.1])) tB (by omega))
 have fC:=zC sA;have iC:=zC vB;have mC:=zC kA;have nC:=zC bC;have jC:=zC tA;obtain⟨x4,-⟩:=sA.2.2.2.2.1;clear sA vB kA bC tA eB jB tB;go_wp2_with fail;clear x4;refine lA.out.mono ?_;clear lA;rintro e w4 ⟨rfl,aB,bA⟩;have dD:=aB.size;have sB:=zC aB;have fA:=zC bA;have kB:=fC.out.zeG aB (fun h=>by omega);have cA:=zC kB;obtain⟨x4,fD⟩:=kB.2.2.2.2.1;clear aB bA kB;go_wp2_with fail;have mB:=zJ.put w4 C 4 (.slice (some ⟨bs,off,none⟩) (W.sn - 1) c);have eD:=mB.size;go_end0;have pC:zCE (w4.setCell ⟨C,4,none⟩ (.slice (some ⟨bs,off,none⟩) (W.sn - 1) c)) C y0 y1 (.int .i64 W.time) (.int .i64 W.next) (.slice (some ⟨bs,off,none⟩) (W.sn - 1) c) z3 (.int .i64 0) (.int .i64 ((zAa W (W.zeK k)).length:Int)) .nilIface:=⟨cA.out.1.other _ (Or.inr (by decide)),cA.out.2.1.other _ (Or.inr (by decide)),cA.out.2.2.1.other _ (Or.inr (by decide)),cA.out.2.2.2.1.other _ (Or.inr (by decide)),cA.out.2.2.2.2.1.set _,cA.out.2.2.2.2.2.1.other _ (Or.inr (by decide)),cA.out.2.2.2.2.2.2.1.other _ (Or.inr (by decide)),cA.out.2.2.2.2.2.2.2.1.other _ (Or.inr (by decide)),cA.out.2.2.2.2.2.2.2.2.other _ (Or.inr (by decide))⟩;have nA:zJ (fun j=>j=C\/j=bs) w (w4.setCell ⟨C,4,none⟩ (.slice (some ⟨bs,off,none⟩) (W.sn - 1) c)):=(((zJ.zeH eA).trans (mC.out.mono (fun j e=>Or.inl e))).trans (sB.out.mono (fun j e=>Or.inr e))).trans (mB.mono (fun j e=>Or.inl e));refine⟨⟨_,rfl⟩,nA.zeF (B:=C) (by omega) (fun j h=>by omega),by omega,Or.inl ⟨rfl,_,_,_,_,pC,?_⟩⟩;have iA:zJ (fun j=>j=bs\/j=C) w3 (w4.setCell ⟨C,4,none⟩ (.slice (some ⟨bs,off,none⟩) (W.sn - 1) c)):=(sB.out.mono (fun j e=>Or.inl e)).trans (mB.mono (fun j e=>Or.inr e));obtain⟨d1,d2,d3⟩:=zaI jC.out kC.out pA iA (fun i hi h0 h=>by
  have hq:=aA.out _ (Or.inr (Or.inl (rA.out _ (Or.inr ⟨i,hi,h0,rfl⟩))));rcases h with h | h
  ·obtain⟨pB,c',ev,hx⟩:=gB.out.nth hi;exact hx.zeN h0 h
  ·omega) (fun i hi r hr=>(fA.out i hi r hr).other _ (Or.inl (fun e=>bB e.symm)))
 refine⟨(fun j=>P j\/(w2.heap.size<=j/\j<w3.heap.size)),Q,R,⟨iC.out.zeG iA (fun j hj e=>?_),⟨bs,_,_,d1,d2,fun j hj=>rA.out j (d3 j hj)⟩,nC.out.zeG iA (fun j hj e=>?_),fun j hj hq=>?_,fun j hj hq=>?_,gA.out.qr⟩,fun j hj=>?_⟩
 ·rcases hj with h | h
  ·rcases e with e | e
   ·exact gA.out.pq j h (by rw[e];exact rB.out)
   ·have:=aA.out j (Or.inl h);omega
  ·omega
 ·rcases e with e | e
  ·exact gA.out.qr bs rB.out (by rw[<-e];exact hj)
  ·have:=aA.out j (Or.inr (Or.inr hj));omega
 ·have:=aA.out j (Or.inr (Or.inl hq));rcases hj with h | h
  ·exact gA.out.pq j h hq
  ·omega
 ·have:=aA.out j (Or.inr (Or.inr hq));rcases hj with h | h
  ·exact gA.out.pr j h hq
  ·omega
 ·rcases hj with(h | h) | h | h
  ·have:=aA.out j (Or.inl h);omega
  ·omega
  ·have:=aA.out j (Or.inr (Or.inl h));omega
  ·have:=aA.out j (Or.inr (Or.inr h));omega
theorem zK8(p:Nat->Addr)(C k B0:Nat)(z0 z1 z2 z3:Value)(W:zB)(name:ByteArray)(w:World)(hI:zCa W)(hT:za W.pool (W.zeK k).rs (W.zeK k).rb)(ht:zDd (zE W (W.zeK k).zeL).time)(hx:(Lit.int .i64 (W.zeK k).zeL).wf=true)(hk:zDK W name k)(aA:C<w.heap.size)(k0:w.cell? ⟨B0,0,none⟩=some (.string name))
  (ho:yk w (C+1) w.heap.size z0 z1 z2 z3 W) (hC:zCE w C z0 z1 (.int .i64 W.time) (.int .i64 W.next) z2 z3 (.int .i64 0) (.int .i64 0) .nilIface) :
  Calls Tryz.prog 36 #[.pointer (some ⟨C,0,none⟩),.pointer (some ⟨B0,0,none⟩)] w (zMD p ⟨zEx W k,0,((zAa W (W.zeK k)).length:Int),0⟩ C w):=by
 have H:=zC (zRd p C k z0 z1 z2 z3 W name w hI hT ht hx hk aA ho hC);clear ho hC hI hT ht hx hk;go_enter Tryz.func36,Tryz.ntmps36;go_wp2_with fail;refine H.out.mono ?_;rintro e w' ⟨⟨v,rfl⟩,hr⟩;have Hr:=zC hr;clear hr;go_wp2_with fail;go_end0;refine⟨⟨_,rfl⟩,?_⟩;obtain⟨h1,h2,h3⟩:=Hr.out;refine⟨h1,h2,?_⟩;rcases h3 with⟨-,h⟩ | h
 ·exact Or.inl ⟨rfl,h⟩
 ·exact Or.inr h
def zOC(W:zB)(name:ByteArray)(w:World)(e:Ending)(w':World):Prop:=∃r o,zLl W (∃i,i<1/\8000<((fun (_:Nat)=>name) i).size) (∃i,i<0/\¬zA0 ((fun _=>⟨#[]⟩) i)) 2 (fun i=>match i with | 0=>qG W name | _=>¬∃i,i<W.pn/\(W.zeJ i).set=name) (fun i=>match i with | 0=>2 | _=>5) r/\(r=none->∃k,zDK W name k/\o=⟨zEx W k,0,((zAa W (W.zeK k)).length:Int),0⟩)/\zFn (zKy r o) w e w'
theorem zKT(s:zl)(a:Option Addr)(c B:Nat)(name:ByteArray)(w:World)(h0:w.cell? ⟨B,0,none⟩=some (.string name)) :
  Calls Tryz.prog 78 #[.agg #[.int .i64 s.id,.string s.name,.string s.set,.int .i64 s.zeL,.int .i64 s.time,.int .i64 s.rs,.int .i64 s.rb,.slice a s.dn c],.pointer (some ⟨B,0,none⟩)] w fun e w'=>zL (s.set=name) e/\Below w.heap.size w w':=by
 have ha:=zD w (.cells #[.int .i64 s.id,.string s.name,.string s.set,.int .i64 s.zeL,.int .i64 s.time,.int .i64 s.rs,.int .i64 s.rb,.slice a s.dn c] 41);have k0:=(ha.cell (zH h0)).trans h0;clear h0;obtain⟨⟨⟨x0,-⟩,⟨x1,-⟩,⟨x2,-⟩,⟨x3,-⟩⟩,⟨x4,-⟩,⟨x5,-⟩,⟨x6,-⟩,⟨x7,-⟩⟩:=zF0.new w (.int .i64 s.id) (.string s.name) (.string s.set) (.int .i64 s.zeL) (.int .i64 s.time) (.int .i64 s.rs) (.int .i64 s.rb) (.slice a s.dn c) 41;by_cases e1:s.set=name
 ·skip;have a1:=zN0 e1;have H:=zC e1;clear e1;go_enter Tryz.func78,Tryz.ntmps78;go_wp2;go_ret;exact⟨zL.yes H.out,ha⟩
 ·skip;have a1:=zN1 e1;have H:=zC e1;clear e1;go_enter Tryz.func78,Tryz.ntmps78;go_wp2;go_ret;exact⟨zL.no H.out,ha⟩
theorem zKU(v0 v1 v2 v3:Value)(lo hi:Nat)(W:zB)(B:Nat)(name:ByteArray)(w:World)(h:yO w lo hi v0 v1 v2 v3 W)(hn:W.pn<=20)(hc:w.cell? ⟨B,0,none⟩=some (.string name)) :
  Calls Tryz.prog 76 #[zA8 v0 v1 v2 v3 W,.pointer (some ⟨B,0,none⟩)] w fun e w'=>zL (¬∃i,i<W.pn/\(W.zeJ i).set=name) e/\Below w.heap.size w w':=by
 have Hp:=zC h;clear h;have fA:∀(fn:Fn) (first cap:Array Value) (w:World),(Instr.makeFunc fn first cap).run Tryz.prog w = .ok (.func fn first cap) w:=fun _ _ _ _=>rfl
 have ha:=zD w (.cells #[v0,v1,.int .i64 W.time,.int .i64 W.next,v2,v3] 30);have aA:=(ha.cell (zH hc)).trans hc;obtain⟨x0,x1,x2,x3,x4,x5⟩:=(zAN.new w (v0) (v1) (.int .i64 W.time) (.int .i64 W.next) (v2) (v3) 30).c;go_enter Tryz.func76,Tryz.ntmps76;go_wp2_with fail;clear x0 x1 x2 x3 x4 x5 hc;generalize w.alloc (.cells #[v0,v1,.int .i64 W.time,.int .i64 W.next,v2,v3] 30)=W0 at ha aA ⊢;refine(zQT 78 #[.pointer (some ⟨B,0,none⟩)] (enters_of Tryz.func78 (by kernel_rfl) rfl) (fun i=>(W.zeJ i).set=name) _ W.pn lo hi W.zeJ W0 (Hp.out.zeF ha).zeJ (by omega) (fun i eA a c w' cA _=>zKT (W.zeJ i) a c B name w' ((cA.cell (zH aA)).trans aA))).mono ?_;rintro e w1 ⟨⟨t,rfl,ht⟩,dA⟩;have bA:=zA ha dA;by_cases hf:∃i,i<W.pn/\(W.zeJ i).set=name
 ·obtain rfl:t=true:=ht.2 hf;have HF:=zC hf;clear ht hf;go_wp2;go_ret;exact⟨zL.no (fun h=>h HF.out),bA⟩
 ·obtain rfl:t=false:=qj ht hf;have HF:=zC hf;clear ht hf;go_wp2;go_ret;exact⟨zL.yes HF.out,bA⟩
theorem zLF(p:Nat->Addr)(s0:ByteArray)(w:World)(hE:zF1 w p) :
  Calls Tryz.prog 35 #[.string s0] w fun e w'=>∃B0:Nat,e = .returned (.agg #[.func (.func 76) #[] #[.pointer (some ⟨B0,0,none⟩)],yg (p 5)])/\w'.cell? ⟨B0,0,none⟩=some (.string s0)/\Below w.heap.size w w':=by
 have bA:=zD w (.cells #[.string s0] 9);have fA:=zD (w.alloc (.cells #[.string s0] 9)) (.cells #[.nilFunc,.nilIface] 55);have hb:=zA (bA) fA;have c0:(w.alloc (.cells #[.string s0] 9)).cell? ⟨w.heap.size,0,none⟩=some (.string s0):=World.cell?_alloc_at _ _ _ _ rfl;have hg:((w.alloc (.cells #[.string s0] 9)).alloc (.cells #[.nilFunc,.nilIface] 55)).cell? ⟨1,0,none⟩=some (yg (p 5)):=(hE.zeF hb).cell 5 (by omega);have cA:=zD (w.alloc (.cells #[.string s0] 9)) (.cells #[.func (.func 76) #[] #[.pointer (some ⟨w.heap.size,0,none⟩)],yg (p 5)] 55);have eA:=zA (bA) cA;have dA:=zC ((cA.cell (zH c0)).trans c0);clear c0;go_enter Tryz.func35,Tryz.ntmps35;have gA:=fun (ww:World) (a:Addr)=>run_store Tryz.prog ww a (.func (.func 76) #[] #[.pointer (some ⟨w.heap.size,0,none⟩)]) .plain rfl
 go_wp2_with fail;have aA:=zAT.new (w.alloc (.cells #[.string s0] 9)) (.func (.func 76) #[] #[.pointer (some ⟨w.heap.size,0,none⟩)]) (yg (p 5)) 55;rw[World.size_alloc]at aA;refine bodyPost_ret (v:=.agg #[.func (.func 76) #[] #[.pointer (some ⟨w.heap.size,0,none⟩)],yg (p 5)]) (by simp[results,Tryz.results35,go_sem,aA.1.1,aA.2.1]) rfl ⟨_,rfl,dA.out,eA⟩
end Go.Proofs.YtjganmlaooofoaaGreatDoor
