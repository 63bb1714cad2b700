/- A part of the proof. -/
import Derived.Test.YtehdoekmnicdiaaGreatDoorF24
set_option linter.unusedVariables false
set_option maxRecDepth 20000
set_option maxHeartbeats 4000000
namespace Go.Proofs.YtehdoekmnicdiaaGreatDoor
open Go.RowKit
theorem ZU(p:Nat->Addr)(d v1 f l:Value)(lo hi:Nat)(W:A4)(name:ByteArray)(AA:Int)(data:ByteArray)(o:Bk)(w:World)(hE:DC w p)(h:CE w lo hi d v1 f l W)(aB:G7 W)(b1:An W.pool<=1048576)(b2:W.sn<=1048576)(b3:W.pn<=1048576)(b4:JX W)(L:name.size<=maxLen)(M:(Lit.int .i64 AA).wf=true)(dA:data.size<=maxLen)
 (tA:∀B0 B1 B2 C w' z0 z1 z2 z3,w'.cell? ⟨B0,0,none⟩=some (.string name)->B0<C->w'.cell? ⟨B1,0,none⟩=some (.int .i64 AA)->B1<C->w'.cell? ⟨B2,0,none⟩=some (.string data)->B2<C->D3 W->¬(∃i,i<2/\8000<((fun i=>match i with | 0=>name | _=>data) i).size)->¬(∃i,i<0/\¬Bp ((fun _=>⟨#[]⟩) i))->(∀j,j<1->(fun i=>match i with  | _=>BP W name) j)->C<w'.heap.size->Below w.heap.size w w'->DA w' (C+1) w'.heap.size z0 z1 z2 z3 W->Bd w' C z0 z1 (.int .i64 W.time) (.int .i64 W.next) z2 z3 (.int .i64 0) (.int .i64 0) .nilIface->Calls Tryz.prog 24 #[.pointer (some ⟨C,0,none⟩),.pointer (some ⟨B0,0,none⟩),.pointer (some ⟨B1,0,none⟩),.pointer (some ⟨B2,0,none⟩)] w' (Ia p o C w')) :
 Calls Tryz.prog 5 #[Cn d v1 f l W,.string name,.int .i64 AA,.string data] w fun e w'=>∃r,FG W (∃i,i<2/\8000<((fun i=>match i with | 0=>name | _=>data) i).size) (∃i,i<0/\¬Bp ((fun _=>⟨#[]⟩) i)) 1 (fun i=>match i with  | _=>BP W name) (fun i=>match i with  | _=>2) r/\Iw (Et r o) w e w':=by
 have Hp:=AO h;have HE:=AO hE;have sB:=AO tA;have bC:=AO aB;have y:=AO L;have u:=AO dA;have fA:=AO M;clear M;clear h hE tA aB;have pA:=AC w (.cells #[d,v1,.int .i64 W.time,.int .i64 W.next,f,l] 30);have bA:=AC (w.alloc (.cells #[d,v1,.int .i64 W.time,.int .i64 W.next,f,l] 30)) (.cells #[.string name] 9);have O:=AC ((w.alloc (.cells #[d,v1,.int .i64 W.time,.int .i64 W.next,f,l] 30)).alloc (.cells #[.string name] 9)) (.cells #[.int .i64 AA] 2);have I:=AC (((w.alloc (.cells #[d,v1,.int .i64 W.time,.int .i64 W.next,f,l] 30)).alloc (.cells #[.string name] 9)).alloc (.cells #[.int .i64 AA] 2)) (.cells #[.string data] 9);have A:=AC ((((w.alloc (.cells #[d,v1,.int .i64 W.time,.int .i64 W.next,f,l] 30)).alloc (.cells #[.string name] 9)).alloc (.cells #[.int .i64 AA] 2)).alloc (.cells #[.string data] 9)) (.cells #[.slice none 0 0,.slice none 0 0,.int .i64 0,.int .i64 0,.slice none 0 0,.slice none 0 0,.int .i64 0,.int .i64 0,.int .i64 0] 34);have hb:=A7 (A7 (A7 (A7 (pA) bA) O) I) A;have HX:=AO (((((As.new w (d) (v1) (.int .i64 W.time) (.int .i64 W.next) (f) (l) 30).A0 bA).A0 O).A0 I).A0 A);have c0:((w.alloc (.cells #[d,v1,.int .i64 W.time,.int .i64 W.next,f,l] 30)).alloc (.cells #[.string name] 9)).cell? ⟨(w.alloc (.cells #[d,v1,.int .i64 W.time,.int .i64 W.next,f,l] 30)).heap.size,0,none⟩=some (.string name):=World.cell?_alloc_at _ _ _ _ rfl;rw[World.size_alloc]at c0;replace c0:=(O.cell (AZ c0)).trans c0;replace c0:=(I.cell (AZ c0)).trans c0;replace c0:=(A.cell (AZ c0)).trans c0;have jA:=AO c0;clear c0;have c1:(((w.alloc (.cells #[d,v1,.int .i64 W.time,.int .i64 W.next,f,l] 30)).alloc (.cells #[.string name] 9)).alloc (.cells #[.int .i64 AA] 2)).cell? ⟨((w.alloc (.cells #[d,v1,.int .i64 W.time,.int .i64 W.next,f,l] 30)).alloc (.cells #[.string name] 9)).heap.size,0,none⟩=some (.int .i64 AA):=World.cell?_alloc_at _ _ _ _ rfl;rw[World.size_alloc,World.size_alloc]at c1;replace c1:=(I.cell (AZ c1)).trans c1;replace c1:=(A.cell (AZ c1)).trans c1;have kA:=AO c1;clear c1;have c2:((((w.alloc (.cells #[d,v1,.int .i64 W.time,.int .i64 W.next,f,l] 30)).alloc (.cells #[.string name] 9)).alloc (.cells #[.int .i64 AA] 2)).alloc (.cells #[.string data] 9)).cell? ⟨(((w.alloc (.cells #[d,v1,.int .i64 W.time,.int .i64 W.next,f,l] 30)).alloc (.cells #[.string name] 9)).alloc (.cells #[.int .i64 AA] 2)).heap.size,0,none⟩=some (.string data):=World.cell?_alloc_at _ _ _ _ rfl;rw[World.size_alloc,World.size_alloc,World.size_alloc]at c2;replace c2:=(A.cell (AZ c2)).trans c2;have lA:=AO c2;clear c2;have hr:=Bd.new ((((w.alloc (.cells #[d,v1,.int .i64 W.time,.int .i64 W.next,f,l] 30)).alloc (.cells #[.string name] 9)).alloc (.cells #[.int .i64 AA] 2)).alloc (.cells #[.string data] 9)) (.slice none 0 0) (.slice none 0 0) (.int .i64 0) (.int .i64 0) (.slice none 0 0) (.slice none 0 0) (.int .i64 0) (.int .i64 0) (.int .i64 0) 34;rw[World.size_alloc,World.size_alloc,World.size_alloc,World.size_alloc]at hr;have HR:=AO hr;clear hr;have hz:(((((w.alloc (.cells #[d,v1,.int .i64 W.time,.int .i64 W.next,f,l] 30)).alloc (.cells #[.string name] 9)).alloc (.cells #[.int .i64 AA] 2)).alloc (.cells #[.string data] 9)).alloc (.cells #[.slice none 0 0,.slice none 0 0,.int .i64 0,.int .i64 0,.slice none 0 0,.slice none 0 0,.int .i64 0,.int .i64 0,.int .i64 0] 34)).heap.size=w.heap.size+5:=by rw[World.size_alloc,World.size_alloc,World.size_alloc,World.size_alloc,World.size_alloc]
 go_enter Tryz.func5,Tryz.ntmps5;go_upto_region 1 with fail;generalize (((((w.alloc (.cells #[d,v1,.int .i64 W.time,.int .i64 W.next,f,l] 30)).alloc (.cells #[.string name] 9)).alloc (.cells #[.int .i64 AA] 2)).alloc (.cells #[.string data] 9)).alloc (.cells #[.slice none 0 0,.slice none 0 0,.int .i64 0,.int .i64 0,.slice none 0 0,.slice none 0 0,.int .i64 0,.int .i64 0,.int .i64 0] 34))=W1 at hb HX HR hz jA kA lA ⊢;clear pA bA O I A;obtain⟨x0,x1,x2,x3,x4,x5⟩:=HX.out.c;have k0:=jA.out;have k1:=kA.out;have k2:=lA.out;have b:=AO (show ∀w',Below (w.heap.size+1+1+1+1) W1 w'->(fun w'=>w'.cell? ⟨w.heap.size,0,none⟩=some (d)/\w'.cell? ⟨w.heap.size,1,none⟩=some (v1)/\w'.cell? ⟨w.heap.size,2,none⟩=some (.int .i64 W.time)/\w'.cell? ⟨w.heap.size,3,none⟩=some (.int .i64 W.next)/\w'.cell? ⟨w.heap.size,4,none⟩=some (f)/\w'.cell? ⟨w.heap.size,5,none⟩=some (l)/\w'.cell? ⟨w.heap.size+1,0,none⟩=some (.string name)/\w'.cell? ⟨w.heap.size+1+1,0,none⟩=some (.int .i64 AA)/\w'.cell? ⟨w.heap.size+1+1+1,0,none⟩=some (.string data)/\Below (w.heap.size+1+1+1+1) W1 w') w' from fun w' a=>⟨(a.cell (p:=⟨w.heap.size,0,none⟩) (by show w.heap.size<_;omega)).trans x0,(a.cell (p:=⟨w.heap.size,1,none⟩) (by show w.heap.size<_;omega)).trans x1,(a.cell (p:=⟨w.heap.size,2,none⟩) (by show w.heap.size<_;omega)).trans x2,(a.cell (p:=⟨w.heap.size,3,none⟩) (by show w.heap.size<_;omega)).trans x3,(a.cell (p:=⟨w.heap.size,4,none⟩) (by show w.heap.size<_;omega)).trans x4,(a.cell (p:=⟨w.heap.size,5,none⟩) (by show w.heap.size<_;omega)).trans x5,(a.cell (p:=⟨w.heap.size+1,0,none⟩) (by show w.heap.size+1<_;omega)).trans k0,(a.cell (p:=⟨w.heap.size+1+1,0,none⟩) (by show w.heap.size+1+1<_;omega)).trans k1,(a.cell (p:=⟨w.heap.size+1+1+1,0,none⟩) (by show w.heap.size+1+1+1<_;omega)).trans k2,a⟩);have z:w.heap.size+1+1+1+1<=W1.heap.size:=by omega
 clear x0 x1 x2 x3 x4 x5 k0 k1 k2;refine wp_region_held_drew (S:=(fun w'=>w'.cell? ⟨w.heap.size,0,none⟩=some (d)/\w'.cell? ⟨w.heap.size,1,none⟩=some (v1)/\w'.cell? ⟨w.heap.size,2,none⟩=some (.int .i64 W.time)/\w'.cell? ⟨w.heap.size,3,none⟩=some (.int .i64 W.next)/\w'.cell? ⟨w.heap.size,4,none⟩=some (f)/\w'.cell? ⟨w.heap.size,5,none⟩=some (l)/\w'.cell? ⟨w.heap.size+1,0,none⟩=some (.string name)/\w'.cell? ⟨w.heap.size+1+1,0,none⟩=some (.int .i64 AA)/\w'.cell? ⟨w.heap.size+1+1+1,0,none⟩=some (.string data)/\Below (w.heap.size+1+1+1+1) W1 w')) (by kernel_rfl) (b.out _ ((Below.refl _ _).drew.mono z)) (fun hHeld=>?_);have eC:Below W1.heap.size W1 W1.drew:=(Below.refl _ _).drew;refine tk 0 (h:=?_);refine tk 1 (h:=?_);refine tk 3 (h:=?_);refine tk 6 (h:=?_);refine tk 8 (h:=?_);refine OM [2,4,5] (fun i=>if i=5 then [4] else []) (fun i=>i+9) (fun i v w'=>(i=2->Du w' v 2 (fun i=>match i with | 0=>name | _=>data))/\(i=4->QAt w' p 45 2 [.string name] v)/\(i=5->Ih w' p 1 (fun i=>match i with  | _=>45) (fun i=>match i with  | _=>2) (fun i=>match i with  | _=>[.string name]) v)) 3 (G:=fun w'=>Below W1.heap.size W1 w') (by kernel_rfl) (by decide) (by decide) (by decide) ?_ (fun _ _ h t=>A7 h t) (by assumption) eC ?_ ?_
 ·intro i v w' aF hf t;exact⟨fun e=>(hf.1 e).A0 t,fun e=>(hf.2.1 e).A0 t,fun e=>(hf.2.2 e).A0 t⟩
 ·intro i hi x Z hS F hD K hK;simp only[List.mem_cons,List.not_mem_nil,or_false]at hi;rcases hi with rfl | rfl | rfl
  ·refine wpOp_step (DZ rfl) (fun K' H=>?_);simp only[B4,Act.put,Nat.reduceAdd,s1,s2,s3];have J:=AC Z (.cells #[.string name,.string data] 9);go_simp;refine H _ _ (hK.out _ _ _ ?_ (b.out _ ((A7 F J).mono z)) ⟨fun _=>zEC y.out u.out rfl rfl,fun e=>absurd e (by decide),fun e=>absurd e (by decide)⟩ J);simp only[B4,Act.put,Nat.reduceAdd,s1,s2,s3]
  ·refine wpOp_step (DZ rfl) (fun K' H=>?_);simp only[B4,Act.put,Nat.reduceAdd,s1,s2,s3];go_simp;go_at_call 23;refine(ZB p name Z (HE.out.A0 (A7 hb F))).mono ?_;rintro e w3 ⟨B0,rfl,E,P⟩;refine H _ _ (hK.out _ _ w3 ?_ (b.out _ ((A7 F P).mono z)) ⟨fun e=>absurd e (by decide),fun _=>⟨_,rfl,FS.one E⟩,fun e=>absurd e (by decide)⟩ P);simp only[B4,Act.put,Nat.reduceAdd,s1,s2,s3]
  ·refine wpOp_step (DZ rfl) (fun K' H=>?_);simp only[B4,Act.put,Nat.reduceAdd,s1,s2,s3];obtain⟨bB,e0,cA⟩:=(hD 4 (by decide)).2.1 rfl;simp only[e0];have J:=AC Z (.cells #[.func (.func 45) #[] bB,Ax (p 2)] 63);have hA:Ih (Z.alloc (.cells #[.func (.func 45) #[] bB,Ax (p 2)] 63)) p 1 (fun i=>match i with  | _=>45) (fun i=>match i with  | _=>2) (fun i=>match i with  | _=>[.string name]) (.slice (some ⟨Z.heap.size,0,none⟩) 1 1):=Zq (g:=(fun i=>match i with  | _=>45)) (ei:=(fun i=>match i with  | _=>2)) (caps:=(fun i=>match i with  | _=>[.string name])) cA;go_simp;refine H _ _ (hK.out _ _ _ ?_ (b.out _ ((A7 F J).mono z)) ⟨fun e=>absurd e (by decide),fun e=>absurd e (by decide),fun _=>hA⟩ J);simp only[B4,Act.put,Nat.reduceAdd,s1,s2,s3,e0]
 ·intro x Z hS F hF;have N:=(hF 2 (by decide)).1 rfl;obtain⟨-,ta,tc,et,-,-⟩:=id N;have hN:Du Z (.slice none 0 0) 0 (fun _=>⟨#[]⟩):=⟨by omega,_,_,rfl,fun i hi=>absurd hi (Nat.not_lt_zero _),fun h=>absurd h (Nat.lt_irrefl _)⟩;obtain⟨lb,hA,X⟩:=(hF 5 (by decide)).2.2 rfl;obtain⟨-,qa,qc,eq,-⟩:=id hA;simp only[B4,D5,if_true,Act.put,Nat.reduceAdd,s1,s2,s3,et,eq];rw[et]at N;rw[eq]at hA;have a:=A7 hb F;have vB:=AO N;have tB:=AO hN;have rB:=AO hA;have nA:=AO X;clear N hN hA X hF;refine tk 7 (h:=?_);refine rd [9] (rc (fun K hK=>?_) .nil);go_simp;go_at_call 28;refine(qZ p _ _ _ 24 #[.pointer (some ⟨w.heap.size+1,0,none⟩),.pointer (some ⟨w.heap.size+1+1,0,none⟩),.pointer (some ⟨w.heap.size+1+1+1,0,none⟩)] 2 0 1 (fun i=>match i with | 0=>name | _=>data) (fun _=>⟨#[]⟩) (fun i=>match i with  | _=>45) lb (fun i=>match i with  | _=>2) (fun i=>match i with  | _=>BP W name) o _ _ _ _ lo hi W Z (HE.out.A0 a) (Hp.out.A0 a) bC.out b1 b2 b3 b4 vB.out tB.out rB.out ?_ ?_ (enters_of Tryz.func24 (by kernel_rfl) rfl) ?_ ?_).mono ?_
  ·intro i hi;obtain rfl:i=0:=(by omega);decide
  ·intro i hi;obtain rfl:i=0:=(by omega);exact enters_of Tryz.func45 (by kernel_rfl) rfl
  ·intro i hi' w' s hI fE;have hW:=(Hp.out.A0 a).A0 s;have h8:=hI.Ap.A1.1;have cE:=hI.Ap.A2.1;obtain rfl:i=0:=(by omega);obtain⟨B0,cC,E⟩:=(nA.out 0 (by decide)).is1;replace E:=(s.cell (AZ E)).trans E;rw[cC];exact ZE d v1 f l lo hi W B0 name w' hW h8 L E
  ·intro C w' z0 z1 z2 z3 hC s dC hI hl iC hq q rA;exact sB.out (w.heap.size+1) (w.heap.size+1+1) (w.heap.size+1+1+1) C w' z0 z1 z2 z3 ((s.cell (AZ hS.2.2.2.2.2.2.1)).trans hS.2.2.2.2.2.2.1) (by have:=F.size;omega) ((s.cell (AZ hS.2.2.2.2.2.2.2.1)).trans hS.2.2.2.2.2.2.2.1) (by have:=F.size;omega) ((s.cell (AZ hS.2.2.2.2.2.2.2.2.1)).trans hS.2.2.2.2.2.2.2.2.1) (by have:=F.size;omega) hI hl iC hq dC (A7 a s) q rA
  rintro e w3 ⟨r,Y,z0,z1,z2,z3,rfl,q,P⟩;obtain⟨n0,Q,n1,R,n2,T,n3,U,rfl,rfl,rfl,rfl⟩:=q.form;have D:=A7 F P;have mA:=AO (HR.out.A0 D);have V:=AO q;have oA:=AO Y;clear q Y;generalize vA:Et r o=oo at V ⊢;have aC:=AO vA;clear vA
  (try go_wp2_with fail)
  refine hK.out _ _ (b.out _ (D.mono z)) ?_;clear hK K hHeld;intro hHeld
  try simp only[Act.put,s1,s2,s3]
  refine rd [10] (rc (fun K hK=>?_) .nil);obtain⟨⟨r0,g0⟩,⟨r1,g1⟩,⟨r2,g2⟩,⟨r3,g3⟩,⟨r4,g4⟩,⟨r5,g5⟩,⟨r6,g6⟩,⟨r7,g7⟩,⟨r8,g8⟩⟩:=mA.out;go_simp
  (try go_wp2_with fail)
  have N:=AE.put9 w3 (w.heap.size+1+1+1+1) (.slice n0 oo.world.pool.n Q) (.slice n1 oo.world.pool.hn R) (.int .i64 oo.world.time) (.int .i64 oo.world.next) (.slice n2 oo.world.sn T) (.slice n3 oo.world.pn U) (.int .i64 oo.id) (.int .i64 oo.many) (.int .i64 oo.code);have fC:Below (w.heap.size+1+1+1+1) W1 (((((((((w3.setCell ⟨w.heap.size+1+1+1+1,0,none⟩ (.slice n0 oo.world.pool.n Q)).setCell ⟨w.heap.size+1+1+1+1,1,none⟩ (.slice n1 oo.world.pool.hn R)).setCell ⟨w.heap.size+1+1+1+1,2,none⟩ (.int .i64 oo.world.time)).setCell ⟨w.heap.size+1+1+1+1,3,none⟩ (.int .i64 oo.world.next)).setCell ⟨w.heap.size+1+1+1+1,4,none⟩ (.slice n2 oo.world.sn T)).setCell ⟨w.heap.size+1+1+1+1,5,none⟩ (.slice n3 oo.world.pn U)).setCell ⟨w.heap.size+1+1+1+1,6,none⟩ (.int .i64 oo.id)).setCell ⟨w.heap.size+1+1+1+1,7,none⟩ (.int .i64 oo.many)).setCell ⟨w.heap.size+1+1+1+1,8,none⟩ (.int .i64 oo.code)):=(D.mono z).trans (N.A0 (B:=w.heap.size+1+1+1+1) (by have:=D.size;omega) (fun k e=>by omega));refine hK.out _ _ (b.out _ fC) ?_;clear hK K hHeld r0 r1 r2 r3 r4 r5 r6 r7 r8 g0 g1 g2 g3 g4 g5 g6 g7 g8;intro hHeld
  try simp only[Act.put,s1,s2,s3]
  refine wpAnyH_done (by kernel_rfl) ?_ _;go_wp2_with fail;have m:=mA.out.put (.slice n0 oo.world.pool.n Q) (.slice n1 oo.world.pool.hn R) (.int .i64 oo.world.time) (.int .i64 oo.world.next) (.slice n2 oo.world.sn T) (.slice n3 oo.world.pn U) (.int .i64 oo.id) (.int .i64 oo.many) (.int .i64 oo.code);have sA:=A7 hb D;have lC:=N.size;have lE:=D.size;refine bodyPost_ret (v:=.agg #[.slice n0 oo.world.pool.n Q,.slice n1 oo.world.pool.hn R,.int .i64 oo.world.time,.int .i64 oo.world.next,.slice n2 oo.world.sn T,.slice n3 oo.world.pn U,.int .i64 oo.id,.int .i64 oo.many,.int .i64 oo.code]) (by simp[results,Tryz.results5,go_sem,m.1.1,m.2.1.1,m.2.2.1.1,m.2.2.2.1.1,m.2.2.2.2.1.1,m.2.2.2.2.2.1.1,m.2.2.2.2.2.2.1.1,m.2.2.2.2.2.2.2.1.1,m.2.2.2.2.2.2.2.2.1]) rfl ⟨r,oA.out,?_⟩;rw[aC.out];refine⟨_,_,_,_,rfl,?_,?_⟩
  ·exact(V.out.AD N (fun k e=>by have:=F.size;omega)).wide (by have:=F.size;omega) lC
  ·exact sA.trans (N.A0 (B:=w.heap.size) sA.size (fun k e=>by omega))
variable{w:World}
theorem zCE(ty:TypeId)(a d:Option Addr)(c:Nat):(Builtin.append_ #[39,39] ty #[.slice a 0 0,.slice d 0 c]).run Tryz.prog w = .ok (.slice a 0 0) w:=by
 obtain⟨i0,b,f⟩:=Option.map_eq_some_iff.1 Ls;have e:Tryz.prog.underlying 39=some (.slice 38):=by kernel_rfl
 cases a<;>cases d<;>simp[Builtin.append_,run_underlying e,sizeOf,typeInfo,b,Builtin.lenOf,Builtin.firstCells,storeCells,loadCells,loadCellsFrom]
variable{n:Nat}
theorem zBa{kb lo hi:Nat}{kv vo:Value}{f g:Nat->Int}{l:List (Int×Int)}(N:Ca w kb kv n f g)(M:CJ w 38 2 kv n)(hv:BI w lo hi vo l.length (AK l) (AM l))(hn:n+l.length<=4000000)(ty:TypeId) :
 ∃a c w' y,(Builtin.append_ #[39,39] ty #[kv,vo]).run Tryz.prog w = .ok (.slice a (n+l.length) c) w'/\Ca w' y (.slice a (n+l.length) c) (Bx n f g ++ l).length (AK (Bx n f g ++ l)) (AM (Bx n f g ++ l))/\AE (fun j=>0<n/\j=kb) w w'/\(0<n+l.length->(0<n/\y=kb)\/(w.heap.size<=y/\y<w'.heap.size)):=by
 obtain⟨i0,C,H⟩:=Option.map_eq_some_iff.1 Ls;simp only[Prod.mk.injEq]at H;obtain⟨aA,Z,T⟩:=H;have ht:Tryz.prog.underlying 39=some (.slice 38):=by kernel_rfl
 have s:(Bx n f g ++ l).length=n+l.length:=by rw[List.length_append,Jn]
 have E:0<n->kv.ownBlock=some kb:=fun k=>by
  obtain⟨_,a,c,hv,_,v⟩:=N;obtain⟨off,S,_⟩:=v k;rw[hv,S];rfl
 have p:0<n->∀q,kv.ownBlock=some q->∀j u,(pcl (Bx n f g))[j]?=some u->w.cell? ⟨q,j,none⟩=some u:=fun k q hq j u d=>by
  have W:j<n*2:=by
   have:=(List.getElem?_eq_some_iff.1 d).1
   rwa [Iq,Jn]at this
  obtain⟨_,a,c,G,_,v⟩:=N;obtain⟨off,B,m⟩:=v k;rcases M with⟨e,_⟩ | ⟨_,g',bA,eA,t,_⟩
  ·omega
  ·rw[G,B]at t;simp only[Value.slice.injEq,Option.some.injEq,Addr.mk.injEq,and_true,true_and]at t;obtain⟨⟨rfl,rfl⟩,rfl⟩:=t;rw[G,B]at hq;obtain rfl:kb=q:=(by injection hq);obtain⟨i,x,r⟩:∃i,i<n/\(j=i*2\/j=i*2+1):=⟨j / 2,by omega,by omega⟩;have z:=m i x;obtain⟨J,K⟩:=Nd (Bx n f g) i (by rw[Jn];exact x);have Q:=QO f g x;unfold AK AM at Q;rw[Q.1]at J;rw[Q.2]at K;rcases r with rfl | rfl
   ·rw[J]at d;replace d:=Option.some.inj d;have A:=z.1.1;rw[Nat.zero_add]at A;rw[A,d]
   ·rw[K]at d;replace d:=Option.some.inj d;have A:=z.2.1;rw[Nat.zero_add]at A;rw[A,d]
 by_cases D:l.length=0
 ·obtain rfl:l = []:=List.eq_nil_of_length_eq_zero D;obtain⟨_,O,I,rfl,_,_⟩:=hv;have o:∀a c,kv = .slice a n c->Ca w kb (.slice a n c) (Bx n f g ++ []).length (AK (Bx n f g ++ [])) (AM (Bx n f g ++ [])):=fun a c e=>by
   rw[List.append_nil,Jn];obtain⟨R,a',c',L,h3,v⟩:=N;rw[e]at L;cases L;refine⟨R,a,c,rfl,h3,fun k=>?_⟩;obtain⟨off,S,m⟩:=v k;exact⟨off,S,fun i hi=>by rw[(QO f g hi).1,(QO f g hi).2];exact m i hi⟩
  rcases Nat.eq_zero_or_pos n with k | k
  ·rcases M with⟨_,a,rfl⟩ | ⟨hp,_⟩
   ·subst k;exact⟨a,0,w,kb,zCE ty a O I,o a 0 rfl,AE.refl _ _,fun h=>by simp at h⟩
   ·omega
  ·obtain⟨a,c,hv⟩:∃a c,kv = .slice a n c:=(by obtain⟨_,a,c,h,_⟩:=N;exact⟨a,c,h⟩);have F:=M.owns (base:=0) (xs:=pcl (Bx n f g)) k (by rw[Iq,Jn]) (fun _ _=>Nat.zero_le _) (p k);exact⟨a,c,w,kb,by rw[show(Value.slice a (n+([]:List (Int×Int)).length) c)=kv from hv.symm];exact Rx 0 39 ty 38 i0 2 I O ht C kv n _ F,o a c hv,AE.refl _ _,fun _=>Or.inl ⟨k,rfl⟩⟩
 ·obtain⟨-,O,I,rfl,-,v⟩:=hv;obtain⟨b,off,rfl,-,-,m⟩:=v (by omega);obtain⟨q,cap,w',row,hr,o,hg,Y,U,V⟩:=CJ.append (P:=Tryz.prog) 39 ty 38 i0 _ 2 16 0 ht C aA Z T rfl (by decide) M (xs:=pcl (Bx n f g)) (by rw[Iq,Jn]) (fun _ _ _=>Nat.zero_le _) p
   ⟨b,off,none⟩ l.length I (pcl l) (Iq l) (fun j u d=>by
    have W:j<l.length*2:=by
     have:=(List.getElem?_eq_some_iff.1 d).1
     rwa [Iq]at this
    obtain⟨i,x,r⟩:∃i,i<l.length/\(j=i*2\/j=i*2+1):=⟨j / 2,by omega,by omega⟩;have z:=m i x;obtain⟨J,K⟩:=Nd l i x;rcases r with rfl | rfl
    ·rw[J]at d;replace d:=Option.some.inj d;rw[<-d,show(⟨b,off,none⟩:Addr).add (i*2)=⟨b,off+i*2,none⟩from by simp[Addr.add]];exact z.1
    ·rw[K]at d;replace d:=Option.some.inj d;rw[<-d,show(⟨b,off,none⟩:Addr).add (i*2+1)=⟨b,off+i*2+1,none⟩from by simp[Addr.add,Nat.add_assoc]];exact z.2) (Nf l) (by omega) (by unfold maxLen;omega) (by omega) (Nat.zero_le _)
  have hR:At w' 0 (.slice (some ⟨q,0,none⟩) (n+l.length) cap) (Bx n f g ++ l):=by
   unfold At;rw[s,MT];exact o
  obtain⟨y,R,L⟩:=hR.own (by rw[s];unfold maxLen;omega);have X:q=y:=by
   have:=(L (by rw[s];exact Nat.add_pos_right n (Nat.pos_of_ne_zero D))).1;simp only[Value.ownBlock]at this;injection this
  subst X;refine⟨_,_,w',q,hr,R,(zC2 hg).mono ?_,fun _=>?_⟩
  ·intro j d;rcases Y with h | ⟨k,h⟩
   ·rw[h]at d;cases d
   ·rw[h,E k]at d;injection d with d;exact⟨k,d.symm⟩
  ·rcases U with⟨k,h⟩ | h
   ·rw[E k]at h;injection h with h;exact Or.inl ⟨k,h.symm⟩
   ·exact Or.inr ⟨by omega,V⟩
variable{f:Nat->Ad}
theorem zAQ{w':World}{Q:Nat->Prop}{bs off c:Nat}{kb:Nat->Nat}{kv:Nat->Value}(G:EV w bs kb kv (.slice (some ⟨bs,off,none⟩) n c) n f)(p:OC kb n f)(s:∀j,Gu bs kb n f j->Q j){k:Nat}(D:k<n){s':Ad}{nb:Nat}{nv:Value}
 (J:AE (fun j=>j=bs\/(0<(f k).dn/\j=kb k)) w w') (q:∀j,j<n->j≠k->∀r,r<6->∀u,AN w bs (off+j*6+r) u->AN w' bs (off+j*6+r) u) (hs:Em w' bs (off+k*6) nb nv s') (z:0<s'.dn->((0<(f k).dn/\nb=kb k)\/∀j,Gu bs kb n f j->j≠nb)/\Q nb) :
 GW w' Q (.slice (some ⟨bs,off,none⟩) n c) n (fun j=>if j=k then s' else f j):=by
 have v:∀i,i<n->i≠k->0<(f i).dn->0<s'.dn->kb i≠nb:=fun i hi B g m e=>by
  rcases(z m).1 with⟨A,F⟩ | A
  ·exact p i k hi D B g A (by rw[e,F])
  ·exact A (kb i) (Or.inr ⟨i,hi,g,rfl⟩) e
 refine⟨bs,(fun j=>if j=k then nb else kb j),(fun j=>if j=k then nv else kv j),?_,?_,?_⟩
 ·obtain⟨I,a,cap,hv,H,C⟩:=G;simp only[Value.slice.injEq,true_and]at hv;obtain⟨rfl,rfl⟩:=hv;refine⟨I,_,_,rfl,H,fun b=>?_⟩;obtain⟨E,e,t⟩:=C b;simp only[Option.some.injEq,Addr.mk.injEq,true_and,and_true]at e;subst e;refine⟨off,rfl,fun j d=>?_⟩;by_cases e:j=k
  ·subst e;simp only[if_true];exact hs
  ·simp only[if_neg e];have h:=t j d;exact⟨q j d e 0 (by omega) _ h.c0,q j d e 1 (by omega) _ h.c1,q j d e 2 (by omega) _ h.c2,q j d e 3 (by omega) _ h.c3,q j d e 4 (by omega) _ h.c4,q j d e 5 (by omega) _ h.c5,h.dead.AD J (fun b x=>by
    rcases x with x | ⟨g,x⟩
    ·exact h.C7 b x
    ·exact p j k d D e b g x),h.CI,h.C7⟩
 ·intro i j hi d y g m;show(if i=k then nb else kb i)≠(if j=k then nb else kb j);by_cases o:i=k
  ·by_cases l:j=k
   ·exact absurd (o.trans l.symm) y
   ·simp only[if_pos o]at g;simp only[if_neg l]at m;rw[if_pos o,if_neg l];exact fun e=>v j d l m g e.symm
  ·simp only[if_neg o]at g;by_cases l:j=k
   ·simp only[if_pos l]at m;rw[if_neg o,if_pos l];exact v i hi o g m
   ·simp only[if_neg l]at m;rw[if_neg o,if_neg l];exact p i j hi d y g m
 ·rintro j (⟨b,rfl⟩ | ⟨i,hi,b,rfl⟩)
  ·exact s _ (Or.inl ⟨b,rfl⟩)
  ·by_cases e:i=k
   ·simp only[if_pos e]at b ⊢;exact(z b).2
   ·simp only[if_neg e]at b ⊢;exact s _ (Or.inr ⟨i,hi,b,rfl⟩)
theorem zCa(W:A4)(q:A5)(x:Int):AI {W with pool:=q} x=AI W x:=rfl
theorem zDK(v0 v1:Value)(lo hi:Nat)(p:A5)(xs xb:Int)(w:World)(Y:C6 w lo hi v0 v1 p)(hn:An p<=1048576) :
 Calls Tryz.prog 113 #[.agg #[v0,v1],.agg #[.int .i64 xs,.int .i64 xb]] w (PX (JP p xs xb) w):=by
 have K:=AR Y;obtain⟨a,c,a',c',rfl,rfl⟩:=Y.form;have Hn:=AR hn;have pC:p.hn<=1048576:=(by unfold An at hn;omega);have rA:p.n<=1048576:=(by unfold An at hn;omega);have mA:Hid (∀j,j<p.n->(p.s j).kn<=1048576):=fun j hj=>by have h2:=UC p.s hj;unfold Cf at h2;unfold An at hn;omega
 have aD:p.hn<=c':=(by obtain⟨_,⟨_,_,_,e,h,_⟩⟩:=Y;simp only[Value.slice.injEq,true_and]at e;omega);have fA:=zIE w (.slice a p.n c) (.slice a' p.hn c') (.int .i64 xs) (.int .i64 xb) 26 38 104;obtain⟨i0,eA,X⟩:=Option.map_eq_some_iff.1 Vg;simp only[Prod.mk.injEq]at X;have O:=AR (And.intro eA X);clear Y hn eA X;go_enter Tryz.func113,Tryz.ntmps113;go_wp2_with fail;generalize ((w.alloc (.cells #[.slice a p.n c,.slice a' p.hn c'] 26)).alloc (.cells #[.int .i64 xs,.int .i64 xb] 38)).alloc (.cells #[.slice none 0 0,.slice none 0 0,.int .i64 0,.int .i64 0,.int .i64 0] 104)=W at fA ⊢;obtain⟨hB,hX,hR,U,hz⟩:=fA;refine(Mc _ _ lo hi p _ (K.out.A0 U)).mono ?_;rintro e w1 ⟨⟨t,rfl,x⟩,A⟩;have S:=AR (hB.A0 A);have T:=AR (hX.A0 A);have I:=AR (hR.A0 A);have L:=A7 U A;have vA:w.heap.size+3<=w1.heap.size:=(by have:=A.size;omega);clear hB hX hR U A hz;by_cases z:AY p
 · have y:=AR z
   obtain rfl:t=true:=x.2 z;clear x z;obtain⟨⟨x0,x1⟩,⟨x2,x3⟩⟩:=S.out;obtain⟨⟨y0,y1⟩,⟨y2,y3⟩⟩:=T.out;go_wp2_with fail;refine(OH _ p.n lo hi p.s _ _ _ (K.out.1.A0 L)).mono ?_;rintro e w2 ⟨⟨t,rfl,x⟩,C⟩;rw[OI y.out]at x;have F:=AR (S.out.A0 C);have J:=AR (T.out.A0 C);have q:=AR (I.out.A0 C);have r:=A7 L C;have tC:w.heap.size+3<=w2.heap.size:=(by have:=C.size;omega);clear C L S T I vA x0 x1 x2 x3 y0 y1 y2 y3;by_cases hP:B5 p xs xb
   · have HP:=AR hP
     obtain rfl:t=true:=x.2 hP;clear x hP;obtain⟨⟨x0,x1⟩,⟨x2,x3⟩⟩:=F.out;obtain⟨⟨y0,y1⟩,⟨y2,y3⟩⟩:=J.out;go_wp2_with fail;refine(Ou _ p.hn lo hi p.h _ _ (K.out.2.A0 r)).mono ?_;rintro e Q ⟨⟨t,rfl,x⟩,tA⟩;subst tA;by_cases Z:Has p.hn p.h xs
     · have HH:=AR Z
       obtain rfl:t=true:=x.2 Z;clear x Z;obtain⟨⟨u0,u1⟩,⟨u2,u3⟩,⟨u4,u5⟩,⟨u6,u7⟩,⟨u8,u9⟩⟩:=q.out;go_wp2;have b:=q.out.put (.slice none 0 0) (.slice none 0 0) (.int .i64 0) (.int .i64 0) (.int .i64 4);have m:=Jh (R:=w.heap.size+1+1) (u2:=.int .i64 0) (u3:=.int .i64 0) (u4:=.int .i64 4) (by omega) r;rw[Vb y.out (fun h=>h.2 HH.out)];exact bodyPost_ret (v:=.agg #[.slice none 0 0,.slice none 0 0,.int .i64 0,.int .i64 0,.int .i64 4]) (by simp[results,Tryz.results113,go_sem,b.1.1,b.2.1.1,b.2.2.1.1,b.2.2.2.1.1,b.2.2.2.2.1]) rfl ⟨_,_,rfl,m.1,m.2⟩
     · have HH:=AR Z
       obtain rfl:t=false:=BR x Z;clear x Z;obtain⟨⟨u0,u1⟩,⟨u2,u3⟩,⟨u4,u5⟩,⟨u6,u7⟩,⟨u8,u9⟩⟩:=q.out;have vB:(p.hn:Int)<=(c':Int):=(by omega);have n0:w.heap.size+1+1≠w.heap.size:=(by omega);have n1:w.heap.size+1+1≠w.heap.size+1:=(by omega);go_wp2_with fail;go_region_held3 (fun w'=>w'.cell? ⟨w.heap.size,0,none⟩=some (.slice a p.n c)/\w'.cell? ⟨w.heap.size,1,none⟩=some (.slice a' p.hn c')/\w'.cell? ⟨w.heap.size+1,0,none⟩=some (.int .i64 xs)) (go_keep)
        (first
          | (go_at_call 159;refine(ZX _ p.n lo hi p.s _ ?_ rA mA.out).mono ?_;(first | exact K.out.1.A0 r.drew | exact K.out.1.A0 (A7 r (AC _ _)).drew);rintro e E ⟨v5,bs,kb,kv,rfl,V,P,H,N⟩;obtain⟨_,sa,gA,rfl,_⟩:=id V;(first | (have sA:E.cell? ⟨Q.heap.size,0,none⟩=some (.int .i64 xs):=((Au (i:=0) (v:=.int .i64 xs) (heap_alloc_new Q (.cells #[.int .i64 xs] 2)) rfl).A0 (Cr N)).1) | skip);have g:Below Q.heap.size Q E:=(by first | exact Cr N | exact A7 (AC _ _) (Cr N));have u:∀k,FU bs kb p.n p.s k->Q.heap.size<=k/\k<E.heap.size:=(by first | exact H | exact fun k hk=>(by have:=H k hk;simp at this;omega));have z0:=(F.out.A0 g).1.1;have z1:=(F.out.A0 g).2.1;have z2:=(J.out.A0 g).1.1)
          | (refine step_append_grows rfl (.tmp 33) (.tmp 36) 24 rfl 2 i0 (.int .i64 0) 1 8 (by kernel_rfl) O.out.1 O.out.2.1 O.out.2.2.1 O.out.2.2.2 rfl (by decide) a' p.hn p.hn (ic p.h p.hn) (by simp[Act.eval]) (Ui K.out.2) (Ie _ _) (Ta K.out.2 (A7 r (A7 g (AC E _)))) ⟨E.heap.size,0,none⟩ 1 1 [.int .i64 xs] (by simp[Act.eval]) rfl (zIW _ _ _) (zY _) (by omega) (by unfold maxLen;omega) (by omega) ?_
             intro v6 w6 f l;obtain⟨a6,c6,rfl,_⟩:=Bh f;have D:Below E.heap.size E w6:=A7 (AC E _) (Ru l);have o:w6.ownsRow E.heap.size 2 1 (.slice a6 (p.hn+1) c6) (p.hn+1) (ic p.h p.hn ++ [.int .i64 xs]):=Nz f (by simp);have d:=A7 g D;obtain⟨⟨p0,p1⟩,⟨p2,p3⟩⟩:=F.out.A0 d;obtain⟨⟨p4,p5⟩,⟨p6,p7⟩⟩:=J.out.A0 d;obtain⟨⟨p8,p9⟩,⟨aB,bB⟩,⟨cB,eB⟩,⟨fB,gB⟩,⟨iB,jB⟩⟩:=q.out.A0 d;clear f l)
          | (refine step_append_grows rfl (.tmp 33) (.tmp 36) 24 rfl 2 i0 (.int .i64 0) 1 8 (by kernel_rfl) O.out.1 O.out.2.1 O.out.2.2.1 O.out.2.2.2 rfl (by decide) a' p.hn p.hn (ic p.h p.hn) (by simp[Act.eval]) (Ui K.out.2) (Ie _ _) (Ta K.out.2 (A7 r g)) ⟨Q.heap.size,0,none⟩ 1 1 [.int .i64 xs] (by simp[Act.eval]) rfl (zFS sA) (zY _) (by omega) (by unfold maxLen;omega) (by omega) ?_
             intro v6 w6 f l;obtain⟨a6,c6,rfl,_⟩:=Bh f;have D:Below E.heap.size E w6:=Ru l;have o:w6.ownsRow E.heap.size 2 1 (.slice a6 (p.hn+1) c6) (p.hn+1) (ic p.h p.hn ++ [.int .i64 xs]):=Nz f (by simp);have d:=A7 g D;obtain⟨⟨p0,p1⟩,⟨p2,p3⟩⟩:=F.out.A0 d;obtain⟨⟨p4,p5⟩,⟨p6,p7⟩⟩:=J.out.A0 d;obtain⟨⟨p8,p9⟩,⟨aB,bB⟩,⟨cB,eB⟩,⟨fB,gB⟩,⟨iB,jB⟩⟩:=q.out.A0 d;clear f l))
       all_goals
        have nA:=AR (zDl (p:=CM p xs) (B:=Q.heap.size) (M:=Q.heap.size) (V.A0 D) P (fun k hk=>by have:=u k hk;have:=D.size;omega) (by show p.hn+1<=maxLen;unfold maxLen;omega) (by rw[<-zG5]at o;exact o) (fun k e=>by
         have Y:=o.lt k e;refine⟨by have:=g.size;omega,Or.inr (Or.inr ⟨Y.2,fun hx=>?_⟩)⟩;have:=u k hx;omega) (Nat.le_refl _) (fun e=>absurd e (Nat.succ_ne_zero _)))
        have lA:=AR (q.out.A0 d);have oA:=A7 r d;clear V P H u N g D d o;go_wp2;have G:=lA.out.put (.slice sa p.n gA) (.slice a6 (p.hn+1) c6) (.int .i64 0) (.int .i64 0) (.int .i64 0);have m:=Nb (R:=w.heap.size+1+1) (u2:=.int .i64 0) (u3:=.int .i64 0) (u4:=.int .i64 0) nA.out (by omega) (by omega) (Nat.le_refl _) oA;rw[To y.out HP.out HH.out];exact bodyPost_ret (v:=.agg #[.slice sa p.n gA,.slice a6 (p.hn+1) c6,.int .i64 0,.int .i64 0,.int .i64 0]) (by simp[results,Tryz.results113,go_sem,G.1.1,G.2.1.1,G.2.2.1.1,G.2.2.2.1.1,G.2.2.2.2.1]) rfl ⟨_,_,rfl,m.1,m.2⟩
   · have HP:=AR hP
     obtain rfl:t=false:=BR x hP;clear x hP;obtain⟨⟨u0,u1⟩,⟨u2,u3⟩,⟨u4,u5⟩,⟨u6,u7⟩,⟨u8,u9⟩⟩:=q.out;go_wp2;have b:=q.out.put (.slice none 0 0) (.slice none 0 0) (.int .i64 0) (.int .i64 0) (.int .i64 4);have m:=Jh (R:=w.heap.size+1+1) (u2:=.int .i64 0) (u3:=.int .i64 0) (u4:=.int .i64 4) (by omega) r;rw[Vb y.out (fun h=>HP.out h.1)];exact bodyPost_ret (v:=.agg #[.slice none 0 0,.slice none 0 0,.int .i64 0,.int .i64 0,.int .i64 4]) (by simp[results,Tryz.results113,go_sem,b.1.1,b.2.1.1,b.2.2.1.1,b.2.2.2.1.1,b.2.2.2.2.1]) rfl ⟨_,_,rfl,m.1,m.2⟩
 · have y:=AR z
   obtain rfl:t=false:=BR x z;clear x z;obtain⟨⟨u0,u1⟩,⟨u2,u3⟩,⟨u4,u5⟩,⟨u6,u7⟩,⟨u8,u9⟩⟩:=I.out;go_wp2;have b:=I.out.put (.slice none 0 0) (.slice none 0 0) (.int .i64 0) (.int .i64 0) (.int .i64 1);have m:=Jh (R:=w.heap.size+1+1) (u2:=.int .i64 0) (u3:=.int .i64 0) (u4:=.int .i64 1) (by omega) L;rw[zAD y.out];exact bodyPost_ret (v:=.agg #[.slice none 0 0,.slice none 0 0,.int .i64 0,.int .i64 0,.int .i64 1]) (by simp[results,Tryz.results113,go_sem,b.1.1,b.2.1.1,b.2.2.1.1,b.2.2.2.1.1,b.2.2.2.2.1]) rfl ⟨_,_,rfl,m.1,m.2⟩
theorem zA2(d v1:Value)(a b c:Int)(w:World):(Instr.field 104 (.agg #[d,v1,.int .i64 a,.int .i64 b,.int .i64 c]) 0).run Tryz.prog w = .ok (.agg #[d,v1]) w:=by kernel_rfl
theorem zAn(C lo hi:Nat)(z0 z1 z2 z3 u8:Value)(tm V id m:Int)(p q:A5)(x:Int×Int)(w:World)(N:Bd w C z0 z1 (.int .i64 tm) (.int .i64 V) z2 z3 (.int .i64 id) (.int .i64 m) u8)(O:C6 w lo hi z0 z1 p)(hn:An p<=1048576)(hh:JP p x.1 x.2=⟨q,0,0,0⟩)(hm:0<=m)(lA:m<=1000000) :
 Calls Tryz.prog 50 #[.pointer (some ⟨C,0,none⟩),.agg #[.int .i64 x.1,.int .i64 x.2]] w fun e w'=>(∃v,e = .returned v)/\∃Y Z,Bd w' C Y Z (.int .i64 tm) (.int .i64 V) z2 z3 (.int .i64 id) (.int .i64 (m+1)) u8/\Bo w' w.heap.size w'.heap.size Y Z q/\AE (fun j=>j=C) w w':=by
 obtain⟨a0,c0,a1,c1,rfl,rfl⟩:=O.form;have kA:=N.1.lt;have r:=AC w (.cells #[.int .i64 x.1,.int .i64 x.2] 38);have M:=A3 (Ac.new w (.int .i64 x.1) (.int .i64 x.2) 38);have L:=A3 (N.A0 r);have mA:IntKind.i64.wrap (m+1)=m+1:=by first | exact wrap_small (by omega) (by omega) | exact wrap_small _ (by omega) (by omega)
 have U:(w.alloc (.cells #[.int .i64 x.1,.int .i64 x.2] 38)).heap.size=w.heap.size+1:=World.size_alloc _ _;have f:=A3 (show ∀w',Below (w.alloc (.cells #[.int .i64 x.1,.int .i64 x.2] 38)).heap.size (w.alloc (.cells #[.int .i64 x.1,.int .i64 x.2] 38)) w'->Calls Tryz.prog 113 #[.agg #[.slice a0 p.n c0,.slice a1 p.hn c1],.agg #[.int .i64 x.1,.int .i64 x.2]] w' fun e B=>∃c d g i,e = .returned (.agg #[.slice c q.n d,.slice g q.hn i,.int .i64 0,.int .i64 0,.int .i64 0])/\Bo B w'.heap.size B.heap.size (.slice c q.n d) (.slice g q.hn i) q/\Below w'.heap.size w' B from fun w' P=>by
  refine(zDK _ _ lo hi p x.1 x.2 w' ((O.A0 r).A0 P) hn).mono ?_;rw[hh];rintro e w2 ⟨Y,Z,rfl,ho,Q⟩;obtain⟨c,d,g,i,rfl,rfl⟩:=ho.at.form;exact⟨c,d,g,i,rfl,ho,Q⟩)
 clear O hh N hn;go_enter Tryz.func50,Tryz.ntmps50;go_wp2_with fail;generalize w.alloc (.cells #[.int .i64 x.1,.int .i64 x.2] 38)=u at r M L U f ⊢;have s:Below u.heap.size u u.drew:=(Below.refl _ _).drew;have y:=A3 (show ∀w',Below u.drew.heap.size u.drew w'->(fun w':World=>w'.cell? ⟨w.heap.size,0,none⟩=some (.int .i64 x.1)/\w'.cell? ⟨w.heap.size,1,none⟩=some (.int .i64 x.2)) w' from fun w' hb=>by
  have h:=(M.out.A0 s).A0 hb;exact⟨h.1.1,h.2.1⟩)
 obtain⟨⟨x0,-⟩,⟨x1,-⟩,-⟩:=L.out.A0 s;refine wp_region_held_drew (S:=(fun w':World=>w'.cell? ⟨w.heap.size,0,none⟩=some (.int .i64 x.1)/\w'.cell? ⟨w.heap.size,1,none⟩=some (.int .i64 x.2))) (by kernel_rfl) (y.out _ (Below.refl _ _)) (fun hHeld=>?_);have t:=s;generalize u.drew=q0 at hHeld y x0 x1 s t ⊢;refine tk 0 (h:=tk 1 (h:=tk 2 (h:=tk 3 (h:=tk 4 (h:=tk 6 (h:=?_))))));refine rd [5] (rc (fun K hK=>?_) .nil);go_simp
 (try go_wp2_with fail)
 refine hK.out _ _ (y.out _ (Below.refl _ _)) ?_;clear hK K;intro hHeld
 try simp only[Act.put,s1,s2,s3]
 refine rd [7] (rc (fun K hK=>?_) .nil);go_simp;go_at_call 113;refine(f.out q0 t).mono ?_;rintro e D ⟨c,d,g,i,rfl,H,J⟩;have E:=A3 H;have l:Below u.heap.size u D:=A7 t J;have a:=A3 (L.out.A0 l);have o:=A3 (M.out.A0 l);clear H
 (try go_wp2_with fail)
 refine hK.out _ _ ⟨o.out.1.1,o.out.2.1⟩ ?_;clear hK K hHeld;intro hHeld
 try simp only[Act.put,s1,s2,s3]
 have T:=zA2 (.slice c q.n d) (.slice g q.hn i) 0 0 0;refine tk 8 (h:=tk 9 (h:=tk 10 (h:=tk 11 (h:=?_))));refine rd [12] (rc (fun K hK=>?_) .nil);obtain⟨⟨t0,W⟩,⟨t1,X⟩,-⟩:=a.out;go_simp
 (try go_wp2_with fail)
 have I:=(AE.put D C 0 (.slice c q.n d)).trans (AE.put (D.setCell ⟨C,0,none⟩ (.slice c q.n d)) C 1 (.slice g q.hn i));have A:=o.out.AD I (fun h=>by omega);refine hK.out _ _ ⟨A.1.1,A.2.1⟩ ?_;clear hK K hHeld t0 W t1 X;intro hHeld
 try simp only[Act.put,s1,s2,s3]
 refine wpAnyH_done (by kernel_rfl) ?_ _;have b:=A3 (show Bd ((D.setCell ⟨C,0,none⟩ (.slice c q.n d)).setCell ⟨C,1,none⟩ (.slice g q.hn i)) C (.slice c q.n d) (.slice g q.hn i) (.int .i64 tm) (.int .i64 V) z2 z3 (.int .i64 id) (.int .i64 m) u8 from⟨(a.out.1.set _).other _ (Or.inr (by decide)),(a.out.2.1.other _ (Or.inr (by decide))).set _,(a.out.2.2.1.other _ (Or.inr (by decide))).other _ (Or.inr (by decide)),(a.out.2.2.2.1.other _ (Or.inr (by decide))).other _ (Or.inr (by decide)),(a.out.2.2.2.2.1.other _ (Or.inr (by decide))).other _ (Or.inr (by decide)),(a.out.2.2.2.2.2.1.other _ (Or.inr (by decide))).other _ (Or.inr (by decide)),(a.out.2.2.2.2.2.2.1.other _ (Or.inr (by decide))).other _ (Or.inr (by decide)),(a.out.2.2.2.2.2.2.2.1.other _ (Or.inr (by decide))).other _ (Or.inr (by decide)),(a.out.2.2.2.2.2.2.2.2.other _ (Or.inr (by decide))).other _ (Or.inr (by decide))⟩);have R:Below w.heap.size w D:=A7 r l;have G:=A3 (show AE (fun j=>j=C) w ((D.setCell ⟨C,0,none⟩ (.slice c q.n d)).setCell ⟨C,1,none⟩ (.slice g q.hn i))from(AE.EH R).trans I);have oA:=J.size;have nA:=t.size;have F:=A3 ((E.out.AD I (fun k e=>by omega)).wide (show w.heap.size<=q0.heap.size by omega) I.size);clear A I T a o E;generalize ((D.setCell ⟨C,0,none⟩ (.slice c q.n d)).setCell ⟨C,1,none⟩ (.slice g q.hn i))=w4 at b G F ⊢;obtain⟨y7,vA⟩:=b.out.2.2.2.2.2.2.2.1;go_wp2_with fail;have z:=AE.put w4 C 7 (.int .i64 (m+1));go_end0;refine⟨⟨_,rfl⟩,_,_,⟨b.out.1.other _ (Or.inr (by decide)),b.out.2.1.other _ (Or.inr (by decide)),b.out.2.2.1.other _ (Or.inr (by decide)),b.out.2.2.2.1.other _ (Or.inr (by decide)),b.out.2.2.2.2.1.other _ (Or.inr (by decide)),b.out.2.2.2.2.2.1.other _ (Or.inr (by decide)),b.out.2.2.2.2.2.2.1.other _ (Or.inr (by decide)),b.out.2.2.2.2.2.2.2.1.set _,b.out.2.2.2.2.2.2.2.2.other _ (Or.inr (by decide))⟩,?_,G.out.trans z⟩;exact(F.out.AD z (fun k e=>by omega)).wide (Nat.le_refl _) z.size
theorem zj(C lo hi n:Nat)(P:Nat->Prop)(z0 z1 z2 z3 u8 v:Value)(tm nx id m t:Int)(p:A5)(f g:Nat->Int)(w:World)(hv:BI w lo hi v n f g)(z:Cc n f g)(ht:F4 t)(hH:CP p (Bj f g t n))(hC:Bd w C z0 z1 (.int .i64 tm) (.int .i64 nx) z2 z3 (.int .i64 id) (.int .i64 m) u8)(hP:DP w P z0 z1 p)(mA:∀k,P k->C<k/\k<w.heap.size)(hm:0<=m)(rB:m<=900000) :
 Calls Tryz.prog 48 #[v,.int .i64 t,.func (.func 50) #[.pointer (some ⟨C,0,none⟩)] #[]] w fun e w'=>∃A B D,e = .returned A/\At w' w.heap.size A (C5 f g t n)/\Bd w' C B D (.int .i64 tm) (.int .i64 nx) z2 z3 (.int .i64 id) (.int .i64 (m+((Bj f g t n).length:Int))) u8/\DP w' (fun j=>P j\/(w.heap.size<=j/\j<w'.heap.size)) B D (BH p (Bj f g t n))/\AE (fun j=>j=C) w w':=by
 have pB:=hC.1.lt;have W:(Bj f g t n).length<=200:=by have:=Kx f g t n;have:=z.1;omega
 have Y:=A3 (show Calls Tryz.prog 112 #[v,.int .i64 t] w fun e w'=>∃X A,e = .returned (.agg #[X,A])/\Ik (Bj f g t n) (C5 f g t n) w w' X A by
  refine(Rq v n lo hi f g t w hv).mono ?_;rintro e I ⟨X,A,l,l',rfl,hy,ho,hr⟩;rw[hy.1 ⟨z,ht⟩,ho.1 ⟨z,ht⟩]at hr;exact⟨X,A,rfl,hr⟩)
 have HC:=A3 hC;have HP:=A3 hP;have HH:=A3 hH;obtain⟨-,av,cv,rfl,-,-⟩:=(show BI w lo hi v n f g from hv);clear hv z ht hC hP hH;generalize Bj f g t n=l at Y HH W ⊢;generalize C5 f g t n=l' at Y ⊢;go_enter Tryz.func48,Tryz.ntmps48;go_wp2_with fail;refine Y.out.mono ?_;clear Y;rintro e I ⟨X,A,rfl,G,H,-,U⟩;obtain⟨ay,cy,rfl,-⟩:=Bh G;obtain⟨Z,co,rfl,-⟩:=Bh H;obtain⟨bo,o,V⟩:=G.own (by unfold maxLen;omega);have x:=AC I (.cells #[.slice ay l.length cy,.slice Z l'.length co] 164);have HX:=A3 (Ac.new I (.slice ay l.length cy) (.slice Z l'.length co) 164);have y:=A7 U x;have J:=A3 (HC.out.A0 y);have M:=A3 (HP.out.A0 y);have F:=A3 (At.A0 H x);have L:=A3 (o.A0 x);have kA:=A3 V;have aC:=U.size;have oA:(I.alloc (.cells #[.slice ay l.length cy,.slice Z l'.length co] 164)).heap.size=I.heap.size+1:=World.size_alloc _ _;obtain⟨⟨x0,-⟩,⟨x1,-⟩⟩:=HX.out;clear G H o V HC HP;go_wp2_with fail;clear x0 x1;generalize I.alloc (.cells #[.slice ay l.length cy,.slice Z l'.length co] 164)=w2 at x HX y J M F L oA ⊢
 go_loopw [16] (fun i wr=>∃(k:Nat) (B D:Value),k<=l.length/\i = .int .i64 k/\Bd wr C B D (.int .i64 tm) (.int .i64 nx) z2 z3 (.int .i64 id) (.int .i64 (m+(k:Int))) u8/\DP wr (fun j=>P j\/(w.heap.size<=j/\j<wr.heap.size)) B D (BH p (l.take k))/\AE (fun j=>j=C) w2 wr) (fun i _=>l.length - (intOf i).toNat)
 case atStart=>exact⟨0,_,_,Nat.zero_le _,rfl,by simpa using J.out,M.out.mono (fun j h=>Or.inl h),AE.refl _ _⟩
 case round=>
  obtain⟨k,B,D,hk,rfl,Q,S,u⟩:=hrel;have K:=A3 Q;have E:=A3 S;have b:=A3 u;have dC:=u.size;have hX:=HX.out.AD u (fun h=>by omega);obtain⟨⟨x0,-⟩,⟨x1,-⟩⟩:=hX;clear Q S u;by_cases s:k<l.length
  ·have gB:(k:Int)<(l.length:Int):=(by omega);have o:=L.out.AD b.out (fun h0 e=>by
    obtain⟨_,h,_⟩:=kA.out h0;omega)
   obtain⟨_,a,c,e1,_,hx⟩:=o;obtain⟨off,rfl,r⟩:=hx (by omega);simp only[Value.slice.injEq,true_and]at e1;obtain⟨rfl,rfl⟩:=e1;obtain⟨⟨q0,-⟩,⟨q1,-⟩⟩:=r k s;have hn:=HH.out.next s;have e0:l[k]=(AK l k,AM l k):=by
    unfold AK AM;rw[List.getD_eq_getElem?_getD,List.getElem?_eq_getElem s];rfl
   rw[e0]at hn;have HN:=A3 hn;clear hn e0 r hx;have d:=AC wr (.cells #[.int .i64 (AK l k),.int .i64 (AM l k)] 38);obtain⟨⟨r0,-⟩,⟨r1,-⟩⟩:=Ac.new wr (.int .i64 (AK l k)) (.int .i64 (AM l k)) 38;go_wp2_with fail;have bC:=d.size;refine(zAn C 0 wr.heap.size B D z2 z3 u8 tm nx id (m+(k:Int)) (BH p (l.take k)) (BH p (l.take (k+1))) (AK l k,AM l k) _ (K.out.A0 d) (((E.out.at (lo:=0) (hi:=wr.heap.size) (fun j h=>⟨Nat.zero_le _,by
    rcases h with h | h
    ·have:=mA j h;omega
    ·omega⟩))).A0 d) (by have:=Jw HN.out.2;omega) HN.out.1 (by omega) (by omega)).mono ?_
   rintro e w4 ⟨⟨ve,rfl⟩,t0,t1,O,R,T⟩;have gA:=A3 O;have iA:=A3 R;have N:=A3 T;clear r0 r1 q0 q1 x0 x1 O R T;go_wp2_with fail;go_roundw
   case rel=>
    have cC:=N.out.size;refine⟨k+1,t0,t1,by omega,by go_num,?_,iA.out.isIn (fun j h1 h2=>Or.inr ⟨by omega,h2⟩),b.out.trans ((AE.EH d).trans N.out)⟩;have e:m+((k+1:Nat):Int)=m+(k:Int)+1:=(by omega);rw[e];exact gA.out
   case measure=>simp[intOf];omega
  ·obtain rfl:k=l.length:=(by omega);go_wp2_with fail;rw[List.take_length]at E;go_ret;refine⟨_,B,D,rfl,?_,K.out,E.out,((AE.EH y).trans b.out)⟩;exact F.out.AD (row:=some C) ⟨b.out.os,b.out.tape,b.out.output,b.out.size,fun k hk hn=>b.out.block k hk (fun e=>hn (by rw[e]))⟩ (fun q hq e=>by
    injection e with e;have:=At.lt F.out hq;omega)
open Go.Extern.Stop Go.Stop Go.Extern
theorem Yp(p:Nat->Addr)(c:Int)(n:Nat)(v:Value)(hn:(n=7/\c=0/\v = .nilIface)\/(n<7/\c=CZ n/\v=Ax (p n)))(w:World)(h:DC w p):Calls Tryz.prog 47 #[.int .i64 c] w fun e w'=>e = .returned v/\Below w.heap.size w w':=by
 have q:=AO h;have l:=AO hn;have z:n<=7:=by omega
 have b:=AO (show ∀k,k<n->CZ k≠c from fun k y=>by
  rcases hn with⟨_,rfl,_⟩ | ⟨s,rfl,_⟩
  ·exact zEe k
  ·exact zGj (by omega) s (by omega))
 clear h hn;have t:=AC w (.cells (LC p) 162);have r:=AO (Gx.new p w);go_enter Tryz.func47,Tryz.ntmps47;go_wp2_with fail;refine(Z9 p _ q.out).mono ?_;rintro e D ⟨rfl,rfl⟩;go_wp2
 go_loopw [7] (fun B wr=>∃k:Nat,k<=n/\B = .int .i64 k/\Gx wr w.heap.size p/\Below w.heap.size w wr) (fun i _=>7 - (intOf i).toNat)
 case atStart=>exact⟨0,Nat.zero_le _,rfl,r.out,t⟩
 case round=>
  obtain⟨k,y,rfl,f,m⟩:=hrel;by_cases j:k<7
  ·have o:(k:Int)<7:=(by omega);obtain⟨C,q1⟩:=f k j;have g:=AO f;clear f;have hn:=AC wr (.cells #[Ax (p k),.int .i64 (CZ k)] 162);have a:=A7 m hn;have d:=AO (g.out.A0 hn);have E:(wr.alloc (.cells #[Ax (p k),.int .i64 (CZ k)] 162)).cell? ⟨wr.heap.size,0,none⟩=some (Ax (p k)):=(Au (heap_alloc_new _ _) rfl).1;have F:(wr.alloc (.cells #[Ax (p k),.int .i64 (CZ k)] 162)).cell? ⟨wr.heap.size,1,none⟩=some (.int .i64 (CZ k)):=(Au (heap_alloc_new _ _) rfl).1;by_cases x:k=n
   ·subst x;obtain⟨u,hv⟩:=(l.out.resolve_left (fun h=>by omega)).2;subst u hv;go_wp2;go_ret;exact⟨rfl,a⟩
   ·have A:(CZ k == c)=false:=(by simpa using b.out k (by omega));go_wp2;go_roundw
    case rel=>exact⟨k+1,by omega,by go_num,d.out,a⟩
    case measure=>simp[intOf];omega
  ·obtain rfl:k=7:=(by omega);obtain rfl:n=7:=(by omega);have hv:=(l.out.resolve_right (fun h=>by omega)).2.2;subst hv;go_wp2;go_ret;exact⟨rfl,m⟩
theorem zAo(s:Ad)(a:Option Addr)(c B:Nat)(name:ByteArray)(w:World)(d:w.cell? ⟨B,0,none⟩=some (.string name)) :
 Calls Tryz.prog 58 #[.agg #[.string s.name,.int .i64 s.origin,.int .i64 s.A6,.int .i64 s.rs,.int .i64 s.rb,.slice a s.dn c],.pointer (some ⟨B,0,none⟩)] w fun e w'=>AL (s.name=name) e/\Below w.heap.size w w':=by
 have f:=AC w (.cells #[.string s.name,.int .i64 s.origin,.int .i64 s.A6,.int .i64 s.rs,.int .i64 s.rb,.slice a s.dn c] 41);have h:=(f.cell (AZ d)).trans d;clear d;obtain⟨i,j,k,l,m,n⟩:=(As.new w (.string s.name) (.int .i64 s.origin) (.int .i64 s.A6) (.int .i64 s.rs) (.int .i64 s.rb) (.slice a s.dn c) 41).c;by_cases b:s.name=name
 ·skip;have g:=qX b;have H:=A3 b;clear b;go_enter Tryz.func58,Tryz.ntmps58;go_wp2;go_ret;exact⟨AL.yes H.out,f⟩
 ·skip;have g:=qY b;have H:=A3 b;clear b;go_enter Tryz.func58,Tryz.ntmps58;go_wp2;go_ret;exact⟨AL.no H.out,f⟩
theorem zEi{k:Nat}{name:ByteArray}{e:Ending}(hn:(f k).name=name)(c:∀j,j<k->(f j).name≠name)(d:k<n)
 (g:(∃i:Nat,i<n/\(f i).name=name/\(∀j,j<i->¬(f j).name=name)/\e = .returned (.int .i64 (i:Int)))\/((∀j,j<n->¬(f j).name=name)/\e = .returned (.int .i64 (-1)))):e = .returned (.int .i64 (k:Int)):=by
 rcases g with⟨i,hi,a,b,rfl⟩ | ⟨a,_⟩
 ·obtain rfl:i=k:=by
   rcases Nat.lt_trichotomy i k with h | h | h
   ·exact absurd a (c i h)
   ·exact h
   ·exact absurd hn (b k h)
  rfl
 ·exact absurd hn (a k d)
theorem Qk(C lo hi n k q:Nat)(t:Option Addr)(f:Nat->Ad)(name:ByteArray)(w:World)(x:w.cell? ⟨C,4,none⟩=some (.slice t n q))(u:EB w lo hi (.slice t n q) n f)(hn:n<=8)(y:k<n)(g:(f k).name=name)(d:∀j,j<k->(f j).name≠name) :
 Calls Tryz.prog 27 #[.pointer (some ⟨C,0,none⟩),.string name] w fun e w'=>(∃b off,t=some ⟨b,off,none⟩/\e = .returned (.pointer (some ⟨b,off+k*6,none⟩)))/\Below w.heap.size w w':=by
 have B:=A3 u;have A:=A3 g;have z:=A3 d;obtain⟨b,off,vd,rfl,-⟩:=u.cells y;clear u g d;have r:=AC w (.cells #[.string name] 9);have c0:(w.alloc (.cells #[.string name] 9)).cell? ⟨w.heap.size,0,none⟩=some (.string name):=World.cell?_alloc_at _ _ _ _ rfl;have m:=(r.cell (AZ x)).trans x;have s:=A3 c0;have F:(k:Int)<(n:Int):=by omega
 clear c0 x;go_enter Tryz.func27,Tryz.ntmps27;go_wp2_with fail;generalize w.alloc (.cells #[.string name] 9)=W1 at r m s ⊢;have D:=A3 (show ∀w',Below W1.heap.size W1 w'->Calls Tryz.prog 57 #[.slice (some ⟨b,off,none⟩) n q,.func (.func 58) #[] #[.pointer (some ⟨w.heap.size,0,none⟩)]] w' fun e o=>e = .returned (.int .i64 (k:Int))/\Below w'.heap.size w' o from fun w' p=>by
  refine(zCT 58 #[.pointer (some ⟨w.heap.size,0,none⟩)] (enters_of Tryz.func58 (by kernel_rfl) rfl) (fun i=>(f i).name=name) _ n lo hi f w' ((B.out.A0 r).A0 p) (by omega) (fun i hi' a c o v I=>zAo (f i) a c _ name o (((A7 p v).cell (AZ s.out)).trans s.out))).mono ?_;rintro e H ⟨G,l⟩;exact⟨zEi A.out z.out y G,l⟩)
 go_region_held3 (fun w'=>w'.cell? ⟨C,4,none⟩=some (.slice (some ⟨b,off,none⟩) n q)) (go_keep)
  (first | (go_at_call 57;refine(D.out _ (Below.refl _ _).drew).mono ?_;rintro e H ⟨rfl,l⟩;have h:=Cr l;have E:=(h.cell (AZ m)).trans m))
 go_wp2;go_ret;exact⟨⟨b,off,rfl,rfl⟩,A7 r h⟩
theorem zBx(v:Value)(s:Ae)(w:World):(Instr.field 83 (.agg #[.int .i64 s.id,.string s.name,.string s.set,.int .i64 s.A6,.int .i64 s.time,.int .i64 s.rs,.int .i64 s.rb,v]) 4).run Tryz.prog w = .ok (.int .i64 s.time) w:=by kernel_rfl
theorem zCG(C lo hi:Nat)(u y z D u6 u7 u8:Value)(W:A4)(x:Int)(w:World)(h:CE w lo hi u y z D W)(q:Bd w C u y (.int .i64 W.time) (.int .i64 W.next) z D u6 u7 u8)(hn:W.pn<=20)(i:Mw W.pn W.A2)(r:I2 W)(t:(Lit.int .i64 x).wf=true) :
 Calls Tryz.prog 49 #[.pointer (some ⟨C,0,none⟩),.int .i64 x] w fun e w'=>∃a c,e = .returned (DE (.slice a (AI W x).dn c) (AI W x))/\Below w.heap.size w w':=by
 have H:=A3 h;obtain⟨l0,R,l1,T,l2,U,l3,V,rfl,rfl,rfl,rfl⟩:=h.form;have F:=A3 r;have l:=A3 i;have I:=A3 t;have j:=AC w (.cells #[.int .i64 0,.string ⟨#[]⟩,.string ⟨#[]⟩,.int .i64 0,.int .i64 0,.int .i64 0,.int .i64 0,.slice none 0 0] 83);obtain⟨⟨x0,-⟩,⟨x1,-⟩,⟨x2,-⟩,⟨x3,-⟩,⟨x4,-⟩,⟨x5,-⟩,-⟩:=q.A0 j;have o:=A3 (Dc.new w (.int .i64 0) (.string ⟨#[]⟩) (.string ⟨#[]⟩) (.int .i64 0) (.int .i64 0) (.int .i64 0) (.int .i64 0) (.slice none 0 0) 83);clear h r i t q;obtain⟨S,m⟩:∃S,S=AI W x:=⟨_,rfl⟩;rw[<-m];unfold DE;have G:=A3 m;clear m;go_enter Tryz.func49,Tryz.ntmps49;go_wp2_with fail;clear x0 x1 x2 x3 x4 x5;generalize w.alloc (.cells #[.int .i64 0,.string ⟨#[]⟩,.string ⟨#[]⟩,.int .i64 0,.int .i64 0,.int .i64 0,.int .i64 0,.slice none 0 0] 83)=W1 at j o ⊢;refine(Yx _ _ _ _ lo hi W W1 (H.out.A0 j) hn l.out).mono ?_;rintro e w2 ⟨A,rfl,p,f⟩;have E:=A3 p;clear p;go_wp2_with fail;refine(Jp lo hi W A x w2 E.out F.out I.out hn).mono ?_;rw[<-G.out];unfold DE;rintro e w3 ⟨a,c,rfl,n,g⟩;have s:=A7 (A7 j f) g;have d:=A3 ((o.out.A0 f).A0 g);clear n;obtain⟨⟨⟨r0,g0⟩,⟨r1,J⟩,⟨X,K⟩,⟨Y,L⟩⟩,⟨Z,M⟩,⟨r5,N⟩,⟨r6,O⟩,⟨r7,P⟩⟩:=d.out;go_wp2_with fail;have b:=d.out.put (.int .i64 S.id) (.string S.name) (.string S.set) (.int .i64 S.A6) (.int .i64 S.time) (.int .i64 S.rs) (.int .i64 S.rb) (.slice a S.dn c);have Q:=AE.put8 w3 w.heap.size (.int .i64 S.id) (.string S.name) (.string S.set) (.int .i64 S.A6) (.int .i64 S.time) (.int .i64 S.rs) (.int .i64 S.rb) (.slice a S.dn c);clear r0 g0 r1 J X K Y L Z M r5 N r6 O r7 P;refine bodyPost_ret (v:=.agg #[.int .i64 S.id,.string S.name,.string S.set,.int .i64 S.A6,.int .i64 S.time,.int .i64 S.rs,.int .i64 S.rb,.slice a S.dn c]) (by simp[results,Tryz.results49,go_sem,b.1.1.1,b.1.2.1.1,b.1.2.2.1.1,b.1.2.2.2.1,b.2.1.1,b.2.2.1.1,b.2.2.2.1.1,b.2.2.2.2.1]) rfl ⟨a,c,rfl,?_⟩
 ·exact s.trans (Q.A0 (B:=w.heap.size) s.size (fun k e=>by omega))
end Go.Proofs.YtehdoekmnicdiaaGreatDoor
