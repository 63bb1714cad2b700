/- A part of the proof. -/
import Derived.Test.YtginldeebkfbgaaGreatF27
set_option linter.unusedVariables false
set_option maxRecDepth 20000
set_option maxHeartbeats 4000000
namespace Go.Proofs.YtginldeebkfbgaaGreat
open Go.RowKit Go.Shelf Go.Maps
structure zPo (cs:Array Value) (f:Nat->Int×Int):Prop where
 eq:cs=pgC f
theorem zPo.size{cs:Array Value}{f:Nat->Int×Int}(h:zPo cs f):cs.size=128:=by rw[h.eq,zHE]
theorem zPo.one{cs:Array Value}{f:Nat->Int×Int}(h:zPo cs f):cs.all (·.oneCell')=true:=by rw[h.eq,zT4]
theorem zXV(f:Nat->Int×Int){j:Nat}(hj:j<128):(pgC f)[j]?=some (pgV f j):=by simp[pgC,hj]
theorem zPo.pg{cs:Array Value}{f:Nat->Int×Int}(h:zPo cs f){X:World}{V:Nat}(hb:Blk X V cs):zFO X V f:=fun n hn=>by
 have h1:=zL hb (by rw[h.eq];exact zXV f (show n*2<128 by omega));have h2:=zL hb (by rw[h.eq];exact zXV f (show n*2+1<128 by omega));unfold pgV at h1 h2;rw[if_pos (by omega),show n*2 / 2=n by omega]at h1;rw[if_neg (by omega),show(n*2+1) / 2=n by omega]at h2;exact⟨h1,h2⟩
theorem zw(X:World)(V:Nat)(cs zs:Array Value)(i1:Blk X V zs)(hz:zs.size=128)(hs:cs.size=128)(h1:cs.all (·.oneCell')=true):(storeCells ⟨V,0,none⟩ cs.toList).run Tryz.prog X = .ok () (X.setRow V cs):=by
 have h1:=run_storeVar_row (P:=Tryz.prog) X V 85 85 zs cs i1 (by rw[hs];exact pgI) (by rw[hz,hs]) h1;cases hq:Tryz.prog.info? 85 with
 | none=>have:=pgI;simp[hq]at this
 | some i=>
  have aA:i.size=128:=(by have:=pgI;simpa[hq]using this);simpa[storeVar,sizeOf,typeInfo,hq,Value.cells,aA,hs]using h1
theorem Blk.setRow{X:World}{V:Nat}{zs:Array Value}(cs:Array Value)(h:Blk X V zs):Blk (X.setRow V cs) V cs:=setRow_heap X V _ cs 85 (0,0) h
theorem Blk.zbe{X:World}{V V':Nat}{zs:Array Value}(cs:Array Value)(h:Blk X V' zs)(aA:V'≠V):Blk (X.setRow V cs) V' zs:=(setRow_other X V V' cs aA).trans h
theorem zHD(v0 v1 v2 v3:Value)(lo hi:Nat)(W:zB)(a b c d:Int)(w:World)(h:ye w lo hi v0 v1 v2 v3 W)(hh:hi<=w.heap.size)(hR:zf W.pool)(hT:zW W.pool a b)(tH:zW W.pool c d) :
  Calls Tryz.prog 21 #[zAY v0 v1 v2 v3 W,.agg #[.int .i64 a,.int .i64 b],.agg #[.int .i64 c,.int .i64 d]] w (zDx (zBk W.pool a b c d 64) w):=by
 have Hp:=zM h;have HR:=zM hR;have HT:=zM hT;have jB:=zM tH;clear h hR hT tH;have dA:∀A B C:World,A=w.alloc (.cells #[v0,v1,.int .i64 W.time,.int .i64 W.next,v2,v3] 30)->B=A.alloc (.cells #[.int .i64 a,.int .i64 b] 44)->C=B.alloc (.cells #[.int .i64 c,.int .i64 d] 44)->
   zAb C w.heap.size v0 v1 (.int .i64 W.time) (.int .i64 W.next) v2 v3/\yG C (w.heap.size+1) (.int .i64 a) (.int .i64 b)/\yG C (w.heap.size+1+1) (.int .i64 c) (.int .i64 d)/\Below w.heap.size w C/\C.heap.size=w.heap.size+3:=by
  rintro A B C ea eb ec;have b1:=zD w (.cells #[v0,v1,.int .i64 W.time,.int .i64 W.next,v2,v3] 30);have x1:=zAb.new w v0 v1 (.int .i64 W.time) (.int .i64 W.next) v2 v3 30;have z1:A.heap.size=w.heap.size+1:=(by rw[ea];exact World.size_alloc _ _);rw[<-ea]at b1 x1;have b2:=zD A (.cells #[.int .i64 a,.int .i64 b] 44);have x2:=yG.new A (.int .i64 a) (.int .i64 b) 44;have z2:B.heap.size=w.heap.size+1+1:=(by rw[eb,World.size_alloc,z1]);rw[<-eb]at b2 x2;rw[z1]at x2;have b3:=zD B (.cells #[.int .i64 c,.int .i64 d] 44);have x3:=yG.new B (.int .i64 c) (.int .i64 d) 44;have z3:C.heap.size=w.heap.size+3:=(by rw[ec,World.size_alloc,z2]);rw[<-ec]at b3 x3;rw[z2]at x3;exact⟨(x1.zbd b2).zbd b3,x2.zbd b3,x3,zA (zA b1 b2) b3,z3⟩
 obtain⟨hx,hy,hz,hb,eI⟩:=dA _ _ _ rfl rfl rfl;have HX:=zM hx;have HY:=zM hy;have HZ:=zM hz;have mI:=zM eI;clear dA hx hy hz eI;go_enter Tryz.func21,Tryz.ntmps21;go_upto_region 1 with fail;generalize ((w.alloc (.cells #[v0,v1,.int .i64 W.time,.int .i64 W.next,v2,v3] 30)).alloc (.cells #[.int .i64 a,.int .i64 b] 44)).alloc (.cells #[.int .i64 c,.int .i64 d] 44)=W3 at HX HY HZ mI hb ⊢
 go_cut [7,8] (fun va vb wc=>∃A B:Nat,va = .pointer (some ⟨A,0,none⟩)/\vb = .pointer (some ⟨B,0,none⟩)/\zFO wc A (zC1 (zBw W.pool a b))/\zFO wc B (zC1 (zBw W.pool c d))/\Below w.heap.size w wc)
 case first=>
  obtain⟨x0,x1,x2,x3,x4,x5⟩:=HX.out.c;obtain⟨⟨y0,-⟩,⟨y1,-⟩⟩:=HY.out;obtain⟨⟨z0,-⟩,⟨z1,-⟩⟩:=HZ.out;obtain⟨cA,hA⟩:∃cA,Hid (zPo cA (zC1 (zBw W.pool a b))):=⟨_,⟨rfl⟩⟩;obtain⟨cB,hB⟩:∃cB,Hid (zPo cB (zC1 (zBw W.pool c d))):=⟨_,⟨rfl⟩⟩;have sA:=hA.out.size;have sB:=hB.out.size;refine wp_region_held_drew (S:=(fun w'=>w'.cell? ⟨w.heap.size,0,none⟩=some v0/\w'.cell? ⟨w.heap.size,1,none⟩=some v1/\w'.cell? ⟨w.heap.size,2,none⟩=some (.int .i64 W.time)/\w'.cell? ⟨w.heap.size,3,none⟩=some (.int .i64 W.next)/\w'.cell? ⟨w.heap.size,4,none⟩=some v2/\w'.cell? ⟨w.heap.size,5,none⟩=some v3/\w'.cell? ⟨w.heap.size+1,0,none⟩=some (.int .i64 a)/\w'.cell? ⟨w.heap.size+1,1,none⟩=some (.int .i64 b)/\w'.cell? ⟨w.heap.size+1+1,0,none⟩=some (.int .i64 c)/\w'.cell? ⟨w.heap.size+1+1,1,none⟩=some (.int .i64 d))) (by kernel_rfl) ?_ (fun hHeld=>?_)
  ·(try dsimp only)
   go_keep
  have gB:Below W3.heap.size W3 W3.drew:=(Below.refl _ _).drew;clear x0 x1 x2 x3 x4 x5 y0 y1 z0 z1;generalize W3.drew=w0 at gB hHeld ⊢;refine tk 0 (h:=tk 1 (h:=tk 3 (h:=tk 4 (h:=?_))));refine rd [2,6,7] (rc (fun K hK=>?_) (rc (fun K hK=>?_) (rc (fun K hK=>?_) .nil)))
  ·go_simp;go_at_call 59;refine(yg v0 v1 v2 v3 lo hi W _ _ _ ((Hp.out.zbd hb).zbd gB) (by have:=hb.size;have:=gB.size;omega) HR.out HT.out).mono ?_;rintro e w1 ⟨rfl,nI⟩;rw[<-hA.out.eq];have iB:Below W3.heap.size W3 w1:=zA gB nI;obtain⟨x0,x1,x2,x3,x4,x5⟩:=(HX.out.zbd iB).c;obtain⟨⟨y0,-⟩,⟨y1,-⟩⟩:=HY.out.zbd iB;obtain⟨⟨z0,-⟩,⟨z1,-⟩⟩:=HZ.out.zbd iB
   (try go_wp2_with fail)
   refine hK.out _ _ (by(try dsimp only);go_keep) ?_;clear hK K hHeld;intro hHeld
   try simp only[Act.put,s1,s2,s3]
   clear x0 x1 x2 x3 x4 x5 y0 y1 z0 z1;refine rd [5,6,7] (rc (fun K hK=>?_) (rc (fun K hK=>?_) (rc (fun K hK=>?_) .nil)))
   ·go_simp;go_at_call 59;refine(yg v0 v1 v2 v3 lo hi W _ _ _ ((Hp.out.zbd hb).zbd iB) (by have:=hb.size;have:=iB.size;omega) HR.out jB.out).mono ?_;rintro e w2 ⟨rfl,oI⟩;rw[<-hB.out.eq];have pC:Below W3.heap.size W3 w2:=zA iB oI;obtain⟨x0,x1,x2,x3,x4,x5⟩:=(HX.out.zbd pC).c;obtain⟨⟨y0,-⟩,⟨y1,-⟩⟩:=HY.out.zbd pC;obtain⟨⟨z0,-⟩,⟨z1,-⟩⟩:=HZ.out.zbd pC
    (try go_wp2_with fail)
    refine hK.out _ _ (by(try dsimp only);go_keep) ?_;clear hK K hHeld;intro hHeld
    try simp only[Act.put,s1,s2,s3]
    clear x0 x1 x2 x3 x4 x5 y0 y1 z0 z1;refine rd [6,7] (rc (fun K hK=>?_) (rc (fun K hK=>?_) .nil))
    ·go_simp;have vH:=zD w2 (.cells Tryz.zeroCells85 85);have fE:Below W3.heap.size W3 (w2.alloc (.cells Tryz.zeroCells85 85)):=zA pC vH;have bH:Blk (w2.alloc (.cells Tryz.zeroCells85 85)) w2.heap.size Tryz.zeroCells85:=heap_alloc_new _ _;obtain⟨x0,x1,x2,x3,x4,x5⟩:=(HX.out.zbd fE).c;obtain⟨⟨y0,-⟩,⟨y1,-⟩⟩:=HY.out.zbd fE;obtain⟨⟨z0,-⟩,⟨z1,-⟩⟩:=HZ.out.zbd fE
     (try go_wp2_with fail)
     refine hK.out _ _ (by(try dsimp only);go_keep) ?_;clear hK K hHeld;intro hHeld
     try simp only[Act.put,s1,s2,s3]
     clear x0 x1 x2 x3 x4 x5 y0 y1 z0 z1;generalize w2.alloc (.cells Tryz.zeroCells85 85)=w3 at fE bH hHeld vH ⊢;refine rd [7] (rc (fun K hK=>?_) .nil);go_simp;have pG:=zD w3 (.cells Tryz.zeroCells85 85);have jE:Below W3.heap.size W3 (w3.alloc (.cells Tryz.zeroCells85 85)):=zA fE pG;have gI:Blk (w3.alloc (.cells Tryz.zeroCells85 85)) w3.heap.size Tryz.zeroCells85:=heap_alloc_new _ _;have eA:w2.heap.size≠w3.heap.size:=(by have:=bH.lt;omega);have dH:=bH.zbd pG;obtain⟨x0,x1,x2,x3,x4,x5⟩:=(HX.out.zbd jE).c;obtain⟨⟨y0,-⟩,⟨y1,-⟩⟩:=HY.out.zbd jE;obtain⟨⟨z0,-⟩,⟨z1,-⟩⟩:=HZ.out.zbd jE
     (try go_wp2_with fail)
     refine hK.out _ _ (by(try dsimp only);go_keep) ?_;clear hK K hHeld;intro hHeld
     try simp only[Act.put,s1,s2,s3]
     clear x0 x1 x2 x3 x4 x5 y0 y1 z0 z1;generalize w3.alloc (.cells Tryz.zeroCells85 85)=w4 at jE gI dH hHeld pG ⊢;have dA:=zw _ _ cA _ dH qt hA.out.size hA.out.one;have p1:=Blk.setRow cA dH;have p2:=Blk.zbe cA gI (Ne.symm eA);have aA:=below_setRow (g:=w2.heap.size) jE (by have:=pC.size;omega) cA;obtain⟨x0,x1,x2,x3,x4,x5⟩:=(HX.out.zbd aA).c;obtain⟨⟨y0,-⟩,⟨y1,-⟩⟩:=HY.out.zbd aA;obtain⟨⟨z0,-⟩,⟨z1,-⟩⟩:=HZ.out.zbd aA;refine rd [8] (rc (fun K hK=>?_) .nil);go_simp
     (try go_wp2_with fail)
     refine hK.out _ _ (by(try dsimp only);go_keep) ?_;clear hK K hHeld;intro hHeld
     try simp only[Act.put,s1,s2,s3]
     clear dA;clear x0 x1 x2 x3 x4 x5 y0 y1 z0 z1;have dA:=zw _ _ cB _ p2 qt hB.out.size hB.out.one;have p3:=Blk.zbe cB p1 eA;have p4:=Blk.setRow cB p2;have bA:=below_setRow (g:=w3.heap.size) aA (by have:=fE.size;omega) cB;obtain⟨x0,x1,x2,x3,x4,x5⟩:=(HX.out.zbd bA).c;obtain⟨⟨y0,-⟩,⟨y1,-⟩⟩:=HY.out.zbd bA;obtain⟨⟨z0,-⟩,⟨z1,-⟩⟩:=HZ.out.zbd bA;refine rd [9] (rc (fun K hK=>?_) .nil);go_simp
     (try go_wp2_with fail)
     refine hK.out _ _ (by(try dsimp only);go_keep) ?_;clear hK K hHeld;intro hHeld
     try simp only[Act.put,s1,s2,s3]
     refine wpAnyH_done (by kernel_rfl) ?_ _;go_wp2_with fail
     go_meet
     case rel=>exact⟨_,_,rfl,rfl,hA.out.pg p3,hB.out.pg p4,zA hb bA⟩
    ·go_simp;have aI:=zD w2 (.cells Tryz.zeroCells85 85);have gE:Below W3.heap.size W3 (w2.alloc (.cells Tryz.zeroCells85 85)):=zA pC aI;have pH:Blk (w2.alloc (.cells Tryz.zeroCells85 85)) w2.heap.size Tryz.zeroCells85:=heap_alloc_new _ _;obtain⟨x0,x1,x2,x3,x4,x5⟩:=(HX.out.zbd gE).c;obtain⟨⟨y0,-⟩,⟨y1,-⟩⟩:=HY.out.zbd gE;obtain⟨⟨z0,-⟩,⟨z1,-⟩⟩:=HZ.out.zbd gE
     (try go_wp2_with fail)
     refine hK.out _ _ (by(try dsimp only);go_keep) ?_;clear hK K hHeld;intro hHeld
     try simp only[Act.put,s1,s2,s3]
     clear x0 x1 x2 x3 x4 x5 y0 y1 z0 z1;generalize w2.alloc (.cells Tryz.zeroCells85 85)=w5 at gE pH hHeld aI ⊢;refine rd [6] (rc (fun K hK=>?_) .nil);go_simp;have rG:=zD w5 (.cells Tryz.zeroCells85 85);have kE:Below W3.heap.size W3 (w5.alloc (.cells Tryz.zeroCells85 85)):=zA gE rG;have eH:Blk (w5.alloc (.cells Tryz.zeroCells85 85)) w5.heap.size Tryz.zeroCells85:=heap_alloc_new _ _;have eA:w5.heap.size≠w2.heap.size:=(by have:=pH.lt;omega);have iI:=pH.zbd rG;obtain⟨x0,x1,x2,x3,x4,x5⟩:=(HX.out.zbd kE).c;obtain⟨⟨y0,-⟩,⟨y1,-⟩⟩:=HY.out.zbd kE;obtain⟨⟨z0,-⟩,⟨z1,-⟩⟩:=HZ.out.zbd kE
     (try go_wp2_with fail)
     refine hK.out _ _ (by(try dsimp only);go_keep) ?_;clear hK K hHeld;intro hHeld
     try simp only[Act.put,s1,s2,s3]
     clear x0 x1 x2 x3 x4 x5 y0 y1 z0 z1;generalize w5.alloc (.cells Tryz.zeroCells85 85)=w6 at kE eH iI hHeld rG ⊢;have dA:=zw _ _ cA _ eH qt hA.out.size hA.out.one;have p1:=Blk.setRow cA eH;have p2:=Blk.zbe cA iI (Ne.symm eA);have aA:=below_setRow (g:=w5.heap.size) kE (by have:=gE.size;omega) cA;obtain⟨x0,x1,x2,x3,x4,x5⟩:=(HX.out.zbd aA).c;obtain⟨⟨y0,-⟩,⟨y1,-⟩⟩:=HY.out.zbd aA;obtain⟨⟨z0,-⟩,⟨z1,-⟩⟩:=HZ.out.zbd aA;refine rd [8] (rc (fun K hK=>?_) .nil);go_simp
     (try go_wp2_with fail)
     refine hK.out _ _ (by(try dsimp only);go_keep) ?_;clear hK K hHeld;intro hHeld
     try simp only[Act.put,s1,s2,s3]
     clear dA;clear x0 x1 x2 x3 x4 x5 y0 y1 z0 z1;have dA:=zw _ _ cB _ p2 qt hB.out.size hB.out.one;have p3:=Blk.zbe cB p1 eA;have p4:=Blk.setRow cB p2;have bA:=below_setRow (g:=w2.heap.size) aA (by have:=pC.size;omega) cB;obtain⟨x0,x1,x2,x3,x4,x5⟩:=(HX.out.zbd bA).c;obtain⟨⟨y0,-⟩,⟨y1,-⟩⟩:=HY.out.zbd bA;obtain⟨⟨z0,-⟩,⟨z1,-⟩⟩:=HZ.out.zbd bA;refine rd [9] (rc (fun K hK=>?_) .nil);go_simp
     (try go_wp2_with fail)
     refine hK.out _ _ (by(try dsimp only);go_keep) ?_;clear hK K hHeld;intro hHeld
     try simp only[Act.put,s1,s2,s3]
     refine wpAnyH_done (by kernel_rfl) ?_ _;go_wp2_with fail
     go_meet
     case rel=>exact⟨_,_,rfl,rfl,hA.out.pg p3,hB.out.pg p4,zA hb bA⟩
   ·go_simp;have bI:=zD w1 (.cells Tryz.zeroCells85 85);have eC:Below W3.heap.size W3 (w1.alloc (.cells Tryz.zeroCells85 85)):=zA iB bI;have kG:Blk (w1.alloc (.cells Tryz.zeroCells85 85)) w1.heap.size Tryz.zeroCells85:=heap_alloc_new _ _;obtain⟨x0,x1,x2,x3,x4,x5⟩:=(HX.out.zbd eC).c;obtain⟨⟨y0,-⟩,⟨y1,-⟩⟩:=HY.out.zbd eC;obtain⟨⟨z0,-⟩,⟨z1,-⟩⟩:=HZ.out.zbd eC
    (try go_wp2_with fail)
    refine hK.out _ _ (by(try dsimp only);go_keep) ?_;clear hK K hHeld;intro hHeld
    try simp only[Act.put,s1,s2,s3]
    clear x0 x1 x2 x3 x4 x5 y0 y1 z0 z1;generalize w1.alloc (.cells Tryz.zeroCells85 85)=w7 at eC kG hHeld bI ⊢;refine rd [5,7] (rc (fun K hK=>?_) (rc (fun K hK=>?_) .nil))
    ·go_simp;go_at_call 59;refine(yg v0 v1 v2 v3 lo hi W _ _ _ ((Hp.out.zbd hb).zbd eC) (by have:=hb.size;have:=eC.size;omega) HR.out jB.out).mono ?_;rintro e w8 ⟨rfl,cI⟩;rw[<-hB.out.eq];have lE:Below W3.heap.size W3 w8:=zA eC cI;have fI:=kG.zbd cI;obtain⟨x0,x1,x2,x3,x4,x5⟩:=(HX.out.zbd lE).c;obtain⟨⟨y0,-⟩,⟨y1,-⟩⟩:=HY.out.zbd lE;obtain⟨⟨z0,-⟩,⟨z1,-⟩⟩:=HZ.out.zbd lE
     (try go_wp2_with fail)
     refine hK.out _ _ (by(try dsimp only);go_keep) ?_;clear hK K hHeld;intro hHeld
     try simp only[Act.put,s1,s2,s3]
     clear x0 x1 x2 x3 x4 x5 y0 y1 z0 z1;refine rd [7] (rc (fun K hK=>?_) .nil);go_simp;have sG:=zD w8 (.cells Tryz.zeroCells85 85);have mE:Below W3.heap.size W3 (w8.alloc (.cells Tryz.zeroCells85 85)):=zA lE sG;have jI:Blk (w8.alloc (.cells Tryz.zeroCells85 85)) w8.heap.size Tryz.zeroCells85:=heap_alloc_new _ _;have eA:w1.heap.size≠w8.heap.size:=(by have:=fI.lt;omega);have fH:=fI.zbd sG;obtain⟨x0,x1,x2,x3,x4,x5⟩:=(HX.out.zbd mE).c;obtain⟨⟨y0,-⟩,⟨y1,-⟩⟩:=HY.out.zbd mE;obtain⟨⟨z0,-⟩,⟨z1,-⟩⟩:=HZ.out.zbd mE
     (try go_wp2_with fail)
     refine hK.out _ _ (by(try dsimp only);go_keep) ?_;clear hK K hHeld;intro hHeld
     try simp only[Act.put,s1,s2,s3]
     clear x0 x1 x2 x3 x4 x5 y0 y1 z0 z1;generalize w8.alloc (.cells Tryz.zeroCells85 85)=w9 at mE jI fH hHeld sG ⊢;have dA:=zw _ _ cA _ fH qt hA.out.size hA.out.one;have p1:=Blk.setRow cA fH;have p2:=Blk.zbe cA jI (Ne.symm eA);have aA:=below_setRow (g:=w1.heap.size) mE (by have:=iB.size;omega) cA;obtain⟨x0,x1,x2,x3,x4,x5⟩:=(HX.out.zbd aA).c;obtain⟨⟨y0,-⟩,⟨y1,-⟩⟩:=HY.out.zbd aA;obtain⟨⟨z0,-⟩,⟨z1,-⟩⟩:=HZ.out.zbd aA;refine rd [8] (rc (fun K hK=>?_) .nil);go_simp
     (try go_wp2_with fail)
     refine hK.out _ _ (by(try dsimp only);go_keep) ?_;clear hK K hHeld;intro hHeld
     try simp only[Act.put,s1,s2,s3]
     clear dA;clear x0 x1 x2 x3 x4 x5 y0 y1 z0 z1;have dA:=zw _ _ cB _ p2 qt hB.out.size hB.out.one;have p3:=Blk.zbe cB p1 eA;have p4:=Blk.setRow cB p2;have bA:=below_setRow (g:=w8.heap.size) aA (by have:=lE.size;omega) cB;obtain⟨x0,x1,x2,x3,x4,x5⟩:=(HX.out.zbd bA).c;obtain⟨⟨y0,-⟩,⟨y1,-⟩⟩:=HY.out.zbd bA;obtain⟨⟨z0,-⟩,⟨z1,-⟩⟩:=HZ.out.zbd bA;refine rd [9] (rc (fun K hK=>?_) .nil);go_simp
     (try go_wp2_with fail)
     refine hK.out _ _ (by(try dsimp only);go_keep) ?_;clear hK K hHeld;intro hHeld
     try simp only[Act.put,s1,s2,s3]
     refine wpAnyH_done (by kernel_rfl) ?_ _;go_wp2_with fail
     go_meet
     case rel=>exact⟨_,_,rfl,rfl,hA.out.pg p3,hB.out.pg p4,zA hb bA⟩
    ·go_simp;have tC:=zD w7 (.cells Tryz.zeroCells85 85);have nA:Below W3.heap.size W3 (w7.alloc (.cells Tryz.zeroCells85 85)):=zA eC tC;have rF:Blk (w7.alloc (.cells Tryz.zeroCells85 85)) w7.heap.size Tryz.zeroCells85:=heap_alloc_new _ _;have eA:w1.heap.size≠w7.heap.size:=(by have:=kG.lt;omega);have cF:=kG.zbd tC;obtain⟨x0,x1,x2,x3,x4,x5⟩:=(HX.out.zbd nA).c;obtain⟨⟨y0,-⟩,⟨y1,-⟩⟩:=HY.out.zbd nA;obtain⟨⟨z0,-⟩,⟨z1,-⟩⟩:=HZ.out.zbd nA
     (try go_wp2_with fail)
     refine hK.out _ _ (by(try dsimp only);go_keep) ?_;clear hK K hHeld;intro hHeld
     try simp only[Act.put,s1,s2,s3]
     clear x0 x1 x2 x3 x4 x5 y0 y1 z0 z1;generalize w7.alloc (.cells Tryz.zeroCells85 85)=w10 at nA rF cF hHeld tC ⊢;refine rd [5] (rc (fun K hK=>?_) .nil);go_simp;go_at_call 59;refine(yg v0 v1 v2 v3 lo hi W _ _ _ ((Hp.out.zbd hb).zbd nA) (by have:=hb.size;have:=nA.size;omega) HR.out jB.out).mono ?_;rintro e vI ⟨rfl,vC⟩;rw[<-hB.out.eq];have tB:Below W3.heap.size W3 vI:=zA nA vC;have dF:=cF.zbd vC;have gH:=rF.zbd vC;obtain⟨x0,x1,x2,x3,x4,x5⟩:=(HX.out.zbd tB).c;obtain⟨⟨y0,-⟩,⟨y1,-⟩⟩:=HY.out.zbd tB;obtain⟨⟨z0,-⟩,⟨z1,-⟩⟩:=HZ.out.zbd tB
     (try go_wp2_with fail)
     refine hK.out _ _ (by(try dsimp only);go_keep) ?_;clear hK K hHeld;intro hHeld
     try simp only[Act.put,s1,s2,s3]
     clear x0 x1 x2 x3 x4 x5 y0 y1 z0 z1;have dA:=zw _ _ cA _ dF qt hA.out.size hA.out.one;have p1:=Blk.setRow cA dF;have p2:=Blk.zbe cA gH (Ne.symm eA);have aA:=below_setRow (g:=w1.heap.size) tB (by have:=iB.size;omega) cA;obtain⟨x0,x1,x2,x3,x4,x5⟩:=(HX.out.zbd aA).c;obtain⟨⟨y0,-⟩,⟨y1,-⟩⟩:=HY.out.zbd aA;obtain⟨⟨z0,-⟩,⟨z1,-⟩⟩:=HZ.out.zbd aA;refine rd [8] (rc (fun K hK=>?_) .nil);go_simp
     (try go_wp2_with fail)
     refine hK.out _ _ (by(try dsimp only);go_keep) ?_;clear hK K hHeld;intro hHeld
     try simp only[Act.put,s1,s2,s3]
     clear dA;clear x0 x1 x2 x3 x4 x5 y0 y1 z0 z1;have dA:=zw _ _ cB _ p2 qt hB.out.size hB.out.one;have p3:=Blk.zbe cB p1 eA;have p4:=Blk.setRow cB p2;have bA:=below_setRow (g:=w7.heap.size) aA (by have:=eC.size;omega) cB;obtain⟨x0,x1,x2,x3,x4,x5⟩:=(HX.out.zbd bA).c;obtain⟨⟨y0,-⟩,⟨y1,-⟩⟩:=HY.out.zbd bA;obtain⟨⟨z0,-⟩,⟨z1,-⟩⟩:=HZ.out.zbd bA;refine rd [9] (rc (fun K hK=>?_) .nil);go_simp
     (try go_wp2_with fail)
     refine hK.out _ _ (by(try dsimp only);go_keep) ?_;clear hK K hHeld;intro hHeld
     try simp only[Act.put,s1,s2,s3]
     refine wpAnyH_done (by kernel_rfl) ?_ _;go_wp2_with fail
     go_meet
     case rel=>exact⟨_,_,rfl,rfl,hA.out.pg p3,hB.out.pg p4,zA hb bA⟩
   ·go_simp;have nE:=zD w1 (.cells Tryz.zeroCells85 85);have gA:Below W3.heap.size W3 (w1.alloc (.cells Tryz.zeroCells85 85)):=zA iB nE;have iC:Blk (w1.alloc (.cells Tryz.zeroCells85 85)) w1.heap.size Tryz.zeroCells85:=heap_alloc_new _ _;obtain⟨x0,x1,x2,x3,x4,x5⟩:=(HX.out.zbd gA).c;obtain⟨⟨y0,-⟩,⟨y1,-⟩⟩:=HY.out.zbd gA;obtain⟨⟨z0,-⟩,⟨z1,-⟩⟩:=HZ.out.zbd gA
    (try go_wp2_with fail)
    refine hK.out _ _ (by(try dsimp only);go_keep) ?_;clear hK K hHeld;intro hHeld
    try simp only[Act.put,s1,s2,s3]
    clear x0 x1 x2 x3 x4 x5 y0 y1 z0 z1;generalize w1.alloc (.cells Tryz.zeroCells85 85)=bE at gA iC hHeld nE ⊢;refine rd [5,6] (rc (fun K hK=>?_) (rc (fun K hK=>?_) .nil))
    ·go_simp;go_at_call 59;refine(yg v0 v1 v2 v3 lo hi W _ _ _ ((Hp.out.zbd hb).zbd gA) (by have:=hb.size;have:=gA.size;omega) HR.out jB.out).mono ?_;rintro e kC ⟨rfl,oE⟩;rw[<-hB.out.eq];have kB:Below W3.heap.size W3 kC:=zA gA oE;have sF:=iC.zbd oE;obtain⟨x0,x1,x2,x3,x4,x5⟩:=(HX.out.zbd kB).c;obtain⟨⟨y0,-⟩,⟨y1,-⟩⟩:=HY.out.zbd kB;obtain⟨⟨z0,-⟩,⟨z1,-⟩⟩:=HZ.out.zbd kB
     (try go_wp2_with fail)
     refine hK.out _ _ (by(try dsimp only);go_keep) ?_;clear hK K hHeld;intro hHeld
     try simp only[Act.put,s1,s2,s3]
     clear x0 x1 x2 x3 x4 x5 y0 y1 z0 z1;refine rd [6] (rc (fun K hK=>?_) .nil);go_simp;have aD:=zD kC (.cells Tryz.zeroCells85 85);have lB:Below W3.heap.size W3 (kC.alloc (.cells Tryz.zeroCells85 85)):=zA kB aD;have rD:Blk (kC.alloc (.cells Tryz.zeroCells85 85)) kC.heap.size Tryz.zeroCells85:=heap_alloc_new _ _;have eA:kC.heap.size≠w1.heap.size:=(by have:=sF.lt;omega);have tF:=sF.zbd aD;obtain⟨x0,x1,x2,x3,x4,x5⟩:=(HX.out.zbd lB).c;obtain⟨⟨y0,-⟩,⟨y1,-⟩⟩:=HY.out.zbd lB;obtain⟨⟨z0,-⟩,⟨z1,-⟩⟩:=HZ.out.zbd lB
     (try go_wp2_with fail)
     refine hK.out _ _ (by(try dsimp only);go_keep) ?_;clear hK K hHeld;intro hHeld
     try simp only[Act.put,s1,s2,s3]
     clear x0 x1 x2 x3 x4 x5 y0 y1 z0 z1;generalize kC.alloc (.cells Tryz.zeroCells85 85)=w14 at lB rD tF hHeld aD ⊢;have dA:=zw _ _ cA _ rD qt hA.out.size hA.out.one;have p1:=Blk.setRow cA rD;have p2:=Blk.zbe cA tF (Ne.symm eA);have aA:=below_setRow (g:=kC.heap.size) lB (by have:=kB.size;omega) cA;obtain⟨x0,x1,x2,x3,x4,x5⟩:=(HX.out.zbd aA).c;obtain⟨⟨y0,-⟩,⟨y1,-⟩⟩:=HY.out.zbd aA;obtain⟨⟨z0,-⟩,⟨z1,-⟩⟩:=HZ.out.zbd aA;refine rd [8] (rc (fun K hK=>?_) .nil);go_simp
     (try go_wp2_with fail)
     refine hK.out _ _ (by(try dsimp only);go_keep) ?_;clear hK K hHeld;intro hHeld
     try simp only[Act.put,s1,s2,s3]
     clear dA;clear x0 x1 x2 x3 x4 x5 y0 y1 z0 z1;have dA:=zw _ _ cB _ p2 qt hB.out.size hB.out.one;have p3:=Blk.zbe cB p1 eA;have p4:=Blk.setRow cB p2;have bA:=below_setRow (g:=w1.heap.size) aA (by have:=iB.size;omega) cB;obtain⟨x0,x1,x2,x3,x4,x5⟩:=(HX.out.zbd bA).c;obtain⟨⟨y0,-⟩,⟨y1,-⟩⟩:=HY.out.zbd bA;obtain⟨⟨z0,-⟩,⟨z1,-⟩⟩:=HZ.out.zbd bA;refine rd [9] (rc (fun K hK=>?_) .nil);go_simp
     (try go_wp2_with fail)
     refine hK.out _ _ (by(try dsimp only);go_keep) ?_;clear hK K hHeld;intro hHeld
     try simp only[Act.put,s1,s2,s3]
     refine wpAnyH_done (by kernel_rfl) ?_ _;go_wp2_with fail
     go_meet
     case rel=>exact⟨_,_,rfl,rfl,hA.out.pg p3,hB.out.pg p4,zA hb bA⟩
    ·go_simp;have bD:=zD bE (.cells Tryz.zeroCells85 85);have oA:Below W3.heap.size W3 (bE.alloc (.cells Tryz.zeroCells85 85)):=zA gA bD;have eF:Blk (bE.alloc (.cells Tryz.zeroCells85 85)) bE.heap.size Tryz.zeroCells85:=heap_alloc_new _ _;have eA:bE.heap.size≠w1.heap.size:=(by have:=iC.lt;omega);have vF:=iC.zbd bD;obtain⟨x0,x1,x2,x3,x4,x5⟩:=(HX.out.zbd oA).c;obtain⟨⟨y0,-⟩,⟨y1,-⟩⟩:=HY.out.zbd oA;obtain⟨⟨z0,-⟩,⟨z1,-⟩⟩:=HZ.out.zbd oA
     (try go_wp2_with fail)
     refine hK.out _ _ (by(try dsimp only);go_keep) ?_;clear hK K hHeld;intro hHeld
     try simp only[Act.put,s1,s2,s3]
     clear x0 x1 x2 x3 x4 x5 y0 y1 z0 z1;generalize bE.alloc (.cells Tryz.zeroCells85 85)=w15 at oA eF vF hHeld bD ⊢;refine rd [5] (rc (fun K hK=>?_) .nil);go_simp;go_at_call 59;refine(yg v0 v1 v2 v3 lo hi W _ _ _ ((Hp.out.zbd hb).zbd oA) (by have:=hb.size;have:=oA.size;omega) HR.out jB.out).mono ?_;rintro e aJ ⟨rfl,cD⟩;rw[<-hB.out.eq];have vB:Below W3.heap.size W3 aJ:=zA oA cD;have fF:=eF.zbd cD;have iH:=vF.zbd cD;obtain⟨x0,x1,x2,x3,x4,x5⟩:=(HX.out.zbd vB).c;obtain⟨⟨y0,-⟩,⟨y1,-⟩⟩:=HY.out.zbd vB;obtain⟨⟨z0,-⟩,⟨z1,-⟩⟩:=HZ.out.zbd vB
     (try go_wp2_with fail)
     refine hK.out _ _ (by(try dsimp only);go_keep) ?_;clear hK K hHeld;intro hHeld
     try simp only[Act.put,s1,s2,s3]
     clear x0 x1 x2 x3 x4 x5 y0 y1 z0 z1;have dA:=zw _ _ cA _ fF qt hA.out.size hA.out.one;have p1:=Blk.setRow cA fF;have p2:=Blk.zbe cA iH (Ne.symm eA);have aA:=below_setRow (g:=bE.heap.size) vB (by have:=gA.size;omega) cA;obtain⟨x0,x1,x2,x3,x4,x5⟩:=(HX.out.zbd aA).c;obtain⟨⟨y0,-⟩,⟨y1,-⟩⟩:=HY.out.zbd aA;obtain⟨⟨z0,-⟩,⟨z1,-⟩⟩:=HZ.out.zbd aA;refine rd [8] (rc (fun K hK=>?_) .nil);go_simp
     (try go_wp2_with fail)
     refine hK.out _ _ (by(try dsimp only);go_keep) ?_;clear hK K hHeld;intro hHeld
     try simp only[Act.put,s1,s2,s3]
     clear dA;clear x0 x1 x2 x3 x4 x5 y0 y1 z0 z1;have dA:=zw _ _ cB _ p2 qt hB.out.size hB.out.one;have p3:=Blk.zbe cB p1 eA;have p4:=Blk.setRow cB p2;have bA:=below_setRow (g:=w1.heap.size) aA (by have:=iB.size;omega) cB;obtain⟨x0,x1,x2,x3,x4,x5⟩:=(HX.out.zbd bA).c;obtain⟨⟨y0,-⟩,⟨y1,-⟩⟩:=HY.out.zbd bA;obtain⟨⟨z0,-⟩,⟨z1,-⟩⟩:=HZ.out.zbd bA;refine rd [9] (rc (fun K hK=>?_) .nil);go_simp
     (try go_wp2_with fail)
     refine hK.out _ _ (by(try dsimp only);go_keep) ?_;clear hK K hHeld;intro hHeld
     try simp only[Act.put,s1,s2,s3]
     refine wpAnyH_done (by kernel_rfl) ?_ _;go_wp2_with fail
     go_meet
     case rel=>exact⟨_,_,rfl,rfl,hA.out.pg p3,hB.out.pg p4,zA hb bA⟩
  ·go_simp;have pE:=zD w0 (.cells Tryz.zeroCells85 85);have iA:Below W3.heap.size W3 (w0.alloc (.cells Tryz.zeroCells85 85)):=zA gB pE;have fC:Blk (w0.alloc (.cells Tryz.zeroCells85 85)) w0.heap.size Tryz.zeroCells85:=heap_alloc_new _ _;obtain⟨x0,x1,x2,x3,x4,x5⟩:=(HX.out.zbd iA).c;obtain⟨⟨y0,-⟩,⟨y1,-⟩⟩:=HY.out.zbd iA;obtain⟨⟨z0,-⟩,⟨z1,-⟩⟩:=HZ.out.zbd iA
   (try go_wp2_with fail)
   refine hK.out _ _ (by(try dsimp only);go_keep) ?_;clear hK K hHeld;intro hHeld
   try simp only[Act.put,s1,s2,s3]
   clear x0 x1 x2 x3 x4 x5 y0 y1 z0 z1;generalize w0.alloc (.cells Tryz.zeroCells85 85)=cE at iA fC hHeld pE ⊢;refine rd [2,7] (rc (fun K hK=>?_) (rc (fun K hK=>?_) .nil))
   ·go_simp;go_at_call 59;refine(yg v0 v1 v2 v3 lo hi W _ _ _ ((Hp.out.zbd hb).zbd iA) (by have:=hb.size;have:=iA.size;omega) HR.out HT.out).mono ?_;rintro e lC ⟨rfl,rE⟩;rw[<-hA.out.eq];have lA:Below W3.heap.size W3 lC:=zA iA rE;have sD:=fC.zbd rE;obtain⟨x0,x1,x2,x3,x4,x5⟩:=(HX.out.zbd lA).c;obtain⟨⟨y0,-⟩,⟨y1,-⟩⟩:=HY.out.zbd lA;obtain⟨⟨z0,-⟩,⟨z1,-⟩⟩:=HZ.out.zbd lA
    (try go_wp2_with fail)
    refine hK.out _ _ (by(try dsimp only);go_keep) ?_;clear hK K hHeld;intro hHeld
    try simp only[Act.put,s1,s2,s3]
    clear x0 x1 x2 x3 x4 x5 y0 y1 z0 z1;refine rd [5,7] (rc (fun K hK=>?_) (rc (fun K hK=>?_) .nil))
    ·go_simp;go_at_call 59;refine(yg v0 v1 v2 v3 lo hi W _ _ _ ((Hp.out.zbd hb).zbd lA) (by have:=hb.size;have:=lA.size;omega) HR.out jB.out).mono ?_;rintro e mC ⟨rfl,sE⟩;rw[<-hB.out.eq];have mB:Below W3.heap.size W3 mC:=zA lA sE;have gF:=sD.zbd sE;obtain⟨x0,x1,x2,x3,x4,x5⟩:=(HX.out.zbd mB).c;obtain⟨⟨y0,-⟩,⟨y1,-⟩⟩:=HY.out.zbd mB;obtain⟨⟨z0,-⟩,⟨z1,-⟩⟩:=HZ.out.zbd mB
     (try go_wp2_with fail)
     refine hK.out _ _ (by(try dsimp only);go_keep) ?_;clear hK K hHeld;intro hHeld
     try simp only[Act.put,s1,s2,s3]
     clear x0 x1 x2 x3 x4 x5 y0 y1 z0 z1;refine rd [7] (rc (fun K hK=>?_) .nil);go_simp;have dD:=zD mC (.cells Tryz.zeroCells85 85);have nB:Below W3.heap.size W3 (mC.alloc (.cells Tryz.zeroCells85 85)):=zA mB dD;have aG:Blk (mC.alloc (.cells Tryz.zeroCells85 85)) mC.heap.size Tryz.zeroCells85:=heap_alloc_new _ _;have eA:w0.heap.size≠mC.heap.size:=(by have:=gF.lt;omega);have tD:=gF.zbd dD;obtain⟨x0,x1,x2,x3,x4,x5⟩:=(HX.out.zbd nB).c;obtain⟨⟨y0,-⟩,⟨y1,-⟩⟩:=HY.out.zbd nB;obtain⟨⟨z0,-⟩,⟨z1,-⟩⟩:=HZ.out.zbd nB
     (try go_wp2_with fail)
     refine hK.out _ _ (by(try dsimp only);go_keep) ?_;clear hK K hHeld;intro hHeld
     try simp only[Act.put,s1,s2,s3]
     clear x0 x1 x2 x3 x4 x5 y0 y1 z0 z1;generalize mC.alloc (.cells Tryz.zeroCells85 85)=w20 at nB aG tD hHeld dD ⊢;have dA:=zw _ _ cA _ tD qt hA.out.size hA.out.one;have p1:=Blk.setRow cA tD;have p2:=Blk.zbe cA aG (Ne.symm eA);have aA:=below_setRow (g:=w0.heap.size) nB (by have:=gB.size;omega) cA;obtain⟨x0,x1,x2,x3,x4,x5⟩:=(HX.out.zbd aA).c;obtain⟨⟨y0,-⟩,⟨y1,-⟩⟩:=HY.out.zbd aA;obtain⟨⟨z0,-⟩,⟨z1,-⟩⟩:=HZ.out.zbd aA;refine rd [8] (rc (fun K hK=>?_) .nil);go_simp
     (try go_wp2_with fail)
     refine hK.out _ _ (by(try dsimp only);go_keep) ?_;clear hK K hHeld;intro hHeld
     try simp only[Act.put,s1,s2,s3]
     clear dA;clear x0 x1 x2 x3 x4 x5 y0 y1 z0 z1;have dA:=zw _ _ cB _ p2 qt hB.out.size hB.out.one;have p3:=Blk.zbe cB p1 eA;have p4:=Blk.setRow cB p2;have bA:=below_setRow (g:=mC.heap.size) aA (by have:=mB.size;omega) cB;obtain⟨x0,x1,x2,x3,x4,x5⟩:=(HX.out.zbd bA).c;obtain⟨⟨y0,-⟩,⟨y1,-⟩⟩:=HY.out.zbd bA;obtain⟨⟨z0,-⟩,⟨z1,-⟩⟩:=HZ.out.zbd bA;refine rd [9] (rc (fun K hK=>?_) .nil);go_simp
     (try go_wp2_with fail)
     refine hK.out _ _ (by(try dsimp only);go_keep) ?_;clear hK K hHeld;intro hHeld
     try simp only[Act.put,s1,s2,s3]
     refine wpAnyH_done (by kernel_rfl) ?_ _;go_wp2_with fail
     go_meet
     case rel=>exact⟨_,_,rfl,rfl,hA.out.pg p3,hB.out.pg p4,zA hb bA⟩
    ·go_simp;have eD:=zD lC (.cells Tryz.zeroCells85 85);have pA:Below W3.heap.size W3 (lC.alloc (.cells Tryz.zeroCells85 85)):=zA lA eD;have bG:Blk (lC.alloc (.cells Tryz.zeroCells85 85)) lC.heap.size Tryz.zeroCells85:=heap_alloc_new _ _;have eA:w0.heap.size≠lC.heap.size:=(by have:=sD.lt;omega);have iF:=sD.zbd eD;obtain⟨x0,x1,x2,x3,x4,x5⟩:=(HX.out.zbd pA).c;obtain⟨⟨y0,-⟩,⟨y1,-⟩⟩:=HY.out.zbd pA;obtain⟨⟨z0,-⟩,⟨z1,-⟩⟩:=HZ.out.zbd pA
     (try go_wp2_with fail)
     refine hK.out _ _ (by(try dsimp only);go_keep) ?_;clear hK K hHeld;intro hHeld
     try simp only[Act.put,s1,s2,s3]
     clear x0 x1 x2 x3 x4 x5 y0 y1 z0 z1;generalize lC.alloc (.cells Tryz.zeroCells85 85)=w21 at pA bG iF hHeld eD ⊢;refine rd [5] (rc (fun K hK=>?_) .nil);go_simp;go_at_call 59;refine(yg v0 v1 v2 v3 lo hi W _ _ _ ((Hp.out.zbd hb).zbd pA) (by have:=hb.size;have:=pA.size;omega) HR.out jB.out).mono ?_;rintro e bJ ⟨rfl,fD⟩;rw[<-hB.out.eq];have aC:Below W3.heap.size W3 bJ:=zA pA fD;have jF:=iF.zbd fD;have jH:=bG.zbd fD;obtain⟨x0,x1,x2,x3,x4,x5⟩:=(HX.out.zbd aC).c;obtain⟨⟨y0,-⟩,⟨y1,-⟩⟩:=HY.out.zbd aC;obtain⟨⟨z0,-⟩,⟨z1,-⟩⟩:=HZ.out.zbd aC
     (try go_wp2_with fail)
     refine hK.out _ _ (by(try dsimp only);go_keep) ?_;clear hK K hHeld;intro hHeld
     try simp only[Act.put,s1,s2,s3]
     clear x0 x1 x2 x3 x4 x5 y0 y1 z0 z1;have dA:=zw _ _ cA _ jF qt hA.out.size hA.out.one;have p1:=Blk.setRow cA jF;have p2:=Blk.zbe cA jH (Ne.symm eA);have aA:=below_setRow (g:=w0.heap.size) aC (by have:=gB.size;omega) cA;obtain⟨x0,x1,x2,x3,x4,x5⟩:=(HX.out.zbd aA).c;obtain⟨⟨y0,-⟩,⟨y1,-⟩⟩:=HY.out.zbd aA;obtain⟨⟨z0,-⟩,⟨z1,-⟩⟩:=HZ.out.zbd aA;refine rd [8] (rc (fun K hK=>?_) .nil);go_simp
     (try go_wp2_with fail)
     refine hK.out _ _ (by(try dsimp only);go_keep) ?_;clear hK K hHeld;intro hHeld
     try simp only[Act.put,s1,s2,s3]
     clear dA;clear x0 x1 x2 x3 x4 x5 y0 y1 z0 z1;have dA:=zw _ _ cB _ p2 qt hB.out.size hB.out.one;have p3:=Blk.zbe cB p1 eA;have p4:=Blk.setRow cB p2;have bA:=below_setRow (g:=lC.heap.size) aA (by have:=lA.size;omega) cB;obtain⟨x0,x1,x2,x3,x4,x5⟩:=(HX.out.zbd bA).c;obtain⟨⟨y0,-⟩,⟨y1,-⟩⟩:=HY.out.zbd bA;obtain⟨⟨z0,-⟩,⟨z1,-⟩⟩:=HZ.out.zbd bA;refine rd [9] (rc (fun K hK=>?_) .nil);go_simp
     (try go_wp2_with fail)
     refine hK.out _ _ (by(try dsimp only);go_keep) ?_;clear hK K hHeld;intro hHeld
     try simp only[Act.put,s1,s2,s3]
     refine wpAnyH_done (by kernel_rfl) ?_ _;go_wp2_with fail
     go_meet
     case rel=>exact⟨_,_,rfl,rfl,hA.out.pg p3,hB.out.pg p4,zA hb bA⟩
   ·go_simp;have gD:=zD cE (.cells Tryz.zeroCells85 85);have rA:Below W3.heap.size W3 (cE.alloc (.cells Tryz.zeroCells85 85)):=zA iA gD;have cG:Blk (cE.alloc (.cells Tryz.zeroCells85 85)) cE.heap.size Tryz.zeroCells85:=heap_alloc_new _ _;have eA:w0.heap.size≠cE.heap.size:=(by have:=fC.lt;omega);have kF:=fC.zbd gD;obtain⟨x0,x1,x2,x3,x4,x5⟩:=(HX.out.zbd rA).c;obtain⟨⟨y0,-⟩,⟨y1,-⟩⟩:=HY.out.zbd rA;obtain⟨⟨z0,-⟩,⟨z1,-⟩⟩:=HZ.out.zbd rA
    (try go_wp2_with fail)
    refine hK.out _ _ (by(try dsimp only);go_keep) ?_;clear hK K hHeld;intro hHeld
    try simp only[Act.put,s1,s2,s3]
    clear x0 x1 x2 x3 x4 x5 y0 y1 z0 z1;generalize cE.alloc (.cells Tryz.zeroCells85 85)=w23 at rA cG kF hHeld gD ⊢;refine rd [2] (rc (fun K hK=>?_) .nil);go_simp;go_at_call 59;refine(yg v0 v1 v2 v3 lo hi W _ _ _ ((Hp.out.zbd hb).zbd rA) (by have:=hb.size;have:=rA.size;omega) HR.out HT.out).mono ?_;rintro e cJ ⟨rfl,iD⟩;rw[<-hA.out.eq];have eB:Below W3.heap.size W3 cJ:=zA rA iD;have aH:=kF.zbd iD;have kH:=cG.zbd iD;obtain⟨x0,x1,x2,x3,x4,x5⟩:=(HX.out.zbd eB).c;obtain⟨⟨y0,-⟩,⟨y1,-⟩⟩:=HY.out.zbd eB;obtain⟨⟨z0,-⟩,⟨z1,-⟩⟩:=HZ.out.zbd eB
    (try go_wp2_with fail)
    refine hK.out _ _ (by(try dsimp only);go_keep) ?_;clear hK K hHeld;intro hHeld
    try simp only[Act.put,s1,s2,s3]
    clear x0 x1 x2 x3 x4 x5 y0 y1 z0 z1;refine rd [5] (rc (fun K hK=>?_) .nil);go_simp;go_at_call 59;refine(yg v0 v1 v2 v3 lo hi W _ _ _ ((Hp.out.zbd hb).zbd eB) (by have:=hb.size;have:=eB.size;omega) HR.out jB.out).mono ?_;rintro e dJ ⟨rfl,jD⟩;rw[<-hB.out.eq];have bC:Below W3.heap.size W3 dJ:=zA eB jD;have lF:=aH.zbd jD;have lH:=kH.zbd jD;obtain⟨x0,x1,x2,x3,x4,x5⟩:=(HX.out.zbd bC).c;obtain⟨⟨y0,-⟩,⟨y1,-⟩⟩:=HY.out.zbd bC;obtain⟨⟨z0,-⟩,⟨z1,-⟩⟩:=HZ.out.zbd bC
    (try go_wp2_with fail)
    refine hK.out _ _ (by(try dsimp only);go_keep) ?_;clear hK K hHeld;intro hHeld
    try simp only[Act.put,s1,s2,s3]
    clear x0 x1 x2 x3 x4 x5 y0 y1 z0 z1;have dA:=zw _ _ cA _ lF qt hA.out.size hA.out.one;have p1:=Blk.setRow cA lF;have p2:=Blk.zbe cA lH (Ne.symm eA);have aA:=below_setRow (g:=w0.heap.size) bC (by have:=gB.size;omega) cA;obtain⟨x0,x1,x2,x3,x4,x5⟩:=(HX.out.zbd aA).c;obtain⟨⟨y0,-⟩,⟨y1,-⟩⟩:=HY.out.zbd aA;obtain⟨⟨z0,-⟩,⟨z1,-⟩⟩:=HZ.out.zbd aA;refine rd [8] (rc (fun K hK=>?_) .nil);go_simp
    (try go_wp2_with fail)
    refine hK.out _ _ (by(try dsimp only);go_keep) ?_;clear hK K hHeld;intro hHeld
    try simp only[Act.put,s1,s2,s3]
    clear dA;clear x0 x1 x2 x3 x4 x5 y0 y1 z0 z1;have dA:=zw _ _ cB _ p2 qt hB.out.size hB.out.one;have p3:=Blk.zbe cB p1 eA;have p4:=Blk.setRow cB p2;have bA:=below_setRow (g:=cE.heap.size) aA (by have:=iA.size;omega) cB;obtain⟨x0,x1,x2,x3,x4,x5⟩:=(HX.out.zbd bA).c;obtain⟨⟨y0,-⟩,⟨y1,-⟩⟩:=HY.out.zbd bA;obtain⟨⟨z0,-⟩,⟨z1,-⟩⟩:=HZ.out.zbd bA;refine rd [9] (rc (fun K hK=>?_) .nil);go_simp
    (try go_wp2_with fail)
    refine hK.out _ _ (by(try dsimp only);go_keep) ?_;clear hK K hHeld;intro hHeld
    try simp only[Act.put,s1,s2,s3]
    refine wpAnyH_done (by kernel_rfl) ?_ _;go_wp2_with fail
    go_meet
    case rel=>exact⟨_,_,rfl,rfl,hA.out.pg p3,hB.out.pg p4,zA hb bA⟩
  ·go_simp;have tE:=zD w0 (.cells Tryz.zeroCells85 85);have jA:Below W3.heap.size W3 (w0.alloc (.cells Tryz.zeroCells85 85)):=zA gB tE;have jC:Blk (w0.alloc (.cells Tryz.zeroCells85 85)) w0.heap.size Tryz.zeroCells85:=heap_alloc_new _ _;obtain⟨x0,x1,x2,x3,x4,x5⟩:=(HX.out.zbd jA).c;obtain⟨⟨y0,-⟩,⟨y1,-⟩⟩:=HY.out.zbd jA;obtain⟨⟨z0,-⟩,⟨z1,-⟩⟩:=HZ.out.zbd jA
   (try go_wp2_with fail)
   refine hK.out _ _ (by(try dsimp only);go_keep) ?_;clear hK K hHeld;intro hHeld
   try simp only[Act.put,s1,s2,s3]
   clear x0 x1 x2 x3 x4 x5 y0 y1 z0 z1;generalize w0.alloc (.cells Tryz.zeroCells85 85)=dE at jA jC hHeld tE ⊢;refine rd [2,6] (rc (fun K hK=>?_) (rc (fun K hK=>?_) .nil))
   ·go_simp;go_at_call 59;refine(yg v0 v1 v2 v3 lo hi W _ _ _ ((Hp.out.zbd hb).zbd jA) (by have:=hb.size;have:=jA.size;omega) HR.out HT.out).mono ?_;rintro e nC ⟨rfl,vE⟩;rw[<-hA.out.eq];have mA:Below W3.heap.size W3 nC:=zA jA vE;have aE:=jC.zbd vE;obtain⟨x0,x1,x2,x3,x4,x5⟩:=(HX.out.zbd mA).c;obtain⟨⟨y0,-⟩,⟨y1,-⟩⟩:=HY.out.zbd mA;obtain⟨⟨z0,-⟩,⟨z1,-⟩⟩:=HZ.out.zbd mA
    (try go_wp2_with fail)
    refine hK.out _ _ (by(try dsimp only);go_keep) ?_;clear hK K hHeld;intro hHeld
    try simp only[Act.put,s1,s2,s3]
    clear x0 x1 x2 x3 x4 x5 y0 y1 z0 z1;refine rd [5,6] (rc (fun K hK=>?_) (rc (fun K hK=>?_) .nil))
    ·go_simp;go_at_call 59;refine(yg v0 v1 v2 v3 lo hi W _ _ _ ((Hp.out.zbd hb).zbd mA) (by have:=hb.size;have:=mA.size;omega) HR.out jB.out).mono ?_;rintro e oC ⟨rfl,aF⟩;rw[<-hB.out.eq];have oB:Below W3.heap.size W3 oC:=zA mA aF;have dG:=aE.zbd aF;obtain⟨x0,x1,x2,x3,x4,x5⟩:=(HX.out.zbd oB).c;obtain⟨⟨y0,-⟩,⟨y1,-⟩⟩:=HY.out.zbd oB;obtain⟨⟨z0,-⟩,⟨z1,-⟩⟩:=HZ.out.zbd oB
     (try go_wp2_with fail)
     refine hK.out _ _ (by(try dsimp only);go_keep) ?_;clear hK K hHeld;intro hHeld
     try simp only[Act.put,s1,s2,s3]
     clear x0 x1 x2 x3 x4 x5 y0 y1 z0 z1;refine rd [6] (rc (fun K hK=>?_) .nil);go_simp;have kD:=zD oC (.cells Tryz.zeroCells85 85);have pB:Below W3.heap.size W3 (oC.alloc (.cells Tryz.zeroCells85 85)):=zA oB kD;have vD:Blk (oC.alloc (.cells Tryz.zeroCells85 85)) oC.heap.size Tryz.zeroCells85:=heap_alloc_new _ _;have eA:oC.heap.size≠w0.heap.size:=(by have:=dG.lt;omega);have eG:=dG.zbd kD;obtain⟨x0,x1,x2,x3,x4,x5⟩:=(HX.out.zbd pB).c;obtain⟨⟨y0,-⟩,⟨y1,-⟩⟩:=HY.out.zbd pB;obtain⟨⟨z0,-⟩,⟨z1,-⟩⟩:=HZ.out.zbd pB
     (try go_wp2_with fail)
     refine hK.out _ _ (by(try dsimp only);go_keep) ?_;clear hK K hHeld;intro hHeld
     try simp only[Act.put,s1,s2,s3]
     clear x0 x1 x2 x3 x4 x5 y0 y1 z0 z1;generalize oC.alloc (.cells Tryz.zeroCells85 85)=w29 at pB vD eG hHeld kD ⊢;have dA:=zw _ _ cA _ vD qt hA.out.size hA.out.one;have p1:=Blk.setRow cA vD;have p2:=Blk.zbe cA eG (Ne.symm eA);have aA:=below_setRow (g:=oC.heap.size) pB (by have:=oB.size;omega) cA;obtain⟨x0,x1,x2,x3,x4,x5⟩:=(HX.out.zbd aA).c;obtain⟨⟨y0,-⟩,⟨y1,-⟩⟩:=HY.out.zbd aA;obtain⟨⟨z0,-⟩,⟨z1,-⟩⟩:=HZ.out.zbd aA;refine rd [8] (rc (fun K hK=>?_) .nil);go_simp
     (try go_wp2_with fail)
     refine hK.out _ _ (by(try dsimp only);go_keep) ?_;clear hK K hHeld;intro hHeld
     try simp only[Act.put,s1,s2,s3]
     clear dA;clear x0 x1 x2 x3 x4 x5 y0 y1 z0 z1;have dA:=zw _ _ cB _ p2 qt hB.out.size hB.out.one;have p3:=Blk.zbe cB p1 eA;have p4:=Blk.setRow cB p2;have bA:=below_setRow (g:=w0.heap.size) aA (by have:=gB.size;omega) cB;obtain⟨x0,x1,x2,x3,x4,x5⟩:=(HX.out.zbd bA).c;obtain⟨⟨y0,-⟩,⟨y1,-⟩⟩:=HY.out.zbd bA;obtain⟨⟨z0,-⟩,⟨z1,-⟩⟩:=HZ.out.zbd bA;refine rd [9] (rc (fun K hK=>?_) .nil);go_simp
     (try go_wp2_with fail)
     refine hK.out _ _ (by(try dsimp only);go_keep) ?_;clear hK K hHeld;intro hHeld
     try simp only[Act.put,s1,s2,s3]
     refine wpAnyH_done (by kernel_rfl) ?_ _;go_wp2_with fail
     go_meet
     case rel=>exact⟨_,_,rfl,rfl,hA.out.pg p3,hB.out.pg p4,zA hb bA⟩
    ·go_simp;have lD:=zD nC (.cells Tryz.zeroCells85 85);have tA:Below W3.heap.size W3 (nC.alloc (.cells Tryz.zeroCells85 85)):=zA mA lD;have mF:Blk (nC.alloc (.cells Tryz.zeroCells85 85)) nC.heap.size Tryz.zeroCells85:=heap_alloc_new _ _;have eA:nC.heap.size≠w0.heap.size:=(by have:=aE.lt;omega);have fG:=aE.zbd lD;obtain⟨x0,x1,x2,x3,x4,x5⟩:=(HX.out.zbd tA).c;obtain⟨⟨y0,-⟩,⟨y1,-⟩⟩:=HY.out.zbd tA;obtain⟨⟨z0,-⟩,⟨z1,-⟩⟩:=HZ.out.zbd tA
     (try go_wp2_with fail)
     refine hK.out _ _ (by(try dsimp only);go_keep) ?_;clear hK K hHeld;intro hHeld
     try simp only[Act.put,s1,s2,s3]
     clear x0 x1 x2 x3 x4 x5 y0 y1 z0 z1;generalize nC.alloc (.cells Tryz.zeroCells85 85)=w30 at tA mF fG hHeld lD ⊢;refine rd [5] (rc (fun K hK=>?_) .nil);go_simp;go_at_call 59;refine(yg v0 v1 v2 v3 lo hi W _ _ _ ((Hp.out.zbd hb).zbd tA) (by have:=hb.size;have:=tA.size;omega) HR.out jB.out).mono ?_;rintro e eJ ⟨rfl,mD⟩;rw[<-hB.out.eq];have cC:Below W3.heap.size W3 eJ:=zA tA mD;have nF:=mF.zbd mD;have mH:=fG.zbd mD;obtain⟨x0,x1,x2,x3,x4,x5⟩:=(HX.out.zbd cC).c;obtain⟨⟨y0,-⟩,⟨y1,-⟩⟩:=HY.out.zbd cC;obtain⟨⟨z0,-⟩,⟨z1,-⟩⟩:=HZ.out.zbd cC
     (try go_wp2_with fail)
     refine hK.out _ _ (by(try dsimp only);go_keep) ?_;clear hK K hHeld;intro hHeld
     try simp only[Act.put,s1,s2,s3]
     clear x0 x1 x2 x3 x4 x5 y0 y1 z0 z1;have dA:=zw _ _ cA _ nF qt hA.out.size hA.out.one;have p1:=Blk.setRow cA nF;have p2:=Blk.zbe cA mH (Ne.symm eA);have aA:=below_setRow (g:=nC.heap.size) cC (by have:=mA.size;omega) cA;obtain⟨x0,x1,x2,x3,x4,x5⟩:=(HX.out.zbd aA).c;obtain⟨⟨y0,-⟩,⟨y1,-⟩⟩:=HY.out.zbd aA;obtain⟨⟨z0,-⟩,⟨z1,-⟩⟩:=HZ.out.zbd aA;refine rd [8] (rc (fun K hK=>?_) .nil);go_simp
     (try go_wp2_with fail)
     refine hK.out _ _ (by(try dsimp only);go_keep) ?_;clear hK K hHeld;intro hHeld
     try simp only[Act.put,s1,s2,s3]
     clear dA;clear x0 x1 x2 x3 x4 x5 y0 y1 z0 z1;have dA:=zw _ _ cB _ p2 qt hB.out.size hB.out.one;have p3:=Blk.zbe cB p1 eA;have p4:=Blk.setRow cB p2;have bA:=below_setRow (g:=w0.heap.size) aA (by have:=gB.size;omega) cB;obtain⟨x0,x1,x2,x3,x4,x5⟩:=(HX.out.zbd bA).c;obtain⟨⟨y0,-⟩,⟨y1,-⟩⟩:=HY.out.zbd bA;obtain⟨⟨z0,-⟩,⟨z1,-⟩⟩:=HZ.out.zbd bA;refine rd [9] (rc (fun K hK=>?_) .nil);go_simp
     (try go_wp2_with fail)
     refine hK.out _ _ (by(try dsimp only);go_keep) ?_;clear hK K hHeld;intro hHeld
     try simp only[Act.put,s1,s2,s3]
     refine wpAnyH_done (by kernel_rfl) ?_ _;go_wp2_with fail
     go_meet
     case rel=>exact⟨_,_,rfl,rfl,hA.out.pg p3,hB.out.pg p4,zA hb bA⟩
   ·go_simp;have nD:=zD dE (.cells Tryz.zeroCells85 85);have vA:Below W3.heap.size W3 (dE.alloc (.cells Tryz.zeroCells85 85)):=zA jA nD;have oF:Blk (dE.alloc (.cells Tryz.zeroCells85 85)) dE.heap.size Tryz.zeroCells85:=heap_alloc_new _ _;have eA:dE.heap.size≠w0.heap.size:=(by have:=jC.lt;omega);have gG:=jC.zbd nD;obtain⟨x0,x1,x2,x3,x4,x5⟩:=(HX.out.zbd vA).c;obtain⟨⟨y0,-⟩,⟨y1,-⟩⟩:=HY.out.zbd vA;obtain⟨⟨z0,-⟩,⟨z1,-⟩⟩:=HZ.out.zbd vA
    (try go_wp2_with fail)
    refine hK.out _ _ (by(try dsimp only);go_keep) ?_;clear hK K hHeld;intro hHeld
    try simp only[Act.put,s1,s2,s3]
    clear x0 x1 x2 x3 x4 x5 y0 y1 z0 z1;generalize dE.alloc (.cells Tryz.zeroCells85 85)=w32 at vA oF gG hHeld nD ⊢;refine rd [2] (rc (fun K hK=>?_) .nil);go_simp;go_at_call 59;refine(yg v0 v1 v2 v3 lo hi W _ _ _ ((Hp.out.zbd hb).zbd vA) (by have:=hb.size;have:=vA.size;omega) HR.out HT.out).mono ?_;rintro e fJ ⟨rfl,oD⟩;rw[<-hA.out.eq];have fB:Below W3.heap.size W3 fJ:=zA vA oD;have cH:=oF.zbd oD;have nH:=gG.zbd oD;obtain⟨x0,x1,x2,x3,x4,x5⟩:=(HX.out.zbd fB).c;obtain⟨⟨y0,-⟩,⟨y1,-⟩⟩:=HY.out.zbd fB;obtain⟨⟨z0,-⟩,⟨z1,-⟩⟩:=HZ.out.zbd fB
    (try go_wp2_with fail)
    refine hK.out _ _ (by(try dsimp only);go_keep) ?_;clear hK K hHeld;intro hHeld
    try simp only[Act.put,s1,s2,s3]
    clear x0 x1 x2 x3 x4 x5 y0 y1 z0 z1;refine rd [5] (rc (fun K hK=>?_) .nil);go_simp;go_at_call 59;refine(yg v0 v1 v2 v3 lo hi W _ _ _ ((Hp.out.zbd hb).zbd fB) (by have:=hb.size;have:=fB.size;omega) HR.out jB.out).mono ?_;rintro e gJ ⟨rfl,pD⟩;rw[<-hB.out.eq];have dC:Below W3.heap.size W3 gJ:=zA fB pD;have pF:=cH.zbd pD;have oH:=nH.zbd pD;obtain⟨x0,x1,x2,x3,x4,x5⟩:=(HX.out.zbd dC).c;obtain⟨⟨y0,-⟩,⟨y1,-⟩⟩:=HY.out.zbd dC;obtain⟨⟨z0,-⟩,⟨z1,-⟩⟩:=HZ.out.zbd dC
    (try go_wp2_with fail)
    refine hK.out _ _ (by(try dsimp only);go_keep) ?_;clear hK K hHeld;intro hHeld
    try simp only[Act.put,s1,s2,s3]
    clear x0 x1 x2 x3 x4 x5 y0 y1 z0 z1;have dA:=zw _ _ cA _ pF qt hA.out.size hA.out.one;have p1:=Blk.setRow cA pF;have p2:=Blk.zbe cA oH (Ne.symm eA);have aA:=below_setRow (g:=dE.heap.size) dC (by have:=jA.size;omega) cA;obtain⟨x0,x1,x2,x3,x4,x5⟩:=(HX.out.zbd aA).c;obtain⟨⟨y0,-⟩,⟨y1,-⟩⟩:=HY.out.zbd aA;obtain⟨⟨z0,-⟩,⟨z1,-⟩⟩:=HZ.out.zbd aA;refine rd [8] (rc (fun K hK=>?_) .nil);go_simp
    (try go_wp2_with fail)
    refine hK.out _ _ (by(try dsimp only);go_keep) ?_;clear hK K hHeld;intro hHeld
    try simp only[Act.put,s1,s2,s3]
    clear dA;clear x0 x1 x2 x3 x4 x5 y0 y1 z0 z1;have dA:=zw _ _ cB _ p2 qt hB.out.size hB.out.one;have p3:=Blk.zbe cB p1 eA;have p4:=Blk.setRow cB p2;have bA:=below_setRow (g:=w0.heap.size) aA (by have:=gB.size;omega) cB;obtain⟨x0,x1,x2,x3,x4,x5⟩:=(HX.out.zbd bA).c;obtain⟨⟨y0,-⟩,⟨y1,-⟩⟩:=HY.out.zbd bA;obtain⟨⟨z0,-⟩,⟨z1,-⟩⟩:=HZ.out.zbd bA;refine rd [9] (rc (fun K hK=>?_) .nil);go_simp
    (try go_wp2_with fail)
    refine hK.out _ _ (by(try dsimp only);go_keep) ?_;clear hK K hHeld;intro hHeld
    try simp only[Act.put,s1,s2,s3]
    refine wpAnyH_done (by kernel_rfl) ?_ _;go_wp2_with fail
    go_meet
    case rel=>exact⟨_,_,rfl,rfl,hA.out.pg p3,hB.out.pg p4,zA hb bA⟩
 case rest=>
  obtain⟨A,B,rfl,rfl,rH,sH,iG⟩:=hcut;have kI:=zM rH;have lI:=zM sH;clear rH sH;obtain⟨i0,dI,vG⟩:=Option.map_eq_some_iff.1 zWK;simp only[Prod.mk.injEq]at vG;have HI:=zM (And.intro dI vG);clear dI vG;go_wp2
  go_loopw [9,17] (fun vo i wr=>∃j:Nat,j<=64/\i = .int .i64 j/\zFP wr wc.heap.size vo (zBk W.pool a b c d j)/\Below wc.heap.size wc wr) (fun _ i _=>64 - (intOf i).toNat)
  case atStart=>exact⟨0,Nat.zero_le _,rfl,zFP.nil _ _,Below.refl _ _⟩
  case round=>
   obtain⟨j,hj,rfl,bF,eE⟩:=hrel;have bB:=zM bF;clear bF;by_cases jG:j<64
   ·have rI:(j:Int)<64:=(by omega);obtain⟨⟨x0,-⟩,⟨x1,-⟩⟩:=(kI.out.zbd eE) j jG;obtain⟨⟨y0,-⟩,⟨y1,-⟩⟩:=(lI.out.zbd eE) j jG;rw[zNj W.pool a b jG]at x0 x1;rw[zNj W.pool c d jG]at y0 y1;have pI:=zDj W.pool a b c d j;have HN:=zM (fun (h:zCd W.pool a b c d j)=>zC8 h);have HE:=zM (fun (h:¬zCd W.pool a b c d j)=>zDD h);unfold zCd at HN HE;generalize zCx W.pool a b j=pa at *;generalize zCm W.pool a b j=pb at *;generalize zCx W.pool c d j=pc at *;generalize zCm W.pool c d j=pd at *;go_wp2_with fail;by_cases h1:pa=pc
    ·subst h1;by_cases h2:pb=pd
     ·subst h2;have HC:=zM (HE.out (fun h=>h ⟨rfl,rfl⟩));clear HN HE;go_region_held3 (fun w'=>w'.cell? ⟨A,j*2,none⟩=some (.int .i64 pa)/\w'.cell? ⟨A,j*2+1,none⟩=some (.int .i64 pb)/\w'.cell? ⟨B,j*2,none⟩=some (.int .i64 pa)/\w'.cell? ⟨B,j*2+1,none⟩=some (.int .i64 pb)) (go_keep)
       (fail)
      go_wp2;go_roundw
      case rel=>exact⟨j+1,by omega,by go_num,by rw[HC.out];exact bB.out.zbd (Below.refl _ _).drew,eE.drew⟩
      case measure=>simp[intOf];omega
     have HC:=zM (HN.out (fun h=>h2 h.2));have e1:(pb == pd)=false:=(by simp[h2]);have e2:(pb != pd)=true:=(by simp[h2]);have e3:decide (pb=pd)=false:=(by simp[h2]);clear HN HE h2;go_region_held3 (fun w'=>w'.cell? ⟨A,j*2,none⟩=some (.int .i64 pa)/\w'.cell? ⟨A,j*2+1,none⟩=some (.int .i64 pb)/\w'.cell? ⟨B,j*2,none⟩=some (.int .i64 pa)/\w'.cell? ⟨B,j*2+1,none⟩=some (.int .i64 pd)) (go_keep)
      (fail)
     have sC:=eE.drew;have fA:=zM (bB.out.zbd (Below.refl _ _).drew);clear x0 x1 y0 y1;generalize wr.drew=wq at sC fA ⊢;have rC:=zD wq (.cells #[.int .i64 (j:Int)] 2);have kA:=zM (fA.out.zbd rC);have iE:=zA sC rC;have tI:=sC.size;have sI:=iG.size;have lG:=zM (World.news_of_block (heap_alloc_last wq (.cells #[.int .i64 (j:Int)] 2)));have mG:=zM (show(wq.alloc (.cells #[.int .i64 (j:Int)] 2)).heap.size=wq.heap.size+1 from World.size_alloc _ _);clear rC bB fA;go_wp2_with (first
      | (at_builtin;refine wpList_append_lies _ rfl _ _ 24 rfl wc.heap.size 2 i0 (.int .i64 0) 1 8 (by kernel_rfl) HI.out.1 HI.out.2.1 HI.out.2.2.1 HI.out.2.2.2 rfl (by decide) _ _ _ rfl kA.out.1 ⟨wq.heap.size,0,none⟩ 1 1 [.int .i64 (j:Int)] rfl rfl lG.out (by simp[Value.oneCell']) (by decide) (by unfold maxLen;omega) (by omega) (by rw[mG.out];omega) _ rfl ?_;intro g' nG w8 rB aB oG tG)
      | go_in)
     go_roundw
     case rel=>exact⟨j+1,by omega,by go_num,by rw[HC.out];exact zFP.next rB,iE.grown aB iE.size (fun q hq=>(kA.out.lt hq).1)⟩
     case measure=>simp[intOf];omega
    ·have HC:=zM (HN.out (fun h=>h1 h.1));have e1:(pa == pc)=false:=(by simp[h1]);have e2:(pa != pc)=true:=(by simp[h1]);have e3:decide (pa=pc)=false:=(by simp[h1]);clear HN HE h1;go_region_held3 (fun w'=>w'.cell? ⟨A,j*2,none⟩=some (.int .i64 pa)/\w'.cell? ⟨A,j*2+1,none⟩=some (.int .i64 pb)/\w'.cell? ⟨B,j*2,none⟩=some (.int .i64 pc)/\w'.cell? ⟨B,j*2+1,none⟩=some (.int .i64 pd)) (go_keep)
      (fail)
     have sC:=eE.drew;have fA:=zM (bB.out.zbd (Below.refl _ _).drew);clear x0 x1 y0 y1;generalize wr.drew=wq at sC fA ⊢;have rC:=zD wq (.cells #[.int .i64 (j:Int)] 2);have kA:=zM (fA.out.zbd rC);have iE:=zA sC rC;have tI:=sC.size;have sI:=iG.size;have lG:=zM (World.news_of_block (heap_alloc_last wq (.cells #[.int .i64 (j:Int)] 2)));have mG:=zM (show(wq.alloc (.cells #[.int .i64 (j:Int)] 2)).heap.size=wq.heap.size+1 from World.size_alloc _ _);clear rC bB fA;go_wp2_with (first
      | (at_builtin;refine wpList_append_lies _ rfl _ _ 24 rfl wc.heap.size 2 i0 (.int .i64 0) 1 8 (by kernel_rfl) HI.out.1 HI.out.2.1 HI.out.2.2.1 HI.out.2.2.2 rfl (by decide) _ _ _ rfl kA.out.1 ⟨wq.heap.size,0,none⟩ 1 1 [.int .i64 (j:Int)] rfl rfl lG.out (by simp[Value.oneCell']) (by decide) (by unfold maxLen;omega) (by omega) (by rw[mG.out];omega) _ rfl ?_;intro g' nG w8 rB aB oG tG)
      | go_in)
     go_roundw
     case rel=>exact⟨j+1,by omega,by go_num,by rw[HC.out];exact zFP.next rB,iE.grown aB iE.size (fun q hq=>(kA.out.lt hq).1)⟩
     case measure=>simp[intOf];omega
   ·obtain rfl:j=64:=(by omega);go_wp2;go_ret;exact⟨_,rfl,bB.out.mono iG.size,zA iG eE⟩
end Go.Proofs.YtginldeebkfbgaaGreat
