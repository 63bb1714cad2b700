/- A part of the proof. -/
import Derived.Test.YtibhefllijahkaaGreatDoorF26
set_option linter.unusedVariables false
set_option maxRecDepth 20000
set_option maxHeartbeats 4000000
namespace Go.Proofs.YtibhefllijahkaaGreatDoor
open Go.RowKit Go.Shelf Go.Maps
structure IY (cs:Array Value) (f:Nat->Int×Int):Prop where
 eq:cs=pgC f
variable{cs:Array Value}{f:Nat->Int×Int}
theorem IY.size(h:IY cs f):cs.size=128:=by rw[h.eq,MA]
theorem IY.one(h:IY cs f):cs.all (·.oneCell')=true:=by rw[h.eq,Sq]
theorem Zy(f:Nat->Int×Int){j:Nat}(a:j<128):(pgC f)[j]?=some (pgV f j):=by simp[pgC,a]
variable{X:World}{V:Nat}
theorem IY.pg(h:IY cs f)(c:Blk X V cs):DT X V f:=fun n hn=>by
 have a:=B2 c (by rw[h.eq];exact Zy f (show n*2<128 by omega));have b:=B2 c (by rw[h.eq];exact Zy f (show n*2+1<128 by omega));unfold pgV at a b;rw[if_pos (by omega),show n*2 / 2=n by omega]at a;rw[if_neg (by omega),show(n*2+1) / 2=n by omega]at b;exact⟨a,b⟩
theorem Cq(X:World)(V:Nat)(cs c:Array Value)(e:Blk X V c)(d:c.size=128)(hs:cs.size=128)(a:cs.all (·.oneCell')=true):(storeCells ⟨V,0,none⟩ cs.toList).run Tryz.prog X = .ok () (X.setRow V cs):=by
 have a:=run_storeVar_row (P:=Tryz.prog) X V 125 125 c cs e (by rw[hs];exact pgI) (by rw[d,hs]) a;cases hq:Tryz.prog.info? 125 with
 | none=>have:=pgI;simp[hq]at this
 | some i=>
  have b:i.size=128:=(by have:=pgI;simpa[hq]using this);simpa[storeVar,sizeOf,typeInfo,hq,Value.cells,b,hs]using a
variable{zs:Array Value}
theorem Blk.setRow(cs:Array Value)(h:Blk X V zs):Blk (X.setRow V cs) V cs:=setRow_heap X V _ cs 125 (0,0) h
theorem Blk.Cn{V':Nat}(cs:Array Value)(h:Blk X V' zs)(a:V'≠V):Blk (X.setRow V cs) V' zs:=(setRow_other X V V' cs a).trans h
theorem zCy(Y v1 Z v3:Value)(lo hi:Nat)(W:A5)(a b c d:Int)(w:World)(h:BR w lo hi Y v1 Z v3 W)(hh:hi<=w.heap.size)(hR:Ag W.pool)(hT:As W.pool a b)(nH:As W.pool c d) :
 Calls Tryz.prog 45 #[BS Y v1 Z v3 W,.agg #[.int .i64 a,.int .i64 b],.agg #[.int .i64 c,.int .i64 d]] w (Kd (FJ W.pool a b c d 64) w):=by
 have Hp:=AT h;have HR:=AT hR;have HT:=AT hT;have bA:=AT nH;clear h hR hT nH;have y:∀A B C:World,A=w.alloc (.cells #[Y,v1,.int .i64 W.time,.int .i64 W.next,Z,v3] 30)->B=A.alloc (.cells #[.int .i64 a,.int .i64 b] 38)->C=B.alloc (.cells #[.int .i64 c,.int .i64 d] 38)->
  Aj C w.heap.size Y v1 (.int .i64 W.time) (.int .i64 W.next) Z v3/\Ad C (w.heap.size+1) (.int .i64 a) (.int .i64 b)/\Ad C (w.heap.size+1+1) (.int .i64 c) (.int .i64 d)/\Below w.heap.size w C/\C.heap.size=w.heap.size+3:=by
  rintro A B C ea eb ec;have b1:=A9 w (.cells #[Y,v1,.int .i64 W.time,.int .i64 W.next,Z,v3] 30);have m:=Aj.new w Y v1 (.int .i64 W.time) (.int .i64 W.next) Z v3 30;have t:A.heap.size=w.heap.size+1:=(by rw[ea];exact World.size_alloc _ _);rw[<-ea]at b1 m;have b2:=A9 A (.cells #[.int .i64 a,.int .i64 b] 38);have o:=Ad.new A (.int .i64 a) (.int .i64 b) 38;have z2:B.heap.size=w.heap.size+1+1:=(by rw[eb,World.size_alloc,t]);rw[<-eb]at b2 o;rw[t]at o;have b3:=A9 B (.cells #[.int .i64 c,.int .i64 d] 38);have p:=Ad.new B (.int .i64 c) (.int .i64 d) 38;have z3:C.heap.size=w.heap.size+3:=(by rw[ec,World.size_alloc,z2]);rw[<-ec]at b3 p;rw[z2]at p;exact⟨(m.A0 b2).A0 b3,o.A0 b3,p,A7 (A7 b1 b2) b3,z3⟩
 obtain⟨hx,hy,hz,L,bI⟩:=y _ _ _ rfl rfl rfl;have E:=AT hx;have F:=AT hy;have G:=AT hz;have aJ:=AT bI;clear y hx hy hz bI;go_enter Tryz.func45,Tryz.ntmps45;go_upto_region 1 with fail;generalize ((w.alloc (.cells #[Y,v1,.int .i64 W.time,.int .i64 W.next,Z,v3] 30)).alloc (.cells #[.int .i64 a,.int .i64 b] 38)).alloc (.cells #[.int .i64 c,.int .i64 d] 38)=z at E F G aJ L ⊢
 go_cut [7,8] (fun va vb wc=>∃A B:Nat,va = .pointer (some ⟨A,0,none⟩)/\vb = .pointer (some ⟨B,0,none⟩)/\DT wc A (DJ (CG W.pool a b))/\DT wc B (DJ (CG W.pool c d))/\Below w.heap.size w wc)
 case first=>
  obtain⟨n,m,o,p,u,v⟩:=E.out.c;obtain⟨⟨r,-⟩,⟨s,-⟩⟩:=F.out;obtain⟨⟨x,-⟩,⟨t,-⟩⟩:=G.out;obtain⟨H,M⟩:∃H,Hid (IY H (DJ (CG W.pool a b))):=⟨_,⟨rfl⟩⟩;obtain⟨I,J⟩:∃I,Hid (IY I (DJ (CG W.pool c d))):=⟨_,⟨rfl⟩⟩;have sA:=M.out.size;have sB:=J.out.size;refine wp_region_held_drew (S:=(fun w'=>w'.cell? ⟨w.heap.size,0,none⟩=some Y/\w'.cell? ⟨w.heap.size,1,none⟩=some v1/\w'.cell? ⟨w.heap.size,2,none⟩=some (.int .i64 W.time)/\w'.cell? ⟨w.heap.size,3,none⟩=some (.int .i64 W.next)/\w'.cell? ⟨w.heap.size,4,none⟩=some Z/\w'.cell? ⟨w.heap.size,5,none⟩=some v3/\w'.cell? ⟨w.heap.size+1,0,none⟩=some (.int .i64 a)/\w'.cell? ⟨w.heap.size+1,1,none⟩=some (.int .i64 b)/\w'.cell? ⟨w.heap.size+1+1,0,none⟩=some (.int .i64 c)/\w'.cell? ⟨w.heap.size+1+1,1,none⟩=some (.int .i64 d))) (by kernel_rfl) ?_ (fun hHeld=>?_)
  ·(try dsimp only)
   go_keep
  have V:Below z.heap.size z z.drew:=(Below.refl _ _).drew;clear n m o p u v r s x t;generalize z.drew=w0 at V hHeld ⊢;refine tk 0 (h:=tk 1 (h:=tk 3 (h:=tk 4 (h:=?_))));refine rd [2,6,7] (rc (fun K hK=>?_) (rc (fun K hK=>?_) (rc (fun K hK=>?_) .nil)))
  ·go_simp;go_at_call 93;refine(EZ Y v1 Z v3 lo hi W _ _ _ ((Hp.out.A0 L).A0 V) (by have:=L.size;have:=V.size;omega) HR.out HT.out).mono ?_;rintro e w1 ⟨rfl,cJ⟩;rw[<-M.out.eq];have X:Below z.heap.size z w1:=A7 V cJ;obtain⟨n,m,o,p,u,v⟩:=(E.out.A0 X).c;obtain⟨⟨r,-⟩,⟨s,-⟩⟩:=F.out.A0 X;obtain⟨⟨x,-⟩,⟨t,-⟩⟩:=G.out.A0 X
   (try go_wp2_with fail)
   refine hK.out _ _ (by(try dsimp only);go_keep) ?_;clear hK K hHeld;intro hHeld
   try simp only[Act.put,s1,s2,s3]
   clear n m o p u v r s x t;refine rd [5,6,7] (rc (fun K hK=>?_) (rc (fun K hK=>?_) (rc (fun K hK=>?_) .nil)))
   ·go_simp;go_at_call 93;refine(EZ Y v1 Z v3 lo hi W _ _ _ ((Hp.out.A0 L).A0 X) (by have:=L.size;have:=X.size;omega) HR.out bA.out).mono ?_;rintro e w2 ⟨rfl,dJ⟩;rw[<-J.out.eq];have tB:Below z.heap.size z w2:=A7 X dJ;obtain⟨n,m,o,p,u,v⟩:=(E.out.A0 tB).c;obtain⟨⟨r,-⟩,⟨s,-⟩⟩:=F.out.A0 tB;obtain⟨⟨x,-⟩,⟨t,-⟩⟩:=G.out.A0 tB
    (try go_wp2_with fail)
    refine hK.out _ _ (by(try dsimp only);go_keep) ?_;clear hK K hHeld;intro hHeld
    try simp only[Act.put,s1,s2,s3]
    clear n m o p u v r s x t;refine rd [6,7] (rc (fun K hK=>?_) (rc (fun K hK=>?_) .nil))
    ·go_simp;have pH:=A9 w2 (.cells Tryz.zeroCells125 125);have tC:Below z.heap.size z (w2.alloc (.cells Tryz.zeroCells125 125)):=A7 tB pH;have pG:Blk (w2.alloc (.cells Tryz.zeroCells125 125)) w2.heap.size Tryz.zeroCells125:=heap_alloc_new _ _;obtain⟨n,m,o,p,u,v⟩:=(E.out.A0 tC).c;obtain⟨⟨r,-⟩,⟨s,-⟩⟩:=F.out.A0 tC;obtain⟨⟨x,-⟩,⟨t,-⟩⟩:=G.out.A0 tC
     (try go_wp2_with fail)
     refine hK.out _ _ (by(try dsimp only);go_keep) ?_;clear hK K hHeld;intro hHeld
     try simp only[Act.put,s1,s2,s3]
     clear n m o p u v r s x t;generalize w2.alloc (.cells Tryz.zeroCells125 125)=w3 at tC pG hHeld pH ⊢;refine rd [7] (rc (fun K hK=>?_) .nil);go_simp;have lG:=A9 w3 (.cells Tryz.zeroCells125 125);have bD:Below z.heap.size z (w3.alloc (.cells Tryz.zeroCells125 125)):=A7 tC lG;have oI:Blk (w3.alloc (.cells Tryz.zeroCells125 125)) w3.heap.size Tryz.zeroCells125:=heap_alloc_new _ _;have D:w2.heap.size≠w3.heap.size:=(by have:=pG.lt;omega);have rG:=pG.A0 lG;obtain⟨n,m,o,p,u,v⟩:=(E.out.A0 bD).c;obtain⟨⟨r,-⟩,⟨s,-⟩⟩:=F.out.A0 bD;obtain⟨⟨x,-⟩,⟨t,-⟩⟩:=G.out.A0 bD
     (try go_wp2_with fail)
     refine hK.out _ _ (by(try dsimp only);go_keep) ?_;clear hK K hHeld;intro hHeld
     try simp only[Act.put,s1,s2,s3]
     clear n m o p u v r s x t;generalize w3.alloc (.cells Tryz.zeroCells125 125)=w4 at bD oI rG hHeld lG ⊢;have y:=Cq _ _ H _ rG Ch M.out.size M.out.one;have p1:=Blk.setRow H rG;have N:=Blk.Cn H oI (Ne.symm D);have k:=below_setRow (g:=w2.heap.size) bD (by have:=tB.size;omega) H;obtain⟨n,m,o,p,u,v⟩:=(E.out.A0 k).c;obtain⟨⟨r,-⟩,⟨s,-⟩⟩:=F.out.A0 k;obtain⟨⟨x,-⟩,⟨t,-⟩⟩:=G.out.A0 k;refine rd [8] (rc (fun K hK=>?_) .nil);go_simp
     (try go_wp2_with fail)
     refine hK.out _ _ (by(try dsimp only);go_keep) ?_;clear hK K hHeld;intro hHeld
     try simp only[Act.put,s1,s2,s3]
     clear y;clear n m o p u v r s x t;have y:=Cq _ _ I _ N Ch J.out.size J.out.one;have p3:=Blk.Cn I p1 D;have p4:=Blk.setRow I N;have l:=below_setRow (g:=w3.heap.size) k (by have:=tC.size;omega) I;obtain⟨n,m,o,p,u,v⟩:=(E.out.A0 l).c;obtain⟨⟨r,-⟩,⟨s,-⟩⟩:=F.out.A0 l;obtain⟨⟨x,-⟩,⟨t,-⟩⟩:=G.out.A0 l;refine rd [9] (rc (fun K hK=>?_) .nil);go_simp
     (try go_wp2_with fail)
     refine hK.out _ _ (by(try dsimp only);go_keep) ?_;clear hK K hHeld;intro hHeld
     try simp only[Act.put,s1,s2,s3]
     refine wpAnyH_done (by kernel_rfl) ?_ _;go_wp2_with fail
     go_meet
     case rel=>exact⟨_,_,rfl,rfl,M.out.pg p3,J.out.pg p4,A7 L l⟩
    ·go_simp;have rH:=A9 w2 (.cells Tryz.zeroCells125 125);have vC:Below z.heap.size z (w2.alloc (.cells Tryz.zeroCells125 125)):=A7 tB rH;have vG:Blk (w2.alloc (.cells Tryz.zeroCells125 125)) w2.heap.size Tryz.zeroCells125:=heap_alloc_new _ _;obtain⟨n,m,o,p,u,v⟩:=(E.out.A0 vC).c;obtain⟨⟨r,-⟩,⟨s,-⟩⟩:=F.out.A0 vC;obtain⟨⟨x,-⟩,⟨t,-⟩⟩:=G.out.A0 vC
     (try go_wp2_with fail)
     refine hK.out _ _ (by(try dsimp only);go_keep) ?_;clear hK K hHeld;intro hHeld
     try simp only[Act.put,s1,s2,s3]
     clear n m o p u v r s x t;generalize w2.alloc (.cells Tryz.zeroCells125 125)=w5 at vC vG hHeld rH ⊢;refine rd [6] (rc (fun K hK=>?_) .nil);go_simp;have mG:=A9 w5 (.cells Tryz.zeroCells125 125);have cD:Below z.heap.size z (w5.alloc (.cells Tryz.zeroCells125 125)):=A7 vC mG;have sG:Blk (w5.alloc (.cells Tryz.zeroCells125 125)) w5.heap.size Tryz.zeroCells125:=heap_alloc_new _ _;have D:w5.heap.size≠w2.heap.size:=(by have:=vG.lt;omega);have pI:=vG.A0 mG;obtain⟨n,m,o,p,u,v⟩:=(E.out.A0 cD).c;obtain⟨⟨r,-⟩,⟨s,-⟩⟩:=F.out.A0 cD;obtain⟨⟨x,-⟩,⟨t,-⟩⟩:=G.out.A0 cD
     (try go_wp2_with fail)
     refine hK.out _ _ (by(try dsimp only);go_keep) ?_;clear hK K hHeld;intro hHeld
     try simp only[Act.put,s1,s2,s3]
     clear n m o p u v r s x t;generalize w5.alloc (.cells Tryz.zeroCells125 125)=w6 at cD sG pI hHeld mG ⊢;have y:=Cq _ _ H _ sG Ch M.out.size M.out.one;have p1:=Blk.setRow H sG;have N:=Blk.Cn H pI (Ne.symm D);have k:=below_setRow (g:=w5.heap.size) cD (by have:=vC.size;omega) H;obtain⟨n,m,o,p,u,v⟩:=(E.out.A0 k).c;obtain⟨⟨r,-⟩,⟨s,-⟩⟩:=F.out.A0 k;obtain⟨⟨x,-⟩,⟨t,-⟩⟩:=G.out.A0 k;refine rd [8] (rc (fun K hK=>?_) .nil);go_simp
     (try go_wp2_with fail)
     refine hK.out _ _ (by(try dsimp only);go_keep) ?_;clear hK K hHeld;intro hHeld
     try simp only[Act.put,s1,s2,s3]
     clear y;clear n m o p u v r s x t;have y:=Cq _ _ I _ N Ch J.out.size J.out.one;have p3:=Blk.Cn I p1 D;have p4:=Blk.setRow I N;have l:=below_setRow (g:=w2.heap.size) k (by have:=tB.size;omega) I;obtain⟨n,m,o,p,u,v⟩:=(E.out.A0 l).c;obtain⟨⟨r,-⟩,⟨s,-⟩⟩:=F.out.A0 l;obtain⟨⟨x,-⟩,⟨t,-⟩⟩:=G.out.A0 l;refine rd [9] (rc (fun K hK=>?_) .nil);go_simp
     (try go_wp2_with fail)
     refine hK.out _ _ (by(try dsimp only);go_keep) ?_;clear hK K hHeld;intro hHeld
     try simp only[Act.put,s1,s2,s3]
     refine wpAnyH_done (by kernel_rfl) ?_ _;go_wp2_with fail
     go_meet
     case rel=>exact⟨_,_,rfl,rfl,M.out.pg p3,J.out.pg p4,A7 L l⟩
   ·go_simp;have sH:=A9 w1 (.cells Tryz.zeroCells125 125);have tA:Below z.heap.size z (w1.alloc (.cells Tryz.zeroCells125 125)):=A7 X sH;have mE:Blk (w1.alloc (.cells Tryz.zeroCells125 125)) w1.heap.size Tryz.zeroCells125:=heap_alloc_new _ _;obtain⟨n,m,o,p,u,v⟩:=(E.out.A0 tA).c;obtain⟨⟨r,-⟩,⟨s,-⟩⟩:=F.out.A0 tA;obtain⟨⟨x,-⟩,⟨t,-⟩⟩:=G.out.A0 tA
    (try go_wp2_with fail)
    refine hK.out _ _ (by(try dsimp only);go_keep) ?_;clear hK K hHeld;intro hHeld
    try simp only[Act.put,s1,s2,s3]
    clear n m o p u v r s x t;generalize w1.alloc (.cells Tryz.zeroCells125 125)=w7 at tA mE hHeld sH ⊢;refine rd [5,7] (rc (fun K hK=>?_) (rc (fun K hK=>?_) .nil))
    ·go_simp;go_at_call 93;refine(EZ Y v1 Z v3 lo hi W _ _ _ ((Hp.out.A0 L).A0 tA) (by have:=L.size;have:=tA.size;omega) HR.out bA.out).mono ?_;rintro e w8 ⟨rfl,tH⟩;rw[<-J.out.eq];have dD:Below z.heap.size z w8:=A7 tA tH;have eI:=mE.A0 tH;obtain⟨n,m,o,p,u,v⟩:=(E.out.A0 dD).c;obtain⟨⟨r,-⟩,⟨s,-⟩⟩:=F.out.A0 dD;obtain⟨⟨x,-⟩,⟨t,-⟩⟩:=G.out.A0 dD
     (try go_wp2_with fail)
     refine hK.out _ _ (by(try dsimp only);go_keep) ?_;clear hK K hHeld;intro hHeld
     try simp only[Act.put,s1,s2,s3]
     clear n m o p u v r s x t;refine rd [7] (rc (fun K hK=>?_) .nil);go_simp;have nG:=A9 w8 (.cells Tryz.zeroCells125 125);have eD:Below z.heap.size z (w8.alloc (.cells Tryz.zeroCells125 125)):=A7 dD nG;have rI:Blk (w8.alloc (.cells Tryz.zeroCells125 125)) w8.heap.size Tryz.zeroCells125:=heap_alloc_new _ _;have D:w1.heap.size≠w8.heap.size:=(by have:=eI.lt;omega);have tG:=eI.A0 nG;obtain⟨n,m,o,p,u,v⟩:=(E.out.A0 eD).c;obtain⟨⟨r,-⟩,⟨s,-⟩⟩:=F.out.A0 eD;obtain⟨⟨x,-⟩,⟨t,-⟩⟩:=G.out.A0 eD
     (try go_wp2_with fail)
     refine hK.out _ _ (by(try dsimp only);go_keep) ?_;clear hK K hHeld;intro hHeld
     try simp only[Act.put,s1,s2,s3]
     clear n m o p u v r s x t;generalize w8.alloc (.cells Tryz.zeroCells125 125)=w9 at eD rI tG hHeld nG ⊢;have y:=Cq _ _ H _ tG Ch M.out.size M.out.one;have p1:=Blk.setRow H tG;have N:=Blk.Cn H rI (Ne.symm D);have k:=below_setRow (g:=w1.heap.size) eD (by have:=X.size;omega) H;obtain⟨n,m,o,p,u,v⟩:=(E.out.A0 k).c;obtain⟨⟨r,-⟩,⟨s,-⟩⟩:=F.out.A0 k;obtain⟨⟨x,-⟩,⟨t,-⟩⟩:=G.out.A0 k;refine rd [8] (rc (fun K hK=>?_) .nil);go_simp
     (try go_wp2_with fail)
     refine hK.out _ _ (by(try dsimp only);go_keep) ?_;clear hK K hHeld;intro hHeld
     try simp only[Act.put,s1,s2,s3]
     clear y;clear n m o p u v r s x t;have y:=Cq _ _ I _ N Ch J.out.size J.out.one;have p3:=Blk.Cn I p1 D;have p4:=Blk.setRow I N;have l:=below_setRow (g:=w8.heap.size) k (by have:=dD.size;omega) I;obtain⟨n,m,o,p,u,v⟩:=(E.out.A0 l).c;obtain⟨⟨r,-⟩,⟨s,-⟩⟩:=F.out.A0 l;obtain⟨⟨x,-⟩,⟨t,-⟩⟩:=G.out.A0 l;refine rd [9] (rc (fun K hK=>?_) .nil);go_simp
     (try go_wp2_with fail)
     refine hK.out _ _ (by(try dsimp only);go_keep) ?_;clear hK K hHeld;intro hHeld
     try simp only[Act.put,s1,s2,s3]
     refine wpAnyH_done (by kernel_rfl) ?_ _;go_wp2_with fail
     go_meet
     case rel=>exact⟨_,_,rfl,rfl,M.out.pg p3,J.out.pg p4,A7 L l⟩
    ·go_simp;have fD:=A9 w7 (.cells Tryz.zeroCells125 125);have eA:Below z.heap.size z (w7.alloc (.cells Tryz.zeroCells125 125)):=A7 tA fD;have sF:Blk (w7.alloc (.cells Tryz.zeroCells125 125)) w7.heap.size Tryz.zeroCells125:=heap_alloc_new _ _;have D:w1.heap.size≠w7.heap.size:=(by have:=mE.lt;omega);have dF:=mE.A0 fD;obtain⟨n,m,o,p,u,v⟩:=(E.out.A0 eA).c;obtain⟨⟨r,-⟩,⟨s,-⟩⟩:=F.out.A0 eA;obtain⟨⟨x,-⟩,⟨t,-⟩⟩:=G.out.A0 eA
     (try go_wp2_with fail)
     refine hK.out _ _ (by(try dsimp only);go_keep) ?_;clear hK K hHeld;intro hHeld
     try simp only[Act.put,s1,s2,s3]
     clear n m o p u v r s x t;generalize w7.alloc (.cells Tryz.zeroCells125 125)=w10 at eA sF dF hHeld fD ⊢;refine rd [5] (rc (fun K hK=>?_) .nil);go_simp;go_at_call 93;refine(EZ Y v1 Z v3 lo hi W _ _ _ ((Hp.out.A0 L).A0 eA) (by have:=L.size;have:=eA.size;omega) HR.out bA.out).mono ?_;rintro e iJ ⟨rfl,gD⟩;rw[<-J.out.eq];have iC:Below z.heap.size z iJ:=A7 eA gD;have eF:=dF.A0 gD;have fI:=sF.A0 gD;obtain⟨n,m,o,p,u,v⟩:=(E.out.A0 iC).c;obtain⟨⟨r,-⟩,⟨s,-⟩⟩:=F.out.A0 iC;obtain⟨⟨x,-⟩,⟨t,-⟩⟩:=G.out.A0 iC
     (try go_wp2_with fail)
     refine hK.out _ _ (by(try dsimp only);go_keep) ?_;clear hK K hHeld;intro hHeld
     try simp only[Act.put,s1,s2,s3]
     clear n m o p u v r s x t;have y:=Cq _ _ H _ eF Ch M.out.size M.out.one;have p1:=Blk.setRow H eF;have N:=Blk.Cn H fI (Ne.symm D);have k:=below_setRow (g:=w1.heap.size) iC (by have:=X.size;omega) H;obtain⟨n,m,o,p,u,v⟩:=(E.out.A0 k).c;obtain⟨⟨r,-⟩,⟨s,-⟩⟩:=F.out.A0 k;obtain⟨⟨x,-⟩,⟨t,-⟩⟩:=G.out.A0 k;refine rd [8] (rc (fun K hK=>?_) .nil);go_simp
     (try go_wp2_with fail)
     refine hK.out _ _ (by(try dsimp only);go_keep) ?_;clear hK K hHeld;intro hHeld
     try simp only[Act.put,s1,s2,s3]
     clear y;clear n m o p u v r s x t;have y:=Cq _ _ I _ N Ch J.out.size J.out.one;have p3:=Blk.Cn I p1 D;have p4:=Blk.setRow I N;have l:=below_setRow (g:=w7.heap.size) k (by have:=tA.size;omega) I;obtain⟨n,m,o,p,u,v⟩:=(E.out.A0 l).c;obtain⟨⟨r,-⟩,⟨s,-⟩⟩:=F.out.A0 l;obtain⟨⟨x,-⟩,⟨t,-⟩⟩:=G.out.A0 l;refine rd [9] (rc (fun K hK=>?_) .nil);go_simp
     (try go_wp2_with fail)
     refine hK.out _ _ (by(try dsimp only);go_keep) ?_;clear hK K hHeld;intro hHeld
     try simp only[Act.put,s1,s2,s3]
     refine wpAnyH_done (by kernel_rfl) ?_ _;go_wp2_with fail
     go_meet
     case rel=>exact⟨_,_,rfl,rfl,M.out.pg p3,J.out.pg p4,A7 L l⟩
   ·go_simp;have oE:=A9 w1 (.cells Tryz.zeroCells125 125);have P:Below z.heap.size z (w1.alloc (.cells Tryz.zeroCells125 125)):=A7 X oE;have pC:Blk (w1.alloc (.cells Tryz.zeroCells125 125)) w1.heap.size Tryz.zeroCells125:=heap_alloc_new _ _;obtain⟨n,m,o,p,u,v⟩:=(E.out.A0 P).c;obtain⟨⟨r,-⟩,⟨s,-⟩⟩:=F.out.A0 P;obtain⟨⟨x,-⟩,⟨t,-⟩⟩:=G.out.A0 P
    (try go_wp2_with fail)
    refine hK.out _ _ (by(try dsimp only);go_keep) ?_;clear hK K hHeld;intro hHeld
    try simp only[Act.put,s1,s2,s3]
    clear n m o p u v r s x t;generalize w1.alloc (.cells Tryz.zeroCells125 125)=cC at P pC hHeld oE ⊢;refine rd [5,6] (rc (fun K hK=>?_) (rc (fun K hK=>?_) .nil))
    ·go_simp;go_at_call 93;refine(EZ Y v1 Z v3 lo hi W _ _ _ ((Hp.out.A0 L).A0 P) (by have:=L.size;have:=P.size;omega) HR.out bA.out).mono ?_;rintro e kB ⟨rfl,pE⟩;rw[<-J.out.eq];have bB:Below z.heap.size z kB:=A7 P pE;have tF:=pC.A0 pE;obtain⟨n,m,o,p,u,v⟩:=(E.out.A0 bB).c;obtain⟨⟨r,-⟩,⟨s,-⟩⟩:=F.out.A0 bB;obtain⟨⟨x,-⟩,⟨t,-⟩⟩:=G.out.A0 bB
     (try go_wp2_with fail)
     refine hK.out _ _ (by(try dsimp only);go_keep) ?_;clear hK K hHeld;intro hHeld
     try simp only[Act.put,s1,s2,s3]
     clear n m o p u v r s x t;refine rd [6] (rc (fun K hK=>?_) .nil);go_simp;have iD:=A9 kB (.cells Tryz.zeroCells125 125);have eB:Below z.heap.size z (kB.alloc (.cells Tryz.zeroCells125 125)):=A7 bB iD;have dE:Blk (kB.alloc (.cells Tryz.zeroCells125 125)) kB.heap.size Tryz.zeroCells125:=heap_alloc_new _ _;have D:kB.heap.size≠w1.heap.size:=(by have:=tF.lt;omega);have vF:=tF.A0 iD;obtain⟨n,m,o,p,u,v⟩:=(E.out.A0 eB).c;obtain⟨⟨r,-⟩,⟨s,-⟩⟩:=F.out.A0 eB;obtain⟨⟨x,-⟩,⟨t,-⟩⟩:=G.out.A0 eB
     (try go_wp2_with fail)
     refine hK.out _ _ (by(try dsimp only);go_keep) ?_;clear hK K hHeld;intro hHeld
     try simp only[Act.put,s1,s2,s3]
     clear n m o p u v r s x t;generalize kB.alloc (.cells Tryz.zeroCells125 125)=w14 at eB dE vF hHeld iD ⊢;have y:=Cq _ _ H _ dE Ch M.out.size M.out.one;have p1:=Blk.setRow H dE;have N:=Blk.Cn H vF (Ne.symm D);have k:=below_setRow (g:=kB.heap.size) eB (by have:=bB.size;omega) H;obtain⟨n,m,o,p,u,v⟩:=(E.out.A0 k).c;obtain⟨⟨r,-⟩,⟨s,-⟩⟩:=F.out.A0 k;obtain⟨⟨x,-⟩,⟨t,-⟩⟩:=G.out.A0 k;refine rd [8] (rc (fun K hK=>?_) .nil);go_simp
     (try go_wp2_with fail)
     refine hK.out _ _ (by(try dsimp only);go_keep) ?_;clear hK K hHeld;intro hHeld
     try simp only[Act.put,s1,s2,s3]
     clear y;clear n m o p u v r s x t;have y:=Cq _ _ I _ N Ch J.out.size J.out.one;have p3:=Blk.Cn I p1 D;have p4:=Blk.setRow I N;have l:=below_setRow (g:=w1.heap.size) k (by have:=X.size;omega) I;obtain⟨n,m,o,p,u,v⟩:=(E.out.A0 l).c;obtain⟨⟨r,-⟩,⟨s,-⟩⟩:=F.out.A0 l;obtain⟨⟨x,-⟩,⟨t,-⟩⟩:=G.out.A0 l;refine rd [9] (rc (fun K hK=>?_) .nil);go_simp
     (try go_wp2_with fail)
     refine hK.out _ _ (by(try dsimp only);go_keep) ?_;clear hK K hHeld;intro hHeld
     try simp only[Act.put,s1,s2,s3]
     refine wpAnyH_done (by kernel_rfl) ?_ _;go_wp2_with fail
     go_meet
     case rel=>exact⟨_,_,rfl,rfl,M.out.pg p3,J.out.pg p4,A7 L l⟩
    ·go_simp;have jD:=A9 cC (.cells Tryz.zeroCells125 125);have fA:Below z.heap.size z (cC.alloc (.cells Tryz.zeroCells125 125)):=A7 P jD;have fF:Blk (cC.alloc (.cells Tryz.zeroCells125 125)) cC.heap.size Tryz.zeroCells125:=heap_alloc_new _ _;have D:cC.heap.size≠w1.heap.size:=(by have:=pC.lt;omega);have aG:=pC.A0 jD;obtain⟨n,m,o,p,u,v⟩:=(E.out.A0 fA).c;obtain⟨⟨r,-⟩,⟨s,-⟩⟩:=F.out.A0 fA;obtain⟨⟨x,-⟩,⟨t,-⟩⟩:=G.out.A0 fA
     (try go_wp2_with fail)
     refine hK.out _ _ (by(try dsimp only);go_keep) ?_;clear hK K hHeld;intro hHeld
     try simp only[Act.put,s1,s2,s3]
     clear n m o p u v r s x t;generalize cC.alloc (.cells Tryz.zeroCells125 125)=w15 at fA fF aG hHeld jD ⊢;refine rd [5] (rc (fun K hK=>?_) .nil);go_simp;go_at_call 93;refine(EZ Y v1 Z v3 lo hi W _ _ _ ((Hp.out.A0 L).A0 fA) (by have:=L.size;have:=fA.size;omega) HR.out bA.out).mono ?_;rintro e jJ ⟨rfl,kD⟩;rw[<-J.out.eq];have jC:Below z.heap.size z jJ:=A7 fA kD;have gF:=fF.A0 kD;have gI:=aG.A0 kD;obtain⟨n,m,o,p,u,v⟩:=(E.out.A0 jC).c;obtain⟨⟨r,-⟩,⟨s,-⟩⟩:=F.out.A0 jC;obtain⟨⟨x,-⟩,⟨t,-⟩⟩:=G.out.A0 jC
     (try go_wp2_with fail)
     refine hK.out _ _ (by(try dsimp only);go_keep) ?_;clear hK K hHeld;intro hHeld
     try simp only[Act.put,s1,s2,s3]
     clear n m o p u v r s x t;have y:=Cq _ _ H _ gF Ch M.out.size M.out.one;have p1:=Blk.setRow H gF;have N:=Blk.Cn H gI (Ne.symm D);have k:=below_setRow (g:=cC.heap.size) jC (by have:=P.size;omega) H;obtain⟨n,m,o,p,u,v⟩:=(E.out.A0 k).c;obtain⟨⟨r,-⟩,⟨s,-⟩⟩:=F.out.A0 k;obtain⟨⟨x,-⟩,⟨t,-⟩⟩:=G.out.A0 k;refine rd [8] (rc (fun K hK=>?_) .nil);go_simp
     (try go_wp2_with fail)
     refine hK.out _ _ (by(try dsimp only);go_keep) ?_;clear hK K hHeld;intro hHeld
     try simp only[Act.put,s1,s2,s3]
     clear y;clear n m o p u v r s x t;have y:=Cq _ _ I _ N Ch J.out.size J.out.one;have p3:=Blk.Cn I p1 D;have p4:=Blk.setRow I N;have l:=below_setRow (g:=w1.heap.size) k (by have:=X.size;omega) I;obtain⟨n,m,o,p,u,v⟩:=(E.out.A0 l).c;obtain⟨⟨r,-⟩,⟨s,-⟩⟩:=F.out.A0 l;obtain⟨⟨x,-⟩,⟨t,-⟩⟩:=G.out.A0 l;refine rd [9] (rc (fun K hK=>?_) .nil);go_simp
     (try go_wp2_with fail)
     refine hK.out _ _ (by(try dsimp only);go_keep) ?_;clear hK K hHeld;intro hHeld
     try simp only[Act.put,s1,s2,s3]
     refine wpAnyH_done (by kernel_rfl) ?_ _;go_wp2_with fail
     go_meet
     case rel=>exact⟨_,_,rfl,rfl,M.out.pg p3,J.out.pg p4,A7 L l⟩
  ·go_simp;have rE:=A9 w0 (.cells Tryz.zeroCells125 125);have Q:Below z.heap.size z (w0.alloc (.cells Tryz.zeroCells125 125)):=A7 V rE;have oC:Blk (w0.alloc (.cells Tryz.zeroCells125 125)) w0.heap.size Tryz.zeroCells125:=heap_alloc_new _ _;obtain⟨n,m,o,p,u,v⟩:=(E.out.A0 Q).c;obtain⟨⟨r,-⟩,⟨s,-⟩⟩:=F.out.A0 Q;obtain⟨⟨x,-⟩,⟨t,-⟩⟩:=G.out.A0 Q
   (try go_wp2_with fail)
   refine hK.out _ _ (by(try dsimp only);go_keep) ?_;clear hK K hHeld;intro hHeld
   try simp only[Act.put,s1,s2,s3]
   clear n m o p u v r s x t;generalize w0.alloc (.cells Tryz.zeroCells125 125)=dC at Q oC hHeld rE ⊢;refine rd [2,7] (rc (fun K hK=>?_) (rc (fun K hK=>?_) .nil))
   ·go_simp;go_at_call 93;refine(EZ Y v1 Z v3 lo hi W _ _ _ ((Hp.out.A0 L).A0 Q) (by have:=L.size;have:=Q.size;omega) HR.out HT.out).mono ?_;rintro e lB ⟨rfl,sE⟩;rw[<-M.out.eq];have T:Below z.heap.size z lB:=A7 Q sE;have eE:=oC.A0 sE;obtain⟨n,m,o,p,u,v⟩:=(E.out.A0 T).c;obtain⟨⟨r,-⟩,⟨s,-⟩⟩:=F.out.A0 T;obtain⟨⟨x,-⟩,⟨t,-⟩⟩:=G.out.A0 T
    (try go_wp2_with fail)
    refine hK.out _ _ (by(try dsimp only);go_keep) ?_;clear hK K hHeld;intro hHeld
    try simp only[Act.put,s1,s2,s3]
    clear n m o p u v r s x t;refine rd [5,7] (rc (fun K hK=>?_) (rc (fun K hK=>?_) .nil))
    ·go_simp;go_at_call 93;refine(EZ Y v1 Z v3 lo hi W _ _ _ ((Hp.out.A0 L).A0 T) (by have:=L.size;have:=T.size;omega) HR.out bA.out).mono ?_;rintro e mB ⟨rfl,tE⟩;rw[<-J.out.eq];have fB:Below z.heap.size z mB:=A7 T tE;have iF:=eE.A0 tE;obtain⟨n,m,o,p,u,v⟩:=(E.out.A0 fB).c;obtain⟨⟨r,-⟩,⟨s,-⟩⟩:=F.out.A0 fB;obtain⟨⟨x,-⟩,⟨t,-⟩⟩:=G.out.A0 fB
     (try go_wp2_with fail)
     refine hK.out _ _ (by(try dsimp only);go_keep) ?_;clear hK K hHeld;intro hHeld
     try simp only[Act.put,s1,s2,s3]
     clear n m o p u v r s x t;refine rd [7] (rc (fun K hK=>?_) .nil);go_simp;have lD:=A9 mB (.cells Tryz.zeroCells125 125);have gB:Below z.heap.size z (mB.alloc (.cells Tryz.zeroCells125 125)):=A7 fB lD;have bG:Blk (mB.alloc (.cells Tryz.zeroCells125 125)) mB.heap.size Tryz.zeroCells125:=heap_alloc_new _ _;have D:w0.heap.size≠mB.heap.size:=(by have:=iF.lt;omega);have fE:=iF.A0 lD;obtain⟨n,m,o,p,u,v⟩:=(E.out.A0 gB).c;obtain⟨⟨r,-⟩,⟨s,-⟩⟩:=F.out.A0 gB;obtain⟨⟨x,-⟩,⟨t,-⟩⟩:=G.out.A0 gB
     (try go_wp2_with fail)
     refine hK.out _ _ (by(try dsimp only);go_keep) ?_;clear hK K hHeld;intro hHeld
     try simp only[Act.put,s1,s2,s3]
     clear n m o p u v r s x t;generalize mB.alloc (.cells Tryz.zeroCells125 125)=w20 at gB bG fE hHeld lD ⊢;have y:=Cq _ _ H _ fE Ch M.out.size M.out.one;have p1:=Blk.setRow H fE;have N:=Blk.Cn H bG (Ne.symm D);have k:=below_setRow (g:=w0.heap.size) gB (by have:=V.size;omega) H;obtain⟨n,m,o,p,u,v⟩:=(E.out.A0 k).c;obtain⟨⟨r,-⟩,⟨s,-⟩⟩:=F.out.A0 k;obtain⟨⟨x,-⟩,⟨t,-⟩⟩:=G.out.A0 k;refine rd [8] (rc (fun K hK=>?_) .nil);go_simp
     (try go_wp2_with fail)
     refine hK.out _ _ (by(try dsimp only);go_keep) ?_;clear hK K hHeld;intro hHeld
     try simp only[Act.put,s1,s2,s3]
     clear y;clear n m o p u v r s x t;have y:=Cq _ _ I _ N Ch J.out.size J.out.one;have p3:=Blk.Cn I p1 D;have p4:=Blk.setRow I N;have l:=below_setRow (g:=mB.heap.size) k (by have:=fB.size;omega) I;obtain⟨n,m,o,p,u,v⟩:=(E.out.A0 l).c;obtain⟨⟨r,-⟩,⟨s,-⟩⟩:=F.out.A0 l;obtain⟨⟨x,-⟩,⟨t,-⟩⟩:=G.out.A0 l;refine rd [9] (rc (fun K hK=>?_) .nil);go_simp
     (try go_wp2_with fail)
     refine hK.out _ _ (by(try dsimp only);go_keep) ?_;clear hK K hHeld;intro hHeld
     try simp only[Act.put,s1,s2,s3]
     refine wpAnyH_done (by kernel_rfl) ?_ _;go_wp2_with fail
     go_meet
     case rel=>exact⟨_,_,rfl,rfl,M.out.pg p3,J.out.pg p4,A7 L l⟩
    ·go_simp;have mD:=A9 lB (.cells Tryz.zeroCells125 125);have gA:Below z.heap.size z (lB.alloc (.cells Tryz.zeroCells125 125)):=A7 T mD;have cG:Blk (lB.alloc (.cells Tryz.zeroCells125 125)) lB.heap.size Tryz.zeroCells125:=heap_alloc_new _ _;have D:w0.heap.size≠lB.heap.size:=(by have:=eE.lt;omega);have jF:=eE.A0 mD;obtain⟨n,m,o,p,u,v⟩:=(E.out.A0 gA).c;obtain⟨⟨r,-⟩,⟨s,-⟩⟩:=F.out.A0 gA;obtain⟨⟨x,-⟩,⟨t,-⟩⟩:=G.out.A0 gA
     (try go_wp2_with fail)
     refine hK.out _ _ (by(try dsimp only);go_keep) ?_;clear hK K hHeld;intro hHeld
     try simp only[Act.put,s1,s2,s3]
     clear n m o p u v r s x t;generalize lB.alloc (.cells Tryz.zeroCells125 125)=w21 at gA cG jF hHeld mD ⊢;refine rd [5] (rc (fun K hK=>?_) .nil);go_simp;go_at_call 93;refine(EZ Y v1 Z v3 lo hi W _ _ _ ((Hp.out.A0 L).A0 gA) (by have:=L.size;have:=gA.size;omega) HR.out bA.out).mono ?_;rintro e kJ ⟨rfl,nD⟩;rw[<-J.out.eq];have kC:Below z.heap.size z kJ:=A7 gA nD;have kF:=jF.A0 nD;have iI:=cG.A0 nD;obtain⟨n,m,o,p,u,v⟩:=(E.out.A0 kC).c;obtain⟨⟨r,-⟩,⟨s,-⟩⟩:=F.out.A0 kC;obtain⟨⟨x,-⟩,⟨t,-⟩⟩:=G.out.A0 kC
     (try go_wp2_with fail)
     refine hK.out _ _ (by(try dsimp only);go_keep) ?_;clear hK K hHeld;intro hHeld
     try simp only[Act.put,s1,s2,s3]
     clear n m o p u v r s x t;have y:=Cq _ _ H _ kF Ch M.out.size M.out.one;have p1:=Blk.setRow H kF;have N:=Blk.Cn H iI (Ne.symm D);have k:=below_setRow (g:=w0.heap.size) kC (by have:=V.size;omega) H;obtain⟨n,m,o,p,u,v⟩:=(E.out.A0 k).c;obtain⟨⟨r,-⟩,⟨s,-⟩⟩:=F.out.A0 k;obtain⟨⟨x,-⟩,⟨t,-⟩⟩:=G.out.A0 k;refine rd [8] (rc (fun K hK=>?_) .nil);go_simp
     (try go_wp2_with fail)
     refine hK.out _ _ (by(try dsimp only);go_keep) ?_;clear hK K hHeld;intro hHeld
     try simp only[Act.put,s1,s2,s3]
     clear y;clear n m o p u v r s x t;have y:=Cq _ _ I _ N Ch J.out.size J.out.one;have p3:=Blk.Cn I p1 D;have p4:=Blk.setRow I N;have l:=below_setRow (g:=lB.heap.size) k (by have:=T.size;omega) I;obtain⟨n,m,o,p,u,v⟩:=(E.out.A0 l).c;obtain⟨⟨r,-⟩,⟨s,-⟩⟩:=F.out.A0 l;obtain⟨⟨x,-⟩,⟨t,-⟩⟩:=G.out.A0 l;refine rd [9] (rc (fun K hK=>?_) .nil);go_simp
     (try go_wp2_with fail)
     refine hK.out _ _ (by(try dsimp only);go_keep) ?_;clear hK K hHeld;intro hHeld
     try simp only[Act.put,s1,s2,s3]
     refine wpAnyH_done (by kernel_rfl) ?_ _;go_wp2_with fail
     go_meet
     case rel=>exact⟨_,_,rfl,rfl,M.out.pg p3,J.out.pg p4,A7 L l⟩
   ·go_simp;have oD:=A9 dC (.cells Tryz.zeroCells125 125);have iA:Below z.heap.size z (dC.alloc (.cells Tryz.zeroCells125 125)):=A7 Q oD;have dG:Blk (dC.alloc (.cells Tryz.zeroCells125 125)) dC.heap.size Tryz.zeroCells125:=heap_alloc_new _ _;have D:w0.heap.size≠dC.heap.size:=(by have:=oC.lt;omega);have lF:=oC.A0 oD;obtain⟨n,m,o,p,u,v⟩:=(E.out.A0 iA).c;obtain⟨⟨r,-⟩,⟨s,-⟩⟩:=F.out.A0 iA;obtain⟨⟨x,-⟩,⟨t,-⟩⟩:=G.out.A0 iA
    (try go_wp2_with fail)
    refine hK.out _ _ (by(try dsimp only);go_keep) ?_;clear hK K hHeld;intro hHeld
    try simp only[Act.put,s1,s2,s3]
    clear n m o p u v r s x t;generalize dC.alloc (.cells Tryz.zeroCells125 125)=w23 at iA dG lF hHeld oD ⊢;refine rd [2] (rc (fun K hK=>?_) .nil);go_simp;go_at_call 93;refine(EZ Y v1 Z v3 lo hi W _ _ _ ((Hp.out.A0 L).A0 iA) (by have:=L.size;have:=iA.size;omega) HR.out HT.out).mono ?_;rintro e lJ ⟨rfl,pD⟩;rw[<-M.out.eq];have pA:Below z.heap.size z lJ:=A7 iA pD;have cI:=lF.A0 pD;have jI:=dG.A0 pD;obtain⟨n,m,o,p,u,v⟩:=(E.out.A0 pA).c;obtain⟨⟨r,-⟩,⟨s,-⟩⟩:=F.out.A0 pA;obtain⟨⟨x,-⟩,⟨t,-⟩⟩:=G.out.A0 pA
    (try go_wp2_with fail)
    refine hK.out _ _ (by(try dsimp only);go_keep) ?_;clear hK K hHeld;intro hHeld
    try simp only[Act.put,s1,s2,s3]
    clear n m o p u v r s x t;refine rd [5] (rc (fun K hK=>?_) .nil);go_simp;go_at_call 93;refine(EZ Y v1 Z v3 lo hi W _ _ _ ((Hp.out.A0 L).A0 pA) (by have:=L.size;have:=pA.size;omega) HR.out bA.out).mono ?_;rintro e mJ ⟨rfl,rD⟩;rw[<-J.out.eq];have lC:Below z.heap.size z mJ:=A7 pA rD;have mF:=cI.A0 rD;have kI:=jI.A0 rD;obtain⟨n,m,o,p,u,v⟩:=(E.out.A0 lC).c;obtain⟨⟨r,-⟩,⟨s,-⟩⟩:=F.out.A0 lC;obtain⟨⟨x,-⟩,⟨t,-⟩⟩:=G.out.A0 lC
    (try go_wp2_with fail)
    refine hK.out _ _ (by(try dsimp only);go_keep) ?_;clear hK K hHeld;intro hHeld
    try simp only[Act.put,s1,s2,s3]
    clear n m o p u v r s x t;have y:=Cq _ _ H _ mF Ch M.out.size M.out.one;have p1:=Blk.setRow H mF;have N:=Blk.Cn H kI (Ne.symm D);have k:=below_setRow (g:=w0.heap.size) lC (by have:=V.size;omega) H;obtain⟨n,m,o,p,u,v⟩:=(E.out.A0 k).c;obtain⟨⟨r,-⟩,⟨s,-⟩⟩:=F.out.A0 k;obtain⟨⟨x,-⟩,⟨t,-⟩⟩:=G.out.A0 k;refine rd [8] (rc (fun K hK=>?_) .nil);go_simp
    (try go_wp2_with fail)
    refine hK.out _ _ (by(try dsimp only);go_keep) ?_;clear hK K hHeld;intro hHeld
    try simp only[Act.put,s1,s2,s3]
    clear y;clear n m o p u v r s x t;have y:=Cq _ _ I _ N Ch J.out.size J.out.one;have p3:=Blk.Cn I p1 D;have p4:=Blk.setRow I N;have l:=below_setRow (g:=dC.heap.size) k (by have:=Q.size;omega) I;obtain⟨n,m,o,p,u,v⟩:=(E.out.A0 l).c;obtain⟨⟨r,-⟩,⟨s,-⟩⟩:=F.out.A0 l;obtain⟨⟨x,-⟩,⟨t,-⟩⟩:=G.out.A0 l;refine rd [9] (rc (fun K hK=>?_) .nil);go_simp
    (try go_wp2_with fail)
    refine hK.out _ _ (by(try dsimp only);go_keep) ?_;clear hK K hHeld;intro hHeld
    try simp only[Act.put,s1,s2,s3]
    refine wpAnyH_done (by kernel_rfl) ?_ _;go_wp2_with fail
    go_meet
    case rel=>exact⟨_,_,rfl,rfl,M.out.pg p3,J.out.pg p4,A7 L l⟩
  ·go_simp;have vE:=A9 w0 (.cells Tryz.zeroCells125 125);have R:Below z.heap.size z (w0.alloc (.cells Tryz.zeroCells125 125)):=A7 V vE;have rC:Blk (w0.alloc (.cells Tryz.zeroCells125 125)) w0.heap.size Tryz.zeroCells125:=heap_alloc_new _ _;obtain⟨n,m,o,p,u,v⟩:=(E.out.A0 R).c;obtain⟨⟨r,-⟩,⟨s,-⟩⟩:=F.out.A0 R;obtain⟨⟨x,-⟩,⟨t,-⟩⟩:=G.out.A0 R
   (try go_wp2_with fail)
   refine hK.out _ _ (by(try dsimp only);go_keep) ?_;clear hK K hHeld;intro hHeld
   try simp only[Act.put,s1,s2,s3]
   clear n m o p u v r s x t;generalize w0.alloc (.cells Tryz.zeroCells125 125)=fC at R rC hHeld vE ⊢;refine rd [2,6] (rc (fun K hK=>?_) (rc (fun K hK=>?_) .nil))
   ·go_simp;go_at_call 93;refine(EZ Y v1 Z v3 lo hi W _ _ _ ((Hp.out.A0 L).A0 R) (by have:=L.size;have:=R.size;omega) HR.out HT.out).mono ?_;rintro e nB ⟨rfl,aF⟩;rw[<-M.out.eq];have U:Below z.heap.size z nB:=A7 R aF;have iE:=rC.A0 aF;obtain⟨n,m,o,p,u,v⟩:=(E.out.A0 U).c;obtain⟨⟨r,-⟩,⟨s,-⟩⟩:=F.out.A0 U;obtain⟨⟨x,-⟩,⟨t,-⟩⟩:=G.out.A0 U
    (try go_wp2_with fail)
    refine hK.out _ _ (by(try dsimp only);go_keep) ?_;clear hK K hHeld;intro hHeld
    try simp only[Act.put,s1,s2,s3]
    clear n m o p u v r s x t;refine rd [5,6] (rc (fun K hK=>?_) (rc (fun K hK=>?_) .nil))
    ·go_simp;go_at_call 93;refine(EZ Y v1 Z v3 lo hi W _ _ _ ((Hp.out.A0 L).A0 U) (by have:=L.size;have:=U.size;omega) HR.out bA.out).mono ?_;rintro e oB ⟨rfl,bF⟩;rw[<-J.out.eq];have iB:Below z.heap.size z oB:=A7 U bF;have eG:=iE.A0 bF;obtain⟨n,m,o,p,u,v⟩:=(E.out.A0 iB).c;obtain⟨⟨r,-⟩,⟨s,-⟩⟩:=F.out.A0 iB;obtain⟨⟨x,-⟩,⟨t,-⟩⟩:=G.out.A0 iB
     (try go_wp2_with fail)
     refine hK.out _ _ (by(try dsimp only);go_keep) ?_;clear hK K hHeld;intro hHeld
     try simp only[Act.put,s1,s2,s3]
     clear n m o p u v r s x t;refine rd [6] (rc (fun K hK=>?_) .nil);go_simp;have sD:=A9 oB (.cells Tryz.zeroCells125 125);have jB:Below z.heap.size z (oB.alloc (.cells Tryz.zeroCells125 125)):=A7 iB sD;have gE:Blk (oB.alloc (.cells Tryz.zeroCells125 125)) oB.heap.size Tryz.zeroCells125:=heap_alloc_new _ _;have D:oB.heap.size≠w0.heap.size:=(by have:=eG.lt;omega);have fG:=eG.A0 sD;obtain⟨n,m,o,p,u,v⟩:=(E.out.A0 jB).c;obtain⟨⟨r,-⟩,⟨s,-⟩⟩:=F.out.A0 jB;obtain⟨⟨x,-⟩,⟨t,-⟩⟩:=G.out.A0 jB
     (try go_wp2_with fail)
     refine hK.out _ _ (by(try dsimp only);go_keep) ?_;clear hK K hHeld;intro hHeld
     try simp only[Act.put,s1,s2,s3]
     clear n m o p u v r s x t;generalize oB.alloc (.cells Tryz.zeroCells125 125)=w29 at jB gE fG hHeld sD ⊢;have y:=Cq _ _ H _ gE Ch M.out.size M.out.one;have p1:=Blk.setRow H gE;have N:=Blk.Cn H fG (Ne.symm D);have k:=below_setRow (g:=oB.heap.size) jB (by have:=iB.size;omega) H;obtain⟨n,m,o,p,u,v⟩:=(E.out.A0 k).c;obtain⟨⟨r,-⟩,⟨s,-⟩⟩:=F.out.A0 k;obtain⟨⟨x,-⟩,⟨t,-⟩⟩:=G.out.A0 k;refine rd [8] (rc (fun K hK=>?_) .nil);go_simp
     (try go_wp2_with fail)
     refine hK.out _ _ (by(try dsimp only);go_keep) ?_;clear hK K hHeld;intro hHeld
     try simp only[Act.put,s1,s2,s3]
     clear y;clear n m o p u v r s x t;have y:=Cq _ _ I _ N Ch J.out.size J.out.one;have p3:=Blk.Cn I p1 D;have p4:=Blk.setRow I N;have l:=below_setRow (g:=w0.heap.size) k (by have:=V.size;omega) I;obtain⟨n,m,o,p,u,v⟩:=(E.out.A0 l).c;obtain⟨⟨r,-⟩,⟨s,-⟩⟩:=F.out.A0 l;obtain⟨⟨x,-⟩,⟨t,-⟩⟩:=G.out.A0 l;refine rd [9] (rc (fun K hK=>?_) .nil);go_simp
     (try go_wp2_with fail)
     refine hK.out _ _ (by(try dsimp only);go_keep) ?_;clear hK K hHeld;intro hHeld
     try simp only[Act.put,s1,s2,s3]
     refine wpAnyH_done (by kernel_rfl) ?_ _;go_wp2_with fail
     go_meet
     case rel=>exact⟨_,_,rfl,rfl,M.out.pg p3,J.out.pg p4,A7 L l⟩
    ·go_simp;have tD:=A9 nB (.cells Tryz.zeroCells125 125);have jA:Below z.heap.size z (nB.alloc (.cells Tryz.zeroCells125 125)):=A7 U tD;have nF:Blk (nB.alloc (.cells Tryz.zeroCells125 125)) nB.heap.size Tryz.zeroCells125:=heap_alloc_new _ _;have D:nB.heap.size≠w0.heap.size:=(by have:=iE.lt;omega);have gG:=iE.A0 tD;obtain⟨n,m,o,p,u,v⟩:=(E.out.A0 jA).c;obtain⟨⟨r,-⟩,⟨s,-⟩⟩:=F.out.A0 jA;obtain⟨⟨x,-⟩,⟨t,-⟩⟩:=G.out.A0 jA
     (try go_wp2_with fail)
     refine hK.out _ _ (by(try dsimp only);go_keep) ?_;clear hK K hHeld;intro hHeld
     try simp only[Act.put,s1,s2,s3]
     clear n m o p u v r s x t;generalize nB.alloc (.cells Tryz.zeroCells125 125)=w30 at jA nF gG hHeld tD ⊢;refine rd [5] (rc (fun K hK=>?_) .nil);go_simp;go_at_call 93;refine(EZ Y v1 Z v3 lo hi W _ _ _ ((Hp.out.A0 L).A0 jA) (by have:=L.size;have:=jA.size;omega) HR.out bA.out).mono ?_;rintro e nJ ⟨rfl,vD⟩;rw[<-J.out.eq];have mC:Below z.heap.size z nJ:=A7 jA vD;have oF:=nF.A0 vD;have lI:=gG.A0 vD;obtain⟨n,m,o,p,u,v⟩:=(E.out.A0 mC).c;obtain⟨⟨r,-⟩,⟨s,-⟩⟩:=F.out.A0 mC;obtain⟨⟨x,-⟩,⟨t,-⟩⟩:=G.out.A0 mC
     (try go_wp2_with fail)
     refine hK.out _ _ (by(try dsimp only);go_keep) ?_;clear hK K hHeld;intro hHeld
     try simp only[Act.put,s1,s2,s3]
     clear n m o p u v r s x t;have y:=Cq _ _ H _ oF Ch M.out.size M.out.one;have p1:=Blk.setRow H oF;have N:=Blk.Cn H lI (Ne.symm D);have k:=below_setRow (g:=nB.heap.size) mC (by have:=U.size;omega) H;obtain⟨n,m,o,p,u,v⟩:=(E.out.A0 k).c;obtain⟨⟨r,-⟩,⟨s,-⟩⟩:=F.out.A0 k;obtain⟨⟨x,-⟩,⟨t,-⟩⟩:=G.out.A0 k;refine rd [8] (rc (fun K hK=>?_) .nil);go_simp
     (try go_wp2_with fail)
     refine hK.out _ _ (by(try dsimp only);go_keep) ?_;clear hK K hHeld;intro hHeld
     try simp only[Act.put,s1,s2,s3]
     clear y;clear n m o p u v r s x t;have y:=Cq _ _ I _ N Ch J.out.size J.out.one;have p3:=Blk.Cn I p1 D;have p4:=Blk.setRow I N;have l:=below_setRow (g:=w0.heap.size) k (by have:=V.size;omega) I;obtain⟨n,m,o,p,u,v⟩:=(E.out.A0 l).c;obtain⟨⟨r,-⟩,⟨s,-⟩⟩:=F.out.A0 l;obtain⟨⟨x,-⟩,⟨t,-⟩⟩:=G.out.A0 l;refine rd [9] (rc (fun K hK=>?_) .nil);go_simp
     (try go_wp2_with fail)
     refine hK.out _ _ (by(try dsimp only);go_keep) ?_;clear hK K hHeld;intro hHeld
     try simp only[Act.put,s1,s2,s3]
     refine wpAnyH_done (by kernel_rfl) ?_ _;go_wp2_with fail
     go_meet
     case rel=>exact⟨_,_,rfl,rfl,M.out.pg p3,J.out.pg p4,A7 L l⟩
   ·go_simp;have aE:=A9 fC (.cells Tryz.zeroCells125 125);have kA:Below z.heap.size z (fC.alloc (.cells Tryz.zeroCells125 125)):=A7 R aE;have pF:Blk (fC.alloc (.cells Tryz.zeroCells125 125)) fC.heap.size Tryz.zeroCells125:=heap_alloc_new _ _;have D:fC.heap.size≠w0.heap.size:=(by have:=rC.lt;omega);have iG:=rC.A0 aE;obtain⟨n,m,o,p,u,v⟩:=(E.out.A0 kA).c;obtain⟨⟨r,-⟩,⟨s,-⟩⟩:=F.out.A0 kA;obtain⟨⟨x,-⟩,⟨t,-⟩⟩:=G.out.A0 kA
    (try go_wp2_with fail)
    refine hK.out _ _ (by(try dsimp only);go_keep) ?_;clear hK K hHeld;intro hHeld
    try simp only[Act.put,s1,s2,s3]
    clear n m o p u v r s x t;generalize fC.alloc (.cells Tryz.zeroCells125 125)=w32 at kA pF iG hHeld aE ⊢;refine rd [2] (rc (fun K hK=>?_) .nil);go_simp;go_at_call 93;refine(EZ Y v1 Z v3 lo hi W _ _ _ ((Hp.out.A0 L).A0 kA) (by have:=L.size;have:=kA.size;omega) HR.out HT.out).mono ?_;rintro e oJ ⟨rfl,bE⟩;rw[<-M.out.eq];have rA:Below z.heap.size z oJ:=A7 kA bE;have dI:=pF.A0 bE;have mI:=iG.A0 bE;obtain⟨n,m,o,p,u,v⟩:=(E.out.A0 rA).c;obtain⟨⟨r,-⟩,⟨s,-⟩⟩:=F.out.A0 rA;obtain⟨⟨x,-⟩,⟨t,-⟩⟩:=G.out.A0 rA
    (try go_wp2_with fail)
    refine hK.out _ _ (by(try dsimp only);go_keep) ?_;clear hK K hHeld;intro hHeld
    try simp only[Act.put,s1,s2,s3]
    clear n m o p u v r s x t;refine rd [5] (rc (fun K hK=>?_) .nil);go_simp;go_at_call 93;refine(EZ Y v1 Z v3 lo hi W _ _ _ ((Hp.out.A0 L).A0 rA) (by have:=L.size;have:=rA.size;omega) HR.out bA.out).mono ?_;rintro e pJ ⟨rfl,cE⟩;rw[<-J.out.eq];have nC:Below z.heap.size z pJ:=A7 rA cE;have rF:=dI.A0 cE;have nI:=mI.A0 cE;obtain⟨n,m,o,p,u,v⟩:=(E.out.A0 nC).c;obtain⟨⟨r,-⟩,⟨s,-⟩⟩:=F.out.A0 nC;obtain⟨⟨x,-⟩,⟨t,-⟩⟩:=G.out.A0 nC
    (try go_wp2_with fail)
    refine hK.out _ _ (by(try dsimp only);go_keep) ?_;clear hK K hHeld;intro hHeld
    try simp only[Act.put,s1,s2,s3]
    clear n m o p u v r s x t;have y:=Cq _ _ H _ rF Ch M.out.size M.out.one;have p1:=Blk.setRow H rF;have N:=Blk.Cn H nI (Ne.symm D);have k:=below_setRow (g:=fC.heap.size) nC (by have:=R.size;omega) H;obtain⟨n,m,o,p,u,v⟩:=(E.out.A0 k).c;obtain⟨⟨r,-⟩,⟨s,-⟩⟩:=F.out.A0 k;obtain⟨⟨x,-⟩,⟨t,-⟩⟩:=G.out.A0 k;refine rd [8] (rc (fun K hK=>?_) .nil);go_simp
    (try go_wp2_with fail)
    refine hK.out _ _ (by(try dsimp only);go_keep) ?_;clear hK K hHeld;intro hHeld
    try simp only[Act.put,s1,s2,s3]
    clear y;clear n m o p u v r s x t;have y:=Cq _ _ I _ N Ch J.out.size J.out.one;have p3:=Blk.Cn I p1 D;have p4:=Blk.setRow I N;have l:=below_setRow (g:=w0.heap.size) k (by have:=V.size;omega) I;obtain⟨n,m,o,p,u,v⟩:=(E.out.A0 l).c;obtain⟨⟨r,-⟩,⟨s,-⟩⟩:=F.out.A0 l;obtain⟨⟨x,-⟩,⟨t,-⟩⟩:=G.out.A0 l;refine rd [9] (rc (fun K hK=>?_) .nil);go_simp
    (try go_wp2_with fail)
    refine hK.out _ _ (by(try dsimp only);go_keep) ?_;clear hK K hHeld;intro hHeld
    try simp only[Act.put,s1,s2,s3]
    refine wpAnyH_done (by kernel_rfl) ?_ _;go_wp2_with fail
    go_meet
    case rel=>exact⟨_,_,rfl,rfl,M.out.pg p3,J.out.pg p4,A7 L l⟩
 case rest=>
  obtain⟨A,B,rfl,rfl,lH,mH,kE⟩:=hcut;have tI:=AT lH;have vI:=AT mH;clear lH mH;obtain⟨i0,vH,oG⟩:=Option.map_eq_some_iff.1 zFW;simp only[Prod.mk.injEq]at oG;have HI:=AT (And.intro vH oG);clear vH oG;go_wp2
  go_loopw [9,17] (fun vo i wr=>∃j:Nat,j<=64/\i = .int .i64 j/\DU wr wc.heap.size vo (FJ W.pool a b c d j)/\Below wc.heap.size wc wr) (fun _ i _=>64 - (intOf i).toNat)
  case atStart=>exact⟨0,Nat.zero_le _,rfl,DU.nil _ _,Below.refl _ _⟩
  case round=>
   obtain⟨j,hj,rfl,cF,sC⟩:=hrel;have oA:=AT cF;clear cF;by_cases lE:j<64
   ·have dK:(j:Int)<64:=(by omega);obtain⟨⟨n,-⟩,⟨m,-⟩⟩:=(tI.out.A0 sC) j lE;obtain⟨⟨r,-⟩,⟨s,-⟩⟩:=(vI.out.A0 sC) j lE;rw[Vp W.pool a b lE]at n m;rw[Vp W.pool c d lE]at r s;have cK:=RL W.pool a b c d j;have HN:=AT (fun (h:GV W.pool a b c d j)=>Ya h);have HE:=AT (fun (h:¬GV W.pool a b c d j)=>RF h);unfold GV at HN HE;generalize CT W.pool a b j=pa at *;generalize Cb W.pool a b j=pb at *;generalize CT W.pool c d j=pc at *;generalize Cb W.pool c d j=pd at *;go_wp2_with fail;by_cases h1:pa=pc
    ·subst h1;by_cases h2:pb=pd
     ·subst h2;have HC:=AT (HE.out (fun h=>h ⟨rfl,rfl⟩));clear HN HE;go_region_held3 (fun w'=>w'.cell? ⟨A,j*2,none⟩=some (.int .i64 pa)/\w'.cell? ⟨A,j*2+1,none⟩=some (.int .i64 pb)/\w'.cell? ⟨B,j*2,none⟩=some (.int .i64 pa)/\w'.cell? ⟨B,j*2+1,none⟩=some (.int .i64 pb)) (go_keep)
       (fail)
      go_wp2;go_roundw
      case rel=>exact⟨j+1,by omega,by go_num,by rw[HC.out];exact oA.out.A0 (Below.refl _ _).drew,sC.drew⟩
      case measure=>simp[intOf];omega
     have HC:=AT (HN.out (fun h=>h2 h.2));have e1:(pb == pd)=false:=(by simp[h2]);have e2:(pb != pd)=true:=(by simp[h2]);have e3:decide (pb=pd)=false:=(by simp[h2]);clear HN HE h2;go_region_held3 (fun w'=>w'.cell? ⟨A,j*2,none⟩=some (.int .i64 pa)/\w'.cell? ⟨A,j*2+1,none⟩=some (.int .i64 pb)/\w'.cell? ⟨B,j*2,none⟩=some (.int .i64 pa)/\w'.cell? ⟨B,j*2+1,none⟩=some (.int .i64 pd)) (go_keep)
      (fail)
     have aC:=sC.drew;have O:=AT (oA.out.A0 (Below.refl _ _).drew);clear n m r s;generalize wr.drew=wq at aC O ⊢;have vB:=A9 wq (.cells #[.int .i64 (j:Int)] 2);have dA:=AT (O.out.A0 vB);have aD:=A7 aC vB;have gJ:=aC.size;have fJ:=kE.size;have jG:=AT (World.news_of_block (heap_alloc_last wq (.cells #[.int .i64 (j:Int)] 2)));have kG:=AT (show(wq.alloc (.cells #[.int .i64 (j:Int)] 2)).heap.size=wq.heap.size+1 from World.size_alloc _ _);clear vB oA O;go_wp2_with (first
      | (at_builtin;refine wpList_append_lies _ rfl _ _ 24 rfl wc.heap.size 2 i0 (.int .i64 0) 1 8 (by kernel_rfl) HI.out.1 HI.out.2.1 HI.out.2.2.1 HI.out.2.2.2 rfl (by decide) _ _ _ rfl dA.out.1 ⟨wq.heap.size,0,none⟩ 1 1 [.int .i64 (j:Int)] rfl rfl jG.out (by simp[Value.oneCell']) (by decide) (by unfold maxLen;omega) (by omega) (by rw[kG.out];omega) _ rfl ?_;intro g' kH w8 bC vA oH aI)
      | go_in)
     go_roundw
     case rel=>exact⟨j+1,by omega,by go_num,by rw[HC.out];exact DU.next bC,aD.grown vA aD.size (fun q hq=>(dA.out.lt hq).1)⟩
     case measure=>simp[intOf];omega
    ·have HC:=AT (HN.out (fun h=>h1 h.1));have e1:(pa == pc)=false:=(by simp[h1]);have e2:(pa != pc)=true:=(by simp[h1]);have e3:decide (pa=pc)=false:=(by simp[h1]);clear HN HE h1;go_region_held3 (fun w'=>w'.cell? ⟨A,j*2,none⟩=some (.int .i64 pa)/\w'.cell? ⟨A,j*2+1,none⟩=some (.int .i64 pb)/\w'.cell? ⟨B,j*2,none⟩=some (.int .i64 pc)/\w'.cell? ⟨B,j*2+1,none⟩=some (.int .i64 pd)) (go_keep)
      (fail)
     have aC:=sC.drew;have O:=AT (oA.out.A0 (Below.refl _ _).drew);clear n m r s;generalize wr.drew=wq at aC O ⊢;have vB:=A9 wq (.cells #[.int .i64 (j:Int)] 2);have dA:=AT (O.out.A0 vB);have aD:=A7 aC vB;have gJ:=aC.size;have fJ:=kE.size;have jG:=AT (World.news_of_block (heap_alloc_last wq (.cells #[.int .i64 (j:Int)] 2)));have kG:=AT (show(wq.alloc (.cells #[.int .i64 (j:Int)] 2)).heap.size=wq.heap.size+1 from World.size_alloc _ _);clear vB oA O;go_wp2_with (first
      | (at_builtin;refine wpList_append_lies _ rfl _ _ 24 rfl wc.heap.size 2 i0 (.int .i64 0) 1 8 (by kernel_rfl) HI.out.1 HI.out.2.1 HI.out.2.2.1 HI.out.2.2.2 rfl (by decide) _ _ _ rfl dA.out.1 ⟨wq.heap.size,0,none⟩ 1 1 [.int .i64 (j:Int)] rfl rfl jG.out (by simp[Value.oneCell']) (by decide) (by unfold maxLen;omega) (by omega) (by rw[kG.out];omega) _ rfl ?_;intro g' kH w8 bC vA oH aI)
      | go_in)
     go_roundw
     case rel=>exact⟨j+1,by omega,by go_num,by rw[HC.out];exact DU.next bC,aD.grown vA aD.size (fun q hq=>(dA.out.lt hq).1)⟩
     case measure=>simp[intOf];omega
   ·obtain rfl:j=64:=(by omega);go_wp2;go_ret;exact⟨_,rfl,oA.out.mono kE.size,A7 kE sC⟩
open Classical in
noncomputable def ID(W:A5)(x:ByteArray):List Int:=if Ak W then FJ W.pool (Am W x).rs (Am W x).rb 0 0 64 else []
variable{x:ByteArray}
theorem Yj{W:A5}(h:¬Ak W):ID W x = []:=if_neg h
theorem Rj{W:A5}(h:Ak W):ID W x=FJ W.pool (Am W x).rs (Am W x).rb 0 0 64:=if_pos h
theorem zBi(W:A5)(x:ByteArray):(ID W x).length<=64:=by
 by_cases a:Ak W
 ·rw[Rj a];exact RL _ _ _ _ _ _
 ·rw[Yj a];exact Nat.zero_le _
end Go.Proofs.YtibhefllijahkaaGreatDoor
