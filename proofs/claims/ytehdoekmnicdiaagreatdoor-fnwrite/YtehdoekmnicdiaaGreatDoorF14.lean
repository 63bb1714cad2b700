/- A part of the proof. -/
import Derived.Test.YtehdoekmnicdiaaGreatDoorF13
set_option linter.unusedVariables false
set_option maxRecDepth 20000
set_option maxHeartbeats 4000000
namespace Go.Proofs.YtehdoekmnicdiaaGreatDoor
open Go.RowKit
theorem zFP(w:World)(a b e g:Value)(f:Nat->Value)(c d h j:TypeId) :
 Ac ((((w.alloc (.cells #[a,b] c)).alloc (.cells (Bt f) d)).alloc (.cells #[e,g] h)).alloc (.cells #[.slice none 0 0,.slice none 0 0,.int .i64 0,.int .i64 0,.slice none 0 0,.int .i64 0] j)) w.heap.size a b/\
 C9 ((((w.alloc (.cells #[a,b] c)).alloc (.cells (Bt f) d)).alloc (.cells #[e,g] h)).alloc (.cells #[.slice none 0 0,.slice none 0 0,.int .i64 0,.int .i64 0,.slice none 0 0,.int .i64 0] j)) (w.heap.size+1) f/\
 Ac ((((w.alloc (.cells #[a,b] c)).alloc (.cells (Bt f) d)).alloc (.cells #[e,g] h)).alloc (.cells #[.slice none 0 0,.slice none 0 0,.int .i64 0,.int .i64 0,.slice none 0 0,.int .i64 0] j)) (w.heap.size+1+1) e g/\
 As ((((w.alloc (.cells #[a,b] c)).alloc (.cells (Bt f) d)).alloc (.cells #[e,g] h)).alloc (.cells #[.slice none 0 0,.slice none 0 0,.int .i64 0,.int .i64 0,.slice none 0 0,.int .i64 0] j)) (w.heap.size+1+1+1) (.slice none 0 0) (.slice none 0 0) (.int .i64 0) (.int .i64 0) (.slice none 0 0) (.int .i64 0)/\
 Below w.heap.size w ((((w.alloc (.cells #[a,b] c)).alloc (.cells (Bt f) d)).alloc (.cells #[e,g] h)).alloc (.cells #[.slice none 0 0,.slice none 0 0,.int .i64 0,.int .i64 0,.slice none 0 0,.int .i64 0] j))/\
 ((((w.alloc (.cells #[a,b] c)).alloc (.cells (Bt f) d)).alloc (.cells #[e,g] h)).alloc (.cells #[.slice none 0 0,.slice none 0 0,.int .i64 0,.int .i64 0,.slice none 0 0,.int .i64 0] j)).heap.size=w.heap.size+4:=by
 have o:=AC w (.cells #[a,b] c);have m:=AC (w.alloc (.cells #[a,b] c)) (.cells (Bt f) d);have l:=AC ((w.alloc (.cells #[a,b] c)).alloc (.cells (Bt f) d)) (.cells #[e,g] h);have k:=AC (((w.alloc (.cells #[a,b] c)).alloc (.cells (Bt f) d)).alloc (.cells #[e,g] h)) (.cells #[.slice none 0 0,.slice none 0 0,.int .i64 0,.int .i64 0,.slice none 0 0,.int .i64 0] j);refine⟨(((Ac.new w a b c).A0 m).A0 l).A0 k,?_,?_,?_,A7 (A7 (A7 o m) l) k,by simp⟩
 ·have p:C9 ((w.alloc (.cells #[a,b] c)).alloc (.cells (Bt f) d)) (w.heap.size+1) f:=fun i hi=>by
   have n:=heap_alloc_new (w.alloc (.cells #[a,b] c)) (.cells (Bt f) d);rw[World.size_alloc]at n;refine Au (i:=i) n ?_;simp[Bt,hi]
  exact(p.A0 l).A0 k
 ·have:=(Ac.new ((w.alloc (.cells #[a,b] c)).alloc (.cells (Bt f) d)) e g h).A0 k;rw[World.size_alloc,World.size_alloc]at this;exact this
 ·have:=As.new (((w.alloc (.cells #[a,b] c)).alloc (.cells (Bt f) d)).alloc (.cells #[e,g] h)) (.slice none 0 0) (.slice none 0 0) (.int .i64 0) (.int .i64 0) (.slice none 0 0) (.int .i64 0) j;rw[World.size_alloc,World.size_alloc,World.size_alloc]at this;exact this
def zH(p:A5)(xs xb:Int)(n:Nat)(S:Nat->Dm)(o:Value)(w:World)(k:Nat)(wr:World):Prop:=
 (∀j,j<=k->(S j).code=0)/\∃s0 s1,Ac wr w.heap.size s0 s1/\C6 wr 0 wr.heap.size s0 s1 (S k).pool/\(0<k->Bo wr (w.heap.size+5) wr.heap.size s0 s1 (S k).pool)/\
  Ac wr (w.heap.size+4) (.int .i64 (S k).ps) (.int .i64 (S k).pb)/\C9 wr (w.heap.size+1) (BL p xs xb n 2 3 o)/\
  As wr (w.heap.size+1+1+1) (.slice none 0 0) (.slice none 0 0) (.int .i64 0) (.int .i64 0) (.slice none 0 0) (.int .i64 0)/\w.heap.size+5<=wr.heap.size/\Below w.heap.size w wr
variable{w:World}{n:Nat}
theorem CD.all{lo hi:Nat}{v:Value}{f:Nat->AG}(h:CD w lo hi v n f):CD w 0 w.heap.size v n f:=by
 obtain⟨k,a,cap,hv,c,m⟩:=h;refine⟨k,a,cap,hv,c,fun hn=>?_⟩;obtain⟨b,off,l,o,p,d⟩:=m hn;refine⟨b,off,l,Nat.zero_le _,?_,fun i hi=>?_⟩
 ·obtain⟨e,v1,g,c0,_⟩:=d 0 hn;exact AZ c0
 ·obtain⟨e,v1,g,c0,c1,j,hs⟩:=d i hi;exact⟨e,v1,g,c0,c1,j,hs.all⟩
variable{p:A5}
theorem C6.all{lo hi:Nat}{v0 v1:Value}(h:C6 w lo hi v0 v1 p):C6 w 0 w.heap.size v0 v1 p:=⟨h.1.all,h.2.all⟩
theorem Rh(v0 v1:Value)(lo hi:Nat)(p q:A5)(xs xb x y b:Int)(n:Nat)(o:Value)(w:World)(h1:C6 w lo hi v0 v1 q)(hn:n<64)(hq:An q+16<=1048576)(hr:At w 0 o (BN p xs xb n 3)) :
 Calls Tryz.prog 55 #[.agg #[v0,v1],.agg (Bt (BL p xs xb n 2 3 o)),.agg #[.int .i64 x,.int .i64 y],.int .i64 b] w fun e w'=>
  ((Bn p xs xb n b ⟨q,x,y,0⟩).code≠0/\e = .returned (.agg #[.slice none 0 0,.slice none 0 0,.int .i64 0,.int .i64 0,.slice none 0 0,.int .i64 (Bn p xs xb n b ⟨q,x,y,0⟩).code])/\Below w.heap.size w w')\/
  ((Bn p xs xb n b ⟨q,x,y,0⟩).code=0/\∃s0 s1,e = .returned (.agg #[s0,s1,.int .i64 (layS p xs xb n b ⟨q,x,y,0⟩ 2).ps,.int .i64 (layS p xs xb n b ⟨q,x,y,0⟩ 2).pb,o,.int .i64 0])/\Bo w' w.heap.size w'.heap.size s0 s1 (layS p xs xb n b ⟨q,x,y,0⟩ 2).pool/\Below w.heap.size w w'):=by
 have Hp:=A9 h1;obtain⟨a,c,a',c',rfl,rfl⟩:=h1.form;have Hq:=A9 hq;have Hr:=A9 hr;clear h1 hq hr;have cD:=zFP w (.slice a q.n c) (.slice a' q.hn c') (.int .i64 x) (.int .i64 y) (BL p xs xb n 2 3 o) 26 112 38 69;go_enter Tryz.func55,Tryz.ntmps55;go_upto_region 1 with fail;generalize (((w.alloc (.cells #[.slice a q.n c,.slice a' q.hn c'] 26)).alloc (.cells (Bt (BL p xs xb n 2 3 o)) 112)).alloc (.cells #[.int .i64 x,.int .i64 y] 38)).alloc (.cells #[.slice none 0 0,.slice none 0 0,.int .i64 0,.int .i64 0,.slice none 0 0,.int .i64 0] 69)=W at cD ⊢;obtain⟨hB,hW,hX,hR,sB,hz⟩:=cD;have HB:=A9 hB;have HW:=A9 hW;have HR:=A9 hR;obtain⟨⟨x0,x1⟩,⟨x2,x3⟩⟩:=hX;have g:=AC W (.cells #[.int .i64 x,.int .i64 y] 38);have kC:=A9 (show Ac (W.alloc (.cells #[.int .i64 x,.int .i64 y] 38)) (w.heap.size+4) (.int .i64 x) (.int .i64 y)from hz▸Ac.new W (.int .i64 x) (.int .i64 y) 38);clear hB hW hR;go_wp2_with fail;have oC:Hid (zH p xs xb n (layS p xs xb n b ⟨q,x,y,0⟩) o w 0 (W.alloc (.cells #[.int .i64 x,.int .i64 y] 38))):=by
  refine⟨fun j hj=>?_,_,_,HB.out.A0 g,((Hp.out.A0 sB).A0 g).all,fun h=>absurd h (Nat.lt_irrefl _),kC.out,HW.out.A0 g,HR.out.A0 g,by rw[World.size_alloc];omega,A7 sB g⟩;obtain rfl:j=0:=(by omega);rfl
 have mD:=A9 (Qr p xs xb n b ⟨q,x,y,0⟩);clear g kC HB HW HR x0 x1 x2 x3 sB hz
 go_loopw [15] (fun i wr=>∃k:Nat,k<=2/\i = .int .i64 k/\zH p xs xb n (layS p xs xb n b ⟨q,x,y,0⟩) o w k wr) (fun i _=>2 - (intOf i).toNat)
 case atStart=>exact⟨0,by omega,rfl,oC.out⟩
 case round=>
  obtain⟨k,P,rfl,jA,s0,s1,rC,nB,tC,vC,bD,aD,aG,sA⟩:=hrel;have C:=A9 jA;have lC:=A9 nB;have mC:=A9 tC;have jB:=A9 rC;have kB:=A9 vC;have nA:=A9 bD;have lA:=A9 aD;obtain⟨ra,bB,vA,aB,rfl,rfl⟩:=nB.form;clear jA nB tC rC vC bD aD oC;obtain⟨⟨x0,x1⟩,⟨x2,x3⟩⟩:=jB.out;obtain⟨⟨y0,y1⟩,⟨y2,y3⟩⟩:=kB.out;by_cases nD:k<2
  ·obtain⟨L,sC⟩:∃L,L=1 - k:=⟨_,rfl⟩;have hL:L<2:=(by omega);have rF:(L:Int)<2:=(by omega);have aF:(k:Int)<2:=(by omega);have vE:(1:Int) - (k:Int)=(L:Int):=(by omega);have jD:Hid (layS p xs xb n b ⟨q,x,y,0⟩ (k+1)=JJ p xs xb n b (layS p xs xb n b ⟨q,x,y,0⟩ k) L):=(by rw[sC];rfl);have lD:=A9 (mD.out k);have nC:Hid ((Tryz.prog.info? 108).map (·.size)=some (Aj (Ct p xs xb n L)).size):=by
    show _=_;rw[Cy];exact GZ
   have kD:Hid ((Tryz.prog.info? 108).map (·.size)=some (Aj (Ct p xs xb n L)).toList.length):=by
    show _=_;rw[GZ];simp[Aj]
   clear sC;go_upto_region 7 with(first
    | (refine wpList_load_mid rfl 108 (.tmp 22) rfl (w.heap.size+1) (2+L*16) rfl (Aj (Ct p xs xb n L)).toList _ (zDR hL nA.out) FI rfl kD.out ?_)
    | (refine wpList_store_row rfl 108 (.tmp 12) (.tmp 23) rfl wr.heap.size (Aj (Ct p xs xb n L)) rfl rfl 108 #[Value.int .i64 0,Value.int .i64 0,Value.int .i64 0,Value.int .i64 0,Value.int .i64 0,Value.int .i64 0,Value.int .i64 0,Value.int .i64 0,Value.int .i64 0,Value.int .i64 0,Value.int .i64 0,Value.int .i64 0,Value.int .i64 0,Value.int .i64 0,Value.int .i64 0,Value.int .i64 0] (heap_alloc_last _ _) nC.out (by rw[Cy];rfl) (IE _) ?_;rw[World.setRow_alloc_new]))
   have g:=AC wr (.cells (Aj (Ct p xs xb n L)) 108);have dA:Hid ((wr.alloc (.cells (Aj (Ct p xs xb n L)) 108)).heap[wr.heap.size]?=some (.cells (Aj (Ct p xs xb n L)) 108)):=heap_alloc_last _ _;have pA:Hid (wr.heap.size<(wr.alloc (.cells (Aj (Ct p xs xb n L)) 108)).heap.size):=(by show _<_;rw[World.size_alloc];omega);have V:=A9 (lC.out.A0 g);have U:=A9 (jB.out.A0 g);have G:=A9 (kB.out.A0 g);have I:=A9 (nA.out.A0 g);have Z:=A9 (lA.out.A0 g);have M:=A7 sA g;clear x0 x1 x2 x3 y0 y1 y2 y3 g sA lC mC jB kB nA lA;generalize wr.alloc (.cells (Aj (Ct p xs xb n L)) 108)=wA at dA pA V U G I Z M ⊢;have rD:=NC (n:=n) (L:=L) hn;have bF:((plc n L:Nat):Int)<8:=(by omega);obtain⟨⟨y0,y1⟩,⟨y2,y3⟩⟩:=G.out;obtain⟨z0,_⟩:=I.out L (by omega);rw[Y7 p xs xb n _ _ _ hL]at z0;obtain⟨c0,c1⟩:=Au (i:=plc n L*2) dA.out (ED (Ct p xs xb n L) (by omega));obtain⟨c2,c3⟩:=Au (i:=plc n L*2+1) dA.out (ED (Ct p xs xb n L) (by omega));have fA:Hid (∀(u v:Value) (s:World),s=((wA.drew.setCell ⟨wr.heap.size,plc n L*2,none⟩ u).setCell ⟨wr.heap.size,plc n L*2+1,none⟩ v)->(s.cell? ⟨w.heap.size+1,L,none⟩=some (.int .i64 ((plc n L:Nat):Int))/\s.cell? ⟨w.heap.size+4,0,none⟩=some (.int .i64 (layS p xs xb n b ⟨q,x,y,0⟩ k).ps)/\s.cell? ⟨w.heap.size+4,1,none⟩=some (.int .i64 (layS p xs xb n b ⟨q,x,y,0⟩ k).pb))):=by
    intro u v s e5;have R:AE (fun k=>k=wr.heap.size) wA.drew ((wA.drew.setCell ⟨wr.heap.size,plc n L*2,none⟩ u).setCell ⟨wr.heap.size,plc n L*2+1,none⟩ v):=((AE.refl (fun k=>k=wr.heap.size) wA.drew).setCell (p:=⟨wr.heap.size,plc n L*2,none⟩) rfl _).setCell (p:=⟨wr.heap.size,plc n L*2+1,none⟩) rfl _;have vB:wr.heap.size<wA.drew.heap.size:=pA.out;rw[e5,R.cell (by omega) (by omega),R.cell (by omega) (by omega),R.cell (by omega) (by omega)];exact⟨z0,y0,y2⟩
   simp only[Act.put];refine wp_region_held_drew (S:=(fun w'=>w'.cell? ⟨w.heap.size+1,L,none⟩=some (.int .i64 ((plc n L:Nat):Int))/\w'.cell? ⟨w.heap.size+4,0,none⟩=some (.int .i64 (layS p xs xb n b ⟨q,x,y,0⟩ k).ps)/\w'.cell? ⟨w.heap.size+4,1,none⟩=some (.int .i64 (layS p xs xb n b ⟨q,x,y,0⟩ k).pb))) (by kernel_rfl) ?_ (fun hHeld=>?_)
   ·(try dsimp only)
    go_keep
   refine tk 0 (h:=tk 1 (h:=tk 2 (h:=tk 3 (h:=tk 4 (h:=tk 5 (h:=?_))))));refine rd [6] (rc (fun K hK=>?_) .nil);go_simp
   (try go_wp2_with fail)
   refine hK.out _ _ (by(try dsimp only);exact fA.out _ _ _ rfl) ?_;clear hK K hHeld;intro hHeld
   try simp only[Act.put,s1,s2,s3]
   refine wpAnyH_done (by kernel_rfl) ?_ _;have R:AE (fun k=>k=wr.heap.size) wA ((wA.setCell ⟨wr.heap.size,plc n L*2,none⟩ (.int .i64 (layS p xs xb n b ⟨q,x,y,0⟩ k).ps)).setCell ⟨wr.heap.size,plc n L*2+1,none⟩ (.int .i64 (layS p xs xb n b ⟨q,x,y,0⟩ k).pb)).drew:=by
    have h:AE (fun k=>k=wr.heap.size) wA ((wA.setCell ⟨wr.heap.size,plc n L*2,none⟩ (.int .i64 (layS p xs xb n b ⟨q,x,y,0⟩ k).ps)).setCell ⟨wr.heap.size,plc n L*2+1,none⟩ (.int .i64 (layS p xs xb n b ⟨q,x,y,0⟩ k).pb)):=((AE.refl (fun k=>k=wr.heap.size) wA).setCell (p:=⟨wr.heap.size,plc n L*2,none⟩) rfl _).setCell (p:=⟨wr.heap.size,plc n L*2+1,none⟩) rfl _;exact⟨h.os,h.tape,h.output,h.size,h.block⟩
   have eA:Hid (((wA.setCell ⟨wr.heap.size,plc n L*2,none⟩ (.int .i64 (layS p xs xb n b ⟨q,x,y,0⟩ k).ps)).setCell ⟨wr.heap.size,plc n L*2+1,none⟩ (.int .i64 (layS p xs xb n b ⟨q,x,y,0⟩ k).pb)).drew.heap[wr.heap.size]?=some (.cells (Aj (mix (AX p xs xb n L (layS p xs xb n b ⟨q,x,y,0⟩ k).ps) (AW p xs xb n L (layS p xs xb n b ⟨q,x,y,0⟩ k).pb))) 108 (0,0))):=by
    have:=P5 (o:=plc n L*2+1) (.int .i64 (layS p xs xb n b ⟨q,x,y,0⟩ k).pb) (P5 (o:=plc n L*2) (.int .i64 (layS p xs xb n b ⟨q,x,y,0⟩ k).ps) dA.out);rw[XW _ _ rD,zGC p xs xb n L _ _ hn]at this;exact this
   have vB:=pA.out;have X:=A9 (V.out.same (R.same (lo:=0) (hi:=wr.heap.size) (by omega) (by intro k P;omega)));have E:=A9 (U.out.AD R (by omega));have Y:=A9 (G.out.AD R (by omega));have bA:=A9 (I.out.AD R (by omega));have aA:=A9 (Z.out.AD R (by omega));have iA:=M.trans (R.A0 (B:=w.heap.size) M.size (by intro k P;omega));have sD:=Nat.lt_of_lt_of_le vB R.size;clear R vB V U G I Z M dA pA fA y0 y1 y2 y3 z0 c0 c1 c2 c3;generalize ((wA.setCell ⟨wr.heap.size,plc n L*2,none⟩ (.int .i64 (layS p xs xb n b ⟨q,x,y,0⟩ k).ps)).setCell ⟨wr.heap.size,plc n L*2+1,none⟩ (.int .i64 (layS p xs xb n b ⟨q,x,y,0⟩ k).pb)).drew=wB at eA X E Y bA aA iA sD ⊢;have lB:Hid ((Tryz.prog.info? 108).map (·.size)=some (Aj (mix (AX p xs xb n L (layS p xs xb n b ⟨q,x,y,0⟩ k).ps) (AW p xs xb n L (layS p xs xb n b ⟨q,x,y,0⟩ k).pb))).size):=by
    show _=_;rw[Cy];exact GZ
   obtain⟨⟨x0,x1⟩,⟨x2,x3⟩⟩:=E.out;go_wp2_with (first
    | (refine wpList_load_row rfl 108 (.tmp 12) rfl wr.heap.size rfl 108 (Aj (mix (AX p xs xb n L (layS p xs xb n b ⟨q,x,y,0⟩ k).ps) (AW p xs xb n L (layS p xs xb n b ⟨q,x,y,0⟩ k).pb))) (0,0) _ eA.out FI rfl lB.out ?_)
    | fail)
   refine(zC1 _ _ 0 wr.heap.size (layS p xs xb n b ⟨q,x,y,0⟩ k).pool _ _ b wB X.out (by have h1:=lD.out;have h2:=Hq.out;have h3:An (Dm.mk q x y 0).pool=An q:=rfl;omega)).mono ?_;rintro e wC ⟨t0,t1,rfl,tA,rB⟩;have D:Hid (layS p xs xb n b ⟨q,x,y,0⟩ (k+1)=GP (layS p xs xb n b ⟨q,x,y,0⟩ k).pool (AX p xs xb n L (layS p xs xb n b ⟨q,x,y,0⟩ k).ps) (AW p xs xb n L (layS p xs xb n b ⟨q,x,y,0⟩ k).pb) b):=jD.out;generalize GP (layS p xs xb n b ⟨q,x,y,0⟩ k).pool (AX p xs xb n L (layS p xs xb n b ⟨q,x,y,0⟩ k).ps) (AW p xs xb n L (layS p xs xb n b ⟨q,x,y,0⟩ k).pb) b=od at tA D ⊢;obtain⟨t,z,d,f,rfl,rfl⟩:=tA.form;have gA:=AC wC (.cells #[.slice t od.pool.n z,.slice d od.pool.hn f,.int .i64 od.ps,.int .i64 od.pb,.int .i64 od.code] 104);have N:=A7 rB gA;have oA:=A9 (tA.A0 gA);have mA:=A9 (Dp.new wC (.slice t od.pool.n z) (.slice d od.pool.hn f) (.int .i64 od.ps) (.int .i64 od.pb) (.int .i64 od.code) 104);have F:=A9 (E.out.A0 N);have H:=A9 (Y.out.A0 N);have cA:=A9 (bA.out.A0 N);have A:=A9 (aA.out.A0 N);have m:=A7 iA N;have tD:=rB.size;have Q:wC.heap.size<(wC.alloc (.cells #[.slice t od.pool.n z,.slice d od.pool.hn f,.int .i64 od.ps,.int .i64 od.pb,.int .i64 od.code] 104)).heap.size:=(by rw[World.size_alloc];omega);clear tA rB gA N x0 x1 x2 x3 eA X E Y bA aA iA;go_upto_region 9 with fail;generalize wC.alloc (.cells #[.slice t od.pool.n z,.slice d od.pool.hn f,.int .i64 od.ps,.int .i64 od.pb,.int .i64 od.code] 104)=wD at oA mA F H cA A m Q ⊢;generalize wC.heap.size=T at oA mA tD Q ⊢;obtain⟨⟨t0,t1⟩,⟨t2,t3⟩,⟨t4,t5⟩,⟨t6,t7⟩,⟨t8,t9⟩⟩:=mA.out;by_cases hc:od.code=0
   ·have oD:(od.code != 0)=false:=(by simp[hc]);have Hc:=A9 hc;clear hc;go_upto_region 11 with fail;obtain⟨⟨x0,x1⟩,⟨x2,x3⟩⟩:=F.out;obtain⟨⟨y0,y1⟩,⟨y2,y3⟩⟩:=H.out;have vF:w.heap.size≠w.heap.size+4:=(by omega);have r:Hid (∀(u v:Value) (s:World),s=((wD.drew.setCell ⟨w.heap.size,0,none⟩ u).setCell ⟨w.heap.size,1,none⟩ v)->(s.cell? ⟨T,0,none⟩=some (.slice t od.pool.n z)/\s.cell? ⟨T,1,none⟩=some (.slice d od.pool.hn f)/\s.cell? ⟨T,2,none⟩=some (.int .i64 od.ps)/\s.cell? ⟨T,3,none⟩=some (.int .i64 od.pb))):=by
     intro u v s e5;have dD:T<wD.drew.heap.size:=Q;have h:=fun o=>(It wD.drew w.heap.size u v).cell (b:=T) (o:=o) dD (by omega)
     rw[e5,h,h,h,h];exact⟨t0,t2,t4,t6⟩
    have J:Hid (∀(u v u' v':Value) (s:World),s=((((wD.drew.setCell ⟨w.heap.size,0,none⟩ u).setCell ⟨w.heap.size,1,none⟩ v).setCell ⟨w.heap.size+4,0,none⟩ u').setCell ⟨w.heap.size+4,1,none⟩ v')->(s.cell? ⟨T,0,none⟩=some (.slice t od.pool.n z)/\s.cell? ⟨T,1,none⟩=some (.slice d od.pool.hn f)/\s.cell? ⟨T,2,none⟩=some (.int .i64 od.ps)/\s.cell? ⟨T,3,none⟩=some (.int .i64 od.pb))):=by
     intro u v u' v' s e5;have dD:T<wD.drew.heap.size:=Q;have h1:=fun o=>(It ((wD.drew.setCell ⟨w.heap.size,0,none⟩ u).setCell ⟨w.heap.size,1,none⟩ v) (w.heap.size+4) u' v').cell (b:=T) (o:=o) (by simp;exact Q) (by omega)
     rw[e5,h1,h1,h1,h1];exact r.out u v _ rfl
    refine wp_region_held_drew (S:=(fun w'=>w'.cell? ⟨T,0,none⟩=some (.slice t od.pool.n z)/\w'.cell? ⟨T,1,none⟩=some (.slice d od.pool.hn f)/\w'.cell? ⟨T,2,none⟩=some (.int .i64 od.ps)/\w'.cell? ⟨T,3,none⟩=some (.int .i64 od.pb))) (by kernel_rfl) ?_ (fun hHeld=>?_)
    ·(try dsimp only)
     go_keep
    refine tk 0 (h:=tk 2 (h:=tk 1 (h:=tk 3 (h:=?_))));refine rd [4] (rc (fun K hK=>?_) .nil);go_simp
    (try go_wp2_with fail)
    refine hK.out _ _ (by(try dsimp only);exact r.out _ _ _ rfl) ?_;clear hK K hHeld;intro hHeld
    try simp only[Act.put,s1,s2,s3]
    refine rd [5] (rc (fun K hK=>?_) .nil);go_simp
    (try go_wp2_with fail)
    refine hK.out _ _ (by(try dsimp only);exact J.out _ _ _ _ _ rfl) ?_;clear hK K hHeld;intro hHeld
    try simp only[Act.put,s1,s2,s3]
    refine wpAnyH_done (by kernel_rfl) ?_ _;have O:AE (fun k=>k=w.heap.size\/k=w.heap.size+4) wD ((((wD.setCell ⟨w.heap.size,0,none⟩ (.slice t od.pool.n z)).setCell ⟨w.heap.size,1,none⟩ (.slice d od.pool.hn f)).setCell ⟨w.heap.size+4,0,none⟩ (.int .i64 od.ps)).setCell ⟨w.heap.size+4,1,none⟩ (.int .i64 od.pb)).drew:=by
     have h:=((It wD w.heap.size (.slice t od.pool.n z) (.slice d od.pool.hn f)).mono (T:=fun k=>k=w.heap.size\/k=w.heap.size+4) (fun k P=>Or.inl P)).trans ((It ((wD.setCell ⟨w.heap.size,0,none⟩ (.slice t od.pool.n z)).setCell ⟨w.heap.size,1,none⟩ (.slice d od.pool.hn f)) (w.heap.size+4) (.int .i64 od.ps) (.int .i64 od.pb)).mono (T:=fun k=>k=w.heap.size\/k=w.heap.size+4) (fun k P=>Or.inr P));exact⟨h.os,h.tape,h.output,h.size,h.block⟩
    have cB:Hid (Ac ((((wD.setCell ⟨w.heap.size,0,none⟩ (.slice t od.pool.n z)).setCell ⟨w.heap.size,1,none⟩ (.slice d od.pool.hn f)).setCell ⟨w.heap.size+4,0,none⟩ (.int .i64 od.ps)).setCell ⟨w.heap.size+4,1,none⟩ (.int .i64 od.pb)).drew w.heap.size (.slice t od.pool.n z) (.slice d od.pool.hn f)):=by
     have oB:=It ((wD.setCell ⟨w.heap.size,0,none⟩ (.slice t od.pool.n z)).setCell ⟨w.heap.size,1,none⟩ (.slice d od.pool.hn f)) (w.heap.size+4) (.int .i64 od.ps) (.int .i64 od.pb);have pB:=(F.out.put (.slice t od.pool.n z) (.slice d od.pool.hn f)).AD oB (by omega);exact pB
    have eB:Hid (Ac ((((wD.setCell ⟨w.heap.size,0,none⟩ (.slice t od.pool.n z)).setCell ⟨w.heap.size,1,none⟩ (.slice d od.pool.hn f)).setCell ⟨w.heap.size+4,0,none⟩ (.int .i64 od.ps)).setCell ⟨w.heap.size+4,1,none⟩ (.int .i64 od.pb)).drew (w.heap.size+4) (.int .i64 od.ps) (.int .i64 od.pb)):=by
     have oB:=It wD w.heap.size (.slice t od.pool.n z) (.slice d od.pool.hn f);have pB:=(H.out.AD oB (by omega)).put (.int .i64 od.ps) (.int .i64 od.pb);exact pB
    have mB:=A9 ((oA.out.AD O (fun k P=>by rcases P with h | h<;>omega)).wide (lo':=w.heap.size+5) (hi':=T) (by omega) (Nat.le_refl _));have gB:=A9 (cA.out.AD O (by omega));have fB:=A9 (A.out.AD O (by omega));have iB:=m.trans (O.A0 (B:=w.heap.size) m.size (fun k P=>by rcases P with h | h<;>omega));have vD:=Nat.lt_of_lt_of_le Q O.size;clear O F H oA cA A m r J mA t0 t1 t2 t3 t4 t5 t6 t7 t8 t9 x0 x1 x2 x3 y0 y1 y2 y3;generalize ((((wD.setCell ⟨w.heap.size,0,none⟩ (.slice t od.pool.n z)).setCell ⟨w.heap.size,1,none⟩ (.slice d od.pool.hn f)).setCell ⟨w.heap.size+4,0,none⟩ (.int .i64 od.ps)).setCell ⟨w.heap.size+4,1,none⟩ (.int .i64 od.pb)).drew=wE at cB eB mB gB fB iB vD ⊢;go_wp2;go_roundw
    case rel=>
     refine⟨k+1,by omega,by go_num,fun j hj=>?_,.slice t od.pool.n z,.slice d od.pool.hn f,cB.out,?_,fun _=>?_,?_,gB.out,fB.out,by omega,iB⟩
     ·by_cases e:j=k+1
      ·rw[e,D.out];exact Hc.out
      ·exact C.out j (by omega)
     ·rw[D.out];exact mB.out.at.all
     ·rw[D.out];exact mB.out.wide (Nat.le_refl _) (by omega)
     ·rw[D.out];exact eB.out
    case measure=>simp[intOf];omega
   ·have oD:(od.code != 0)=true:=(by simp[hc]);have Hc:=A9 hc;clear hc;obtain⟨⟨r0,r1⟩,⟨r2,r3⟩,⟨r4,r5⟩,⟨r6,r7⟩,⟨r8,r9⟩,⟨cE,dE⟩⟩:=A.out;go_wp2;have l:=A.out.put (.slice none 0 0) (.slice none 0 0) (.int .i64 0) (.int .i64 0) (.slice none 0 0) (.int .i64 od.code);have kA:=AE.put6 wD (w.heap.size+1+1+1) (.slice none 0 0) (.slice none 0 0) (.int .i64 0) (.int .i64 0) (.slice none 0 0) (.int .i64 od.code);have tB:=Lf nD C.out (by rw[D.out];exact Hc.out);rw[D.out]at tB;refine bodyPost_ret (v:=.agg #[.slice none 0 0,.slice none 0 0,.int .i64 0,.int .i64 0,.slice none 0 0,.int .i64 od.code]) (by simp[results,Tryz.results55,go_sem,l.1.1,l.2.1.1,l.2.2.1.1,l.2.2.2.1.1,l.2.2.2.2.1.1,l.2.2.2.2.2.1]) rfl (Or.inl ⟨?_,?_,?_⟩)
    ·rw[tB];exact Hc.out
    ·rw[tB];rfl
    ·exact m.trans (kA.A0 (B:=w.heap.size) m.size (by intro k P;omega))
  ·obtain rfl:k=2:=(by omega);obtain⟨oa,oc,ho,_⟩:=Bh Hr.out;have Ho:=A9 ho;obtain⟨kE,_⟩:=nA.out 40 (by omega);rw[zGH,ho]at kE;clear ho;obtain⟨⟨r0,r1⟩,⟨r2,r3⟩,⟨r4,r5⟩,⟨r6,r7⟩,⟨r8,r9⟩,⟨cE,dE⟩⟩:=lA.out;go_wp2;have l:=lA.out.put (.slice ra (layS p xs xb n b ⟨q,x,y,0⟩ 2).pool.n bB) (.slice vA (layS p xs xb n b ⟨q,x,y,0⟩ 2).pool.hn aB) (.int .i64 (layS p xs xb n b ⟨q,x,y,0⟩ 2).ps) (.int .i64 (layS p xs xb n b ⟨q,x,y,0⟩ 2).pb) (.slice oa (BN p xs xb n 3).length oc) (.int .i64 0);have kA:=AE.put6 wr (w.heap.size+1+1+1) (.slice ra (layS p xs xb n b ⟨q,x,y,0⟩ 2).pool.n bB) (.slice vA (layS p xs xb n b ⟨q,x,y,0⟩ 2).pool.hn aB) (.int .i64 (layS p xs xb n b ⟨q,x,y,0⟩ 2).ps) (.int .i64 (layS p xs xb n b ⟨q,x,y,0⟩ 2).pb) (.slice oa (BN p xs xb n 3).length oc) (.int .i64 0);refine bodyPost_ret (v:=.agg #[.slice ra (layS p xs xb n b ⟨q,x,y,0⟩ 2).pool.n bB,.slice vA (layS p xs xb n b ⟨q,x,y,0⟩ 2).pool.hn aB,.int .i64 (layS p xs xb n b ⟨q,x,y,0⟩ 2).ps,.int .i64 (layS p xs xb n b ⟨q,x,y,0⟩ 2).pb,.slice oa (BN p xs xb n 3).length oc,.int .i64 0]) (by simp[results,Tryz.results55,go_sem,l.1.1,l.2.1.1,l.2.2.1.1,l.2.2.2.1.1,l.2.2.2.2.1.1,l.2.2.2.2.2.1]) rfl (Or.inr ⟨?_,.slice ra (layS p xs xb n b ⟨q,x,y,0⟩ 2).pool.n bB,.slice vA (layS p xs xb n b ⟨q,x,y,0⟩ 2).pool.hn aB,?_,?_,?_⟩)
   ·rw[Nu C.out]
   ·rw[<-Ho.out]
   ·exact((mC.out (by omega)).AD kA (by intro k P;omega)).wide (by omega) (by exact kA.size)
   ·exact sA.trans (kA.A0 (B:=w.heap.size) sA.size (by intro k P;omega))
theorem Ze(v v1:Value)(lo hi:Nat)(p:A5)(xs xb:Int)(w:World)(k:C6 w lo hi v v1 p) :
 Calls Tryz.prog 51 #[.agg #[v,v1],.agg #[.int .i64 xs,.int .i64 xb]] w fun e w'=>AL (Ai p xs xb) e/\Below w.heap.size w w':=by
 have x:=A9 k;obtain⟨a,c,g,c',rfl,rfl⟩:∃a c g c',v = .slice a p.n c/\v1 = .slice g p.hn c':=by
  obtain⟨⟨_,a,c,k,_⟩,⟨_,g,c',B,_⟩⟩:=k;exact⟨a,c,g,c',k,B⟩
 clear k;have m:=Sk w (.slice a p.n c) (.slice g p.hn c') (.int .i64 xs) (.int .i64 xb) 26 38;go_enter Tryz.func51,Tryz.ntmps51;go_wp2_with fail;generalize (w.alloc (.cells #[.slice a p.n c,.slice g p.hn c'] 26)).alloc (.cells #[.int .i64 xs,.int .i64 xb] 38)=W at m ⊢;obtain⟨y,z,f,L⟩:=m;refine(Mc _ _ lo hi p _ (x.out.A0 f)).mono ?_;rintro e M ⟨⟨t,rfl,q⟩,b⟩;have r:=A9 (y.A0 b);have s:=A9 (z.A0 b);have d:=A7 f b;clear y z f b;by_cases i:AY p
 ·obtain rfl:t=true:=q.2 i;have j:=A9 i;clear q i;obtain⟨⟨D,E⟩,⟨F,G⟩⟩:=r.out;obtain⟨⟨H,I⟩,⟨J,K⟩⟩:=s.out;go_wp2_with fail;refine(ZJ _ _ lo hi p xs xb _ (x.out.A0 d) j.out).mono ?_;rintro e N ⟨⟨C,rfl,o⟩,l⟩;have A:=A9 o;have u:=A7 d l;clear o l D E F G H I J K;go_wp2;go_ret;exact⟨⟨C,rfl,A.out.trans ((O3 j.out).trans ⟨fun h=>⟨j.out,h⟩,fun h=>h.2⟩)⟩,u⟩
 ·obtain rfl:t=false:=BR q i;have j:=A9 i;clear q i;go_wp2;go_ret;exact⟨AL.no fun h=>j.out h.1,d⟩
def EA(n:Int):Prop:=0<=n/\n<=63
theorem Mb(n:Int)(w:World):Calls Tryz.prog 53 #[.int .i64 n] w fun e w'=>AL (EA n) e/\w'=w:=by
 by_cases a:0<=n
 ·by_cases b:n<64
  ·go_enter Tryz.func53,Tryz.ntmps53;go_wp2;go_ret;exact⟨AL.yes ⟨a,by omega⟩,rfl⟩
  ·go_enter Tryz.func53,Tryz.ntmps53;go_wp2;go_ret;exact⟨AL.no fun h=>by have:=h.2;omega,rfl⟩
 ·go_enter Tryz.func53,Tryz.ntmps53;go_wp2;go_ret;exact⟨AL.no fun h=>by have:=h.1;omega,rfl⟩
variable{xs xb b:Int}
theorem V2{o:Dm}(h:(Bn p xs xb n b o).code≠0):Bn p xs xb n b o=DB (Bn p xs xb n b o).code:=by
 unfold Bn at h ⊢;split
 ·rfl
 ·split
  ·rfl
  ·rename_i a h2
   rw[if_neg a,if_neg h2]at h;exact absurd rfl h
theorem Zz{o:Dm}(h:(Bn p xs xb n b o).code=0):Bn p xs xb n b o=⟨(layS p xs xb n b o 2).pool,(layS p xs xb n b o 2).ps,(layS p xs xb n b o 2).pb,BN p xs xb n 3,0⟩:=by
 unfold Bn at h ⊢;split
 ·rename_i a
  rw[if_pos a]at h;exact absurd h a
 ·split
  ·rename_i a h2
   rw[if_neg a,if_pos h2]at h;exact absurd h h2
  ·rfl
theorem Ff{wr:World}{R:Nat}{c:Int}(d:w.heap.size<=R)(a:Below w.heap.size w wr) :
 Lq (DB c) w (.returned (.agg #[.slice none 0 0,.slice none 0 0,.int .i64 0,.int .i64 0,.slice none 0 0,.int .i64 c])) (put6 wr R (.slice none 0 0) (.slice none 0 0) (.int .i64 0) (.int .i64 0) (.slice none 0 0) (.int .i64 c)):=by
 have t:=AE.put6 wr R (.slice none 0 0) (.slice none 0 0) (.int .i64 0) (.int .i64 0) (.slice none 0 0) (.int .i64 c);exact⟨_,_,_,w.heap.size,w.heap.size,rfl,Nat.le_refl _,by have:=a.size;have:=t.size;omega,QJ,At.nil _ _,fun k b=>by simp[Value.ownBlock]at b,a.trans (t.A0 (by have:=a.size;omega) (fun k b=>by omega))⟩
theorem qV(w:World)(a b d e:Value)(c f g:TypeId) :
 Ac (((w.alloc (.cells #[a,b] c)).alloc (.cells #[d,e] f)).alloc (.cells #[.slice none 0 0,.slice none 0 0,.int .i64 0,.int .i64 0,.slice none 0 0,.int .i64 0] g)) w.heap.size a b/\
 Ac (((w.alloc (.cells #[a,b] c)).alloc (.cells #[d,e] f)).alloc (.cells #[.slice none 0 0,.slice none 0 0,.int .i64 0,.int .i64 0,.slice none 0 0,.int .i64 0] g)) (w.heap.size+1) d e/\
 As (((w.alloc (.cells #[a,b] c)).alloc (.cells #[d,e] f)).alloc (.cells #[.slice none 0 0,.slice none 0 0,.int .i64 0,.int .i64 0,.slice none 0 0,.int .i64 0] g)) (w.heap.size+1+1) (.slice none 0 0) (.slice none 0 0) (.int .i64 0) (.int .i64 0) (.slice none 0 0) (.int .i64 0)/\
 Below w.heap.size w (((w.alloc (.cells #[a,b] c)).alloc (.cells #[d,e] f)).alloc (.cells #[.slice none 0 0,.slice none 0 0,.int .i64 0,.int .i64 0,.slice none 0 0,.int .i64 0] g))/\
 (((w.alloc (.cells #[a,b] c)).alloc (.cells #[d,e] f)).alloc (.cells #[.slice none 0 0,.slice none 0 0,.int .i64 0,.int .i64 0,.slice none 0 0,.int .i64 0] g)).heap.size=w.heap.size+3:=by
 refine⟨((Ac.new w a b c).A0 (AC _ _)).A0 (AC _ _),?_,?_,A7 (A7 (AC _ _) (AC _ _)) (AC _ _),by simp⟩
 ·have:=(Ac.new (w.alloc (.cells #[a,b] c)) d e f).A0 (AC _ (.cells #[.slice none 0 0,.slice none 0 0,.int .i64 0,.int .i64 0,.slice none 0 0,.int .i64 0] g));rw[World.size_alloc]at this;exact this
 ·have:=As.new ((w.alloc (.cells #[a,b] c)).alloc (.cells #[d,e] f)) (.slice none 0 0) (.slice none 0 0) (.int .i64 0) (.int .i64 0) (.slice none 0 0) (.int .i64 0) g;rw[World.size_alloc,World.size_alloc]at this;exact this
open Classical in
noncomputable def CV(p:A5)(xs xb AA b:Int):D4:=
 if Ai p xs xb/\Bv xb b then(if EA AA then(if Nil (BS p xs xb AA.toNat) (BY p xs xb AA.toNat)then DB 4 else Bn p xs xb AA.toNat b ⟨p,0,0,0⟩)else DB 8)else DB 1
variable{AA:Int}
theorem MN(h:¬(Ai p xs xb/\Bv xb b)):CV p xs xb AA b=DB 1:=if_neg h
theorem Rd(h:Ai p xs xb/\Bv xb b)(a:¬EA AA):CV p xs xb AA b=DB 8:=(if_pos h).trans (if_neg a)
theorem RC(h:Ai p xs xb/\Bv xb b)(a:EA AA)(c:Nil (BS p xs xb AA.toNat) (BY p xs xb AA.toNat)):CV p xs xb AA b=DB 4:=((if_pos h).trans (if_pos a)).trans (if_pos c)
theorem M5(h:Ai p xs xb/\Bv xb b)(a:EA AA)(c:¬Nil (BS p xs xb AA.toNat) (BY p xs xb AA.toNat)):CV p xs xb AA b=Bn p xs xb AA.toNat b ⟨p,0,0,0⟩:=((if_pos h).trans (if_pos a)).trans (if_neg c)
theorem zDN(v0 v1:Value)(lo hi:Nat)(p:A5)(xs xb AA b:Int)(w:World)(h1:C6 w lo hi v0 v1 p) :
 Calls Tryz.prog 37 #[.agg #[v0,v1],.agg #[.int .i64 xs,.int .i64 xb],.int .i64 AA,.int .i64 b] w (Lq (CV p xs xb AA b) w):=by
 have Hp:=A9 h1;obtain⟨a,c,a',c',rfl,rfl⟩:=h1.form;clear h1;have lB:=qV w (.slice a p.n c) (.slice a' p.hn c') (.int .i64 xs) (.int .i64 xb) 26 38 69;go_enter Tryz.func37,Tryz.ntmps37;go_wp2_with fail;generalize ((w.alloc (.cells #[.slice a p.n c,.slice a' p.hn c'] 26)).alloc (.cells #[.int .i64 xs,.int .i64 xb] 38)).alloc (.cells #[.slice none 0 0,.slice none 0 0,.int .i64 0,.int .i64 0,.slice none 0 0,.int .i64 0] 69)=W at lB ⊢;obtain⟨hB,hX,hR,Z,hz⟩:=lB;refine(Ze _ _ lo hi p xs xb W (Hp.out.A0 Z)).mono ?_;rintro e w1 ⟨⟨t,rfl,P⟩,u⟩;have tA:=A9 (hB.A0 u);have T:=A9 (hX.A0 u);have L:=A9 (hR.A0 u);have X:=A7 Z u;have iC:w.heap.size+3<=w1.heap.size:=by have:=u.size;omega
 clear hB hX hR Z u hz;by_cases s:Ai p xs xb
 ·have E:=A9 s;obtain rfl:t=true:=P.2 s;clear P s;obtain⟨⟨y0,y1⟩,⟨y2,y3⟩⟩:=T.out;go_wp2_with fail;refine(Z1 xs xb b w1).mono ?_;rintro e w2 ⟨⟨t,rfl,P⟩,x⟩;have S:=A9 (tA.out.A0 x);have cB:=A9 (T.out.A0 x);have l:=A9 (L.out.A0 x);have N:=A7 X x;have bD:w.heap.size+3<=w2.heap.size:=(by have:=x.size;omega);clear x X tA T L iC y0 y1 y2 y3;by_cases r:Bv xb b
  ·have M:=A9 (And.intro E.out r);obtain rfl:t=true:=P.2 r;clear P r;by_cases hN:EA AA
   ·have j:=A9 hN;obtain⟨n,rfl⟩:=Int.eq_ofNat_of_zero_le hN.1;have Q:n<64:=(by have:=hN.2;omega);clear hN;obtain⟨⟨x0,x1⟩,⟨x2,x3⟩⟩:=S.out;obtain⟨⟨y0,y1⟩,⟨y2,y3⟩⟩:=cB.out;go_wp2_with (first | (go_at_call 53;refine(Mb _ _).mono ?_;rintro e w9 ⟨⟨t2,rfl,I⟩,rfl⟩;obtain rfl:t2=true:=I.2 j.out;clear I) | fail);go_wp2_with fail;refine(RE _ lo hi p xs xb n _ (Hp.out.A0 N).1 E.out Q).mono ?_;rintro e C ⟨o,rfl,aA,y⟩;obtain⟨oa,oc,ho,_⟩:=Bh aA;have eB:=A9 aA;have vA:=A9 (S.out.A0 y);have bB:=A9 (l.out.A0 y);have gB:=A7 N y;have jC:w.heap.size+3<=C.heap.size:=(by have:=y.size;omega);have nB:=y.size;clear y aA ho x0 x1 x2 x3 y0 y1 y2 y3 S cB l;have H:=AC C (.cells (Bt (BL p xs xb n 2 3 o)) 112);have U:Hid ((C.alloc (.cells (Bt (BL p xs xb n 2 3 o)) 112)).heap[C.heap.size]?=some (.cells (Bt (BL p xs xb n 2 3 o)) 112 (0,0))):=heap_alloc_last _ _;have F:Hid (AN (C.alloc (.cells (Bt (BL p xs xb n 2 3 o)) 112)) C.heap.size 38 (.int .i64 (BS p xs xb n))/\AN (C.alloc (.cells (Bt (BL p xs xb n 2 3 o)) 112)) C.heap.size 39 (.int .i64 (BY p xs xb n))):=⟨Au U.out (by rfl),Au U.out (by rfl)⟩;have J:=A9 (vA.out.A0 H);have m:=A9 (bB.out.A0 H);have f:=A9 (eB.out.A0 H);have G:=A7 gB H;have oB:C.heap.size<(C.alloc (.cells (Bt (BL p xs xb n 2 3 o)) 112)).heap.size:=(by rw[World.size_alloc];omega);clear H vA bB eB gB;go_upto_region 6 with(first
     | (refine wpList_store_row rfl 112 (.tmp 9) (.tmp 29) rfl C.heap.size (Bt (BL p xs xb n 2 3 o)) rfl rfl 112 LF (heap_alloc_last _ _) (Kg _) (by rw[OR];rfl) (QT _ _ _ _ _ _ f.out.one) ?_;rw[World.setRow_alloc_new])
     | fail)
    generalize C.alloc (.cells (Bt (BL p xs xb n 2 3 o)) 112)=w4 at U F J m f G oB ⊢;generalize C.heap.size=Y at U F jC oB nB ⊢;obtain⟨⟨y0,y1⟩,⟨y2,y3⟩⟩:=F.out;obtain⟨⟨x0,x1⟩,⟨x2,x3⟩⟩:=J.out;obtain⟨wd,mB⟩:=Option.map_eq_some_iff.1 qh;have HU:=A9 mB;clear mB;by_cases q:Nil (BS p xs xb n) (BY p xs xb n)
    ·have K:=A9 q;rw[q.1]at y0;rw[q.2]at y2;clear q;obtain⟨⟨r0,r1⟩,⟨r2,r3⟩,⟨r4,r5⟩,⟨r6,r7⟩,⟨r8,r9⟩,⟨z,A⟩⟩:=m.out
     try go_wp2
     have d:=m.out.put (.slice none 0 0) (.slice none 0 0) (.int .i64 0) (.int .i64 0) (.slice none 0 0) (.int .i64 4);have i:=Ff (R:=w.heap.size+1+1) (c:=4) (by omega) G;rw[RC M.out j.out K.out];exact bodyPost_ret (v:=.agg #[.slice none 0 0,.slice none 0 0,.int .i64 0,.int .i64 0,.slice none 0 0,.int .i64 4]) (by simp[results,Tryz.results37,go_sem,d.1.1,d.2.1.1,d.2.2.1.1,d.2.2.2.1.1,d.2.2.2.2.1.1,d.2.2.2.2.2.1]) rfl i
    ·have K:=A9 q;rcases Ju q with e0 | ⟨e0,e1⟩
     all_goals
      clear q;go_wp2_with (first
       | (refine wpList_load_row rfl 112 (.tmp 9) rfl Y rfl 112 (Bt (BL p xs xb n 2 3 o)) (0,0) _ U.out HU.out.1 (by have:=HU.out.2;cases wd<;>exact this) (Kg _) ?_)
       | fail)
      refine(Rh _ _ lo hi p p xs xb 0 0 b n o w4 (Hp.out.A0 G) Q (by have:=Jw E.out.1;omega) (f.out.mono (Nat.zero_le _))).mono ?_;rintro e w5 (⟨hc,rfl,g⟩ | ⟨hc,s0,s1,rfl,kB,g⟩)
      ·have hE:CV p xs xb (n:Int) b=DB (Bn p xs xb n b ⟨p,0,0,0⟩).code:=(M5 M.out j.out K.out).trans (V2 hc);have HE:=A9 hE;have D:=A9 (m.out.A0 g);have O:=A7 G g;clear hc hE g x0 x1 x2 x3 y0 y1 y2 y3 J m U F;generalize (Bn p xs xb n b ⟨p,0,0,0⟩).code=cc at HE ⊢;obtain⟨⟨r0,r1⟩,⟨r2,r3⟩,⟨r4,r5⟩,⟨r6,r7⟩,⟨r8,r9⟩,⟨z,A⟩⟩:=D.out
       try go_wp2
       have d:=D.out.put (.slice none 0 0) (.slice none 0 0) (.int .i64 0) (.int .i64 0) (.slice none 0 0) (.int .i64 cc);have i:=Ff (R:=w.heap.size+1+1) (c:=cc) (by omega) O;rw[HE.out];exact bodyPost_ret (v:=.agg #[.slice none 0 0,.slice none 0 0,.int .i64 0,.int .i64 0,.slice none 0 0,.int .i64 cc]) (by simp[results,Tryz.results37,go_sem,d.1.1,d.2.1.1,d.2.2.1.1,d.2.2.2.1.1,d.2.2.2.2.1.1,d.2.2.2.2.2.1]) rfl i
      ·obtain⟨cA,dA,rfl,_⟩:=Bh f.out;have hE:CV p xs xb (n:Int) b=⟨(layS p xs xb n b ⟨p,0,0,0⟩ 2).pool,(layS p xs xb n b ⟨p,0,0,0⟩ 2).ps,(layS p xs xb n b ⟨p,0,0,0⟩ 2).pb,BN p xs xb n 3,0⟩:=(M5 M.out j.out K.out).trans (Zz hc);have HE:=A9 hE;have D:=A9 (m.out.A0 g);have fB:=A9 (f.out.A0 g);have V:=A9 kB;have O:=A7 G g;have cD:=g.size;clear hc hE g kB x0 x1 x2 x3 y0 y1 y2 y3 J m U F;generalize layS p xs xb n b ⟨p,0,0,0⟩ 2=od at HE V ⊢;obtain⟨a5,c5,a6,c6,rfl,rfl⟩:=V.out.form;obtain⟨⟨r0,r1⟩,⟨r2,r3⟩,⟨r4,r5⟩,⟨r6,r7⟩,⟨r8,r9⟩,⟨z,A⟩⟩:=D.out
       try go_wp2
       have d:=D.out.put (.slice a5 od.pool.n c5) (.slice a6 od.pool.hn c6) (.int .i64 od.ps) (.int .i64 od.pb) (.slice cA (BN p xs xb n 3).length dA) (.int .i64 0);have bA:=AE.put6 w5 (w.heap.size+1+1) (.slice a5 od.pool.n c5) (.slice a6 od.pool.hn c6) (.int .i64 od.ps) (.int .i64 od.pb) (.slice cA (BN p xs xb n 3).length dA) (.int .i64 0);rw[HE.out];exact bodyPost_ret (v:=.agg #[.slice a5 od.pool.n c5,.slice a6 od.pool.hn c6,.int .i64 od.ps,.int .i64 od.pb,.slice cA (BN p xs xb n 3).length dA,.int .i64 0]) (by simp[results,Tryz.results37,go_sem,d.1.1,d.2.1.1,d.2.2.1.1,d.2.2.2.1.1,d.2.2.2.2.1.1,d.2.2.2.2.2.1]) rfl ⟨_,_,_,w4.heap.size,w5.heap.size,rfl,by omega,bA.size,V.out.AD bA (by intro k hk;omega),((((((fB.out.put (by omega) _).put (by omega) _).put (by omega) _).put (by omega) _).put (by omega) _).put (by omega) _).mono (by omega),fun k hk=>Or.inl (f.out.lt hk).2,O.trans (bA.A0 (B:=w.heap.size) O.size (by intro k hk;omega))⟩
   ·have j:=A9 hN;clear hN;obtain⟨⟨r0,r1⟩,⟨r2,r3⟩,⟨r4,r5⟩,⟨r6,r7⟩,⟨r8,r9⟩,⟨z,A⟩⟩:=l.out;go_wp2_with (first | (go_at_call 53;refine(Mb _ _).mono ?_;rintro e w9 ⟨⟨t2,rfl,I⟩,rfl⟩;obtain rfl:t2=false:=BR I j.out;clear I) | fail);obtain⟨⟨r0,r1⟩,⟨r2,r3⟩,⟨r4,r5⟩,⟨r6,r7⟩,⟨r8,r9⟩,⟨z,A⟩⟩:=l.out
    try go_wp2
    have d:=l.out.put (.slice none 0 0) (.slice none 0 0) (.int .i64 0) (.int .i64 0) (.slice none 0 0) (.int .i64 8);have i:=Ff (R:=w.heap.size+1+1) (c:=8) (by omega) N;rw[Rd M.out j.out];exact bodyPost_ret (v:=.agg #[.slice none 0 0,.slice none 0 0,.int .i64 0,.int .i64 0,.slice none 0 0,.int .i64 8]) (by simp[results,Tryz.results37,go_sem,d.1.1,d.2.1.1,d.2.2.1.1,d.2.2.2.1.1,d.2.2.2.2.1.1,d.2.2.2.2.2.1]) rfl i
  ·have vB:=A9 r;obtain rfl:t=false:=BR P r;clear P r;obtain⟨⟨r0,r1⟩,⟨r2,r3⟩,⟨r4,r5⟩,⟨r6,r7⟩,⟨r8,r9⟩,⟨z,A⟩⟩:=l.out
   try go_wp2
   have d:=l.out.put (.slice none 0 0) (.slice none 0 0) (.int .i64 0) (.int .i64 0) (.slice none 0 0) (.int .i64 1);have i:=Ff (R:=w.heap.size+1+1) (c:=1) (by omega) N;rw[MN (fun h=>vB.out h.2)];exact bodyPost_ret (v:=.agg #[.slice none 0 0,.slice none 0 0,.int .i64 0,.int .i64 0,.slice none 0 0,.int .i64 1]) (by simp[results,Tryz.results37,go_sem,d.1.1,d.2.1.1,d.2.2.1.1,d.2.2.2.1.1,d.2.2.2.2.1.1,d.2.2.2.2.2.1]) rfl i
 ·have E:=A9 s;obtain rfl:t=false:=BR P s;clear P s;obtain⟨⟨r0,r1⟩,⟨r2,r3⟩,⟨r4,r5⟩,⟨r6,r7⟩,⟨r8,r9⟩,⟨z,A⟩⟩:=L.out
  try go_wp2
  have d:=L.out.put (.slice none 0 0) (.slice none 0 0) (.int .i64 0) (.int .i64 0) (.slice none 0 0) (.int .i64 1);have i:=Ff (R:=w.heap.size+1+1) (c:=1) (by omega) X;rw[MN (fun h=>E.out h.1)];exact bodyPost_ret (v:=.agg #[.slice none 0 0,.slice none 0 0,.int .i64 0,.int .i64 0,.slice none 0 0,.int .i64 1]) (by simp[results,Tryz.results37,go_sem,d.1.1,d.2.1.1,d.2.2.1.1,d.2.2.2.1.1,d.2.2.2.2.1.1,d.2.2.2.2.2.1]) rfl i
end Go.Proofs.YtehdoekmnicdiaaGreatDoor
