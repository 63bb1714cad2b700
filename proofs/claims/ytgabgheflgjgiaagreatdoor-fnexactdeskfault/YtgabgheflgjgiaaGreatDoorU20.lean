/- A part of the proof. -/
import Derived.Test.YtgabgheflgjgiaaGreatDoorU19
import Derived.Deep.MidRow
set_option linter.unusedVariables false
set_option maxRecDepth 20000
set_option maxHeartbeats 4000000
namespace Go.Proofs.YtgabgheflgjgiaaGreatDoor
open Go.RowKit
def zJ0(p:zI)(xs xb:Int):Prop:=Nil xs xb\/(zy p xs xb/\(p.s xs.toNat).kn=8)
theorem zIw{p:zI}{xs xb:Int}(h:qR p xs xb):zJ0 p xs xb:=by
 rcases h.2 with h2 | h2
 ·exact Or.inl h2
 ·right;refine⟨h2.1.1,?_⟩;rcases zCy h.1 h2.1.1 with h3 | h3
  ·have:=h2.1.2.1;omega
  ·exact h3
theorem zIk{p:zI}{xs xb:Int}(h:qR p xs xb){j:Nat}(hj:j<8):zJ0 p (yi p xs xb j) (zAJ p xs xb j):=by
 by_cases hz:Nil xs xb
 ·left;unfold yi zAJ;rw[if_pos hz,if_pos hz];exact⟨rfl,rfl⟩
 ·unfold yi zAJ;rw[if_neg hz,if_neg hz];rcases(h.2.resolve_left hz).2.1.1 j hj with h2 | h2
  ·exact Or.inl h2
  ·right;refine⟨h2.1.1,?_⟩;rcases zCy h.1 h2.1.1 with h3 | h3
   ·have:=h2.1.2.1;omega
   ·exact h3
def qS(p:zI)(xs xb:Int)(n:Nat):Int:=yi p xs xb (n / 8)
def qU(p:zI)(xs xb:Int)(n:Nat):Int:=zAJ p xs xb (n / 8)
def zz(p:zI)(xs xb:Int)(n:Nat):Int:=yi p (qS p xs xb n) (qU p xs xb n) (n % 8)
def qD(p:zI)(xs xb:Int)(n:Nat):Int:=zAJ p (qS p xs xb n) (qU p xs xb n) (n % 8)
theorem zGM{p:zI}{xs xb:Int}(h:qR p xs xb){n:Nat}(hn:n<64):Nil (zz p xs xb n) (qD p xs xb n)\/zA9 p (zz p xs xb n) (qD p xs xb n):=by
 by_cases hz:Nil xs xb
 ·left;have e:Nil (qS p xs xb n) (qU p xs xb n):=(by unfold qS qU yi zAJ;rw[if_pos hz,if_pos hz];exact⟨rfl,rfl⟩);unfold zz qD yi zAJ;rw[if_pos e,if_pos e];exact⟨rfl,rfl⟩
 ·have e1:qS p xs xb n=zU (p.s xs.toNat) (n / 8):=if_neg hz;have e2:qU p xs xb n=zq (p.s xs.toNat) (n / 8):=if_neg hz;by_cases aA:Nil (qS p xs xb n) (qU p xs xb n)
  ·left;unfold zz qD yi zAJ;rw[if_pos aA,if_pos aA];exact⟨rfl,rfl⟩
  ·have e3:zz p xs xb n=zU (p.s (qS p xs xb n).toNat) (n % 8):=if_neg aA;have e4:qD p xs xb n=zq (p.s (qS p xs xb n).toNat) (n % 8):=if_neg aA;rw[e3,e4];rcases(h.2.resolve_left hz).2.1.1 (n / 8) (by omega)with h2 | h2
   ·rw[<-e1,<-e2]at h2;exact absurd h2 aA
   ·have:=h2.2.1 (n % 8) (by omega);rw[<-e1]at this;exact this
theorem zOK(w:World)(a0 a1 x0 x1:Value)(t1 t2:TypeId) :
  zk ((((w.alloc (.cells #[a0,a1] t1)).alloc (.cells #[x0,x1] t2)).alloc (.cells #[.int .i64 0,.int .i64 0] t2)).alloc (.cells #[.int .i64 0,.int .i64 0] t2)) w.heap.size a0 a1/\
  zk ((((w.alloc (.cells #[a0,a1] t1)).alloc (.cells #[x0,x1] t2)).alloc (.cells #[.int .i64 0,.int .i64 0] t2)).alloc (.cells #[.int .i64 0,.int .i64 0] t2)) (w.heap.size+1) x0 x1/\
  zk ((((w.alloc (.cells #[a0,a1] t1)).alloc (.cells #[x0,x1] t2)).alloc (.cells #[.int .i64 0,.int .i64 0] t2)).alloc (.cells #[.int .i64 0,.int .i64 0] t2)) (w.heap.size+2) (.int .i64 0) (.int .i64 0)/\
  zk ((((w.alloc (.cells #[a0,a1] t1)).alloc (.cells #[x0,x1] t2)).alloc (.cells #[.int .i64 0,.int .i64 0] t2)).alloc (.cells #[.int .i64 0,.int .i64 0] t2)) (w.heap.size+2+1) (.int .i64 0) (.int .i64 0)/\
  Below w.heap.size w ((((w.alloc (.cells #[a0,a1] t1)).alloc (.cells #[x0,x1] t2)).alloc (.cells #[.int .i64 0,.int .i64 0] t2)).alloc (.cells #[.int .i64 0,.int .i64 0] t2))/\
  ((((w.alloc (.cells #[a0,a1] t1)).alloc (.cells #[x0,x1] t2)).alloc (.cells #[.int .i64 0,.int .i64 0] t2)).alloc (.cells #[.int .i64 0,.int .i64 0] t2)).heap.size=w.heap.size+4:=by
 obtain⟨h1,h2,h3,h4⟩:=zB1 w a0 a1 x0 x1 t1 t2;generalize (w.alloc (.cells #[a0,a1] t1)).alloc (.cells #[x0,x1] t2)=W at h1 h2 h3 h4 ⊢;have b1:=zC W (.cells #[.int .i64 0,.int .i64 0] t2);have b2:=zC (W.alloc (.cells #[.int .i64 0,.int .i64 0] t2)) (.cells #[.int .i64 0,.int .i64 0] t2);have n1:=(zk.zOt W (.int .i64 0) (.int .i64 0) t2).zOp b2;have n2:=zk.zOt (W.alloc (.cells #[.int .i64 0,.int .i64 0] t2)) (.int .i64 0) (.int .i64 0) t2;rw[h4]at n1;rw[World.size_alloc,h4]at n2;exact⟨(h1.zOp b1).zOp b2,(h2.zOp b1).zOp b2,n1,n2,zA (zA h3 b1) b2,by rw[World.size_alloc,World.size_alloc,h4]⟩
theorem yv(w:World)(b:Nat)(u v:Value):zE (fun k=>k=b) w ((w.setCell ⟨b,0,none⟩ u).setCell ⟨b,1,none⟩ v):=((zE.refl (fun k=>k=b) w).setCell (p:=⟨b,0,none⟩) rfl u).setCell (p:=⟨b,1,none⟩) rfl v
theorem zM4{w:World}{base g cp:Nat}{f h:Nat->Int}(hr:qH w base (.slice (some ⟨g,0,none⟩) 8 cp) (zAy f h 8)){i:Nat}(hi:i<8):w.cell? ⟨g,i*2,none⟩=some (.int .i64 (f i))/\w.cell? ⟨g,i*2+1,none⟩=some (.int .i64 (h i)):=by
 obtain⟨b,cap,e,_,_,_,aA⟩:=qp hr (by rw[yE];omega);simp only[Value.slice.injEq,Option.some.injEq,Addr.mk.injEq,and_true]at e;obtain⟨rfl,_⟩:=e;have h1:=(aA _ _ (zBG (zAy f h 8) i (by rw[yE];exact hi)).1).1;have h2:=(aA _ _ (zBG (zAy f h 8) i (by rw[yE];exact hi)).2).1;have:=zIx f h hi;unfold zg zj at this;rw[this.1]at h1;rw[this.2]at h2;exact⟨h1,h2⟩
theorem zDk(v0 v1:Value)(lo hi:Nat)(p:zI)(xs xb:Int)(n:Nat)(w:World)(h1:qm w lo hi v0 v1 p)(hT:qR p xs xb)(hn:n<64) :
  Calls Tryz.prog 111 #[.agg #[v0,v1],.agg #[.int .i64 xs,.int .i64 xb],.int .i64 (n:Int)] w fun e w'=>e = .returned (.tuple #[.agg #[.int .i64 (zz p xs xb n),.int .i64 (qD p xs xb n)],.agg #[.int .i64 (qS p xs xb n),.int .i64 (qU p xs xb n)]])/\Below w.heap.size w w':=by
 have Hp:=zF h1;have HT:=zF hT;obtain⟨a,c,a',c',rfl,rfl⟩:∃a c a' c',v0 = .slice a p.n c/\v1 = .slice a' p.hn c':=by
  obtain⟨⟨_,a,c,h1,_⟩,⟨_,a',c',h3,_⟩⟩:=h1;exact⟨a,c,a',c',h1,h3⟩
 clear h1 hT;have pA:=zOK w (.slice a p.n c) (.slice a' p.hn c') (.int .i64 xs) (.int .i64 xb) 36 99;have hq:(n:Int).tdiv 8=((n / 8:Nat):Int):=(Int.ofNat_tdiv n 8).symm;have hr:(n:Int).tmod 8=((n % 8:Nat):Int):=(Int.ofNat_tmod n 8).symm;have eB:((n / 8:Nat):Int)<8:=by omega
 have fB:((n % 8:Nat):Int)<8:=by omega
 have dB:(n:Int)<64:=by omega
 have aB:0<=(n:Int) % 8:=by omega
 have bB:(n:Int) % 8<8:=by omega
 have cB:((n:Int) % 8).toNat=n % 8:=by omega
 go_enter Tryz.func111,Tryz.ntmps111;go_wp2_with fail;generalize ((((w.alloc (.cells #[.slice a p.n c,.slice a' p.hn c'] 36)).alloc (.cells #[.int .i64 xs,.int .i64 xb] 99)).alloc (.cells #[.int .i64 0,.int .i64 0] 99)).alloc (.cells #[.int .i64 0,.int .i64 0] 99))=W0 at pA ⊢;obtain⟨hB,hX,lA,mA,dA,hz⟩:=pA;refine(zA2 _ _ lo hi p xs xb W0 (Hp.out.zOp dA) (zIw HT.out)).mono ?_;rintro e w1 ⟨g,cp,rfl,eA,iA⟩;obtain⟨q0,q1⟩:=zM4 eA (show n / 8<8 by omega);have oA:=zC w1 (.cells #[.int .i64 (yi p xs xb (n / 8)),.int .i64 (zAJ p xs xb (n / 8))] 99);have hC:=zA iA oA;have cA:=zF (hB.zOp hC);have jA:=zF (lA.zOp hC);have kA:=zF (mA.zOp hC);have bA:=zF (show zk (w1.alloc (.cells #[.int .i64 (yi p xs xb (n / 8)),.int .i64 (zAJ p xs xb (n / 8))] 99)) w1.heap.size (.int .i64 (qS p xs xb n)) (.int .i64 (qU p xs xb n))from zk.zOt w1 _ _ _);have gA:=zA dA hC;have rA:=zF (show zJ0 p (qS p xs xb n) (qU p xs xb n)from zIk HT.out (by omega));have tA:w.heap.size+4<=w1.heap.size:=by have:=iA.size;omega
 clear eA iA oA hC hB hX lA mA dA hz;have nA:w1.heap.size<(w1.alloc (.cells #[.int .i64 (yi p xs xb (n / 8)),.int .i64 (zAJ p xs xb (n / 8))] 99)).heap.size:=by rw[World.size_alloc];omega
 go_wp2_with fail;generalize w1.alloc (.cells #[.int .i64 (yi p xs xb (n / 8)),.int .i64 (zAJ p xs xb (n / 8))] 99)=W at cA jA kA bA gA nA ⊢;clear q0 q1;generalize w1.heap.size=X at bA tA nA ⊢;obtain⟨⟨x0,x1⟩,⟨x2,x3⟩⟩:=cA.out;obtain⟨⟨y0,y1⟩,⟨y2,y3⟩⟩:=bA.out;refine wp_region_held_drew (S:=(fun w'=>w'.cell? ⟨w.heap.size,0,none⟩=some (.slice a p.n c)/\w'.cell? ⟨w.heap.size,1,none⟩=some (.slice a' p.hn c')/\w'.cell? ⟨X,0,none⟩=some (.int .i64 (qS p xs xb n))/\w'.cell? ⟨X,1,none⟩=some (.int .i64 (qU p xs xb n)))) (by kernel_rfl) ?_ (fun hHeld=>?_)
 ·(try dsimp only)
  go_keep
 refine tk 0 (h:=tk 1 (h:=tk 3 (h:=tk 4 (h:=tk 7 (h:=?_)))));refine rd [2] (rc (fun K hK=>?_) .nil);go_simp;go_at_call 113;refine(zA2 _ _ lo hi p (qS p xs xb n) (qU p xs xb n) _ ?_ rA.out).mono ?_
 ·first | exact Hp.out.zOp gA | exact Hp.out.zOp gA.drew
 rintro e wa ⟨g2,vA,rfl,fA,dA⟩;have aA:Below W.heap.size W wa:=(by first | exact dA | exact zJ dA);obtain⟨⟨k0,_⟩,⟨k1,_⟩⟩:=cA.out.zOp aA;obtain⟨⟨k2,_⟩,⟨k3,_⟩⟩:=bA.out.zOp aA;obtain⟨r0,r1⟩:=zM4 fA (show n % 8<8 by omega);obtain⟨⟨l0,l1⟩,⟨l2,l3⟩⟩:zk wa (w.heap.size+1+1) (.int .i64 0) (.int .i64 0):=jA.out.zOp aA;obtain⟨⟨m0,m1⟩,⟨m2,m3⟩⟩:zk wa (w.heap.size+1+1+1) (.int .i64 0) (.int .i64 0):=kA.out.zOp aA
 (try go_wp2_with fail)
 refine hK.out _ _ (by(try dsimp only);go_keep) ?_;clear hK K hHeld;intro hHeld
 try simp only[Act.put,s1,s2,s3]
 refine tk 5 (h:=?_);refine rd [6] (rc (fun K hK=>?_) .nil);go_simp
 (try go_wp2_with fail)
 refine hK.out _ _ (by(try dsimp only);go_keep) ?_;clear hK K hHeld;intro hHeld
 try simp only[Act.put,s1,s2,s3]
 refine rd [8] (rc (fun K hK=>?_) .nil);go_simp
 (try go_wp2_with fail)
 refine hK.out _ _ (by(try dsimp only);exact⟨((cA.out.zOp aA).zOr (yv _ _ _ _) (by omega)).1.1,((cA.out.zOp aA).zOr (yv _ _ _ _) (by omega)).2.1,((bA.out.zOp aA).zOr (yv _ _ _ _) (by omega)).1.1,((bA.out.zOp aA).zOr (yv _ _ _ _) (by omega)).2.1⟩) ?_;clear hK K hHeld;intro hHeld
 try simp only[Act.put,s1,s2,s3]
 refine rd [9] (rc (fun K hK=>?_) .nil);go_simp
 (try go_wp2_with fail)
 refine hK.out _ _ (by(try dsimp only);exact⟨(((cA.out.zOp aA).zOr (yv _ _ _ _) (by omega)).zOr (yv _ _ _ _) (by omega)).1.1,(((cA.out.zOp aA).zOr (yv _ _ _ _) (by omega)).zOr (yv _ _ _ _) (by omega)).2.1,(((bA.out.zOp aA).zOr (yv _ _ _ _) (by omega)).zOr (yv _ _ _ _) (by omega)).1.1,(((bA.out.zOp aA).zOr (yv _ _ _ _) (by omega)).zOr (yv _ _ _ _) (by omega)).2.1⟩) ?_;clear hK K hHeld;intro hHeld
 try simp only[Act.put,s1,s2,s3]
 refine wpAnyH_done (by kernel_rfl) ?_ _;have sA:Below w.heap.size w wa:=zA gA aA;go_wp2;refine bodyPost_ret (v:=.tuple #[.agg #[.int .i64 (zz p xs xb n),.int .i64 (qD p xs xb n)],.agg #[.int .i64 (qS p xs xb n),.int .i64 (qU p xs xb n)]]) (by simp[results,Tryz.results111,go_sem,l0,l2,m0,m2,zz,qD]) rfl ⟨rfl,?_⟩;exact(((sA.setCell (by show w.heap.size<=w.heap.size+1+1;omega) _).setCell (by show w.heap.size<=w.heap.size+1+1;omega) _).setCell (by show w.heap.size<=w.heap.size+1+1+1;omega) _).setCell (by show w.heap.size<=w.heap.size+1+1+1;omega) _
def zBM(p:zI)(xs xb:Int)(n L:Nat):Int:=if L=0 then xs else if L=1 then qS p xs xb n else zz p xs xb n
def zBz(p:zI)(xs xb:Int)(n L:Nat):Int:=if L=0 then xb else if L=1 then qU p xs xb n else qD p xs xb n
def plc(n L:Nat):Nat:=if L=0 then n / 8 else n % 8
def zNe(p:zI)(xs xb:Int)(n L j:Nat):Int:=if Nil (zBM p xs xb n L) (zBz p xs xb n L)then 0 else zCZ (p.s (zBM p xs xb n L).toNat) j
theorem zE1(p:zI)(xs xb:Int)(n:Nat){L:Nat}(h:L<2):zBM p xs xb n (L+1)=zNe p xs xb n L (plc n L*2)/\zBz p xs xb n (L+1)=zNe p xs xb n L (plc n L*2+1):=by
 rcases L with _ | _ | L
 ·exact⟨rfl,rfl⟩
 ·exact⟨rfl,rfl⟩
 ·omega
theorem zIs{n L:Nat}(h:n<64):plc n L<8:=by unfold plc;split<;>omega
theorem zNk{p:zI}{xs xb:Int}{n L:Nat}(h:Nil (zBM p xs xb n L) (zBz p xs xb n L))(hL:L<2):Nil (zBM p xs xb n (L+1)) (zBz p xs xb n (L+1)):=by
 rw[(zE1 p xs xb n hL).1,(zE1 p xs xb n hL).2];unfold zNe;rw[if_pos h,if_pos h];exact⟨rfl,rfl⟩
def yj(p:zI)(xs xb:Int)(n k:Nat):List (Int×Int):=kidsUp (fun i=>zBM p xs xb n (2 - i)) (fun i=>zBz p xs xb n (2 - i)) k
theorem zAq(p:zI)(i:Nat)(s:zO):(qj p i s).s i=s:=if_pos rfl
theorem zC3(p:zI){i j:Nat}(s:zO)(h:j≠i):(qj p i s).s j=p.s j:=if_neg h
theorem zBZ{p:zI}{i:Nat}{s:zO}{xs xb:Int}(hi:qJ (p.s i))(h:zy p xs xb):zy (qj p i s) xs xb:=by
 obtain⟨h1,h2,h3,h4⟩:=h;refine⟨h1,h2,h3,?_⟩;have aA:xs.toNat≠i:=fun e=>by
  rw[e]at h4;have:=hi.1;omega
 rw[zC3 p s aA];exact h4
theorem zJG{p:zI}{i:Nat}{s t:zO}(hi:qJ (p.s i))(h:ym p t):ym (qj p i s) t:=by
 refine⟨h.1,?_⟩;rcases h.2 with h2 | h2
 ·exact Or.inl h2
 ·refine Or.inr ⟨h2.1,h2.2.1,fun m hm=>?_⟩;rcases h2.2.2 m hm with h3 | h3
  ·exact Or.inl h3
  ·exact Or.inr ⟨zBZ hi h3.1,h3.2⟩
theorem zBa{p:zI}{i:Nat}{s:zO}(hR:zt p)(hi:qk p.n p.s i)(hs:ym p s):zt (qj p i s):=by
 refine⟨hR.1,fun j hj=>?_,fun j hj=>?_⟩
 ·by_cases e:j=i
  ·rw[e,zAq];exact Or.inr (zJG hi.2.1 hs)
  ·rw[zC3 p s e];rcases hR.2.1 j hj with h | h
   ·exact Or.inl h
   ·exact Or.inr (zJG hi.2.1 h)
 ·obtain⟨h1,h2,h3,h4⟩:=hR.2.2 j hj;refine⟨h1,h2,?_,h4⟩;have aA:(p.h j).toNat≠i:=fun e=>h3 (by rw[e];exact hi.2.1)
  show ¬qJ ((qj p i s).s (p.h j).toNat);rw[zC3 p s aA];exact h3
theorem qe{p:zI}{s:zO}(h:ym p s):¬qJ s:=fun hf=>by
 have:=hf.1;have:=h.1.1;omega
theorem zJZ{p:zI}{i:Nat}{s:zO}(hi:qJ (p.s i))(hs:¬qJ s):∀n,roomN (qj p i s).s n+(if i<n then 1 else 0)=roomN p.s n
 | 0=>rfl
 | n+1=>by
  have ih:=zJZ hi hs n;by_cases e:n=i
  ·subst e;rw[if_pos (by omega)];rw[if_neg (by omega)]at ih;rw[zCM (by rw[zAq];exact hs),zB5 hi];omega
  ·have aA:(qj p i s).s n=p.s n:=zC3 p s e;have bA:(if i<n+1 then 1 else 0)=(if i<n then 1 else 0):=by
    by_cases e2:i<n
    ·rw[if_pos e2,if_pos (by omega)]
    ·rw[if_neg e2,if_neg (by omega)]
   rw[bA];by_cases hf:qJ (p.s n)
   ·rw[zB5 (by rw[aA];exact hf),zB5 hf];omega
   ·rw[zCM (by rw[aA];exact hf),zCM hf];exact ih
def qC(p:zI)(xs xb:Int)(n L:Nat)(x:Int)(i:Nat):Int:=if i=plc n L then x else yi p (zBM p xs xb n L) (zBz p xs xb n L) i
def qB(p:zI)(xs xb:Int)(n L:Nat)(y:Int)(i:Nat):Int:=if i=plc n L then y else zAJ p (zBM p xs xb n L) (zBz p xs xb n L) i
noncomputable def zHz(p:zI)(xs xb:Int)(n:Nat)(b:Int)(o:zFJ)(L:Nat):zFJ:=zJU o.zOv (qC p xs xb n L o.ps) (qB p xs xb n L o.pb) b
noncomputable def layS(p:zI)(xs xb:Int)(n:Nat)(b:Int)(o:zFJ):Nat->zFJ
 | 0=>o
 | k+1=>zHz p xs xb n b (layS p xs xb n b o k) (1 - k)
theorem zGw:qA (zBn 0)=0:=rfl
theorem zHN(p:zI)(s:zO):qA (zAP p s).zOv<=qA p+zAn s:=by
 unfold zAP;split
 ·split
  ·exact zLu _ _ _
  ·show qA (zBn 0)<=_;rw[zGw];omega
 ·show qA (zBn 0)<=_;rw[zGw];omega
theorem zKR(p:zI)(f g:Nat->Int)(b:Int):qA (zJU p f g b).zOv<=qA p+8:=by
 unfold zJU;split
 ·show qA p<=_;omega
 ·exact zHN p (qO f g b)
theorem zHy(p:zI)(xs xb:Int)(n:Nat)(b:Int)(o:zFJ):∀k,qA (layS p xs xb n b o k).zOv<=qA o.zOv+8*k
 | 0=>Nat.le_refl _
 | k+1=>by
  have h1:=zHy p xs xb n b o k;have h2:=zKR (layS p xs xb n b o k).zOv (qC p xs xb n (1 - k) (layS p xs xb n b o k).ps) (qB p xs xb n (1 - k) (layS p xs xb n b o k).pb) b;show qA (zJU _ _ _ _).zOv<=_;omega
structure zCV where
 zOv:zI
 rs:Int
 rb:Int
 old:List (Int×Int)
 code:Int
def yJ(c:Int):zCV:=⟨zBn 0,0,0,[],c⟩
def zIR(t:zCV)(w:World)(e:Ending)(w':World):Prop:=
 ∃v0 v1 vo lo hi,e = .returned (.agg #[v0,v1,.int .i64 t.rs,.int .i64 t.rb,vo,.int .i64 t.code])/\w.heap.size<=lo/\hi<=w'.heap.size/\zh w' lo hi v0 v1 t.zOv/\qH w' w.heap.size vo t.old/\(∀k,vo.ownBlock=some k->k<lo\/hi<=k)/\Below w.heap.size w w'
open Classical in
noncomputable def zBy(p:zI)(xs xb:Int)(n:Nat)(b:Int)(o:zFJ):zCV:=
 if (layS p xs xb n b o 1).code≠0 then yJ (layS p xs xb n b o 1).code
 else if (layS p xs xb n b o 2).code≠0 then yJ (layS p xs xb n b o 2).code
 else⟨(layS p xs xb n b o 2).zOv,(layS p xs xb n b o 2).ps,(layS p xs xb n b o 2).pb,yj p xs xb n 3,0⟩
theorem zGL{p:zI}{xs xb:Int}{n:Nat}{b:Int}{o:zFJ}{k:Nat}(hk:k<2)(h:∀j,j<=k->(layS p xs xb n b o j).code=0)(hc:(layS p xs xb n b o (k+1)).code≠0):zBy p xs xb n b o=yJ (layS p xs xb n b o (k+1)).code:=by
 unfold zBy;rcases k with _ | _ | k
 ·rw[if_pos hc]
 ·rw[if_neg (fun hh=>hh (h 1 (by omega))),if_pos hc]
 ·omega
theorem zGq{p:zI}{xs xb:Int}{n:Nat}{b:Int}{o:zFJ}(h:∀j,j<=2->(layS p xs xb n b o j).code=0):zBy p xs xb n b o=⟨(layS p xs xb n b o 2).zOv,(layS p xs xb n b o 2).ps,(layS p xs xb n b o 2).pb,yj p xs xb n 3,0⟩:=by
 unfold zBy;rw[if_neg (fun hh=>hh (h 1 (by omega))),if_neg (fun hh=>hh (h 2 (by omega)))]
def zAB(n:Int):Prop:=0<=n/\n<=63
theorem yV(n:Int)(w:World):Calls Tryz.prog 59 #[.int .i64 n] w fun e w'=>zK (zAB n) e/\w'=w:=by
 by_cases h1:0<=n
 ·by_cases h2:n<=63
  ·go_enter Tryz.func59,Tryz.ntmps59;go_wp2;go_ret;exact⟨zK.yes ⟨h1,h2⟩,rfl⟩
  ·go_enter Tryz.func59,Tryz.ntmps59;go_wp2;go_ret;exact⟨zK.no fun h=>by have:=h.2;omega,rfl⟩
 ·go_enter Tryz.func59,Tryz.ntmps59;go_wp2;go_ret;exact⟨zK.no fun h=>by have:=h.1;omega,rfl⟩
def qW(rb zO1:Int):Prop:=zAR zO1/\rb<=zO1
theorem zMI{p:zI}{xs xb zO1:Int}(h:qR p xs xb):((∀i,i<(zY p xs xb).length->¬zO1<zj (zY p xs xb) i)/\zAR zO1)↔qW xb zO1:=by
 constructor
 ·rintro⟨h1,h2⟩;refine⟨h2,?_⟩;by_cases hz:Nil xs xb
  ·rw[hz.2];have:=h2.1;omega
  ·have e:zY p xs xb=(xs,xb) :: zA5 p (p.s xs.toNat) 8:=if_neg hz;have:=h1 0 (by rw[e];simp);rw[e]at this;have e2:zj ((xs,xb) :: zA5 p (p.s xs.toNat) 8) 0=xb:=rfl;rw[e2]at this;omega
 ·rintro⟨h1,h2⟩;refine⟨fun i hi aA=>?_,h1⟩;by_cases hz:Nil xs xb
  ·have e:zY p xs xb = []:=if_pos hz;rw[e]at hi;simp at hi
  ·have hm:(zg (zY p xs xb) i,zj (zY p xs xb) i)∈zY p xs xb:=by
    have:(zg (zY p xs xb) i,zj (zY p xs xb) i)=(zY p xs xb)[i]:=by
     unfold zg zj;rw[List.getD_eq_getElem?_getD,List.getElem?_eq_getElem hi,Option.getD_some]
    rw[this];exact List.getElem_mem hi
   have:=(zCg h.1 (h.2.resolve_left hz).1.1 _ hm).2;have e:(zg (zY p xs xb) i,zj (zY p xs xb) i).2=zj (zY p xs xb) i:=rfl;omega
theorem zFt(v0 v1:Value)(lo hi:Nat)(p:zI)(xs xb zO1:Int)(w:World)(h1:qm w lo hi v0 v1 p)(hT:qR p xs xb) :
  Calls Tryz.prog 110 #[.agg #[v0,v1],.agg #[.int .i64 xs,.int .i64 xb],.int .i64 zO1] w fun e w'=>zK (qW xb zO1) e/\Below w.heap.size w w':=by
 have Hp:=zF h1;have HT:=zF hT;have bA:=zF (zMI (zO1:=zO1) hT);obtain⟨a,c,a',c',rfl,rfl⟩:∃a c a' c',v0 = .slice a p.n c/\v1 = .slice a' p.hn c':=by
  obtain⟨⟨_,a,c,h1,_⟩,⟨_,a',c',h3,_⟩⟩:=h1;exact⟨a,c,a',c',h1,h3⟩
 clear h1 hT;have kA:=zB1 w (.slice a p.n c) (.slice a' p.hn c') (.int .i64 xs) (.int .i64 xb) 36 99;have fA:=qs p xs xb;go_enter Tryz.func110,Tryz.ntmps110;go_wp2_with fail;generalize (w.alloc (.cells #[.slice a p.n c,.slice a' p.hn c'] 36)).alloc (.cells #[.int .i64 xs,.int .i64 xb] 99)=W at kA ⊢;obtain⟨hB,hX,eA,hz⟩:=kA;refine(q8 _ _ lo hi p xs xb W (Hp.out.zOp eA) HT.out.1 HT.out.2).mono ?_;rintro e w1 ⟨v,rfl,hr,jA⟩;obtain⟨va,vc,rfl,_⟩:=zX hr;have Hr:=zF hr;have iA:=zA eA jA;clear hr jA hB hX eA hz;generalize zY p xs xb=l at Hr bA fA ⊢;go_wp2
 go_loopw [8] (fun i wr=>∃k:Nat,k<=l.length/\i = .int .i64 k/\(∀i,i<k->¬zO1<zj l i)/\w1=wr) (fun i _=>l.length - (intOf i).toNat)
 case atStart=>exact⟨0,Nat.zero_le _,rfl,fun i hi=>absurd hi (Nat.not_lt_zero _),rfl⟩
 case round=>
  obtain⟨k,hk,rfl,dA,rfl⟩:=hrel;have cA:=zF dA;clear dA;by_cases gA:k<l.length
  ·have lA:(k:Int)<(l.length:Int):=(by omega);obtain⟨b,cap,e,_,_,_,aA⟩:=qp Hr.out (by omega);simp only[Value.slice.injEq,true_and]at e;obtain⟨rfl,rfl⟩:=e;have q2:w1.cell? ⟨b,k*2+1,none⟩=some (.int .i64 (zj l k)):=(aA _ _ (zBG l k gA).2).1;clear aA;generalize hs:zj l k=y at q2;have Hs:=zF hs;clear hs;by_cases hb:zO1<y
   ·go_wp2;go_ret;exact⟨zK.no (fun h=>by have:=(bA.out.2 h).1 k gA;rw[Hs.out]at this;omega),iA⟩
   ·go_wp2;go_roundw
    case rel=>exact⟨k+1,by omega,by go_num,qE gA cA.out (by rw[Hs.out];omega),trivial⟩
    case measure=>simp[intOf];omega
  ·obtain rfl:k=l.length:=(by omega);go_wp2_with (first | (go_at_call 168;refine(yR zO1 _).mono ?_;rintro e w2 ⟨⟨t,rfl,ht⟩,rfl⟩;have Ht:=zF ht;clear ht) | fail);go_wp2;go_ret;exact⟨⟨_,rfl,Ht.out.trans ⟨fun h=>bA.out.1 ⟨cA.out,h⟩,fun h=>h.1⟩⟩,iA⟩
theorem zBW(v:Value)(n lo hi:Nat)(f g:Nat->Int)(w:World)(h1:zp w lo hi v n f g)(hn:n<=200) :
  Calls Tryz.prog 114 #[v] w fun e w'=>∃v',e = .returned v'/\qH w' w.heap.size v' (kidsUp f g n)/\Below w.heap.size w w':=by
 have Hp:=zF h1;obtain⟨m1,a,c,rfl,mc,_⟩:=id h1;clear h1;unfold maxLen at m1;obtain⟨i0,oA,lA⟩:=Option.map_eq_some_iff.1 zCt;simp only[Prod.mk.injEq]at lA;have HI:=zF (And.intro oA lA);clear oA lA;have ha:=zC w (.cells #[] 99);have L1:=zF (show qH (w.alloc (.cells #[] 99)) w.heap.size (.slice (some ⟨w.heap.size,0,none⟩) 0 0) [] from World.ownsRow_lit (e:=99) (size:=2) w #[] 0 (Nat.le_refl _) (by unfold maxLen;omega) rfl);go_enter Tryz.func114,Tryz.ntmps114;go_wp2
 go_loopw [3,4] (fun v i wr=>∃(k:Nat) (sa:Option Addr) (sc:Nat),k<=n/\i = .int .i64 k/\v = .slice sa (kidsUp f g k).length sc/\qH wr w.heap.size v (kidsUp f g k)/\Below w.heap.size w wr) (fun _ i _=>n - (intOf i).toNat)
 case atStart=>exact⟨0,_,_,Nat.zero_le _,rfl,rfl,L1.out,ha⟩
 case round=>
  obtain⟨k,sa,sc,hk,rfl,rfl,hr,hb⟩:=hrel;have Hr:=zF hr;have sA:=zAw f g k;clear hr L1 ha;by_cases tA:k<n
  ·have vA:(k:Int)<(n:Int):=(by omega);obtain⟨b,off,rfl,q0,q1⟩:=(Hp.out.zOp hb).cellsT tA;go_wp2_with fail;refine(yN (f k) (g k) wr).mono ?_;rintro e W ⟨⟨t,rfl,ht⟩,dA⟩;have fA:=zA hb dA;have iA:=zF (Hr.out.zOp dA);have dB:=(dA.cell (zD q0)).trans q0;have eB:=(dA.cell (zD q1)).trans q1;have bB:=fA.size;clear q0 q1 hb dA Hr;by_cases bA:Nil (f k) (g k)
   ·have gA:=zF bA;obtain rfl:t=true:=ht.2 bA;clear ht bA;have cA:=zF (show kidsUp f g (k+1)=kidsUp f g k by rw[kidsUp,show one (f k) (g k) = [] from if_pos gA.out,List.append_nil]);go_wp2;go_roundw
    case rel=>exact⟨k+1,sa,sc,by omega,by go_num,by rw[cA.out],by rw[cA.out];exact iA.out,fA⟩
    case measure=>simp[intOf];omega
   ·have gA:=zF bA;obtain rfl:t=false:=zP ht bA;clear ht bA;have cA:=zF (show kidsUp f g (k+1)=kidsUp f g k ++ [(f k,g k)] by rw[kidsUp,show one (f k) (g k) = [(f k,g k)] from if_neg gA.out]);have kA:=zC W (.cells #[.int .i64 (f k),.int .i64 (g k)] 99);have mA:=zF (iA.out.zOp kA);have nA:=zA fA kA;have cB:(W.alloc (.cells #[.int .i64 (f k),.int .i64 (g k)] 99)).heap.size=W.heap.size+1:=World.size_alloc _ _;have pA:=zF (World.news_of_block (heap_alloc_last W (.cells #[.int .i64 (f k),.int .i64 (g k)] 99)));clear kA iA fA;go_wp2_with (first
     | (at_builtin;refine wpList_append_lies _ rfl _ _ 100 rfl w.heap.size 99 i0 (.agg #[.int .i64 0,.int .i64 0]) 2 16 (by kernel_rfl) HI.out.1 HI.out.2.1 HI.out.2.2.1 HI.out.2.2.2 rfl (by decide) (.slice sa (kidsUp f g k).length sc) (kidsUp f g k).length (pcl (kidsUp f g k)) rfl mA.out ⟨W.heap.size,0,none⟩ 1 1 [.int .i64 (f k),.int .i64 (g k)] rfl rfl pA.out (by simp[Value.oneCell']) (by decide) (by unfold maxLen;omega) (by omega) (by omega) _ rfl ?_;intro g4 jA w4 eA aA rA aB)
     | go_in)
    go_roundw
    case rel=>exact⟨k+1,some ⟨g4,0,none⟩,jA,by omega,by go_num,by rw[cA.out,List.length_append];rfl,by rw[cA.out];exact qH.next eA,nA.grown aA nA.size (fun q hq=>(mA.out.lt hq).1)⟩
    case measure=>simp[intOf];omega
  ·obtain rfl:k=n:=(by omega);go_wp2;go_ret;exact⟨_,rfl,Hr.out,hb⟩
theorem zCc(v:Value)(n lo hi:Nat)(f g:Nat->Int)(w:World)(h1:zp w lo hi v n f g)(hn:n<=200) :
  Calls Tryz.prog 116 #[v] w fun e w'=>zK (∃i,i<n/\¬Nil (f i) (g i)) e/\Below w.heap.size w w':=by
 have Hp:=zF h1;obtain⟨m1,a,c,rfl,mc,_⟩:=id h1;clear h1;go_enter Tryz.func116,Tryz.ntmps116;go_wp2_with fail;refine(zBW _ n lo hi f g w Hp.out hn).mono ?_;rintro e w1 ⟨v',rfl,hr,hb⟩;obtain⟨va,vc,rfl,_⟩:=zX hr;have aA:=zAw f g n;clear hr;have Hm:Hid (0<(kidsUp f g n).length↔∃i,i<n/\¬Nil (f i) (g i)):=by
  constructor
  ·intro h;obtain⟨x,hx⟩:=List.exists_mem_of_length_pos h;obtain⟨i,hi,_,bA⟩:=yZ.1 hx;exact⟨i,hi,bA⟩
  ·rintro⟨i,hi,bA⟩;exact List.length_pos_of_mem (yZ.2 ⟨i,hi,rfl,bA⟩)
 generalize (kidsUp f g n).length=m at Hm aA ⊢;have cA:(m:Int)<=200:=by omega
 go_wp2;go_ret;exact⟨⟨_,rfl,by simpa using Hm.out⟩,hb⟩
theorem zAk{w wr:World}{R:Nat}{c:Int}(aA:w.heap.size<=R)(hb:Below w.heap.size w wr) :
  zIR (yJ c) w (.returned (.agg #[.slice none 0 0,.slice none 0 0,.int .i64 0,.int .i64 0,.slice none 0 0,.int .i64 c])) (put6 wr R (.slice none 0 0) (.slice none 0 0) (.int .i64 0) (.int .i64 0) (.slice none 0 0) (.int .i64 c)):=by
 have t:=zE.put6 wr R (.slice none 0 0) (.slice none 0 0) (.int .i64 0) (.int .i64 0) (.slice none 0 0) (.int .i64 c);exact⟨_,_,_,w.heap.size,w.heap.size,rfl,Nat.le_refl _,by have:=hb.size;have:=t.size;omega,zJV,qH.nil _ _,fun k hk=>by simp[Value.ownBlock]at hk,hb.trans (t.zOp (by have:=hb.size;omega) (fun k hk=>by omega))⟩
theorem zNF(w:World)(a0 a1 x0 x1:Value)(t1 t2 t3:TypeId) :
  zk (((w.alloc (.cells #[a0,a1] t1)).alloc (.cells #[x0,x1] t2)).alloc (.cells #[.slice none 0 0,.slice none 0 0,.int .i64 0,.int .i64 0,.slice none 0 0,.int .i64 0] t3)) w.heap.size a0 a1/\
  zk (((w.alloc (.cells #[a0,a1] t1)).alloc (.cells #[x0,x1] t2)).alloc (.cells #[.slice none 0 0,.slice none 0 0,.int .i64 0,.int .i64 0,.slice none 0 0,.int .i64 0] t3)) (w.heap.size+1) x0 x1/\
  za (((w.alloc (.cells #[a0,a1] t1)).alloc (.cells #[x0,x1] t2)).alloc (.cells #[.slice none 0 0,.slice none 0 0,.int .i64 0,.int .i64 0,.slice none 0 0,.int .i64 0] t3)) (w.heap.size+1+1) (.slice none 0 0) (.slice none 0 0) (.int .i64 0) (.int .i64 0) (.slice none 0 0) (.int .i64 0)/\
  Below w.heap.size w (((w.alloc (.cells #[a0,a1] t1)).alloc (.cells #[x0,x1] t2)).alloc (.cells #[.slice none 0 0,.slice none 0 0,.int .i64 0,.int .i64 0,.slice none 0 0,.int .i64 0] t3))/\
  (((w.alloc (.cells #[a0,a1] t1)).alloc (.cells #[x0,x1] t2)).alloc (.cells #[.slice none 0 0,.slice none 0 0,.int .i64 0,.int .i64 0,.slice none 0 0,.int .i64 0] t3)).heap.size=w.heap.size+3:=by
 refine⟨((zk.zOt w a0 a1 t1).zOp (zC _ _)).zOp (zC _ _),?_,?_,zA (zA (zC _ _) (zC _ _)) (zC _ _),by simp⟩
 ·have:=(zk.zOt (w.alloc (.cells #[a0,a1] t1)) x0 x1 t2).zOp (zC _ (.cells #[.slice none 0 0,.slice none 0 0,.int .i64 0,.int .i64 0,.slice none 0 0,.int .i64 0] t3));rw[World.size_alloc]at this;exact this
 ·have:=za.zOt ((w.alloc (.cells #[a0,a1] t1)).alloc (.cells #[x0,x1] t2)) (.slice none 0 0) (.slice none 0 0) (.int .i64 0) (.int .i64 0) (.slice none 0 0) (.int .i64 0) t3;rw[World.size_alloc,World.size_alloc]at this;exact this
open Classical in
noncomputable def zA6(p:zI)(xs xb zO2 b:Int):zCV:=
 if qR p xs xb/\qW xb b then(if zAB zO2 then(if Nil (zz p xs xb zO2.toNat) (qD p xs xb zO2.toNat)then yJ 4 else zBy p xs xb zO2.toNat b ⟨p,0,0,0⟩)else yJ 8)else yJ 1
theorem zFi{p:zI}{xs xb zO2 b:Int}(h:¬(qR p xs xb/\qW xb b)):zA6 p xs xb zO2 b=yJ 1:=if_neg h
theorem zHR{p:zI}{xs xb zO2 b:Int}(h:qR p xs xb/\qW xb b)(h2:¬zAB zO2):zA6 p xs xb zO2 b=yJ 8:=(if_pos h).trans (if_neg h2)
theorem zIJ{p:zI}{xs xb zO2 b:Int}(h:qR p xs xb/\qW xb b)(h2:zAB zO2)(h3:Nil (zz p xs xb zO2.toNat) (qD p xs xb zO2.toNat)):zA6 p xs xb zO2 b=yJ 4:=((if_pos h).trans (if_pos h2)).trans (if_pos h3)
theorem zJu{p:zI}{xs xb zO2 b:Int}(h:qR p xs xb/\qW xb b)(h2:zAB zO2)(h3:¬Nil (zz p xs xb zO2.toNat) (qD p xs xb zO2.toNat)):zA6 p xs xb zO2 b=zBy p xs xb zO2.toNat b ⟨p,0,0,0⟩:=((if_pos h).trans (if_pos h2)).trans (if_neg h3)
def yx(b:Int)(d:ByteArray):zO:={zO1:=b,kn:=0,ks:=fun _=>0,kb:=fun _=>0,data:=d}
open Classical in
noncomputable def yg(p:zI)(xs xb zO2:Int)(d:ByteArray)(b:Int):zCV:=
 if 8000<d.size then yJ 2 else if qR p xs xb/\qW xb b then(if zAB zO2/\d.size=16 then(if (zAP p (yx b d)).code=0 then zBy p xs xb zO2.toNat b ⟨(zAP p (yx b d)).zOv,(zAP p (yx b d)).ps,(zAP p (yx b d)).pb,0⟩else yJ (zAP p (yx b d)).code)else yJ 8)else yJ 1
theorem zHX{p:zI}{xs xb zO2 b:Int}{d:ByteArray}(h:8000<d.size):yg p xs xb zO2 d b=yJ 2:=if_pos h
theorem zEj{p:zI}{xs xb zO2 b:Int}{d:ByteArray}(h0:¬8000<d.size)(h:¬(qR p xs xb/\qW xb b)):yg p xs xb zO2 d b=yJ 1:=(if_neg h0).trans (if_neg h)
theorem zDv{p:zI}{xs xb zO2 b:Int}{d:ByteArray}(h0:¬8000<d.size)(h:qR p xs xb/\qW xb b)(h2:¬(zAB zO2/\d.size=16)):yg p xs xb zO2 d b=yJ 8:=((if_neg h0).trans (if_pos h)).trans (if_neg h2)
theorem zKg{p:zI}{xs xb zO2 b:Int}{d:ByteArray}(h0:¬8000<d.size)(h:qR p xs xb/\qW xb b)(h2:zAB zO2/\d.size=16)(h3:(zAP p (yx b d)).code≠0):yg p xs xb zO2 d b=yJ (zAP p (yx b d)).code:=(((if_neg h0).trans (if_pos h)).trans (if_pos h2)).trans (if_neg h3)
theorem zLz{p:zI}{xs xb zO2 b:Int}{d:ByteArray}(h0:¬8000<d.size)(h:qR p xs xb/\qW xb b)(h2:zAB zO2/\d.size=16)(h3:(zAP p (yx b d)).code=0):yg p xs xb zO2 d b=zBy p xs xb zO2.toNat b ⟨(zAP p (yx b d)).zOv,(zAP p (yx b d)).ps,(zAP p (yx b d)).pb,0⟩:=(((if_neg h0).trans (if_pos h)).trans (if_pos h2)).trans (if_pos h3)
end Go.Proofs.YtgabgheflgjgiaaGreatDoor
