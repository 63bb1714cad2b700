/- A part of the proof. -/
import Derived.Test.YtibhefllijahkaaGreatDoorF22
set_option linter.unusedVariables false
set_option maxRecDepth 20000
set_option maxHeartbeats 4000000
namespace Go.Proofs.YtibhefllijahkaaGreatDoor
open Go.RowKit
variable{kv:Nat->Value}
theorem zHY{f:Nat->AM}{n k j:Nat}{s:AM}(e:k<=n)(d:j<n+1)(r:Nat):CC (ins (FA f n s) k (FA f n s n)) (ins (Fy kv n) k (Fy kv n n)) j r=CC (ins f k s) (ins kv k (.slice none 0 0)) j r:=by
 have b:FA f n s n=s:=if_neg (Nat.lt_irrefl _);have c:Fy kv n n = .slice none 0 0:=if_neg (Nat.lt_irrefl _);rw[b,c];have a:∀i,i<n->FA f n s i=f i/\Fy kv n i=kv i:=fun i hi=>⟨if_pos hi,if_pos hi⟩
 rcases Nat.lt_trichotomy j k with h | h | h
 ·unfold CC;rw[ET h,ET h,ET h,ET h,(a j (by omega)).1,(a j (by omega)).2]
 ·subst h;unfold CC;rw[ER,ER,ER,ER]
 ·unfold CC;rw[ES h,ES h,ES h,ES h,(a (j - 1) (by omega)).1,(a (j - 1) (by omega)).2]
theorem zAV(p:Nat->Addr)(C k:Nat)(z0 z1 z2 z3:Value)(W:A5)(s:AM)(w:World)(h8:W.sn<8)(hI:JQ W.sn W.A3)(M:Dp W s.name k)(vA:s.dn=0)(aB:s.name.size<=maxLen)(eD:C<w.heap.size)
 (ho:DC w (C+1) w.heap.size z0 z1 z2 z3 W) (hC:Bp w C z0 z1 (.int .i64 W.time) (.int .i64 W.next) z2 z3 (.int .i64 0) (.int .i64 0) .nilIface) :
 Calls Tryz.prog 41 #[.pointer (some ⟨C,0,none⟩),.agg #[.string s.name,.int .i64 s.origin,.int .i64 s.A6,.int .i64 s.rs,.int .i64 s.rb,.slice none 0 0]] w (JU p ⟨DE W k s,0,0,0⟩ C w):=by
 have Ho:=A4 ho;have HC:=A4 hC;have HI:=A4 hI;have d:=A4 M;have jB:=A4 aB;have iB:=A4 vA;obtain⟨l0,sB,l1,tB,l2,nD,l3,vB,rfl,rfl,rfl,rfl⟩:=ho.C5;clear ho hC hI M aB vA;have Y:=A9 w (.cells #[.string s.name,.int .i64 s.origin,.int .i64 s.A6,.int .i64 s.rs,.int .i64 s.rb,.slice none 0 0] 44);have HX:=A4 (Aj.new w (.string s.name) (.int .i64 s.origin) (.int .i64 s.A6) (.int .i64 s.rs) (.int .i64 s.rb) (.slice none 0 0) 44);have pB:(w.alloc (.cells #[.string s.name,.int .i64 s.origin,.int .i64 s.A6,.int .i64 s.rs,.int .i64 s.rb,.slice none 0 0] 44)).heap.size=w.heap.size+1:=World.size_alloc _ _;go_enter Tryz.func41,Tryz.ntmps41;go_wp2_with fail;generalize w.alloc (.cells #[.string s.name,.int .i64 s.origin,.int .i64 s.A6,.int .i64 s.rs,.int .i64 s.rb,.slice none 0 0] 44)=F at Y HX pB ⊢;obtain⟨P,Q,R,I,E⟩:=Ho.out;obtain⟨hP,⟨J,kb,kv,hS,lA,X,kA,-⟩,hZ,pq,pr,qr⟩:=I;have z:Below F.heap.size F F.drew:=(Below.refl _ _).drew;have D:=A9 F.drew (.cells #[.string s.name,.int .i64 s.origin,.int .i64 s.A6,.int .i64 s.rs,.int .i64 s.rb,.slice none 0 0] 44);have A:Below w.heap.size w (F.drew.alloc (.cells #[.string s.name,.int .i64 s.origin,.int .i64 s.A6,.int .i64 s.rs,.int .i64 s.rb,.slice none 0 0] 44)):=A7 (A7 Y z) D;have rB:(F.drew.alloc (.cells #[.string s.name,.int .i64 s.origin,.int .i64 s.A6,.int .i64 s.rs,.int .i64 s.rb,.slice none 0 0] 44)).heap.size=w.heap.size+2:=by rw[World.size_alloc];show F.heap.size+1=_;omega
 have l:0<W.sn->C+1<=J/\J<w.heap.size:=fun h0=>E J (Or.inr (Or.inl (X J (Or.inl ⟨h0,rfl⟩))))
 obtain⟨g,cap,N,tA,y,bA,sA,Z,-,t⟩:=zA0 (B:=F.drew.heap.size) (base:=C+1) (s:=s) (hS.A0 A) (kA.A0 A) h8 (fun h0=>(l h0).1) (fun j u hj=>by
  refine(World.cell?_alloc_at _ _ _ _ rfl).trans ?_;rw[<-hj];exact List.getElem?_toArray ..) (by omega) 27
 have rA:g≠C:=by
  rcases bA with⟨h0,e⟩ | e
  ·have:=l h0;omega
  ·omega
 have L:AI (fun j=>0<W.sn/\j=J) w N:=(AI.Co A).trans y;have fD:w.heap.size+2<=N.heap.size:=by have:=y.size;omega
 have pA:=(HX.out.A0 z).A0 D;have o:=pA.AH y (fun h=>by have:=l h.1;omega);have U:=(HC.out.A0 A).AH y (fun h=>by have:=l h.1;omega);have x:=A4 (show ∀w',Below F.drew.heap.size F.drew w'->(fun w':World=>w'.cell? ⟨w.heap.size,0,none⟩=some (.string s.name)/\w'.cell? ⟨w.heap.size,1,none⟩=some (.int .i64 s.origin)/\w'.cell? ⟨w.heap.size,2,none⟩=some (.int .i64 s.A6)/\w'.cell? ⟨w.heap.size,3,none⟩=some (.int .i64 s.rs)/\w'.cell? ⟨w.heap.size,4,none⟩=some (.int .i64 s.rb)/\w'.cell? ⟨w.heap.size,5,none⟩=some (.slice none 0 0)) w' from fun w' hb=>by
  have h:=(HX.out.A0 z).A0 hb;exact⟨h.1.1,h.2.1.1,h.2.2.1.1,h.2.2.2.1.1,h.2.2.2.2.1.1,h.2.2.2.2.2.1⟩)
 have dA:=A4 (show(fun w':World=>w'.cell? ⟨w.heap.size,0,none⟩=some (.string s.name)/\w'.cell? ⟨w.heap.size,1,none⟩=some (.int .i64 s.origin)/\w'.cell? ⟨w.heap.size,2,none⟩=some (.int .i64 s.A6)/\w'.cell? ⟨w.heap.size,3,none⟩=some (.int .i64 s.rs)/\w'.cell? ⟨w.heap.size,4,none⟩=some (.int .i64 s.rb)/\w'.cell? ⟨w.heap.size,5,none⟩=some (.slice none 0 0)) N from⟨o.1.1,o.2.1.1,o.2.2.1.1,o.2.2.2.1.1,o.2.2.2.2.1.1,o.2.2.2.2.2.1⟩);have q:=o.AH (AI.put N C 4 (.slice (some ⟨g,0,none⟩) (W.sn+1) cap)) (fun h=>by omega);have eA:=A4 (show(fun w':World=>w'.cell? ⟨w.heap.size,0,none⟩=some (.string s.name)/\w'.cell? ⟨w.heap.size,1,none⟩=some (.int .i64 s.origin)/\w'.cell? ⟨w.heap.size,2,none⟩=some (.int .i64 s.A6)/\w'.cell? ⟨w.heap.size,3,none⟩=some (.int .i64 s.rs)/\w'.cell? ⟨w.heap.size,4,none⟩=some (.int .i64 s.rb)/\w'.cell? ⟨w.heap.size,5,none⟩=some (.slice none 0 0)) (N.setCell ⟨C,4,none⟩ (.slice (some ⟨g,0,none⟩) (W.sn+1) cap))from⟨q.1.1,q.2.1.1,q.2.2.1.1,q.2.2.2.1.1,q.2.2.2.2.1.1,q.2.2.2.2.2.1⟩);have HR:=A4 tA;have G:=A4 D;obtain⟨x4,-⟩:=((HC.out.A0 Y).A0 z).2.2.2.2.1;have X5:=A4 ((D.cell (AZ x4)).trans x4);obtain⟨y4,g4⟩:=U.2.2.2.2.1;have b:=A4 U;have O:=A4 t;have fA:=A4 L;have HG:=A4 (show(0<W.sn/\g=J)\/w.heap.size<=g from bA.imp id (fun e=>by omega));have HS:=A4 hS;have eB:=A4 lA;have fB:=A4 X;have HP:=A4 hP;have HZ:=A4 hZ.isIn;have bB:=A4 E;have gA:=A4 l;clear tA y t L bA hS lA X kA hP hZ E l U pA o q D A rB;refine wp_region_held_drew (S:=(fun w':World=>w'.cell? ⟨w.heap.size,0,none⟩=some (.string s.name)/\w'.cell? ⟨w.heap.size,1,none⟩=some (.int .i64 s.origin)/\w'.cell? ⟨w.heap.size,2,none⟩=some (.int .i64 s.A6)/\w'.cell? ⟨w.heap.size,3,none⟩=some (.int .i64 s.rs)/\w'.cell? ⟨w.heap.size,4,none⟩=some (.int .i64 s.rb)/\w'.cell? ⟨w.heap.size,5,none⟩=some (.slice none 0 0))) (by kernel_rfl) (x.out _ (Below.refl _ _)) (fun hHeld=>?_);generalize F.drew=q0 at hHeld x HR G x4 X5 z ⊢
 refine' zFd (fun hfin=>_) _
 rotate_left
 ·skip;refine tk 0 (h:=tk 1 (h:=tk 2 (h:=tk 3 (h:=tk 4 (h:=tk 6 (h:=?_))))));refine rd [5,7] (rc (fun K hK=>?_) (rc (fun K hK=>?_) .nil))
  ·go_simp
   (try go_wp2_with fail)
   refine hK.out _ _ (x.out _ (Below.refl _ _)) ?_;clear hK K;intro hHeld
   try simp only[Act.put,s1,s2,s3]
   refine rd [7] (rc (fun K hK=>?_) .nil);go_simp
   (try go_wp2_with fail)
   refine hK.out _ _ (x.out _ G.out) ?_;clear hK K;intro hHeld
   try simp only[Act.put,s1,s2,s3]
   refine rd [8] (rc (fun K hK=>?_) .nil);refine ZT rfl (.tmp 9) (.tmp 11) 27 rfl _ _ _ rfl rfl HR.out ?_
   (try go_wp2_with fail)
   refine hK.out _ _ (dA.out) ?_;clear hK K;intro hHeld
   try simp only[Act.put,s1,s2,s3]
   refine tk 9 (h:=tk 10 (h:=tk 11 (h:=?_)));refine rd [12] (rc (fun K hK=>?_) .nil);go_simp
   (try go_wp2_with fail)
   refine hK.out _ _ (eA.out) ?_;clear hK K;intro hHeld
   try simp only[Act.put,s1,s2,s3]
   refine wpAnyH_done (by kernel_rfl) ?_ _;exact hfin.out
  ·go_simp
   (try go_wp2_with fail)
   refine hK.out _ _ (x.out _ G.out) ?_;clear hK K;intro hHeld
   try simp only[Act.put,s1,s2,s3]
   refine rd [5] (rc (fun K hK=>?_) .nil);have bC:=X5.out;go_simp
   (try go_wp2_with fail)
   refine hK.out _ _ (x.out _ G.out) ?_;clear hK K;intro hHeld
   try simp only[Act.put,s1,s2,s3]
   clear bC;refine rd [8] (rc (fun K hK=>?_) .nil);refine ZT rfl (.tmp 9) (.tmp 11) 27 rfl _ _ _ rfl rfl HR.out ?_
   (try go_wp2_with fail)
   refine hK.out _ _ (dA.out) ?_;clear hK K;intro hHeld
   try simp only[Act.put,s1,s2,s3]
   refine tk 9 (h:=tk 10 (h:=tk 11 (h:=?_)));refine rd [12] (rc (fun K hK=>?_) .nil);go_simp
   (try go_wp2_with fail)
   refine hK.out _ _ (eA.out) ?_;clear hK K;intro hHeld
   try simp only[Act.put,s1,s2,s3]
   refine wpAnyH_done (by kernel_rfl) ?_ _;exact hfin.out
 have mA:=AI.put N C 4 (.slice (some ⟨g,0,none⟩) (W.sn+1) cap);have V:AJ (N.setCell ⟨C,4,none⟩ (.slice (some ⟨g,0,none⟩) (W.sn+1) cap)) C 4 (.slice (some ⟨g,0,none⟩) (W.sn+1) cap):=b.out.2.2.2.2.1.set _;obtain⟨z4,-⟩:=V;go_wp2_with fail;refine(zBt W.sn k g cap (FA W.A3 W.sn s) (Fy kv W.sn) (fun i=>?_) _ (by rw[World.size_setCell];exact sA) d.out.1 (by omega) (fun i hi r hr=>(O.out i hi r hr).other _ (Or.inl (fun e=>rA e.symm))) (fun i j mB hj=>?_) (fun i hi=>?_) (fun i hi I=>?_)).mono ?_
 ·unfold Fy;by_cases e:i<W.sn
  ·rw[if_pos e];obtain⟨off,c,-,h⟩:=HS.out.nth e;obtain⟨_,a,cc,hv,_⟩:=h.dead;exact⟨a,_,cc,hv⟩
  ·rw[if_neg e];exact⟨none,0,0,rfl⟩
 ·unfold FA;rw[if_pos (by omega),if_pos hj];exact XO HI.out mB hj
 ·unfold FA;have:=d.out.1;rw[if_pos (by omega),if_neg (Nat.lt_irrefl _)];exact d.out.2.1 i hi
 ·unfold FA;rw[if_pos I,if_neg (Nat.lt_irrefl _)];exact d.out.2.2 i hi I
 rintro e w7 ⟨rfl,nA,v⟩;have T:=A4 nA;have H:=A4 v;clear nA v z4;go_wp2_with fail;go_end0;have gD:=mA.size;have iD:=T.out.size;have oA:AI (fun j=>(0<W.sn/\j=J)\/j=C\/j=g) w w7:=((fA.out.mono (fun j h=>Or.inl h)).trans (mA.mono (fun j h=>Or.inr (Or.inl h)))).trans (T.out.mono (fun j h=>Or.inr (Or.inr h)));have aA:(0<W.sn/\g=J)\/(w.heap.size<=g/\w.heap.size<=g):=by
  rcases HG.out with h | h
  ·exact Or.inl h
  ·exact Or.inr ⟨by omega,by omega⟩
 have hO:=zAW (s:=s) (k:=k) (m:=w.heap.size) HP.out HS.out eB.out fB.out HZ.out pq pr qr bB.out d.out.1 iB.out jB.out oA (fun j h=>by
  rcases h with h | h | h
  ·exact Or.inl h
  ·exact Or.inr (Or.inl (by omega))
  ·rcases aA with h' | h'
   ·exact Or.inl ⟨h'.1,by omega⟩
   ·exact Or.inr (Or.inr (by omega))) aA (by omega) (by unfold maxLen;omega) Z (fun j hj r hr=>by
  have h:=H.out j hj r hr;rw[zHY d.out.1 hj r]at h;exact h)
 have V:Bp (N.setCell ⟨C,4,none⟩ (.slice (some ⟨g,0,none⟩) (W.sn+1) cap)) C (.slice l0 W.pool.n sB) (.slice l1 W.pool.hn tB) (.int .i64 W.time) (.int .i64 W.next) (.slice (some ⟨g,0,none⟩) (W.sn+1) cap) (.slice l3 W.pn vB) (.int .i64 0) (.int .i64 0) .nilIface:=⟨b.out.1.other _ (Or.inr (by decide)),b.out.2.1.other _ (Or.inr (by decide)),b.out.2.2.1.other _ (Or.inr (by decide)),b.out.2.2.2.1.other _ (Or.inr (by decide)),b.out.2.2.2.2.1.set _,b.out.2.2.2.2.2.1.other _ (Or.inr (by decide)),b.out.2.2.2.2.2.2.1.other _ (Or.inr (by decide)),b.out.2.2.2.2.2.2.2.1.other _ (Or.inr (by decide)),b.out.2.2.2.2.2.2.2.2.other _ (Or.inr (by decide))⟩;have kB:=V.AH T.out (fun h=>rA h.symm);refine⟨⟨_,rfl⟩,?_,by omega,Or.inl ⟨rfl,_,_,_,_,kB,hO.own (by omega) (by omega)⟩⟩;exact oA.A0 (B:=C) (by omega) (fun j h=>by
  rcases h with h | h | h
  ·have:=gA.out h.1;omega
  ·omega
  ·rcases aA with h' | h'
   ·have:=gA.out h'.1;omega
   ·omega)
theorem zBq(p:Nat->Addr)(C k l:Nat)(d g i j:Value)(W:A5)(name:ByteArray)(w:World)(x:W.sn<8)(n:JQ W.sn W.A3)(a:Dp W name k)(c:name.size<=maxLen)(b:C<w.heap.size)
 (y:w.cell? ⟨l,0,none⟩=some (.string name)) (o:DC w (C+1) w.heap.size d g i j W) (m:Bp w C d g (.int .i64 W.time) (.int .i64 W.next) i j (.int .i64 0) (.int .i64 0) .nilIface) :
 Calls Tryz.prog 40 #[.pointer (some ⟨C,0,none⟩),.pointer (some ⟨l,0,none⟩)] w (JU p ⟨DE W k (KX name),0,0,0⟩ C w):=by
 have H:=A4 (zAV p C k d g i j W (KX name) w x n a rfl c b o m);clear o m n a;unfold KX at H;dsimp only at H;go_enter Tryz.func40,Tryz.ntmps40;go_wp2_with fail;refine H.out.mono ?_;rintro e w' ⟨⟨v,rfl⟩,q⟩;have r:=A4 q;clear q;go_wp2_with fail;go_end0;refine⟨⟨_,rfl⟩,?_⟩;obtain⟨s,t,u⟩:=r.out;refine⟨s,t,?_⟩;rcases u with⟨-,h⟩ | h
 ·exact Or.inl ⟨rfl,h⟩
 ·exact Or.inr h
theorem zD9(p:Nat->Addr)(g v1 i j:Value)(lo hi:Nat)(W:A5)(name:ByteArray)(w:World)(x:Cr w p)(h:BR w lo hi g v1 i j W)(d:E7 W)(q:Az W.pool<=1048576)(s:W.sn<=1048576)(t:W.pn<=1048576)(u:Je W)(a:name.size<=maxLen) :
 Calls Tryz.prog 14 #[BS g v1 i j W,.string name] w (zd W name w):=by
 by_cases hs:CF W/\¬B3 W name
 ·obtain⟨k,y⟩:=Dp.has hs.1.AX.A3 hs.2;refine(ZF p g v1 i j lo hi W name ⟨DE W k (KX name),0,0,0⟩ w x h d q s t u a ?_).mono ?_
  ·intro o C w' B D E F A H m _ _ n c G z v;exact zBq p C k o B D E F W name w' (n 1 (by omega)) m.AX.A3 y a c A z v
  ·rintro e w' ⟨r,b,l⟩;exact⟨r,_,b,fun _=>⟨k,y,rfl⟩,l⟩
 ·refine(ZF p g v1 i j lo hi W name (BG 0) w x h d q s t u a ?_).mono ?_
  ·intro o C w' B D E F A H m _ _ n c G z v;exact absurd ⟨m,n 0 (by omega)⟩ hs
  ·rintro e w' ⟨r,b,l⟩;exact⟨r,_,b,fun e=>absurd ⟨(e▸b).impl,(e▸b).all 0 (by omega)⟩ hs,l⟩
open Go.Maps
section
variable {W V : A5}
theorem LC(a:EQ W){nm:ByteArray}{st:Int}:∀{n m:Nat} {x y:Int},Steps W nm st n x->Steps W nm st m y->m<n->x<y
 | 0,_,_,_,_,_,h=>absurd h (Nat.not_lt_zero _)
 | n+1,m,_,y,.next (x:=z) h hk hs,hm,hl=>by
  have b:=a.less _ hk.1;have c:=hk.2.1;by_cases e:m=n
  ·subst e;have:=h.det hm;omega
  ·have:=LC a h hm (by omega);omega
variable{nm:ByteArray}{st x:Int}{n:Nat}
theorem Ue(a:EQ W)(h:Steps W nm st n x):x<=st:=by
 by_cases e:n=0
 ·subst e;cases h;exact Int.le_refl _
 ·exact Int.le_of_lt (LC a h .zero (by omega))
theorem Mh{nm:ByteArray}{st z:Int}{a:Nat}(h:Steps W nm st a z):∀{b:Nat} {y:Int},Steps W nm z b y->Steps W nm st (a+b) y
 | 0,_,.zero=>h
 | b+1,_,.next g hk hs=>.next (Mh h g) hk hs
theorem OQ{nm:ByteArray}{st z:Int}{a:Nat}(h:Steps W nm st a z):∀{m:Nat} {y:Int},Steps W nm st m y->a<=m->Steps W nm z (m - a) y
 | 0,_,.zero,hl=>by
  obtain rfl:a=0:=(by omega);cases h;exact .zero
 | m+1,_,.next (x:=x) g hk hs,hl=>by
  by_cases e:a=m+1
  ·subst e;have:=h.det (.next g hk hs);subst this;rw[Nat.sub_self];exact .zero
  ·rw[show m+1 - a=(m - a)+1 by omega];exact .next (OQ h g (by omega)) hk hs
theorem Lu(nm:ByteArray):∀n,ownN W nm n=cnt (fun j=>(W.A1 j).set=nm) n
 | 0=>rfl
 | n+1=>by
  unfold cnt;by_cases h:(W.A1 n).set=nm
  ·rw[Np h,Lu nm n,if_pos h]
  ·rw[Lt h,Lu nm n,if_neg h,Nat.add_zero]
def KG(W:A5)(nm:ByteArray)(st:Int)(n j:Nat):Prop:=∃m x,m<n/\Steps W nm st m x/\B5 W x j
theorem U2(d:EQ W){nm:ByteArray}{st:Int}:∀{n:Nat} {x:Int},Steps W nm st n x->cnt (KG W nm st n) W.pn=n
 | 0,_,_=>O7 fun i hi ⟨m,_,h,_⟩=>Nat.not_lt_zero _ h
 | n+1,_,.next (x:=x) (k:=k) h hk hs=>by
  have g:cnt (KG W nm st (n+1)) W.pn=cnt (fun j=>KG W nm st n j\/j=k) W.pn:=J5 fun j l=>by
   constructor
   ·rintro⟨m,y,c,b,a⟩;by_cases e:m=n
    ·subst e;rw[b.det h]at a;exact .inr (a.uniq hk)
    ·exact .inl ⟨m,y,by omega,b,a⟩
   ·rintro(⟨m,y,c,b,a⟩ | rfl)
    ·exact⟨m,y,by omega,b,a⟩
    ·exact⟨n,x,by omega,h,hk⟩
  rw[g,NR,U2 d h,Q0 hk.1];rintro j l ⟨m,y,c,b,a⟩ rfl;have o:=a.2.1;have p:=hk.2.1;have:=LC d h b c;omega
theorem U3(h:Steps W nm st n x){j:Nat}(b:KG W nm st n j):(W.A1 j).set=nm:=by
 obtain⟨m,y,c,d,a⟩:=b;obtain⟨z,g,i,hi,e⟩:=h.less c;rw[g.det d]at hi;rw[a.uniq hi];exact e
theorem Jj(b:EQ W)(h:Steps W nm st n x):n=ownN W nm W.pn↔∀j,j<W.pn->(W.A1 j).set=nm->KG W nm st n j:=by
 have:=RO (P:=KG W nm st n) (Q:=fun j=>(W.A1 j).set=nm) (n:=W.pn) fun i _=>U3 h
 rw[U2 b h,<-Lu]at this;rw[this];exact⟨fun g j a e=>(g j a).2 e,fun g j a=>⟨U3 h,g j a⟩⟩
structure CQ (W V:A5) (k d:Nat) (nm other:ByteArray) (id:Int):Prop where
 pool:V.pool=W.pool
 time:V.time=W.time
 next:V.next=W.next
 sn:V.sn=W.sn
 pn:V.pn=W.pn
 hit:∀j,(∃m x,Steps W other id m x/\B5 W x j/\(W.A1 j).set=other)->V.A1 j = {W.A1 j with set:=nm}
 miss:∀j,¬(∃m x,Steps W other id m x/\B5 W x j/\(W.A1 j).set=other)->V.A1 j=W.A1 j
 kd:k≠d
 setD:V.A3 d = {W.A3 d with origin:=id}
 setK:V.A3 k = {W.A3 k with origin:=(W.A3 d).origin}
 rest:∀j,j≠d->j≠k->V.A3 j=W.A3 j
variable {k d : Nat} {nm other : ByteArray} {id : Int}
theorem CQ.snap(g:CQ W V k d nm other id)(j:Nat):V.A1 j = {W.A1 j with set:=(V.A1 j).set}:=by
 by_cases h:∃m x,Steps W other id m x/\B5 W x j/\(W.A1 j).set=other
 ·rw[g.hit j h]
 ·rw[g.miss j h]
theorem CQ.set(g:CQ W V k d nm other id)(j:Nat):V.A3 j = {W.A3 j with origin:=(V.A3 j).origin}:=by
 by_cases h:j=d
 ·subst h;rw[g.setD]
 ·by_cases a:j=k
  ·subst a;rw[g.setK]
  ·rw[g.rest j h a]
theorem CQ.no(g:CQ W V k d nm other id)(x:Int)(j:Nat):B5 V x j↔B5 W x j:=by
 have e:∀j,(V.A1 j).id=(W.A1 j).id:=fun j=>by rw[g.snap j]
 unfold B5;rw[g.pn,e];exact and_congr_right fun _=>and_congr_right fun _=>forall_congr' fun i=>by rw[e]
theorem CQ.DG(g:CQ W V k d nm other id)(j:Nat):(V.A1 j).A6=(W.A1 j).A6:=by rw[g.snap j]
theorem CQ.ahead(g:CQ W V k d nm other id)(x:Int):∃s,AC V x = {AC W x with set:=s}:=by
 by_cases h:∃j,B5 W x j
 ·obtain⟨j,a⟩:=h;rw[CM a,CM ((g.no x j).2 a)];exact⟨_,g.snap j⟩
 ·unfold AC;rw[dif_neg h,dif_neg fun ⟨j,a⟩=>h ⟨j,(g.no x j).1 a⟩];exact⟨_,rfl⟩
theorem CQ.mem(g:CQ W V k d nm other id)(i:Nat):AB V i=AB W i:=by
 unfold AB;rw[g.pn,g.time];by_cases h:i<W.pn
 ·rw[if_pos h,if_pos h,g.snap i];rfl
 ·rw[if_neg h,if_neg h,g.set];rfl
theorem CQ.treeM(g:CQ W V k d nm other id)(m:Cs):treeM V m=Go.Proofs.YtibhefllijahkaaGreatDoor.treeM W m:=by unfold Go.Proofs.YtibhefllijahkaaGreatDoor.treeM;rw[g.pool]
theorem CQ.oldM(g:CQ W V k d nm other id)(m:Cs):oldM V m=Go.Proofs.YtibhefllijahkaaGreatDoor.oldM W m:=by
 unfold Go.Proofs.YtibhefllijahkaaGreatDoor.oldM;obtain⟨s,e⟩:=g.ahead m.A6;rw[e,g.pool]
theorem CQ.step(g:CQ W V k d nm other id){a b:ByteArray}(h:Steps W a st n x)(hs:∀m y j,m<n->Steps W a st m y->B5 W y j->(W.A1 j).set=a->(V.A1 j).set=b):Steps V b st n x:=by
 induction h with
 | zero=>exact .zero
 | @next n z j h hk hset ih=>
  have:=Steps.next (ih fun m y j c=>hs m y j (by omega)) ((g.no _ _).2 hk) (hs _ _ _ (by omega) h hk hset)
  rwa [g.DG]at this
theorem CQ.spec(g:CQ W V k d nm other id)(h:Ak W)(hk:k<W.sn)(hd:d<W.sn)(P:(W.A3 k).name=nm)(ed:(W.A3 d).name=other)(eo:(W.A3 k).origin=id){j0:Nat}(w:B5 W id j0)(e0:(W.A1 j0).set=other)
 (aA:¬∃j,(∃m x,Steps W other id m x/\B5 W x j/\(W.A1 j).set=other)/\∃i,i<W.pn/\(W.A1 i).set=nm/\(W.A1 i).name=(W.A1 j).name):Ak V:=by
 have H:=h.AX;have t:=H.DG;have A:memN V=memN W:=by unfold memN;rw[g.sn,g.pn]
 have v:∀x,Ba V x↔Ba W x:=fun x=>by
  unfold Ba;rw[g.pn];exact exists_congr fun j=>by rw[g.snap j]
 have a:∀i,(V.A3 i).name=(W.A3 i).name/\(V.A3 i).A6=(W.A3 i).A6/\(V.A3 i).rs=(W.A3 i).rs/\(V.A3 i).rb=(W.A3 i).rb:=fun i=>by rw[g.set i];exact⟨rfl,rfl,rfl,rfl⟩
 have bA:∀x,B3 V x↔B3 W x:=fun x=>by
  unfold B3;rw[g.sn];exact exists_congr fun j=>by rw[(a j).1]
 have Y:nm≠other:=by
  rw[<-P,<-ed];rcases Nat.lt_or_gt_of_ne g.kd with c | c
  ·exact Fr (IC H c hd)
  ·exact fun e=>Fr (IC H c hk) e.symm
 have u:∀i,i<memN W->EP V i:=fun i hi=>by
  have:=h.toU.deadOf hi;unfold EP at this ⊢;rw[g.mem,g.oldM,g.treeM];exact this
 have E:∀j,((∃m x,Steps W other id m x/\B5 W x j/\(W.A1 j).set=other)/\(V.A1 j).set=nm)\/(¬(∃m x,Steps W other id m x/\B5 W x j/\(W.A1 j).set=other)/\(V.A1 j).set=(W.A1 j).set):=fun j=>by
  by_cases q:∃m x,Steps W other id m x/\B5 W x j/\(W.A1 j).set=other
  ·exact .inl ⟨q,by rw[g.hit j q]⟩
  ·exact .inr ⟨q,by rw[g.miss j q]⟩
 have S:EQ V:=by
  refine⟨fun j b=>?_,fun j b=>?_,fun j b=>?_,fun j b=>?_,fun j b=>?_⟩
  ·rw[g.snap j];exact t.ids j (by rw[<-g.pn];exact b)
  ·rw[g.DG,v];exact t.A6 j (by rw[<-g.pn];exact b)
  ·rw[g.snap j];exact t.less j (by rw[<-g.pn];exact b)
  ·rw[(a j).2.1,v];exact t.A3 j (by rw[<-g.sn];exact b)
  ·rw[(a j).1];exact t.AX j (by rw[<-g.sn];exact b)
 obtain⟨nk,xk,k1,k2,k3,k4⟩:=h.lines k hk;obtain⟨nd,xd,d1,d2,d3,d4⟩:=h.lines d hd;rw[P]at k1 k2 k3;rw[ed]at d1 d2 d3;rw[eo]at k4;subst k4;obtain⟨D,J,tA,F,X⟩:=(Jj t d1).1 d3 j0 w.1 e0;have:J=xk:=by have:=w.2.1;have:=X.2.1;omega
 subst this;have hc:=OQ F d1 (Nat.le_of_lt tA);have cA:∀m y j,m<D->Steps W other (W.A3 d).A6 m y->B5 W y j->(W.A1 j).set=other->(V.A1 j).set=other:=fun m y j hm l b e=>by
  rcases E j with⟨⟨I,x',s1,s2,s3⟩,-⟩ | ⟨-,q⟩
  ·have:=LC t (Mh F s1) l (by omega);have:=s2.2.1;have:=b.2.1;omega
  ·rw[q];exact e
 have T:∀m y j,Steps W other J m y->B5 W y j->(W.A1 j).set=other->(V.A1 j).set=nm:=fun m y j l b e=>by rw[g.hit j ⟨m,y,l,b,e⟩]
 have Z:∀j,(W.A1 j).set=nm->(V.A1 j).set=nm:=fun j e=>by
  rcases E j with⟨-,q⟩ | ⟨-,q⟩
  ·exact q
  ·rw[q];exact e
 have B:Steps V other (W.A3 d).A6 D J:=g.step F cA;have o:Steps V nm (W.A3 k).A6 nk J:=g.step k1 fun m y j _ _ _ e=>Z j e
 have G:Steps V nm J (nd - D) xd:=g.step hc fun m y j _ l b e=>T m y j l b e
 have C:=Mh o G;have Q:¬Ev V other J:=fun ⟨j,b,e⟩=>by
  have:=(g.no _ _).1 b;rw[g.hit j ⟨0,J,.zero,this,by rw[this.uniq w];exact e0⟩]at e;exact Y e
 have R:¬Ev V nm xd:=fun ⟨j,b,e⟩=>by
  have K:=(g.no _ _).1 b;rcases E j with⟨⟨I,x',s1,s2,s3⟩,-⟩ | ⟨-,q⟩
  ·exact d2 ⟨j,K,s3⟩
  ·rw[q]at e;obtain⟨m,y,hm,l,r⟩:=(Jj t k1).1 k3 j K.1 e;have r1:=LC t k1 l hm;have r2:=Ue t hc;have:=r.2.1;have:=K.2.1;omega
 have fA:D=ownN V other V.pn:=(Jj S B).2 fun j b e=>by
  rw[g.pn]at b;rcases E j with⟨-,q⟩ | ⟨q1,q⟩
  ·exact absurd (q.symm.trans e) Y
  ·rw[q]at e;obtain⟨m,y,hm,l,r⟩:=(Jj t d1).1 d3 j b e;by_cases c:m<D
   ·exact⟨m,y,c,g.step l fun I y' j' fC vA=>cA I y' j' (by omega) vA,(g.no _ _).2 r⟩
   ·exact absurd ⟨_,y,OQ F l (by omega),r,e⟩ q1
 have gA:nk+(nd - D)=ownN V nm V.pn:=(Jj S C).2 fun j b e=>by
  rw[g.pn]at b;rcases E j with⟨⟨I,x',s1,s2,s3⟩,-⟩ | ⟨-,q⟩
  ·refine⟨nk+I,x',?_,Mh o (g.step s1 fun m y j _ l b e=>T m y j l b e),(g.no _ _).2 s2⟩;have:¬nd - D<=I:=fun c=>by
    by_cases e':nd - D=I
    ·subst e';rw[s1.det hc]at s2;exact d2 ⟨j,s2,s3⟩
    ·obtain⟨z,hz,ho⟩:=s1.less (show nd - D<I by omega);rw[hz.det hc]at ho;exact d2 ho
   omega
  ·rw[q]at e;obtain⟨m,y,hm,l,r⟩:=(Jj t k1).1 k3 j b e;exact⟨m,y,by omega,g.step l fun m y j _ _ _ e=>Z j e,(g.no _ _).2 r⟩
 refine⟨by rw[g.pool];exact h.right,?_,fun i hi=>?_,fun i hi=>?_,fun i hi=>⟨?_,u _ (by rw[<-A];unfold memN;omega)⟩,fun i hi=>u i (by rw[<-A];unfold memN;omega),fun i hi=>?_,fun i hi=>?_,?_⟩
 ·obtain⟨a1,a3,a5,a6,a7,a8⟩:=H;refine⟨by rw[g.time];exact a1,by rw[g.next];exact a3,by rw[g.sn];exact a5,by rw[g.pn];exact a6,fun i hi=>?_,fun i hi=>?_⟩
  ·obtain⟨q1,O,q3,q4⟩:=a7 i (by rw[<-g.sn];exact hi);unfold HU;rw[v,v,(a i).1,(a (i - 1)).1,(a i).2.1];refine⟨q1,O,q3,fun e=>?_⟩;by_cases M:i=d
   ·subst M;rw[g.setD];exact⟨j0,w.1,w.2.1⟩
   ·by_cases N:i=k
    ·subst N;rw[g.setK]at e ⊢;exact(a7 d hd).2.2.2 e
    ·rw[g.rest i M N]at e ⊢;exact q4 e
  ·have U:i<W.pn:=(by rw[<-g.pn];exact hi);obtain⟨⟨b1,b2,b3,b4,b5,b6⟩,⟨c1,c2⟩,c3⟩:=a8 i U;have ei:=g.snap i;have L:∀j,(V.A1 j).id=(W.A1 j).id/\(V.A1 j).time=(W.A1 j).time/\(V.A1 j).name=(W.A1 j).name:=fun j=>by rw[g.snap j];exact⟨rfl,rfl,rfl⟩
   unfold Ll SF NE NF;rw[(L i).1,(L i).2.1,(L i).2.2,(L (i - 1)).1,(L (i - 1)).2.1,g.DG,g.next,g.time,v,bA];refine⟨⟨b1,b2,b3,b4,b5,?_⟩,⟨c1,c2⟩,fun j b ⟨e1,e2⟩=>?_⟩
   ·rcases E i with⟨-,q⟩ | ⟨-,q⟩
    ·rw[q];exact⟨k,hk,P⟩
    ·rw[q];exact b6
   ·rw[(L j).2.2]at e2;rcases E i with⟨p1,p2⟩ | ⟨p1,p2⟩<;>rcases E j with⟨q1,O⟩ | ⟨q1,O⟩
    ·obtain⟨_,_,-,-,s3⟩:=p1;obtain⟨_,_,-,-,t3⟩:=q1;exact c3 j b ⟨t3.trans s3.symm,e2⟩
    ·exact aA ⟨i,p1,j,by omega,by rw[<-O,e1];exact p2,e2⟩
    ·exact aA ⟨j,q1,i,U,by rw[<-p2,<-e1];exact O,e2.symm⟩
    ·exact c3 j b ⟨by rw[<-O,e1];exact p2,e2⟩
 ·rw[g.sn]at hi;rw[(a i).1,(a i).2.1];by_cases M:i=d
  ·subst M;rw[ed,g.setD];exact⟨D,J,B,Q,fA,rfl⟩
  ·by_cases N:i=k
   ·subst N;rw[P,g.setK];exact⟨_,xd,C,R,gA,d4⟩
   ·rw[g.rest i M N];obtain⟨n,e,l1,l2,l3,l4⟩:=h.lines i hi;have n1:(W.A3 i).name≠nm:=by
     rw[<-P];rcases Nat.lt_or_gt_of_ne N with c | c
     ·exact Fr (IC H c hk)
     ·exact fun e=>Fr (IC H c hi) e.symm
    have n2:(W.A3 i).name≠other:=by
     rw[<-ed];rcases Nat.lt_or_gt_of_ne M with c | c
     ·exact Fr (IC H c hd)
     ·exact fun e=>Fr (IC H c hi) e.symm
    have hs:∀j,(V.A1 j).set=(W.A3 i).name↔(W.A1 j).set=(W.A3 i).name:=fun j=>by
     rcases E j with⟨⟨_,_,-,-,p⟩,q⟩ | ⟨-,q⟩
     ·rw[p,q];exact⟨fun e=>absurd e.symm n1,fun e=>absurd e.symm n2⟩
     ·rw[q]
    refine⟨n,e,g.step l1 fun m y j _ _ _ e=>(hs j).2 e,fun ⟨j,b,e⟩=>l2 ⟨j,(g.no _ _).1 b,(hs j).1 e⟩,?_,l4⟩;rw[Lu,g.pn,l3,Lu];exact J5 fun j _=>(hs j).symm
 ·rw[g.pool,g.snap i];exact h.A1 i (by rw[<-g.pn];exact hi)
 ·rw[g.pool,g.set i];exact(h.A3 i (by rw[<-g.sn];exact hi)).1
 ·rw[g.pool]at hi ⊢;rw[<-h.reach i hi,A];exact exists_congr fun m=>by rw[g.mem,g.treeM]
 ·rw[A]at hi;unfold Fb;obtain⟨s,e⟩:=g.ahead (AB W i).A6;rw[g.mem,g.oldM,g.treeM,e];exact h.born i hi
 ·intro i hi j b;unfold D5;rw[g.mem,g.mem,g.oldM,g.oldM,g.treeM,g.treeM];rw[A]at hi;exact h.Bi i hi j b
end
noncomputable def comeN(W:A5)(st:ByteArray):Nat->Int->List AL
 | 0,_=>[]
 | n+1,x=>open Classical in if (AC W x).id=0\/(AC W x).set≠st then [] else AC W x :: comeN W st n (AC W x).A6
noncomputable def CL(W:A5)(st:ByteArray)(x:Int):List AL:=comeN W st (x.toNat+1) x
variable{W:A5}{x:Int}
theorem K6(h:C6 W)(b:(AC W x).id≠0):(AC W x).id=x/\1<=x/\(AC W x).A6<x/\∃k,B5 W x k:=by
 by_cases c:∃k,B5 W x k
 ·obtain⟨k,a⟩:=c;rw[CM a];have d:=(h.range k a.1).1;have g:=(h.A1.2.1 k a.1).2.2.1;have i:=a.2.1;exact⟨a.2.1,by omega,by omega,k,a⟩
 ·have e:AC W x=Ap:=(by unfold AC;rw[dif_neg c]);rw[e]at b;exact absurd rfl b
theorem zAf(h:C6 W)(st:ByteArray):∀(n:Nat) (x:Int),x.toNat+1<=n->comeN W st n x=comeN W st (x.toNat+1) x:=by
 intro n
 induction n using Nat.strongRecOn with
 | _ n ih=>
  intro x hn;obtain⟨m,rfl⟩:∃m,n=m+1:=⟨n - 1,by omega⟩;unfold comeN;by_cases a:(AC W x).id=0\/(AC W x).set≠st
  ·rw[if_pos a,if_pos a]
  ·rw[if_neg a,if_neg a];have c:=K6 h (fun e=>a (Or.inl e));congr 1;by_cases e:m=x.toNat
   ·rw[e]
   ·have b:(AC W x).A6.toNat+1<=x.toNat:=(by omega);rw[ih m (by omega) _ (by omega),ih x.toNat (by omega) _ b]
variable{st:ByteArray}
theorem LG(a:(AC W x).id=0\/(AC W x).set≠st):CL W st x = []:=by
 unfold CL comeN;rw[if_pos a]
theorem Ma(h:C6 W)(a:¬((AC W x).id=0\/(AC W x).set≠st)):CL W st x=AC W x :: CL W st (AC W x).A6:=by
 have b:=K6 h (fun e=>a (Or.inl e));unfold CL;rw[show comeN W st (x.toNat+1) x=AC W x :: comeN W st x.toNat (AC W x).A6 by
  show(if _ then _ else _)=_;rw[if_neg a]]
 rw[zAf h st x.toNat _ (by omega)]
theorem zFC(h:C6 W)(st:ByteArray):∀(n k:Nat) (x:Int),k<n->B5 W x k->(CL W st x).length<=k+1:=by
 intro n
 induction n with
 | zero=>intro k x m _;omega
 | succ n ih=>
  intro k x m i;by_cases d:(AC W x).id=0\/(AC W x).set≠st
  ·rw[LG d];exact Nat.zero_le _
  ·have q:=K6 h (fun e=>d (Or.inl e));rw[Ma h d,List.length_cons];by_cases g:(AC W (AC W x).A6).id=0
   ·rw[LG (Or.inl g)];exact Nat.succ_le_succ (Nat.zero_le _)
   ·obtain⟨p,_,_,c,a⟩:=K6 h g;have o:c<k:=by
     rcases Nat.lt_trichotomy c k with b | b | b
     ·exact b
     ·subst b;have j:=a.2.1;have l:=i.2.1;omega
     ·have:=h.rise c a.1 k b;have j:=a.2.1;have l:=i.2.1;omega
    have:=ih c _ (by omega) a;omega
theorem RJ(h:C6 W)(st:ByteArray)(x:Int):(CL W st x).length<=20:=by
 by_cases a:(AC W x).id=0
 ·rw[LG (Or.inl a)];exact Nat.zero_le _
 ·obtain⟨_,_,_,k,b⟩:=K6 h a;have c:=zFC h st (k+1) k x (by omega) b;have d:=b.1;have e:=h.A1.1;omega
theorem Vm(v:Value)(s:AM)(w:World):(Instr.field 44 (Dh v s) 3).run Tryz.prog w = .ok (.agg #[.int .i64 s.rs,.int .i64 s.rb]) w:=by kernel_rfl
variable{w:World}{v:Value}
theorem Nr{M:Nat}{vd:Nat->Value}(h:FM w W M W.sn vd){x:ByteArray}(e:x.size<=maxLen)(b:(putD (fun i=>CS (W.A3 i).name) (fun i=>Dh (vd i) (W.A3 i)) W.sn).atKey (CS x) (.held (.agg #[.string ⟨#[]⟩,.int .i64 0,.int .i64 0,.int .i64 0,.int .i64 0,.slice none 0 0])) = .held v) :
 (Instr.lookup 86 (.map (some M)) (.string x) false).run Tryz.prog w = .ok v w:=by
 obtain⟨g,ps,a,hv⟩:=World.ownsMap.lookup h LM KQ (MF w) (Fi _) (NW e);have c:=Jq hv;rw[b]at c;have d:=DataW.held.inj c;rw[d];exact a
theorem C6.setsDist(h:C6 W):RC W:=fun i hi j l e=>by
 have m:∀{a b:Nat},a<b->b<W.sn->BF (W.A3 a).name (W.A3 b).name:=by
  intro a b g k
  induction b with
  | zero=>omega
  | succ b ih=>
   have c:=(h.A3.2 (b+1) k).2;have d:Ee W.A3 (b+1)=(W.A3 b).name:=(by unfold Ee;simp);rw[d]at c;by_cases e:a=b
   ·subst e;exact c
   ·exact K8 (ih (by omega) (by omega)) c
 exact Fr (m l hi) e
theorem Rl(v:Value)(s:AM)(w:World):(Instr.field 44 (Dh v s) 1).run Tryz.prog w = .ok (.int .i64 s.origin) w:=by kernel_rfl
def DH(w:World)(base:Nat)(v:Value)(l:List AL)(kv:Nat->Value):Prop:=w.ownsRow base 41 8 v l.length (Ei (fun i=>l.getD i Ap) kv l.length)
def Eu(w:World)(hi:Nat)(l:List AL)(kv:Nat->Value):Prop:=∀i,i<l.length->∃a c,kv i = .slice a (l.getD i Ap).dn c/\B4 w 0 hi (kv i) (l.getD i Ap).dn (l.getD i Ap).ds (l.getD i Ap).db
theorem zAA(l:List AL)(A:AL)(a:Nat->Value)(dv:Value):Ei (fun i=>(l ++ [A]).getD i Ap) (fun i=>if i=l.length then dv else a i) (l.length+1)=Ei (fun i=>l.getD i Ap) a l.length ++ Gn (fun j=>EV (fun _=>A) (fun _=>dv) 0 j) 0 (1*8):=by
 apply List.ext_getElem?;intro j;by_cases h:j<l.length*8
 ·have e:j / 8<l.length:=(by omega);have b:=F1 (fun i=>(l ++ [A]).getD i Ap) (fun i=>if i=l.length then dv else a i) (l.length+1) (i:=j / 8) (r:=j % 8) (by omega) (by omega);have d:=F1 (fun i=>l.getD i Ap) a l.length e (show j % 8<8 by omega);rw[show j / 8*8+j % 8=j by omega]at b d;rw[List.getElem?_append_left (by rw[Gk];exact h),b,d];have c:(l ++ [A]).getD (j / 8) Ap=l.getD (j / 8) Ap:=by
   rw[List.getD_eq_getElem?_getD,List.getD_eq_getElem?_getD,List.getElem?_append_left e]
  have g:(if j / 8=l.length then dv else a (j / 8))=a (j / 8):=if_neg (by omega);unfold EV;dsimp only;rw[c,g]
 ·by_cases k:j<(l.length+1)*8
  ·have b:=F1 (fun i=>(l ++ [A]).getD i Ap) (fun i=>if i=l.length then dv else a i) (l.length+1) (i:=l.length) (r:=j - l.length*8) (by omega) (by omega);rw[show l.length*8+(j - l.length*8)=j by omega]at b;rw[List.getElem?_append_right (by rw[Gk];omega),Gk,b,Sv (by omega),Nat.zero_add];have c:(l ++ [A]).getD l.length Ap=A:=by
    rw[List.getD_eq_getElem?_getD,List.getElem?_append_right (Nat.le_refl _),Nat.sub_self];rfl
   unfold EV;dsimp only;rw[c,if_pos rfl]
  ·rw[List.getElem?_eq_none (by rw[Gk];omega),List.getElem?_eq_none (by rw[List.length_append,Gk,QP];omega)]
variable{base:Nat}{l:List AL}
theorem DH.next{B:Nat}{dv:Value}{A:AL}(h:DH w base v l kv)(r:base<=w.heap.size)(y:l.length<=100)(s:dv.oneCell'=true)(q:Bu w B (.int .i64 A.id) (.string A.name) (.string A.set) (.int .i64 A.A6) (.int .i64 A.time) (.int .i64 A.rs) (.int .i64 A.rb) (dv))(ty:TypeId) :
 ∃a c w',(Builtin.append_ #[28,28] ty #[v,.slice (some ⟨B,0,none⟩) 1 1]).run Tryz.prog w = .ok (.slice a (l.length+1) c) w'/\DH w' base (.slice a (l.length+1) c) (l ++ [A]) (fun i=>if i=l.length then dv else kv i)/\w.grownBy w' v.ownBlock:=by
 obtain⟨z,w',u,b,t⟩:=zEX w base v l.length _ h r (some ⟨B,0,none⟩) B 0 0 1 1 (fun j=>EV (fun _=>A) (fun _=>dv) 0 j) (fun _=>rfl) (fun j x=>by
  rw[Nat.zero_add,Nat.zero_add];obtain⟨⟨d,e,g,k⟩,m,n,o,p⟩:=q;rcases(by omega:j=0\/j=1\/j=2\/j=3\/j=4\/j=5\/j=6\/j=7)with rfl | rfl | rfl | rfl | rfl | rfl | rfl | rfl
  ·exact⟨d.1,rfl⟩
  ·exact⟨e.1,rfl⟩
  ·exact⟨g.1,rfl⟩
  ·exact⟨k.1,rfl⟩
  ·exact⟨m.1,rfl⟩
  ·exact⟨n.1,rfl⟩
  ·exact⟨o.1,rfl⟩
  ·exact⟨p.1,s⟩) (by omega) ty
 rw[<-zAA]at b;obtain⟨a,c,rfl,-⟩:=CV b;refine⟨a,c,w',u,?_,t⟩;unfold DH;rw[List.length_append];exact b
theorem zGR(h:E7 W)(x:Int):(Lit.int .i64 (AC W x).A6).wf=true:=by
 by_cases b:∃k,B5 W x k
 ·obtain⟨k,a⟩:=b;rw[CM a];have:=h k (by unfold memN;have:=a.1;omega);rw[CU a.1]at this;exact this
 ·have e:AC W x=Ap:=(by unfold AC;rw[dif_neg b]);rw[e];rfl
variable{hi:Nat}{a:Option Addr}
theorem DH.at{wr:World}{c:Nat}(h:DH wr base (.slice a l.length c) l kv)(u:Eu w hi l kv)(J:hi<=w.heap.size)(n:Below w.heap.size w wr)(K:l.length<=1000)(hs:∀i,i<l.length->(l.getD i Ap).name.size<=maxLen/\(l.getD i Ap).set.size<=maxLen):DR wr 0 wr.heap.size (.slice a l.length c) l.length (fun i=>l.getD i Ap):=by
 have L:=n.size;obtain⟨F,c',e,t⟩:=CV h;cases e;refine⟨by unfold maxLen;omega,a,c,rfl,t,fun s=>?_⟩;obtain⟨g,cap,e,-,-,v,z⟩:=FN h s;cases e;refine⟨g,0,rfl,Nat.zero_le _,v,fun i j=>?_⟩;have d:∀r,r<8->wr.cell? ⟨g,0+i*8+r,none⟩=some (EV (fun i=>l.getD i Ap) kv i r):=fun r y=>by
  rw[show 0+i*8+r=i*8+r by omega];exact(z _ _ (F1 (fun i=>l.getD i Ap) kv l.length j y)).1
 obtain⟨G,H,-,x⟩:=u i j;have k:=x.A0 n;obtain⟨A,B,C,D,m,E⟩:=k;refine⟨kv i,d 0 (by omega),d 1 (by omega),d 2 (by omega),d 3 (by omega),d 4 (by omega),d 5 (by omega),d 6 (by omega),d 7 (by omega),⟨A,B,C,D,m,fun hn=>?_⟩,hs i j⟩;obtain⟨b,off,o,p,I,q⟩:=E hn;exact⟨b,off,o,p,by omega,q⟩
theorem DH.A0{w1:World}(h:DH w base v l kv)(t:Below w.heap.size w w1):DH w1 base v l kv:=
 World.ownsRow.kept h (JD t none) (by cases hv:v.ownBlock<;>simp)
theorem DH.lt(h:DH w base v l kv)(q:Nat)(e:v.ownBlock=some q):base<=q/\q<w.heap.size:=World.ownsRow.lt h q e
theorem Bu.turnedP{S:Nat->Prop}{w':World}{b:Nat}{v0 v1 v2 v3 v4 v5 v6 v7:Value}(h:Bu w b v0 v1 v2 v3 v4 v5 v6 v7)(t:AI S w w')(hs:¬S b):Bu w' b v0 v1 v2 v3 v4 v5 v6 v7:=
 ⟨⟨h.1.1.AH t hs,h.1.2.1.AH t hs,h.1.2.2.1.AH t hs,h.1.2.2.2.AH t hs⟩,h.2.1.AH t hs,h.2.2.1.AH t hs,h.2.2.2.1.AH t hs,h.2.2.2.2.AH t hs⟩
variable{lo:Nat}
theorem B4.wideP{n:Nat}{f g:Nat->Int}(h:B4 w lo hi v n f g):B4 w 0 hi v n f g:=by
 obtain⟨d,a,cap,hv,c,k⟩:=h;refine⟨d,a,cap,hv,c,fun hn=>?_⟩;obtain⟨b,off,j,l,e,i⟩:=k hn;exact⟨b,off,j,Nat.zero_le _,e,i⟩
theorem ZW{w1:World}{B:Nat}(h:AI (fun k=>k=B) w w1):w.grownBy w1 (some B):=⟨h.os,h.tape,h.output,h.size,fun k a hs=>h.block k a (fun e=>hs (by rw[e]))⟩
theorem Eu.snoc{A:AL}{c:Nat}(h:Eu w hi l kv)(g:B4 w lo hi (.slice a A.dn c) A.dn A.ds A.db):Eu w hi (l ++ [A]) (fun i=>if i=l.length then .slice a A.dn c else kv i):=by
 intro i d;rw[List.length_append,List.length_singleton]at d;by_cases e:i=l.length
 ·have b:(l ++ [A]).getD i Ap=A:=by
   rw[e,List.getD_eq_getElem?_getD,List.getElem?_append_right (Nat.le_refl _),Nat.sub_self];rfl
  dsimp only;rw[b,if_pos e];exact⟨a,c,rfl,g.wideP⟩
 ·have b:(l ++ [A]).getD i Ap=l.getD i Ap:=by
   rw[List.getD_eq_getElem?_getD,List.getD_eq_getElem?_getD,List.getElem?_append_left (by omega)]
  dsimp only;rw[b,if_neg e];exact h i (by omega)
def zC:Value->Nat
 | .slice _ n _=>n
 | _=>0
theorem ZZ(v0 v1 v2 v3:Value)(lo hi:Nat)(W:A5)(name:ByteArray)(w:World)(L:List AL)(h:BR w lo hi v0 v1 v2 v3 W)(hh:hi<=w.heap.size)(hI:C6 W)(kC:E7 W)(cC:(Lit.int .i64 (Am W name).origin).wf=true)(jC:name.size<=maxLen)(hL:L=CL W (AC W (Am W name).origin).set (Am W name).origin) :
 Calls Tryz.prog 53 #[BS v0 v1 v2 v3 W,.string name] w fun e w'=>∃a c E base,e = .returned (.slice a L.length c)/\DH w' base (.slice a L.length c) L E/\Eu w hi L E/\Below w.heap.size w w'/\w.heap.size<=base:=by
 have Hp:=A4 h;have HI:=A4 hI;have Hx:=A4 cC;have Hz:=A4 jC;have kD:=A4 kC;have h8:=hI.A3.1;have pB:=hI.A1.1;have iE:L.length<=20:=by rw[hL];exact RJ hI _ _
 clear h hI kC jC cC;obtain⟨v,cA⟩:∃v,v=Am W name:=⟨_,rfl⟩;have eB:=A4 (show ∀(Q w':World) (vd:Nat->Value),FM w' W (Q.heap.size+1) W.sn vd->MJ Q lo hi W.sn W.A3 vd->∃a c,(Instr.lookup 86 (.map (some (Q.heap.size+1))) (.string name) false).run Tryz.prog w' = .ok (Dh (.slice a v.dn c) v) w' from fun Q w' vd hm hd=>by
  obtain⟨a,c,oD,-⟩:=Ov HI.out.setsDist hd name;rw[cA];exact⟨a,c,Nr hm Hz.out oD⟩)
 rw[<-cA]at Hx hL;clear cA;obtain⟨b,bA⟩:∃b,b=AC W v.origin:=⟨_,rfl⟩;rw[<-bA]at hL;have HL:=A4 hL;have gB:=A4 bA;clear hL bA;have bB:=A4 (show ∀(A:Nat) (y:Int) (w':World),(Lit.int .i64 y).wf=true->Below w.heap.size w w'->Fj w' lo hi W A->Calls Tryz.prog 122 #[.int .i64 y,.pointer (some ⟨A,0,none⟩)] w' fun e cE=>(∃a c,e = .returned (DK (.slice a (AC W y).dn c) (AC W y))/\B4 w lo hi (.slice a (AC W y).dn c) (AC W y).dn (AC W y).ds (AC W y).db)/\Below w'.heap.size w' cE from fun A y w' hy hb Z=>by
  refine(Jy lo hi W A y w' Z HI.out.dist hy pB).mono ?_;rintro e Q ⟨a,c,rfl,hp,s⟩;exact⟨⟨a,c,rfl,hp.same (fun k h1 h2=>(hb.block k (by omega)).symm)⟩,s⟩)
 have ha:=A9 w (.cells #[v0,v1,.int .i64 W.time,.int .i64 W.next,v2,v3] 30);have HB:=A4 (Aj.new w (v0) (v1) (.int .i64 W.time) (.int .i64 W.next) (v2) (v3) 30);obtain⟨u,F,G,H,I,J⟩:=HB.out.c;go_enter Tryz.func53,Tryz.ntmps53;go_wp2_with fail;go_step3;go_wp2_with fail;clear u F G H I J;generalize w.alloc (.cells #[v0,v1,.int .i64 W.time,.int .i64 W.next,v2,v3] 30)=W0 at ha HB ⊢;refine(Yr v0 v1 v2 v3 lo hi W W0 (Hp.out.A0 ha) pB HI.out.idsWf).mono ?_;rintro e Q ⟨Af,rfl,Z,s⟩;have HA:=A4 Z;have rB:=A7 ha s;obtain⟨u,F,G,H,I,J⟩:=(HB.out.A0 s).c;clear Z;go_wp2_with fail;clear u F G H I J;refine(K9 v0 v1 v2 v3 lo hi W Q (Hp.out.A0 rB) h8).mono ?_;rintro e w3 ⟨vd,rfl,hm,hd,D⟩;have sB:=A7 rB D;obtain⟨a3,c3,tD⟩:=eB.out Q w3 vd hm hd;have rD:=fun w=>Rl (.slice a3 v.dn c3) v w
 clear hm hd eB;go_wp2_with fail;clear tD rD;refine(bB.out Af v.origin w3 Hx.out sB (HA.out.A0 D)).mono ?_;rw[<-gB.out];rintro e w4 ⟨⟨M,c4,rfl,eC⟩,fA⟩;have nD:=A7 sB fA;unfold DK;have iB:=A4 eC;have z:=A9 w4 (.cells #[.int .i64 b.id,.string b.name,.string b.set,.int .i64 b.A6,.int .i64 b.time,.int .i64 b.rs,.int .i64 b.rb,.slice M b.dn c4] 41);have T:=A4 (Bu.new w4 (.int .i64 b.id) (.string b.name) (.string b.set) (.int .i64 b.A6) (.int .i64 b.time) (.int .i64 b.rs) (.int .i64 b.rb) (.slice M b.dn c4) 41);have lC:(w4.alloc (.cells #[.int .i64 b.id,.string b.name,.string b.set,.int .i64 b.A6,.int .i64 b.time,.int .i64 b.rs,.int .i64 b.rb,.slice M b.dn c4] 41)).heap.size=w4.heap.size+1:=World.size_alloc _ _;have vA:=A4 (((HA.out.A0 D).A0 fA).A0 z);have o:=A7 nD z;obtain⟨⟨⟨u,-⟩,⟨F,-⟩,⟨G,-⟩,⟨H,-⟩⟩,⟨I,-⟩,⟨J,-⟩,⟨x6,-⟩,⟨x7,-⟩⟩:=T.out;clear eC;go_wp2_with fail;go_step3;go_upto_region 4 with fail;generalize w4.alloc (.cells #[.int .i64 b.id,.string b.name,.string b.set,.int .i64 b.A6,.int .i64 b.time,.int .i64 b.rs,.int .i64 b.rb,.slice M b.dn c4] 41)=j at z T lC vA o u F G H I J x6 x7 ⊢;have nC:=o.size;have dA:=A9 j (.cells #[.int .i64 b.id,.string b.name,.string b.set,.int .i64 b.A6,.int .i64 b.time,.int .i64 b.rs,.int .i64 b.rb,.slice M b.dn c4] 41);have V:=A4 (Bu.new j (.int .i64 b.id) (.string b.name) (.string b.set) (.int .i64 b.A6) (.int .i64 b.time) (.int .i64 b.rs) (.int .i64 b.rb) (.slice M b.dn c4) 41);go_wp2_with fail;clear u F G H I J x6 x7;generalize j.alloc (.cells #[.int .i64 b.id,.string b.name,.string b.set,.int .i64 b.A6,.int .i64 b.time,.int .i64 b.rs,.int .i64 b.rb,.slice M b.dn c4] 41)=w6 at dA V ⊢
 go_loopw [7,8] (fun s7 s8 wr=>∃(y:Int) (l:List AL) (ra:Option Addr) (rc X:Nat) (E:Nat->Value) (a:Option Addr) (c:Nat) (A:AL),A=AC W y/\(Lit.int .i64 y).wf=true/\l ++ CL W b.set y=L/\s7 = .slice ra l.length rc/\s8 = .pointer (some ⟨X,0,none⟩)/\Below j.heap.size j wr/\DH wr j.heap.size (.slice ra l.length rc) l E/\(Value.slice ra l.length rc).ownBlock≠some X/\j.heap.size<=X/\Bu wr X (.int .i64 A.id) (.string A.name) (.string A.set) (.int .i64 A.A6) (.int .i64 A.time) (.int .i64 A.rs) (.int .i64 A.rb) (.slice a A.dn c)/\Eu w hi l E/\B4 w lo hi (.slice a A.dn c) A.dn A.ds A.db) (fun s7 _ _=>L.length - zC s7)
 case atStart=>
  refine⟨v.origin,[],none,0,j.heap.size,fun _=>.slice none 0 0,M,c4,b,gB.out,Hx.out,HL.out.symm,rfl,by rw[lC],dA,?_,by simp only[Value.ownBlock];exact fun h=>(nomatch h),Nat.le_refl _,V.out,fun i hi=>absurd hi (Nat.not_lt_zero _),iB.out⟩;exact World.ownsRow_nil _ _ _ _
 case round=>
  clear V dA z s D fA ha iB;obtain⟨y,l,ra,rc,X,E,a,c,A,Z,hy,hl,rfl,rfl,hb,P,O,dF,N,aC,fC⟩:=hrel;have eF:l.length<=20:=by
   have e:=congrArg List.length hl;rw[List.length_append]at e;omega
  have S:=A4 hl;have g:=A4 P;have oB:=A4 O;have n:=A4 N;have R:=A4 aC;have jD:=A4 fC;have m:=A4 Z;have gD:=A4 (T.out.A0 hb);clear hy hl P O N aC fC Z;by_cases h0:A.id=0
  ·obtain⟨⟨⟨u,-⟩,⟨F,-⟩,⟨G,-⟩,⟨H,-⟩⟩,⟨I,-⟩,⟨J,-⟩,⟨x6,-⟩,⟨x7,-⟩⟩:=n.out;rw[h0]at u;go_wp2;rw[Exit.noGoto_ret];go_ret;have hn:=LG (W:=W) (st:=b.set) (x:=y) (Or.inl (by rw[<-m.out];exact h0));have e:=S.out;rw[hn,List.append_nil]at e;subst e;exact⟨ra,rc,E,j.heap.size,rfl,g.out,R.out,A7 o hb,nC⟩
  obtain⟨⟨⟨u,-⟩,⟨F,-⟩,⟨G,-⟩,⟨H,-⟩⟩,⟨I,-⟩,⟨J,-⟩,⟨x6,-⟩,⟨x7,-⟩⟩:=n.out;obtain⟨⟨-,-,⟨y2,-⟩,-⟩,-⟩:=gD.out;by_cases hq:A.set=b.set;rotate_left
  ·have e0:(A.set.toList == b.set.toList)=false:=KY hq;go_wp2;rw[Exit.noGoto_ret];go_ret;have hn:=LG (W:=W) (st:=b.set) (x:=y) (Or.inr (by rw[<-m.out];exact hq));have e:=S.out;rw[hn,List.append_nil]at e;subst e;exact⟨ra,rc,E,j.heap.size,rfl,g.out,R.out,A7 o hb,nC⟩
  have e0:(A.set.toList == b.set.toList)=true:=Lb hq;have nA:=zGR kD.out y;rw[<-m.out]at nA;have mB:=A4 nA;have lA:=Ma HI.out (st:=b.set) (x:=y) (by rw[<-m.out];rintro(e | e);exact h0 e;exact e hq);rw[<-m.out]at lA;have kA:(l ++ [A]) ++ CL W b.set A.A6=L:=(by rw[List.append_assoc,List.singleton_append,<-lA];exact S.out);have fD:=A4 kA;have fF:l.length<L.length:=by
   have e:=congrArg List.length kA;rw[List.length_append,List.length_append,List.length_singleton]at e;omega
  clear nA lA kA hq;have p:=A9 wr (.cells #[.int .i64 A.id,.string A.name,.string A.set,.int .i64 A.A6,.int .i64 A.time,.int .i64 A.rs,.int .i64 A.rb,.slice a A.dn c] 41);have gA:Below j.heap.size j (wr.alloc (.cells #[.int .i64 A.id,.string A.name,.string A.set,.int .i64 A.A6,.int .i64 A.time,.int .i64 A.rs,.int .i64 A.rb,.slice a A.dn c] 41)):=A7 hb p;have aE:(wr.alloc (.cells #[.int .i64 A.id,.string A.name,.string A.set,.int .i64 A.A6,.int .i64 A.time,.int .i64 A.rs,.int .i64 A.rb,.slice a A.dn c] 41)).heap.size=wr.heap.size+1:=World.size_alloc _ _;have iF:=hb.size;have fB:=A4 (Bu.new wr (.int .i64 A.id) (.string A.name) (.string A.set) (.int .i64 A.A6) (.int .i64 A.time) (.int .i64 A.rs) (.int .i64 A.rb) (.slice a A.dn c) 41);obtain⟨a8,c8,w8,iC,t,bC⟩:=DH.next (g.out.A0 p) (B:=wr.heap.size) (A:=A) (dv:=.slice a A.dn c) (by omega) (by omega) rfl fB.out 28;have jB:=A4 iC;have nB:=A4 ((n.out.A0 p).turnedP (zDI bC) oB.out);have iA:Below j.heap.size j w8:=gA.grown bC gA.size (fun q hq=>((g.out.A0 p).lt q hq).1);have U:=A4 t;have dD:=A4 (vA.out.A0 iA);clear iC t;have C:=A9 w8 (.cells #[.int .i64 A.id,.string A.name,.string A.set,.int .i64 A.A6,.int .i64 A.time,.int .i64 A.rs,.int .i64 A.rb,.slice a A.dn c] 41);have Y:=A4 (Bu.new w8 (.int .i64 A.id) (.string A.name) (.string A.set) (.int .i64 A.A6) (.int .i64 A.time) (.int .i64 A.rs) (.int .i64 A.rb) (.slice a A.dn c) 41);obtain⟨⟨⟨z0,-⟩,⟨z1,-⟩,⟨z2,-⟩,⟨z3,-⟩⟩,⟨z4,-⟩,⟨z5,-⟩,⟨z6,-⟩,⟨z7,-⟩⟩:=nB.out;obtain⟨⟨⟨q0,-⟩,⟨q1,-⟩,⟨q2,-⟩,⟨q3,-⟩⟩,⟨q4,-⟩,⟨q5,-⟩,⟨q6,-⟩,⟨q7,-⟩⟩:=Y.out;go_wp2_with (at_builtin;go_must (refine zDO rfl _ _ 28 rfl _ _ _ rfl rfl jB.out ?_));clear u F G H I J x6 x7 z0 z1 z2 z3 z4 z5 z6 z7 q0 q1 q2 q3 q4 q5 q6 q7 y2 p gA aE fB jB nB e0;have jA:=A7 iA C;have aB:=A4 (dD.out.A0 C);have lB:=A4 (U.out.A0 C);have mC:=iA.size;generalize w8.alloc (.cells #[.int .i64 A.id,.string A.name,.string A.set,.int .i64 A.A6,.int .i64 A.time,.int .i64 A.rs,.int .i64 A.rb,.slice a A.dn c] 41)=w9 at C Y jA aB lB ⊢;refine(bB.out Af A.A6 w9 mB.out (A7 o jA) aB.out).mono ?_;obtain⟨d,aA⟩:∃d,d=AC W A.A6:=⟨_,rfl⟩;rw[<-aA];unfold DK;rintro e dE ⟨⟨a2,c2,rfl,dC⟩,r⟩;have iD:=A4 dC;have cB:=A4 aA;have K:=A4 (Y.out.A0 r);have kB:=A4 (lB.out.A0 r);have pD:=A7 jA r;clear dC aA;obtain⟨⟨⟨r0,g0⟩,⟨r1,g1⟩,⟨r2,g2⟩,⟨r3,g3⟩⟩,⟨r4,g4⟩,⟨r5,g5⟩,⟨r6,g6⟩,⟨r7,g7⟩⟩:=K.out;go_wp2_with fail;clear r0 r1 r2 r3 r4 r5 r6 r7 g0 g1 g2 g3 g4 g5 g6 g7;go_roundw
  case rel=>
   refine⟨A.A6,l ++ [A],a8,c8,w8.heap.size,fun i=>if i=l.length then .slice a A.dn c else E i,a2,c2,d,cB.out,mB.out,fD.out,by rw[List.length_append];rfl,rfl,YC pD mC (.int .i64 d.id) (.string d.name) (.string d.set) (.int .i64 d.A6) (.int .i64 d.time) (.int .i64 d.rs) (.int .i64 d.rb) (.slice a2 d.dn c2),?_,?_,mC,K.out.put (.int .i64 d.id) (.string d.name) (.string d.set) (.int .i64 d.A6) (.int .i64 d.time) (.int .i64 d.rs) (.int .i64 d.rb) (.slice a2 d.dn c2),?_,iD.out⟩
   ·have h:=World.ownsRow.kept kB.out (ZW (AI.put8 dE w8.heap.size (.int .i64 d.id) (.string d.name) (.string d.set) (.int .i64 d.A6) (.int .i64 d.time) (.int .i64 d.rs) (.int .i64 d.rb) (.slice a2 d.dn c2))) (Or.inr fun e=>by have:=U.out.lt _ e;omega);unfold DH;rw[List.length_append]at h ⊢;exact h
   ·rw[List.length_append];exact fun e=>by have:=U.out.lt _ e;omega
   ·exact R.out.snoc jD.out
  case measure=>
   simp only[zC];omega
theorem zX(h:C6 W)(st:ByteArray):∀(n:Nat) (x:Int) (A:AL),A∈comeN W st n x->A.set=st/\∃k,k<W.pn/\A=W.A1 k:=by
 intro n
 induction n with
 | zero=>
  intro x A a;unfold comeN at a;cases a
 | succ n ih=>
  intro x A a;unfold comeN at a;by_cases b:(AC W x).id=0\/(AC W x).set≠st
  ·rw[if_pos b]at a;cases a
  ·rw[if_neg b]at a;obtain⟨-,-,-,k,c⟩:=K6 h (fun e=>b (Or.inl e));rcases List.mem_cons.1 a with rfl | a
   ·exact⟨Classical.byContradiction fun e=>b (Or.inr e),k,c.1,CM c⟩
   ·exact ih _ _ a
theorem OD(h:C6 W)(st:ByteArray)(x:Int){i:Nat}(hi:i<(CL W st x).length):((CL W st x).getD i Ap).set=st/\∃k,k<W.pn/\(CL W st x).getD i Ap=W.A1 k:=by
 have e:(CL W st x).getD i Ap=(CL W st x)[i]:=by
  rw[List.getD_eq_getElem?_getD,List.getElem?_eq_getElem hi];rfl
 rw[e];exact zX h st _ _ _ (List.getElem_mem hi)
theorem Yw{v0 v1 v2 v3:Value}(d:BR w lo hi v0 v1 v2 v3 W)(h:C6 W)(st:ByteArray)(x:Int)(i:Nat)(hi:i<(CL W st x).length):((CL W st x).getD i Ap).name.size<=maxLen/\((CL W st x).getD i Ap).set.size<=maxLen:=by
 obtain⟨-,k,g,e⟩:=OD h st x hi;rw[e];obtain⟨_,a,c,rfl,_,_⟩:=id d.A1;obtain⟨b,off,vd,_,hs⟩:=d.A1.cells g;exact hs.Bo
end Go.Proofs.YtibhefllijahkaaGreatDoor
