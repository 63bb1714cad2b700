/- What the laws' own functions of comparing answer (eqPtr, eqPtrS, eqSlot, eqSlotS, eqInt64S, eqPool): true just where both hold the same; they write nothing that was there. -/
import Derived.Test.YtmgeglgboadfiaaGreatDoorT20
import Derived.ArgAppend
set_option linter.unusedVariables false
set_option maxRecDepth 20000
set_option maxHeartbeats 4000000
namespace Go.Proofs.YtmgeglgboadfiaaGreatDoor
open Go.RowKit
theorem zGW(a b c d:Int)(w:World) :
  Calls Tryz.prog 174 #[.agg #[.int .i64 a,.int .i64 b],.agg #[.int .i64 c,.int .i64 d]] w fun e w'=>zG (zCC a b c d) e/\Below w.heap.size w w':=by
 by_cases h1:a=c
 ·by_cases h2:b=d
  ·subst h1 h2;go_enter Tryz.func174,Tryz.ntmps174;go_wp2;go_ret;exact⟨zG.yes ⟨rfl,rfl⟩,((Below.refl _ _).alloc (Nat.le_refl _) _).alloc (by simp) _⟩
  ·subst h1;have hb:(b != d)=true:=(by simp[h2]);have H2:Hid (¬zCC a b a d):=fun h=>h2 h.2
   clear h2;go_enter Tryz.func174,Tryz.ntmps174;go_wp2;go_ret;exact⟨zG.no H2.out,((Below.refl _ _).alloc (Nat.le_refl _) _).alloc (by simp) _⟩
 ·have hb:(a != c)=true:=(by simp[h1]);have H2:Hid (¬zCC a b c d):=fun h=>h1 h.1
  clear h1;go_enter Tryz.func174,Tryz.ntmps174;go_wp2;go_ret;exact⟨zG.no H2.out,((Below.refl _ _).alloc (Nat.le_refl _) _).alloc (by simp) _⟩
theorem zKy(v v':Value)(n n' lo hi lo' hi':Nat)(f f':Nat->Int)(w:World)(h1:qY w lo hi v n f)(h2:qY w lo' hi' v' n' f') :
  Calls Tryz.prog 109 #[v,v'] w fun e w'=>zG (zMj n n' f f') e/\Below w.heap.size w w':=by
 obtain⟨m1,a,c,rfl,mc,g1⟩:=h1;obtain⟨m2,a',c',rfl,kA,g2⟩:=h2;unfold maxLen at m1 m2;by_cases hn:n=n'
 ·subst hn;have eA:((n:Int) != (n:Int))=false:=(by simp);go_enter Tryz.func109,Tryz.ntmps109;go_wp2
  go_loopw [5] (fun i wr=>∃k:Nat,k<=n/\i = .int .i64 k/\(∀j,j<k->f j=f' j)/\Below w.heap.size w wr) (fun i _=>n - (intOf i).toNat)
  case atStart=>exact⟨0,Nat.zero_le _,rfl,fun j h=>absurd h (Nat.not_lt_zero _),Below.refl _ _⟩
  case round=>
   obtain⟨k,hk,rfl,bA,hb⟩:=hrel;have cA:Hid (∀j,j<k->f j=f' j):=bA;clear bA;by_cases aA:k<n
   ·have fA:(k:Int)<(n:Int):=(by omega);obtain⟨b,off,rfl,_,_,k1⟩:=g1 (by omega);obtain⟨b',dA,rfl,_,_,k2⟩:=g2 (by omega);have jA:wr.cell? ⟨b,off+k,none⟩=some (.int .i64 (f k)):=(hb.cell (zD (k1 k aA))).trans (k1 k aA);have iA:wr.cell? ⟨b',dA+k,none⟩=some (.int .i64 (f' k)):=(hb.cell (zD (k2 k aA))).trans (k2 k aA);clear k1 k2 g1 g2;by_cases he:f k=f' k
    ·have gA:(f k != f' k)=false:=(by simp[he]);have He:Hid (f k=f' k):=he;clear he;go_wp2_with fail
     go_quiet (fail)
     go_wp2;go_roundw
     case rel=>exact⟨k+1,by omega,by go_num,zo aA cA.out He.out,zg hb _⟩
     case measure=>simp[intOf];omega
    ·have gA:(f k != f' k)=true:=(by simp[he]);have He:Hid (¬f k=f' k):=he;clear he;go_wp2_with fail
     go_quiet (fail)
     go_wp2;go_ret;exact⟨zG.no fun h=>He.out (h.2 k aA),zg hb _⟩
   ·go_wp2;go_ret;exact⟨zG.yes ⟨rfl,fun i hi=>cA.out i (by omega)⟩,hb⟩
 ·have eA:((n:Int) != (n':Int))=true:=(by simp;omega);have Hn:Hid (¬n=n'):=hn;clear hn;go_enter Tryz.func109,Tryz.ntmps109;go_wp2;go_ret;exact⟨zG.no fun h=>Hn.out h.1,Below.refl _ _⟩
theorem zFT(v v':Value)(n n' lo hi lo' hi':Nat)(f g f' g':Nat->Int)(w:World)(h1:zU w lo hi v n f g)(h2:zU w lo' hi' v' n' f' g') :
  Calls Tryz.prog 175 #[v,v'] w fun e w'=>zG (zMc n n' f g f' g') e/\Below w.heap.size w w':=by
 obtain⟨m1,a,c,rfl,mc,g1⟩:=h1;obtain⟨m2,a',c',rfl,nA,g2⟩:=h2;unfold maxLen at m1 m2;by_cases hn:n=n'
 ·subst hn;have lA:((n:Int) != (n:Int))=false:=(by simp);go_enter Tryz.func175,Tryz.ntmps175;go_wp2
  go_loopw [5] (fun i wr=>∃k:Nat,k<=n/\i = .int .i64 k/\(∀j,j<k->f j=f' j/\g j=g' j)/\Below w.heap.size w wr) (fun i _=>n - (intOf i).toNat)
  case atStart=>exact⟨0,Nat.zero_le _,rfl,fun j h=>absurd h (Nat.not_lt_zero _),Below.refl _ _⟩
  case round=>
   obtain⟨k,hk,rfl,dA,hb⟩:=hrel;have eA:Hid (∀j,j<k->f j=f' j/\g j=g' j):=dA;clear dA;by_cases bA:k<n
   ·have mA:(k:Int)<(n:Int):=(by omega);obtain⟨b,off,rfl,_,_,k1⟩:=g1 (by omega);obtain⟨b',aA,rfl,_,_,k2⟩:=g2 (by omega);have jA:wr.cell? ⟨b,off+k*2,none⟩=some (.int .i64 (f k)):=(hb.cell (zD (k1 k bA).1)).trans (k1 k bA).1;have gA:wr.cell? ⟨b,off+k*2+1,none⟩=some (.int .i64 (g k)):=(hb.cell (zD (k1 k bA).2)).trans (k1 k bA).2;have fA:wr.cell? ⟨b',aA+k*2,none⟩=some (.int .i64 (f' k)):=(hb.cell (zD (k2 k bA).1)).trans (k2 k bA).1;have iA:wr.cell? ⟨b',aA+k*2+1,none⟩=some (.int .i64 (g' k)):=(hb.cell (zD (k2 k bA).2)).trans (k2 k bA).2;clear k1 k2 g1 g2;go_wp2_with fail;go_region_held3 (fun w'=>w'.cell? ⟨b,off+k*2,none⟩=some (.int .i64 (f k))/\w'.cell? ⟨b,off+k*2+1,none⟩=some (.int .i64 (g k))/\w'.cell? ⟨b',aA+k*2,none⟩=some (.int .i64 (f' k))/\w'.cell? ⟨b',aA+k*2+1,none⟩=some (.int .i64 (g' k))) (go_keep)
     (first | (go_at_call 174;refine(zGW _ _ _ _ _).mono ?_;rintro e w1 ⟨⟨t,rfl,ht⟩,cA⟩;have z1:=(cA.cell (p:=⟨b,off+k*2,none⟩) (zD jA)).trans jA;have z2:=(cA.cell (p:=⟨b,off+k*2+1,none⟩) (zD gA)).trans gA;have z3:=(cA.cell (p:=⟨b',aA+k*2,none⟩) (zD fA)).trans fA;have z4:=(cA.cell (p:=⟨b',aA+k*2+1,none⟩) (zD iA)).trans iA))
    have Ht:Hid (t=true↔zCC (f k) (g k) (f' k) (g' k)):=ht;have kA:=qi hb cA;clear ht z1 z2 z3 z4 jA gA fA iA cA;cases t
    ·go_wp2;go_ret;exact⟨zG.no fun h=>absurd (Ht.out.2 (h.2 k bA)) (by simp),kA⟩
    ·go_wp2;go_roundw
     case rel=>exact⟨k+1,by omega,by go_num,zo bA eA.out (Ht.out.1 rfl),kA⟩
     case measure=>simp[intOf];omega
   ·go_wp2;go_ret;exact⟨zG.yes ⟨rfl,fun i hi=>eA.out i (by omega)⟩,hb⟩
 ·have lA:((n:Int) != (n':Int))=true:=(by simp;omega);have Hn:Hid (¬n=n'):=hn;clear hn;go_enter Tryz.func175,Tryz.ntmps175;go_wp2;go_ret;exact⟨zG.no fun h=>Hn.out h.1,Below.refl _ _⟩
theorem zM5(v0 v1 v2 u0 u1 u2:Value)(lo hi lo' hi':Nat)(s t:zL)(w:World)(h1:qI w lo hi v0 v1 v2 s)(h2:qI w lo' hi' u0 u1 u2 t) :
  Calls Tryz.prog 173 #[.agg #[v0,v1,v2],.agg #[u0,u1,u2]] w fun e w'=>zG (zED s t) e/\Below w.heap.size w w':=by
 obtain⟨rfl,p1,rfl,m1⟩:=h1;obtain⟨rfl,p2,rfl,m2⟩:=h2;have q1:=p1;have q2:=p2;obtain⟨_,a,c,rfl,_⟩:=p1;obtain⟨_,a',c',rfl,_⟩:=p2;by_cases h1:s.zRU=t.zRU
 ·have hb:(s.zRU != t.zRU)=false:=(by simp[h1]);have H1:Hid (s.zRU=t.zRU):=h1;clear h1;go_enter Tryz.func173,Tryz.ntmps173;go_wp2_with fail;have aA:=((Below.refl w.heap.size w).alloc (Nat.le_refl _) (.cells #[.int .i64 s.zRU,.slice a s.kn c,.string s.data] 127)).alloc (by simp) (.cells #[.int .i64 t.zRU,.slice a' t.kn c',.string t.data] 127);refine(zFT _ _ _ _ _ _ _ _ _ _ _ _ _ (q1.zRJ aA) (q2.zRJ aA)).mono ?_;rintro e w1 ⟨⟨x,rfl,hx⟩,bA⟩;have Hx:Hid (x=true↔zMc s.kn t.kn s.ks s.kb t.ks t.kb):=hx;have cA:=zA aA bA;have e1:=bA.cell (p:=⟨w.heap.size,2,none⟩) (by simp;omega);have e2:=bA.cell (p:=⟨w.heap.size+1,2,none⟩) (by simp);simp at e1 e2;clear hx bA aA;cases x
  ·go_wp2;go_ret;exact⟨zG.no fun h=>absurd (Hx.out.2 h.2.1) (by simp),cA⟩
  ·by_cases h3:s.data=t.data
   ·have dA:=zCg h3;have H3:Hid (s.data=t.data):=h3;clear h3;go_wp2;go_ret;exact⟨zG.yes ⟨H1.out,(by simpa using Hx.out),H3.out⟩,cA⟩
   ·have dA:=zEO h3;have H3:Hid (¬s.data=t.data):=h3;clear h3;go_wp2;go_ret;exact⟨zG.no fun h=>H3.out h.2.2,cA⟩
 ·have hb:(s.zRU != t.zRU)=true:=(by simp[h1]);have H1:Hid (¬s.zRU=t.zRU):=h1;clear h1;go_enter Tryz.func173,Tryz.ntmps173;go_wp2;go_ret;exact⟨zG.no fun h=>H1.out h.1,((Below.refl _ _).alloc (Nat.le_refl _) _).alloc (by simp) _⟩
theorem zLM(v v':Value)(n n' lo hi lo' hi':Nat)(f f':Nat->zL)(w:World)(h1:qA w lo hi v n f)(h2:qA w lo' hi' v' n' f') :
  Calls Tryz.prog 108 #[v,v'] w fun e w'=>zG (zKQ n n' f f') e/\Below w.heap.size w w':=by
 obtain⟨m1,a,c,rfl,mc,g1⟩:=h1;obtain⟨m2,a',c',rfl,vA,g2⟩:=h2;unfold maxLen at m1 m2;by_cases hn:n=n'
 ·subst hn;have rA:((n:Int) != (n:Int))=false:=(by simp);go_enter Tryz.func108,Tryz.ntmps108;go_wp2
  go_loopw [5] (fun i wr=>∃k:Nat,k<=n/\i = .int .i64 k/\(∀j,j<k->zED (f j) (f' j))/\Below w.heap.size w wr) (fun i _=>n - (intOf i).toNat)
  case atStart=>exact⟨0,Nat.zero_le _,rfl,fun j h=>absurd h (Nat.not_lt_zero _),Below.refl _ _⟩
  case round=>
   obtain⟨k,hk,rfl,dA,hb⟩:=hrel;have cA:Hid (∀j,j<k->zED (f j) (f' j)):=dA;clear dA;by_cases eA:k<n
   ·have sA:(k:Int)<(n:Int):=(by omega);obtain⟨b,off,rfl,_,_,k1⟩:=g1 (by omega);obtain⟨b',aA,rfl,_,_,k2⟩:=g2 (by omega);obtain⟨x0,x1,x2,c0,c1,c2,hs⟩:=k1 k eA;obtain⟨y0,y1,y2,d0,d1,d2,ht⟩:=k2 k eA;have lA:=(hb.cell (zD c0)).trans c0;have kA:=(hb.cell (zD c1)).trans c1;have jA:=(hb.cell (zD c2)).trans c2;have iA:=(hb.cell (zD d0)).trans d0;have gA:=(hb.cell (zD d1)).trans d1;have fA:=(hb.cell (zD d2)).trans d2;have oA:=hs.zRJ hb;have nA:=ht.zRJ hb;clear k1 k2 g1 g2 c0 c1 c2 d0 d1 d2 hs ht;have pA:=oA;have tA:=nA;obtain⟨rfl,⟨_,sa,sc,rfl,_⟩,rfl,_⟩:=pA;obtain⟨rfl,⟨_,ta,tc,rfl,_⟩,rfl,_⟩:=tA;go_wp2_with fail;go_region_held3 (fun w'=>w'.cell? ⟨b,off+k*3,none⟩=some (.int .i64 (f k).zRU)/\w'.cell? ⟨b,off+k*3+1,none⟩=some (.slice sa (f k).kn sc)/\w'.cell? ⟨b,off+k*3+2,none⟩=some (.string (f k).data)/\w'.cell? ⟨b',aA+k*3,none⟩=some (.int .i64 (f' k).zRU)/\w'.cell? ⟨b',aA+k*3+1,none⟩=some (.slice ta (f' k).kn tc)/\w'.cell? ⟨b',aA+k*3+2,none⟩=some (.string (f' k).data)) (go_keep)
     (first | (go_at_call 173;refine(zM5 _ _ _ _ _ _ lo hi lo' hi' (f k) (f' k) _ ?_ ?_).mono ?_;(exact oA.zRJ ((Below.refl _ _).drew));(exact nA.zRJ ((Below.refl _ _).drew));rintro e w1 ⟨⟨t,rfl,hx⟩,bA⟩;have z1:=(bA.cell (p:=⟨b,off+k*3,none⟩) (zD lA)).trans lA;have z2:=(bA.cell (p:=⟨b,off+k*3+1,none⟩) (zD kA)).trans kA;have z3:=(bA.cell (p:=⟨b,off+k*3+2,none⟩) (zD jA)).trans jA;have y1:=(bA.cell (p:=⟨b',aA+k*3,none⟩) (zD iA)).trans iA;have y2:=(bA.cell (p:=⟨b',aA+k*3+1,none⟩) (zD gA)).trans gA;have y3:=(bA.cell (p:=⟨b',aA+k*3+2,none⟩) (zD fA)).trans fA))
    have Ht:Hid (t=true↔zED (f k) (f' k)):=hx;have mA:=qi hb bA;clear hx z1 z2 z3 y1 y2 y3 lA kA jA iA gA fA bA;cases t
    ·go_wp2;go_ret;exact⟨zG.no fun h=>absurd (Ht.out.2 (h.2 k eA)) (by simp),mA⟩
    ·go_wp2;go_roundw
     case rel=>exact⟨k+1,by omega,by go_num,zo eA cA.out (Ht.out.1 rfl),mA⟩
     case measure=>simp[intOf];omega
   ·go_wp2;go_ret;exact⟨zG.yes ⟨rfl,fun i hi=>cA.out i (by omega)⟩,hb⟩
 ·have rA:((n:Int) != (n':Int))=true:=(by simp;omega);have Hn:Hid (¬n=n'):=hn;clear hn;go_enter Tryz.func108,Tryz.ntmps108;go_wp2;go_ret;exact⟨zG.no fun h=>Hn.out h.1,Below.refl _ _⟩
theorem zM3(v0 v1 u0 u1:Value)(lo hi lo' hi':Nat)(p q:zJ)(w:World)(h1:zy w lo hi v0 v1 p)(h2:zy w lo' hi' u0 u1 q) :
  Calls Tryz.prog 39 #[.agg #[v0,v1],.agg #[u0,u1]] w fun e w'=>zG (zKe p q) e/\Below w.heap.size w w':=by
 have q1:=h1;have q2:=h2;obtain⟨⟨_,a,c,rfl,_⟩,⟨_,a1,c1,rfl,_⟩⟩:=h1;obtain⟨⟨_,b,d,rfl,_⟩,⟨_,b1,d1,rfl,_⟩⟩:=h2;go_enter Tryz.func39,Tryz.ntmps39;go_wp2_with fail;have bA:=((Below.refl w.heap.size w).alloc (Nat.le_refl _) (.cells #[.slice a p.n c,.slice a1 p.hn c1] 33)).alloc (by simp) (.cells #[.slice b q.n d,.slice b1 q.hn d1] 33);refine(zLM _ _ _ _ _ _ _ _ _ _ _ (q1.1.zRJ bA) (q2.1.zRJ bA)).mono ?_;rintro e w1 ⟨⟨x,rfl,hx⟩,cA⟩;have Hx:Hid (x=true↔zKQ p.n q.n p.s q.s):=hx;have aA:=zA bA cA;have e1:=cA.cell (p:=⟨w.heap.size,1,none⟩) (by simp;omega);have e2:=cA.cell (p:=⟨w.heap.size+1,1,none⟩) (by simp);simp at e1 e2;clear hx cA bA;cases x
 ·go_wp2;go_ret;exact⟨zG.no fun h=>absurd (Hx.out.2 h.1) (by simp),aA⟩
 ·go_wp2_with fail;refine(zKy _ _ _ _ _ _ _ _ _ _ _ (q1.2.zRJ aA) (q2.2.zRJ aA)).mono ?_;rintro e w2 ⟨⟨y,rfl,hy⟩,dA⟩;have Hy:Hid (y=true↔zMj p.hn q.hn p.h q.h):=hy;have eA:=zA aA dA;clear hy dA aA;cases y
  ·go_wp2;go_ret;exact⟨zG.no fun h=>absurd (Hy.out.2 h.2) (by simp),eA⟩
  ·go_wp2;go_ret;exact⟨zG.yes ⟨(by simpa using Hx.out),(by simpa using Hy.out)⟩,eA⟩
theorem zKo(v:Value)(n lo hi:Nat)(f:Nat->Int)(w:World)(h1:qY w lo hi v n f)(hn:n<=1048576) :
  Calls Tryz.prog 88 #[v] w fun e w'=>(∃v',e = .returned v'/\qk w' w.heap.size v' n f)/\Below w.heap.size w w'/\w.heap.size<w'.heap.size:=by
 obtain⟨m1,a,c,rfl,mc,g1⟩:=h1;have eA:=m1;unfold maxLen at m1;have G1:Hid (0<n->∃b off,a=some ⟨b,off,none⟩/\lo<=b/\b<hi/\∀i,i<n->w.cell? ⟨b,off+i,none⟩=some (.int .i64 (f i))):=g1;clear g1;have jA:=zBC 23 2 (.int .i64 0) 1 8 (by kernel_rfl) zDH rfl n hn (by omega);go_enter Tryz.func88,Tryz.ntmps88;go_wp2
 go_loopw [4] (fun i wr=>∃k:Nat,k<=n/\i = .int .i64 k/\(∀j,j<n->zX wr w.heap.size (0+j) (.int .i64 (if j<k then f j else 0)))/\Below w.heap.size w wr/\w.heap.size<wr.heap.size) (fun i _=>n - (intOf i).toNat)
 case atStart=>exact⟨0,Nat.zero_le _,rfl,fun j hj=>by have:=qu w #[.int .i64 0] n j 0 2 hj (by simp);simpa using this,zC _ _,by simp⟩
 case round=>
  obtain⟨k,hk,rfl,bA,hb,dA⟩:=hrel;have aA:Hid (∀j,j<n->zX wr w.heap.size (0+j) (.int .i64 (if j<k then f j else 0))):=bA;clear bA;by_cases cA:k<n
  ·have iA:(k:Int)<(n:Int):=(by omega);obtain⟨b,off,rfl,_,_,k1⟩:=G1.out (by omega);have kA:=(hb.cell (zD (k1 k cA))).trans (k1 k cA);obtain⟨fA,gA⟩:=aA.out k cA;rw[if_neg (Nat.lt_irrefl k),Nat.zero_add]at fA;rw[Nat.zero_add]at gA;go_wp2;go_roundw
   case rel=>
    refine⟨k+1,by omega,by go_num,fun j hj=>?_,hb.setCell (Nat.le_refl _) _,by simpa using dA⟩;by_cases e:j=k
    ·subst e;rw[if_pos (by omega)];simpa using (aA.out j hj).set (.int .i64 (f j))
    ·have:=(aA.out j hj).zRK (b':=w.heap.size) (o':=k) (.int .i64 (f k)) (Or.inr (by omega));by_cases e2:j<k
     ·rw[if_pos (by omega)];rw[if_pos e2]at this;exact this
     ·rw[if_neg (by omega)];rw[if_neg e2]at this;exact this
   case measure=>simp[intOf];omega
  ·obtain rfl:k=n:=(by omega);go_wp2;go_ret;refine⟨⟨_,rfl,eA,_,k,rfl,Nat.le_refl _,fun _=>⟨0,rfl,fun i hi=>?_⟩,fun h=>absurd h (Nat.lt_irrefl _)⟩,hb,dA⟩;have:=aA.out i hi;rw[if_pos hi]at this;exact this
theorem zGl(a b:Int)(w:World) :
  Calls Tryz.prog 148 #[.agg #[.int .i64 a,.int .i64 b]] w fun e w'=>e = .returned (.agg #[.int .i64 a,.int .i64 b])/\Below w.heap.size w w':=by
 go_enter Tryz.func148,Tryz.ntmps148;go_wp2;refine bodyPost_ret (v:=.agg #[.int .i64 a,.int .i64 b]) (by simp[results,Tryz.results148,go_sem]) rfl ⟨rfl,?_⟩;exact(((Below.refl _ _).alloc (Nat.le_refl _) _).alloc (by simp) _).alloc (by simp;omega) _
theorem zFL(v:Value)(n lo hi:Nat)(f g:Nat->Int)(w:World)(h1:zU w lo hi v n f g)(hn:n<=1048576) :
  Calls Tryz.prog 149 #[v] w fun e w'=>(∃v',e = .returned v'/\zj w' w.heap.size v' n f g)/\Below w.heap.size w w'/\w.heap.size<w'.heap.size:=by
 obtain⟨m1,a,c,rfl,mc,g1⟩:=h1;have iA:=m1;unfold maxLen at m1;have G1:Hid (0<n->∃b off,a=some ⟨b,off,none⟩/\lo<=b/\b<hi/\∀i,i<n->w.cell? ⟨b,off+i*2,none⟩=some (.int .i64 (f i))/\w.cell? ⟨b,off+i*2+1,none⟩=some (.int .i64 (g i))):=g1;clear g1;have sA:=zBC 62 61 (.agg #[.int .i64 0,.int .i64 0]) 2 16 (by kernel_rfl) zKu rfl n hn (by omega);go_enter Tryz.func149,Tryz.ntmps149;go_wp2
 go_loopw [4] (fun i wr=>∃k:Nat,k<=n/\i = .int .i64 k/\(∀j,j<n->zX wr w.heap.size (0+j*2) (.int .i64 (if j<k then f j else 0))/\zX wr w.heap.size (0+j*2+1) (.int .i64 (if j<k then g j else 0)))/\Below w.heap.size w wr/\w.heap.size<wr.heap.size) (fun i _=>n - (intOf i).toNat)
 case atStart=>
  refine⟨0,Nat.zero_le _,rfl,fun j hj=>⟨?_,?_⟩,zC _ _,by simp⟩
  ·have:=qu w #[.int .i64 0,.int .i64 0] n j 0 61 hj (by simp);simpa using this
  ·have:=qu w #[.int .i64 0,.int .i64 0] n j 1 61 hj (by simp);simpa using this
 case round=>
  obtain⟨k,hk,rfl,cA,hb,gA⟩:=hrel;have bA:Hid (∀j,j<n->zX wr w.heap.size (0+j*2) (.int .i64 (if j<k then f j else 0))/\zX wr w.heap.size (0+j*2+1) (.int .i64 (if j<k then g j else 0))):=cA;clear cA;by_cases dA:k<n
  ·have rA:(k:Int)<(n:Int):=(by omega);obtain⟨b,off,rfl,_,_,k1⟩:=G1.out (by omega);have oA:=(hb.cell (zD (k1 k dA).1)).trans (k1 k dA).1;have kA:=(hb.cell (zD (k1 k dA).2)).trans (k1 k dA).2;clear k1 G1;go_wp2_with fail;refine(zGl _ _ _).mono ?_;rintro e w1 ⟨rfl,eA⟩;have lA:=zA hb eA;have fA:w.heap.size<w1.heap.size:=Nat.lt_of_lt_of_le gA eA.size;have aA:Hid (∀j,j<n->zX w1 w.heap.size (0+j*2) (.int .i64 (if j<k then f j else 0))/\zX w1 w.heap.size (0+j*2+1) (.int .i64 (if j<k then g j else 0))):=fun j hj=>⟨(bA.out j hj).1.zRJ eA,(bA.out j hj).2.zRJ eA⟩
   clear bA eA oA kA;obtain⟨⟨jA,nA⟩,⟨pA,mA⟩⟩:=aA.out k dA;rw[if_neg (Nat.lt_irrefl k),Nat.zero_add]at jA pA;rw[Nat.zero_add]at nA mA;go_wp2;go_roundw
   case rel=>
    refine⟨k+1,by omega,by go_num,fun j hj=>?_,(lA.setCell (Nat.le_refl _) _).setCell (Nat.le_refl _) _,by simpa using fA⟩;by_cases e:j=k
    ·subst e;rw[if_pos (by omega),if_pos (by omega)];have t1:=((aA.out j hj).1.set (.int .i64 (f j))).zRK (b':=w.heap.size) (o':=0+j*2+1) (.int .i64 (g j)) (Or.inr (by omega));have t2:=((aA.out j hj).2.zRK (b':=w.heap.size) (o':=0+j*2) (.int .i64 (f j)) (Or.inr (by omega))).set (.int .i64 (g j));simp only[Nat.zero_add]at t1 t2 ⊢;exact⟨t1,t2⟩
    ·have t1:=((aA.out j hj).1.zRK (b':=w.heap.size) (o':=k*2) (.int .i64 (f k)) (Or.inr (by omega))).zRK (b':=w.heap.size) (o':=k*2+1) (.int .i64 (g k)) (Or.inr (by omega));have t2:=((aA.out j hj).2.zRK (b':=w.heap.size) (o':=k*2) (.int .i64 (f k)) (Or.inr (by omega))).zRK (b':=w.heap.size) (o':=k*2+1) (.int .i64 (g k)) (Or.inr (by omega));by_cases e2:j<k
     ·rw[if_pos (by omega),if_pos (by omega)];rw[if_pos e2]at t1 t2;exact⟨t1,t2⟩
     ·rw[if_neg (by omega),if_neg (by omega)];rw[if_neg e2]at t1 t2;exact⟨t1,t2⟩
   case measure=>simp[intOf];omega
  ·obtain rfl:k=n:=(by omega);go_wp2;go_ret;refine⟨⟨_,rfl,iA,_,k,rfl,Nat.le_refl _,fun _=>⟨0,rfl,fun i hi=>?_⟩⟩,hb,gA⟩;have:=bA.out i hi;rw[if_pos hi,if_pos hi]at this;exact this
theorem zMY(v0 v1 v2:Value)(lo hi:Nat)(s:zL)(w:World)(h1:qI w lo hi v0 v1 v2 s)(hn:s.kn<=1048576) :
  Calls Tryz.prog 147 #[.agg #[v0,v1,v2]] w fun e w'=>(∃kv kb,e = .returned (.agg #[.int .i64 s.zRU,kv,.string s.data])/\zj w' kb kv s.kn s.ks s.kb/\w.heap.size<=kb/\kb<w'.heap.size)/\Below w.heap.size w w':=by
 obtain⟨rfl,p1,rfl,m1⟩:=h1;have q1:=p1;obtain⟨_,a,c,rfl,_⟩:=p1;go_enter Tryz.func147,Tryz.ntmps147;go_wp2_with fail;have iA:=zC w (.cells #[.int .i64 s.zRU,.slice a s.kn c,.string s.data] 183);have jA:=zA iA (zC _ (.cells #[.int .i64 0,.slice none 0 0,.string ⟨#[]⟩] 127));have eA:=zA jA (zC _ (.cells #[.int .i64 s.zRU,.slice none 0 0,.string ⟨#[]⟩] 127));refine(zFL _ s.kn lo hi _ _ _ (q1.zRJ eA) hn).mono ?_;rintro e w1 ⟨⟨kv,rfl,bA⟩,aA,fA⟩;have HB:Hid (yT w1 w.heap.size (.int .i64 s.zRU) (.slice a s.kn c) (.string s.data)):=(((yT.zRL w _ _ _ _).zRJ (zC _ _)).zRJ (zC _ _)).zRJ aA;have HR:Hid (yT w1 (w.heap.size+1) (.int .i64 0) (.slice none 0 0) (.string ⟨#[]⟩)):=by
  have:=(((yT.zRL (w.alloc (.cells #[.int .i64 s.zRU,.slice a s.kn c,.string s.data] 183)) (.int .i64 0) (.slice none 0 0) (.string ⟨#[]⟩) 127).zRJ (zC _ _)).zRJ aA);rw[World.size_alloc]at this;exact this
 have HO:Hid (yT w1 (w.heap.size+1+1) (.int .i64 s.zRU) (.slice none 0 0) (.string ⟨#[]⟩)):=by
  have:=((yT.zRL ((w.alloc (.cells #[.int .i64 s.zRU,.slice a s.kn c,.string s.data] 183)).alloc (.cells #[.int .i64 0,.slice none 0 0,.string ⟨#[]⟩] 127)) (.int .i64 s.zRU) (.slice none 0 0) (.string ⟨#[]⟩) 127).zRJ aA);rw[World.size_alloc,World.size_alloc]at this;exact this
 have kA:=zA eA aA;have dA:Hid (zj w1 (w.heap.size+1+1+1) kv s.kn s.ks s.kb):=by
  have:=bA;rw[World.size_alloc,World.size_alloc,World.size_alloc]at this;exact this
 have gA:w.heap.size+1+1+1<w1.heap.size:=by
  rw[World.size_alloc,World.size_alloc,World.size_alloc]at fA;exact fA
 clear fA;obtain⟨_,ka,kc,rfl,_⟩:=bA;clear iA jA eA aA;obtain⟨⟨x0,x1⟩,⟨x2,x3⟩,⟨x4,x5⟩⟩:=HB.out;obtain⟨⟨y0,y1⟩,⟨y2,y3⟩,⟨y4,y5⟩⟩:=HR.out;obtain⟨⟨z0,z1⟩,⟨z2,z3⟩,⟨z4,z5⟩⟩:=HO.out;go_wp2;have cA:=((HR.out.zRK (b':=w.heap.size+1+1) (o':=1) (.slice ka s.kn kc) (by omega)).zRK (b':=w.heap.size+1+1) (o':=2) (.string s.data) (by omega)).put (.int .i64 s.zRU) (.slice ka s.kn kc) (.string s.data);refine bodyPost_ret (v:=.agg #[.int .i64 s.zRU,.slice ka s.kn kc,.string s.data]) (by simp[results,Tryz.results147,go_sem,cA.1.1,cA.2.1.1,cA.2.2.1]) rfl ⟨⟨_,w.heap.size+1+1+1,rfl,?_,by omega,by simpa using gA⟩,?_⟩
 ·exact((((dA.out.put _ (by omega)).put _ (by omega)).put _ (by omega)).put _ (by omega)).put _ (by omega)
 ·exact((((kA.setCell (by show _<=w.heap.size+1+1;omega) _).setCell (by show _<=w.heap.size+1+1;omega) _).setCell (by show _<=w.heap.size+1;omega) _).setCell (by show _<=w.heap.size+1;omega) _).setCell (by show _<=w.heap.size+1;omega) _
structure zMv (wr:World) (bs n k:Nat) (f:Nat->zL) (kb:Nat->Nat) (kv:Nat->Value):Prop where
 slots:∀j,j<n->zAD wr bs (0+j*3) (kb j) (kv j) (if j<k then f j else zG7)
 zRW:yS kb k f
 zRY:∀j,j<k->0<(f j).kn->bs<kb j/\kb j<wr.heap.size
theorem zMv.zRJ{wr w':World}{bs n k:Nat}{f:Nat->zL}{kb:Nat->Nat}{kv:Nat->Value}(h:zMv wr bs n k f kb kv)(t:Below wr.heap.size wr w'):zMv w' bs n k f kb kv:=
 ⟨fun j hj=>(h.slots j hj).zRJ t,h.zRW,fun j hj h0=>by have:=h.zRY j hj h0;have:=t.size;omega⟩
theorem zMv.next{wr w1:World}{bs n k b:Nat}{f:Nat->zL}{kb:Nat->Nat}{kv:Nat->Value}{v:Value}(h:zMv wr bs n k f kb kv)(hk:k<n)(cA:bs<wr.heap.size)(t:Below wr.heap.size wr w1)
  (hp:zj w1 b v (f k).kn (f k).ks (f k).kb) (hb:wr.heap.size<=b) (dA:b<w1.heap.size) (hs:(f k).data.size<=maxLen) :
  zMv (((w1.setCell ⟨bs,0+k*3,none⟩ (.int .i64 (f k).zRU)).setCell ⟨bs,0+k*3+1,none⟩ v).setCell ⟨bs,0+k*3+2,none⟩ (.string (f k).data)) bs n (k+1) f (fun j=>if j=k then b else kb j) (fun j=>if j=k then v else kv j):=by
 have h':=h.zRJ t;refine⟨fun j hj=>?_,fun i j hi hj bA h1 h2=>?_,fun j hj h0=>?_⟩
 ·have aA:=h'.slots j hj;by_cases e:j=k
  ·subst e;simp only[if_true];rw[if_pos (by omega)];refine⟨?_,?_,?_,?_,hs,fun _=>by omega⟩
   ·exact((aA.zRU.set _).zRK _ (Or.inr (by omega))).zRK _ (Or.inr (by omega))
   ·exact((aA.kidsv.zRK _ (Or.inr (by omega))).set _).zRK _ (Or.inr (by omega))
   ·exact((aA.data.zRK _ (Or.inr (by omega))).zRK _ (Or.inr (by omega))).set _
   ·exact((hp.put _ (by omega)).put _ (by omega)).put _ (by omega)
  ·simp only[if_neg e];have es:(if j<k+1 then f j else zG7)=if j<k then f j else zG7:=by
    by_cases e2:j<k
    ·rw[if_pos e2,if_pos (by omega)]
    ·rw[if_neg e2,if_neg (by omega)]
   rw[es];refine⟨?_,?_,?_,?_,aA.zRZ,aA.zRW⟩
   ·exact((aA.zRU.zRK _ (Or.inr (by omega))).zRK _ (Or.inr (by omega))).zRK _ (Or.inr (by omega))
   ·exact((aA.kidsv.zRK _ (Or.inr (by omega))).zRK _ (Or.inr (by omega))).zRK _ (Or.inr (by omega))
   ·exact((aA.data.zRK _ (Or.inr (by omega))).zRK _ (Or.inr (by omega))).zRK _ (Or.inr (by omega))
   ·refine((aA.kids.zRR (zF.put _ _ _ _) ?_).zRR (zF.put _ _ _ _) ?_).zRR (zF.put _ _ _ _) ?_
    all_goals exact fun h0 hx=>aA.zRW h0 hx
 ·show(if i=k then b else kb i)≠(if j=k then b else kb j);by_cases e1:i=k
  ·by_cases e2:j=k
   ·omega
   ·rw[if_pos e1,if_neg e2];have:=h.zRY j (by omega) h2;omega
  ·by_cases e2:j=k
   ·rw[if_neg e1,if_pos e2];have:=h.zRY i (by omega) h1;omega
   ·rw[if_neg e1,if_neg e2];exact h.zRW i j (by omega) (by omega) bA h1 h2
 ·simp only[World.size_setCell];by_cases e:j=k
  ·rw[if_pos e];omega
  ·rw[if_neg e];have:=h'.zRY j (by omega) h0;omega
theorem zOV{w:World}{bs n j:Nat}(hj:j<n)(aA:bs=w.heap.size):zAD (w.alloc (.cells (zA2 #[.int .i64 0,.slice none 0 0,.string ⟨#[]⟩] n) 127)) bs (0+j*3) 0 (.slice none 0 0) zG7:=by
 subst aA;have c0:=qu w #[.int .i64 0,.slice none 0 0,.string ⟨#[]⟩] n j 0 127 hj (by simp);have c1:=qu w #[.int .i64 0,.slice none 0 0,.string ⟨#[]⟩] n j 1 127 hj (by simp);have c2:=qu w #[.int .i64 0,.slice none 0 0,.string ⟨#[]⟩] n j 2 127 hj (by simp);refine⟨?_,?_,?_,⟨Nat.zero_le _,none,0,rfl,Nat.le_refl _,fun h=>absurd h (Nat.lt_irrefl _)⟩,Nat.zero_le _,fun h=>absurd h (Nat.lt_irrefl _)⟩
 ·show zX _ _ _ (.int .i64 0);simpa using c0
 ·simpa using c1
 ·show zX _ _ _ (.string ⟨#[]⟩);simpa using c2
theorem zLo(v:Value)(n lo hi:Nat)(f:Nat->zL)(w:World)(h1:qA w lo hi v n f)(hn:n+yn f n<=1048576) :
  Calls Tryz.prog 87 #[v] w fun e w'=>(∃v' kb kv,e = .returned v'/\qV w' w.heap.size kb kv v' n f/\yS kb n f/\∀j,j<n->0<(f j).kn->w.heap.size<kb j/\kb j<w'.heap.size)/\Below w.heap.size w w'/\w.heap.size<w'.heap.size:=by
 obtain⟨m1,a,c,rfl,mc,g1⟩:=h1;have kA:=m1;unfold maxLen at m1;have G1:Hid (0<n->∃b off,a=some ⟨b,off,none⟩/\lo<=b/\b<hi/\∀i,i<n->∃v0 v1 v2,w.cell? ⟨b,off+i*3,none⟩=some v0/\w.cell? ⟨b,off+i*3+1,none⟩=some v1/\w.cell? ⟨b,off+i*3+2,none⟩=some v2/\qI w lo hi v0 v1 v2 (f i)):=g1;have Hn:Hid (n+yn f n<=1048576):=hn;clear g1;have rA:=zBC 31 127 (.agg #[.int .i64 0,.slice none 0 0,.string ⟨#[]⟩]) 3 48 (by kernel_rfl) zEg rfl n (by omega) (by omega);clear hn;go_enter Tryz.func87,Tryz.ntmps87;go_wp2
 go_loopw [4] (fun i wr=>∃(k:Nat) (kb:Nat->Nat) (kv:Nat->Value),k<=n/\i = .int .i64 k/\zMv wr w.heap.size n k f kb kv/\Below w.heap.size w wr/\w.heap.size<wr.heap.size) (fun i _=>n - (intOf i).toNat)
 case atStart=>exact⟨0,fun _=>0,fun _=>.slice none 0 0,Nat.zero_le _,rfl,⟨fun j hj=>by rw[if_neg (by omega)];exact zOV hj rfl,fun i j hi=>absurd hi (by omega),fun j hj=>absurd hj (by omega)⟩,zC _ _,by simp⟩
 case round=>
  obtain⟨k,kb,kv,hk,rfl,aA,hb,jA⟩:=hrel;by_cases cA:k<n
  ·have pA:(k:Int)<(n:Int):=(by omega);obtain⟨b,off,rfl,_,_,k1⟩:=G1.out (by omega);obtain⟨x0,x1,x2,c0,c1,c2,hs⟩:=k1 k cA;have nA:=(hb.cell (zD c0)).trans c0;have lA:=(hb.cell (zD c1)).trans c1;have oA:=(hb.cell (zD c2)).trans c2;have iA:=hs.zRJ hb;have Hs:Hid (qI wr lo hi x0 x1 x2 (f k)):=iA;clear k1 G1 c0 c1 c2 hs;obtain⟨rfl,⟨_,ka,kc,rfl,_⟩,rfl,bA⟩:=iA;go_wp2_with fail;refine(zMY _ _ _ lo hi (f k) _ Hs.out (by have h1:=Hn.out;have h2:=zFf f cA;unfold zAU at h2;omega)).mono ?_;rintro e w1 ⟨⟨nv,nb,rfl,hp,fA,eA⟩,dA⟩;have mA:=zA hb dA;have hz:=(aA.slots k cA).zRJ dA;obtain⟨e0,e1⟩:=hz.zRU;obtain⟨e2,e3⟩:=hz.kidsv;obtain⟨e4,e5⟩:=hz.data;clear nA lA oA hz;rw[Nat.zero_add]at e0 e1 e2 e3 e4 e5;have Hp:Hid (zj w1 nb nv (f k).kn (f k).ks (f k).kb):=hp;obtain⟨_,na,nc,rfl,_⟩:=hp;have gA:w.heap.size<w1.heap.size:=(by have:=dA.size;omega);go_wp2;go_roundw
   case rel=>
    refine⟨k+1,(fun j=>if j=k then nb else kb j),(fun j=>if j=k then .slice na (f k).kn nc else kv j),by omega,by go_num,?_,((mA.setCell (Nat.le_refl _) _).setCell (Nat.le_refl _) _).setCell (Nat.le_refl _) _,by simpa using gA⟩;have hx:=aA.next cA jA dA Hp.out fA eA bA;rw[Nat.zero_add]at hx;exact hx
   case measure=>simp[intOf];omega
  ·obtain rfl:k=n:=(by omega);go_wp2;go_ret;refine⟨⟨_,kb,kv,rfl,⟨kA,_,k,rfl,Nat.le_refl _,fun _=>⟨0,rfl,fun i hi=>?_⟩⟩,aA.zRW,aA.zRY⟩,hb,jA⟩;have:=aA.slots i hi;rw[if_pos hi]at this;exact this
theorem zNA(v0 v1:Value)(lo hi:Nat)(p:zJ)(w:World)(h1:zy w lo hi v0 v1 p)(hn:qD p<=1048576):Calls Tryz.prog 30 #[.agg #[v0,v1]] w (zHM p w):=by
 have q1:=h1;obtain⟨⟨_,a,c,rfl,_⟩,⟨_,a',c',rfl,_⟩⟩:=h1;unfold qD at hn;go_enter Tryz.func30,Tryz.ntmps30;go_wp2_with fail;have rA:=zC w (.cells #[.slice a p.n c,.slice a' p.hn c'] 25);have oA:=zA rA (zC _ (.cells #[.slice none 0 0,.slice none 0 0] 33));have lA:=zA oA (zC _ (.cells #[.slice none 0 0,.slice none 0 0] 33));refine(zLo _ p.n lo hi p.s _ (q1.1.zRJ lA) (by omega)).mono ?_;rintro e w1 ⟨⟨sv,kb,kv,rfl,bA,nA,kA⟩,cA,cB⟩;have HB:Hid (zc w1 w.heap.size (.slice a p.n c) (.slice a' p.hn c')):=(((zc.zRL w _ _ _).zRJ (zC _ _)).zRJ (zC _ _)).zRJ cA;have HR:Hid (zc w1 (w.heap.size+1) (.slice none 0 0) (.slice none 0 0)):=by
  have:=(((zc.zRL (w.alloc (.cells #[.slice a p.n c,.slice a' p.hn c'] 25)) (.slice none 0 0) (.slice none 0 0) 33).zRJ (zC _ _)).zRJ cA);rw[World.size_alloc]at this;exact this
 have HO:Hid (zc w1 (w.heap.size+1+1) (.slice none 0 0) (.slice none 0 0)):=by
  have:=((zc.zRL ((w.alloc (.cells #[.slice a p.n c,.slice a' p.hn c'] 25)).alloc (.cells #[.slice none 0 0,.slice none 0 0] 33)) (.slice none 0 0) (.slice none 0 0) 33).zRJ cA);rw[World.size_alloc,World.size_alloc]at this;exact this
 have sA:=zA lA cA;rw[World.size_alloc,World.size_alloc,World.size_alloc]at bA kA cB;have eA:Hid (qV w1 (w.heap.size+1+1+1) kb kv sv p.n p.s):=bA;have aB:Hid (yS kb p.n p.s):=nA;have iA:Hid (∀j,j<p.n->0<(p.s j).kn->w.heap.size+1+1+1<kb j/\kb j<w1.heap.size):=kA;obtain⟨_,sa,sc,rfl,_⟩:=bA;clear nA kA rA oA lA cA;obtain⟨⟨x0,x1⟩,⟨x2,x3⟩⟩:=HB.out;obtain⟨⟨z0,z1⟩,⟨z2,z3⟩⟩:=HO.out;go_wp2_with fail;have mA:=sA.setCell (p:=⟨w.heap.size+1+1,0,none⟩) (by show _<=w.heap.size+1+1;omega) (.slice sa p.n sc);refine(zKo _ p.hn lo hi p.h _ (q1.2.zRJ mA) (by omega)).mono ?_;rintro e w2 ⟨⟨hv,rfl,aA⟩,fA,jA⟩;rw[World.size_setCell]at aA jA;have vA:=zA mA fA;have tA:Hid (zc w2 (w.heap.size+1) (.slice none 0 0) (.slice none 0 0)):=(HR.out.zRK _ (by omega)).zRJ fA;have bB:Hid (zc w2 (w.heap.size+1+1) (.slice sa p.n sc) (.slice none 0 0)):=(show zc (w1.setCell ⟨w.heap.size+1+1,0,none⟩ (.slice sa p.n sc)) (w.heap.size+1+1) (.slice sa p.n sc) (.slice none 0 0)from⟨HO.out.1.set _,HO.out.2.zRK _ (Or.inr (by omega))⟩).zRJ fA;have gA:Hid (qV w2 (w.heap.size+1+1+1) kb kv (.slice sa p.n sc) p.n p.s):=
  (eA.out.zRR (zF.put _ _ _ _) (fun _ e=>by omega) (fun i hi h0 e=>by have:=iA.out i hi h0;omega)).zRJ fA
 have dA:Hid (qk w2 w1.heap.size hv p.hn p.h):=aA;obtain⟨_,ia,ic,rfl,_⟩:=aA;clear x0 x1 x2 x3 z0 z1 z2 z3 fA mA HB HR HO eA sA;obtain⟨⟨y0,y1⟩,⟨y2,y3⟩⟩:=tA.out;obtain⟨⟨z0,z1⟩,⟨z2,z3⟩⟩:=bB.out;go_wp2;have pA:=(tA.out.zRK (b':=w.heap.size+1+1) (o':=1) (.slice ia p.hn ic) (by omega)).put (.slice sa p.n sc) (.slice ia p.hn ic);refine bodyPost_ret (v:=.agg #[.slice sa p.n sc,.slice ia p.hn ic]) (by simp[results,Tryz.results30,go_sem,pA.1.1,pA.2.1]) rfl ⟨_,_,rfl,?_,?_⟩
 ·refine⟨w.heap.size+1+1+1,w1.heap.size,kb,kv,?_,aB.out,?_,?_,?_⟩
  ·have pl:=iA.out;refine((gA.out.zRR (zF.put _ _ _ _) ?_ ?_).zRR (zF.put _ _ _ _) ?_ ?_).zRR (zF.put _ _ _ _) ?_ ?_
   ·exact fun _ e=>by omega
   ·exact fun i hi h0 e=>by have:=pl i hi h0;omega
   ·exact fun _ e=>by omega
   ·exact fun i hi h0 e=>by have:=pl i hi h0;omega
   ·exact fun _ e=>by omega
   ·exact fun i hi h0 e=>by have:=pl i hi h0;omega
  ·exact((dA.out.put _ (by omega)).put _ (by omega)).put _ (by omega)
  ·rintro h0 (⟨_,e⟩ | ⟨i,hi,h1,e⟩)
   ·omega
   ·have:=iA.out i hi h1;omega
  ·simp only[World.size_setCell];rintro k ((⟨_,rfl⟩ | ⟨i,hi,h1,rfl⟩) | ⟨_,rfl⟩)
   ·omega
   ·have:=iA.out i hi h1;omega
   ·omega
 ·exact((vA.setCell (by show _<=w.heap.size+1+1;omega) _).setCell (by show _<=w.heap.size+1;omega) _).setCell (by show _<=w.heap.size+1;omega) _
open Go.Maps
theorem zi.off6{w:World}{b:Nat}{a0 a1 a2 a3 a4 a5:Value}(h:zi w b a0 a1 a2 a3 a4 a5){b':Nat}(o:Nat)(u:Value)(o':Nat)(u':Value)(aA:b'≠b):zi ((w.setCell ⟨b',o,none⟩ u).setCell ⟨b',o',none⟩ u') b a0 a1 a2 a3 a4 a5:=by
 obtain⟨h0,h1,h2,h3,h4,h5⟩:=h;have hc:∀{j:Nat} {v:Value},zX w b j v->zX ((w.setCell ⟨b',o,none⟩ u).setCell ⟨b',o',none⟩ u') b j v:=fun hc=>(hc.zRK _ (Or.inl aA)).zRK _ (Or.inl aA)
 exact⟨hc h0,hc h1,hc h2,hc h3,hc h4,hc h5⟩
theorem zi.mid6{w:World}{b:Nat}{a0 a1 a2 a3 a4 a5:Value}(h:zi w b a0 a1 a2 a3 a4 a5)(u u':Value):zi ((w.setCell ⟨b,3,none⟩ u).setCell ⟨b,4,none⟩ u') b a0 a1 a2 u u' a5:=by
 obtain⟨h0,h1,h2,h3,h4,h5⟩:=h;exact⟨(h0.zRK _ (Or.inr (by omega))).zRK _ (Or.inr (by omega)),(h1.zRK _ (Or.inr (by omega))).zRK _ (Or.inr (by omega)),(h2.zRK _ (Or.inr (by omega))).zRK _ (Or.inr (by omega)),(h3.set _).zRK _ (Or.inr (by omega)),(h4.zRK _ (Or.inr (by omega))).set _,(h5.zRK _ (Or.inr (by omega))).zRK _ (Or.inr (by omega))⟩
theorem zOP(v:Value)(lo hi:Nat)(s:qC)(w:World)(h1:zU w lo hi v s.dn s.ds s.db)(hn:s.dn<=1048576) :
  Calls Tryz.prog 89 #[zDO v s] w fun e w'=>(∃v' b,e = .returned (zDO v' s)/\zj w' b v' s.dn s.ds s.db/\w.heap.size<=b/\b<w'.heap.size)/\Below w.heap.size w w':=by
 unfold zDO;have H1:=zB h1;obtain⟨-,a,c,rfl,-⟩:=id h1;clear h1;have mA:∀Wa Wb Wc:World,Wa=w.alloc (.cells #[.string s.name,.int .i64 s.origin,.int .i64 s.zRT,.int .i64 s.rs,.int .i64 s.rb,.slice a s.dn c] 116)->Wb=Wa.alloc (.cells #[.string ⟨#[]⟩,.int .i64 0,.int .i64 0,.int .i64 0,.int .i64 0,.slice none 0 0] 67)->Wc=Wb.alloc (.cells #[.string s.name,.int .i64 s.origin,.int .i64 s.zRT,.int .i64 0,.int .i64 0,.slice none 0 0] 67)->zi Wc w.heap.size (.string s.name) (.int .i64 s.origin) (.int .i64 s.zRT) (.int .i64 s.rs) (.int .i64 s.rb) (.slice a s.dn c)/\zi Wc (w.heap.size+1) (.string ⟨#[]⟩) (.int .i64 0) (.int .i64 0) (.int .i64 0) (.int .i64 0) (.slice none 0 0)/\zi Wc (w.heap.size+1+1) (.string s.name) (.int .i64 s.origin) (.int .i64 s.zRT) (.int .i64 0) (.int .i64 0) (.slice none 0 0)/\Below w.heap.size w Wc/\Wc.heap.size=w.heap.size+3:=by
  rintro Wa Wb Wc ea eb ec;have ha:=zC w (.cells #[.string s.name,.int .i64 s.origin,.int .i64 s.zRT,.int .i64 s.rs,.int .i64 s.rb,.slice a s.dn c] 116);have h1:=zi.zRL w (.string s.name) (.int .i64 s.origin) (.int .i64 s.zRT) (.int .i64 s.rs) (.int .i64 s.rb) (.slice a s.dn c) 116;have z1:Wa.heap.size=w.heap.size+1:=(by rw[ea];exact World.size_alloc _ _);rw[<-ea]at ha h1;have hb:=zC Wa (.cells #[.string ⟨#[]⟩,.int .i64 0,.int .i64 0,.int .i64 0,.int .i64 0,.slice none 0 0] 67);have h2:=zi.zRL Wa (.string ⟨#[]⟩) (.int .i64 0) (.int .i64 0) (.int .i64 0) (.int .i64 0) (.slice none 0 0) 67;have z2:Wb.heap.size=w.heap.size+1+1:=(by rw[eb,World.size_alloc,z1]);rw[<-eb,z1]at h2;rw[<-eb]at hb;have hc:=zC Wb (.cells #[.string s.name,.int .i64 s.origin,.int .i64 s.zRT,.int .i64 0,.int .i64 0,.slice none 0 0] 67);have h3:=zi.zRL Wb (.string s.name) (.int .i64 s.origin) (.int .i64 s.zRT) (.int .i64 0) (.int .i64 0) (.slice none 0 0) 67;have z3:Wc.heap.size=w.heap.size+3:=(by rw[ec,World.size_alloc,z2]);rw[<-ec,z2]at h3;rw[<-ec]at hc;exact⟨(h1.zRJ hb).zRJ hc,h2.zRJ hc,h3,zA (zA ha hb) hc,z3⟩
 obtain⟨hx,hy,hz,dA,cB⟩:=mA _ _ _ rfl rfl rfl;have HX:=zB hx;have HY:=zB hy;have HZ:=zB hz;have HS:=zB cB;clear hx hy hz mA cB;go_enter Tryz.func89,Tryz.ntmps89;go_wp2_with fail;generalize ((w.alloc (.cells #[.string s.name,.int .i64 s.origin,.int .i64 s.zRT,.int .i64 s.rs,.int .i64 s.rb,.slice a s.dn c] 116)).alloc (.cells #[.string ⟨#[]⟩,.int .i64 0,.int .i64 0,.int .i64 0,.int .i64 0,.slice none 0 0] 67)).alloc (.cells #[.string s.name,.int .i64 s.origin,.int .i64 s.zRT,.int .i64 0,.int .i64 0,.slice none 0 0] 67)=W0 at HX HY HZ HS dA ⊢;refine(zGl s.rs s.rb W0).mono ?_;rintro e w1 ⟨rfl,aA⟩;have fA:=zB ((HX.out.zRJ aA).off6 3 (.int .i64 s.rs) 4 (.int .i64 s.rb) (show w.heap.size+1+1≠_ by omega));have eA:=zB ((HY.out.zRJ aA).off6 3 (.int .i64 s.rs) 4 (.int .i64 s.rb) (show w.heap.size+1+1≠_ by omega));have gA:=zB ((HZ.out.zRJ aA).mid6 (.int .i64 s.rs) (.int .i64 s.rb));have cA:Below w.heap.size w ((w1.setCell ⟨w.heap.size+1+1,3,none⟩ (.int .i64 s.rs)).setCell ⟨w.heap.size+1+1,4,none⟩ (.int .i64 s.rb)):=((zA dA aA).setCell (by show _<=w.heap.size+1+1;omega) _).setCell (by show _<=w.heap.size+1+1;omega) _;have dB:=zB (show w.heap.size+3<=((w1.setCell ⟨w.heap.size+1+1,3,none⟩ (.int .i64 s.rs)).setCell ⟨w.heap.size+1+1,4,none⟩ (.int .i64 s.rb)).heap.size by simp only[World.size_setCell];have:=aA.size;have:=HS.out;omega);obtain⟨⟨x0,vA⟩,⟨x1,rA⟩,⟨x2,sA⟩,⟨x3,oA⟩,⟨x4,lA⟩,⟨x5,aB⟩⟩:=HX.out.zRJ aA;obtain⟨⟨z0,bB⟩,⟨z1,nA⟩,⟨z2,kA⟩,⟨z3,iA⟩,⟨z4,jA⟩,⟨z5,pA⟩⟩:=HZ.out.zRJ aA;clear aA dA HX HY HZ HS;go_wp2_with fail;clear x0 x1 x2 x3 x4 x5 z0 z1 z2 z3 z4 z5 vA rA sA oA lA aB bB nA kA iA jA pA;generalize (w1.setCell ⟨w.heap.size+1+1,3,none⟩ (.int .i64 s.rs)).setCell ⟨w.heap.size+1+1,4,none⟩ (.int .i64 s.rb)=W1 at fA eA gA dB cA ⊢;refine(zFL _ s.dn lo hi _ _ W1 (H1.out.zRJ cA) hn).mono ?_;rintro e w2 ⟨⟨v',rfl,ho⟩,bA,iB⟩;obtain⟨-,av,cv,rfl,-,-⟩:=id ho;have HO:=zB ho;have gB:=zB (fA.out.zRJ bA);have tA:=zB (eA.out.zRJ bA);have fB:=zB (gA.out.zRJ bA);have eB:=zA cA bA;clear ho bA fA eA gA cA;obtain⟨⟨x0,vA⟩,⟨x1,rA⟩,⟨x2,sA⟩,⟨x3,oA⟩,⟨x4,lA⟩,⟨x5,aB⟩⟩:=gB.out;obtain⟨⟨y0,jB⟩,⟨y1,oB⟩,⟨y2,kB⟩,⟨y3,pB⟩,⟨y4,mB⟩,⟨y5,nB⟩⟩:=tA.out;obtain⟨⟨z0,bB⟩,⟨z1,nA⟩,⟨z2,kA⟩,⟨z3,iA⟩,⟨z4,jA⟩,⟨z5,pA⟩⟩:=fB.out;go_wp2;have HR:=(show zi (w2.setCell ⟨w.heap.size+1+1,5,none⟩ (.slice av s.dn cv)) (w.heap.size+1) _ _ _ _ _ _ from(by
  obtain⟨h0,h1,h2,h3,h4,h5⟩:=tA.out;have hc:∀{j:Nat} {v:Value},zX w2 (w.heap.size+1) j v->zX (w2.setCell ⟨w.heap.size+1+1,5,none⟩ (.slice av s.dn cv)) (w.heap.size+1) j v:=fun hc=>hc.zRK _ (Or.inl (by omega))
  exact⟨hc h0,hc h1,hc h2,hc h3,hc h4,hc h5⟩)).put (.string s.name) (.int .i64 s.origin) (.int .i64 s.zRT) (.int .i64 s.rs) (.int .i64 s.rb) (.slice av s.dn cv)
 have lB:=dB.out;refine bodyPost_ret (v:=.agg #[.string s.name,.int .i64 s.origin,.int .i64 s.zRT,.int .i64 s.rs,.int .i64 s.rb,.slice av s.dn cv]) (by simp[results,Tryz.results89,go_sem,HR.1.1,HR.2.1.1,HR.2.2.1.1,HR.2.2.2.1.1,HR.2.2.2.2.1.1,HR.2.2.2.2.2.1]) rfl ⟨⟨_,W1.heap.size,rfl,?_,by omega,by simpa using iB⟩,?_⟩
 ·exact((((((HO.out.put _ (by omega)).put _ (by omega)).put _ (by omega)).put _ (by omega)).put _ (by omega)).put _ (by omega)).put _ (by omega)
 ·exact((((((eB.setCell (by show _<=w.heap.size+1+1;omega) _).setCell (by show _<=w.heap.size+1;omega) _).setCell (by show _<=w.heap.size+1;omega) _).setCell (by show _<=w.heap.size+1;omega) _).setCell (by show _<=w.heap.size+1;omega) _).setCell (by show _<=w.heap.size+1;omega) _).setCell (by show _<=w.heap.size+1;omega) _
theorem zNC(v:Value)(lo hi:Nat)(s:zm)(w:World)(h1:zU w lo hi v s.dn s.ds s.db)(hn:s.dn<=1048576) :
  Calls Tryz.prog 90 #[ye v s] w fun e w'=>(∃v' b,e = .returned (ye v' s)/\zj w' b v' s.dn s.ds s.db/\w.heap.size<=b/\b<w'.heap.size)/\Below w.heap.size w w':=by
 unfold ye;have H1:=zB h1;obtain⟨-,a,c,rfl,-⟩:=id h1;clear h1;have oA:∀Wa Wb Wc:World,Wa=w.alloc (.cells #[.int .i64 s.id,.string s.name,.string s.set,.int .i64 s.zRT,.int .i64 s.time,.int .i64 s.rs,.int .i64 s.rb,.slice a s.dn c] 119)->Wb=Wa.alloc (.cells #[.int .i64 0,.string ⟨#[]⟩,.string ⟨#[]⟩,.int .i64 0,.int .i64 0,.int .i64 0,.int .i64 0,.slice none 0 0] 99)->Wc=Wb.alloc (.cells #[.int .i64 s.id,.string s.name,.string s.set,.int .i64 s.zRT,.int .i64 s.time,.int .i64 0,.int .i64 0,.slice none 0 0] 99)->zCp Wc w.heap.size (.int .i64 s.id) (.string s.name) (.string s.set) (.int .i64 s.zRT) (.int .i64 s.time) (.int .i64 s.rs) (.int .i64 s.rb) (.slice a s.dn c)/\zCp Wc (w.heap.size+1) (.int .i64 0) (.string ⟨#[]⟩) (.string ⟨#[]⟩) (.int .i64 0) (.int .i64 0) (.int .i64 0) (.int .i64 0) (.slice none 0 0)/\zCp Wc (w.heap.size+1+1) (.int .i64 s.id) (.string s.name) (.string s.set) (.int .i64 s.zRT) (.int .i64 s.time) (.int .i64 0) (.int .i64 0) (.slice none 0 0)/\Below w.heap.size w Wc/\Wc.heap.size=w.heap.size+3:=by
  rintro Wa Wb Wc ea eb ec;have ha:=zC w (.cells #[.int .i64 s.id,.string s.name,.string s.set,.int .i64 s.zRT,.int .i64 s.time,.int .i64 s.rs,.int .i64 s.rb,.slice a s.dn c] 119);have h1:=zCp.zRL w (.int .i64 s.id) (.string s.name) (.string s.set) (.int .i64 s.zRT) (.int .i64 s.time) (.int .i64 s.rs) (.int .i64 s.rb) (.slice a s.dn c) 119;have z1:Wa.heap.size=w.heap.size+1:=(by rw[ea];exact World.size_alloc _ _);rw[<-ea]at ha h1;have hb:=zC Wa (.cells #[.int .i64 0,.string ⟨#[]⟩,.string ⟨#[]⟩,.int .i64 0,.int .i64 0,.int .i64 0,.int .i64 0,.slice none 0 0] 99);have h2:=zCp.zRL Wa (.int .i64 0) (.string ⟨#[]⟩) (.string ⟨#[]⟩) (.int .i64 0) (.int .i64 0) (.int .i64 0) (.int .i64 0) (.slice none 0 0) 99;have z2:Wb.heap.size=w.heap.size+1+1:=(by rw[eb,World.size_alloc,z1]);rw[<-eb,z1]at h2;rw[<-eb]at hb;have hc:=zC Wb (.cells #[.int .i64 s.id,.string s.name,.string s.set,.int .i64 s.zRT,.int .i64 s.time,.int .i64 0,.int .i64 0,.slice none 0 0] 99);have h3:=zCp.zRL Wb (.int .i64 s.id) (.string s.name) (.string s.set) (.int .i64 s.zRT) (.int .i64 s.time) (.int .i64 0) (.int .i64 0) (.slice none 0 0) 99;have z3:Wc.heap.size=w.heap.size+3:=(by rw[ec,World.size_alloc,z2]);rw[<-ec,z2]at h3;rw[<-ec]at hc;exact⟨(h1.zRJ hb).zRJ hc,h2.zRJ hc,h3,zA (zA ha hb) hc,z3⟩
 obtain⟨hx,hy,hz,dA,gB⟩:=oA _ _ _ rfl rfl rfl;have HX:=zB hx;have HY:=zB hy;have HZ:=zB hz;have HS:=zB gB;clear hx hy hz oA gB;go_enter Tryz.func90,Tryz.ntmps90;go_wp2_with fail;generalize ((w.alloc (.cells #[.int .i64 s.id,.string s.name,.string s.set,.int .i64 s.zRT,.int .i64 s.time,.int .i64 s.rs,.int .i64 s.rb,.slice a s.dn c] 119)).alloc (.cells #[.int .i64 0,.string ⟨#[]⟩,.string ⟨#[]⟩,.int .i64 0,.int .i64 0,.int .i64 0,.int .i64 0,.slice none 0 0] 99)).alloc (.cells #[.int .i64 s.id,.string s.name,.string s.set,.int .i64 s.zRT,.int .i64 s.time,.int .i64 0,.int .i64 0,.slice none 0 0] 99)=W0 at HX HY HZ HS dA ⊢;refine(zGl s.rs s.rb W0).mono ?_;rintro e w1 ⟨rfl,aA⟩;have fA:=zB ((HX.out.zRJ aA).off8 5 (.int .i64 s.rs) 6 (.int .i64 s.rb) (show w.heap.size+1+1≠_ by omega));have eA:=zB ((HY.out.zRJ aA).off8 5 (.int .i64 s.rs) 6 (.int .i64 s.rb) (show w.heap.size+1+1≠_ by omega));have gA:=zB ((HZ.out.zRJ aA).mid8 (.int .i64 s.rs) (.int .i64 s.rb));have cA:Below w.heap.size w ((w1.setCell ⟨w.heap.size+1+1,5,none⟩ (.int .i64 s.rs)).setCell ⟨w.heap.size+1+1,6,none⟩ (.int .i64 s.rb)):=((zA dA aA).setCell (by show _<=w.heap.size+1+1;omega) _).setCell (by show _<=w.heap.size+1+1;omega) _;have iB:=zB (show w.heap.size+3<=((w1.setCell ⟨w.heap.size+1+1,5,none⟩ (.int .i64 s.rs)).setCell ⟨w.heap.size+1+1,6,none⟩ (.int .i64 s.rb)).heap.size by simp only[World.size_setCell];have:=aA.size;have:=HS.out;omega);obtain⟨⟨x0,dB⟩,⟨x1,tA⟩,⟨x2,vA⟩,⟨x3,rA⟩,⟨x4,mA⟩,⟨x5,eB⟩,⟨x6,aB⟩,⟨x7,cB⟩⟩:=HX.out.zRJ aA;obtain⟨⟨z0,fB⟩,⟨z1,pA⟩,⟨z2,kA⟩,⟨z3,iA⟩,⟨z4,jA⟩,⟨z5,sA⟩,⟨z6,nA⟩,⟨z7,lA⟩⟩:=HZ.out.zRJ aA;clear aA dA HX HY HZ HS;go_wp2_with fail;clear x0 x1 x2 x3 x4 x5 x6 x7 dB tA vA rA mA eB aB cB z0 z1 z2 z3 z4 z5 z6 z7 fB pA kA iA jA sA nA lA;generalize (w1.setCell ⟨w.heap.size+1+1,5,none⟩ (.int .i64 s.rs)).setCell ⟨w.heap.size+1+1,6,none⟩ (.int .i64 s.rb)=W1 at fA eA gA iB cA ⊢;refine(zFL _ s.dn lo hi _ _ W1 (H1.out.zRJ cA) hn).mono ?_;rintro e w2 ⟨⟨v',rfl,ho⟩,bA,mB⟩;obtain⟨-,av,cv,rfl,-,-⟩:=id ho;have HO:=zB ho;have lB:=zB (fA.out.zRJ bA);have bB:=zB (eA.out.zRJ bA);have kB:=zB (gA.out.zRJ bA);have jB:=zA cA bA;clear ho bA fA eA gA cA;obtain⟨⟨x0,dB⟩,⟨x1,tA⟩,⟨x2,vA⟩,⟨x3,rA⟩,⟨x4,mA⟩,⟨x5,eB⟩,⟨x6,aB⟩,⟨x7,cB⟩⟩:=lB.out;obtain⟨⟨y0,nB⟩,⟨y1,aC⟩,⟨y2,oB⟩,⟨y3,bC⟩,⟨y4,sB⟩,⟨y5,tB⟩,⟨y6,vB⟩,⟨y7,pB⟩⟩:=bB.out;obtain⟨⟨z0,fB⟩,⟨z1,pA⟩,⟨z2,kA⟩,⟨z3,iA⟩,⟨z4,jA⟩,⟨z5,sA⟩,⟨z6,nA⟩,⟨z7,lA⟩⟩:=kB.out;go_wp2;have HR:=(show zCp (w2.setCell ⟨w.heap.size+1+1,7,none⟩ (.slice av s.dn cv)) (w.heap.size+1) _ _ _ _ _ _ _ _ from(by
  obtain⟨h0,h1,h2,h3,h4,h5,h6,h7⟩:=bB.out;have hc:∀{j:Nat} {v:Value},zX w2 (w.heap.size+1) j v->zX (w2.setCell ⟨w.heap.size+1+1,7,none⟩ (.slice av s.dn cv)) (w.heap.size+1) j v:=fun hc=>hc.zRK _ (Or.inl (by omega))
  exact⟨hc h0,hc h1,hc h2,hc h3,hc h4,hc h5,hc h6,hc h7⟩)).put (.int .i64 s.id) (.string s.name) (.string s.set) (.int .i64 s.zRT) (.int .i64 s.time) (.int .i64 s.rs) (.int .i64 s.rb) (.slice av s.dn cv)
 have rB:=iB.out;refine bodyPost_ret (v:=.agg #[.int .i64 s.id,.string s.name,.string s.set,.int .i64 s.zRT,.int .i64 s.time,.int .i64 s.rs,.int .i64 s.rb,.slice av s.dn cv]) (by simp[results,Tryz.results90,go_sem,HR.1.1,HR.2.1.1,HR.2.2.1.1,HR.2.2.2.1.1,HR.2.2.2.2.1.1,HR.2.2.2.2.2.1.1,HR.2.2.2.2.2.2.1.1,HR.2.2.2.2.2.2.2.1]) rfl ⟨⟨_,W1.heap.size,rfl,?_,by omega,by simpa using mB⟩,?_⟩
 ·exact(((((((((HO.out.put _ (by omega)).put _ (by omega)).put _ (by omega)).put _ (by omega)).put _ (by omega)).put _ (by omega)).put _ (by omega)).put _ (by omega)).put _ (by omega))
 ·exact(((((((((jB.setCell (by show _<=w.heap.size+1+1;omega) _).setCell (by show _<=w.heap.size+1;omega) _).setCell (by show _<=w.heap.size+1;omega) _).setCell (by show _<=w.heap.size+1;omega) _).setCell (by show _<=w.heap.size+1;omega) _).setCell (by show _<=w.heap.size+1;omega) _).setCell (by show _<=w.heap.size+1;omega) _).setCell (by show _<=w.heap.size+1;omega) _).setCell (by show _<=w.heap.size+1;omega) _)
theorem zLJ(f:Nat->qC):∀{n i:Nat},i<n->zEt (f i)<=zBM f n
 | n+1,i,h=>by
  show zEt (f i)<=zBM f n+zEt (f n);by_cases e:i=n
  ·subst e;omega
  ·have:=zLJ f (show i<n by omega);omega
theorem zJi(f:Nat->zm):∀{n i:Nat},i<n->zDs (f i)<=zAw f n
 | n+1,i,h=>by
  show zDs (f i)<=zAw f n+zDs (f n);by_cases e:i=n
  ·subst e;omega
  ·have:=zJi f (show i<n by omega);omega
theorem zKC{W:zH}(h:yZ W<=1048576):zDb W:=by
 unfold yZ at h;refine⟨fun i hi=>?_,fun i hi=>?_⟩
 ·have:=zLJ W.zRS hi;unfold zEt at this;omega
 ·have:=zJi W.zRP hi;unfold zDs at this;omega
theorem zPp(W:zH)(k0:Int):zAk W k0<=k0+8*(yZ W:Int):=by
 have h1:=zGH W.zRQ.s k0 W.zRQ.n;have h2:=zDq W k0;have h3:=zFC W.zRS (zBB W.zRQ k0) W.sn;have h4:=zEG W.zRP (ze W.zRS (zBB W.zRQ k0) W.sn) W.pn;have h7:yZ W=W.zRQ.n+yn W.zRQ.s W.zRQ.n+W.zRQ.hn+(W.sn+zBM W.zRS W.sn)+(W.pn+zAw W.zRP W.pn):=rfl;have h5:zBB W.zRQ k0=qT W.zRQ.s k0 W.zRQ.n+W.zRQ.hn:=rfl;have h6:zAk W k0=zM W.zRP (ze W.zRS (zBB W.zRQ k0) W.sn) W.pn:=rfl;generalize zBB W.zRQ k0=e at *;generalize ze W.zRS e W.sn=s at *;omega
theorem zD2{W:zH}{k0:Int}(h:yZ W<=4000000)(h0:0<=k0)(h1:k0<=100000000):zAk W k0<=1000000000000/\0<=zAk W k0:=by
 have:=zPp W k0;have:=zDq W k0;omega
theorem zFi{W:zH}(h:yZ W<=1048576):qD W.zRQ<=1048576/\W.sn<=1048576/\W.pn<=1048576/\zDb W:=by
 refine⟨?_,?_,?_,zKC h⟩
 all_goals
  unfold yZ at h;omega
theorem zGz:∀(l:List (Int×Int)) (p:zJ),qD (zx p l)=qD p+l.length
 | [],_=>rfl
 | x :: l,p=>by
  have h:=zGz l (zAL p x.1);have e:qD (zAL p x.1)=qD p+1:=rfl;show qD (zx (zAL p x.1) l)=_;rw[h,e,List.length_cons];omega
theorem zH9(f:Nat->qC)(k c:Nat)(s:qC)(hs:zEt s<=zEt (f k)+c):∀n,zBM (fun j=>if j=k then s else f j) n<=zBM f n+(if k<n then c else 0)
 | 0=>Nat.zero_le _
 | n+1=>by
  have ih:=zH9 f k c s hs n;show zBM _ n+zEt (if n=k then s else f n)<=zBM f n+zEt (f n)+(if k<n+1 then c else 0);by_cases e:n=k
  ·subst e;rw[if_neg (Nat.lt_irrefl n)]at ih;rw[if_pos rfl,if_pos (Nat.lt_succ_self n)];omega
  ·rw[if_neg e];by_cases h:k<n
   ·rw[if_pos h]at ih;rw[if_pos (Nat.lt_succ_of_lt h)];omega
   ·rw[if_neg h]at ih;rw[if_neg (by omega)];omega
theorem zMz(W:zH)(k:Nat)(y:zCA)(hy:zG3 y)(hp:qD y.zRQ<=qD W.zRQ+40):yZ (zL2 W k y)<=yZ W+46:=by
 have hl:=zCL (zf y.old) (zh y.old) (zN W (W.zRS k).zRT).time y.old.length;have h3:=hy.2.1;have hY:(zEq W k y).length+(zOl W k y).length=y.old.length:=hl;have aA:(zBc W k y).dn=(W.zRS k).dn+(zOl W k y).length:=by
  show(zDj W k y).length=_;unfold zDj;rw[List.length_append,zAn]
 have h1:=zH9 W.zRS k 3 (zBc W k y) (by
  show(zBc W k y).name.size+(zBc W k y).dn<=(W.zRS k).name.size+(W.zRS k).dn+3;rw[aA];show(W.zRS k).name.size+_<=_;omega) W.sn
 have h2:=zGz (zEq W k y) y.zRQ;have h5:(if k<W.sn then 3 else 0)<=3:=by split<;>omega
 have h7:yZ (zL2 W k y)=qD (zx y.zRQ (zEq W k y))+(W.sn+zBM (fun j=>if j=k then zBc W k y else W.zRS j) W.sn)+(W.pn+zAw W.zRP W.pn):=rfl;have h8:yZ W=qD W.zRQ+(W.sn+zBM W.zRS W.sn)+(W.pn+zAw W.zRP W.pn):=rfl;omega
theorem zKM{W:zH}{k:Nat}{y:zCA}(hy:zG3 y)(hp:qD y.zRQ<=qD W.zRQ+40)(hN:yZ W<=1048576):zAk (zA8 W k y).world 1<=1000000000000/\0<=zAk (zA8 W k y).world 1:=by
 unfold zA8;split
 ·have:=zMz W k y hy hp;exact zD2 (W:=zL2 W k y) (by omega) (by decide) (by decide)
 ·exact zD2 (W:=noW) (by decide) (by decide) (by decide)
def zCP(W:zH)(name:ByteArray)(zRV:Int)(oo:zB0):Prop:=∃r o,zHX W (∃i,i<1/\8000<((fun (_:Nat)=>name) i).size) (∃i,i<0/\¬yM ((fun _=>⟨#[]⟩) i)) 1 (fun i=>match i with  | _=>zAR W name) (fun i=>match i with  | _=>2) r/\(r=none->∃k,zGA W name k/\o=zA8 W k (zAM W.zRQ (W.zRS k).rs (W.zRS k).rb zRV W.time))/\oo=zMR r o
theorem zCP.uniq{W:zH}{name:ByteArray}{zRV:Int}{o o':zB0}(h:zCP W name zRV o)(h':zCP W name zRV o'):o=o':=by
 obtain⟨r,a,h1,h2,rfl⟩:=h;obtain⟨r',b,g1,g2,rfl⟩:=h';obtain rfl:=h1.uniq g1;cases r with
 | some i=>rfl
 | none=>
  obtain⟨k,hk,rfl⟩:=h2 rfl;obtain⟨k',aA,rfl⟩:=g2 rfl;obtain rfl:=hk.uniq aA;rfl
open Classical in
noncomputable def yq(W:zH)(name:ByteArray)(zRV:Int):zB0:=if h:∃o,zCP W name zRV o then h.choose else zBy 0
theorem zE5{W:zH}{name:ByteArray}{zRV:Int}{w w':World}{e:Ending}(h:zAd W name zRV w e w'):zBu (yq W name zRV) w e w':=by
 obtain⟨r,o,h1,h2,h3⟩:=h;have hi:zCP W name zRV (zMR r o):=⟨r,o,h1,h2,rfl⟩;have hx:∃o,zCP W name zRV o:=⟨_,hi⟩;have he:yq W name zRV=zMR r o:=by
  unfold yq;rw[dif_pos hx];exact hx.choose_spec.uniq hi
 rw[he];exact h3
theorem zGE{W:zH}{name:ByteArray}{zRV:Int}(hN:yZ W<=1048576):zAk (yq W name zRV).world 1<=1000000000000/\0<=zAk (yq W name zRV).world 1:=by
 have hz:∀c,zAk (zBy c).world 1<=1000000000000/\0<=zAk (zBy c).world 1:=fun c=>zD2 (W:=noW) (by decide) (by decide) (by decide)
 unfold yq;split
 ·rename_i h
  obtain⟨r,o,h1,h2,h3⟩:=h.choose_spec;rw[h3];cases r with
  | some i=>exact hz _
  | none=>
   obtain⟨k,hk,rfl⟩:=h2 rfl;exact zKM (zGd _ _ _ _ _) (zHr _ _ _ _ _).1 hN
 ·exact hz _
theorem qk.row{w:World}{b n c:Nat}{a:Option Addr}{f:Nat->Int}(h:qk w b (.slice a n c) n f)(gA:n<c):w.ownsRow b 2 1 (.slice a n c) n (ic f n)/\a=some ⟨b,0,none⟩/\0<n:=by
 obtain⟨hm,a0,c0,hv,eA,hc,hr⟩:=h;simp only[Value.slice.injEq,true_and]at hv;obtain⟨rfl,rfl⟩:=hv;obtain⟨h0,rfl,dA,cA,bA,fA⟩:=hr gA;obtain⟨off,ha,aA⟩:=hc h0;simp only[Option.some.injEq,Addr.mk.injEq,true_and,and_true]at ha;subst ha;refine⟨⟨zBo _ _,.inr ⟨b,c,cA,rfl,Nat.le_refl _,bA,eA,dA,by simpa using fA,?_⟩⟩,rfl,h0⟩;apply List.ext_getElem?;intro j;by_cases hj:j<n
 ·have e:=(aA j hj).1;rw[Nat.zero_add,cell_of_row w b j cA _ (0,0) bA]at e;rw[List.getElem?_take,if_pos (by omega),zL9 f n j hj];simpa using e
 ·rw[List.getElem?_eq_none (by simp;omega),List.getElem?_eq_none (by rw[zBo];omega)]
theorem qk.block{w:World}{b n:Nat}{v:Value}{f:Nat->Int}(h:qk w b v n f)(h0:0<n):v.ownBlock=some b:=by
 obtain⟨_,a,c,rfl,_,hc,_⟩:=h;obtain⟨off,rfl,_⟩:=hc h0;rfl
theorem zKc:Tryz.prog.underlying 23=some (.slice 2):=by kernel_rfl
theorem zOM{w:World}{b n B:Nat}{v:Value}{f:Nat->Int}{x:Int}(h:qk w b v n f)(hn:n<=1000)(bA:w.cell? ⟨B,0,none⟩=some (.int .i64 x))(ty:TypeId) :
  ∃base g aA w',(Builtin.append_ #[23,23] ty #[v,.slice (some ⟨B,0,none⟩) 1 1]).run Tryz.prog w = .ok (.slice (some ⟨g,0,none⟩) (n+1) aA) w'/\w'.ownsRow base 2 1 (.slice (some ⟨g,0,none⟩) (n+1) aA) (n+1) (ic f n ++ [.int .i64 x])/\zF (fun k=>0<n/\v.ownBlock=some k) w w'/\((0<n/\v.ownBlock=some g)\/w.heap.size<=g)/\g<w'.heap.size:=by
 obtain⟨i0,fA,iA⟩:=Option.map_eq_some_iff.1 zDH;simp only[Prod.mk.injEq]at iA;obtain⟨hz,hs,eA⟩:=iA;obtain⟨a,c,rfl⟩:∃a c,v = .slice a n c:=by obtain⟨_,a,c,e,_⟩:=h;exact⟨a,c,e⟩
 by_cases nA:n<c
 ·obtain⟨cA,rfl,h0⟩:=h.row nA;obtain⟨g,aA,w',hr,h2,h3,h4,h5⟩:=run_append_lies (P:=Tryz.prog) w 23 ty b 2 i0 _ 1 8 zKc fA hz hs eA rfl (by decide) _ n (ic f n) cA ⟨B,0,none⟩ 1 1 [.int .i64 x] rfl (zF4 bA) (zQA x) (by omega) (by unfold maxLen;omega) (by omega) (by have:=cA.lt b rfl;omega) w.heap.size rfl;refine⟨b,g,aA,w',hr,h2,?_,?_,h5⟩
  ·refine⟨h3.os,h3.tape,h3.output,h3.size,fun k hk lA=>h3.block k hk (fun e=>lA ⟨h0,e.symm⟩)⟩
  ·exact h4.imp (fun h=>⟨h0,h⟩) (fun h=>by omega)
 ·obtain⟨hm,a0,c0,hv,rA,dA,-⟩:=h;simp only[Value.slice.injEq,true_and]at hv;obtain⟨rfl,rfl⟩:=hv;obtain rfl:c=n:=(by omega);by_cases h0:0<c
  ·obtain⟨off,rfl,oA⟩:=dA h0;obtain⟨v',w',hr,h1,h2⟩:=run_append_arg_grows (P:=Tryz.prog) w 23 ty 2 i0 _ 1 8 zKc fA hz hs eA rfl (by decide) ⟨b,off,none⟩ c c (ic f c) (by rw[zBo]) (fun j u hj=>by
     have jA:j<c:=by
      have:=(List.getElem?_eq_some_iff.1 hj).1;rw[zBo]at this;omega
     have gA:=zL9 f c j jA;rw[hj]at gA;injection gA with gA;subst gA;have e:(⟨b,off,none⟩:Addr).add j=⟨b,off+j,none⟩:=by
      unfold Addr.add;split
      ·simp_all
      ·simp
     rw[e];exact(oA j jA).1) ⟨B,0,none⟩ 1 1 [.int .i64 x] rfl (zF4 bA) (by omega) (by unfold maxLen;omega) (by omega)
   obtain⟨g,aA,rfl,pA,mA,kA,-⟩:=qe h1 (by omega);exact⟨_,g,aA,w',hr,h1,⟨h2.os,h2.tape,h2.output,h2.size,fun k hk _=>h2.block k hk (by simp)⟩,Or.inr mA,kA⟩
  ·obtain rfl:c=0:=(by omega);obtain⟨g,aA,w',hr,h2,h3,h4,h5⟩:=run_append_lies (P:=Tryz.prog) w 23 ty w.heap.size 2 i0 _ 1 8 zKc fA hz hs eA rfl (by decide) (.slice none 0 0) 0 [] ⟨by simp,Or.inl ⟨rfl,rfl⟩⟩ ⟨B,0,none⟩ 1 1 [.int .i64 x] rfl (zF4 bA) (zQA x) (by omega) (by unfold maxLen;omega) (by omega) (Nat.le_refl _) w.heap.size rfl;refine⟨_,g,aA,w',?_,h2,⟨h3.os,h3.tape,h3.output,h3.size,fun k hk _=>h3.block k hk (by simp[Value.ownBlock])⟩,Or.inr ?_,h5⟩
   ·rw[zDr 23 ty 2 i0 a ⟨B,0,none⟩ 1 1 zKc fA (by omega) (by rw[eA];omega)];exact hr
   ·rcases h4 with h4 | h4
    ·cases h4
    ·omega
structure zQ4 (p:Prop):Prop where
 out:p
theorem zJr{A B:Prop}(f:zQ4 A->B)(h:A):B:=f ⟨h⟩
theorem zIj{wa wb:World}{S:Nat->Prop}{X g cA base:Nat}{v0 v1:Value}{q:zJ}{x:Int}(ho:qZ wa S v0 v1 q)(t:zF (fun k=>0<q.hn/\v1.ownBlock=some k) wa wb)
  (aA:wb.ownsRow base 2 1 (.slice (some ⟨g,0,none⟩) (q.hn+1) cA) (q.hn+1) (ic q.h q.hn ++ [.int .i64 x])) (gA:(0<q.hn/\v1.ownBlock=some g)\/¬S g) (hX:¬S X) (jA:g≠X) (hm:q.hn+1<=maxLen) :
  qZ (wb.setCell ⟨X,1,none⟩ (.slice (some ⟨g,0,none⟩) (q.hn+1) cA)) (fun k=>S k\/k=g) v0 (.slice (some ⟨g,0,none⟩) (q.hn+1) cA) (zAL q x):=by
 obtain⟨bs,hb,kb,kv,h1,h2,h3,h4,h5⟩:=ho;have tX:=zF.put wb X 1 (.slice (some ⟨g,0,none⟩) (q.hn+1) cA);have dA:∀k,yr bs kb q.n q.s k->¬(0<q.hn/\v1.ownBlock=some k):=fun k hk hx=>by
  rw[h3.block hx.1]at hx;simp only[Option.some.injEq]at hx;exact h4 hx.1 (hx.2▸hk)
 have eA:∀k,yr bs kb q.n q.s k->¬k=X:=fun k hk e=>hX (e▸h5 k (Or.inl hk))
 have s1:=(h1.zRR t (fun h0=>dA _ (Or.inl ⟨h0,rfl⟩)) (fun i hi h=>dA _ (Or.inr ⟨i,hi,h,rfl⟩))).zRR tX (fun h0=>eA _ (Or.inl ⟨h0,rfl⟩)) (fun i hi h=>eA _ (Or.inr ⟨i,hi,h,rfl⟩));rw[<-zNI]at aA;have bA:=aA.kept (zB5 tX) (Or.inr (by simp[Value.ownBlock];exact jA));obtain⟨gb,iA,fA⟩:=zEv (f:=(zAL q x).h) hm bA (fun e=>absurd e (Nat.succ_ne_zero _));obtain rfl:g=gb:=by have:=fA (Nat.succ_pos _);simpa[Value.ownBlock]using this
 refine⟨bs,g,kb,kv,s1,h2,iA,fun _ hx=>?_,fun k hk=>?_⟩
 ·rcases gA with⟨h0,he⟩ | he
  ·exact dA g hx ⟨h0,he⟩
  ·exact he (h5 g (Or.inl hx))
 ·rcases hk with hk | ⟨_,rfl⟩
  ·exact Or.inl (h5 k (Or.inl hk))
  ·exact Or.inr rfl
theorem zLf(V lo hi:Nat)(P:Nat->Prop)(z0 z1 z2 z3 v:Value)(tm nx:Int)(p:zJ)(l:List (Int×Int))(w:World)(hV:zi w V z0 z1 (.int .i64 tm) (.int .i64 nx) z2 z3)(hP:qZ w P z0 z1 p)(nA:∀j,P j->j<V)(hv:zU w lo hi v l.length (zf l) (zh l))(gC:V<lo)(fC:hi<=w.heap.size)(hl:l.length<=200)(vB:p.hn<=400) :
  Calls Tryz.prog 54 #[.pointer (some ⟨V,0,none⟩),v] w fun e w'=>e = .returned (.int .i64 (l.length:Int))/\∃y1,zi w' V z0 y1 (.int .i64 tm) (.int .i64 nx) z2 z3/\qZ w' (fun j=>P j\/(w.heap.size<=j/\j<w'.heap.size)) z0 y1 (zx p l)/\zF (fun j=>j=V\/P j\/w.heap.size<=j) w w':=by
 have jC:=hV.1.lt;obtain⟨-,a,c,rfl,-,hx⟩:=hv;have HX:=zB hx;have HV:=zB hV;have HP:=zB hP;clear hV hP hx;go_enter Tryz.func54,Tryz.ntmps54;go_wp2_with fail
 go_loopw [5] (fun i wr=>∃(k:Nat) (y1:Value),k<=l.length/\i = .int .i64 k/\zi wr V z0 y1 (.int .i64 tm) (.int .i64 nx) z2 z3/\qZ wr (fun j=>P j\/(w.heap.size<=j/\j<wr.heap.size)) z0 y1 (zx p (l.take k))/\zF (fun j=>j=V\/P j\/w.heap.size<=j) w wr) (fun i _=>l.length - (intOf i).toNat)
 case atStart=>exact⟨0,_,Nat.zero_le _,rfl,HV.out,HP.out.mono (fun j h=>Or.inl h),zF.refl _ _⟩
 case round=>
  obtain⟨k,y1,hk,rfl,eB,gB,rA⟩:=hrel;have vA:=zB eB;have mA:=zB gB;have cB:=zB rA;have aC:=rA.size;clear eB gB rA;by_cases bB:k<l.length
  ·have rB:(k:Int)<(l.length:Int):=(by omega);obtain⟨b,off,rfl,bC,dC,bA⟩:=HX.out (by omega);have q0:=(cB.out.cell (o:=off+k*2) (show b<w.heap.size by omega) (fun h=>by
    rcases h with h | h | h
    ·omega
    ·have:=nA b h;omega
    ·omega)).trans (bA k bB).1
   have mB:(zx p (l.take k)).hn<=1000:=by
    rw[(zJU (l.take k) p).2.2,List.length_take];omega
   obtain⟨bs,nB,kb,kv,i1,i2,i3,i4,i5⟩:=id mA.out;obtain⟨a1,c1,rfl⟩:∃a1 c1,y1 = .slice a1 (zx p (l.take k)).hn c1:=(by obtain⟨_,a1,c1,e,_⟩:=i3;exact⟨a1,c1,e⟩);have tA:Below wr.heap.size wr wr.drew:=(Below.refl _ _).drew;have iA:=zC wr.drew (.cells #[.int .i64 (zf l k)] 2);have eA:Below wr.heap.size wr (wr.drew.alloc (.cells #[.int .i64 (zf l k)] 2)):=zA tA iA;obtain⟨base,g,gA,w5,dB,aA,cA,jA,pB⟩:=zOM (B:=wr.drew.heap.size) (x:=zf l k) (i3.zRJ eA) mB (World.cell?_alloc_at _ _ _ _ rfl) 23;have sB:(wr.drew.alloc (.cells #[.int .i64 (zf l k)] 2)).heap.size>=wr.heap.size+1:=(by rw[World.size_alloc];exact Nat.le_refl _);have iC:wr.heap.size+1<=w5.heap.size:=(by have:=cA.size;omega);have kA:∀j,0<(zx p (l.take k)).hn/\(Value.slice a1 (zx p (l.take k)).hn c1).ownBlock=some j->P j\/(w.heap.size<=j/\j<wr.heap.size):=fun j h=>by
    have e:=i3.block h.1;rw[h.2]at e;injection e with e;rw[e];exact i5 nB (Or.inr ⟨h.1,rfl⟩)
   have lA:∀j,0<(zx p (l.take k)).hn/\(Value.slice a1 (zx p (l.take k)).hn c1).ownBlock=some j->j≠V/\j≠b:=fun j h=>by
    rcases kA j h with h' | h'
    ·have:=nA j h';exact⟨by omega,by omega⟩
    ·exact⟨by omega,by omega⟩
   have tB:g≠V:=by
    rcases jA with h | h
    ·exact(lA g h).1
    ·omega
   have sA:=(vA.out.zRJ eA).zRR cA (fun h=>(lA V h).1 rfl);have dA:=zB (show ∀w',Below wr.drew.heap.size wr.drew w'->(fun w':World=>w'.cell? ⟨b,off+k*2,none⟩=some (.int .i64 (zf l k))) w' from fun w' hb=>(hb.cell (p:=⟨b,off+k*2,none⟩) (show b<wr.heap.size by omega)).trans q0);have aB:=zB (show(fun w':World=>w'.cell? ⟨b,off+k*2,none⟩=some (.int .i64 (zf l k))) w5 from(cA.cell (o:=off+k*2) (show b<_ by omega) (fun h=>(lA b h).2 rfl)).trans ((eA.cell (p:=⟨b,off+k*2,none⟩) (show b<wr.heap.size by omega)).trans q0));have pA:=zF.put w5 V 1 (.slice (some ⟨g,0,none⟩) ((zx p (l.take k)).hn+1) gA);have fB:=zB (show(fun w':World=>w'.cell? ⟨b,off+k*2,none⟩=some (.int .i64 (zf l k))) (w5.setCell ⟨V,1,none⟩ (.slice (some ⟨g,0,none⟩) ((zx p (l.take k)).hn+1) gA))from(pA.cell (o:=off+k*2) (show b<w5.heap.size by omega) (fun h=>by omega)).trans aB.out);have iB:=zB (zIj (X:=V) (mA.out.zRJ eA) cA aA (jA.imp id (fun h hx=>by
    rcases hx with hx | hx
    ·have:=nA g hx;omega
    ·omega)) (fun hx=>by
    rcases hx with hx | hx
    ·have:=nA V hx;omega
    ·omega) tB (by unfold maxLen;omega))
   have jB:=zB (show zF (fun j=>j=V\/P j\/w.heap.size<=j) w (w5.setCell ⟨V,1,none⟩ (.slice (some ⟨g,0,none⟩) ((zx p (l.take k)).hn+1) gA))from(cB.out.trans ((zF.zRM eA).trans (cA.mono (fun j h=>by
    rcases kA j h with h' | h'
    ·exact Or.inr (Or.inl h')
    ·exact Or.inr (Or.inr h'.1))))).trans (pA.mono (fun j e=>Or.inl e)))
   have HR:=zB dB;have oA:=zB iA;have HG:=zB (show(0<(zx p (l.take k)).hn/\(Value.slice a1 (zx p (l.take k)).hn c1).ownBlock=some g)\/wr.heap.size<=g from jA.imp id (fun h=>by omega));have lB:=zB kA;obtain⟨x4,-⟩:=(vA.out.zRJ tA).2.1;have X5:=zB ((iA.cell (zD x4)).trans x4);obtain⟨y4,eC⟩:=sA.2.1;have fA:=zB sA;clear dB aA cA jA sA iA eA bA i1 i2 i3 i4 i5 kA lA sB q0;go_wp2_with fail;refine wp_region_held_drew (S:=(fun w':World=>w'.cell? ⟨b,off+k*2,none⟩=some (.int .i64 (zf l k)))) (by kernel_rfl) (dA.out _ (Below.refl _ _)) (fun hHeld=>?_);generalize wr.drew=q0 at hHeld dA HR oA x4 X5 tA ⊢
   refine' zJr (fun hfin=>_) _
   rotate_left
   ·skip;refine tk 0 (h:=tk 1 (h:=tk 2 (h:=tk 3 (h:=tk 4 (h:=tk 6 (h:=tk 7 (h:=tk 8 (h:=tk 9 (h:=tk 10 (h:=?_))))))))));refine rd [5,11] (rc (fun K hK=>?_) (rc (fun K hK=>?_) .nil))
    ·go_simp
     (try go_wp2_with fail)
     refine hK.out _ _ (dA.out _ (Below.refl _ _)) ?_;clear hK K;intro hHeld
     try simp only[Act.put,s1,s2,s3]
     refine rd [11] (rc (fun K hK=>?_) .nil);go_simp
     (try go_wp2_with fail)
     refine hK.out _ _ (dA.out _ oA.out) ?_;clear hK K;intro hHeld
     try simp only[Act.put,s1,s2,s3]
     refine rd [12] (rc (fun K hK=>?_) .nil);refine yv rfl (.tmp 17) (.tmp 23) 23 rfl _ _ _ rfl rfl HR.out ?_
     (try go_wp2_with fail)
     refine hK.out _ _ (aB.out) ?_;clear hK K;intro hHeld
     try simp only[Act.put,s1,s2,s3]
     refine tk 13 (h:=tk 14 (h:=tk 15 (h:=?_)));refine rd [16] (rc (fun K hK=>?_) .nil);go_simp
     (try go_wp2_with fail)
     refine hK.out _ _ (fB.out) ?_;clear hK K;intro hHeld
     try simp only[Act.put,s1,s2,s3]
     refine wpAnyH_done (by kernel_rfl) ?_ _;exact hfin.out
    ·go_simp
     (try go_wp2_with fail)
     refine hK.out _ _ (dA.out _ oA.out) ?_;clear hK K;intro hHeld
     try simp only[Act.put,s1,s2,s3]
     refine rd [5] (rc (fun K hK=>?_) .nil);have kB:=X5.out;go_simp
     (try go_wp2_with fail)
     refine hK.out _ _ (dA.out _ oA.out) ?_;clear hK K;intro hHeld
     try simp only[Act.put,s1,s2,s3]
     clear kB;refine rd [12] (rc (fun K hK=>?_) .nil);refine yv rfl (.tmp 17) (.tmp 23) 23 rfl _ _ _ rfl rfl HR.out ?_
     (try go_wp2_with fail)
     refine hK.out _ _ (aB.out) ?_;clear hK K;intro hHeld
     try simp only[Act.put,s1,s2,s3]
     refine tk 13 (h:=tk 14 (h:=tk 15 (h:=?_)));refine rd [16] (rc (fun K hK=>?_) .nil);go_simp
     (try go_wp2_with fail)
     refine hK.out _ _ (fB.out) ?_;clear hK K;intro hHeld
     try simp only[Act.put,s1,s2,s3]
     refine wpAnyH_done (by kernel_rfl) ?_ _;exact hfin.out
   go_wp2_with fail;go_roundw
   case rel=>
    have oB:zi (w5.setCell ⟨V,1,none⟩ (.slice (some ⟨g,0,none⟩) ((zx p (l.take k)).hn+1) gA)) V z0 (.slice (some ⟨g,0,none⟩) ((zx p (l.take k)).hn+1) gA) (.int .i64 tm) (.int .i64 nx) z2 z3:=⟨fA.out.1.zRK _ (Or.inr (by decide)),fA.out.2.1.set _,fA.out.2.2.1.zRK _ (Or.inr (by decide)),fA.out.2.2.2.1.zRK _ (Or.inr (by decide)),fA.out.2.2.2.2.1.zRK _ (Or.inr (by decide)),fA.out.2.2.2.2.2.zRK _ (Or.inr (by decide))⟩;have he:zx p (l.take (k+1))=zAL (zx p (l.take k)) (zf l k):=by
     rw[List.take_succ_eq_append_getElem bB,zDo];congr 1;unfold zf;rw[List.getD_eq_getElem?_getD,List.getElem?_eq_getElem bB];rfl
    refine⟨k+1,_,by omega,by go_num,oB,?_,jB.out⟩;rw[he];refine iB.out.mono (fun j hj=>?_);have cC:=pA.size;rcases hj with(h | h) | rfl
    ·exact Or.inl h
    ·exact Or.inr ⟨h.1,by omega⟩
    ·rcases HG.out with h | h
     ·rcases lB.out j h with h' | h'
      ·exact Or.inl h'
      ·exact Or.inr ⟨h'.1,by omega⟩
     ·exact Or.inr ⟨by omega,by omega⟩
   case measure=>simp[intOf];omega
  ·obtain rfl:k=l.length:=(by omega);go_wp2_with fail;rw[List.take_length]at mA;go_ret;exact⟨rfl,y1,vA.out,mA.out,cB.out⟩
end Go.Proofs.YtmgeglgboadfiaaGreatDoor
