/- What the laws' own functions of comparing answer (eqPtr, eqPtrS, eqSlot, eqSlotS, eqInt64S, eqPool): true just where both hold the same; they write nothing that was there. -/
import Derived.Test.YtmgeglgboadfiaaGreatDoorT20
import Derived.ArgAppend
set_option linter.unusedVariables false
set_option maxRecDepth 20000
set_option maxHeartbeats 4000000
namespace Go.Proofs.YtmgeglgboadfiaaGreatDoor
open Go.RowKit
theorem zGZ(a b c d:Int)(w:World) :
  Calls Tryz.prog 174 #[.agg #[.int .i64 a,.int .i64 b],.agg #[.int .i64 c,.int .i64 d]] w fun e w'=>zG (zCC a b c d) e/\Below w.heap.size w w':=by
 by_cases h1:a=c
 ·by_cases h2:b=d
  ·subst h1 h2;go_enter Tryz.func174,Tryz.ntmps174;go_wp2;go_ret;exact⟨zG.yes ⟨rfl,rfl⟩,((Below.refl _ _).alloc (Nat.le_refl _) _).alloc (by simp) _⟩
  ·subst h1;have hb:(b != d)=true:=(by simp[h2]);have H2:Hid (¬zCC a b a d):=fun h=>h2 h.2
   clear h2;go_enter Tryz.func174,Tryz.ntmps174;go_wp2;go_ret;exact⟨zG.no H2.out,((Below.refl _ _).alloc (Nat.le_refl _) _).alloc (by simp) _⟩
 ·have hb:(a != c)=true:=(by simp[h1]);have H2:Hid (¬zCC a b c d):=fun h=>h1 h.1
  clear h1;go_enter Tryz.func174,Tryz.ntmps174;go_wp2;go_ret;exact⟨zG.no H2.out,((Below.refl _ _).alloc (Nat.le_refl _) _).alloc (by simp) _⟩
theorem zKo(v v':Value)(n n' lo hi lo' hi':Nat)(f f':Nat->Int)(w:World)(h1:qT w lo hi v n f)(h2:qT w lo' hi' v' n' f') :
  Calls Tryz.prog 109 #[v,v'] w fun e w'=>zG (zM7 n n' f f') e/\Below w.heap.size w w':=by
 obtain⟨m1,a,c,rfl,mc,g1⟩:=h1;obtain⟨m2,a',c',rfl,kA,g2⟩:=h2;unfold maxLen at m1 m2;by_cases hn:n=n'
 ·subst hn;have fA:((n:Int) != (n:Int))=false:=(by simp);go_enter Tryz.func109,Tryz.ntmps109;go_wp2
  go_loopw [5] (fun i wr=>∃k:Nat,k<=n/\i = .int .i64 k/\(∀j,j<k->f j=f' j)/\Below w.heap.size w wr) (fun i _=>n - (intOf i).toNat)
  case atStart=>exact⟨0,Nat.zero_le _,rfl,fun j h=>absurd h (Nat.not_lt_zero _),Below.refl _ _⟩
  case round=>
   obtain⟨k,hk,rfl,cA,hb⟩:=hrel;have bA:Hid (∀j,j<k->f j=f' j):=cA;clear cA;by_cases aA:k<n
   ·have gA:(k:Int)<(n:Int):=(by omega);obtain⟨b,off,rfl,_,_,k1⟩:=g1 (by omega);obtain⟨b',dA,rfl,_,_,k2⟩:=g2 (by omega);have iA:wr.cell? ⟨b,off+k,none⟩=some (.int .i64 (f k)):=(hb.cell (zD (k1 k aA))).trans (k1 k aA);have jA:wr.cell? ⟨b',dA+k,none⟩=some (.int .i64 (f' k)):=(hb.cell (zD (k2 k aA))).trans (k2 k aA);clear k1 k2 g1 g2;by_cases he:f k=f' k
    ·have eA:(f k != f' k)=false:=(by simp[he]);have He:Hid (f k=f' k):=he;clear he;go_wp2_with fail
     go_quiet (fail)
     go_wp2;go_roundw
     case rel=>exact⟨k+1,by omega,by go_num,zo aA bA.out He.out,zg hb _⟩
     case measure=>simp[intOf];omega
    ·have eA:(f k != f' k)=true:=(by simp[he]);have He:Hid (¬f k=f' k):=he;clear he;go_wp2_with fail
     go_quiet (fail)
     go_wp2;go_ret;exact⟨zG.no fun h=>He.out (h.2 k aA),zg hb _⟩
   ·go_wp2;go_ret;exact⟨zG.yes ⟨rfl,fun i hi=>bA.out i (by omega)⟩,hb⟩
 ·have fA:((n:Int) != (n':Int))=true:=(by simp;omega);have Hn:Hid (¬n=n'):=hn;clear hn;go_enter Tryz.func109,Tryz.ntmps109;go_wp2;go_ret;exact⟨zG.no fun h=>Hn.out h.1,Below.refl _ _⟩
theorem zFO(v v':Value)(n n' lo hi lo' hi':Nat)(f g f' g':Nat->Int)(w:World)(h1:zR w lo hi v n f g)(h2:zR w lo' hi' v' n' f' g') :
  Calls Tryz.prog 175 #[v,v'] w fun e w'=>zG (zMw n n' f g f' g') e/\Below w.heap.size w w':=by
 obtain⟨m1,a,c,rfl,mc,g1⟩:=h1;obtain⟨m2,a',c',rfl,nA,g2⟩:=h2;unfold maxLen at m1 m2;by_cases hn:n=n'
 ·subst hn;have lA:((n:Int) != (n:Int))=false:=(by simp);go_enter Tryz.func175,Tryz.ntmps175;go_wp2
  go_loopw [5] (fun i wr=>∃k:Nat,k<=n/\i = .int .i64 k/\(∀j,j<k->f j=f' j/\g j=g' j)/\Below w.heap.size w wr) (fun i _=>n - (intOf i).toNat)
  case atStart=>exact⟨0,Nat.zero_le _,rfl,fun j h=>absurd h (Nat.not_lt_zero _),Below.refl _ _⟩
  case round=>
   obtain⟨k,hk,rfl,eA,hb⟩:=hrel;have dA:Hid (∀j,j<k->f j=f' j/\g j=g' j):=eA;clear eA;by_cases bA:k<n
   ·have mA:(k:Int)<(n:Int):=(by omega);obtain⟨b,off,rfl,_,_,k1⟩:=g1 (by omega);obtain⟨b',aA,rfl,_,_,k2⟩:=g2 (by omega);have fA:wr.cell? ⟨b,off+k*2,none⟩=some (.int .i64 (f k)):=(hb.cell (zD (k1 k bA).1)).trans (k1 k bA).1;have iA:wr.cell? ⟨b,off+k*2+1,none⟩=some (.int .i64 (g k)):=(hb.cell (zD (k1 k bA).2)).trans (k1 k bA).2;have jA:wr.cell? ⟨b',aA+k*2,none⟩=some (.int .i64 (f' k)):=(hb.cell (zD (k2 k bA).1)).trans (k2 k bA).1;have gA:wr.cell? ⟨b',aA+k*2+1,none⟩=some (.int .i64 (g' k)):=(hb.cell (zD (k2 k bA).2)).trans (k2 k bA).2;clear k1 k2 g1 g2;go_wp2_with fail;go_region_held3 (fun w'=>w'.cell? ⟨b,off+k*2,none⟩=some (.int .i64 (f k))/\w'.cell? ⟨b,off+k*2+1,none⟩=some (.int .i64 (g k))/\w'.cell? ⟨b',aA+k*2,none⟩=some (.int .i64 (f' k))/\w'.cell? ⟨b',aA+k*2+1,none⟩=some (.int .i64 (g' k))) (go_keep)
     (first | (go_at_call 174;refine(zGZ _ _ _ _ _).mono ?_;rintro e w1 ⟨⟨t,rfl,ht⟩,cA⟩;have z1:=(cA.cell (p:=⟨b,off+k*2,none⟩) (zD fA)).trans fA;have z2:=(cA.cell (p:=⟨b,off+k*2+1,none⟩) (zD iA)).trans iA;have z3:=(cA.cell (p:=⟨b',aA+k*2,none⟩) (zD jA)).trans jA;have z4:=(cA.cell (p:=⟨b',aA+k*2+1,none⟩) (zD gA)).trans gA))
    have Ht:Hid (t=true↔zCC (f k) (g k) (f' k) (g' k)):=ht;have kA:=qh hb cA;clear ht z1 z2 z3 z4 fA iA jA gA cA;cases t
    ·go_wp2;go_ret;exact⟨zG.no fun h=>absurd (Ht.out.2 (h.2 k bA)) (by simp),kA⟩
    ·go_wp2;go_roundw
     case rel=>exact⟨k+1,by omega,by go_num,zo bA dA.out (Ht.out.1 rfl),kA⟩
     case measure=>simp[intOf];omega
   ·go_wp2;go_ret;exact⟨zG.yes ⟨rfl,fun i hi=>dA.out i (by omega)⟩,hb⟩
 ·have lA:((n:Int) != (n':Int))=true:=(by simp;omega);have Hn:Hid (¬n=n'):=hn;clear hn;go_enter Tryz.func175,Tryz.ntmps175;go_wp2;go_ret;exact⟨zG.no fun h=>Hn.out h.1,Below.refl _ _⟩
theorem zMi(v0 v1 v2 u0 u1 u2:Value)(lo hi lo' hi':Nat)(s t:zL)(w:World)(h1:qI w lo hi v0 v1 v2 s)(h2:qI w lo' hi' u0 u1 u2 t) :
  Calls Tryz.prog 173 #[.agg #[v0,v1,v2],.agg #[u0,u1,u2]] w fun e w'=>zG (zEE s t) e/\Below w.heap.size w w':=by
 obtain⟨rfl,p1,rfl,m1⟩:=h1;obtain⟨rfl,p2,rfl,m2⟩:=h2;have q1:=p1;have q2:=p2;obtain⟨_,a,c,rfl,_⟩:=p1;obtain⟨_,a',c',rfl,_⟩:=p2;by_cases h1:s.zRU=t.zRU
 ·have hb:(s.zRU != t.zRU)=false:=(by simp[h1]);have H1:Hid (s.zRU=t.zRU):=h1;clear h1;go_enter Tryz.func173,Tryz.ntmps173;go_wp2_with fail;have bA:=((Below.refl w.heap.size w).alloc (Nat.le_refl _) (.cells #[.int .i64 s.zRU,.slice a s.kn c,.string s.data] 127)).alloc (by simp) (.cells #[.int .i64 t.zRU,.slice a' t.kn c',.string t.data] 127);refine(zFO _ _ _ _ _ _ _ _ _ _ _ _ _ (q1.zRJ bA) (q2.zRJ bA)).mono ?_;rintro e w1 ⟨⟨x,rfl,hx⟩,aA⟩;have Hx:Hid (x=true↔zMw s.kn t.kn s.ks s.kb t.ks t.kb):=hx;have cA:=zA bA aA;have e1:=aA.cell (p:=⟨w.heap.size,2,none⟩) (by simp;omega);have e2:=aA.cell (p:=⟨w.heap.size+1,2,none⟩) (by simp);simp at e1 e2;clear hx aA bA;cases x
  ·go_wp2;go_ret;exact⟨zG.no fun h=>absurd (Hx.out.2 h.2.1) (by simp),cA⟩
  ·by_cases h3:s.data=t.data
   ·have dA:=zCa h3;have H3:Hid (s.data=t.data):=h3;clear h3;go_wp2;go_ret;exact⟨zG.yes ⟨H1.out,(by simpa using Hx.out),H3.out⟩,cA⟩
   ·have dA:=zD1 h3;have H3:Hid (¬s.data=t.data):=h3;clear h3;go_wp2;go_ret;exact⟨zG.no fun h=>H3.out h.2.2,cA⟩
 ·have hb:(s.zRU != t.zRU)=true:=(by simp[h1]);have H1:Hid (¬s.zRU=t.zRU):=h1;clear h1;go_enter Tryz.func173,Tryz.ntmps173;go_wp2;go_ret;exact⟨zG.no fun h=>H1.out h.1,((Below.refl _ _).alloc (Nat.le_refl _) _).alloc (by simp) _⟩
theorem zLz(v v':Value)(n n' lo hi lo' hi':Nat)(f f':Nat->zL)(w:World)(h1:qA w lo hi v n f)(h2:qA w lo' hi' v' n' f') :
  Calls Tryz.prog 108 #[v,v'] w fun e w'=>zG (zKp n n' f f') e/\Below w.heap.size w w':=by
 obtain⟨m1,a,c,rfl,mc,g1⟩:=h1;obtain⟨m2,a',c',rfl,vA,g2⟩:=h2;unfold maxLen at m1 m2;by_cases hn:n=n'
 ·subst hn;have sA:((n:Int) != (n:Int))=false:=(by simp);go_enter Tryz.func108,Tryz.ntmps108;go_wp2
  go_loopw [5] (fun i wr=>∃k:Nat,k<=n/\i = .int .i64 k/\(∀j,j<k->zEE (f j) (f' j))/\Below w.heap.size w wr) (fun i _=>n - (intOf i).toNat)
  case atStart=>exact⟨0,Nat.zero_le _,rfl,fun j h=>absurd h (Nat.not_lt_zero _),Below.refl _ _⟩
  case round=>
   obtain⟨k,hk,rfl,dA,hb⟩:=hrel;have cA:Hid (∀j,j<k->zEE (f j) (f' j)):=dA;clear dA;by_cases eA:k<n
   ·have tA:(k:Int)<(n:Int):=(by omega);obtain⟨b,off,rfl,_,_,k1⟩:=g1 (by omega);obtain⟨b',aA,rfl,_,_,k2⟩:=g2 (by omega);obtain⟨x0,x1,x2,c0,c1,c2,hs⟩:=k1 k eA;obtain⟨y0,y1,y2,d0,d1,d2,ht⟩:=k2 k eA;have lA:=(hb.cell (zD c0)).trans c0;have jA:=(hb.cell (zD c1)).trans c1;have kA:=(hb.cell (zD c2)).trans c2;have iA:=(hb.cell (zD d0)).trans d0;have fA:=(hb.cell (zD d1)).trans d1;have gA:=(hb.cell (zD d2)).trans d2;have oA:=hs.zRJ hb;have nA:=ht.zRJ hb;clear k1 k2 g1 g2 c0 c1 c2 d0 d1 d2 hs ht;have rA:=oA;have pA:=nA;obtain⟨rfl,⟨_,sa,sc,rfl,_⟩,rfl,_⟩:=rA;obtain⟨rfl,⟨_,ta,tc,rfl,_⟩,rfl,_⟩:=pA;go_wp2_with fail;go_region_held3 (fun w'=>w'.cell? ⟨b,off+k*3,none⟩=some (.int .i64 (f k).zRU)/\w'.cell? ⟨b,off+k*3+1,none⟩=some (.slice sa (f k).kn sc)/\w'.cell? ⟨b,off+k*3+2,none⟩=some (.string (f k).data)/\w'.cell? ⟨b',aA+k*3,none⟩=some (.int .i64 (f' k).zRU)/\w'.cell? ⟨b',aA+k*3+1,none⟩=some (.slice ta (f' k).kn tc)/\w'.cell? ⟨b',aA+k*3+2,none⟩=some (.string (f' k).data)) (go_keep)
     (first | (go_at_call 173;refine(zMi _ _ _ _ _ _ lo hi lo' hi' (f k) (f' k) _ ?_ ?_).mono ?_;(exact oA.zRJ ((Below.refl _ _).drew));(exact nA.zRJ ((Below.refl _ _).drew));rintro e w1 ⟨⟨t,rfl,hx⟩,bA⟩;have z1:=(bA.cell (p:=⟨b,off+k*3,none⟩) (zD lA)).trans lA;have z2:=(bA.cell (p:=⟨b,off+k*3+1,none⟩) (zD jA)).trans jA;have z3:=(bA.cell (p:=⟨b,off+k*3+2,none⟩) (zD kA)).trans kA;have y1:=(bA.cell (p:=⟨b',aA+k*3,none⟩) (zD iA)).trans iA;have y2:=(bA.cell (p:=⟨b',aA+k*3+1,none⟩) (zD fA)).trans fA;have y3:=(bA.cell (p:=⟨b',aA+k*3+2,none⟩) (zD gA)).trans gA))
    have Ht:Hid (t=true↔zEE (f k) (f' k)):=hx;have mA:=qh hb bA;clear hx z1 z2 z3 y1 y2 y3 lA jA kA iA fA gA bA;cases t
    ·go_wp2;go_ret;exact⟨zG.no fun h=>absurd (Ht.out.2 (h.2 k eA)) (by simp),mA⟩
    ·go_wp2;go_roundw
     case rel=>exact⟨k+1,by omega,by go_num,zo eA cA.out (Ht.out.1 rfl),mA⟩
     case measure=>simp[intOf];omega
   ·go_wp2;go_ret;exact⟨zG.yes ⟨rfl,fun i hi=>cA.out i (by omega)⟩,hb⟩
 ·have sA:((n:Int) != (n':Int))=true:=(by simp;omega);have Hn:Hid (¬n=n'):=hn;clear hn;go_enter Tryz.func108,Tryz.ntmps108;go_wp2;go_ret;exact⟨zG.no fun h=>Hn.out h.1,Below.refl _ _⟩
theorem zMZ(v0 v1 u0 u1:Value)(lo hi lo' hi':Nat)(p q:zJ)(w:World)(h1:zy w lo hi v0 v1 p)(h2:zy w lo' hi' u0 u1 q) :
  Calls Tryz.prog 39 #[.agg #[v0,v1],.agg #[u0,u1]] w fun e w'=>zG (zKn p q) e/\Below w.heap.size w w':=by
 have q1:=h1;have q2:=h2;obtain⟨⟨_,a,c,rfl,_⟩,⟨_,a1,c1,rfl,_⟩⟩:=h1;obtain⟨⟨_,b,d,rfl,_⟩,⟨_,b1,d1,rfl,_⟩⟩:=h2;go_enter Tryz.func39,Tryz.ntmps39;go_wp2_with fail;have cA:=((Below.refl w.heap.size w).alloc (Nat.le_refl _) (.cells #[.slice a p.n c,.slice a1 p.hn c1] 33)).alloc (by simp) (.cells #[.slice b q.n d,.slice b1 q.hn d1] 33);refine(zLz _ _ _ _ _ _ _ _ _ _ _ (q1.1.zRJ cA) (q2.1.zRJ cA)).mono ?_;rintro e w1 ⟨⟨x,rfl,hx⟩,bA⟩;have Hx:Hid (x=true↔zKp p.n q.n p.s q.s):=hx;have aA:=zA cA bA;have e1:=bA.cell (p:=⟨w.heap.size,1,none⟩) (by simp;omega);have e2:=bA.cell (p:=⟨w.heap.size+1,1,none⟩) (by simp);simp at e1 e2;clear hx bA cA;cases x
 ·go_wp2;go_ret;exact⟨zG.no fun h=>absurd (Hx.out.2 h.1) (by simp),aA⟩
 ·go_wp2_with fail;refine(zKo _ _ _ _ _ _ _ _ _ _ _ (q1.2.zRJ aA) (q2.2.zRJ aA)).mono ?_;rintro e w2 ⟨⟨y,rfl,hy⟩,eA⟩;have Hy:Hid (y=true↔zM7 p.hn q.hn p.h q.h):=hy;have dA:=zA aA eA;clear hy eA aA;cases y
  ·go_wp2;go_ret;exact⟨zG.no fun h=>absurd (Hy.out.2 h.2) (by simp),dA⟩
  ·go_wp2;go_ret;exact⟨zG.yes ⟨(by simpa using Hx.out),(by simpa using Hy.out)⟩,dA⟩
theorem zJ8(v:Value)(n lo hi:Nat)(f:Nat->Int)(w:World)(h1:qT w lo hi v n f)(hn:n<=1048576) :
  Calls Tryz.prog 88 #[v] w fun e w'=>(∃v',e = .returned v'/\qk w' w.heap.size v' n f)/\Below w.heap.size w w'/\w.heap.size<w'.heap.size:=by
 obtain⟨m1,a,c,rfl,mc,g1⟩:=h1;have eA:=m1;unfold maxLen at m1;have G1:Hid (0<n->∃b off,a=some ⟨b,off,none⟩/\lo<=b/\b<hi/\∀i,i<n->w.cell? ⟨b,off+i,none⟩=some (.int .i64 (f i))):=g1;clear g1;have kA:=zA9 23 2 (.int .i64 0) 1 8 (by kernel_rfl) zDQ rfl n hn (by omega);go_enter Tryz.func88,Tryz.ntmps88;go_wp2
 go_loopw [4] (fun i wr=>∃k:Nat,k<=n/\i = .int .i64 k/\(∀j,j<n->zX wr w.heap.size (0+j) (.int .i64 (if j<k then f j else 0)))/\Below w.heap.size w wr/\w.heap.size<wr.heap.size) (fun i _=>n - (intOf i).toNat)
 case atStart=>exact⟨0,Nat.zero_le _,rfl,fun j hj=>by have:=qs w #[.int .i64 0] n j 0 2 hj (by simp);simpa using this,zC _ _,by simp⟩
 case round=>
  obtain⟨k,hk,rfl,bA,hb,dA⟩:=hrel;have aA:Hid (∀j,j<n->zX wr w.heap.size (0+j) (.int .i64 (if j<k then f j else 0))):=bA;clear bA;by_cases cA:k<n
  ·have iA:(k:Int)<(n:Int):=(by omega);obtain⟨b,off,rfl,_,_,k1⟩:=G1.out (by omega);have jA:=(hb.cell (zD (k1 k cA))).trans (k1 k cA);obtain⟨gA,fA⟩:=aA.out k cA;rw[if_neg (Nat.lt_irrefl k),Nat.zero_add]at gA;rw[Nat.zero_add]at fA;go_wp2;go_roundw
   case rel=>
    refine⟨k+1,by omega,by go_num,fun j hj=>?_,hb.setCell (Nat.le_refl _) _,by simpa using dA⟩;by_cases e:j=k
    ·subst e;rw[if_pos (by omega)];simpa using (aA.out j hj).set (.int .i64 (f j))
    ·have:=(aA.out j hj).zRK (b':=w.heap.size) (o':=k) (.int .i64 (f k)) (Or.inr (by omega));by_cases e2:j<k
     ·rw[if_pos (by omega)];rw[if_pos e2]at this;exact this
     ·rw[if_neg (by omega)];rw[if_neg e2]at this;exact this
   case measure=>simp[intOf];omega
  ·obtain rfl:k=n:=(by omega);go_wp2;go_ret;refine⟨⟨_,rfl,eA,_,k,rfl,Nat.le_refl _,fun _=>⟨0,rfl,fun i hi=>?_⟩,fun h=>absurd h (Nat.lt_irrefl _)⟩,hb,dA⟩;have:=aA.out i hi;rw[if_pos hi]at this;exact this
theorem zGV(a b:Int)(w:World) :
  Calls Tryz.prog 148 #[.agg #[.int .i64 a,.int .i64 b]] w fun e w'=>e = .returned (.agg #[.int .i64 a,.int .i64 b])/\Below w.heap.size w w':=by
 go_enter Tryz.func148,Tryz.ntmps148;go_wp2;refine bodyPost_ret (v:=.agg #[.int .i64 a,.int .i64 b]) (by simp[results,Tryz.results148,go_sem]) rfl ⟨rfl,?_⟩;exact(((Below.refl _ _).alloc (Nat.le_refl _) _).alloc (by simp) _).alloc (by simp;omega) _
theorem zFB(v:Value)(n lo hi:Nat)(f g:Nat->Int)(w:World)(h1:zR w lo hi v n f g)(hn:n<=1048576) :
  Calls Tryz.prog 149 #[v] w fun e w'=>(∃v',e = .returned v'/\zj w' w.heap.size v' n f g)/\Below w.heap.size w w'/\w.heap.size<w'.heap.size:=by
 obtain⟨m1,a,c,rfl,mc,g1⟩:=h1;have iA:=m1;unfold maxLen at m1;have G1:Hid (0<n->∃b off,a=some ⟨b,off,none⟩/\lo<=b/\b<hi/\∀i,i<n->w.cell? ⟨b,off+i*2,none⟩=some (.int .i64 (f i))/\w.cell? ⟨b,off+i*2+1,none⟩=some (.int .i64 (g i))):=g1;clear g1;have sA:=zA9 62 61 (.agg #[.int .i64 0,.int .i64 0]) 2 16 (by kernel_rfl) zKV rfl n hn (by omega);go_enter Tryz.func149,Tryz.ntmps149;go_wp2
 go_loopw [4] (fun i wr=>∃k:Nat,k<=n/\i = .int .i64 k/\(∀j,j<n->zX wr w.heap.size (0+j*2) (.int .i64 (if j<k then f j else 0))/\zX wr w.heap.size (0+j*2+1) (.int .i64 (if j<k then g j else 0)))/\Below w.heap.size w wr/\w.heap.size<wr.heap.size) (fun i _=>n - (intOf i).toNat)
 case atStart=>
  refine⟨0,Nat.zero_le _,rfl,fun j hj=>⟨?_,?_⟩,zC _ _,by simp⟩
  ·have:=qs w #[.int .i64 0,.int .i64 0] n j 0 61 hj (by simp);simpa using this
  ·have:=qs w #[.int .i64 0,.int .i64 0] n j 1 61 hj (by simp);simpa using this
 case round=>
  obtain⟨k,hk,rfl,eA,hb,gA⟩:=hrel;have bA:Hid (∀j,j<n->zX wr w.heap.size (0+j*2) (.int .i64 (if j<k then f j else 0))/\zX wr w.heap.size (0+j*2+1) (.int .i64 (if j<k then g j else 0))):=eA;clear eA;by_cases dA:k<n
  ·have rA:(k:Int)<(n:Int):=(by omega);obtain⟨b,off,rfl,_,_,k1⟩:=G1.out (by omega);have jA:=(hb.cell (zD (k1 k dA).1)).trans (k1 k dA).1;have nA:=(hb.cell (zD (k1 k dA).2)).trans (k1 k dA).2;clear k1 G1;go_wp2_with fail;refine(zGV _ _ _).mono ?_;rintro e w1 ⟨rfl,cA⟩;have kA:=zA hb cA;have fA:w.heap.size<w1.heap.size:=Nat.lt_of_lt_of_le gA cA.size;have aA:Hid (∀j,j<n->zX w1 w.heap.size (0+j*2) (.int .i64 (if j<k then f j else 0))/\zX w1 w.heap.size (0+j*2+1) (.int .i64 (if j<k then g j else 0))):=fun j hj=>⟨(bA.out j hj).1.zRJ cA,(bA.out j hj).2.zRJ cA⟩
   clear bA cA jA nA;obtain⟨⟨pA,oA⟩,⟨lA,mA⟩⟩:=aA.out k dA;rw[if_neg (Nat.lt_irrefl k),Nat.zero_add]at pA lA;rw[Nat.zero_add]at oA mA;go_wp2;go_roundw
   case rel=>
    refine⟨k+1,by omega,by go_num,fun j hj=>?_,(kA.setCell (Nat.le_refl _) _).setCell (Nat.le_refl _) _,by simpa using fA⟩;by_cases e:j=k
    ·subst e;rw[if_pos (by omega),if_pos (by omega)];have t1:=((aA.out j hj).1.set (.int .i64 (f j))).zRK (b':=w.heap.size) (o':=0+j*2+1) (.int .i64 (g j)) (Or.inr (by omega));have t2:=((aA.out j hj).2.zRK (b':=w.heap.size) (o':=0+j*2) (.int .i64 (f j)) (Or.inr (by omega))).set (.int .i64 (g j));simp only[Nat.zero_add]at t1 t2 ⊢;exact⟨t1,t2⟩
    ·have t1:=((aA.out j hj).1.zRK (b':=w.heap.size) (o':=k*2) (.int .i64 (f k)) (Or.inr (by omega))).zRK (b':=w.heap.size) (o':=k*2+1) (.int .i64 (g k)) (Or.inr (by omega));have t2:=((aA.out j hj).2.zRK (b':=w.heap.size) (o':=k*2) (.int .i64 (f k)) (Or.inr (by omega))).zRK (b':=w.heap.size) (o':=k*2+1) (.int .i64 (g k)) (Or.inr (by omega));by_cases e2:j<k
     ·rw[if_pos (by omega),if_pos (by omega)];rw[if_pos e2]at t1 t2;exact⟨t1,t2⟩
     ·rw[if_neg (by omega),if_neg (by omega)];rw[if_neg e2]at t1 t2;exact⟨t1,t2⟩
   case measure=>simp[intOf];omega
  ·obtain rfl:k=n:=(by omega);go_wp2;go_ret;refine⟨⟨_,rfl,iA,_,k,rfl,Nat.le_refl _,fun _=>⟨0,rfl,fun i hi=>?_⟩⟩,hb,gA⟩;have:=bA.out i hi;rw[if_pos hi,if_pos hi]at this;exact this
theorem zMX(v0 v1 v2:Value)(lo hi:Nat)(s:zL)(w:World)(h1:qI w lo hi v0 v1 v2 s)(hn:s.kn<=1048576) :
  Calls Tryz.prog 147 #[.agg #[v0,v1,v2]] w fun e w'=>(∃kv kb,e = .returned (.agg #[.int .i64 s.zRU,kv,.string s.data])/\zj w' kb kv s.kn s.ks s.kb/\w.heap.size<=kb/\kb<w'.heap.size)/\Below w.heap.size w w':=by
 obtain⟨rfl,p1,rfl,m1⟩:=h1;have q1:=p1;obtain⟨_,a,c,rfl,_⟩:=p1;go_enter Tryz.func147,Tryz.ntmps147;go_wp2_with fail;have jA:=zC w (.cells #[.int .i64 s.zRU,.slice a s.kn c,.string s.data] 183);have iA:=zA jA (zC _ (.cells #[.int .i64 0,.slice none 0 0,.string ⟨#[]⟩] 127));have fA:=zA iA (zC _ (.cells #[.int .i64 s.zRU,.slice none 0 0,.string ⟨#[]⟩] 127));refine(zFB _ s.kn lo hi _ _ _ (q1.zRJ fA) hn).mono ?_;rintro e w1 ⟨⟨kv,rfl,bA⟩,aA,cA⟩;have HB:Hid (yT w1 w.heap.size (.int .i64 s.zRU) (.slice a s.kn c) (.string s.data)):=(((yT.zRL w _ _ _ _).zRJ (zC _ _)).zRJ (zC _ _)).zRJ aA;have HR:Hid (yT w1 (w.heap.size+1) (.int .i64 0) (.slice none 0 0) (.string ⟨#[]⟩)):=by
  have:=(((yT.zRL (w.alloc (.cells #[.int .i64 s.zRU,.slice a s.kn c,.string s.data] 183)) (.int .i64 0) (.slice none 0 0) (.string ⟨#[]⟩) 127).zRJ (zC _ _)).zRJ aA);rw[World.size_alloc]at this;exact this
 have HO:Hid (yT w1 (w.heap.size+1+1) (.int .i64 s.zRU) (.slice none 0 0) (.string ⟨#[]⟩)):=by
  have:=((yT.zRL ((w.alloc (.cells #[.int .i64 s.zRU,.slice a s.kn c,.string s.data] 183)).alloc (.cells #[.int .i64 0,.slice none 0 0,.string ⟨#[]⟩] 127)) (.int .i64 s.zRU) (.slice none 0 0) (.string ⟨#[]⟩) 127).zRJ aA);rw[World.size_alloc,World.size_alloc]at this;exact this
 have kA:=zA fA aA;have gA:Hid (zj w1 (w.heap.size+1+1+1) kv s.kn s.ks s.kb):=by
  have:=bA;rw[World.size_alloc,World.size_alloc,World.size_alloc]at this;exact this
 have eA:w.heap.size+1+1+1<w1.heap.size:=by
  rw[World.size_alloc,World.size_alloc,World.size_alloc]at cA;exact cA
 clear cA;obtain⟨_,ka,kc,rfl,_⟩:=bA;clear jA iA fA aA;obtain⟨⟨x0,x1⟩,⟨x2,x3⟩,⟨x4,x5⟩⟩:=HB.out;obtain⟨⟨y0,y1⟩,⟨y2,y3⟩,⟨y4,y5⟩⟩:=HR.out;obtain⟨⟨z0,z1⟩,⟨z2,z3⟩,⟨z4,z5⟩⟩:=HO.out;go_wp2;have dA:=((HR.out.zRK (b':=w.heap.size+1+1) (o':=1) (.slice ka s.kn kc) (by omega)).zRK (b':=w.heap.size+1+1) (o':=2) (.string s.data) (by omega)).put (.int .i64 s.zRU) (.slice ka s.kn kc) (.string s.data);refine bodyPost_ret (v:=.agg #[.int .i64 s.zRU,.slice ka s.kn kc,.string s.data]) (by simp[results,Tryz.results147,go_sem,dA.1.1,dA.2.1.1,dA.2.2.1]) rfl ⟨⟨_,w.heap.size+1+1+1,rfl,?_,by omega,by simpa using eA⟩,?_⟩
 ·exact((((gA.out.put _ (by omega)).put _ (by omega)).put _ (by omega)).put _ (by omega)).put _ (by omega)
 ·exact((((kA.setCell (by show _<=w.heap.size+1+1;omega) _).setCell (by show _<=w.heap.size+1+1;omega) _).setCell (by show _<=w.heap.size+1;omega) _).setCell (by show _<=w.heap.size+1;omega) _).setCell (by show _<=w.heap.size+1;omega) _
structure zM0 (wr:World) (bs n k:Nat) (f:Nat->zL) (kb:Nat->Nat) (kv:Nat->Value):Prop where
 slots:∀j,j<n->zAD wr bs (0+j*3) (kb j) (kv j) (if j<k then f j else zGt)
 zRW:yS kb k f
 zRY:∀j,j<k->0<(f j).kn->bs<kb j/\kb j<wr.heap.size
theorem zM0.zRJ{wr w':World}{bs n k:Nat}{f:Nat->zL}{kb:Nat->Nat}{kv:Nat->Value}(h:zM0 wr bs n k f kb kv)(t:Below wr.heap.size wr w'):zM0 w' bs n k f kb kv:=
 ⟨fun j hj=>(h.slots j hj).zRJ t,h.zRW,fun j hj h0=>by have:=h.zRY j hj h0;have:=t.size;omega⟩
theorem zM0.next{wr w1:World}{bs n k b:Nat}{f:Nat->zL}{kb:Nat->Nat}{kv:Nat->Value}{v:Value}(h:zM0 wr bs n k f kb kv)(hk:k<n)(cA:bs<wr.heap.size)(t:Below wr.heap.size wr w1)
  (hp:zj w1 b v (f k).kn (f k).ks (f k).kb) (hb:wr.heap.size<=b) (dA:b<w1.heap.size) (hs:(f k).data.size<=maxLen) :
  zM0 (((w1.setCell ⟨bs,0+k*3,none⟩ (.int .i64 (f k).zRU)).setCell ⟨bs,0+k*3+1,none⟩ v).setCell ⟨bs,0+k*3+2,none⟩ (.string (f k).data)) bs n (k+1) f (fun j=>if j=k then b else kb j) (fun j=>if j=k then v else kv j):=by
 have h':=h.zRJ t;refine⟨fun j hj=>?_,fun i j hi hj bA h1 h2=>?_,fun j hj h0=>?_⟩
 ·have aA:=h'.slots j hj;by_cases e:j=k
  ·subst e;simp only[if_true];rw[if_pos (by omega)];refine⟨?_,?_,?_,?_,hs,fun _=>by omega⟩
   ·exact((aA.zRU.set _).zRK _ (Or.inr (by omega))).zRK _ (Or.inr (by omega))
   ·exact((aA.kidsv.zRK _ (Or.inr (by omega))).set _).zRK _ (Or.inr (by omega))
   ·exact((aA.data.zRK _ (Or.inr (by omega))).zRK _ (Or.inr (by omega))).set _
   ·exact((hp.put _ (by omega)).put _ (by omega)).put _ (by omega)
  ·simp only[if_neg e];have es:(if j<k+1 then f j else zGt)=if j<k then f j else zGt:=by
    by_cases e2:j<k
    ·rw[if_pos e2,if_pos (by omega)]
    ·rw[if_neg e2,if_neg (by omega)]
   rw[es];refine⟨?_,?_,?_,?_,aA.zRZ,aA.zRW⟩
   ·exact((aA.zRU.zRK _ (Or.inr (by omega))).zRK _ (Or.inr (by omega))).zRK _ (Or.inr (by omega))
   ·exact((aA.kidsv.zRK _ (Or.inr (by omega))).zRK _ (Or.inr (by omega))).zRK _ (Or.inr (by omega))
   ·exact((aA.data.zRK _ (Or.inr (by omega))).zRK _ (Or.inr (by omega))).zRK _ (Or.inr (by omega))
   ·refine((aA.kids.zRR (zF.put _ _ _ _) ?_).zRR (zF.put _ _ _ _) ?_).zRR (zF.put _ _ _ _) ?_
    all_goals exact fun h0 hx=>aA.zRW h0 hx
 ·show(if i=k then b else kb i)≠(if j=k then b else kb j);by_cases e1:i=k
  ·by_cases e2:j=k
   ·omega
   ·rw[if_pos e1,if_neg e2];have:=h.zRY j (by omega) h2;omega
  ·by_cases e2:j=k
   ·rw[if_neg e1,if_pos e2];have:=h.zRY i (by omega) h1;omega
   ·rw[if_neg e1,if_neg e2];exact h.zRW i j (by omega) (by omega) bA h1 h2
 ·simp only[World.size_setCell];by_cases e:j=k
  ·rw[if_pos e];omega
  ·rw[if_neg e];have:=h'.zRY j (by omega) h0;omega
theorem zN2{w:World}{bs n j:Nat}(hj:j<n)(aA:bs=w.heap.size):zAD (w.alloc (.cells (zA2 #[.int .i64 0,.slice none 0 0,.string ⟨#[]⟩] n) 127)) bs (0+j*3) 0 (.slice none 0 0) zGt:=by
 subst aA;have c0:=qs w #[.int .i64 0,.slice none 0 0,.string ⟨#[]⟩] n j 0 127 hj (by simp);have c1:=qs w #[.int .i64 0,.slice none 0 0,.string ⟨#[]⟩] n j 1 127 hj (by simp);have c2:=qs w #[.int .i64 0,.slice none 0 0,.string ⟨#[]⟩] n j 2 127 hj (by simp);refine⟨?_,?_,?_,⟨Nat.zero_le _,none,0,rfl,Nat.le_refl _,fun h=>absurd h (Nat.lt_irrefl _)⟩,Nat.zero_le _,fun h=>absurd h (Nat.lt_irrefl _)⟩
 ·show zX _ _ _ (.int .i64 0);simpa using c0
 ·simpa using c1
 ·show zX _ _ _ (.string ⟨#[]⟩);simpa using c2
theorem zLn(v:Value)(n lo hi:Nat)(f:Nat->zL)(w:World)(h1:qA w lo hi v n f)(hn:n+ym f n<=1048576) :
  Calls Tryz.prog 87 #[v] w fun e w'=>(∃v' kb kv,e = .returned v'/\qX w' w.heap.size kb kv v' n f/\yS kb n f/\∀j,j<n->0<(f j).kn->w.heap.size<kb j/\kb j<w'.heap.size)/\Below w.heap.size w w'/\w.heap.size<w'.heap.size:=by
 obtain⟨m1,a,c,rfl,mc,g1⟩:=h1;have kA:=m1;unfold maxLen at m1;have G1:Hid (0<n->∃b off,a=some ⟨b,off,none⟩/\lo<=b/\b<hi/\∀i,i<n->∃v0 v1 v2,w.cell? ⟨b,off+i*3,none⟩=some v0/\w.cell? ⟨b,off+i*3+1,none⟩=some v1/\w.cell? ⟨b,off+i*3+2,none⟩=some v2/\qI w lo hi v0 v1 v2 (f i)):=g1;have Hn:Hid (n+ym f n<=1048576):=hn;clear g1;have rA:=zA9 31 127 (.agg #[.int .i64 0,.slice none 0 0,.string ⟨#[]⟩]) 3 48 (by kernel_rfl) zEk rfl n (by omega) (by omega);clear hn;go_enter Tryz.func87,Tryz.ntmps87;go_wp2
 go_loopw [4] (fun i wr=>∃(k:Nat) (kb:Nat->Nat) (kv:Nat->Value),k<=n/\i = .int .i64 k/\zM0 wr w.heap.size n k f kb kv/\Below w.heap.size w wr/\w.heap.size<wr.heap.size) (fun i _=>n - (intOf i).toNat)
 case atStart=>exact⟨0,fun _=>0,fun _=>.slice none 0 0,Nat.zero_le _,rfl,⟨fun j hj=>by rw[if_neg (by omega)];exact zN2 hj rfl,fun i j hi=>absurd hi (by omega),fun j hj=>absurd hj (by omega)⟩,zC _ _,by simp⟩
 case round=>
  obtain⟨k,kb,kv,hk,rfl,aA,hb,iA⟩:=hrel;by_cases dA:k<n
  ·have oA:(k:Int)<(n:Int):=(by omega);obtain⟨b,off,rfl,_,_,k1⟩:=G1.out (by omega);obtain⟨x0,x1,x2,c0,c1,c2,hs⟩:=k1 k dA;have mA:=(hb.cell (zD c0)).trans c0;have nA:=(hb.cell (zD c1)).trans c1;have pA:=(hb.cell (zD c2)).trans c2;have jA:=hs.zRJ hb;have Hs:Hid (qI wr lo hi x0 x1 x2 (f k)):=jA;clear k1 G1 c0 c1 c2 hs;obtain⟨rfl,⟨_,ka,kc,rfl,_⟩,rfl,bA⟩:=jA;go_wp2_with fail;refine(zMX _ _ _ lo hi (f k) _ Hs.out (by have h1:=Hn.out;have h2:=zFm f dA;unfold zAV at h2;omega)).mono ?_;rintro e w1 ⟨⟨nv,nb,rfl,hp,fA,eA⟩,cA⟩;have lA:=zA hb cA;have hz:=(aA.slots k dA).zRJ cA;obtain⟨e0,e1⟩:=hz.zRU;obtain⟨e2,e3⟩:=hz.kidsv;obtain⟨e4,e5⟩:=hz.data;clear mA nA pA hz;rw[Nat.zero_add]at e0 e1 e2 e3 e4 e5;have Hp:Hid (zj w1 nb nv (f k).kn (f k).ks (f k).kb):=hp;obtain⟨_,na,nc,rfl,_⟩:=hp;have gA:w.heap.size<w1.heap.size:=(by have:=cA.size;omega);go_wp2;go_roundw
   case rel=>
    refine⟨k+1,(fun j=>if j=k then nb else kb j),(fun j=>if j=k then .slice na (f k).kn nc else kv j),by omega,by go_num,?_,((lA.setCell (Nat.le_refl _) _).setCell (Nat.le_refl _) _).setCell (Nat.le_refl _) _,by simpa using gA⟩;have hx:=aA.next dA iA cA Hp.out fA eA bA;rw[Nat.zero_add]at hx;exact hx
   case measure=>simp[intOf];omega
  ·obtain rfl:k=n:=(by omega);go_wp2;go_ret;refine⟨⟨_,kb,kv,rfl,⟨kA,_,k,rfl,Nat.le_refl _,fun _=>⟨0,rfl,fun i hi=>?_⟩⟩,aA.zRW,aA.zRY⟩,hb,iA⟩;have:=aA.slots i hi;rw[if_pos hi]at this;exact this
theorem zMp(v0 v1:Value)(lo hi:Nat)(p:zJ)(w:World)(h1:zy w lo hi v0 v1 p)(hn:qD p<=1048576):Calls Tryz.prog 30 #[.agg #[v0,v1]] w (zHP p w):=by
 have q1:=h1;obtain⟨⟨_,a,c,rfl,_⟩,⟨_,a',c',rfl,_⟩⟩:=h1;unfold qD at hn;go_enter Tryz.func30,Tryz.ntmps30;go_wp2_with fail;have sA:=zC w (.cells #[.slice a p.n c,.slice a' p.hn c'] 25);have nA:=zA sA (zC _ (.cells #[.slice none 0 0,.slice none 0 0] 33));have jA:=zA nA (zC _ (.cells #[.slice none 0 0,.slice none 0 0] 33));refine(zLn _ p.n lo hi p.s _ (q1.1.zRJ jA) (by omega)).mono ?_;rintro e w1 ⟨⟨sv,kb,kv,rfl,bA,oA,mA⟩,fA,cB⟩;have HB:Hid (zc w1 w.heap.size (.slice a p.n c) (.slice a' p.hn c')):=(((zc.zRL w _ _ _).zRJ (zC _ _)).zRJ (zC _ _)).zRJ fA;have HR:Hid (zc w1 (w.heap.size+1) (.slice none 0 0) (.slice none 0 0)):=by
  have:=(((zc.zRL (w.alloc (.cells #[.slice a p.n c,.slice a' p.hn c'] 25)) (.slice none 0 0) (.slice none 0 0) 33).zRJ (zC _ _)).zRJ fA);rw[World.size_alloc]at this;exact this
 have HO:Hid (zc w1 (w.heap.size+1+1) (.slice none 0 0) (.slice none 0 0)):=by
  have:=((zc.zRL ((w.alloc (.cells #[.slice a p.n c,.slice a' p.hn c'] 25)).alloc (.cells #[.slice none 0 0,.slice none 0 0] 33)) (.slice none 0 0) (.slice none 0 0) 33).zRJ fA);rw[World.size_alloc,World.size_alloc]at this;exact this
 have rA:=zA jA fA;rw[World.size_alloc,World.size_alloc,World.size_alloc]at bA mA cB;have dA:Hid (qX w1 (w.heap.size+1+1+1) kb kv sv p.n p.s):=bA;have bB:Hid (yS kb p.n p.s):=oA;have iA:Hid (∀j,j<p.n->0<(p.s j).kn->w.heap.size+1+1+1<kb j/\kb j<w1.heap.size):=mA;obtain⟨_,sa,sc,rfl,_⟩:=bA;clear oA mA sA nA jA fA;obtain⟨⟨x0,x1⟩,⟨x2,x3⟩⟩:=HB.out;obtain⟨⟨z0,z1⟩,⟨z2,z3⟩⟩:=HO.out;go_wp2_with fail;have lA:=rA.setCell (p:=⟨w.heap.size+1+1,0,none⟩) (by show _<=w.heap.size+1+1;omega) (.slice sa p.n sc);refine(zJ8 _ p.hn lo hi p.h _ (q1.2.zRJ lA) (by omega)).mono ?_;rintro e w2 ⟨⟨hv,rfl,aA⟩,gA,kA⟩;rw[World.size_setCell]at aA kA;have vA:=zA lA gA;have pA:Hid (zc w2 (w.heap.size+1) (.slice none 0 0) (.slice none 0 0)):=(HR.out.zRK _ (by omega)).zRJ gA;have aB:Hid (zc w2 (w.heap.size+1+1) (.slice sa p.n sc) (.slice none 0 0)):=(show zc (w1.setCell ⟨w.heap.size+1+1,0,none⟩ (.slice sa p.n sc)) (w.heap.size+1+1) (.slice sa p.n sc) (.slice none 0 0)from⟨HO.out.1.set _,HO.out.2.zRK _ (Or.inr (by omega))⟩).zRJ gA;have eA:Hid (qX w2 (w.heap.size+1+1+1) kb kv (.slice sa p.n sc) p.n p.s):=
  (dA.out.zRR (zF.put _ _ _ _) (fun _ e=>by omega) (fun i hi h0 e=>by have:=iA.out i hi h0;omega)).zRJ gA
 have cA:Hid (qk w2 w1.heap.size hv p.hn p.h):=aA;obtain⟨_,ia,ic,rfl,_⟩:=aA;clear x0 x1 x2 x3 z0 z1 z2 z3 gA lA HB HR HO dA rA;obtain⟨⟨y0,y1⟩,⟨y2,y3⟩⟩:=pA.out;obtain⟨⟨z0,z1⟩,⟨z2,z3⟩⟩:=aB.out;go_wp2;have tA:=(pA.out.zRK (b':=w.heap.size+1+1) (o':=1) (.slice ia p.hn ic) (by omega)).put (.slice sa p.n sc) (.slice ia p.hn ic);refine bodyPost_ret (v:=.agg #[.slice sa p.n sc,.slice ia p.hn ic]) (by simp[results,Tryz.results30,go_sem,tA.1.1,tA.2.1]) rfl ⟨_,_,rfl,?_,?_⟩
 ·refine⟨w.heap.size+1+1+1,w1.heap.size,kb,kv,?_,bB.out,?_,?_,?_⟩
  ·have pl:=iA.out;refine((eA.out.zRR (zF.put _ _ _ _) ?_ ?_).zRR (zF.put _ _ _ _) ?_ ?_).zRR (zF.put _ _ _ _) ?_ ?_
   ·exact fun _ e=>by omega
   ·exact fun i hi h0 e=>by have:=pl i hi h0;omega
   ·exact fun _ e=>by omega
   ·exact fun i hi h0 e=>by have:=pl i hi h0;omega
   ·exact fun _ e=>by omega
   ·exact fun i hi h0 e=>by have:=pl i hi h0;omega
  ·exact((cA.out.put _ (by omega)).put _ (by omega)).put _ (by omega)
  ·rintro h0 (⟨_,e⟩ | ⟨i,hi,h1,e⟩)
   ·omega
   ·have:=iA.out i hi h1;omega
  ·simp only[World.size_setCell];rintro k ((⟨_,rfl⟩ | ⟨i,hi,h1,rfl⟩) | ⟨_,rfl⟩)
   ·omega
   ·have:=iA.out i hi h1;omega
   ·omega
 ·exact((vA.setCell (by show _<=w.heap.size+1+1;omega) _).setCell (by show _<=w.heap.size+1;omega) _).setCell (by show _<=w.heap.size+1;omega) _
open Go.Maps
theorem zi.off6{w:World}{b:Nat}{a0 a1 a2 a3 a4 a5:Value}(h:zi w b a0 a1 a2 a3 a4 a5){b':Nat}(o:Nat)(u:Value)(o':Nat)(u':Value)(aA:b'≠b):zi ((w.setCell ⟨b',o,none⟩ u).setCell ⟨b',o',none⟩ u') b a0 a1 a2 a3 a4 a5:=by
 obtain⟨h0,h1,h2,h3,h4,h5⟩:=h;have hc:∀{j:Nat} {v:Value},zX w b j v->zX ((w.setCell ⟨b',o,none⟩ u).setCell ⟨b',o',none⟩ u') b j v:=fun hc=>(hc.zRK _ (Or.inl aA)).zRK _ (Or.inl aA)
 exact⟨hc h0,hc h1,hc h2,hc h3,hc h4,hc h5⟩
theorem zi.mid6{w:World}{b:Nat}{a0 a1 a2 a3 a4 a5:Value}(h:zi w b a0 a1 a2 a3 a4 a5)(u u':Value):zi ((w.setCell ⟨b,3,none⟩ u).setCell ⟨b,4,none⟩ u') b a0 a1 a2 u u' a5:=by
 obtain⟨h0,h1,h2,h3,h4,h5⟩:=h;exact⟨(h0.zRK _ (Or.inr (by omega))).zRK _ (Or.inr (by omega)),(h1.zRK _ (Or.inr (by omega))).zRK _ (Or.inr (by omega)),(h2.zRK _ (Or.inr (by omega))).zRK _ (Or.inr (by omega)),(h3.set _).zRK _ (Or.inr (by omega)),(h4.zRK _ (Or.inr (by omega))).set _,(h5.zRK _ (Or.inr (by omega))).zRK _ (Or.inr (by omega))⟩
theorem zN9(v:Value)(lo hi:Nat)(s:qC)(w:World)(h1:zR w lo hi v s.dn s.ds s.db)(hn:s.dn<=1048576) :
  Calls Tryz.prog 89 #[zDF v s] w fun e w'=>(∃v' b,e = .returned (zDF v' s)/\zj w' b v' s.dn s.ds s.db/\w.heap.size<=b/\b<w'.heap.size)/\Below w.heap.size w w':=by
 unfold zDF;have H1:=zB h1;obtain⟨-,a,c,rfl,-⟩:=id h1;clear h1;have dB:∀Wa Wb Wc:World,Wa=w.alloc (.cells #[.string s.name,.int .i64 s.origin,.int .i64 s.zRT,.int .i64 s.rs,.int .i64 s.rb,.slice a s.dn c] 116)->Wb=Wa.alloc (.cells #[.string ⟨#[]⟩,.int .i64 0,.int .i64 0,.int .i64 0,.int .i64 0,.slice none 0 0] 67)->Wc=Wb.alloc (.cells #[.string s.name,.int .i64 s.origin,.int .i64 s.zRT,.int .i64 0,.int .i64 0,.slice none 0 0] 67)->zi Wc w.heap.size (.string s.name) (.int .i64 s.origin) (.int .i64 s.zRT) (.int .i64 s.rs) (.int .i64 s.rb) (.slice a s.dn c)/\zi Wc (w.heap.size+1) (.string ⟨#[]⟩) (.int .i64 0) (.int .i64 0) (.int .i64 0) (.int .i64 0) (.slice none 0 0)/\zi Wc (w.heap.size+1+1) (.string s.name) (.int .i64 s.origin) (.int .i64 s.zRT) (.int .i64 0) (.int .i64 0) (.slice none 0 0)/\Below w.heap.size w Wc/\Wc.heap.size=w.heap.size+3:=by
  rintro Wa Wb Wc ea eb ec;have ha:=zC w (.cells #[.string s.name,.int .i64 s.origin,.int .i64 s.zRT,.int .i64 s.rs,.int .i64 s.rb,.slice a s.dn c] 116);have h1:=zi.zRL w (.string s.name) (.int .i64 s.origin) (.int .i64 s.zRT) (.int .i64 s.rs) (.int .i64 s.rb) (.slice a s.dn c) 116;have z1:Wa.heap.size=w.heap.size+1:=(by rw[ea];exact World.size_alloc _ _);rw[<-ea]at ha h1;have hb:=zC Wa (.cells #[.string ⟨#[]⟩,.int .i64 0,.int .i64 0,.int .i64 0,.int .i64 0,.slice none 0 0] 67);have h2:=zi.zRL Wa (.string ⟨#[]⟩) (.int .i64 0) (.int .i64 0) (.int .i64 0) (.int .i64 0) (.slice none 0 0) 67;have z2:Wb.heap.size=w.heap.size+1+1:=(by rw[eb,World.size_alloc,z1]);rw[<-eb,z1]at h2;rw[<-eb]at hb;have hc:=zC Wb (.cells #[.string s.name,.int .i64 s.origin,.int .i64 s.zRT,.int .i64 0,.int .i64 0,.slice none 0 0] 67);have h3:=zi.zRL Wb (.string s.name) (.int .i64 s.origin) (.int .i64 s.zRT) (.int .i64 0) (.int .i64 0) (.slice none 0 0) 67;have z3:Wc.heap.size=w.heap.size+3:=(by rw[ec,World.size_alloc,z2]);rw[<-ec,z2]at h3;rw[<-ec]at hc;exact⟨(h1.zRJ hb).zRJ hc,h2.zRJ hc,h3,zA (zA ha hb) hc,z3⟩
 obtain⟨hx,hy,hz,gA,vA⟩:=dB _ _ _ rfl rfl rfl;have HX:=zB hx;have HY:=zB hy;have HZ:=zB hz;have HS:=zB vA;clear hx hy hz dB vA;go_enter Tryz.func89,Tryz.ntmps89;go_wp2_with fail;generalize ((w.alloc (.cells #[.string s.name,.int .i64 s.origin,.int .i64 s.zRT,.int .i64 s.rs,.int .i64 s.rb,.slice a s.dn c] 116)).alloc (.cells #[.string ⟨#[]⟩,.int .i64 0,.int .i64 0,.int .i64 0,.int .i64 0,.slice none 0 0] 67)).alloc (.cells #[.string s.name,.int .i64 s.origin,.int .i64 s.zRT,.int .i64 0,.int .i64 0,.slice none 0 0] 67)=W0 at HX HY HZ HS gA ⊢;refine(zGV s.rs s.rb W0).mono ?_;rintro e w1 ⟨rfl,aA⟩;have eA:=zB ((HX.out.zRJ aA).off6 3 (.int .i64 s.rs) 4 (.int .i64 s.rb) (show w.heap.size+1+1≠_ by omega));have fA:=zB ((HY.out.zRJ aA).off6 3 (.int .i64 s.rs) 4 (.int .i64 s.rb) (show w.heap.size+1+1≠_ by omega));have dA:=zB ((HZ.out.zRJ aA).mid6 (.int .i64 s.rs) (.int .i64 s.rb));have cA:Below w.heap.size w ((w1.setCell ⟨w.heap.size+1+1,3,none⟩ (.int .i64 s.rs)).setCell ⟨w.heap.size+1+1,4,none⟩ (.int .i64 s.rb)):=((zA gA aA).setCell (by show _<=w.heap.size+1+1;omega) _).setCell (by show _<=w.heap.size+1+1;omega) _;have kA:=zB (show w.heap.size+3<=((w1.setCell ⟨w.heap.size+1+1,3,none⟩ (.int .i64 s.rs)).setCell ⟨w.heap.size+1+1,4,none⟩ (.int .i64 s.rb)).heap.size by simp only[World.size_setCell];have:=aA.size;have:=HS.out;omega);obtain⟨⟨x0,lA⟩,⟨x1,oA⟩,⟨x2,cB⟩,⟨x3,iA⟩,⟨x4,bB⟩,⟨x5,pA⟩⟩:=HX.out.zRJ aA;obtain⟨⟨z0,aB⟩,⟨z1,mA⟩,⟨z2,jA⟩,⟨z3,nA⟩,⟨z4,sA⟩,⟨z5,tA⟩⟩:=HZ.out.zRJ aA;clear aA gA HX HY HZ HS;go_wp2_with fail;clear x0 x1 x2 x3 x4 x5 z0 z1 z2 z3 z4 z5 lA oA cB iA bB pA aB mA jA nA sA tA;generalize (w1.setCell ⟨w.heap.size+1+1,3,none⟩ (.int .i64 s.rs)).setCell ⟨w.heap.size+1+1,4,none⟩ (.int .i64 s.rb)=W1 at eA fA dA kA cA ⊢;refine(zFB _ s.dn lo hi _ _ W1 (H1.out.zRJ cA) hn).mono ?_;rintro e w2 ⟨⟨v',rfl,ho⟩,bA,iB⟩;obtain⟨-,av,cv,rfl,-,-⟩:=id ho;have HO:=zB ho;have gB:=zB (eA.out.zRJ bA);have rA:=zB (fA.out.zRJ bA);have eB:=zB (dA.out.zRJ bA);have fB:=zA cA bA;clear ho bA eA fA dA cA;obtain⟨⟨x0,lA⟩,⟨x1,oA⟩,⟨x2,cB⟩,⟨x3,iA⟩,⟨x4,bB⟩,⟨x5,pA⟩⟩:=gB.out;obtain⟨⟨y0,mB⟩,⟨y1,nB⟩,⟨y2,oB⟩,⟨y3,kB⟩,⟨y4,lB⟩,⟨y5,jB⟩⟩:=rA.out;obtain⟨⟨z0,aB⟩,⟨z1,mA⟩,⟨z2,jA⟩,⟨z3,nA⟩,⟨z4,sA⟩,⟨z5,tA⟩⟩:=eB.out;go_wp2;have HR:=(show zi (w2.setCell ⟨w.heap.size+1+1,5,none⟩ (.slice av s.dn cv)) (w.heap.size+1) _ _ _ _ _ _ from(by
  obtain⟨h0,h1,h2,h3,h4,h5⟩:=rA.out;have hc:∀{j:Nat} {v:Value},zX w2 (w.heap.size+1) j v->zX (w2.setCell ⟨w.heap.size+1+1,5,none⟩ (.slice av s.dn cv)) (w.heap.size+1) j v:=fun hc=>hc.zRK _ (Or.inl (by omega))
  exact⟨hc h0,hc h1,hc h2,hc h3,hc h4,hc h5⟩)).put (.string s.name) (.int .i64 s.origin) (.int .i64 s.zRT) (.int .i64 s.rs) (.int .i64 s.rb) (.slice av s.dn cv)
 have pB:=kA.out;refine bodyPost_ret (v:=.agg #[.string s.name,.int .i64 s.origin,.int .i64 s.zRT,.int .i64 s.rs,.int .i64 s.rb,.slice av s.dn cv]) (by simp[results,Tryz.results89,go_sem,HR.1.1,HR.2.1.1,HR.2.2.1.1,HR.2.2.2.1.1,HR.2.2.2.2.1.1,HR.2.2.2.2.2.1]) rfl ⟨⟨_,W1.heap.size,rfl,?_,by omega,by simpa using iB⟩,?_⟩
 ·exact((((((HO.out.put _ (by omega)).put _ (by omega)).put _ (by omega)).put _ (by omega)).put _ (by omega)).put _ (by omega)).put _ (by omega)
 ·exact((((((fB.setCell (by show _<=w.heap.size+1+1;omega) _).setCell (by show _<=w.heap.size+1;omega) _).setCell (by show _<=w.heap.size+1;omega) _).setCell (by show _<=w.heap.size+1;omega) _).setCell (by show _<=w.heap.size+1;omega) _).setCell (by show _<=w.heap.size+1;omega) _).setCell (by show _<=w.heap.size+1;omega) _
theorem zMU(v:Value)(lo hi:Nat)(s:zm)(w:World)(h1:zR w lo hi v s.dn s.ds s.db)(hn:s.dn<=1048576) :
  Calls Tryz.prog 90 #[yf v s] w fun e w'=>(∃v' b,e = .returned (yf v' s)/\zj w' b v' s.dn s.ds s.db/\w.heap.size<=b/\b<w'.heap.size)/\Below w.heap.size w w':=by
 unfold yf;have H1:=zB h1;obtain⟨-,a,c,rfl,-⟩:=id h1;clear h1;have iB:∀Wa Wb Wc:World,Wa=w.alloc (.cells #[.int .i64 s.id,.string s.name,.string s.set,.int .i64 s.zRT,.int .i64 s.time,.int .i64 s.rs,.int .i64 s.rb,.slice a s.dn c] 119)->Wb=Wa.alloc (.cells #[.int .i64 0,.string ⟨#[]⟩,.string ⟨#[]⟩,.int .i64 0,.int .i64 0,.int .i64 0,.int .i64 0,.slice none 0 0] 99)->Wc=Wb.alloc (.cells #[.int .i64 s.id,.string s.name,.string s.set,.int .i64 s.zRT,.int .i64 s.time,.int .i64 0,.int .i64 0,.slice none 0 0] 99)->zCq Wc w.heap.size (.int .i64 s.id) (.string s.name) (.string s.set) (.int .i64 s.zRT) (.int .i64 s.time) (.int .i64 s.rs) (.int .i64 s.rb) (.slice a s.dn c)/\zCq Wc (w.heap.size+1) (.int .i64 0) (.string ⟨#[]⟩) (.string ⟨#[]⟩) (.int .i64 0) (.int .i64 0) (.int .i64 0) (.int .i64 0) (.slice none 0 0)/\zCq Wc (w.heap.size+1+1) (.int .i64 s.id) (.string s.name) (.string s.set) (.int .i64 s.zRT) (.int .i64 s.time) (.int .i64 0) (.int .i64 0) (.slice none 0 0)/\Below w.heap.size w Wc/\Wc.heap.size=w.heap.size+3:=by
  rintro Wa Wb Wc ea eb ec;have ha:=zC w (.cells #[.int .i64 s.id,.string s.name,.string s.set,.int .i64 s.zRT,.int .i64 s.time,.int .i64 s.rs,.int .i64 s.rb,.slice a s.dn c] 119);have h1:=zCq.zRL w (.int .i64 s.id) (.string s.name) (.string s.set) (.int .i64 s.zRT) (.int .i64 s.time) (.int .i64 s.rs) (.int .i64 s.rb) (.slice a s.dn c) 119;have z1:Wa.heap.size=w.heap.size+1:=(by rw[ea];exact World.size_alloc _ _);rw[<-ea]at ha h1;have hb:=zC Wa (.cells #[.int .i64 0,.string ⟨#[]⟩,.string ⟨#[]⟩,.int .i64 0,.int .i64 0,.int .i64 0,.int .i64 0,.slice none 0 0] 99);have h2:=zCq.zRL Wa (.int .i64 0) (.string ⟨#[]⟩) (.string ⟨#[]⟩) (.int .i64 0) (.int .i64 0) (.int .i64 0) (.int .i64 0) (.slice none 0 0) 99;have z2:Wb.heap.size=w.heap.size+1+1:=(by rw[eb,World.size_alloc,z1]);rw[<-eb,z1]at h2;rw[<-eb]at hb;have hc:=zC Wb (.cells #[.int .i64 s.id,.string s.name,.string s.set,.int .i64 s.zRT,.int .i64 s.time,.int .i64 0,.int .i64 0,.slice none 0 0] 99);have h3:=zCq.zRL Wb (.int .i64 s.id) (.string s.name) (.string s.set) (.int .i64 s.zRT) (.int .i64 s.time) (.int .i64 0) (.int .i64 0) (.slice none 0 0) 99;have z3:Wc.heap.size=w.heap.size+3:=(by rw[ec,World.size_alloc,z2]);rw[<-ec,z2]at h3;rw[<-ec]at hc;exact⟨(h1.zRJ hb).zRJ hc,h2.zRJ hc,h3,zA (zA ha hb) hc,z3⟩
 obtain⟨hx,hy,hz,gA,dB⟩:=iB _ _ _ rfl rfl rfl;have HX:=zB hx;have HY:=zB hy;have HZ:=zB hz;have HS:=zB dB;clear hx hy hz iB dB;go_enter Tryz.func90,Tryz.ntmps90;go_wp2_with fail;generalize ((w.alloc (.cells #[.int .i64 s.id,.string s.name,.string s.set,.int .i64 s.zRT,.int .i64 s.time,.int .i64 s.rs,.int .i64 s.rb,.slice a s.dn c] 119)).alloc (.cells #[.int .i64 0,.string ⟨#[]⟩,.string ⟨#[]⟩,.int .i64 0,.int .i64 0,.int .i64 0,.int .i64 0,.slice none 0 0] 99)).alloc (.cells #[.int .i64 s.id,.string s.name,.string s.set,.int .i64 s.zRT,.int .i64 s.time,.int .i64 0,.int .i64 0,.slice none 0 0] 99)=W0 at HX HY HZ HS gA ⊢;refine(zGV s.rs s.rb W0).mono ?_;rintro e w1 ⟨rfl,aA⟩;have eA:=zB ((HX.out.zRJ aA).off8 5 (.int .i64 s.rs) 6 (.int .i64 s.rb) (show w.heap.size+1+1≠_ by omega));have fA:=zB ((HY.out.zRJ aA).off8 5 (.int .i64 s.rs) 6 (.int .i64 s.rb) (show w.heap.size+1+1≠_ by omega));have dA:=zB ((HZ.out.zRJ aA).mid8 (.int .i64 s.rs) (.int .i64 s.rb));have cA:Below w.heap.size w ((w1.setCell ⟨w.heap.size+1+1,5,none⟩ (.int .i64 s.rs)).setCell ⟨w.heap.size+1+1,6,none⟩ (.int .i64 s.rb)):=((zA gA aA).setCell (by show _<=w.heap.size+1+1;omega) _).setCell (by show _<=w.heap.size+1+1;omega) _;have lA:=zB (show w.heap.size+3<=((w1.setCell ⟨w.heap.size+1+1,5,none⟩ (.int .i64 s.rs)).setCell ⟨w.heap.size+1+1,6,none⟩ (.int .i64 s.rb)).heap.size by simp only[World.size_setCell];have:=aA.size;have:=HS.out;omega);obtain⟨⟨x0,mA⟩,⟨x1,pA⟩,⟨x2,gB⟩,⟨x3,iA⟩,⟨x4,fB⟩,⟨x5,sA⟩,⟨x6,bB⟩,⟨x7,rA⟩⟩:=HX.out.zRJ aA;obtain⟨⟨z0,eB⟩,⟨z1,nA⟩,⟨z2,kA⟩,⟨z3,oA⟩,⟨z4,aB⟩,⟨z5,cB⟩,⟨z6,jA⟩,⟨z7,tA⟩⟩:=HZ.out.zRJ aA;clear aA gA HX HY HZ HS;go_wp2_with fail;clear x0 x1 x2 x3 x4 x5 x6 x7 mA pA gB iA fB sA bB rA z0 z1 z2 z3 z4 z5 z6 z7 eB nA kA oA aB cB jA tA;generalize (w1.setCell ⟨w.heap.size+1+1,5,none⟩ (.int .i64 s.rs)).setCell ⟨w.heap.size+1+1,6,none⟩ (.int .i64 s.rb)=W1 at eA fA dA lA cA ⊢;refine(zFB _ s.dn lo hi _ _ W1 (H1.out.zRJ cA) hn).mono ?_;rintro e w2 ⟨⟨v',rfl,ho⟩,bA,mB⟩;obtain⟨-,av,cv,rfl,-,-⟩:=id ho;have HO:=zB ho;have lB:=zB (eA.out.zRJ bA);have vA:=zB (fA.out.zRJ bA);have jB:=zB (dA.out.zRJ bA);have kB:=zA cA bA;clear ho bA eA fA dA cA;obtain⟨⟨x0,mA⟩,⟨x1,pA⟩,⟨x2,gB⟩,⟨x3,iA⟩,⟨x4,fB⟩,⟨x5,sA⟩,⟨x6,bB⟩,⟨x7,rA⟩⟩:=lB.out;obtain⟨⟨y0,tB⟩,⟨y1,vB⟩,⟨y2,aC⟩,⟨y3,rB⟩,⟨y4,sB⟩,⟨y5,oB⟩,⟨y6,pB⟩,⟨y7,nB⟩⟩:=vA.out;obtain⟨⟨z0,eB⟩,⟨z1,nA⟩,⟨z2,kA⟩,⟨z3,oA⟩,⟨z4,aB⟩,⟨z5,cB⟩,⟨z6,jA⟩,⟨z7,tA⟩⟩:=jB.out;go_wp2;have HR:=(show zCq (w2.setCell ⟨w.heap.size+1+1,7,none⟩ (.slice av s.dn cv)) (w.heap.size+1) _ _ _ _ _ _ _ _ from(by
  obtain⟨h0,h1,h2,h3,h4,h5,h6,h7⟩:=vA.out;have hc:∀{j:Nat} {v:Value},zX w2 (w.heap.size+1) j v->zX (w2.setCell ⟨w.heap.size+1+1,7,none⟩ (.slice av s.dn cv)) (w.heap.size+1) j v:=fun hc=>hc.zRK _ (Or.inl (by omega))
  exact⟨hc h0,hc h1,hc h2,hc h3,hc h4,hc h5,hc h6,hc h7⟩)).put (.int .i64 s.id) (.string s.name) (.string s.set) (.int .i64 s.zRT) (.int .i64 s.time) (.int .i64 s.rs) (.int .i64 s.rb) (.slice av s.dn cv)
 have bC:=lA.out;refine bodyPost_ret (v:=.agg #[.int .i64 s.id,.string s.name,.string s.set,.int .i64 s.zRT,.int .i64 s.time,.int .i64 s.rs,.int .i64 s.rb,.slice av s.dn cv]) (by simp[results,Tryz.results90,go_sem,HR.1.1,HR.2.1.1,HR.2.2.1.1,HR.2.2.2.1.1,HR.2.2.2.2.1.1,HR.2.2.2.2.2.1.1,HR.2.2.2.2.2.2.1.1,HR.2.2.2.2.2.2.2.1]) rfl ⟨⟨_,W1.heap.size,rfl,?_,by omega,by simpa using mB⟩,?_⟩
 ·exact(((((((((HO.out.put _ (by omega)).put _ (by omega)).put _ (by omega)).put _ (by omega)).put _ (by omega)).put _ (by omega)).put _ (by omega)).put _ (by omega)).put _ (by omega))
 ·exact(((((((((kB.setCell (by show _<=w.heap.size+1+1;omega) _).setCell (by show _<=w.heap.size+1;omega) _).setCell (by show _<=w.heap.size+1;omega) _).setCell (by show _<=w.heap.size+1;omega) _).setCell (by show _<=w.heap.size+1;omega) _).setCell (by show _<=w.heap.size+1;omega) _).setCell (by show _<=w.heap.size+1;omega) _).setCell (by show _<=w.heap.size+1;omega) _).setCell (by show _<=w.heap.size+1;omega) _)
theorem zK9(f:Nat->qC):∀{n i:Nat},i<n->zEr (f i)<=zBJ f n
 | n+1,i,h=>by
  show zEr (f i)<=zBJ f n+zEr (f n);by_cases e:i=n
  ·subst e;omega
  ·have:=zK9 f (show i<n by omega);omega
theorem zJc(f:Nat->zm):∀{n i:Nat},i<n->zDr (f i)<=zAx f n
 | n+1,i,h=>by
  show zDr (f i)<=zAx f n+zDr (f n);by_cases e:i=n
  ·subst e;omega
  ·have:=zJc f (show i<n by omega);omega
theorem zJ2{W:zH}(h:yX W<=1048576):zDY W:=by
 unfold yX at h;refine⟨fun i hi=>?_,fun i hi=>?_⟩
 ·have:=zK9 W.zRS hi;unfold zEr at this;omega
 ·have:=zJc W.zRP hi;unfold zDr at this;omega
theorem zPS(W:zH)(k0:Int):zAq W k0<=k0+8*(yX W:Int):=by
 have h1:=zGc W.zRQ.s k0 W.zRQ.n;have h2:=zDd W k0;have h3:=zFU W.zRS (zA7 W.zRQ k0) W.sn;have h4:=zEA W.zRP (ze W.zRS (zA7 W.zRQ k0) W.sn) W.pn;have h7:yX W=W.zRQ.n+ym W.zRQ.s W.zRQ.n+W.zRQ.hn+(W.sn+zBJ W.zRS W.sn)+(W.pn+zAx W.zRP W.pn):=rfl;have h5:zA7 W.zRQ k0=qU W.zRQ.s k0 W.zRQ.n+W.zRQ.hn:=rfl;have h6:zAq W k0=zM W.zRP (ze W.zRS (zA7 W.zRQ k0) W.sn) W.pn:=rfl;generalize zA7 W.zRQ k0=e at *;generalize ze W.zRS e W.sn=s at *;omega
theorem zED{W:zH}{k0:Int}(h:yX W<=4000000)(h0:0<=k0)(h1:k0<=100000000):zAq W k0<=1000000000000/\0<=zAq W k0:=by
 have:=zPS W k0;have:=zDd W k0;omega
theorem zGB{W:zH}(h:yX W<=1048576):qD W.zRQ<=1048576/\W.sn<=1048576/\W.pn<=1048576/\zDY W:=by
 refine⟨?_,?_,?_,zJ2 h⟩
 all_goals
  unfold yX at h;omega
theorem zGq:∀(l:List (Int×Int)) (p:zJ),qD (zx p l)=qD p+l.length
 | [],_=>rfl
 | x :: l,p=>by
  have h:=zGq l (zAK p x.1);have e:qD (zAK p x.1)=qD p+1:=rfl;show qD (zx (zAK p x.1) l)=_;rw[h,e,List.length_cons];omega
theorem zIe(f:Nat->qC)(k c:Nat)(s:qC)(hs:zEr s<=zEr (f k)+c):∀n,zBJ (fun j=>if j=k then s else f j) n<=zBJ f n+(if k<n then c else 0)
 | 0=>Nat.zero_le _
 | n+1=>by
  have ih:=zIe f k c s hs n;show zBJ _ n+zEr (if n=k then s else f n)<=zBJ f n+zEr (f n)+(if k<n+1 then c else 0);by_cases e:n=k
  ·subst e;rw[if_neg (Nat.lt_irrefl n)]at ih;rw[if_pos rfl,if_pos (Nat.lt_succ_self n)];omega
  ·rw[if_neg e];by_cases h:k<n
   ·rw[if_pos h]at ih;rw[if_pos (Nat.lt_succ_of_lt h)];omega
   ·rw[if_neg h]at ih;rw[if_neg (by omega)];omega
theorem zMy(W:zH)(k:Nat)(y:zCB)(hy:zG2 y)(hp:qD y.zRQ<=qD W.zRQ+40):yX (zLx W k y)<=yX W+46:=by
 have hl:=zCL (zf y.old) (zh y.old) (zN W (W.zRS k).zRT).time y.old.length;have h3:=hy.2.1;have hY:(zEt W k y).length+(zPn W k y).length=y.old.length:=hl;have aA:(zBY W k y).dn=(W.zRS k).dn+(zPn W k y).length:=by
  show(zDm W k y).length=_;unfold zDm;rw[List.length_append,zAl]
 have h1:=zIe W.zRS k 3 (zBY W k y) (by
  show(zBY W k y).name.size+(zBY W k y).dn<=(W.zRS k).name.size+(W.zRS k).dn+3;rw[aA];show(W.zRS k).name.size+_<=_;omega) W.sn
 have h2:=zGq (zEt W k y) y.zRQ;have h5:(if k<W.sn then 3 else 0)<=3:=by split<;>omega
 have h7:yX (zLx W k y)=qD (zx y.zRQ (zEt W k y))+(W.sn+zBJ (fun j=>if j=k then zBY W k y else W.zRS j) W.sn)+(W.pn+zAx W.zRP W.pn):=rfl;have h8:yX W=qD W.zRQ+(W.sn+zBJ W.zRS W.sn)+(W.pn+zAx W.zRP W.pn):=rfl;omega
theorem zKC{W:zH}{k:Nat}{y:zCB}(hy:zG2 y)(hp:qD y.zRQ<=qD W.zRQ+40)(hN:yX W<=1048576):zAq (zBA W k y).world 1<=1000000000000/\0<=zAq (zBA W k y).world 1:=by
 unfold zBA;split
 ·have:=zMy W k y hy hp;exact zED (W:=zLx W k y) (by omega) (by decide) (by decide)
 ·exact zED (W:=noW) (by decide) (by decide) (by decide)
def zCN(W:zH)(name:ByteArray)(zRV:Int)(oo:zBz):Prop:=∃r o,zH1 W (∃i,i<1/\8000<((fun (_:Nat)=>name) i).size) (∃i,i<0/\¬yM ((fun _=>⟨#[]⟩) i)) 1 (fun i=>match i with  | _=>zAP W name) (fun i=>match i with  | _=>2) r/\(r=none->∃k,zFe W name k/\o=zBA W k (zAJ W.zRQ (W.zRS k).rs (W.zRS k).rb zRV W.time))/\oo=zMx r o
theorem zCN.uniq{W:zH}{name:ByteArray}{zRV:Int}{o o':zBz}(h:zCN W name zRV o)(h':zCN W name zRV o'):o=o':=by
 obtain⟨r,a,h1,h2,rfl⟩:=h;obtain⟨r',b,g1,g2,rfl⟩:=h';obtain rfl:=h1.uniq g1;cases r with
 | some i=>rfl
 | none=>
  obtain⟨k,hk,rfl⟩:=h2 rfl;obtain⟨k',aA,rfl⟩:=g2 rfl;obtain rfl:=hk.uniq aA;rfl
open Classical in
noncomputable def yq(W:zH)(name:ByteArray)(zRV:Int):zBz:=if h:∃o,zCN W name zRV o then h.choose else zBr 0
theorem zE8{W:zH}{name:ByteArray}{zRV:Int}{w w':World}{e:Ending}(h:zAi W name zRV w e w'):zBw (yq W name zRV) w e w':=by
 obtain⟨r,o,h1,h2,h3⟩:=h;have hi:zCN W name zRV (zMx r o):=⟨r,o,h1,h2,rfl⟩;have hx:∃o,zCN W name zRV o:=⟨_,hi⟩;have he:yq W name zRV=zMx r o:=by
  unfold yq;rw[dif_pos hx];exact hx.choose_spec.uniq hi
 rw[he];exact h3
theorem zGf{W:zH}{name:ByteArray}{zRV:Int}(hN:yX W<=1048576):zAq (yq W name zRV).world 1<=1000000000000/\0<=zAq (yq W name zRV).world 1:=by
 have hz:∀c,zAq (zBr c).world 1<=1000000000000/\0<=zAq (zBr c).world 1:=fun c=>zED (W:=noW) (by decide) (by decide) (by decide)
 unfold yq;split
 ·rename_i h
  obtain⟨r,o,h1,h2,h3⟩:=h.choose_spec;rw[h3];cases r with
  | some i=>exact hz _
  | none=>
   obtain⟨k,hk,rfl⟩:=h2 rfl;exact zKC (zGT _ _ _ _ _) (zIS _ _ _ _ _).1 hN
 ·exact hz _
theorem qk.row{w:World}{b n c:Nat}{a:Option Addr}{f:Nat->Int}(h:qk w b (.slice a n c) n f)(dA:n<c):w.ownsRow b 2 1 (.slice a n c) n (ic f n)/\a=some ⟨b,0,none⟩/\0<n:=by
 obtain⟨hm,a0,c0,hv,fA,hc,hr⟩:=h;simp only[Value.slice.injEq,true_and]at hv;obtain⟨rfl,rfl⟩:=hv;obtain⟨h0,rfl,gA,cA,bA,eA⟩:=hr dA;obtain⟨off,ha,aA⟩:=hc h0;simp only[Option.some.injEq,Addr.mk.injEq,true_and,and_true]at ha;subst ha;refine⟨⟨zBl _ _,.inr ⟨b,c,cA,rfl,Nat.le_refl _,bA,fA,gA,by simpa using eA,?_⟩⟩,rfl,h0⟩;apply List.ext_getElem?;intro j;by_cases hj:j<n
 ·have e:=(aA j hj).1;rw[Nat.zero_add,cell_of_row w b j cA _ (0,0) bA]at e;rw[List.getElem?_take,if_pos (by omega),zLE f n j hj];simpa using e
 ·rw[List.getElem?_eq_none (by simp;omega),List.getElem?_eq_none (by rw[zBl];omega)]
theorem qk.block{w:World}{b n:Nat}{v:Value}{f:Nat->Int}(h:qk w b v n f)(h0:0<n):v.ownBlock=some b:=by
 obtain⟨_,a,c,rfl,_,hc,_⟩:=h;obtain⟨off,rfl,_⟩:=hc h0;rfl
theorem zKt:Tryz.prog.underlying 23=some (.slice 2):=by kernel_rfl
theorem zOR{w:World}{b n B:Nat}{v:Value}{f:Nat->Int}{x:Int}(h:qk w b v n f)(hn:n<=1000)(bA:w.cell? ⟨B,0,none⟩=some (.int .i64 x))(ty:TypeId) :
  ∃base g aA w',(Builtin.append_ #[23,23] ty #[v,.slice (some ⟨B,0,none⟩) 1 1]).run Tryz.prog w = .ok (.slice (some ⟨g,0,none⟩) (n+1) aA) w'/\w'.ownsRow base 2 1 (.slice (some ⟨g,0,none⟩) (n+1) aA) (n+1) (ic f n ++ [.int .i64 x])/\zF (fun k=>0<n/\v.ownBlock=some k) w w'/\((0<n/\v.ownBlock=some g)\/w.heap.size<=g)/\g<w'.heap.size:=by
 obtain⟨i0,fA,iA⟩:=Option.map_eq_some_iff.1 zDQ;simp only[Prod.mk.injEq]at iA;obtain⟨hz,hs,eA⟩:=iA;obtain⟨a,c,rfl⟩:∃a c,v = .slice a n c:=by obtain⟨_,a,c,e,_⟩:=h;exact⟨a,c,e⟩
 by_cases kA:n<c
 ·obtain⟨dA,rfl,h0⟩:=h.row kA;obtain⟨g,aA,w',hr,h2,h3,h4,h5⟩:=run_append_lies (P:=Tryz.prog) w 23 ty b 2 i0 _ 1 8 zKt fA hz hs eA rfl (by decide) _ n (ic f n) dA ⟨B,0,none⟩ 1 1 [.int .i64 x] rfl (zFh bA) (zQI x) (by omega) (by unfold maxLen;omega) (by omega) (by have:=dA.lt b rfl;omega) w.heap.size rfl;refine⟨b,g,aA,w',hr,h2,?_,?_,h5⟩
  ·refine⟨h3.os,h3.tape,h3.output,h3.size,fun k hk nA=>h3.block k hk (fun e=>nA ⟨h0,e.symm⟩)⟩
  ·exact h4.imp (fun h=>⟨h0,h⟩) (fun h=>by omega)
 ·obtain⟨hm,a0,c0,hv,rA,cA,-⟩:=h;simp only[Value.slice.injEq,true_and]at hv;obtain⟨rfl,rfl⟩:=hv;obtain rfl:c=n:=(by omega);by_cases h0:0<c
  ·obtain⟨off,rfl,oA⟩:=cA h0;obtain⟨v',w',hr,h1,h2⟩:=run_append_arg_grows (P:=Tryz.prog) w 23 ty 2 i0 _ 1 8 zKt fA hz hs eA rfl (by decide) ⟨b,off,none⟩ c c (ic f c) (by rw[zBl]) (fun j u hj=>by
     have jA:j<c:=by
      have:=(List.getElem?_eq_some_iff.1 hj).1;rw[zBl]at this;omega
     have gA:=zLE f c j jA;rw[hj]at gA;injection gA with gA;subst gA;have e:(⟨b,off,none⟩:Addr).add j=⟨b,off+j,none⟩:=by
      unfold Addr.add;split
      ·simp_all
      ·simp
     rw[e];exact(oA j jA).1) ⟨B,0,none⟩ 1 1 [.int .i64 x] rfl (zFh bA) (by omega) (by unfold maxLen;omega) (by omega)
   obtain⟨g,aA,rfl,lA,pA,mA,-⟩:=qf h1 (by omega);exact⟨_,g,aA,w',hr,h1,⟨h2.os,h2.tape,h2.output,h2.size,fun k hk _=>h2.block k hk (by simp)⟩,Or.inr pA,mA⟩
  ·obtain rfl:c=0:=(by omega);obtain⟨g,aA,w',hr,h2,h3,h4,h5⟩:=run_append_lies (P:=Tryz.prog) w 23 ty w.heap.size 2 i0 _ 1 8 zKt fA hz hs eA rfl (by decide) (.slice none 0 0) 0 [] ⟨by simp,Or.inl ⟨rfl,rfl⟩⟩ ⟨B,0,none⟩ 1 1 [.int .i64 x] rfl (zFh bA) (zQI x) (by omega) (by unfold maxLen;omega) (by omega) (Nat.le_refl _) w.heap.size rfl;refine⟨_,g,aA,w',?_,h2,⟨h3.os,h3.tape,h3.output,h3.size,fun k hk _=>h3.block k hk (by simp[Value.ownBlock])⟩,Or.inr ?_,h5⟩
   ·rw[zDt 23 ty 2 i0 a ⟨B,0,none⟩ 1 1 zKt fA (by omega) (by rw[eA];omega)];exact hr
   ·rcases h4 with h4 | h4
    ·cases h4
    ·omega
structure zQ0 (p:Prop):Prop where
 out:p
theorem zJR{A B:Prop}(f:zQ0 A->B)(h:A):B:=f ⟨h⟩
theorem zIt{wa wb:World}{S:Nat->Prop}{X g cA base:Nat}{v0 v1:Value}{q:zJ}{x:Int}(ho:qZ wa S v0 v1 q)(t:zF (fun k=>0<q.hn/\v1.ownBlock=some k) wa wb)
  (aA:wb.ownsRow base 2 1 (.slice (some ⟨g,0,none⟩) (q.hn+1) cA) (q.hn+1) (ic q.h q.hn ++ [.int .i64 x])) (fA:(0<q.hn/\v1.ownBlock=some g)\/¬S g) (hX:¬S X) (jA:g≠X) (hm:q.hn+1<=maxLen) :
  qZ (wb.setCell ⟨X,1,none⟩ (.slice (some ⟨g,0,none⟩) (q.hn+1) cA)) (fun k=>S k\/k=g) v0 (.slice (some ⟨g,0,none⟩) (q.hn+1) cA) (zAK q x):=by
 obtain⟨bs,hb,kb,kv,h1,h2,h3,h4,h5⟩:=ho;have tX:=zF.put wb X 1 (.slice (some ⟨g,0,none⟩) (q.hn+1) cA);have dA:∀k,yp bs kb q.n q.s k->¬(0<q.hn/\v1.ownBlock=some k):=fun k hk hx=>by
  rw[h3.block hx.1]at hx;simp only[Option.some.injEq]at hx;exact h4 hx.1 (hx.2▸hk)
 have eA:∀k,yp bs kb q.n q.s k->¬k=X:=fun k hk e=>hX (e▸h5 k (Or.inl hk))
 have s1:=(h1.zRR t (fun h0=>dA _ (Or.inl ⟨h0,rfl⟩)) (fun i hi h=>dA _ (Or.inr ⟨i,hi,h,rfl⟩))).zRR tX (fun h0=>eA _ (Or.inl ⟨h0,rfl⟩)) (fun i hi h=>eA _ (Or.inr ⟨i,hi,h,rfl⟩));rw[<-zNK]at aA;have bA:=aA.kept (zB7 tX) (Or.inr (by simp[Value.ownBlock];exact jA));obtain⟨gb,iA,gA⟩:=zEw (f:=(zAK q x).h) hm bA (fun e=>absurd e (Nat.succ_ne_zero _));obtain rfl:g=gb:=by have:=gA (Nat.succ_pos _);simpa[Value.ownBlock]using this
 refine⟨bs,g,kb,kv,s1,h2,iA,fun _ hx=>?_,fun k hk=>?_⟩
 ·rcases fA with⟨h0,he⟩ | he
  ·exact dA g hx ⟨h0,he⟩
  ·exact he (h5 g (Or.inl hx))
 ·rcases hk with hk | ⟨_,rfl⟩
  ·exact Or.inl (h5 k (Or.inl hk))
  ·exact Or.inr rfl
theorem zLg(V lo hi:Nat)(P:Nat->Prop)(z0 z1 z2 z3 v:Value)(tm nx:Int)(p:zJ)(l:List (Int×Int))(w:World)(hV:zi w V z0 z1 (.int .i64 tm) (.int .i64 nx) z2 z3)(hP:qZ w P z0 z1 p)(oA:∀j,P j->j<V)(hv:zR w lo hi v l.length (zf l) (zh l))(vB:V<lo)(jC:hi<=w.heap.size)(hl:l.length<=200)(eC:p.hn<=400) :
  Calls Tryz.prog 54 #[.pointer (some ⟨V,0,none⟩),v] w fun e w'=>e = .returned (.int .i64 (l.length:Int))/\∃y1,zi w' V z0 y1 (.int .i64 tm) (.int .i64 nx) z2 z3/\qZ w' (fun j=>P j\/(w.heap.size<=j/\j<w'.heap.size)) z0 y1 (zx p l)/\zF (fun j=>j=V\/P j\/w.heap.size<=j) w w':=by
 have dC:=hV.1.lt;obtain⟨-,a,c,rfl,-,hx⟩:=hv;have HX:=zB hx;have HV:=zB hV;have HP:=zB hP;clear hV hP hx;go_enter Tryz.func54,Tryz.ntmps54;go_wp2_with fail
 go_loopw [5] (fun i wr=>∃(k:Nat) (y1:Value),k<=l.length/\i = .int .i64 k/\zi wr V z0 y1 (.int .i64 tm) (.int .i64 nx) z2 z3/\qZ wr (fun j=>P j\/(w.heap.size<=j/\j<wr.heap.size)) z0 y1 (zx p (l.take k))/\zF (fun j=>j=V\/P j\/w.heap.size<=j) w wr) (fun i _=>l.length - (intOf i).toNat)
 case atStart=>exact⟨0,_,Nat.zero_le _,rfl,HV.out,HP.out.mono (fun j h=>Or.inl h),zF.refl _ _⟩
 case round=>
  obtain⟨k,y1,hk,rfl,dB,eB,sA⟩:=hrel;have bB:=zB dB;have mA:=zB eB;have cB:=zB sA;have gC:=sA.size;clear dB eB sA;by_cases tA:k<l.length
  ·have sB:(k:Int)<(l.length:Int):=(by omega);obtain⟨b,off,rfl,fC,cC,aA⟩:=HX.out (by omega);have q0:=(cB.out.cell (o:=off+k*2) (show b<w.heap.size by omega) (fun h=>by
    rcases h with h | h | h
    ·omega
    ·have:=oA b h;omega
    ·omega)).trans (aA k tA).1
   have lB:(zx p (l.take k)).hn<=1000:=by
    rw[(zJD (l.take k) p).2.2,List.length_take];omega
   obtain⟨bs,iB,kb,kv,i1,i2,i3,i4,i5⟩:=id mA.out;obtain⟨a1,c1,rfl⟩:∃a1 c1,y1 = .slice a1 (zx p (l.take k)).hn c1:=(by obtain⟨_,a1,c1,e,_⟩:=i3;exact⟨a1,c1,e⟩);have pA:Below wr.heap.size wr wr.drew:=(Below.refl _ _).drew;have jA:=zC wr.drew (.cells #[.int .i64 (zf l k)] 2);have dA:Below wr.heap.size wr (wr.drew.alloc (.cells #[.int .i64 (zf l k)] 2)):=zA pA jA;obtain⟨base,g,gA,w5,fB,bA,fA,kA,jB⟩:=zOR (B:=wr.drew.heap.size) (x:=zf l k) (i3.zRJ dA) lB (World.cell?_alloc_at _ _ _ _ rfl) 23;have oB:(wr.drew.alloc (.cells #[.int .i64 (zf l k)] 2)).heap.size>=wr.heap.size+1:=(by rw[World.size_alloc];exact Nat.le_refl _);have iC:wr.heap.size+1<=w5.heap.size:=(by have:=fA.size;omega);have lA:∀j,0<(zx p (l.take k)).hn/\(Value.slice a1 (zx p (l.take k)).hn c1).ownBlock=some j->P j\/(w.heap.size<=j/\j<wr.heap.size):=fun j h=>by
    have e:=i3.block h.1;rw[h.2]at e;injection e with e;rw[e];exact i5 iB (Or.inr ⟨h.1,rfl⟩)
   have nA:∀j,0<(zx p (l.take k)).hn/\(Value.slice a1 (zx p (l.take k)).hn c1).ownBlock=some j->j≠V/\j≠b:=fun j h=>by
    rcases lA j h with h' | h'
    ·have:=oA j h';exact⟨by omega,by omega⟩
    ·exact⟨by omega,by omega⟩
   have mB:g≠V:=by
    rcases kA with h | h
    ·exact(nA g h).1
    ·omega
   have rA:=(bB.out.zRJ dA).zRR fA (fun h=>(nA V h).1 rfl);have eA:=zB (show ∀w',Below wr.drew.heap.size wr.drew w'->(fun w':World=>w'.cell? ⟨b,off+k*2,none⟩=some (.int .i64 (zf l k))) w' from fun w' hb=>(hb.cell (p:=⟨b,off+k*2,none⟩) (show b<wr.heap.size by omega)).trans q0);have vA:=zB (show(fun w':World=>w'.cell? ⟨b,off+k*2,none⟩=some (.int .i64 (zf l k))) w5 from(fA.cell (o:=off+k*2) (show b<_ by omega) (fun h=>(nA b h).2 rfl)).trans ((dA.cell (p:=⟨b,off+k*2,none⟩) (show b<wr.heap.size by omega)).trans q0));have aB:=zF.put w5 V 1 (.slice (some ⟨g,0,none⟩) ((zx p (l.take k)).hn+1) gA);have gB:=zB (show(fun w':World=>w'.cell? ⟨b,off+k*2,none⟩=some (.int .i64 (zf l k))) (w5.setCell ⟨V,1,none⟩ (.slice (some ⟨g,0,none⟩) ((zx p (l.take k)).hn+1) gA))from(aB.cell (o:=off+k*2) (show b<w5.heap.size by omega) (fun h=>by omega)).trans vA.out);have kB:=zB (zIt (X:=V) (mA.out.zRJ dA) fA bA (kA.imp id (fun h hx=>by
    rcases hx with hx | hx
    ·have:=oA g hx;omega
    ·omega)) (fun hx=>by
    rcases hx with hx | hx
    ·have:=oA V hx;omega
    ·omega) mB (by unfold maxLen;omega))
   have nB:=zB (show zF (fun j=>j=V\/P j\/w.heap.size<=j) w (w5.setCell ⟨V,1,none⟩ (.slice (some ⟨g,0,none⟩) ((zx p (l.take k)).hn+1) gA))from(cB.out.trans ((zF.zRM dA).trans (fA.mono (fun j h=>by
    rcases lA j h with h' | h'
    ·exact Or.inr (Or.inl h')
    ·exact Or.inr (Or.inr h'.1))))).trans (aB.mono (fun j e=>Or.inl e)))
   have HR:=zB fB;have iA:=zB jA;have HG:=zB (show(0<(zx p (l.take k)).hn/\(Value.slice a1 (zx p (l.take k)).hn c1).ownBlock=some g)\/wr.heap.size<=g from kA.imp id (fun h=>by omega));have tB:=zB lA;obtain⟨x4,-⟩:=(bB.out.zRJ pA).2.1;have X5:=zB ((jA.cell (zD x4)).trans x4);obtain⟨y4,aC⟩:=rA.2.1;have cA:=zB rA;clear fB bA fA kA rA jA dA aA i1 i2 i3 i4 i5 lA nA oB q0;go_wp2_with fail;refine wp_region_held_drew (S:=(fun w':World=>w'.cell? ⟨b,off+k*2,none⟩=some (.int .i64 (zf l k)))) (by kernel_rfl) (eA.out _ (Below.refl _ _)) (fun hHeld=>?_);generalize wr.drew=q0 at hHeld eA HR iA x4 X5 pA ⊢
   refine' zJR (fun hfin=>_) _
   rotate_left
   ·skip;refine tk 0 (h:=tk 1 (h:=tk 2 (h:=tk 3 (h:=tk 4 (h:=tk 6 (h:=tk 7 (h:=tk 8 (h:=tk 9 (h:=tk 10 (h:=?_))))))))));refine rd [5,11] (rc (fun K hK=>?_) (rc (fun K hK=>?_) .nil))
    ·go_simp
     (try go_wp2_with fail)
     refine hK.out _ _ (eA.out _ (Below.refl _ _)) ?_;clear hK K;intro hHeld
     try simp only[Act.put,s1,s2,s3]
     refine rd [11] (rc (fun K hK=>?_) .nil);go_simp
     (try go_wp2_with fail)
     refine hK.out _ _ (eA.out _ iA.out) ?_;clear hK K;intro hHeld
     try simp only[Act.put,s1,s2,s3]
     refine rd [12] (rc (fun K hK=>?_) .nil);refine yv rfl (.tmp 17) (.tmp 23) 23 rfl _ _ _ rfl rfl HR.out ?_
     (try go_wp2_with fail)
     refine hK.out _ _ (vA.out) ?_;clear hK K;intro hHeld
     try simp only[Act.put,s1,s2,s3]
     refine tk 13 (h:=tk 14 (h:=tk 15 (h:=?_)));refine rd [16] (rc (fun K hK=>?_) .nil);go_simp
     (try go_wp2_with fail)
     refine hK.out _ _ (gB.out) ?_;clear hK K;intro hHeld
     try simp only[Act.put,s1,s2,s3]
     refine wpAnyH_done (by kernel_rfl) ?_ _;exact hfin.out
    ·go_simp
     (try go_wp2_with fail)
     refine hK.out _ _ (eA.out _ iA.out) ?_;clear hK K;intro hHeld
     try simp only[Act.put,s1,s2,s3]
     refine rd [5] (rc (fun K hK=>?_) .nil);have pB:=X5.out;go_simp
     (try go_wp2_with fail)
     refine hK.out _ _ (eA.out _ iA.out) ?_;clear hK K;intro hHeld
     try simp only[Act.put,s1,s2,s3]
     clear pB;refine rd [12] (rc (fun K hK=>?_) .nil);refine yv rfl (.tmp 17) (.tmp 23) 23 rfl _ _ _ rfl rfl HR.out ?_
     (try go_wp2_with fail)
     refine hK.out _ _ (vA.out) ?_;clear hK K;intro hHeld
     try simp only[Act.put,s1,s2,s3]
     refine tk 13 (h:=tk 14 (h:=tk 15 (h:=?_)));refine rd [16] (rc (fun K hK=>?_) .nil);go_simp
     (try go_wp2_with fail)
     refine hK.out _ _ (gB.out) ?_;clear hK K;intro hHeld
     try simp only[Act.put,s1,s2,s3]
     refine wpAnyH_done (by kernel_rfl) ?_ _;exact hfin.out
   go_wp2_with fail;go_roundw
   case rel=>
    have rB:zi (w5.setCell ⟨V,1,none⟩ (.slice (some ⟨g,0,none⟩) ((zx p (l.take k)).hn+1) gA)) V z0 (.slice (some ⟨g,0,none⟩) ((zx p (l.take k)).hn+1) gA) (.int .i64 tm) (.int .i64 nx) z2 z3:=⟨cA.out.1.zRK _ (Or.inr (by decide)),cA.out.2.1.set _,cA.out.2.2.1.zRK _ (Or.inr (by decide)),cA.out.2.2.2.1.zRK _ (Or.inr (by decide)),cA.out.2.2.2.2.1.zRK _ (Or.inr (by decide)),cA.out.2.2.2.2.2.zRK _ (Or.inr (by decide))⟩;have he:zx p (l.take (k+1))=zAK (zx p (l.take k)) (zf l k):=by
     rw[List.take_succ_eq_append_getElem tA,zDi];congr 1;unfold zf;rw[List.getD_eq_getElem?_getD,List.getElem?_eq_getElem tA];rfl
    refine⟨k+1,_,by omega,by go_num,rB,?_,nB.out⟩;rw[he];refine kB.out.mono (fun j hj=>?_);have bC:=aB.size;rcases hj with(h | h) | rfl
    ·exact Or.inl h
    ·exact Or.inr ⟨h.1,by omega⟩
    ·rcases HG.out with h | h
     ·rcases tB.out j h with h' | h'
      ·exact Or.inl h'
      ·exact Or.inr ⟨h'.1,by omega⟩
     ·exact Or.inr ⟨by omega,by omega⟩
   case measure=>simp[intOf];omega
  ·obtain rfl:k=l.length:=(by omega);go_wp2_with fail;rw[List.take_length]at mA;go_ret;exact⟨rfl,y1,bB.out,mA.out,cB.out⟩
end Go.Proofs.YtmgeglgboadfiaaGreatDoor
