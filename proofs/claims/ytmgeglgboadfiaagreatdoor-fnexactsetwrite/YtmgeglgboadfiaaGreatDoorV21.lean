/- What the laws' own functions of copying leave (toPtr, toPtrS, toSlot, toSlotS, toInt64S, toPool): new memory that holds the same. -/
import Derived.Test.YtmgeglgboadfiaaGreatDoorV20
import Derived.ArgAppend
set_option linter.unusedVariables false
set_option maxRecDepth 20000
set_option maxHeartbeats 4000000
namespace Go.Proofs.YtmgeglgboadfiaaGreatDoor
open Go.RowKit
theorem zKZ(v:Value)(n lo hi:Nat)(f:Nat->Int)(w:World)(h1:qV w lo hi v n f)(hn:n<=1048576) :
  Calls Tryz.prog 88 #[v] w fun e w'=>(∃v',e = .returned v'/\qf w' w.heap.size v' n f)/\Below w.heap.size w w'/\w.heap.size<w'.heap.size:=by
 obtain⟨m1,a,c,rfl,mc,g1⟩:=h1;have iA:=m1;unfold maxLen at m1;have G1:Hid (0<n->∃b off,a=some ⟨b,off,none⟩/\lo<=b/\b<hi/\∀i,i<n->w.cell? ⟨b,off+i,none⟩=some (.int .i64 (f i))):=g1;clear g1;have jA:=zA7 23 2 (.int .i64 0) 1 8 (by kernel_rfl) zDd rfl n hn (by omega);go_enter Tryz.func88,Tryz.ntmps88;go_wp2
 go_loopw [4] (fun i wr=>∃k:Nat,k<=n/\i = .int .i64 k/\(∀j,j<n->zW wr w.heap.size (0+j) (.int .i64 (if j<k then f j else 0)))/\Below w.heap.size w wr/\w.heap.size<wr.heap.size) (fun i _=>n - (intOf i).toNat)
 case atStart=>exact⟨0,Nat.zero_le _,rfl,fun j hj=>by have:=qk w #[.int .i64 0] n j 0 2 hj (by simp);simpa using this,zC _ _,by simp⟩
 case round=>
  obtain⟨k,hk,rfl,bA,hb,dA⟩:=hrel;have aA:Hid (∀j,j<n->zW wr w.heap.size (0+j) (.int .i64 (if j<k then f j else 0))):=bA;clear bA;by_cases cA:k<n
  ·have fA:(k:Int)<(n:Int):=(by omega);obtain⟨b,off,rfl,_,_,k1⟩:=G1.out (by omega);have kA:=(hb.cell (zD (k1 k cA))).trans (k1 k cA);obtain⟨gA,eA⟩:=aA.out k cA;rw[if_neg (Nat.lt_irrefl k),Nat.zero_add]at gA;rw[Nat.zero_add]at eA;go_wp2;go_roundw
   case rel=>
    refine⟨k+1,by omega,by go_num,fun j hj=>?_,hb.setCell (Nat.le_refl _) _,by simpa using dA⟩;by_cases e:j=k
    ·subst e;rw[if_pos (by omega)];simpa using (aA.out j hj).set (.int .i64 (f j))
    ·have:=(aA.out j hj).zRY (b':=w.heap.size) (o':=k) (.int .i64 (f k)) (Or.inr (by omega));by_cases e2:j<k
     ·rw[if_pos (by omega)];rw[if_pos e2]at this;exact this
     ·rw[if_neg (by omega)];rw[if_neg e2]at this;exact this
   case measure=>simp[intOf];omega
  ·obtain rfl:k=n:=(by omega);go_wp2;go_ret;refine⟨⟨_,rfl,iA,_,k,rfl,Nat.le_refl _,fun _=>⟨0,rfl,fun i hi=>?_⟩,fun h=>absurd h (Nat.lt_irrefl _)⟩,hb,dA⟩;have:=aA.out i hi;rw[if_pos hi]at this;exact this
theorem zGh(a b:Int)(w:World) :
  Calls Tryz.prog 148 #[.agg #[.int .i64 a,.int .i64 b]] w fun e w'=>e = .returned (.agg #[.int .i64 a,.int .i64 b])/\Below w.heap.size w w':=by
 go_enter Tryz.func148,Tryz.ntmps148;go_wp2;refine bodyPost_ret (v:=.agg #[.int .i64 a,.int .i64 b]) (by simp[results,Tryz.results148,go_sem]) rfl ⟨rfl,?_⟩;exact(((Below.refl _ _).alloc (Nat.le_refl _) _).alloc (by simp) _).alloc (by simp;omega) _
theorem zFf(v:Value)(n lo hi:Nat)(f g:Nat->Int)(w:World)(h1:zU w lo hi v n f g)(hn:n<=1048576) :
  Calls Tryz.prog 149 #[v] w fun e w'=>(∃v',e = .returned v'/\zm w' w.heap.size v' n f g)/\Below w.heap.size w w'/\w.heap.size<w'.heap.size:=by
 obtain⟨m1,a,c,rfl,mc,g1⟩:=h1;have lA:=m1;unfold maxLen at m1;have G1:Hid (0<n->∃b off,a=some ⟨b,off,none⟩/\lo<=b/\b<hi/\∀i,i<n->w.cell? ⟨b,off+i*2,none⟩=some (.int .i64 (f i))/\w.cell? ⟨b,off+i*2+1,none⟩=some (.int .i64 (g i))):=g1;clear g1;have sA:=zA7 62 61 (.agg #[.int .i64 0,.int .i64 0]) 2 16 (by kernel_rfl) zJ1 rfl n hn (by omega);go_enter Tryz.func149,Tryz.ntmps149;go_wp2
 go_loopw [4] (fun i wr=>∃k:Nat,k<=n/\i = .int .i64 k/\(∀j,j<n->zW wr w.heap.size (0+j*2) (.int .i64 (if j<k then f j else 0))/\zW wr w.heap.size (0+j*2+1) (.int .i64 (if j<k then g j else 0)))/\Below w.heap.size w wr/\w.heap.size<wr.heap.size) (fun i _=>n - (intOf i).toNat)
 case atStart=>
  refine⟨0,Nat.zero_le _,rfl,fun j hj=>⟨?_,?_⟩,zC _ _,by simp⟩
  ·have:=qk w #[.int .i64 0,.int .i64 0] n j 0 61 hj (by simp);simpa using this
  ·have:=qk w #[.int .i64 0,.int .i64 0] n j 1 61 hj (by simp);simpa using this
 case round=>
  obtain⟨k,hk,rfl,eA,hb,gA⟩:=hrel;have bA:Hid (∀j,j<n->zW wr w.heap.size (0+j*2) (.int .i64 (if j<k then f j else 0))/\zW wr w.heap.size (0+j*2+1) (.int .i64 (if j<k then g j else 0))):=eA;clear eA;by_cases cA:k<n
  ·have nA:(k:Int)<(n:Int):=(by omega);obtain⟨b,off,rfl,_,_,k1⟩:=G1.out (by omega);have mA:=(hb.cell (zD (k1 k cA).1)).trans (k1 k cA).1;have iA:=(hb.cell (zD (k1 k cA).2)).trans (k1 k cA).2;clear k1 G1;go_wp2_with fail;refine(zGh _ _ _).mono ?_;rintro e w1 ⟨rfl,dA⟩;have jA:=zA hb dA;have fA:w.heap.size<w1.heap.size:=Nat.lt_of_lt_of_le gA dA.size;have aA:Hid (∀j,j<n->zW w1 w.heap.size (0+j*2) (.int .i64 (if j<k then f j else 0))/\zW w1 w.heap.size (0+j*2+1) (.int .i64 (if j<k then g j else 0))):=fun j hj=>⟨(bA.out j hj).1.zRX dA,(bA.out j hj).2.zRX dA⟩
   clear bA dA mA iA;obtain⟨⟨pA,kA⟩,⟨rA,oA⟩⟩:=aA.out k cA;rw[if_neg (Nat.lt_irrefl k),Nat.zero_add]at pA rA;rw[Nat.zero_add]at kA oA;go_wp2;go_roundw
   case rel=>
    refine⟨k+1,by omega,by go_num,fun j hj=>?_,(jA.setCell (Nat.le_refl _) _).setCell (Nat.le_refl _) _,by simpa using fA⟩;by_cases e:j=k
    ·subst e;rw[if_pos (by omega),if_pos (by omega)];have t1:=((aA.out j hj).1.set (.int .i64 (f j))).zRY (b':=w.heap.size) (o':=0+j*2+1) (.int .i64 (g j)) (Or.inr (by omega));have t2:=((aA.out j hj).2.zRY (b':=w.heap.size) (o':=0+j*2) (.int .i64 (f j)) (Or.inr (by omega))).set (.int .i64 (g j));simp only[Nat.zero_add]at t1 t2 ⊢;exact⟨t1,t2⟩
    ·have t1:=((aA.out j hj).1.zRY (b':=w.heap.size) (o':=k*2) (.int .i64 (f k)) (Or.inr (by omega))).zRY (b':=w.heap.size) (o':=k*2+1) (.int .i64 (g k)) (Or.inr (by omega));have t2:=((aA.out j hj).2.zRY (b':=w.heap.size) (o':=k*2) (.int .i64 (f k)) (Or.inr (by omega))).zRY (b':=w.heap.size) (o':=k*2+1) (.int .i64 (g k)) (Or.inr (by omega));by_cases e2:j<k
     ·rw[if_pos (by omega),if_pos (by omega)];rw[if_pos e2]at t1 t2;exact⟨t1,t2⟩
     ·rw[if_neg (by omega),if_neg (by omega)];rw[if_neg e2]at t1 t2;exact⟨t1,t2⟩
   case measure=>simp[intOf];omega
  ·obtain rfl:k=n:=(by omega);go_wp2;go_ret;refine⟨⟨_,rfl,lA,_,k,rfl,Nat.le_refl _,fun _=>⟨0,rfl,fun i hi=>?_⟩⟩,hb,gA⟩;have:=bA.out i hi;rw[if_pos hi,if_pos hi]at this;exact this
theorem zMm(v0 v1 v2:Value)(lo hi:Nat)(s:zL)(w:World)(h1:qG w lo hi v0 v1 v2 s)(hn:s.kn<=1048576) :
  Calls Tryz.prog 147 #[.agg #[v0,v1,v2]] w fun e w'=>(∃kv kb,e = .returned (.agg #[.int .i64 s.zRi,kv,.string s.data])/\zm w' kb kv s.kn s.ks s.kb/\w.heap.size<=kb/\kb<w'.heap.size)/\Below w.heap.size w w':=by
 obtain⟨rfl,p1,rfl,m1⟩:=h1;have q1:=p1;obtain⟨_,a,c,rfl,_⟩:=p1;go_enter Tryz.func147,Tryz.ntmps147;go_wp2_with fail;have iA:=zC w (.cells #[.int .i64 s.zRi,.slice a s.kn c,.string s.data] 183);have jA:=zA iA (zC _ (.cells #[.int .i64 0,.slice none 0 0,.string ⟨#[]⟩] 127));have fA:=zA jA (zC _ (.cells #[.int .i64 s.zRi,.slice none 0 0,.string ⟨#[]⟩] 127));refine(zFf _ s.kn lo hi _ _ _ (q1.zRX fA) hn).mono ?_;rintro e w1 ⟨⟨kv,rfl,aA⟩,bA,gA⟩;have HB:Hid (yR w1 w.heap.size (.int .i64 s.zRi) (.slice a s.kn c) (.string s.data)):=(((yR.zRZ w _ _ _ _).zRX (zC _ _)).zRX (zC _ _)).zRX bA;have HR:Hid (yR w1 (w.heap.size+1) (.int .i64 0) (.slice none 0 0) (.string ⟨#[]⟩)):=by
  have:=(((yR.zRZ (w.alloc (.cells #[.int .i64 s.zRi,.slice a s.kn c,.string s.data] 183)) (.int .i64 0) (.slice none 0 0) (.string ⟨#[]⟩) 127).zRX (zC _ _)).zRX bA);rw[World.size_alloc]at this;exact this
 have HO:Hid (yR w1 (w.heap.size+1+1) (.int .i64 s.zRi) (.slice none 0 0) (.string ⟨#[]⟩)):=by
  have:=((yR.zRZ ((w.alloc (.cells #[.int .i64 s.zRi,.slice a s.kn c,.string s.data] 183)).alloc (.cells #[.int .i64 0,.slice none 0 0,.string ⟨#[]⟩] 127)) (.int .i64 s.zRi) (.slice none 0 0) (.string ⟨#[]⟩) 127).zRX bA);rw[World.size_alloc,World.size_alloc]at this;exact this
 have kA:=zA fA bA;have dA:Hid (zm w1 (w.heap.size+1+1+1) kv s.kn s.ks s.kb):=by
  have:=aA;rw[World.size_alloc,World.size_alloc,World.size_alloc]at this;exact this
 have cA:w.heap.size+1+1+1<w1.heap.size:=by
  rw[World.size_alloc,World.size_alloc,World.size_alloc]at gA;exact gA
 clear gA;obtain⟨_,ka,kc,rfl,_⟩:=aA;clear iA jA fA bA;obtain⟨⟨x0,x1⟩,⟨x2,x3⟩,⟨x4,x5⟩⟩:=HB.out;obtain⟨⟨y0,y1⟩,⟨y2,y3⟩,⟨y4,y5⟩⟩:=HR.out;obtain⟨⟨z0,z1⟩,⟨z2,z3⟩,⟨z4,z5⟩⟩:=HO.out;go_wp2;have eA:=((HR.out.zRY (b':=w.heap.size+1+1) (o':=1) (.slice ka s.kn kc) (by omega)).zRY (b':=w.heap.size+1+1) (o':=2) (.string s.data) (by omega)).put (.int .i64 s.zRi) (.slice ka s.kn kc) (.string s.data);refine bodyPost_ret (v:=.agg #[.int .i64 s.zRi,.slice ka s.kn kc,.string s.data]) (by simp[results,Tryz.results147,go_sem,eA.1.1,eA.2.1.1,eA.2.2.1]) rfl ⟨⟨_,w.heap.size+1+1+1,rfl,?_,by omega,by simpa using cA⟩,?_⟩
 ·exact((((dA.out.put _ (by omega)).put _ (by omega)).put _ (by omega)).put _ (by omega)).put _ (by omega)
 ·exact((((kA.setCell (by show _<=w.heap.size+1+1;omega) _).setCell (by show _<=w.heap.size+1+1;omega) _).setCell (by show _<=w.heap.size+1;omega) _).setCell (by show _<=w.heap.size+1;omega) _).setCell (by show _<=w.heap.size+1;omega) _
structure zMo (wr:World) (bs n k:Nat) (f:Nat->zL) (kb:Nat->Nat) (kv:Nat->Value):Prop where
 slots:∀j,j<n->zAF wr bs (0+j*3) (kb j) (kv j) (if j<k then f j else zG3)
 zRk:yP kb k f
 zRm:∀j,j<k->0<(f j).kn->bs<kb j/\kb j<wr.heap.size
theorem zMo.zRX{wr w':World}{bs n k:Nat}{f:Nat->zL}{kb:Nat->Nat}{kv:Nat->Value}(h:zMo wr bs n k f kb kv)(t:Below wr.heap.size wr w'):zMo w' bs n k f kb kv:=
 ⟨fun j hj=>(h.slots j hj).zRX t,h.zRk,fun j hj h0=>by have:=h.zRm j hj h0;have:=t.size;omega⟩
theorem zMo.next{wr w1:World}{bs n k b:Nat}{f:Nat->zL}{kb:Nat->Nat}{kv:Nat->Value}{v:Value}(h:zMo wr bs n k f kb kv)(hk:k<n)(cA:bs<wr.heap.size)(t:Below wr.heap.size wr w1)
  (hp:zm w1 b v (f k).kn (f k).ks (f k).kb) (hb:wr.heap.size<=b) (dA:b<w1.heap.size) (hs:(f k).data.size<=maxLen) :
  zMo (((w1.setCell ⟨bs,0+k*3,none⟩ (.int .i64 (f k).zRi)).setCell ⟨bs,0+k*3+1,none⟩ v).setCell ⟨bs,0+k*3+2,none⟩ (.string (f k).data)) bs n (k+1) f (fun j=>if j=k then b else kb j) (fun j=>if j=k then v else kv j):=by
 have h':=h.zRX t;refine⟨fun j hj=>?_,fun i j hi hj bA h1 h2=>?_,fun j hj h0=>?_⟩
 ·have aA:=h'.slots j hj;by_cases e:j=k
  ·subst e;simp only[if_true];rw[if_pos (by omega)];refine⟨?_,?_,?_,?_,hs,fun _=>by omega⟩
   ·exact((aA.zRi.set _).zRY _ (Or.inr (by omega))).zRY _ (Or.inr (by omega))
   ·exact((aA.kidsv.zRY _ (Or.inr (by omega))).set _).zRY _ (Or.inr (by omega))
   ·exact((aA.data.zRY _ (Or.inr (by omega))).zRY _ (Or.inr (by omega))).set _
   ·exact((hp.put _ (by omega)).put _ (by omega)).put _ (by omega)
  ·simp only[if_neg e];have es:(if j<k+1 then f j else zG3)=if j<k then f j else zG3:=by
    by_cases e2:j<k
    ·rw[if_pos e2,if_pos (by omega)]
    ·rw[if_neg e2,if_neg (by omega)]
   rw[es];refine⟨?_,?_,?_,?_,aA.zRn,aA.zRk⟩
   ·exact((aA.zRi.zRY _ (Or.inr (by omega))).zRY _ (Or.inr (by omega))).zRY _ (Or.inr (by omega))
   ·exact((aA.kidsv.zRY _ (Or.inr (by omega))).zRY _ (Or.inr (by omega))).zRY _ (Or.inr (by omega))
   ·exact((aA.data.zRY _ (Or.inr (by omega))).zRY _ (Or.inr (by omega))).zRY _ (Or.inr (by omega))
   ·refine((aA.kids.zRf (zF.put _ _ _ _) ?_).zRf (zF.put _ _ _ _) ?_).zRf (zF.put _ _ _ _) ?_
    all_goals exact fun h0 hx=>aA.zRk h0 hx
 ·show(if i=k then b else kb i)≠(if j=k then b else kb j);by_cases e1:i=k
  ·by_cases e2:j=k
   ·omega
   ·rw[if_pos e1,if_neg e2];have:=h.zRm j (by omega) h2;omega
  ·by_cases e2:j=k
   ·rw[if_neg e1,if_pos e2];have:=h.zRm i (by omega) h1;omega
   ·rw[if_neg e1,if_neg e2];exact h.zRk i j (by omega) (by omega) bA h1 h2
 ·simp only[World.size_setCell];by_cases e:j=k
  ·rw[if_pos e];omega
  ·rw[if_neg e];have:=h'.zRm j (by omega) h0;omega
theorem zNx{w:World}{bs n j:Nat}(hj:j<n)(aA:bs=w.heap.size):zAF (w.alloc (.cells (zA3 #[.int .i64 0,.slice none 0 0,.string ⟨#[]⟩] n) 127)) bs (0+j*3) 0 (.slice none 0 0) zG3:=by
 subst aA;have c0:=qk w #[.int .i64 0,.slice none 0 0,.string ⟨#[]⟩] n j 0 127 hj (by simp);have c1:=qk w #[.int .i64 0,.slice none 0 0,.string ⟨#[]⟩] n j 1 127 hj (by simp);have c2:=qk w #[.int .i64 0,.slice none 0 0,.string ⟨#[]⟩] n j 2 127 hj (by simp);refine⟨?_,?_,?_,⟨Nat.zero_le _,none,0,rfl,Nat.le_refl _,fun h=>absurd h (Nat.lt_irrefl _)⟩,Nat.zero_le _,fun h=>absurd h (Nat.lt_irrefl _)⟩
 ·show zW _ _ _ (.int .i64 0);simpa using c0
 ·simpa using c1
 ·show zW _ _ _ (.string ⟨#[]⟩);simpa using c2
theorem zLV(v:Value)(n lo hi:Nat)(f:Nat->zL)(w:World)(h1:qA w lo hi v n f)(hn:n+yn f n<=1048576) :
  Calls Tryz.prog 87 #[v] w fun e w'=>(∃v' kb kv,e = .returned v'/\qT w' w.heap.size kb kv v' n f/\yP kb n f/\∀j,j<n->0<(f j).kn->w.heap.size<kb j/\kb j<w'.heap.size)/\Below w.heap.size w w'/\w.heap.size<w'.heap.size:=by
 obtain⟨m1,a,c,rfl,mc,g1⟩:=h1;have pA:=m1;unfold maxLen at m1;have G1:Hid (0<n->∃b off,a=some ⟨b,off,none⟩/\lo<=b/\b<hi/\∀i,i<n->∃v0 v1 v2,w.cell? ⟨b,off+i*3,none⟩=some v0/\w.cell? ⟨b,off+i*3+1,none⟩=some v1/\w.cell? ⟨b,off+i*3+2,none⟩=some v2/\qG w lo hi v0 v1 v2 (f i)):=g1;have Hn:Hid (n+yn f n<=1048576):=hn;clear g1;have rA:=zA7 31 127 (.agg #[.int .i64 0,.slice none 0 0,.string ⟨#[]⟩]) 3 48 (by kernel_rfl) zEz rfl n (by omega) (by omega);clear hn;go_enter Tryz.func87,Tryz.ntmps87;go_wp2
 go_loopw [4] (fun i wr=>∃(k:Nat) (kb:Nat->Nat) (kv:Nat->Value),k<=n/\i = .int .i64 k/\zMo wr w.heap.size n k f kb kv/\Below w.heap.size w wr/\w.heap.size<wr.heap.size) (fun i _=>n - (intOf i).toNat)
 case atStart=>exact⟨0,fun _=>0,fun _=>.slice none 0 0,Nat.zero_le _,rfl,⟨fun j hj=>by rw[if_neg (by omega)];exact zNx hj rfl,fun i j hi=>absurd hi (by omega),fun j hj=>absurd hj (by omega)⟩,zC _ _,by simp⟩
 case round=>
  obtain⟨k,kb,kv,hk,rfl,aA,hb,iA⟩:=hrel;by_cases cA:k<n
  ·have oA:(k:Int)<(n:Int):=(by omega);obtain⟨b,off,rfl,_,_,k1⟩:=G1.out (by omega);obtain⟨x0,x1,x2,c0,c1,c2,hs⟩:=k1 k cA;have mA:=(hb.cell (zD c0)).trans c0;have kA:=(hb.cell (zD c1)).trans c1;have nA:=(hb.cell (zD c2)).trans c2;have jA:=hs.zRX hb;have Hs:Hid (qG wr lo hi x0 x1 x2 (f k)):=jA;clear k1 G1 c0 c1 c2 hs;obtain⟨rfl,⟨_,ka,kc,rfl,_⟩,rfl,bA⟩:=jA;go_wp2_with fail;refine(zMm _ _ _ lo hi (f k) _ Hs.out (by have h1:=Hn.out;have h2:=zFu f cA;unfold zAO at h2;omega)).mono ?_;rintro e w1 ⟨⟨nv,nb,rfl,hp,gA,eA⟩,dA⟩;have lA:=zA hb dA;have hz:=(aA.slots k cA).zRX dA;obtain⟨e0,e1⟩:=hz.zRi;obtain⟨e2,e3⟩:=hz.kidsv;obtain⟨e4,e5⟩:=hz.data;clear mA kA nA hz;rw[Nat.zero_add]at e0 e1 e2 e3 e4 e5;have Hp:Hid (zm w1 nb nv (f k).kn (f k).ks (f k).kb):=hp;obtain⟨_,na,nc,rfl,_⟩:=hp;have fA:w.heap.size<w1.heap.size:=(by have:=dA.size;omega);go_wp2;go_roundw
   case rel=>
    refine⟨k+1,(fun j=>if j=k then nb else kb j),(fun j=>if j=k then .slice na (f k).kn nc else kv j),by omega,by go_num,?_,((lA.setCell (Nat.le_refl _) _).setCell (Nat.le_refl _) _).setCell (Nat.le_refl _) _,by simpa using fA⟩;have hx:=aA.next cA iA dA Hp.out gA eA bA;rw[Nat.zero_add]at hx;exact hx
   case measure=>simp[intOf];omega
  ·obtain rfl:k=n:=(by omega);go_wp2;go_ret;refine⟨⟨_,kb,kv,rfl,⟨pA,_,k,rfl,Nat.le_refl _,fun _=>⟨0,rfl,fun i hi=>?_⟩⟩,aA.zRk,aA.zRm⟩,hb,iA⟩;have:=aA.slots i hi;rw[if_pos hi]at this;exact this
theorem zMp(v0 v1:Value)(lo hi:Nat)(p:zI)(w:World)(h1:zu w lo hi v0 v1 p)(hn:qC p<=1048576):Calls Tryz.prog 30 #[.agg #[v0,v1]] w (zHY p w):=by
 have q1:=h1;obtain⟨⟨_,a,c,rfl,_⟩,⟨_,a',c',rfl,_⟩⟩:=h1;unfold qC at hn;go_enter Tryz.func30,Tryz.ntmps30;go_wp2_with fail;have nA:=zC w (.cells #[.slice a p.n c,.slice a' p.hn c'] 25);have rA:=zA nA (zC _ (.cells #[.slice none 0 0,.slice none 0 0] 33));have kA:=zA rA (zC _ (.cells #[.slice none 0 0,.slice none 0 0] 33));refine(zLV _ p.n lo hi p.s _ (q1.1.zRX kA) (by omega)).mono ?_;rintro e w1 ⟨⟨sv,kb,kv,rfl,bA,tA,jA⟩,fA,bB⟩;have HB:Hid (zc w1 w.heap.size (.slice a p.n c) (.slice a' p.hn c')):=(((zc.zRZ w _ _ _).zRX (zC _ _)).zRX (zC _ _)).zRX fA;have HR:Hid (zc w1 (w.heap.size+1) (.slice none 0 0) (.slice none 0 0)):=by
  have:=(((zc.zRZ (w.alloc (.cells #[.slice a p.n c,.slice a' p.hn c'] 25)) (.slice none 0 0) (.slice none 0 0) 33).zRX (zC _ _)).zRX fA);rw[World.size_alloc]at this;exact this
 have HO:Hid (zc w1 (w.heap.size+1+1) (.slice none 0 0) (.slice none 0 0)):=by
  have:=((zc.zRZ ((w.alloc (.cells #[.slice a p.n c,.slice a' p.hn c'] 25)).alloc (.cells #[.slice none 0 0,.slice none 0 0] 33)) (.slice none 0 0) (.slice none 0 0) 33).zRX fA);rw[World.size_alloc,World.size_alloc]at this;exact this
 have sA:=zA kA fA;rw[World.size_alloc,World.size_alloc,World.size_alloc]at bA jA bB;have dA:Hid (qT w1 (w.heap.size+1+1+1) kb kv sv p.n p.s):=bA;have cB:Hid (yP kb p.n p.s):=tA;have iA:Hid (∀j,j<p.n->0<(p.s j).kn->w.heap.size+1+1+1<kb j/\kb j<w1.heap.size):=jA;obtain⟨_,sa,sc,rfl,_⟩:=bA;clear tA jA nA rA kA fA;obtain⟨⟨x0,x1⟩,⟨x2,x3⟩⟩:=HB.out;obtain⟨⟨z0,z1⟩,⟨z2,z3⟩⟩:=HO.out;go_wp2_with fail;have lA:=sA.setCell (p:=⟨w.heap.size+1+1,0,none⟩) (by show _<=w.heap.size+1+1;omega) (.slice sa p.n sc);refine(zKZ _ p.hn lo hi p.h _ (q1.2.zRX lA) (by omega)).mono ?_;rintro e w2 ⟨⟨hv,rfl,aA⟩,cA,mA⟩;rw[World.size_setCell]at aA mA;have aB:=zA lA cA;have oA:Hid (zc w2 (w.heap.size+1) (.slice none 0 0) (.slice none 0 0)):=(HR.out.zRY _ (by omega)).zRX cA;have vA:Hid (zc w2 (w.heap.size+1+1) (.slice sa p.n sc) (.slice none 0 0)):=(show zc (w1.setCell ⟨w.heap.size+1+1,0,none⟩ (.slice sa p.n sc)) (w.heap.size+1+1) (.slice sa p.n sc) (.slice none 0 0)from⟨HO.out.1.set _,HO.out.2.zRY _ (Or.inr (by omega))⟩).zRX cA;have eA:Hid (qT w2 (w.heap.size+1+1+1) kb kv (.slice sa p.n sc) p.n p.s):=
  (dA.out.zRf (zF.put _ _ _ _) (fun _ e=>by omega) (fun i hi h0 e=>by have:=iA.out i hi h0;omega)).zRX cA
 have gA:Hid (qf w2 w1.heap.size hv p.hn p.h):=aA;obtain⟨_,ia,ic,rfl,_⟩:=aA;clear x0 x1 x2 x3 z0 z1 z2 z3 cA lA HB HR HO dA sA;obtain⟨⟨y0,y1⟩,⟨y2,y3⟩⟩:=oA.out;obtain⟨⟨z0,z1⟩,⟨z2,z3⟩⟩:=vA.out;go_wp2;have pA:=(oA.out.zRY (b':=w.heap.size+1+1) (o':=1) (.slice ia p.hn ic) (by omega)).put (.slice sa p.n sc) (.slice ia p.hn ic);refine bodyPost_ret (v:=.agg #[.slice sa p.n sc,.slice ia p.hn ic]) (by simp[results,Tryz.results30,go_sem,pA.1.1,pA.2.1]) rfl ⟨_,_,rfl,?_,?_⟩
 ·refine⟨w.heap.size+1+1+1,w1.heap.size,kb,kv,?_,cB.out,?_,?_,?_⟩
  ·have pl:=iA.out;refine((eA.out.zRf (zF.put _ _ _ _) ?_ ?_).zRf (zF.put _ _ _ _) ?_ ?_).zRf (zF.put _ _ _ _) ?_ ?_
   ·exact fun _ e=>by omega
   ·exact fun i hi h0 e=>by have:=pl i hi h0;omega
   ·exact fun _ e=>by omega
   ·exact fun i hi h0 e=>by have:=pl i hi h0;omega
   ·exact fun _ e=>by omega
   ·exact fun i hi h0 e=>by have:=pl i hi h0;omega
  ·exact((gA.out.put _ (by omega)).put _ (by omega)).put _ (by omega)
  ·rintro h0 (⟨_,e⟩ | ⟨i,hi,h1,e⟩)
   ·omega
   ·have:=iA.out i hi h1;omega
  ·simp only[World.size_setCell];rintro k ((⟨_,rfl⟩ | ⟨i,hi,h1,rfl⟩) | ⟨_,rfl⟩)
   ·omega
   ·have:=iA.out i hi h1;omega
   ·omega
 ·exact((aB.setCell (by show _<=w.heap.size+1+1;omega) _).setCell (by show _<=w.heap.size+1;omega) _).setCell (by show _<=w.heap.size+1;omega) _
open Go.Maps
theorem zi.off6{w:World}{b:Nat}{a0 a1 a2 a3 a4 a5:Value}(h:zi w b a0 a1 a2 a3 a4 a5){b':Nat}(o:Nat)(u:Value)(o':Nat)(u':Value)(aA:b'≠b):zi ((w.setCell ⟨b',o,none⟩ u).setCell ⟨b',o',none⟩ u') b a0 a1 a2 a3 a4 a5:=by
 obtain⟨h0,h1,h2,h3,h4,h5⟩:=h;have hc:∀{j:Nat} {v:Value},zW w b j v->zW ((w.setCell ⟨b',o,none⟩ u).setCell ⟨b',o',none⟩ u') b j v:=fun hc=>(hc.zRY _ (Or.inl aA)).zRY _ (Or.inl aA)
 exact⟨hc h0,hc h1,hc h2,hc h3,hc h4,hc h5⟩
theorem zi.mid6{w:World}{b:Nat}{a0 a1 a2 a3 a4 a5:Value}(h:zi w b a0 a1 a2 a3 a4 a5)(u u':Value):zi ((w.setCell ⟨b,3,none⟩ u).setCell ⟨b,4,none⟩ u') b a0 a1 a2 u u' a5:=by
 obtain⟨h0,h1,h2,h3,h4,h5⟩:=h;exact⟨(h0.zRY _ (Or.inr (by omega))).zRY _ (Or.inr (by omega)),(h1.zRY _ (Or.inr (by omega))).zRY _ (Or.inr (by omega)),(h2.zRY _ (Or.inr (by omega))).zRY _ (Or.inr (by omega)),(h3.set _).zRY _ (Or.inr (by omega)),(h4.zRY _ (Or.inr (by omega))).set _,(h5.zRY _ (Or.inr (by omega))).zRY _ (Or.inr (by omega))⟩
theorem zOC(v:Value)(lo hi:Nat)(s:qD)(w:World)(h1:zU w lo hi v s.dn s.ds s.db)(hn:s.dn<=1048576) :
  Calls Tryz.prog 89 #[zDU v s] w fun e w'=>(∃v' b,e = .returned (zDU v' s)/\zm w' b v' s.dn s.ds s.db/\w.heap.size<=b/\b<w'.heap.size)/\Below w.heap.size w w':=by
 unfold zDU;have H1:=zB h1;obtain⟨-,a,c,rfl,-⟩:=id h1;clear h1;have dB:∀Wa Wb Wc:World,Wa=w.alloc (.cells #[.string s.name,.int .i64 s.origin,.int .i64 s.zRh,.int .i64 s.rs,.int .i64 s.rb,.slice a s.dn c] 116)->Wb=Wa.alloc (.cells #[.string ⟨#[]⟩,.int .i64 0,.int .i64 0,.int .i64 0,.int .i64 0,.slice none 0 0] 67)->Wc=Wb.alloc (.cells #[.string s.name,.int .i64 s.origin,.int .i64 s.zRh,.int .i64 0,.int .i64 0,.slice none 0 0] 67)->zi Wc w.heap.size (.string s.name) (.int .i64 s.origin) (.int .i64 s.zRh) (.int .i64 s.rs) (.int .i64 s.rb) (.slice a s.dn c)/\zi Wc (w.heap.size+1) (.string ⟨#[]⟩) (.int .i64 0) (.int .i64 0) (.int .i64 0) (.int .i64 0) (.slice none 0 0)/\zi Wc (w.heap.size+1+1) (.string s.name) (.int .i64 s.origin) (.int .i64 s.zRh) (.int .i64 0) (.int .i64 0) (.slice none 0 0)/\Below w.heap.size w Wc/\Wc.heap.size=w.heap.size+3:=by
  rintro Wa Wb Wc ea eb ec;have ha:=zC w (.cells #[.string s.name,.int .i64 s.origin,.int .i64 s.zRh,.int .i64 s.rs,.int .i64 s.rb,.slice a s.dn c] 116);have h1:=zi.zRZ w (.string s.name) (.int .i64 s.origin) (.int .i64 s.zRh) (.int .i64 s.rs) (.int .i64 s.rb) (.slice a s.dn c) 116;have z1:Wa.heap.size=w.heap.size+1:=(by rw[ea];exact World.size_alloc _ _);rw[<-ea]at ha h1;have hb:=zC Wa (.cells #[.string ⟨#[]⟩,.int .i64 0,.int .i64 0,.int .i64 0,.int .i64 0,.slice none 0 0] 67);have h2:=zi.zRZ Wa (.string ⟨#[]⟩) (.int .i64 0) (.int .i64 0) (.int .i64 0) (.int .i64 0) (.slice none 0 0) 67;have z2:Wb.heap.size=w.heap.size+1+1:=(by rw[eb,World.size_alloc,z1]);rw[<-eb,z1]at h2;rw[<-eb]at hb;have hc:=zC Wb (.cells #[.string s.name,.int .i64 s.origin,.int .i64 s.zRh,.int .i64 0,.int .i64 0,.slice none 0 0] 67);have h3:=zi.zRZ Wb (.string s.name) (.int .i64 s.origin) (.int .i64 s.zRh) (.int .i64 0) (.int .i64 0) (.slice none 0 0) 67;have z3:Wc.heap.size=w.heap.size+3:=(by rw[ec,World.size_alloc,z2]);rw[<-ec,z2]at h3;rw[<-ec]at hc;exact⟨(h1.zRX hb).zRX hc,h2.zRX hc,h3,zA (zA ha hb) hc,z3⟩
 obtain⟨hx,hy,hz,eA,oA⟩:=dB _ _ _ rfl rfl rfl;have HX:=zB hx;have HY:=zB hy;have HZ:=zB hz;have HS:=zB oA;clear hx hy hz dB oA;go_enter Tryz.func89,Tryz.ntmps89;go_wp2_with fail;generalize ((w.alloc (.cells #[.string s.name,.int .i64 s.origin,.int .i64 s.zRh,.int .i64 s.rs,.int .i64 s.rb,.slice a s.dn c] 116)).alloc (.cells #[.string ⟨#[]⟩,.int .i64 0,.int .i64 0,.int .i64 0,.int .i64 0,.slice none 0 0] 67)).alloc (.cells #[.string s.name,.int .i64 s.origin,.int .i64 s.zRh,.int .i64 0,.int .i64 0,.slice none 0 0] 67)=W0 at HX HY HZ HS eA ⊢;refine(zGh s.rs s.rb W0).mono ?_;rintro e w1 ⟨rfl,aA⟩;have gA:=zB ((HX.out.zRX aA).off6 3 (.int .i64 s.rs) 4 (.int .i64 s.rb) (show w.heap.size+1+1≠_ by omega));have fA:=zB ((HY.out.zRX aA).off6 3 (.int .i64 s.rs) 4 (.int .i64 s.rb) (show w.heap.size+1+1≠_ by omega));have dA:=zB ((HZ.out.zRX aA).mid6 (.int .i64 s.rs) (.int .i64 s.rb));have cA:Below w.heap.size w ((w1.setCell ⟨w.heap.size+1+1,3,none⟩ (.int .i64 s.rs)).setCell ⟨w.heap.size+1+1,4,none⟩ (.int .i64 s.rb)):=((zA eA aA).setCell (by show _<=w.heap.size+1+1;omega) _).setCell (by show _<=w.heap.size+1+1;omega) _;have bB:=zB (show w.heap.size+3<=((w1.setCell ⟨w.heap.size+1+1,3,none⟩ (.int .i64 s.rs)).setCell ⟨w.heap.size+1+1,4,none⟩ (.int .i64 s.rb)).heap.size by simp only[World.size_setCell];have:=aA.size;have:=HS.out;omega);obtain⟨⟨x0,vA⟩,⟨x1,jA⟩,⟨x2,cB⟩,⟨x3,lA⟩,⟨x4,tA⟩,⟨x5,kA⟩⟩:=HX.out.zRX aA;obtain⟨⟨z0,nA⟩,⟨z1,aB⟩,⟨z2,iA⟩,⟨z3,sA⟩,⟨z4,mA⟩,⟨z5,pA⟩⟩:=HZ.out.zRX aA;clear aA eA HX HY HZ HS;go_wp2_with fail;clear x0 x1 x2 x3 x4 x5 z0 z1 z2 z3 z4 z5 vA jA cB lA tA kA nA aB iA sA mA pA;generalize (w1.setCell ⟨w.heap.size+1+1,3,none⟩ (.int .i64 s.rs)).setCell ⟨w.heap.size+1+1,4,none⟩ (.int .i64 s.rb)=W1 at gA fA dA bB cA ⊢;refine(zFf _ s.dn lo hi _ _ W1 (H1.out.zRX cA) hn).mono ?_;rintro e w2 ⟨⟨v',rfl,ho⟩,bA,iB⟩;obtain⟨-,av,cv,rfl,-,-⟩:=id ho;have HO:=zB ho;have fB:=zB (gA.out.zRX bA);have rA:=zB (fA.out.zRX bA);have gB:=zB (dA.out.zRX bA);have eB:=zA cA bA;clear ho bA gA fA dA cA;obtain⟨⟨x0,vA⟩,⟨x1,jA⟩,⟨x2,cB⟩,⟨x3,lA⟩,⟨x4,tA⟩,⟨x5,kA⟩⟩:=fB.out;obtain⟨⟨y0,kB⟩,⟨y1,pB⟩,⟨y2,mB⟩,⟨y3,jB⟩,⟨y4,nB⟩,⟨y5,oB⟩⟩:=rA.out;obtain⟨⟨z0,nA⟩,⟨z1,aB⟩,⟨z2,iA⟩,⟨z3,sA⟩,⟨z4,mA⟩,⟨z5,pA⟩⟩:=gB.out;go_wp2;have HR:=(show zi (w2.setCell ⟨w.heap.size+1+1,5,none⟩ (.slice av s.dn cv)) (w.heap.size+1) _ _ _ _ _ _ from(by
  obtain⟨h0,h1,h2,h3,h4,h5⟩:=rA.out;have hc:∀{j:Nat} {v:Value},zW w2 (w.heap.size+1) j v->zW (w2.setCell ⟨w.heap.size+1+1,5,none⟩ (.slice av s.dn cv)) (w.heap.size+1) j v:=fun hc=>hc.zRY _ (Or.inl (by omega))
  exact⟨hc h0,hc h1,hc h2,hc h3,hc h4,hc h5⟩)).put (.string s.name) (.int .i64 s.origin) (.int .i64 s.zRh) (.int .i64 s.rs) (.int .i64 s.rb) (.slice av s.dn cv)
 have lB:=bB.out;refine bodyPost_ret (v:=.agg #[.string s.name,.int .i64 s.origin,.int .i64 s.zRh,.int .i64 s.rs,.int .i64 s.rb,.slice av s.dn cv]) (by simp[results,Tryz.results89,go_sem,HR.1.1,HR.2.1.1,HR.2.2.1.1,HR.2.2.2.1.1,HR.2.2.2.2.1.1,HR.2.2.2.2.2.1]) rfl ⟨⟨_,W1.heap.size,rfl,?_,by omega,by simpa using iB⟩,?_⟩
 ·exact((((((HO.out.put _ (by omega)).put _ (by omega)).put _ (by omega)).put _ (by omega)).put _ (by omega)).put _ (by omega)).put _ (by omega)
 ·exact((((((eB.setCell (by show _<=w.heap.size+1+1;omega) _).setCell (by show _<=w.heap.size+1;omega) _).setCell (by show _<=w.heap.size+1;omega) _).setCell (by show _<=w.heap.size+1;omega) _).setCell (by show _<=w.heap.size+1;omega) _).setCell (by show _<=w.heap.size+1;omega) _).setCell (by show _<=w.heap.size+1;omega) _
theorem zMd(v:Value)(lo hi:Nat)(s:zl)(w:World)(h1:zU w lo hi v s.dn s.ds s.db)(hn:s.dn<=1048576) :
  Calls Tryz.prog 90 #[yd v s] w fun e w'=>(∃v' b,e = .returned (yd v' s)/\zm w' b v' s.dn s.ds s.db/\w.heap.size<=b/\b<w'.heap.size)/\Below w.heap.size w w':=by
 unfold yd;have H1:=zB h1;obtain⟨-,a,c,rfl,-⟩:=id h1;clear h1;have iB:∀Wa Wb Wc:World,Wa=w.alloc (.cells #[.int .i64 s.id,.string s.name,.string s.set,.int .i64 s.zRh,.int .i64 s.time,.int .i64 s.rs,.int .i64 s.rb,.slice a s.dn c] 119)->Wb=Wa.alloc (.cells #[.int .i64 0,.string ⟨#[]⟩,.string ⟨#[]⟩,.int .i64 0,.int .i64 0,.int .i64 0,.int .i64 0,.slice none 0 0] 99)->Wc=Wb.alloc (.cells #[.int .i64 s.id,.string s.name,.string s.set,.int .i64 s.zRh,.int .i64 s.time,.int .i64 0,.int .i64 0,.slice none 0 0] 99)->zC3 Wc w.heap.size (.int .i64 s.id) (.string s.name) (.string s.set) (.int .i64 s.zRh) (.int .i64 s.time) (.int .i64 s.rs) (.int .i64 s.rb) (.slice a s.dn c)/\zC3 Wc (w.heap.size+1) (.int .i64 0) (.string ⟨#[]⟩) (.string ⟨#[]⟩) (.int .i64 0) (.int .i64 0) (.int .i64 0) (.int .i64 0) (.slice none 0 0)/\zC3 Wc (w.heap.size+1+1) (.int .i64 s.id) (.string s.name) (.string s.set) (.int .i64 s.zRh) (.int .i64 s.time) (.int .i64 0) (.int .i64 0) (.slice none 0 0)/\Below w.heap.size w Wc/\Wc.heap.size=w.heap.size+3:=by
  rintro Wa Wb Wc ea eb ec;have ha:=zC w (.cells #[.int .i64 s.id,.string s.name,.string s.set,.int .i64 s.zRh,.int .i64 s.time,.int .i64 s.rs,.int .i64 s.rb,.slice a s.dn c] 119);have h1:=zC3.zRZ w (.int .i64 s.id) (.string s.name) (.string s.set) (.int .i64 s.zRh) (.int .i64 s.time) (.int .i64 s.rs) (.int .i64 s.rb) (.slice a s.dn c) 119;have z1:Wa.heap.size=w.heap.size+1:=(by rw[ea];exact World.size_alloc _ _);rw[<-ea]at ha h1;have hb:=zC Wa (.cells #[.int .i64 0,.string ⟨#[]⟩,.string ⟨#[]⟩,.int .i64 0,.int .i64 0,.int .i64 0,.int .i64 0,.slice none 0 0] 99);have h2:=zC3.zRZ Wa (.int .i64 0) (.string ⟨#[]⟩) (.string ⟨#[]⟩) (.int .i64 0) (.int .i64 0) (.int .i64 0) (.int .i64 0) (.slice none 0 0) 99;have z2:Wb.heap.size=w.heap.size+1+1:=(by rw[eb,World.size_alloc,z1]);rw[<-eb,z1]at h2;rw[<-eb]at hb;have hc:=zC Wb (.cells #[.int .i64 s.id,.string s.name,.string s.set,.int .i64 s.zRh,.int .i64 s.time,.int .i64 0,.int .i64 0,.slice none 0 0] 99);have h3:=zC3.zRZ Wb (.int .i64 s.id) (.string s.name) (.string s.set) (.int .i64 s.zRh) (.int .i64 s.time) (.int .i64 0) (.int .i64 0) (.slice none 0 0) 99;have z3:Wc.heap.size=w.heap.size+3:=(by rw[ec,World.size_alloc,z2]);rw[<-ec,z2]at h3;rw[<-ec]at hc;exact⟨(h1.zRX hb).zRX hc,h2.zRX hc,h3,zA (zA ha hb) hc,z3⟩
 obtain⟨hx,hy,hz,eA,sA⟩:=iB _ _ _ rfl rfl rfl;have HX:=zB hx;have HY:=zB hy;have HZ:=zB hz;have HS:=zB sA;clear hx hy hz iB sA;go_enter Tryz.func90,Tryz.ntmps90;go_wp2_with fail;generalize ((w.alloc (.cells #[.int .i64 s.id,.string s.name,.string s.set,.int .i64 s.zRh,.int .i64 s.time,.int .i64 s.rs,.int .i64 s.rb,.slice a s.dn c] 119)).alloc (.cells #[.int .i64 0,.string ⟨#[]⟩,.string ⟨#[]⟩,.int .i64 0,.int .i64 0,.int .i64 0,.int .i64 0,.slice none 0 0] 99)).alloc (.cells #[.int .i64 s.id,.string s.name,.string s.set,.int .i64 s.zRh,.int .i64 s.time,.int .i64 0,.int .i64 0,.slice none 0 0] 99)=W0 at HX HY HZ HS eA ⊢;refine(zGh s.rs s.rb W0).mono ?_;rintro e w1 ⟨rfl,aA⟩;have gA:=zB ((HX.out.zRX aA).off8 5 (.int .i64 s.rs) 6 (.int .i64 s.rb) (show w.heap.size+1+1≠_ by omega));have fA:=zB ((HY.out.zRX aA).off8 5 (.int .i64 s.rs) 6 (.int .i64 s.rb) (show w.heap.size+1+1≠_ by omega));have dA:=zB ((HZ.out.zRX aA).mid8 (.int .i64 s.rs) (.int .i64 s.rb));have cA:Below w.heap.size w ((w1.setCell ⟨w.heap.size+1+1,5,none⟩ (.int .i64 s.rs)).setCell ⟨w.heap.size+1+1,6,none⟩ (.int .i64 s.rb)):=((zA eA aA).setCell (by show _<=w.heap.size+1+1;omega) _).setCell (by show _<=w.heap.size+1+1;omega) _;have eB:=zB (show w.heap.size+3<=((w1.setCell ⟨w.heap.size+1+1,5,none⟩ (.int .i64 s.rs)).setCell ⟨w.heap.size+1+1,6,none⟩ (.int .i64 s.rb)).heap.size by simp only[World.size_setCell];have:=aA.size;have:=HS.out;omega);obtain⟨⟨x0,cB⟩,⟨x1,jA⟩,⟨x2,fB⟩,⟨x3,nA⟩,⟨x4,bB⟩,⟨x5,kA⟩,⟨x6,gB⟩,⟨x7,pA⟩⟩:=HX.out.zRX aA;obtain⟨⟨z0,rA⟩,⟨z1,dB⟩,⟨z2,iA⟩,⟨z3,aB⟩,⟨z4,oA⟩,⟨z5,tA⟩,⟨z6,lA⟩,⟨z7,mA⟩⟩:=HZ.out.zRX aA;clear aA eA HX HY HZ HS;go_wp2_with fail;clear x0 x1 x2 x3 x4 x5 x6 x7 cB jA fB nA bB kA gB pA z0 z1 z2 z3 z4 z5 z6 z7 rA dB iA aB oA tA lA mA;generalize (w1.setCell ⟨w.heap.size+1+1,5,none⟩ (.int .i64 s.rs)).setCell ⟨w.heap.size+1+1,6,none⟩ (.int .i64 s.rb)=W1 at gA fA dA eB cA ⊢;refine(zFf _ s.dn lo hi _ _ W1 (H1.out.zRX cA) hn).mono ?_;rintro e w2 ⟨⟨v',rfl,ho⟩,bA,mB⟩;obtain⟨-,av,cv,rfl,-,-⟩:=id ho;have HO:=zB ho;have kB:=zB (gA.out.zRX bA);have vA:=zB (fA.out.zRX bA);have lB:=zB (dA.out.zRX bA);have jB:=zA cA bA;clear ho bA gA fA dA cA;obtain⟨⟨x0,cB⟩,⟨x1,jA⟩,⟨x2,fB⟩,⟨x3,nA⟩,⟨x4,bB⟩,⟨x5,kA⟩,⟨x6,gB⟩,⟨x7,pA⟩⟩:=kB.out;obtain⟨⟨y0,oB⟩,⟨y1,bC⟩,⟨y2,sB⟩,⟨y3,nB⟩,⟨y4,tB⟩,⟨y5,vB⟩,⟨y6,aC⟩,⟨y7,pB⟩⟩:=vA.out;obtain⟨⟨z0,rA⟩,⟨z1,dB⟩,⟨z2,iA⟩,⟨z3,aB⟩,⟨z4,oA⟩,⟨z5,tA⟩,⟨z6,lA⟩,⟨z7,mA⟩⟩:=lB.out;go_wp2;have HR:=(show zC3 (w2.setCell ⟨w.heap.size+1+1,7,none⟩ (.slice av s.dn cv)) (w.heap.size+1) _ _ _ _ _ _ _ _ from(by
  obtain⟨h0,h1,h2,h3,h4,h5,h6,h7⟩:=vA.out;have hc:∀{j:Nat} {v:Value},zW w2 (w.heap.size+1) j v->zW (w2.setCell ⟨w.heap.size+1+1,7,none⟩ (.slice av s.dn cv)) (w.heap.size+1) j v:=fun hc=>hc.zRY _ (Or.inl (by omega))
  exact⟨hc h0,hc h1,hc h2,hc h3,hc h4,hc h5,hc h6,hc h7⟩)).put (.int .i64 s.id) (.string s.name) (.string s.set) (.int .i64 s.zRh) (.int .i64 s.time) (.int .i64 s.rs) (.int .i64 s.rb) (.slice av s.dn cv)
 have rB:=eB.out;refine bodyPost_ret (v:=.agg #[.int .i64 s.id,.string s.name,.string s.set,.int .i64 s.zRh,.int .i64 s.time,.int .i64 s.rs,.int .i64 s.rb,.slice av s.dn cv]) (by simp[results,Tryz.results90,go_sem,HR.1.1,HR.2.1.1,HR.2.2.1.1,HR.2.2.2.1.1,HR.2.2.2.2.1.1,HR.2.2.2.2.2.1.1,HR.2.2.2.2.2.2.1.1,HR.2.2.2.2.2.2.2.1]) rfl ⟨⟨_,W1.heap.size,rfl,?_,by omega,by simpa using mB⟩,?_⟩
 ·exact(((((((((HO.out.put _ (by omega)).put _ (by omega)).put _ (by omega)).put _ (by omega)).put _ (by omega)).put _ (by omega)).put _ (by omega)).put _ (by omega)).put _ (by omega))
 ·exact(((((((((jB.setCell (by show _<=w.heap.size+1+1;omega) _).setCell (by show _<=w.heap.size+1;omega) _).setCell (by show _<=w.heap.size+1;omega) _).setCell (by show _<=w.heap.size+1;omega) _).setCell (by show _<=w.heap.size+1;omega) _).setCell (by show _<=w.heap.size+1;omega) _).setCell (by show _<=w.heap.size+1;omega) _).setCell (by show _<=w.heap.size+1;omega) _).setCell (by show _<=w.heap.size+1;omega) _)
theorem zLB(f:Nat->qD):∀{n i:Nat},i<n->zE2 (f i)<=zBL f n
 | n+1,i,h=>by
  show zE2 (f i)<=zBL f n+zE2 (f n);by_cases e:i=n
  ·subst e;omega
  ·have:=zLB f (show i<n by omega);omega
theorem zJY(f:Nat->zl):∀{n i:Nat},i<n->zD7 (f i)<=zA0 f n
 | n+1,i,h=>by
  show zD7 (f i)<=zA0 f n+zD7 (f n);by_cases e:i=n
  ·subst e;omega
  ·have:=zJY f (show i<n by omega);omega
theorem zKW{W:zH}(h:yU W<=1048576):zDs W:=by
 unfold yU at h;refine⟨fun i hi=>?_,fun i hi=>?_⟩
 ·have:=zLB W.zRg hi;unfold zE2 at this;omega
 ·have:=zJY W.zRe hi;unfold zD7 at this;omega
theorem zPd(W:zH)(k0:Int):zAs W k0<=k0+8*(yU W:Int):=by
 have h1:=zGg W.zRd.s k0 W.zRd.n;have h2:=zDg W k0;have h3:=zFR W.zRg (zA8 W.zRd k0) W.sn;have h4:=zEM W.zRe (ze W.zRg (zA8 W.zRd k0) W.sn) W.pn;have h7:yU W=W.zRd.n+yn W.zRd.s W.zRd.n+W.zRd.hn+(W.sn+zBL W.zRg W.sn)+(W.pn+zA0 W.zRe W.pn):=rfl;have h5:zA8 W.zRd k0=qR W.zRd.s k0 W.zRd.n+W.zRd.hn:=rfl;have h6:zAs W k0=zM W.zRe (ze W.zRg (zA8 W.zRd k0) W.sn) W.pn:=rfl;generalize zA8 W.zRd k0=e at *;generalize ze W.zRg e W.sn=s at *;omega
theorem zEg{W:zH}{k0:Int}(h:yU W<=4000000)(h0:0<=k0)(h1:k0<=100000000):zAs W k0<=1000000000000/\0<=zAs W k0:=by
 have:=zPd W k0;have:=zDg W k0;omega
theorem zGD{W:zH}(h:yU W<=1048576):qC W.zRd<=1048576/\W.sn<=1048576/\W.pn<=1048576/\zDs W:=by
 refine⟨?_,?_,?_,zKW h⟩
 all_goals
  unfold yU at h;omega
theorem zG4:∀(l:List (Int×Int)) (p:zI),qC (zv p l)=qC p+l.length
 | [],_=>rfl
 | x :: l,p=>by
  have h:=zG4 l (zAN p x.1);have e:qC (zAN p x.1)=qC p+1:=rfl;show qC (zv (zAN p x.1) l)=_;rw[h,e,List.length_cons];omega
theorem zId(f:Nat->qD)(k c:Nat)(s:qD)(hs:zE2 s<=zE2 (f k)+c):∀n,zBL (fun j=>if j=k then s else f j) n<=zBL f n+(if k<n then c else 0)
 | 0=>Nat.zero_le _
 | n+1=>by
  have ih:=zId f k c s hs n;show zBL _ n+zE2 (if n=k then s else f n)<=zBL f n+zE2 (f n)+(if k<n+1 then c else 0);by_cases e:n=k
  ·subst e;rw[if_neg (Nat.lt_irrefl n)]at ih;rw[if_pos rfl,if_pos (Nat.lt_succ_self n)];omega
  ·rw[if_neg e];by_cases h:k<n
   ·rw[if_pos h]at ih;rw[if_pos (Nat.lt_succ_of_lt h)];omega
   ·rw[if_neg h]at ih;rw[if_neg (by omega)];omega
theorem zMl(W:zH)(k:Nat)(y:zCO)(hy:zGz y)(hp:qC y.zRd<=qC W.zRd+40):yU (zLL W k y)<=yU W+46:=by
 have hl:=zCc (zf y.old) (zh y.old) (zN W (W.zRg k).zRh).time y.old.length;have h3:=hy.2.1;have hY:(zE4 W k y).length+(zPQ W k y).length=y.old.length:=hl;have aA:(zBU W k y).dn=(W.zRg k).dn+(zPQ W k y).length:=by
  show(zDu W k y).length=_;unfold zDu;rw[List.length_append,zAq]
 have h1:=zId W.zRg k 3 (zBU W k y) (by
  show(zBU W k y).name.size+(zBU W k y).dn<=(W.zRg k).name.size+(W.zRg k).dn+3;rw[aA];show(W.zRg k).name.size+_<=_;omega) W.sn
 have h2:=zG4 (zE4 W k y) y.zRd;have h5:(if k<W.sn then 3 else 0)<=3:=by split<;>omega
 have h7:yU (zLL W k y)=qC (zv y.zRd (zE4 W k y))+(W.sn+zBL (fun j=>if j=k then zBU W k y else W.zRg j) W.sn)+(W.pn+zA0 W.zRe W.pn):=rfl;have h8:yU W=qC W.zRd+(W.sn+zBL W.zRg W.sn)+(W.pn+zA0 W.zRe W.pn):=rfl;omega
theorem zKv{W:zH}{k:Nat}{y:zCO}(hy:zGz y)(hp:qC y.zRd<=qC W.zRd+40)(hN:yU W<=1048576):zAs (zBE W k y).world 1<=1000000000000/\0<=zAs (zBE W k y).world 1:=by
 unfold zBE;split
 ·have:=zMl W k y hy hp;exact zEg (W:=zLL W k y) (by omega) (by decide) (by decide)
 ·exact zEg (W:=noW) (by decide) (by decide) (by decide)
def zBr(W:zH)(name:ByteArray)(zRj:Int)(data:ByteArray)(oo:zCA):Prop:=∃r o,zIV W (∃i,i<2/\8000<((fun i=>match i with | 0=>name | _=>data) i).size) (∃i,i<0/\¬yI ((fun _=>⟨#[]⟩) i)) 1 (fun i=>match i with  | _=>zAS W name) (fun i=>match i with  | _=>2) r/\(r=none->∃k,zGJ W name k/\o=zBE W k (qo W.zRd (W.zRg k).rs (W.zRg k).rb zRj data W.time))/\oo=zNA r o
theorem zBr.uniq{W:zH}{name:ByteArray}{zRj:Int}{data:ByteArray}{o o':zCA}(h:zBr W name zRj data o)(h':zBr W name zRj data o'):o=o':=by
 obtain⟨r,a,h1,h2,rfl⟩:=h;obtain⟨r',b,g1,g2,rfl⟩:=h';obtain rfl:=h1.uniq g1;cases r with
 | some i=>rfl
 | none=>
  obtain⟨k,hk,rfl⟩:=h2 rfl;obtain⟨k',aA,rfl⟩:=g2 rfl;obtain rfl:=hk.uniq aA;rfl
open Classical in
noncomputable def yN(W:zH)(name:ByteArray)(zRj:Int)(data:ByteArray):zCA:=if h:∃o,zBr W name zRj data o then h.choose else zB3 0
theorem zEO{W:zH}{name:ByteArray}{zRj:Int}{data:ByteArray}{w w':World}{e:Ending}(h:yz W name zRj data w e w'):zB0 (yN W name zRj data) w e w':=by
 obtain⟨r,o,h1,h2,h3⟩:=h;have hi:zBr W name zRj data (zNA r o):=⟨r,o,h1,h2,rfl⟩;have hx:∃o,zBr W name zRj data o:=⟨_,hi⟩;have he:yN W name zRj data=zNA r o:=by
  unfold yN;rw[dif_pos hx];exact hx.choose_spec.uniq hi
 rw[he];exact h3
theorem zGF{W:zH}{name:ByteArray}{zRj:Int}{data:ByteArray}(hN:yU W<=1048576):zAs (yN W name zRj data).world 1<=1000000000000/\0<=zAs (yN W name zRj data).world 1:=by
 have hz:∀c,zAs (zB3 c).world 1<=1000000000000/\0<=zAs (zB3 c).world 1:=fun c=>zEg (W:=noW) (by decide) (by decide) (by decide)
 unfold yN;split
 ·rename_i h
  obtain⟨r,o,h1,h2,h3⟩:=h.choose_spec;rw[h3];cases r with
  | some i=>exact hz _
  | none=>
   obtain⟨k,hk,rfl⟩:=h2 rfl;exact zKv (zFQ _ _ _ _ _ _) (zHF _ _ _ _ _ _).1 hN
 ·exact hz _
theorem qf.row{w:World}{b n c:Nat}{a:Option Addr}{f:Nat->Int}(h:qf w b (.slice a n c) n f)(gA:n<c):w.ownsRow b 2 1 (.slice a n c) n (ic f n)/\a=some ⟨b,0,none⟩/\0<n:=by
 obtain⟨hm,a0,c0,hv,dA,hc,hr⟩:=h;simp only[Value.slice.injEq,true_and]at hv;obtain⟨rfl,rfl⟩:=hv;obtain⟨h0,rfl,eA,cA,aA,fA⟩:=hr gA;obtain⟨off,ha,bA⟩:=hc h0;simp only[Option.some.injEq,Addr.mk.injEq,true_and,and_true]at ha;subst ha;refine⟨⟨zBk _ _,.inr ⟨b,c,cA,rfl,Nat.le_refl _,aA,dA,eA,by simpa using fA,?_⟩⟩,rfl,h0⟩;apply List.ext_getElem?;intro j;by_cases hj:j<n
 ·have e:=(bA j hj).1;rw[Nat.zero_add,cell_of_row w b j cA _ (0,0) aA]at e;rw[List.getElem?_take,if_pos (by omega),zLX f n j hj];simpa using e
 ·rw[List.getElem?_eq_none (by simp;omega),List.getElem?_eq_none (by rw[zBk];omega)]
theorem qf.block{w:World}{b n:Nat}{v:Value}{f:Nat->Int}(h:qf w b v n f)(h0:0<n):v.ownBlock=some b:=by
 obtain⟨_,a,c,rfl,_,hc,_⟩:=h;obtain⟨off,rfl,_⟩:=hc h0;rfl
theorem zKc:Tryz.prog.underlying 23=some (.slice 2):=by kernel_rfl
theorem zN2{w:World}{b n B:Nat}{v:Value}{f:Nat->Int}{x:Int}(h:qf w b v n f)(hn:n<=1000)(bA:w.cell? ⟨B,0,none⟩=some (.int .i64 x))(ty:TypeId) :
  ∃base g aA w',(Builtin.append_ #[23,23] ty #[v,.slice (some ⟨B,0,none⟩) 1 1]).run Tryz.prog w = .ok (.slice (some ⟨g,0,none⟩) (n+1) aA) w'/\w'.ownsRow base 2 1 (.slice (some ⟨g,0,none⟩) (n+1) aA) (n+1) (ic f n ++ [.int .i64 x])/\zF (fun k=>0<n/\v.ownBlock=some k) w w'/\((0<n/\v.ownBlock=some g)\/w.heap.size<=g)/\g<w'.heap.size:=by
 obtain⟨i0,gA,iA⟩:=Option.map_eq_some_iff.1 zDd;simp only[Prod.mk.injEq]at iA;obtain⟨hz,hs,fA⟩:=iA;obtain⟨a,c,rfl⟩:∃a c,v = .slice a n c:=by obtain⟨_,a,c,e,_⟩:=h;exact⟨a,c,e⟩
 by_cases lA:n<c
 ·obtain⟨dA,rfl,h0⟩:=h.row lA;obtain⟨g,aA,w',hr,h2,h3,h4,h5⟩:=run_append_lies (P:=Tryz.prog) w 23 ty b 2 i0 _ 1 8 zKc gA hz hs fA rfl (by decide) _ n (ic f n) dA ⟨B,0,none⟩ 1 1 [.int .i64 x] rfl (zF6 bA) (zQU x) (by omega) (by unfold maxLen;omega) (by omega) (by have:=dA.lt b rfl;omega) w.heap.size rfl;refine⟨b,g,aA,w',hr,h2,?_,?_,h5⟩
  ·refine⟨h3.os,h3.tape,h3.output,h3.size,fun k hk nA=>h3.block k hk (fun e=>nA ⟨h0,e.symm⟩)⟩
  ·exact h4.imp (fun h=>⟨h0,h⟩) (fun h=>by omega)
 ·obtain⟨hm,a0,c0,hv,rA,cA,-⟩:=h;simp only[Value.slice.injEq,true_and]at hv;obtain⟨rfl,rfl⟩:=hv;obtain rfl:c=n:=(by omega);by_cases h0:0<c
  ·obtain⟨off,rfl,kA⟩:=cA h0;obtain⟨v',w',hr,h1,h2⟩:=run_append_arg_grows (P:=Tryz.prog) w 23 ty 2 i0 _ 1 8 zKc gA hz hs fA rfl (by decide) ⟨b,off,none⟩ c c (ic f c) (by rw[zBk]) (fun j u hj=>by
     have jA:j<c:=by
      have:=(List.getElem?_eq_some_iff.1 hj).1;rw[zBk]at this;omega
     have eA:=zLX f c j jA;rw[hj]at eA;injection eA with eA;subst eA;have e:(⟨b,off,none⟩:Addr).add j=⟨b,off+j,none⟩:=by
      unfold Addr.add;split
      ·simp_all
      ·simp
     rw[e];exact(kA j jA).1) ⟨B,0,none⟩ 1 1 [.int .i64 x] rfl (zF6 bA) (by omega) (by unfold maxLen;omega) (by omega)
   obtain⟨g,aA,rfl,mA,pA,oA,-⟩:=qY h1 (by omega);exact⟨_,g,aA,w',hr,h1,⟨h2.os,h2.tape,h2.output,h2.size,fun k hk _=>h2.block k hk (by simp)⟩,Or.inr pA,oA⟩
  ·obtain rfl:c=0:=(by omega);obtain⟨g,aA,w',hr,h2,h3,h4,h5⟩:=run_append_lies (P:=Tryz.prog) w 23 ty w.heap.size 2 i0 _ 1 8 zKc gA hz hs fA rfl (by decide) (.slice none 0 0) 0 [] ⟨by simp,Or.inl ⟨rfl,rfl⟩⟩ ⟨B,0,none⟩ 1 1 [.int .i64 x] rfl (zF6 bA) (zQU x) (by omega) (by unfold maxLen;omega) (by omega) (Nat.le_refl _) w.heap.size rfl;refine⟨_,g,aA,w',?_,h2,⟨h3.os,h3.tape,h3.output,h3.size,fun k hk _=>h3.block k hk (by simp[Value.ownBlock])⟩,Or.inr ?_,h5⟩
   ·rw[zD9 23 ty 2 i0 a ⟨B,0,none⟩ 1 1 zKc gA (by omega) (by rw[fA];omega)];exact hr
   ·rcases h4 with h4 | h4
    ·cases h4
    ·omega
structure zRJ (p:Prop):Prop where
 out:p
theorem zJy{A B:Prop}(f:zRJ A->B)(h:A):B:=f ⟨h⟩
theorem zI1{wa wb:World}{S:Nat->Prop}{X g cA base:Nat}{v0 v1:Value}{q:zI}{x:Int}(ho:qW wa S v0 v1 q)(t:zF (fun k=>0<q.hn/\v1.ownBlock=some k) wa wb)
  (aA:wb.ownsRow base 2 1 (.slice (some ⟨g,0,none⟩) (q.hn+1) cA) (q.hn+1) (ic q.h q.hn ++ [.int .i64 x])) (jA:(0<q.hn/\v1.ownBlock=some g)\/¬S g) (hX:¬S X) (iA:g≠X) (hm:q.hn+1<=maxLen) :
  qW (wb.setCell ⟨X,1,none⟩ (.slice (some ⟨g,0,none⟩) (q.hn+1) cA)) (fun k=>S k\/k=g) v0 (.slice (some ⟨g,0,none⟩) (q.hn+1) cA) (zAN q x):=by
 obtain⟨bs,hb,kb,kv,h1,h2,h3,h4,h5⟩:=ho;have tX:=zF.put wb X 1 (.slice (some ⟨g,0,none⟩) (q.hn+1) cA);have dA:∀k,ym bs kb q.n q.s k->¬(0<q.hn/\v1.ownBlock=some k):=fun k hk hx=>by
  rw[h3.block hx.1]at hx;simp only[Option.some.injEq]at hx;exact h4 hx.1 (hx.2▸hk)
 have eA:∀k,ym bs kb q.n q.s k->¬k=X:=fun k hk e=>hX (e▸h5 k (Or.inl hk))
 have s1:=(h1.zRf t (fun h0=>dA _ (Or.inl ⟨h0,rfl⟩)) (fun i hi h=>dA _ (Or.inr ⟨i,hi,h,rfl⟩))).zRf tX (fun h0=>eA _ (Or.inl ⟨h0,rfl⟩)) (fun i hi h=>eA _ (Or.inr ⟨i,hi,h,rfl⟩));rw[<-zNQ]at aA;have bA:=aA.kept (zCK tX) (Or.inr (by simp[Value.ownBlock];exact iA));obtain⟨gb,gA,fA⟩:=zFC (f:=(zAN q x).h) hm bA (fun e=>absurd e (Nat.succ_ne_zero _));obtain rfl:g=gb:=by have:=fA (Nat.succ_pos _);simpa[Value.ownBlock]using this
 refine⟨bs,g,kb,kv,s1,h2,gA,fun _ hx=>?_,fun k hk=>?_⟩
 ·rcases jA with⟨h0,he⟩ | he
  ·exact dA g hx ⟨h0,he⟩
  ·exact he (h5 g (Or.inl hx))
 ·rcases hk with hk | ⟨_,rfl⟩
  ·exact Or.inl (h5 k (Or.inl hk))
  ·exact Or.inr rfl
theorem zLp(V lo hi:Nat)(P:Nat->Prop)(z0 z1 z2 z3 v:Value)(tm nx:Int)(p:zI)(l:List (Int×Int))(w:World)(hV:zi w V z0 z1 (.int .i64 tm) (.int .i64 nx) z2 z3)(hP:qW w P z0 z1 p)(lA:∀j,P j->j<V)(hv:zU w lo hi v l.length (zf l) (zh l))(vB:V<lo)(eC:hi<=w.heap.size)(hl:l.length<=200)(cC:p.hn<=400) :
  Calls Tryz.prog 54 #[.pointer (some ⟨V,0,none⟩),v] w fun e w'=>e = .returned (.int .i64 (l.length:Int))/\∃y1,zi w' V z0 y1 (.int .i64 tm) (.int .i64 nx) z2 z3/\qW w' (fun j=>P j\/(w.heap.size<=j/\j<w'.heap.size)) z0 y1 (zv p l)/\zF (fun j=>j=V\/P j\/w.heap.size<=j) w w':=by
 have aC:=hV.1.lt;obtain⟨-,a,c,rfl,-,hx⟩:=hv;have HX:=zB hx;have HV:=zB hV;have HP:=zB hP;clear hV hP hx;go_enter Tryz.func54,Tryz.ntmps54;go_wp2_with fail
 go_loopw [5] (fun i wr=>∃(k:Nat) (y1:Value),k<=l.length/\i = .int .i64 k/\zi wr V z0 y1 (.int .i64 tm) (.int .i64 nx) z2 z3/\qW wr (fun j=>P j\/(w.heap.size<=j/\j<wr.heap.size)) z0 y1 (zv p (l.take k))/\zF (fun j=>j=V\/P j\/w.heap.size<=j) w wr) (fun i _=>l.length - (intOf i).toNat)
 case atStart=>exact⟨0,_,Nat.zero_le _,rfl,HV.out,HP.out.mono (fun j h=>Or.inl h),zF.refl _ _⟩
 case round=>
  obtain⟨k,y1,hk,rfl,gB,fB,aB⟩:=hrel;have cB:=zB gB;have jA:=zB fB;have tA:=zB aB;have bC:=aB.size;clear gB fB aB;by_cases pA:k<l.length
  ·have mB:(k:Int)<(l.length:Int):=(by omega);obtain⟨b,off,rfl,fC,iC,aA⟩:=HX.out (by omega);have q0:=(tA.out.cell (o:=off+k*2) (show b<w.heap.size by omega) (fun h=>by
    rcases h with h | h | h
    ·omega
    ·have:=lA b h;omega
    ·omega)).trans (aA k pA).1
   have nB:(zv p (l.take k)).hn<=1000:=by
    rw[(zJM (l.take k) p).2.2,List.length_take];omega
   obtain⟨bs,tB,kb,kv,i1,i2,i3,i4,i5⟩:=id jA.out;obtain⟨a1,c1,rfl⟩:∃a1 c1,y1 = .slice a1 (zv p (l.take k)).hn c1:=(by obtain⟨_,a1,c1,e,_⟩:=i3;exact⟨a1,c1,e⟩);have rA:Below wr.heap.size wr wr.drew:=(Below.refl _ _).drew;have nA:=zC wr.drew (.cells #[.int .i64 (zf l k)] 2);have fA:Below wr.heap.size wr (wr.drew.alloc (.cells #[.int .i64 (zf l k)] 2)):=zA rA nA;obtain⟨base,g,gA,w5,dB,bA,eA,oA,rB⟩:=zN2 (B:=wr.drew.heap.size) (x:=zf l k) (i3.zRX fA) nB (World.cell?_alloc_at _ _ _ _ rfl) 23;have jB:(wr.drew.alloc (.cells #[.int .i64 (zf l k)] 2)).heap.size>=wr.heap.size+1:=(by rw[World.size_alloc];exact Nat.le_refl _);have gC:wr.heap.size+1<=w5.heap.size:=(by have:=eA.size;omega);have iA:∀j,0<(zv p (l.take k)).hn/\(Value.slice a1 (zv p (l.take k)).hn c1).ownBlock=some j->P j\/(w.heap.size<=j/\j<wr.heap.size):=fun j h=>by
    have e:=i3.block h.1;rw[h.2]at e;injection e with e;rw[e];exact i5 tB (Or.inr ⟨h.1,rfl⟩)
   have kA:∀j,0<(zv p (l.take k)).hn/\(Value.slice a1 (zv p (l.take k)).hn c1).ownBlock=some j->j≠V/\j≠b:=fun j h=>by
    rcases iA j h with h' | h'
    ·have:=lA j h';exact⟨by omega,by omega⟩
    ·exact⟨by omega,by omega⟩
   have lB:g≠V:=by
    rcases oA with h | h
    ·exact(kA g h).1
    ·omega
   have sA:=(cB.out.zRX fA).zRf eA (fun h=>(kA V h).1 rfl);have cA:=zB (show ∀w',Below wr.drew.heap.size wr.drew w'->(fun w':World=>w'.cell? ⟨b,off+k*2,none⟩=some (.int .i64 (zf l k))) w' from fun w' hb=>(hb.cell (p:=⟨b,off+k*2,none⟩) (show b<wr.heap.size by omega)).trans q0);have bB:=zB (show(fun w':World=>w'.cell? ⟨b,off+k*2,none⟩=some (.int .i64 (zf l k))) w5 from(eA.cell (o:=off+k*2) (show b<_ by omega) (fun h=>(kA b h).2 rfl)).trans ((fA.cell (p:=⟨b,off+k*2,none⟩) (show b<wr.heap.size by omega)).trans q0));have vA:=zF.put w5 V 1 (.slice (some ⟨g,0,none⟩) ((zv p (l.take k)).hn+1) gA);have eB:=zB (show(fun w':World=>w'.cell? ⟨b,off+k*2,none⟩=some (.int .i64 (zf l k))) (w5.setCell ⟨V,1,none⟩ (.slice (some ⟨g,0,none⟩) ((zv p (l.take k)).hn+1) gA))from(vA.cell (o:=off+k*2) (show b<w5.heap.size by omega) (fun h=>by omega)).trans bB.out);have iB:=zB (zI1 (X:=V) (jA.out.zRX fA) eA bA (oA.imp id (fun h hx=>by
    rcases hx with hx | hx
    ·have:=lA g hx;omega
    ·omega)) (fun hx=>by
    rcases hx with hx | hx
    ·have:=lA V hx;omega
    ·omega) lB (by unfold maxLen;omega))
   have kB:=zB (show zF (fun j=>j=V\/P j\/w.heap.size<=j) w (w5.setCell ⟨V,1,none⟩ (.slice (some ⟨g,0,none⟩) ((zv p (l.take k)).hn+1) gA))from(tA.out.trans ((zF.zRa fA).trans (eA.mono (fun j h=>by
    rcases iA j h with h' | h'
    ·exact Or.inr (Or.inl h')
    ·exact Or.inr (Or.inr h'.1))))).trans (vA.mono (fun j e=>Or.inl e)))
   have HR:=zB dB;have mA:=zB nA;have HG:=zB (show(0<(zv p (l.take k)).hn/\(Value.slice a1 (zv p (l.take k)).hn c1).ownBlock=some g)\/wr.heap.size<=g from oA.imp id (fun h=>by omega));have sB:=zB iA;obtain⟨x4,-⟩:=(cB.out.zRX rA).2.1;have X5:=zB ((nA.cell (zD x4)).trans x4);obtain⟨y4,dC⟩:=sA.2.1;have dA:=zB sA;clear dB bA eA oA sA nA fA aA i1 i2 i3 i4 i5 iA kA jB q0;go_wp2_with fail;refine wp_region_held_drew (S:=(fun w':World=>w'.cell? ⟨b,off+k*2,none⟩=some (.int .i64 (zf l k)))) (by kernel_rfl) (cA.out _ (Below.refl _ _)) (fun hHeld=>?_);generalize wr.drew=q0 at hHeld cA HR mA x4 X5 rA ⊢
   refine' zJy (fun hfin=>_) _
   rotate_left
   ·skip;refine tk 0 (h:=tk 1 (h:=tk 2 (h:=tk 3 (h:=tk 4 (h:=tk 6 (h:=tk 7 (h:=tk 8 (h:=tk 9 (h:=tk 10 (h:=?_))))))))));refine rd [5,11] (rc (fun K hK=>?_) (rc (fun K hK=>?_) .nil))
    ·go_simp
     (try go_wp2_with fail)
     refine hK.out _ _ (cA.out _ (Below.refl _ _)) ?_;clear hK K;intro hHeld
     try simp only[Act.put,s1,s2,s3]
     refine rd [11] (rc (fun K hK=>?_) .nil);go_simp
     (try go_wp2_with fail)
     refine hK.out _ _ (cA.out _ mA.out) ?_;clear hK K;intro hHeld
     try simp only[Act.put,s1,s2,s3]
     refine rd [12] (rc (fun K hK=>?_) .nil);refine yv rfl (.tmp 17) (.tmp 23) 23 rfl _ _ _ rfl rfl HR.out ?_
     (try go_wp2_with fail)
     refine hK.out _ _ (bB.out) ?_;clear hK K;intro hHeld
     try simp only[Act.put,s1,s2,s3]
     refine tk 13 (h:=tk 14 (h:=tk 15 (h:=?_)));refine rd [16] (rc (fun K hK=>?_) .nil);go_simp
     (try go_wp2_with fail)
     refine hK.out _ _ (eB.out) ?_;clear hK K;intro hHeld
     try simp only[Act.put,s1,s2,s3]
     refine wpAnyH_done (by kernel_rfl) ?_ _;exact hfin.out
    ·go_simp
     (try go_wp2_with fail)
     refine hK.out _ _ (cA.out _ mA.out) ?_;clear hK K;intro hHeld
     try simp only[Act.put,s1,s2,s3]
     refine rd [5] (rc (fun K hK=>?_) .nil);have oB:=X5.out;go_simp
     (try go_wp2_with fail)
     refine hK.out _ _ (cA.out _ mA.out) ?_;clear hK K;intro hHeld
     try simp only[Act.put,s1,s2,s3]
     clear oB;refine rd [12] (rc (fun K hK=>?_) .nil);refine yv rfl (.tmp 17) (.tmp 23) 23 rfl _ _ _ rfl rfl HR.out ?_
     (try go_wp2_with fail)
     refine hK.out _ _ (bB.out) ?_;clear hK K;intro hHeld
     try simp only[Act.put,s1,s2,s3]
     refine tk 13 (h:=tk 14 (h:=tk 15 (h:=?_)));refine rd [16] (rc (fun K hK=>?_) .nil);go_simp
     (try go_wp2_with fail)
     refine hK.out _ _ (eB.out) ?_;clear hK K;intro hHeld
     try simp only[Act.put,s1,s2,s3]
     refine wpAnyH_done (by kernel_rfl) ?_ _;exact hfin.out
   go_wp2_with fail;go_roundw
   case rel=>
    have pB:zi (w5.setCell ⟨V,1,none⟩ (.slice (some ⟨g,0,none⟩) ((zv p (l.take k)).hn+1) gA)) V z0 (.slice (some ⟨g,0,none⟩) ((zv p (l.take k)).hn+1) gA) (.int .i64 tm) (.int .i64 nx) z2 z3:=⟨dA.out.1.zRY _ (Or.inr (by decide)),dA.out.2.1.set _,dA.out.2.2.1.zRY _ (Or.inr (by decide)),dA.out.2.2.2.1.zRY _ (Or.inr (by decide)),dA.out.2.2.2.2.1.zRY _ (Or.inr (by decide)),dA.out.2.2.2.2.2.zRY _ (Or.inr (by decide))⟩;have he:zv p (l.take (k+1))=zAN (zv p (l.take k)) (zf l k):=by
     rw[List.take_succ_eq_append_getElem pA,zDq];congr 1;unfold zf;rw[List.getD_eq_getElem?_getD,List.getElem?_eq_getElem pA];rfl
    refine⟨k+1,_,by omega,by go_num,pB,?_,kB.out⟩;rw[he];refine iB.out.mono (fun j hj=>?_);have jC:=vA.size;rcases hj with(h | h) | rfl
    ·exact Or.inl h
    ·exact Or.inr ⟨h.1,by omega⟩
    ·rcases HG.out with h | h
     ·rcases sB.out j h with h' | h'
      ·exact Or.inl h'
      ·exact Or.inr ⟨h'.1,by omega⟩
     ·exact Or.inr ⟨by omega,by omega⟩
   case measure=>simp[intOf];omega
  ·obtain rfl:k=l.length:=(by omega);go_wp2_with fail;rw[List.take_length]at jA;go_ret;exact⟨rfl,y1,cB.out,jA.out,tA.out⟩
theorem zCz(c:Int)(w:World):Calls Tryz.prog 25 #[.int .i64 c] w fun e w'=>e = .returned (.agg #[.slice none 0 0,.slice none 0 0,.int .i64 0,.int .i64 0,.slice none 0 0,.slice none 0 0,.int .i64 0,.int .i64 0,.int .i64 c])/\Below w.heap.size w w':=by
 have ha:=zC w (.cells #[.slice none 0 0,.slice none 0 0,.int .i64 0,.int .i64 0,.slice none 0 0,.slice none 0 0,.int .i64 0,.int .i64 0,.int .i64 c] 39);have aA:=yi.zRZ w (.slice none 0 0) (.slice none 0 0) (.int .i64 0) (.int .i64 0) (.slice none 0 0) (.slice none 0 0) (.int .i64 0) (.int .i64 0) (.int .i64 c) 39;go_enter Tryz.func25,Tryz.ntmps25;go_wp2_with fail;refine bodyPost_ret (v:=.agg #[.slice none 0 0,.slice none 0 0,.int .i64 0,.int .i64 0,.slice none 0 0,.slice none 0 0,.int .i64 0,.int .i64 0,.int .i64 c]) (by simp[results,Tryz.results25,go_sem,aA.1.1,aA.2.1.1,aA.2.2.1.1,aA.2.2.2.1.1,aA.2.2.2.2.1.1,aA.2.2.2.2.2.1.1,aA.2.2.2.2.2.2.1.1,aA.2.2.2.2.2.2.2.1.1,aA.2.2.2.2.2.2.2.2.1]) rfl ?_;exact⟨rfl,ha⟩
theorem zJr{w:World}{k:Nat}{v:Value}{kv:Nat->Value}{dn:Nat->Nat}(hk:yh w 61 2 v (dn k))(h:∀i,i<k->yh w 61 2 (kv i) (dn i))(a:Addr)(u:Value):∀i,i<k+1->yh (w.setCell a u) 61 2 ((fun j=>if j=k then v else kv j) i) (dn i):=fun i hi=>by
 by_cases e:i=k
 ·subst e;simp only[if_true];exact hk.set a u
 ·simp only[if_neg e];exact(h i (by omega)).set a u
theorem zET(w:World)(lo hi:Nat)(a:Option Addr)(n c:Nat)(f g:Nat->Int)(h:zU w lo hi (.slice a n c) n f g)(hn:n<=1048576)(ty:TypeId):∃a' c' kb w1,
  (Builtin.append_ #[62,62] ty #[.slice (some ⟨w.heap.size,0,none⟩) 0 0,.slice a n c]).run Tryz.prog (w.alloc (.cells #[] 61)) = .ok (.slice a' n c') w1/\zm w1 kb (.slice a' n c') n f g/\(0<n->w.heap.size<=kb/\kb<w1.heap.size)/\Below w.heap.size w w1/\yh w1 61 2 (.slice a' n c') n:=by
 obtain⟨m1,a0,c0,hv,mc,g1⟩:=h;simp only[Value.slice.injEq,true_and]at hv;obtain⟨rfl,rfl⟩:=hv;obtain⟨i0,eA,fA⟩:=Option.map_eq_some_iff.1 zCv;simp only[Prod.mk.injEq]at fA;obtain⟨hz,hs,gA⟩:=fA;have ht:Tryz.prog.underlying 62=some (.slice 61):=by kernel_rfl
 have aA:(w.alloc (.cells #[] 61)).ownsRow w.heap.size 61 2 (.slice (some ⟨w.heap.size,0,none⟩) 0 0) 0 []:=World.ownsRow_made w #[] 0 (Nat.le_refl _) (Nat.zero_le _) (by simp);have cA:=zC w (.cells #[] 61);by_cases h0:0<n
 ·obtain⟨b,off,rfl,_,_,hc⟩:=g1 h0;have dA:∀j,(⟨b,off,none⟩:Addr).add j=⟨b,off+j,none⟩:=fun j=>by unfold Addr.add;split<;>simp_all
  obtain⟨v',w1,hr,r1,r2,_⟩:=run_append_own (P:=Tryz.prog) (w.alloc (.cells #[] 61)) w.heap.size 62 ty 61 i0 (.agg #[.int .i64 0,.int .i64 0]) 2 16 ht eA hz hs gA rfl (by decide) _ 0 [] aA ⟨b,off,none⟩ n c (kc f g n) (zEN f g n) (fun j u hj=>by
    have:=zFy hc j u hj;rw[dA]at this ⊢;exact(cA.cell (zD this)).trans this) (zKR f g n) (by unfold maxLen;omega) (by omega) (by simp)
  have bA:w1.ownsRow w.heap.size 61 2 v' n (kc f g n):=(by simpa using r1);obtain⟨kb,hp,hk⟩:=zCT m1 bA;obtain⟨_,a',c',rfl,_⟩:=id hp;have iA:Below w.heap.size w w1:=cA.grown r2 (by simp) (fun q hq=>by have:=aA.lt q hq;omega);exact⟨a',c',kb,w1,hr,hp,hk,iA,qx bA (fun e=>by omega)⟩
 ·obtain rfl:n=0:=(by omega);have hr:=zA6 (P:=Tryz.prog) (w:=w.alloc (.cells #[] 61)) w.heap.size 62 ty 61 i0 2 c a ht eA _ 0 [] aA;exact⟨_,0,0,_,hr,⟨Nat.zero_le _,_,0,rfl,Nat.le_refl _,fun h=>absurd h (Nat.lt_irrefl _)⟩,fun h=>absurd h (Nat.lt_irrefl _),cA,Or.inl ⟨rfl,_,rfl⟩⟩
end Go.Proofs.YtmgeglgboadfiaaGreatDoor
