/- A part of the proof. -/
import Derived.Test.YtmgeglgboadfiaaGreatDoorU20
set_option linter.unusedVariables false
set_option maxRecDepth 20000
set_option maxHeartbeats 4000000
namespace Go.Proofs.YtmgeglgboadfiaaGreatDoor
open Go.RowKit
theorem zJR(v:Value)(n lo hi:Nat)(f:Nat->Int)(w:World)(h1:qs w lo hi v n f)(hn:n<=1048576) :
  Calls Tryz.prog 88 #[v] w fun e w'=>(∃v',e = .returned v'/\qd w' w.heap.size v' n f)/\Below w.heap.size w w'/\w.heap.size<w'.heap.size:=by
 obtain⟨m1,a,c,rfl,mc,g1⟩:=h1;have iA:=m1;unfold maxLen at m1;have G1:Hid (0<n->∃b off,a=some ⟨b,off,none⟩/\lo<=b/\b<hi/\∀i,i<n->w.cell? ⟨b,off+i,none⟩=some (.int .i64 (f i))):=g1;clear g1;have kA:=zB1 23 2 (.int .i64 0) 1 8 (by kernel_rfl) zCd rfl n hn (by omega);go_enter Tryz.func88,Tryz.ntmps88;go_wp2
 go_loopw [4] (fun i wr=>∃k:Nat,k<=n/\i = .int .i64 k/\(∀j,j<n->zQ wr w.heap.size (0+j) (.int .i64 (if j<k then f j else 0)))/\Below w.heap.size w wr/\w.heap.size<wr.heap.size) (fun i _=>n - (intOf i).toNat)
 case atStart=>exact⟨0,Nat.zero_le _,rfl,fun j hj=>by have:=qo w #[.int .i64 0] n j 0 2 hj (by simp);simpa using this,zC _ _,by simp⟩
 case round=>
  obtain⟨k,hk,rfl,bA,hb,dA⟩:=hrel;have aA:Hid (∀j,j<n->zQ wr w.heap.size (0+j) (.int .i64 (if j<k then f j else 0))):=bA;clear bA;by_cases cA:k<n
  ·have gA:(k:Int)<(n:Int):=(by omega);obtain⟨b,off,rfl,_,_,k1⟩:=G1.out (by omega);have jA:=(hb.cell (zD (k1 k cA))).trans (k1 k cA);obtain⟨eA,fA⟩:=aA.out k cA;rw[if_neg (Nat.lt_irrefl k),Nat.zero_add]at eA;rw[Nat.zero_add]at fA;go_wp2;go_roundw
   case rel=>
    refine⟨k+1,by omega,by go_num,fun j hj=>?_,hb.setCell (Nat.le_refl _) _,by simpa using dA⟩;by_cases e:j=k
    ·subst e;rw[if_pos (by omega)];simpa using (aA.out j hj).set (.int .i64 (f j))
    ·have:=(aA.out j hj).zPA (b':=w.heap.size) (o':=k) (.int .i64 (f k)) (Or.inr (by omega));by_cases e2:j<k
     ·rw[if_pos (by omega)];rw[if_pos e2]at this;exact this
     ·rw[if_neg (by omega)];rw[if_neg e2]at this;exact this
   case measure=>simp[intOf];omega
  ·obtain rfl:k=n:=(by omega);go_wp2;go_ret;refine⟨⟨_,rfl,iA,_,k,rfl,Nat.le_refl _,fun _=>⟨0,rfl,fun i hi=>?_⟩,fun h=>absurd h (Nat.lt_irrefl _)⟩,hb,dA⟩;have:=aA.out i hi;rw[if_pos hi]at this;exact this
theorem zFg(a b:Int)(w:World) :
  Calls Tryz.prog 148 #[.agg #[.int .i64 a,.int .i64 b]] w fun e w'=>e = .returned (.agg #[.int .i64 a,.int .i64 b])/\Below w.heap.size w w':=by
 go_enter Tryz.func148,Tryz.ntmps148;go_wp2;refine bodyPost_ret (v:=.agg #[.int .i64 a,.int .i64 b]) (by simp[results,Tryz.results148,go_sem]) rfl ⟨rfl,?_⟩;exact(((Below.refl _ _).alloc (Nat.le_refl _) _).alloc (by simp) _).alloc (by simp;omega) _
theorem zEa(v:Value)(n lo hi:Nat)(f g:Nat->Int)(w:World)(h1:zR w lo hi v n f g)(hn:n<=1048576) :
  Calls Tryz.prog 149 #[v] w fun e w'=>(∃v',e = .returned v'/\zj w' w.heap.size v' n f g)/\Below w.heap.size w w'/\w.heap.size<w'.heap.size:=by
 obtain⟨m1,a,c,rfl,mc,g1⟩:=h1;have rA:=m1;unfold maxLen at m1;have G1:Hid (0<n->∃b off,a=some ⟨b,off,none⟩/\lo<=b/\b<hi/\∀i,i<n->w.cell? ⟨b,off+i*2,none⟩=some (.int .i64 (f i))/\w.cell? ⟨b,off+i*2+1,none⟩=some (.int .i64 (g i))):=g1;clear g1;have sA:=zB1 62 61 (.agg #[.int .i64 0,.int .i64 0]) 2 16 (by kernel_rfl) zN1 rfl n hn (by omega);go_enter Tryz.func149,Tryz.ntmps149;go_wp2
 go_loopw [4] (fun i wr=>∃k:Nat,k<=n/\i = .int .i64 k/\(∀j,j<n->zQ wr w.heap.size (0+j*2) (.int .i64 (if j<k then f j else 0))/\zQ wr w.heap.size (0+j*2+1) (.int .i64 (if j<k then g j else 0)))/\Below w.heap.size w wr/\w.heap.size<wr.heap.size) (fun i _=>n - (intOf i).toNat)
 case atStart=>
  refine⟨0,Nat.zero_le _,rfl,fun j hj=>⟨?_,?_⟩,zC _ _,by simp⟩
  ·have:=qo w #[.int .i64 0,.int .i64 0] n j 0 61 hj (by simp);simpa using this
  ·have:=qo w #[.int .i64 0,.int .i64 0] n j 1 61 hj (by simp);simpa using this
 case round=>
  obtain⟨k,hk,rfl,cA,hb,gA⟩:=hrel;have bA:Hid (∀j,j<n->zQ wr w.heap.size (0+j*2) (.int .i64 (if j<k then f j else 0))/\zQ wr w.heap.size (0+j*2+1) (.int .i64 (if j<k then g j else 0))):=cA;clear cA;by_cases eA:k<n
  ·have pA:(k:Int)<(n:Int):=(by omega);obtain⟨b,off,rfl,_,_,k1⟩:=G1.out (by omega);have jA:=(hb.cell (zD (k1 k eA).1)).trans (k1 k eA).1;have mA:=(hb.cell (zD (k1 k eA).2)).trans (k1 k eA).2;clear k1 G1;go_wp2_with fail;refine(zFg _ _ _).mono ?_;rintro e w1 ⟨rfl,dA⟩;have iA:=zA hb dA;have fA:w.heap.size<w1.heap.size:=Nat.lt_of_lt_of_le gA dA.size;have aA:Hid (∀j,j<n->zQ w1 w.heap.size (0+j*2) (.int .i64 (if j<k then f j else 0))/\zQ w1 w.heap.size (0+j*2+1) (.int .i64 (if j<k then g j else 0))):=fun j hj=>⟨(bA.out j hj).1.zO9 dA,(bA.out j hj).2.zO9 dA⟩
   clear bA dA jA mA;obtain⟨⟨kA,nA⟩,⟨lA,oA⟩⟩:=aA.out k eA;rw[if_neg (Nat.lt_irrefl k),Nat.zero_add]at kA lA;rw[Nat.zero_add]at nA oA;go_wp2;go_roundw
   case rel=>
    refine⟨k+1,by omega,by go_num,fun j hj=>?_,(iA.setCell (Nat.le_refl _) _).setCell (Nat.le_refl _) _,by simpa using fA⟩;by_cases e:j=k
    ·subst e;rw[if_pos (by omega),if_pos (by omega)];have t1:=((aA.out j hj).1.set (.int .i64 (f j))).zPA (b':=w.heap.size) (o':=0+j*2+1) (.int .i64 (g j)) (Or.inr (by omega));have t2:=((aA.out j hj).2.zPA (b':=w.heap.size) (o':=0+j*2) (.int .i64 (f j)) (Or.inr (by omega))).set (.int .i64 (g j));simp only[Nat.zero_add]at t1 t2 ⊢;exact⟨t1,t2⟩
    ·have t1:=((aA.out j hj).1.zPA (b':=w.heap.size) (o':=k*2) (.int .i64 (f k)) (Or.inr (by omega))).zPA (b':=w.heap.size) (o':=k*2+1) (.int .i64 (g k)) (Or.inr (by omega));have t2:=((aA.out j hj).2.zPA (b':=w.heap.size) (o':=k*2) (.int .i64 (f k)) (Or.inr (by omega))).zPA (b':=w.heap.size) (o':=k*2+1) (.int .i64 (g k)) (Or.inr (by omega));by_cases e2:j<k
     ·rw[if_pos (by omega),if_pos (by omega)];rw[if_pos e2]at t1 t2;exact⟨t1,t2⟩
     ·rw[if_neg (by omega),if_neg (by omega)];rw[if_neg e2]at t1 t2;exact⟨t1,t2⟩
   case measure=>simp[intOf];omega
  ·obtain rfl:k=n:=(by omega);go_wp2;go_ret;refine⟨⟨_,rfl,rA,_,k,rfl,Nat.le_refl _,fun _=>⟨0,rfl,fun i hi=>?_⟩⟩,hb,gA⟩;have:=bA.out i hi;rw[if_pos hi,if_pos hi]at this;exact this
theorem zLX(v0 v1 v2:Value)(lo hi:Nat)(s:zO)(w:World)(h1:qT w lo hi v0 v1 v2 s)(hn:s.kn<=1048576) :
  Calls Tryz.prog 147 #[.agg #[v0,v1,v2]] w fun e w'=>(∃kv kb,e = .returned (.agg #[.int .i64 s.zPI,kv,.string s.data])/\zj w' kb kv s.kn s.ks s.kb/\w.heap.size<=kb/\kb<w'.heap.size)/\Below w.heap.size w w':=by
 obtain⟨rfl,p1,rfl,m1⟩:=h1;have q1:=p1;obtain⟨_,a,c,rfl,_⟩:=p1;go_enter Tryz.func147,Tryz.ntmps147;go_wp2_with fail;have iA:=zC w (.cells #[.int .i64 s.zPI,.slice a s.kn c,.string s.data] 183);have jA:=zA iA (zC _ (.cells #[.int .i64 0,.slice none 0 0,.string ⟨#[]⟩] 127));have eA:=zA jA (zC _ (.cells #[.int .i64 s.zPI,.slice none 0 0,.string ⟨#[]⟩] 127));refine(zEa _ s.kn lo hi _ _ _ (q1.zO9 eA) hn).mono ?_;rintro e w1 ⟨⟨kv,rfl,bA⟩,aA,fA⟩;have HB:Hid (yX w1 w.heap.size (.int .i64 s.zPI) (.slice a s.kn c) (.string s.data)):=(((yX.new w _ _ _ _).zO9 (zC _ _)).zO9 (zC _ _)).zO9 aA;have HR:Hid (yX w1 (w.heap.size+1) (.int .i64 0) (.slice none 0 0) (.string ⟨#[]⟩)):=by
  have:=(((yX.new (w.alloc (.cells #[.int .i64 s.zPI,.slice a s.kn c,.string s.data] 183)) (.int .i64 0) (.slice none 0 0) (.string ⟨#[]⟩) 127).zO9 (zC _ _)).zO9 aA);rw[World.size_alloc]at this;exact this
 have HO:Hid (yX w1 (w.heap.size+1+1) (.int .i64 s.zPI) (.slice none 0 0) (.string ⟨#[]⟩)):=by
  have:=((yX.new ((w.alloc (.cells #[.int .i64 s.zPI,.slice a s.kn c,.string s.data] 183)).alloc (.cells #[.int .i64 0,.slice none 0 0,.string ⟨#[]⟩] 127)) (.int .i64 s.zPI) (.slice none 0 0) (.string ⟨#[]⟩) 127).zO9 aA);rw[World.size_alloc,World.size_alloc]at this;exact this
 have kA:=zA eA aA;have dA:Hid (zj w1 (w.heap.size+1+1+1) kv s.kn s.ks s.kb):=by
  have:=bA;rw[World.size_alloc,World.size_alloc,World.size_alloc]at this;exact this
 have gA:w.heap.size+1+1+1<w1.heap.size:=by
  rw[World.size_alloc,World.size_alloc,World.size_alloc]at fA;exact fA
 clear fA;obtain⟨_,ka,kc,rfl,_⟩:=bA;clear iA jA eA aA;obtain⟨⟨x0,x1⟩,⟨x2,x3⟩,⟨x4,x5⟩⟩:=HB.out;obtain⟨⟨y0,y1⟩,⟨y2,y3⟩,⟨y4,y5⟩⟩:=HR.out;obtain⟨⟨z0,z1⟩,⟨z2,z3⟩,⟨z4,z5⟩⟩:=HO.out;go_wp2;have cA:=((HR.out.zPA (b':=w.heap.size+1+1) (o':=1) (.slice ka s.kn kc) (by omega)).zPA (b':=w.heap.size+1+1) (o':=2) (.string s.data) (by omega)).put (.int .i64 s.zPI) (.slice ka s.kn kc) (.string s.data);refine bodyPost_ret (v:=.agg #[.int .i64 s.zPI,.slice ka s.kn kc,.string s.data]) (by simp[results,Tryz.results147,go_sem,cA.1.1,cA.2.1.1,cA.2.2.1]) rfl ⟨⟨_,w.heap.size+1+1+1,rfl,?_,by omega,by simpa using gA⟩,?_⟩
 ·exact((((dA.out.put _ (by omega)).put _ (by omega)).put _ (by omega)).put _ (by omega)).put _ (by omega)
 ·exact((((kA.setCell (by show _<=w.heap.size+1+1;omega) _).setCell (by show _<=w.heap.size+1+1;omega) _).setCell (by show _<=w.heap.size+1;omega) _).setCell (by show _<=w.heap.size+1;omega) _).setCell (by show _<=w.heap.size+1;omega) _
structure zKj (wr:World) (bs n k:Nat) (f:Nat->zO) (kb:Nat->Nat) (kv:Nat->Value):Prop where
 slots:∀j,j<n->yf wr bs (0+j*3) (kb j) (kv j) (if j<k then f j else zFz)
 zPJ:yJ kb k f
 zPM:∀j,j<k->0<(f j).kn->bs<kb j/\kb j<wr.heap.size
theorem zKj.zO9{wr w':World}{bs n k:Nat}{f:Nat->zO}{kb:Nat->Nat}{kv:Nat->Value}(h:zKj wr bs n k f kb kv)(t:Below wr.heap.size wr w'):zKj w' bs n k f kb kv:=
 ⟨fun j hj=>(h.slots j hj).zO9 t,h.zPJ,fun j hj h0=>by have:=h.zPM j hj h0;have:=t.size;omega⟩
theorem zKj.next{wr w1:World}{bs n k b:Nat}{f:Nat->zO}{kb:Nat->Nat}{kv:Nat->Value}{v:Value}(h:zKj wr bs n k f kb kv)(hk:k<n)(dA:bs<wr.heap.size)(t:Below wr.heap.size wr w1)
  (hp:zj w1 b v (f k).kn (f k).ks (f k).kb) (hb:wr.heap.size<=b) (cA:b<w1.heap.size) (hs:(f k).data.size<=maxLen) :
  zKj (((w1.setCell ⟨bs,0+k*3,none⟩ (.int .i64 (f k).zPI)).setCell ⟨bs,0+k*3+1,none⟩ v).setCell ⟨bs,0+k*3+2,none⟩ (.string (f k).data)) bs n (k+1) f (fun j=>if j=k then b else kb j) (fun j=>if j=k then v else kv j):=by
 have h':=h.zO9 t;refine⟨fun j hj=>?_,fun i j hi hj bA h1 h2=>?_,fun j hj h0=>?_⟩
 ·have aA:=h'.slots j hj;by_cases e:j=k
  ·subst e;simp only[if_true];rw[if_pos (by omega)];refine⟨?_,?_,?_,?_,hs,fun _=>by omega⟩
   ·exact((aA.zPI.set _).zPA _ (Or.inr (by omega))).zPA _ (Or.inr (by omega))
   ·exact((aA.kidsv.zPA _ (Or.inr (by omega))).set _).zPA _ (Or.inr (by omega))
   ·exact((aA.data.zPA _ (Or.inr (by omega))).zPA _ (Or.inr (by omega))).set _
   ·exact((hp.put _ (by omega)).put _ (by omega)).put _ (by omega)
  ·simp only[if_neg e];have es:(if j<k+1 then f j else zFz)=if j<k then f j else zFz:=by
    by_cases e2:j<k
    ·rw[if_pos e2,if_pos (by omega)]
    ·rw[if_neg e2,if_neg (by omega)]
   rw[es];refine⟨?_,?_,?_,?_,aA.zPN,aA.zPJ⟩
   ·exact((aA.zPI.zPA _ (Or.inr (by omega))).zPA _ (Or.inr (by omega))).zPA _ (Or.inr (by omega))
   ·exact((aA.kidsv.zPA _ (Or.inr (by omega))).zPA _ (Or.inr (by omega))).zPA _ (Or.inr (by omega))
   ·exact((aA.data.zPA _ (Or.inr (by omega))).zPA _ (Or.inr (by omega))).zPA _ (Or.inr (by omega))
   ·refine((aA.kids.zPF (zF.put _ _ _ _) ?_).zPF (zF.put _ _ _ _) ?_).zPF (zF.put _ _ _ _) ?_
    all_goals exact fun h0 hx=>aA.zPJ h0 hx
 ·show(if i=k then b else kb i)≠(if j=k then b else kb j);by_cases e1:i=k
  ·by_cases e2:j=k
   ·omega
   ·rw[if_pos e1,if_neg e2];have:=h.zPM j (by omega) h2;omega
  ·by_cases e2:j=k
   ·rw[if_neg e1,if_pos e2];have:=h.zPM i (by omega) h1;omega
   ·rw[if_neg e1,if_neg e2];exact h.zPJ i j (by omega) (by omega) bA h1 h2
 ·simp only[World.size_setCell];by_cases e:j=k
  ·rw[if_pos e];omega
  ·rw[if_neg e];have:=h'.zPM j (by omega) h0;omega
theorem zMr{w:World}{bs n j:Nat}(hj:j<n)(aA:bs=w.heap.size):yf (w.alloc (.cells (zHN #[.int .i64 0,.slice none 0 0,.string ⟨#[]⟩] n) 127)) bs (0+j*3) 0 (.slice none 0 0) zFz:=by
 subst aA;have c0:=qo w #[.int .i64 0,.slice none 0 0,.string ⟨#[]⟩] n j 0 127 hj (by simp);have c1:=qo w #[.int .i64 0,.slice none 0 0,.string ⟨#[]⟩] n j 1 127 hj (by simp);have c2:=qo w #[.int .i64 0,.slice none 0 0,.string ⟨#[]⟩] n j 2 127 hj (by simp);refine⟨?_,?_,?_,⟨Nat.zero_le _,none,0,rfl,Nat.le_refl _,fun h=>absurd h (Nat.lt_irrefl _)⟩,Nat.zero_le _,fun h=>absurd h (Nat.lt_irrefl _)⟩
 ·show zQ _ _ _ (.int .i64 0);simpa using c0
 ·simpa using c1
 ·show zQ _ _ _ (.string ⟨#[]⟩);simpa using c2
theorem zKa(v:Value)(n lo hi:Nat)(f:Nat->zO)(w:World)(h1:qG w lo hi v n f)(hn:n+zAP f n<=1048576) :
  Calls Tryz.prog 87 #[v] w fun e w'=>(∃v' kb kv,e = .returned v'/\qO w' w.heap.size kb kv v' n f/\yJ kb n f/\∀j,j<n->0<(f j).kn->w.heap.size<kb j/\kb j<w'.heap.size)/\Below w.heap.size w w'/\w.heap.size<w'.heap.size:=by
 obtain⟨m1,a,c,rfl,mc,g1⟩:=h1;have pA:=m1;unfold maxLen at m1;have G1:Hid (0<n->∃b off,a=some ⟨b,off,none⟩/\lo<=b/\b<hi/\∀i,i<n->∃v0 v1 v2,w.cell? ⟨b,off+i*3,none⟩=some v0/\w.cell? ⟨b,off+i*3+1,none⟩=some v1/\w.cell? ⟨b,off+i*3+2,none⟩=some v2/\qT w lo hi v0 v1 v2 (f i)):=g1;have Hn:Hid (n+zAP f n<=1048576):=hn;clear g1;have rA:=zB1 31 127 (.agg #[.int .i64 0,.slice none 0 0,.string ⟨#[]⟩]) 3 48 (by kernel_rfl) zFV rfl n (by omega) (by omega);clear hn;go_enter Tryz.func87,Tryz.ntmps87;go_wp2
 go_loopw [4] (fun i wr=>∃(k:Nat) (kb:Nat->Nat) (kv:Nat->Value),k<=n/\i = .int .i64 k/\zKj wr w.heap.size n k f kb kv/\Below w.heap.size w wr/\w.heap.size<wr.heap.size) (fun i _=>n - (intOf i).toNat)
 case atStart=>exact⟨0,fun _=>0,fun _=>.slice none 0 0,Nat.zero_le _,rfl,⟨fun j hj=>by rw[if_neg (by omega)];exact zMr hj rfl,fun i j hi=>absurd hi (by omega),fun j hj=>absurd hj (by omega)⟩,zC _ _,by simp⟩
 case round=>
  obtain⟨k,kb,kv,hk,rfl,aA,hb,jA⟩:=hrel;by_cases dA:k<n
  ·have oA:(k:Int)<(n:Int):=(by omega);obtain⟨b,off,rfl,_,_,k1⟩:=G1.out (by omega);obtain⟨x0,x1,x2,c0,c1,c2,hs⟩:=k1 k dA;have lA:=(hb.cell (zD c0)).trans c0;have mA:=(hb.cell (zD c1)).trans c1;have nA:=(hb.cell (zD c2)).trans c2;have iA:=hs.zO9 hb;have Hs:Hid (qT wr lo hi x0 x1 x2 (f k)):=iA;clear k1 G1 c0 c1 c2 hs;obtain⟨rfl,⟨_,ka,kc,rfl,_⟩,rfl,bA⟩:=iA;go_wp2_with fail;refine(zLX _ _ _ lo hi (f k) _ Hs.out (by have h1:=Hn.out;have h2:=zFA f dA;unfold zCE at h2;omega)).mono ?_;rintro e w1 ⟨⟨nv,nb,rfl,hp,eA,fA⟩,cA⟩;have kA:=zA hb cA;have hz:=(aA.slots k dA).zO9 cA;obtain⟨e0,e1⟩:=hz.zPI;obtain⟨e2,e3⟩:=hz.kidsv;obtain⟨e4,e5⟩:=hz.data;clear lA mA nA hz;rw[Nat.zero_add]at e0 e1 e2 e3 e4 e5;have Hp:Hid (zj w1 nb nv (f k).kn (f k).ks (f k).kb):=hp;obtain⟨_,na,nc,rfl,_⟩:=hp;have gA:w.heap.size<w1.heap.size:=(by have:=cA.size;omega);go_wp2;go_roundw
   case rel=>
    refine⟨k+1,(fun j=>if j=k then nb else kb j),(fun j=>if j=k then .slice na (f k).kn nc else kv j),by omega,by go_num,?_,((kA.setCell (Nat.le_refl _) _).setCell (Nat.le_refl _) _).setCell (Nat.le_refl _) _,by simpa using gA⟩;have hx:=aA.next dA jA cA Hp.out eA fA bA;rw[Nat.zero_add]at hx;exact hx
   case measure=>simp[intOf];omega
  ·obtain rfl:k=n:=(by omega);go_wp2;go_ret;refine⟨⟨_,kb,kv,rfl,⟨pA,_,k,rfl,Nat.le_refl _,fun _=>⟨0,rfl,fun i hi=>?_⟩⟩,aA.zPJ,aA.zPM⟩,hb,jA⟩;have:=aA.slots i hi;rw[if_pos hi]at this;exact this
theorem zLV(v0 v1:Value)(lo hi:Nat)(p:zN)(w:World)(h1:qS w lo hi v0 v1 p)(hn:yL p<=1048576):Calls Tryz.prog 30 #[.agg #[v0,v1]] w (zIc p w):=by
 have q1:=h1;obtain⟨⟨_,a,c,rfl,_⟩,⟨_,a',c',rfl,_⟩⟩:=h1;unfold yL at hn;go_enter Tryz.func30,Tryz.ntmps30;go_wp2_with fail;have pA:=zC w (.cells #[.slice a p.n c,.slice a' p.hn c'] 25);have rA:=zA pA (zC _ (.cells #[.slice none 0 0,.slice none 0 0] 33));have jA:=zA rA (zC _ (.cells #[.slice none 0 0,.slice none 0 0] 33));refine(zKa _ p.n lo hi p.s _ (q1.1.zO9 jA) (by omega)).mono ?_;rintro e w1 ⟨⟨sv,kb,kv,rfl,bA,sA,lA⟩,fA,cB⟩;have HB:Hid (zp w1 w.heap.size (.slice a p.n c) (.slice a' p.hn c')):=(((zp.new w _ _ _).zO9 (zC _ _)).zO9 (zC _ _)).zO9 fA;have HR:Hid (zp w1 (w.heap.size+1) (.slice none 0 0) (.slice none 0 0)):=by
  have:=(((zp.new (w.alloc (.cells #[.slice a p.n c,.slice a' p.hn c'] 25)) (.slice none 0 0) (.slice none 0 0) 33).zO9 (zC _ _)).zO9 fA);rw[World.size_alloc]at this;exact this
 have HO:Hid (zp w1 (w.heap.size+1+1) (.slice none 0 0) (.slice none 0 0)):=by
  have:=((zp.new ((w.alloc (.cells #[.slice a p.n c,.slice a' p.hn c'] 25)).alloc (.cells #[.slice none 0 0,.slice none 0 0] 33)) (.slice none 0 0) (.slice none 0 0) 33).zO9 fA);rw[World.size_alloc,World.size_alloc]at this;exact this
 have tA:=zA jA fA;rw[World.size_alloc,World.size_alloc,World.size_alloc]at bA lA cB;have dA:Hid (qO w1 (w.heap.size+1+1+1) kb kv sv p.n p.s):=bA;have aB:Hid (yJ kb p.n p.s):=sA;have iA:Hid (∀j,j<p.n->0<(p.s j).kn->w.heap.size+1+1+1<kb j/\kb j<w1.heap.size):=lA;obtain⟨_,sa,sc,rfl,_⟩:=bA;clear sA lA pA rA jA fA;obtain⟨⟨x0,x1⟩,⟨x2,x3⟩⟩:=HB.out;obtain⟨⟨z0,z1⟩,⟨z2,z3⟩⟩:=HO.out;go_wp2_with fail;have kA:=tA.setCell (p:=⟨w.heap.size+1+1,0,none⟩) (by show _<=w.heap.size+1+1;omega) (.slice sa p.n sc);refine(zJR _ p.hn lo hi p.h _ (q1.2.zO9 kA) (by omega)).mono ?_;rintro e w2 ⟨⟨hv,rfl,aA⟩,gA,mA⟩;rw[World.size_setCell]at aA mA;have bB:=zA kA gA;have nA:Hid (zp w2 (w.heap.size+1) (.slice none 0 0) (.slice none 0 0)):=(HR.out.zPA _ (by omega)).zO9 gA;have vA:Hid (zp w2 (w.heap.size+1+1) (.slice sa p.n sc) (.slice none 0 0)):=(show zp (w1.setCell ⟨w.heap.size+1+1,0,none⟩ (.slice sa p.n sc)) (w.heap.size+1+1) (.slice sa p.n sc) (.slice none 0 0)from⟨HO.out.1.set _,HO.out.2.zPA _ (Or.inr (by omega))⟩).zO9 gA;have eA:Hid (qO w2 (w.heap.size+1+1+1) kb kv (.slice sa p.n sc) p.n p.s):=
  (dA.out.zPF (zF.put _ _ _ _) (fun _ e=>by omega) (fun i hi h0 e=>by have:=iA.out i hi h0;omega)).zO9 gA
 have cA:Hid (qd w2 w1.heap.size hv p.hn p.h):=aA;obtain⟨_,ia,ic,rfl,_⟩:=aA;clear x0 x1 x2 x3 z0 z1 z2 z3 gA kA HB HR HO dA tA;obtain⟨⟨y0,y1⟩,⟨y2,y3⟩⟩:=nA.out;obtain⟨⟨z0,z1⟩,⟨z2,z3⟩⟩:=vA.out;go_wp2;have oA:=(nA.out.zPA (b':=w.heap.size+1+1) (o':=1) (.slice ia p.hn ic) (by omega)).put (.slice sa p.n sc) (.slice ia p.hn ic);refine bodyPost_ret (v:=.agg #[.slice sa p.n sc,.slice ia p.hn ic]) (by simp[results,Tryz.results30,go_sem,oA.1.1,oA.2.1]) rfl ⟨_,_,rfl,?_,?_⟩
 ·refine⟨w.heap.size+1+1+1,w1.heap.size,kb,kv,?_,aB.out,?_,?_,?_⟩
  ·have pl:=iA.out;refine((eA.out.zPF (zF.put _ _ _ _) ?_ ?_).zPF (zF.put _ _ _ _) ?_ ?_).zPF (zF.put _ _ _ _) ?_ ?_
   ·exact fun _ e=>by omega
   ·exact fun i hi h0 e=>by have:=pl i hi h0;omega
   ·exact fun _ e=>by omega
   ·exact fun i hi h0 e=>by have:=pl i hi h0;omega
   ·exact fun _ e=>by omega
   ·exact fun i hi h0 e=>by have:=pl i hi h0;omega
  ·exact((cA.out.put _ (by omega)).put _ (by omega)).put _ (by omega)
  ·rintro h0 (⟨_,e⟩ | ⟨i,hi,h1,e⟩)
   ·omega
   ·have:=iA.out i hi h1;omega
  ·simp only[World.size_setCell];rintro k ((⟨_,rfl⟩ | ⟨i,hi,h1,rfl⟩) | ⟨_,rfl⟩)
   ·omega
   ·have:=iA.out i hi h1;omega
   ·omega
 ·exact((bB.setCell (by show _<=w.heap.size+1+1;omega) _).setCell (by show _<=w.heap.size+1;omega) _).setCell (by show _<=w.heap.size+1;omega) _
open Go.Maps
theorem zg.off6{w:World}{b:Nat}{a0 a1 a2 a3 a4 a5:Value}(h:zg w b a0 a1 a2 a3 a4 a5){b':Nat}(o:Nat)(u:Value)(o':Nat)(u':Value)(aA:b'≠b):zg ((w.setCell ⟨b',o,none⟩ u).setCell ⟨b',o',none⟩ u') b a0 a1 a2 a3 a4 a5:=by
 obtain⟨h0,h1,h2,h3,h4,h5⟩:=h;have hc:∀{j:Nat} {v:Value},zQ w b j v->zQ ((w.setCell ⟨b',o,none⟩ u).setCell ⟨b',o',none⟩ u') b j v:=fun hc=>(hc.zPA _ (Or.inl aA)).zPA _ (Or.inl aA)
 exact⟨hc h0,hc h1,hc h2,hc h3,hc h4,hc h5⟩
theorem zg.mid6{w:World}{b:Nat}{a0 a1 a2 a3 a4 a5:Value}(h:zg w b a0 a1 a2 a3 a4 a5)(u u':Value):zg ((w.setCell ⟨b,3,none⟩ u).setCell ⟨b,4,none⟩ u') b a0 a1 a2 u u' a5:=by
 obtain⟨h0,h1,h2,h3,h4,h5⟩:=h;exact⟨(h0.zPA _ (Or.inr (by omega))).zPA _ (Or.inr (by omega)),(h1.zPA _ (Or.inr (by omega))).zPA _ (Or.inr (by omega)),(h2.zPA _ (Or.inr (by omega))).zPA _ (Or.inr (by omega)),(h3.set _).zPA _ (Or.inr (by omega)),(h4.zPA _ (Or.inr (by omega))).set _,(h5.zPA _ (Or.inr (by omega))).zPA _ (Or.inr (by omega))⟩
theorem zMp(v:Value)(lo hi:Nat)(s:zv)(w:World)(h1:zR w lo hi v s.dn s.ds s.db)(hn:s.dn<=1048576) :
  Calls Tryz.prog 89 #[zDC v s] w fun e w'=>(∃v' b,e = .returned (zDC v' s)/\zj w' b v' s.dn s.ds s.db/\w.heap.size<=b/\b<w'.heap.size)/\Below w.heap.size w w':=by
 unfold zDC;have H1:=zB h1;obtain⟨-,a,c,rfl,-⟩:=id h1;clear h1;have kA:∀Wa Wb Wc:World,Wa=w.alloc (.cells #[.string s.name,.int .i64 s.origin,.int .i64 s.zPH,.int .i64 s.rs,.int .i64 s.rb,.slice a s.dn c] 116)->Wb=Wa.alloc (.cells #[.string ⟨#[]⟩,.int .i64 0,.int .i64 0,.int .i64 0,.int .i64 0,.slice none 0 0] 67)->Wc=Wb.alloc (.cells #[.string s.name,.int .i64 s.origin,.int .i64 s.zPH,.int .i64 0,.int .i64 0,.slice none 0 0] 67)->zg Wc w.heap.size (.string s.name) (.int .i64 s.origin) (.int .i64 s.zPH) (.int .i64 s.rs) (.int .i64 s.rb) (.slice a s.dn c)/\zg Wc (w.heap.size+1) (.string ⟨#[]⟩) (.int .i64 0) (.int .i64 0) (.int .i64 0) (.int .i64 0) (.slice none 0 0)/\zg Wc (w.heap.size+1+1) (.string s.name) (.int .i64 s.origin) (.int .i64 s.zPH) (.int .i64 0) (.int .i64 0) (.slice none 0 0)/\Below w.heap.size w Wc/\Wc.heap.size=w.heap.size+3:=by
  rintro Wa Wb Wc ea eb ec;have ha:=zC w (.cells #[.string s.name,.int .i64 s.origin,.int .i64 s.zPH,.int .i64 s.rs,.int .i64 s.rb,.slice a s.dn c] 116);have h1:=zg.new w (.string s.name) (.int .i64 s.origin) (.int .i64 s.zPH) (.int .i64 s.rs) (.int .i64 s.rb) (.slice a s.dn c) 116;have z1:Wa.heap.size=w.heap.size+1:=(by rw[ea];exact World.size_alloc _ _);rw[<-ea]at ha h1;have hb:=zC Wa (.cells #[.string ⟨#[]⟩,.int .i64 0,.int .i64 0,.int .i64 0,.int .i64 0,.slice none 0 0] 67);have h2:=zg.new Wa (.string ⟨#[]⟩) (.int .i64 0) (.int .i64 0) (.int .i64 0) (.int .i64 0) (.slice none 0 0) 67;have z2:Wb.heap.size=w.heap.size+1+1:=(by rw[eb,World.size_alloc,z1]);rw[<-eb,z1]at h2;rw[<-eb]at hb;have hc:=zC Wb (.cells #[.string s.name,.int .i64 s.origin,.int .i64 s.zPH,.int .i64 0,.int .i64 0,.slice none 0 0] 67);have h3:=zg.new Wb (.string s.name) (.int .i64 s.origin) (.int .i64 s.zPH) (.int .i64 0) (.int .i64 0) (.slice none 0 0) 67;have z3:Wc.heap.size=w.heap.size+3:=(by rw[ec,World.size_alloc,z2]);rw[<-ec,z2]at h3;rw[<-ec]at hc;exact⟨(h1.zO9 hb).zO9 hc,h2.zO9 hc,h3,zA (zA ha hb) hc,z3⟩
 obtain⟨hx,hy,hz,gA,lA⟩:=kA _ _ _ rfl rfl rfl;have HX:=zB hx;have HY:=zB hy;have HZ:=zB hz;have HS:=zB lA;clear hx hy hz kA lA;go_enter Tryz.func89,Tryz.ntmps89;go_wp2_with fail;generalize ((w.alloc (.cells #[.string s.name,.int .i64 s.origin,.int .i64 s.zPH,.int .i64 s.rs,.int .i64 s.rb,.slice a s.dn c] 116)).alloc (.cells #[.string ⟨#[]⟩,.int .i64 0,.int .i64 0,.int .i64 0,.int .i64 0,.slice none 0 0] 67)).alloc (.cells #[.string s.name,.int .i64 s.origin,.int .i64 s.zPH,.int .i64 0,.int .i64 0,.slice none 0 0] 67)=W0 at HX HY HZ HS gA ⊢;refine(zFg s.rs s.rb W0).mono ?_;rintro e w1 ⟨rfl,aA⟩;have dA:=zB ((HX.out.zO9 aA).off6 3 (.int .i64 s.rs) 4 (.int .i64 s.rb) (show w.heap.size+1+1≠_ by omega));have eA:=zB ((HY.out.zO9 aA).off6 3 (.int .i64 s.rs) 4 (.int .i64 s.rb) (show w.heap.size+1+1≠_ by omega));have fA:=zB ((HZ.out.zO9 aA).mid6 (.int .i64 s.rs) (.int .i64 s.rb));have cA:Below w.heap.size w ((w1.setCell ⟨w.heap.size+1+1,3,none⟩ (.int .i64 s.rs)).setCell ⟨w.heap.size+1+1,4,none⟩ (.int .i64 s.rb)):=((zA gA aA).setCell (by show _<=w.heap.size+1+1;omega) _).setCell (by show _<=w.heap.size+1+1;omega) _;have iA:=zB (show w.heap.size+3<=((w1.setCell ⟨w.heap.size+1+1,3,none⟩ (.int .i64 s.rs)).setCell ⟨w.heap.size+1+1,4,none⟩ (.int .i64 s.rb)).heap.size by simp only[World.size_setCell];have:=aA.size;have:=HS.out;omega);obtain⟨⟨x0,mA⟩,⟨x1,nA⟩,⟨x2,oA⟩,⟨x3,pA⟩,⟨x4,rA⟩,⟨x5,sA⟩⟩:=HX.out.zO9 aA;obtain⟨⟨z0,tA⟩,⟨z1,vA⟩,⟨z2,aB⟩,⟨z3,bB⟩,⟨z4,cB⟩,⟨z5,dB⟩⟩:=HZ.out.zO9 aA;clear aA gA HX HY HZ HS;go_wp2_with fail;clear x0 x1 x2 x3 x4 x5 z0 z1 z2 z3 z4 z5 mA nA oA pA rA sA tA vA aB bB cB dB;generalize (w1.setCell ⟨w.heap.size+1+1,3,none⟩ (.int .i64 s.rs)).setCell ⟨w.heap.size+1+1,4,none⟩ (.int .i64 s.rb)=W1 at dA eA fA iA cA ⊢;refine(zEa _ s.dn lo hi _ _ W1 (H1.out.zO9 cA) hn).mono ?_;rintro e w2 ⟨⟨v',rfl,ho⟩,bA,iB⟩;obtain⟨-,av,cv,rfl,-,-⟩:=id ho;have HO:=zB ho;have eB:=zB (dA.out.zO9 bA);have jA:=zB (eA.out.zO9 bA);have fB:=zB (fA.out.zO9 bA);have gB:=zA cA bA;clear ho bA dA eA fA cA;obtain⟨⟨x0,mA⟩,⟨x1,nA⟩,⟨x2,oA⟩,⟨x3,pA⟩,⟨x4,rA⟩,⟨x5,sA⟩⟩:=eB.out;obtain⟨⟨y0,kB⟩,⟨y1,lB⟩,⟨y2,mB⟩,⟨y3,nB⟩,⟨y4,oB⟩,⟨y5,pB⟩⟩:=jA.out;obtain⟨⟨z0,tA⟩,⟨z1,vA⟩,⟨z2,aB⟩,⟨z3,bB⟩,⟨z4,cB⟩,⟨z5,dB⟩⟩:=fB.out;go_wp2;have HR:=(show zg (w2.setCell ⟨w.heap.size+1+1,5,none⟩ (.slice av s.dn cv)) (w.heap.size+1) _ _ _ _ _ _ from(by
  obtain⟨h0,h1,h2,h3,h4,h5⟩:=jA.out;have hc:∀{j:Nat} {v:Value},zQ w2 (w.heap.size+1) j v->zQ (w2.setCell ⟨w.heap.size+1+1,5,none⟩ (.slice av s.dn cv)) (w.heap.size+1) j v:=fun hc=>hc.zPA _ (Or.inl (by omega))
  exact⟨hc h0,hc h1,hc h2,hc h3,hc h4,hc h5⟩)).put (.string s.name) (.int .i64 s.origin) (.int .i64 s.zPH) (.int .i64 s.rs) (.int .i64 s.rb) (.slice av s.dn cv)
 have jB:=iA.out;refine bodyPost_ret (v:=.agg #[.string s.name,.int .i64 s.origin,.int .i64 s.zPH,.int .i64 s.rs,.int .i64 s.rb,.slice av s.dn cv]) (by simp[results,Tryz.results89,go_sem,HR.1.1,HR.2.1.1,HR.2.2.1.1,HR.2.2.2.1.1,HR.2.2.2.2.1.1,HR.2.2.2.2.2.1]) rfl ⟨⟨_,W1.heap.size,rfl,?_,by omega,by simpa using iB⟩,?_⟩
 ·exact((((((HO.out.put _ (by omega)).put _ (by omega)).put _ (by omega)).put _ (by omega)).put _ (by omega)).put _ (by omega)).put _ (by omega)
 ·exact((((((gB.setCell (by show _<=w.heap.size+1+1;omega) _).setCell (by show _<=w.heap.size+1;omega) _).setCell (by show _<=w.heap.size+1;omega) _).setCell (by show _<=w.heap.size+1;omega) _).setCell (by show _<=w.heap.size+1;omega) _).setCell (by show _<=w.heap.size+1;omega) _).setCell (by show _<=w.heap.size+1;omega) _
theorem zLY(v:Value)(lo hi:Nat)(s:zY)(w:World)(h1:zR w lo hi v s.dn s.ds s.db)(hn:s.dn<=1048576) :
  Calls Tryz.prog 90 #[qX v s] w fun e w'=>(∃v' b,e = .returned (qX v' s)/\zj w' b v' s.dn s.ds s.db/\w.heap.size<=b/\b<w'.heap.size)/\Below w.heap.size w w':=by
 unfold qX;have H1:=zB h1;obtain⟨-,a,c,rfl,-⟩:=id h1;clear h1;have kA:∀Wa Wb Wc:World,Wa=w.alloc (.cells #[.int .i64 s.id,.string s.name,.string s.set,.int .i64 s.zPH,.int .i64 s.time,.int .i64 s.rs,.int .i64 s.rb,.slice a s.dn c] 119)->Wb=Wa.alloc (.cells #[.int .i64 0,.string ⟨#[]⟩,.string ⟨#[]⟩,.int .i64 0,.int .i64 0,.int .i64 0,.int .i64 0,.slice none 0 0] 99)->Wc=Wb.alloc (.cells #[.int .i64 s.id,.string s.name,.string s.set,.int .i64 s.zPH,.int .i64 s.time,.int .i64 0,.int .i64 0,.slice none 0 0] 99)->zB6 Wc w.heap.size (.int .i64 s.id) (.string s.name) (.string s.set) (.int .i64 s.zPH) (.int .i64 s.time) (.int .i64 s.rs) (.int .i64 s.rb) (.slice a s.dn c)/\zB6 Wc (w.heap.size+1) (.int .i64 0) (.string ⟨#[]⟩) (.string ⟨#[]⟩) (.int .i64 0) (.int .i64 0) (.int .i64 0) (.int .i64 0) (.slice none 0 0)/\zB6 Wc (w.heap.size+1+1) (.int .i64 s.id) (.string s.name) (.string s.set) (.int .i64 s.zPH) (.int .i64 s.time) (.int .i64 0) (.int .i64 0) (.slice none 0 0)/\Below w.heap.size w Wc/\Wc.heap.size=w.heap.size+3:=by
  rintro Wa Wb Wc ea eb ec;have ha:=zC w (.cells #[.int .i64 s.id,.string s.name,.string s.set,.int .i64 s.zPH,.int .i64 s.time,.int .i64 s.rs,.int .i64 s.rb,.slice a s.dn c] 119);have h1:=zB6.new w (.int .i64 s.id) (.string s.name) (.string s.set) (.int .i64 s.zPH) (.int .i64 s.time) (.int .i64 s.rs) (.int .i64 s.rb) (.slice a s.dn c) 119;have z1:Wa.heap.size=w.heap.size+1:=(by rw[ea];exact World.size_alloc _ _);rw[<-ea]at ha h1;have hb:=zC Wa (.cells #[.int .i64 0,.string ⟨#[]⟩,.string ⟨#[]⟩,.int .i64 0,.int .i64 0,.int .i64 0,.int .i64 0,.slice none 0 0] 99);have h2:=zB6.new Wa (.int .i64 0) (.string ⟨#[]⟩) (.string ⟨#[]⟩) (.int .i64 0) (.int .i64 0) (.int .i64 0) (.int .i64 0) (.slice none 0 0) 99;have z2:Wb.heap.size=w.heap.size+1+1:=(by rw[eb,World.size_alloc,z1]);rw[<-eb,z1]at h2;rw[<-eb]at hb;have hc:=zC Wb (.cells #[.int .i64 s.id,.string s.name,.string s.set,.int .i64 s.zPH,.int .i64 s.time,.int .i64 0,.int .i64 0,.slice none 0 0] 99);have h3:=zB6.new Wb (.int .i64 s.id) (.string s.name) (.string s.set) (.int .i64 s.zPH) (.int .i64 s.time) (.int .i64 0) (.int .i64 0) (.slice none 0 0) 99;have z3:Wc.heap.size=w.heap.size+3:=(by rw[ec,World.size_alloc,z2]);rw[<-ec,z2]at h3;rw[<-ec]at hc;exact⟨(h1.zO9 hb).zO9 hc,h2.zO9 hc,h3,zA (zA ha hb) hc,z3⟩
 obtain⟨hx,hy,hz,gA,lA⟩:=kA _ _ _ rfl rfl rfl;have HX:=zB hx;have HY:=zB hy;have HZ:=zB hz;have HS:=zB lA;clear hx hy hz kA lA;go_enter Tryz.func90,Tryz.ntmps90;go_wp2_with fail;generalize ((w.alloc (.cells #[.int .i64 s.id,.string s.name,.string s.set,.int .i64 s.zPH,.int .i64 s.time,.int .i64 s.rs,.int .i64 s.rb,.slice a s.dn c] 119)).alloc (.cells #[.int .i64 0,.string ⟨#[]⟩,.string ⟨#[]⟩,.int .i64 0,.int .i64 0,.int .i64 0,.int .i64 0,.slice none 0 0] 99)).alloc (.cells #[.int .i64 s.id,.string s.name,.string s.set,.int .i64 s.zPH,.int .i64 s.time,.int .i64 0,.int .i64 0,.slice none 0 0] 99)=W0 at HX HY HZ HS gA ⊢;refine(zFg s.rs s.rb W0).mono ?_;rintro e w1 ⟨rfl,aA⟩;have dA:=zB ((HX.out.zO9 aA).off8 5 (.int .i64 s.rs) 6 (.int .i64 s.rb) (show w.heap.size+1+1≠_ by omega));have eA:=zB ((HY.out.zO9 aA).off8 5 (.int .i64 s.rs) 6 (.int .i64 s.rb) (show w.heap.size+1+1≠_ by omega));have fA:=zB ((HZ.out.zO9 aA).mid8 (.int .i64 s.rs) (.int .i64 s.rb));have cA:Below w.heap.size w ((w1.setCell ⟨w.heap.size+1+1,5,none⟩ (.int .i64 s.rs)).setCell ⟨w.heap.size+1+1,6,none⟩ (.int .i64 s.rb)):=((zA gA aA).setCell (by show _<=w.heap.size+1+1;omega) _).setCell (by show _<=w.heap.size+1+1;omega) _;have iA:=zB (show w.heap.size+3<=((w1.setCell ⟨w.heap.size+1+1,5,none⟩ (.int .i64 s.rs)).setCell ⟨w.heap.size+1+1,6,none⟩ (.int .i64 s.rb)).heap.size by simp only[World.size_setCell];have:=aA.size;have:=HS.out;omega);obtain⟨⟨x0,mA⟩,⟨x1,nA⟩,⟨x2,oA⟩,⟨x3,pA⟩,⟨x4,rA⟩,⟨x5,sA⟩,⟨x6,tA⟩,⟨x7,vA⟩⟩:=HX.out.zO9 aA;obtain⟨⟨z0,aB⟩,⟨z1,bB⟩,⟨z2,cB⟩,⟨z3,dB⟩,⟨z4,eB⟩,⟨z5,fB⟩,⟨z6,gB⟩,⟨z7,iB⟩⟩:=HZ.out.zO9 aA;clear aA gA HX HY HZ HS;go_wp2_with fail;clear x0 x1 x2 x3 x4 x5 x6 x7 mA nA oA pA rA sA tA vA z0 z1 z2 z3 z4 z5 z6 z7 aB bB cB dB eB fB gB iB;generalize (w1.setCell ⟨w.heap.size+1+1,5,none⟩ (.int .i64 s.rs)).setCell ⟨w.heap.size+1+1,6,none⟩ (.int .i64 s.rb)=W1 at dA eA fA iA cA ⊢;refine(zEa _ s.dn lo hi _ _ W1 (H1.out.zO9 cA) hn).mono ?_;rintro e w2 ⟨⟨v',rfl,ho⟩,bA,mB⟩;obtain⟨-,av,cv,rfl,-,-⟩:=id ho;have HO:=zB ho;have jB:=zB (dA.out.zO9 bA);have jA:=zB (eA.out.zO9 bA);have kB:=zB (fA.out.zO9 bA);have lB:=zA cA bA;clear ho bA dA eA fA cA;obtain⟨⟨x0,mA⟩,⟨x1,nA⟩,⟨x2,oA⟩,⟨x3,pA⟩,⟨x4,rA⟩,⟨x5,sA⟩,⟨x6,tA⟩,⟨x7,vA⟩⟩:=jB.out;obtain⟨⟨y0,oB⟩,⟨y1,pB⟩,⟨y2,rB⟩,⟨y3,sB⟩,⟨y4,tB⟩,⟨y5,vB⟩,⟨y6,aC⟩,⟨y7,bC⟩⟩:=jA.out;obtain⟨⟨z0,aB⟩,⟨z1,bB⟩,⟨z2,cB⟩,⟨z3,dB⟩,⟨z4,eB⟩,⟨z5,fB⟩,⟨z6,gB⟩,⟨z7,iB⟩⟩:=kB.out;go_wp2;have HR:=(show zB6 (w2.setCell ⟨w.heap.size+1+1,7,none⟩ (.slice av s.dn cv)) (w.heap.size+1) _ _ _ _ _ _ _ _ from(by
  obtain⟨h0,h1,h2,h3,h4,h5,h6,h7⟩:=jA.out;have hc:∀{j:Nat} {v:Value},zQ w2 (w.heap.size+1) j v->zQ (w2.setCell ⟨w.heap.size+1+1,7,none⟩ (.slice av s.dn cv)) (w.heap.size+1) j v:=fun hc=>hc.zPA _ (Or.inl (by omega))
  exact⟨hc h0,hc h1,hc h2,hc h3,hc h4,hc h5,hc h6,hc h7⟩)).put (.int .i64 s.id) (.string s.name) (.string s.set) (.int .i64 s.zPH) (.int .i64 s.time) (.int .i64 s.rs) (.int .i64 s.rb) (.slice av s.dn cv)
 have nB:=iA.out;refine bodyPost_ret (v:=.agg #[.int .i64 s.id,.string s.name,.string s.set,.int .i64 s.zPH,.int .i64 s.time,.int .i64 s.rs,.int .i64 s.rb,.slice av s.dn cv]) (by simp[results,Tryz.results90,go_sem,HR.1.1,HR.2.1.1,HR.2.2.1.1,HR.2.2.2.1.1,HR.2.2.2.2.1.1,HR.2.2.2.2.2.1.1,HR.2.2.2.2.2.2.1.1,HR.2.2.2.2.2.2.2.1]) rfl ⟨⟨_,W1.heap.size,rfl,?_,by omega,by simpa using mB⟩,?_⟩
 ·exact(((((((((HO.out.put _ (by omega)).put _ (by omega)).put _ (by omega)).put _ (by omega)).put _ (by omega)).put _ (by omega)).put _ (by omega)).put _ (by omega)).put _ (by omega))
 ·exact(((((((((lB.setCell (by show _<=w.heap.size+1+1;omega) _).setCell (by show _<=w.heap.size+1;omega) _).setCell (by show _<=w.heap.size+1;omega) _).setCell (by show _<=w.heap.size+1;omega) _).setCell (by show _<=w.heap.size+1;omega) _).setCell (by show _<=w.heap.size+1;omega) _).setCell (by show _<=w.heap.size+1;omega) _).setCell (by show _<=w.heap.size+1;omega) _).setCell (by show _<=w.heap.size+1;omega) _)
theorem zKM(f:Nat->zv):∀{n i:Nat},i<n->zDh (f i)<=zAY f n
 | n+1,i,h=>by
  show zDh (f i)<=zAY f n+zDh (f n);by_cases e:i=n
  ·subst e;omega
  ·have:=zKM f (show i<n by omega);omega
theorem zIS(f:Nat->zY):∀{n i:Nat},i<n->zAd (f i)<=qk f n
 | n+1,i,h=>by
  show zAd (f i)<=qk f n+zAd (f n);by_cases e:i=n
  ·subst e;omega
  ·have:=zIS f (show i<n by omega);omega
theorem zJS{W:zE}(h:yD W<=1048576):zDE W:=by
 unfold yD at h;refine⟨fun i hi=>?_,fun i hi=>?_⟩
 ·have:=zKM W.zPG hi;unfold zDh at this;omega
 ·have:=zIS W.zPD hi;unfold zAd at this;omega
theorem zNB(W:zE)(k0:Int):zAZ W k0<=k0+8*(yD W:Int):=by
 have h1:=zFQ W.zPE.s k0 W.zPE.n;have h2:=zCp W k0;have h3:=zEL W.zPG (zAg W.zPE k0) W.sn;have h4:=zDP W.zPD (zc W.zPG (zAg W.zPE k0) W.sn) W.pn;have h7:yD W=W.zPE.n+zAP W.zPE.s W.zPE.n+W.zPE.hn+(W.sn+zAY W.zPG W.sn)+(W.pn+qk W.zPD W.pn):=rfl;have h5:zAg W.zPE k0=qL W.zPE.s k0 W.zPE.n+W.zPE.hn:=rfl;have h6:zAZ W k0=zM W.zPD (zc W.zPG (zAg W.zPE k0) W.sn) W.pn:=rfl;generalize zAg W.zPE k0=e at *;generalize zc W.zPG e W.sn=s at *;omega
theorem zDR{W:zE}{k0:Int}(h:yD W<=4000000)(h0:0<=k0)(h1:k0<=100000000):zAZ W k0<=1000000000000/\0<=zAZ W k0:=by
 have:=zNB W k0;have:=zCp W k0;omega
theorem zFG{W:zE}(h:yD W<=1048576):yL W.zPE<=1048576/\W.sn<=1048576/\W.pn<=1048576/\zDE W:=by
 refine⟨?_,?_,?_,zJS h⟩
 all_goals
  unfold yD at h;omega
theorem zES(c:Int)(w:World):Calls Tryz.prog 25 #[.int .i64 c] w fun e w'=>e = .returned (.agg #[.slice none 0 0,.slice none 0 0,.int .i64 0,.int .i64 0,.slice none 0 0,.slice none 0 0,.int .i64 0,.int .i64 0,.int .i64 c])/\Below w.heap.size w w':=by
 have ha:=zC w (.cells #[.slice none 0 0,.slice none 0 0,.int .i64 0,.int .i64 0,.slice none 0 0,.slice none 0 0,.int .i64 0,.int .i64 0,.int .i64 c] 39);have aA:=yM.new w (.slice none 0 0) (.slice none 0 0) (.int .i64 0) (.int .i64 0) (.slice none 0 0) (.slice none 0 0) (.int .i64 0) (.int .i64 0) (.int .i64 c) 39;go_enter Tryz.func25,Tryz.ntmps25;go_wp2_with fail;refine bodyPost_ret (v:=.agg #[.slice none 0 0,.slice none 0 0,.int .i64 0,.int .i64 0,.slice none 0 0,.slice none 0 0,.int .i64 0,.int .i64 0,.int .i64 c]) (by simp[results,Tryz.results25,go_sem,aA.1.1,aA.2.1.1,aA.2.2.1.1,aA.2.2.2.1.1,aA.2.2.2.2.1.1,aA.2.2.2.2.2.1.1,aA.2.2.2.2.2.2.1.1,aA.2.2.2.2.2.2.2.1.1,aA.2.2.2.2.2.2.2.2.1]) rfl ?_;exact⟨rfl,ha⟩
def zAH(W:zE)(sid:Int)(oo:zAk):Prop:=∃r o,zFN W (∃i,i<0/\8000<((fun (_:Nat)=>(⟨#[]⟩:ByteArray)) i).size) (∃i,i<0/\¬yE ((fun _=>⟨#[]⟩) i)) 2 (fun i=>match i with | 0=>qD W sid | _=>yw W sid=1) (fun i=>match i with | 0=>2 | _=>5) r/\(r=none->∃k,qM W sid k/\((∃i,zBb W sid i/\o=⟨zG0 W k i,0,((zCQ W k i).length:Int),0⟩)\/∃i,zBc W sid i/\o=⟨zG1 W k i,0,((zCR W k i).length:Int),0⟩))/\oo=zLI r o
theorem zOF{W:zE}{aA:Int}{k:Nat}{o o':zAk}(h:((∃i,zBb W aA i/\o=⟨zG0 W k i,0,((zCQ W k i).length:Int),0⟩)\/∃i,zBc W aA i/\o=⟨zG1 W k i,0,((zCR W k i).length:Int),0⟩))(h':((∃i,zBb W aA i/\o'=⟨zG0 W k i,0,((zCQ W k i).length:Int),0⟩)\/∃i,zBc W aA i/\o'=⟨zG1 W k i,0,((zCR W k i).length:Int),0⟩)):o=o':=by
 rcases h with⟨i,h1,rfl⟩ | ⟨i,h1,rfl⟩
 ·rcases h' with⟨j,h2,rfl⟩ | ⟨j,h2,rfl⟩
  ·obtain rfl:i=j:=Classical.byContradiction fun e=>h2.2.2.1 i h1.1 e h1.2.1
   rfl
  ·exact absurd h1.2.1 (h2.2.2.2 i h1.1)
 ·rcases h' with⟨j,h2,rfl⟩ | ⟨j,h2,rfl⟩
  ·exact absurd h1.2.1 (h2.2.2.2 i h1.1)
  ·obtain rfl:i=j:=Classical.byContradiction fun e=>h2.2.2.1 i h1.1 e h1.2.1
   rfl
theorem zAH.uniq{W:zE}{aA:Int}{o o':zAk}(h:zAH W aA o)(h':zAH W aA o'):o=o':=by
 obtain⟨r,a,h1,h2,rfl⟩:=h;obtain⟨r',b,g1,g2,rfl⟩:=h';obtain rfl:=h1.uniq g1;cases r with
 | some i=>rfl
 | none=>
  obtain⟨k,hk,h3⟩:=h2 rfl;obtain⟨k',bA,h4⟩:=g2 rfl;obtain rfl:=hk.uniq bA;rw[zOF h3 h4]
open Classical in
noncomputable def qU(W:zE)(sid:Int):zAk:=if h:∃o,zAH W sid o then h.choose else zCD 0
theorem zCF{W:zE}{aA:Int}{w w':World}{e:Ending}(h:yF W aA w e w'):zBN (qU W aA) w e w':=by
 obtain⟨r,o,h1,h2,h3⟩:=h;have hi:zAH W aA (zLI r o):=⟨r,o,h1,h2,rfl⟩;have hx:∃o,zAH W aA o:=⟨_,hi⟩;have he:qU W aA=zLI r o:=by
  unfold qU;rw[dif_pos hx];exact hx.choose_spec.uniq hi
 rw[he];exact h3
theorem zFC(f g:Nat->zY)(c:Nat)(h:∀j,zAd (g j)<=zAd (f j)+c):∀n,qk g n<=qk f n+n*c
 | 0=>Nat.le_add_right _ _
 | n+1=>by
  have ih:=zFC f g c h n;have h1:=h n;show qk g n+zAd (g n)<=qk f n+zAd (f n)+(n+1)*c;rw[Nat.add_mul];omega
theorem zFw(f g:Nat->zv)(c:Nat)(h:∀j,zDh (g j)<=zDh (f j)+c):∀n,zAY g n<=zAY f n+n*c
 | 0=>Nat.le_add_right _ _
 | n+1=>by
  have ih:=zFw f g c h n;have h1:=h n;show zAY g n+zDh (g n)<=zAY f n+zDh (f n)+(n+1)*c;rw[Nat.add_mul];omega
theorem zDa:∀(l:List (Int×Int)) (p:zN),yL (zq p l)=yL p+l.length
 | [],_=>rfl
 | x :: l,p=>by
  have h:=zDa l (yr p x.1);have e:yL (yr p x.1)=yL p+1:=rfl;show yL (zq (yr p x.1) l)=_;rw[h,e,List.length_cons];omega
theorem zDj(f:Nat->zY)(k:Nat):∀n,(n<=k->qk (del f k) n=qk f n)/\(k<=n->qk (del f k) n+zAd (f k)=qk f (n+1))
 | 0=>⟨fun _=>rfl,fun h=>by cases (show k=0 from by omega);rfl⟩
 | n+1=>by
  have ih:=zDj f k n;have e1:qk (del f k) (n+1)=qk (del f k) n+zAd (del f k n):=rfl;have e2:qk f (n+1)=qk f n+zAd (f n):=rfl;have e3:qk f (n+1+1)=qk f (n+1)+zAd (f (n+1)):=rfl;by_cases h:n<k
  ·have e4:del f k n=f n:=if_pos h;rw[e4]at e1;refine⟨fun h1=>by have:=ih.1 (by omega);omega,fun h1=>?_⟩;obtain rfl:k=n+1:=(by omega);have:=ih.1 (by omega);omega
  ·have e4:del f k n=f (n+1):=if_neg h;rw[e4]at e1;exact⟨fun h1=>by omega,fun h1=>by have:=ih.2 (by omega);omega⟩
theorem zGG(W:zE)(g:zY)(n:Nat)(f h:Nat->Int):(sdD W g n f h).length<=g.dn+n/\(sdY W g n f h).length<=n:=by
 have h1:=zGo f h (zK W g.zPH).time n;have h2:=zBL f h (zK W g.zPH).time n;unfold sdD sdO sdY;rw[List.length_append,qq];omega
theorem zLa{W:zE}(hI:yk W){k i:Nat}(hk:k<W.pn)(hi:i<W.pn):yD (zG0 W k i)<=yD W+10000:=by
 have hh:=(zDf ((zBK W).1 hI) 0).1;have g1:=(hh k hk).1.1;have g2:=(hh i hi).1.1;have aA:=hI.zPL.zPD.1;have h1:=zFC W.zPD (zCP W k i) 200 (fun j=>by
  unfold zCP;split
  ·rename_i e
   subst e;have:=(zGG W (W.zPD k) (W.zPD j).dn (W.zPD j).ds (W.zPD j).db).1;unfold zAd zJN;dsimp only;omega
  ·omega) W.pn
 have h2:=(zDj (zCP W k i) k (W.pn - 1)).2 (by omega);rw[show W.pn - 1+1=W.pn by omega]at h2;have h3:=zDa (zCQ W k i) W.zPE;have h4:(zCQ W k i).length<=200:=Nat.le_trans (zGG W (W.zPD k) (W.zPD i).dn (W.zPD i).ds (W.zPD i).db).2 g2;have h7:yD (zG0 W k i)=yL (zq W.zPE (zCQ W k i))+(W.sn+zAY W.zPG W.sn)+(W.pn - 1+qk (del (zCP W k i) k) (W.pn - 1)):=rfl;have h8:yD W=yL W.zPE+(W.sn+zAY W.zPG W.sn)+(W.pn+qk W.zPD W.pn):=rfl;omega
theorem zLb{W:zE}(hI:yk W){k i:Nat}(hk:k<W.pn)(hi:i<W.sn):yD (zG1 W k i)<=yD W+10000:=by
 have hh:=zDf ((zBK W).1 hI) 0;have g1:=(hh.1 k hk).1.1;have g2:=(hh.2 i hi).1.1;have aA:=hI.zPL.zPG.1;have h1:=zFw W.zPG (zD1 W k i) 200 (fun j=>by
  unfold zD1;split
  ·rename_i e
   subst e;have:=(zGG W (W.zPD k) (W.zPG j).dn (W.zPG j).ds (W.zPG j).db).1;unfold zDh zL2;dsimp only;omega
  ·omega) W.sn
 have h2:=(zDj W.zPD k (W.pn - 1)).2 (by omega);rw[show W.pn - 1+1=W.pn by omega]at h2;have h3:=zDa (zCR W k i) W.zPE;have h4:(zCR W k i).length<=200:=Nat.le_trans (zGG W (W.zPD k) (W.zPG i).dn (W.zPG i).ds (W.zPG i).db).2 g2;have h7:yD (zG1 W k i)=yL (zq W.zPE (zCR W k i))+(W.sn+zAY (zD1 W k i) W.sn)+(W.pn - 1+qk (del W.zPD k) (W.pn - 1)):=rfl;have h8:yD W=yL W.zPE+(W.sn+zAY W.zPG W.sn)+(W.pn+qk W.zPD W.pn):=rfl;omega
theorem zDi{W:zE}{aA:Int}(hN:yD W<=1048576):zAZ (qU W aA).world 1<=1000000000000/\0<=zAZ (qU W aA).world 1:=by
 have hz:∀c,zAZ (zCD c).world 1<=1000000000000/\0<=zAZ (zCD c).world 1:=fun c=>zDR (W:=noW) (by decide) (by decide) (by decide)
 unfold qU;split
 ·rename_i h
  obtain⟨r,o,h1,h2,h3⟩:=h.choose_spec;rw[h3];cases r with
  | some i=>exact hz _
  | none=>
   have hI:=h1.impl;obtain⟨k,hk,⟨i,hi,rfl⟩ | ⟨i,hi,rfl⟩⟩:=h2 rfl
   ·have hb:=zLa hI hk.1 hi.1;exact zDR (W:=zG0 W k i) (by omega) (by decide) (by decide)
   ·have hb:=zLb hI hk.1 hi.1;exact zDR (W:=zG1 W k i) (by omega) (by decide) (by decide)
 ·exact hz _
theorem zIL{w:World}{k:Nat}{v:Value}{kv:Nat->Value}{dn:Nat->Nat}(hk:yU w 61 2 v (dn k))(h:∀i,i<k->yU w 61 2 (kv i) (dn i))(a:Addr)(u:Value):∀i,i<k+1->yU (w.setCell a u) 61 2 ((fun j=>if j=k then v else kv j) i) (dn i):=fun i hi=>by
 by_cases e:i=k
 ·subst e;simp only[if_true];exact hk.set a u
 ·simp only[if_neg e];exact(h i (by omega)).set a u
theorem zB4(w:World)(lo hi:Nat)(a:Option Addr)(n c:Nat)(f g:Nat->Int)(h:zR w lo hi (.slice a n c) n f g)(hn:n<=1048576)(ty:TypeId):∃a' c' kb w1,
  (Builtin.append_ #[62,62] ty #[.slice (some ⟨w.heap.size,0,none⟩) 0 0,.slice a n c]).run Tryz.prog (w.alloc (.cells #[] 61)) = .ok (.slice a' n c') w1/\zj w1 kb (.slice a' n c') n f g/\(0<n->w.heap.size<=kb/\kb<w1.heap.size)/\Below w.heap.size w w1/\yU w1 61 2 (.slice a' n c') n:=by
 obtain⟨m1,a0,c0,hv,mc,g1⟩:=h;simp only[Value.slice.injEq,true_and]at hv;obtain⟨rfl,rfl⟩:=hv;obtain⟨i0,eA,fA⟩:=Option.map_eq_some_iff.1 zBS;simp only[Prod.mk.injEq]at fA;obtain⟨hz,hs,iA⟩:=fA;have ht:Tryz.prog.underlying 62=some (.slice 61):=by kernel_rfl
 have aA:(w.alloc (.cells #[] 61)).ownsRow w.heap.size 61 2 (.slice (some ⟨w.heap.size,0,none⟩) 0 0) 0 []:=World.ownsRow_made w #[] 0 (Nat.le_refl _) (Nat.zero_le _) (by simp);have dA:=zC w (.cells #[] 61);by_cases h0:0<n
 ·obtain⟨b,off,rfl,_,_,hc⟩:=g1 h0;have cA:∀j,(⟨b,off,none⟩:Addr).add j=⟨b,off+j,none⟩:=fun j=>by unfold Addr.add;split<;>simp_all
  obtain⟨v',w1,hr,r1,r2,_⟩:=run_append_own (P:=Tryz.prog) (w.alloc (.cells #[] 61)) w.heap.size 62 ty 61 i0 (.agg #[.int .i64 0,.int .i64 0]) 2 16 ht eA hz hs iA rfl (by decide) _ 0 [] aA ⟨b,off,none⟩ n c (kc f g n) (zDU f g n) (fun j u hj=>by
    have:=zEx hc j u hj;rw[cA]at this ⊢;exact(dA.cell (zD this)).trans this) (zIv f g n) (by unfold maxLen;omega) (by omega) (by simp)
  have bA:w1.ownsRow w.heap.size 61 2 v' n (kc f g n):=(by simpa using r1);obtain⟨kb,hp,hk⟩:=zBf m1 bA;obtain⟨_,a',c',rfl,_⟩:=id hp;have gA:Below w.heap.size w w1:=dA.grown r2 (by simp) (fun q hq=>by have:=aA.lt q hq;omega);exact⟨a',c',kb,w1,hr,hp,hk,gA,qy bA (fun e=>by omega)⟩
 ·obtain rfl:n=0:=(by omega);have hr:=zAE (P:=Tryz.prog) (w:=w.alloc (.cells #[] 61)) w.heap.size 62 ty 61 i0 2 c a ht eA _ 0 [] aA;exact⟨_,0,0,_,hr,⟨Nat.zero_le _,_,0,rfl,Nat.le_refl _,fun h=>absurd h (Nat.lt_irrefl _)⟩,fun h=>absurd h (Nat.lt_irrefl _),dA,Or.inl ⟨rfl,_,rfl⟩⟩
theorem zLM(w:World)(b off n k c1 c2:Nat)(A1 A2:Option Addr)(G:Nat->Value)(hG:∀j,j<n*8->w.cell? ⟨b,off+j,none⟩=some (G j)/\(G j).oneCell'=true)(hk:k<n)(hn:n<=100)(h1:0<k->A1=some ⟨b,off,none⟩)(h2:0<n - (k+1)->A2=some ⟨b,off+(k+1)*8,none⟩) :
  ∃a1 aA w1 a2 bA w2,(Builtin.append_ #[35,35] 35 #[.slice (some ⟨w.heap.size,0,none⟩) 0 0,.slice A1 k c1]).run Tryz.prog (w.alloc (.cells #[] 99)) = .ok (.slice a1 k aA) w1/\(Builtin.append_ #[35,35] 35 #[.slice a1 k aA,.slice A2 (n - (k+1)) c2]).run Tryz.prog w1 = .ok (.slice a2 (n - 1) bA) w2/\Below w.heap.size w w1/\Below w.heap.size w w2/\n - 1<=bA/\(0<n - 1->∃g,a2=some ⟨g,0,none⟩/\w.heap.size<=g/\g<w2.heap.size/\∀j,j<(n - 1)*8->zQ w2 g j (if j<k*8 then G j else G (j+8))):=by
 have fA:=zC w (.cells #[] 99);have cA:(w.alloc (.cells #[] 99)).ownsRow w.heap.size 99 8 (.slice (some ⟨w.heap.size,0,none⟩) 0 0) 0 []:=World.ownsRow_made w #[] 0 (Nat.le_refl _) (Nat.zero_le _) (by simp);obtain⟨v1,w1,kA,iA,pA⟩:=zIN (w.alloc (.cells #[] 99)) w.heap.size _ 0 [] cA fA.size A1 b off 0 k c1 G (fun h=>by rw[h1 h];rfl) (fun j hj=>by
  have:=hG j (by omega);rw[Nat.zero_add];exact⟨(fA.cell (zD this.1)).trans this.1,this.2⟩) (by omega) 35
 have dA:Below w.heap.size w w1:=fA.grown pA fA.size (fun q hq=>by have:=cA.lt q hq;omega);obtain⟨v2,w2,lA,jA,rA⟩:=zIN w1 w.heap.size v1 (0+k) _ iA dA.size A2 b off ((k+1)*8) (n - (k+1)) c2 G h2 (fun j hj=>by
  have:=hG ((k+1)*8+j) (by omega);exact⟨(dA.cell (zD this.1)).trans this.1,this.2⟩) (by omega) 35
 have mA:Below w.heap.size w w2:=dA.grown rA dA.size (fun q hq=>by have:=iA.lt q hq;omega);obtain⟨a1,aA,rfl,-⟩:=za iA;have e:0+k+(n - (k+1))=n - 1:=by omega
 rw[e]at jA;rw[Nat.zero_add]at kA lA;obtain⟨a2,bA,rfl,oA⟩:=za jA;refine⟨a1,aA,w1,a2,bA,w2,kA,lA,dA,mA,oA,fun h0=>?_⟩;obtain⟨g,cap,e2,hc,nA,sA,eA⟩:=yK jA h0;simp only[Value.slice.injEq,true_and]at e2;refine⟨g,e2.1,nA,sA,fun j hj=>eA j _ ?_⟩;rw[List.nil_append];by_cases gA:j<k*8
 ·rw[if_pos gA,List.getElem?_append_left (by rw[zDc];exact gA),zJM gA,Nat.zero_add]
 ·rw[if_neg gA,List.getElem?_append_right (by rw[zDc];omega),zDc,zJM (by omega),show(k+1)*8+(j - k*8)=j+8 by omega]
theorem zLQ{w w':World}{bs g cap n k:Nat}{a2:Option Addr}{kb:Nat->Nat}{kv:Nat->Value}{v:Value}{f:Nat->zY}{S:Nat->Prop}(ho:qI w bs kb kv v n f)(fA:qw kb n f)(hk:k<n)(ht:zF S w w')(hS:∀i,i<n->0<(f i).dn->¬S (kb i)/\kb i≠g)(cA:n - 1<=cap)
  (hc:0<n - 1->a2=some ⟨g,0,none⟩/\∀i,i<n - 1->∀r,r<8->zQ w' g (i*8+r) (cellSnap (del f k) (del kv k) i r)) :
  qI w' g (del kb k) (del kv k) (.slice a2 (n - 1) cap) (n - 1) (del f k)/\qw (del kb k) (n - 1) (del f k)/\∀j,yq g (del kb k) (n - 1) (del f k) j->(0<n - 1/\j=g)\/∃i,i<n/\0<(f i).dn/\j=kb i:=by
 have gA:∀i,i<n->∃o,qe w bs o (kb i) (kv i) (f i):=fun i hi=>by
  obtain⟨_,a,c,hv,_,hx⟩:=ho;obtain⟨off,rfl,hs⟩:=hx (by omega);exact⟨_,hs i hi⟩
 have hm:=ho.1;have key:∀i,i<n - 1->∃i',i'<n/\del kb k i=kb i'/\del kv k i=kv i'/\del f k i=f i'/\i'=(if i<k then i else i+1):=fun i hi=>by
  by_cases e:i<k
  ·exact⟨i,by omega,if_pos e,if_pos e,if_pos e,by rw[if_pos e]⟩
  ·exact⟨i+1,by omega,if_neg e,if_neg e,if_neg e,by rw[if_neg e]⟩
 refine⟨⟨by omega,_,_,rfl,cA,fun h0=>⟨0,(hc h0).1,fun i hi=>?_⟩⟩,fun i j hi hj iA h1 h2=>?_,?_⟩
 ·rw[Nat.zero_add];have aA:=(hc h0).2 i hi;obtain⟨i',bA,e1,e2,e3,-⟩:=key i hi;obtain⟨o,h⟩:=gA i' bA;refine⟨aA 0 (by omega),aA 1 (by omega),aA 2 (by omega),aA 3 (by omega),aA 4 (by omega),aA 5 (by omega),aA 6 (by omega),aA 7 (by omega),?_,?_,?_⟩
  ·rw[e1,e2,e3];exact h.zPK.zPF ht (fun h0=>(hS i' bA h0).1)
  ·rw[e3];exact h.zPN
  ·rw[e1,e3];exact fun h0=>(hS i' bA h0).2
 ·obtain⟨i',bA,e1,-,e3,f1⟩:=key i hi;obtain⟨j',jA,dA,-,eA,f2⟩:=key j hj;rw[e1,dA];rw[e3]at h1;rw[eA]at h2;refine fA i' j' bA jA (fun e=>iA ?_) h1 h2;rw[f1,f2]at e;split at e<;>split at e<;>omega
 ·rintro j (⟨h0,rfl⟩ | ⟨i,hi,h0,rfl⟩)
  ·exact Or.inl ⟨h0,rfl⟩
  ·obtain⟨i',bA,e1,-,e3,-⟩:=key i hi;rw[e3]at h0;exact Or.inr ⟨i',bA,h0,e1⟩
theorem zIM{w:World}{lo hi nA fA n c1 c2:Nat}{a1 a2:Option Addr}{f g:Nat->Int}{l:List (Int×Int)}(h1:zR w lo hi (.slice a1 n c1) n f g)(h2:zR w nA fA (.slice a2 l.length c2) l.length (zk l) (zn l))(hn:n<=1048576)(hl:l.length<=1000)(ty dA:TypeId) :
  ∃ra rc w1 da dc w2 nb,(Builtin.append_ #[62,62] ty #[.slice (some ⟨w.heap.size,0,none⟩) 0 0,.slice a1 n c1]).run Tryz.prog (w.alloc (.cells #[] 61)) = .ok (.slice ra n rc) w1/\(Builtin.append_ #[62,62] dA #[.slice ra n rc,.slice a2 l.length c2]).run Tryz.prog w1 = .ok (.slice da (n+l.length) dc) w2/\Below w.heap.size w w1/\Below w.heap.size w w2/\zj w2 nb (.slice da (n+l.length) dc) (qu n f g ++ l).length (zk (qu n f g ++ l)) (zn (qu n f g ++ l))/\(0<n+l.length->w.heap.size<=nb/\nb<w2.heap.size):=by
 obtain⟨ra,rc,kb,w1,kA,iA,bA,aA,eA⟩:=zB4 w lo hi a1 n c1 f g h1 hn ty;obtain⟨da,dc,w2,nb,lA,jA,cA,gA⟩:=zFv iA eA (h2.zO9 aA) (by omega) dA;have mA:=aA.size;have oA:=cA.size;refine⟨ra,rc,w1,da,dc,w2,nb,kA,lA,aA,aA.trans (cA.zO9 (B:=w.heap.size) mA (fun j h=>by rw[h.2];exact(bA h.1).1)),jA,fun h0=>?_⟩;rcases gA h0 with⟨e0,e⟩ | e
 ·have:=bA e0;omega
 ·omega
theorem yx.turnedD{S:Nat->Prop}{w w':World}{b:Nat}{v0 v1 v2 v3 v4 v5 v6 v7:Value}(h:yx w b v0 v1 v2 v3 v4 v5 v6 v7)(t:zF S w w')(hs:¬S b):yx w' b v0 v1 v2 v3 v4 v5 v6 v7:=⟨⟨h.1.1.zPF t hs,h.1.2.1.zPF t hs,h.1.2.2.1.zPF t hs,h.1.2.2.2.zPF t hs⟩,h.2.1.zPF t hs,h.2.2.1.zPF t hs,h.2.2.2.1.zPF t hs,h.2.2.2.2.zPF t hs⟩
def SdF(w wr:World)(V SB base:Nat)(z2 z3 gv:Value)(W W2:zE)(g:zY):Prop:=∃(y0 y1:Value) (P Q R:Nat->Prop),zg wr V y0 y1 (.int .i64 W.time) (.int .i64 W.next) z2 z3/\yx wr SB (.int .i64 g.id) (.string g.name) (.string g.set) (.int .i64 g.zPH) (.int .i64 g.time) (.int .i64 g.rs) (.int .i64 g.rb) (gv)/\yM wr (w.heap.size+1) (.slice none 0 0) (.slice none 0 0) (.int .i64 0) (.int .i64 0) (.slice none 0 0) (.slice none 0 0) (.int .i64 0) (.int .i64 0) (.int .i64 0)/\zAv wr P Q R y0 y1 z2 z3 W2/\(∀j,P j\/Q j\/R j->base<=j/\j<wr.heap.size/\j≠V/\j≠SB)/\Below w.heap.size w wr
theorem zOE{w wr ws wh w2:World}{V SB base k i sb so sc nb:Nat}{z0 z1 z3 y1 gv nv:Value}{W:zE}{g:zY}{P Q R:Nat->Prop}{ub:Nat->Nat}{uv:Nat->Value}(hg:g=W.zPD k)(bA:zAv wr P Q R z0 z1 (.slice (some ⟨sb,so,none⟩) W.sn sc) z3 W)(aA:∀j,P j\/Q j\/R j->base<=j/\j<V)(sA:w.heap.size+2<=base)(eB:V<SB)(aB:SB<wr.heap.size)(hB:Below w.heap.size w wr)
  (ho:qm wr sb ub uv (.slice (some ⟨sb,so,none⟩) W.sn sc) W.sn W.zPG) (bB:zAG ub W.sn W.zPG) (hq:∀j,zA4 sb ub W.sn W.zPG j->Q j) (hi:i<W.sn) (fA:Below wr.heap.size wr ws) (eA:zF (fun j=>j=V\/P j\/ws.heap.size<=j) ws wh) (hV:zg wh V z0 y1 (.int .i64 W.time) (.int .i64 W.next) (.slice (some ⟨sb,so,none⟩) W.sn sc) z3) (hP:qi wh (fun j=>P j\/(ws.heap.size<=j/\j<wh.heap.size)) z0 y1 (zq W.zPE (sdY W (W.zPD k) (W.zPG i).dn (W.zPG i).ds (W.zPG i).db)))
  (dA:Below wh.heap.size wh w2) (jA:zj w2 nb nv (sdD W (W.zPD k) (W.zPG i).dn (W.zPG i).ds (W.zPG i).db).length (zk (sdD W (W.zPD k) (W.zPG i).dn (W.zPG i).ds (W.zPG i).db)) (zn (sdD W (W.zPD k) (W.zPG i).dn (W.zPG i).ds (W.zPG i).db))) (nA:0<(sdD W (W.zPD k) (W.zPG i).dn (W.zPG i).ds (W.zPG i).db).length->wh.heap.size<=nb/\nb<w2.heap.size) (hS:yx wr SB (.int .i64 g.id) (.string g.name) (.string g.set) (.int .i64 g.zPH) (.int .i64 g.time) (.int .i64 g.rs) (.int .i64 g.rb) (gv)) (hR:yM wr (w.heap.size+1) (.slice none 0 0) (.slice none 0 0) (.int .i64 0) (.int .i64 0) (.slice none 0 0) (.slice none 0 0) (.int .i64 0) (.int .i64 0) (.int .i64 0)) :
  SdF w ((w2.setCell ⟨sb,so+i*6+5,none⟩ nv).setCell ⟨sb,so+i*6+2,none⟩ (.int .i64 g.zPH)) V SB base (.slice (some ⟨sb,so,none⟩) W.sn sc) z3 gv W {W with zPE:=zq W.zPE (sdY W (W.zPD k) (W.zPG i).dn (W.zPG i).ds (W.zPG i).db),zPG:=zD1 W k i} g:=by
 subst hg;obtain⟨D,hD⟩:∃D,D=sdD W (W.zPD k) (W.zPG i).dn (W.zPG i).ds (W.zPG i).db:=⟨_,rfl⟩;rw[<-hD]at jA nA;have oA:Q sb:=hq _ (Or.inl ⟨by omega,rfl⟩);have fB:=aA _ (Or.inr (Or.inl oA));have kB:=fA.size;have jB:=eA.size;have iB:=dA.size;have cA:zF (fun j=>j=sb) w2 ((w2.setCell ⟨sb,so+i*6+5,none⟩ nv).setCell ⟨sb,so+i*6+2,none⟩ (.int .i64 (W.zPD k).zPH)):=(zF.put _ sb _ _).trans (zF.put _ sb _ _);have lB:=cA.size;have rA:∀j,w.heap.size<=j->j<ws.heap.size->j≠V->¬P j->¬(j=V\/P j\/ws.heap.size<=j):=fun j h1 h2 h3 h4 h=>by
  rcases h with h | h | h
  ·exact h3 h
  ·exact h4 h
  ·omega
 have cB:∀j,P j->j<V:=fun j hj=>(aA j (Or.inl hj)).2
 have pA:∀{b' o' u},zQ w2 b' o' u->b'≠sb->zQ ((w2.setCell ⟨sb,so+i*6+5,none⟩ nv).setCell ⟨sb,so+i*6+2,none⟩ (.int .i64 (W.zPD k).zPH)) b' o' u:=fun h vA=>(h.zPA _ (Or.inl (fun e=>vA e.symm))).zPA _ (Or.inl (fun e=>vA e.symm))
 have h7:qm w2 sb ub uv (.slice (some ⟨sb,so,none⟩) W.sn sc) W.sn W.zPG:=((ho.zO9 fA).zPF eA (fun j hj=>by
  have h1:=hq j hj;have h2:=aA j (Or.inr (Or.inl h1));exact rA j (by omega) (by omega) (by omega) (fun hp=>bA.pq j hp h1))).zO9 dA
 have hs:yR w2 sb (so+i*6) (ub i) (uv i) (W.zPG i):=by
  obtain⟨dB,c',ev,hx⟩:=h7.nth hi;simp only[Value.slice.injEq,Option.some.injEq,Addr.mk.injEq,and_true,true_and]at ev;obtain⟨rfl,rfl⟩:=ev;exact hx
 have iA:0<D.length->nb≠sb:=fun h0=>by have:=nA h0;omega
 have eS:zD1 W k i=fun j=>if j=i then {W.zPG i with zPH:=(W.zPD k).zPH,dn:=D.length,ds:=zk D,db:=zn D}else W.zPG j:=by unfold zD1 zL2;rw[hD]
 have gA:yo ((w2.setCell ⟨sb,so+i*6+5,none⟩ nv).setCell ⟨sb,so+i*6+2,none⟩ (.int .i64 (W.zPD k).zPH)) (fun j=>Q j\/(wh.heap.size<=j/\j<w2.heap.size)) (.slice (some ⟨sb,so,none⟩) W.sn sc) W.sn (zD1 W k i):=by
  rw[eS];refine zG6 h7 bB (fun j hj=>Or.inl (hq j hj)) hi (nb:=nb) (nv:=nv) (cA.mono (fun j e=>Or.inl e)) (fun j hj gB r hr u hu=>(hu.zPA _ (Or.inr (by omega))).zPA _ (Or.inr (by omega))) ⟨((hs.c0.zPA _ (Or.inr (by omega))).zPA _ (Or.inr (by omega))),((hs.c1.zPA _ (Or.inr (by omega))).zPA _ (Or.inr (by omega))),((hs.c2.zPA _ (Or.inr (by omega))).set _),((hs.c3.zPA _ (Or.inr (by omega))).zPA _ (Or.inr (by omega))),((hs.c4.zPA _ (Or.inr (by omega))).zPA _ (Or.inr (by omega))),((hs.c5.set _).zPA _ (Or.inr (by omega))),jA.zPF cA (fun h0 e=>iA h0 e),hs.zPN,iA⟩ (fun h0=>?_);exact⟨Or.inr (fun j hj e1=>by
   have h1:=hq j hj;have:=aA j (Or.inr (Or.inl h1));have:=nA h0;omega),Or.inr (nA h0)⟩
 have mA:ym ((w2.setCell ⟨sb,so+i*6+5,none⟩ nv).setCell ⟨sb,so+i*6+2,none⟩ (.int .i64 (W.zPD k).zPH)) R z3 W.pn W.zPD:=(((bA.zPD.zO9 fA).zPF eA (fun j hj=>by
  have h2:=aA j (Or.inr (Or.inr hj));exact rA j (by omega) (by omega) (by omega) (fun hp=>bA.pr j hp hj))).zO9 dA).zPF cA (fun j hj e=>bA.qr _ oA (by rw[<-e];exact hj))
 have tA:∀j,w.heap.size<=j->j<wr.heap.size->j≠V->¬P j->j≠sb->∀o' u,zQ wr j o' u->zQ ((w2.setCell ⟨sb,so+i*6+5,none⟩ nv).setCell ⟨sb,so+i*6+2,none⟩ (.int .i64 (W.zPD k).zPH)) j o' u:=fun j h1 h2 h3 h4 h5 o' u hc=>pA (((hc.zO9 fA).zPF eA (rA j h1 (by omega) h3 h4)).zO9 dA) h5
 have kS:=tA SB (by omega) aB (by omega) (fun hp=>by have:=cB _ hp;omega) (by omega);have kR:=tA (w.heap.size+1) (by omega) (by have:=(hR.1).lt;exact this) (by omega) (fun hp=>by have:=aA _ (Or.inl hp);omega) (by omega);refine⟨z0,y1,(fun j=>P j\/(ws.heap.size<=j/\j<wh.heap.size)),(fun j=>Q j\/(wh.heap.size<=j/\j<w2.heap.size)),R,(hV.zO9 dA).zPF cA (by omega),⟨⟨kS _ _ hS.1.1,kS _ _ hS.1.2.1,kS _ _ hS.1.2.2.1,kS _ _ hS.1.2.2.2⟩,kS _ _ hS.2.1,kS _ _ hS.2.2.1,kS _ _ hS.2.2.2.1,kS _ _ hS.2.2.2.2⟩,⟨kR _ _ hR.1,kR _ _ hR.2.1,kR _ _ hR.2.2.1,kR _ _ hR.2.2.2.1,kR _ _ hR.2.2.2.2.1,kR _ _ hR.2.2.2.2.2.1,kR _ _ hR.2.2.2.2.2.2.1,kR _ _ hR.2.2.2.2.2.2.2.1,kR _ _ hR.2.2.2.2.2.2.2.2⟩,⟨(hP.zO9 dA).zPF cA (fun j hj e=>?_),gA,mA,fun j hj kA=>?_,fun j hj lA=>?_,fun j hj lA=>?_⟩,fun j hj=>?_,hB.trans (((((zF.zPB fA).trans (eA.mono (T:=fun j=>w.heap.size<=j) (fun j h=>?_))).trans (zF.zPB dA)).trans (cA.mono (fun j e=>?_))).zO9 (B:=w.heap.size) hB.size (fun j h=>h))⟩
 ·subst e;rcases hj with hj | hj
  ·exact bA.pq _ hj oA
  ·omega
 ·rcases kA with kA | kA
  ·rcases hj with hj | hj
   ·exact bA.pq j hj kA
   ·have:=aA j (Or.inr (Or.inl kA));omega
  ·rcases hj with hj | hj
   ·have:=aA j (Or.inl hj);omega
   ·omega
 ·rcases hj with hj | hj
  ·exact bA.pr j hj lA
  ·have:=aA j (Or.inr (Or.inr lA));omega
 ·rcases hj with hj | hj
  ·exact bA.qr j hj lA
  ·have:=aA j (Or.inr (Or.inr lA));omega
 ·rcases hj with(hj | hj) | (hj | hj) | hj
  ·have:=aA j (Or.inl hj);omega
  ·omega
  ·have:=aA j (Or.inr (Or.inl hj));omega
  ·omega
  ·have:=aA j (Or.inr (Or.inr hj));omega
 ·rcases h with h | h | h
  ·omega
  ·have:=aA j (Or.inl h);omega
  ·omega
 ·omega
theorem zNn{w wr ws wh w2:World}{V SB base k i bn off cn nb:Nat}{z0 z1 z2 y1 gv nv:Value}{W:zE}{g:zY}{P Q R:Nat->Prop}{kb:Nat->Nat}{kv:Nat->Value}(hg:g=W.zPD k)(cA:zAv wr P Q R z0 z1 z2 (.slice (some ⟨bn,off,none⟩) W.pn cn) W)(aA:∀j,P j\/Q j\/R j->base<=j/\j<V)(rA:w.heap.size+2<=base)(dB:V<SB)(aB:SB<wr.heap.size)(hB:Below w.heap.size w wr)
  (ho:qI wr bn kb kv (.slice (some ⟨bn,off,none⟩) W.pn cn) W.pn W.zPD) (bB:qw kb W.pn W.zPD) (hq:∀j,yq bn kb W.pn W.zPD j->R j) (hi:i<W.pn) (gA:Below wr.heap.size wr ws) (fA:zF (fun j=>j=V\/P j\/ws.heap.size<=j) ws wh) (hV:zg wh V z0 y1 (.int .i64 W.time) (.int .i64 W.next) z2 (.slice (some ⟨bn,off,none⟩) W.pn cn)) (hP:qi wh (fun j=>P j\/(ws.heap.size<=j/\j<wh.heap.size)) z0 y1 (zq W.zPE (sdY W (W.zPD k) (W.zPD i).dn (W.zPD i).ds (W.zPD i).db)))
  (eA:Below wh.heap.size wh w2) (kA:zj w2 nb nv (sdD W (W.zPD k) (W.zPD i).dn (W.zPD i).ds (W.zPD i).db).length (zk (sdD W (W.zPD k) (W.zPD i).dn (W.zPD i).ds (W.zPD i).db)) (zn (sdD W (W.zPD k) (W.zPD i).dn (W.zPD i).ds (W.zPD i).db))) (mA:0<(sdD W (W.zPD k) (W.zPD i).dn (W.zPD i).ds (W.zPD i).db).length->wh.heap.size<=nb/\nb<w2.heap.size) (hS:yx wr SB (.int .i64 g.id) (.string g.name) (.string g.set) (.int .i64 g.zPH) (.int .i64 g.time) (.int .i64 g.rs) (.int .i64 g.rb) (gv)) (hR:yM wr (w.heap.size+1) (.slice none 0 0) (.slice none 0 0) (.int .i64 0) (.int .i64 0) (.slice none 0 0) (.slice none 0 0) (.int .i64 0) (.int .i64 0) (.int .i64 0)) :
  SdF w ((w2.setCell ⟨bn,off+i*8+7,none⟩ nv).setCell ⟨bn,off+i*8+3,none⟩ (.int .i64 g.zPH)) V SB base z2 (.slice (some ⟨bn,off,none⟩) W.pn cn) gv W {W with zPE:=zq W.zPE (sdY W (W.zPD k) (W.zPD i).dn (W.zPD i).ds (W.zPD i).db),zPD:=zCP W k i} g:=by
 subst hg;obtain⟨D,hD⟩:∃D,D=sdD W (W.zPD k) (W.zPD i).dn (W.zPD i).ds (W.zPD i).db:=⟨_,rfl⟩;rw[<-hD]at kA mA;have nA:R bn:=hq _ (Or.inl ⟨by omega,rfl⟩);have eB:=aA _ (Or.inr (Or.inr nA));have jB:=gA.size;have iB:=fA.size;have gB:=eA.size;have dA:zF (fun j=>j=bn) w2 ((w2.setCell ⟨bn,off+i*8+7,none⟩ nv).setCell ⟨bn,off+i*8+3,none⟩ (.int .i64 (W.zPD k).zPH)):=(zF.put _ bn _ _).trans (zF.put _ bn _ _);have kB:=dA.size;have pA:∀j,w.heap.size<=j->j<ws.heap.size->j≠V->¬P j->¬(j=V\/P j\/ws.heap.size<=j):=fun j h1 h2 h3 h4 h=>by
  rcases h with h | h | h
  ·exact h3 h
  ·exact h4 h
  ·omega
 have cB:∀j,P j->j<V:=fun j hj=>(aA j (Or.inl hj)).2
 have oA:∀{b' o' u},zQ w2 b' o' u->b'≠bn->zQ ((w2.setCell ⟨bn,off+i*8+7,none⟩ nv).setCell ⟨bn,off+i*8+3,none⟩ (.int .i64 (W.zPD k).zPH)) b' o' u:=fun h tA=>(h.zPA _ (Or.inl (fun e=>tA e.symm))).zPA _ (Or.inl (fun e=>tA e.symm))
 have h7:qI w2 bn kb kv (.slice (some ⟨bn,off,none⟩) W.pn cn) W.pn W.zPD:=((ho.zO9 gA).zPF fA (fun j hj=>by
  have h1:=hq j hj;have h2:=aA j (Or.inr (Or.inr h1));exact pA j (by omega) (by omega) (by omega) (fun hp=>cA.pr j hp h1))).zO9 eA
 have hs:qe w2 bn (off+i*8) (kb i) (kv i) (W.zPD i):=h7.nthE hi;have jA:0<D.length->nb≠bn:=fun h0=>by have:=mA h0;omega
 have eS:zCP W k i=fun j=>if j=i then {W.zPD i with zPH:=(W.zPD k).zPH,dn:=D.length,ds:=zk D,db:=zn D}else W.zPD j:=by unfold zCP zJN;rw[hD]
 have iA:ym ((w2.setCell ⟨bn,off+i*8+7,none⟩ nv).setCell ⟨bn,off+i*8+3,none⟩ (.int .i64 (W.zPD k).zPH)) (fun j=>R j\/(wh.heap.size<=j/\j<w2.heap.size)) (.slice (some ⟨bn,off,none⟩) W.pn cn) W.pn (zCP W k i):=by
  rw[eS];refine zKQ h7 bB (fun j hj=>Or.inl (hq j hj)) hi (nb:=nb) (nv:=nv) (dA.mono (fun j e=>Or.inl e)) (fun j hj fB r hr u hu=>(hu.zPA _ (Or.inr (by omega))).zPA _ (Or.inr (by omega))) ⟨((hs.c0.zPA _ (Or.inr (by omega))).zPA _ (Or.inr (by omega))),((hs.c1.zPA _ (Or.inr (by omega))).zPA _ (Or.inr (by omega))),((hs.c2.zPA _ (Or.inr (by omega))).zPA _ (Or.inr (by omega))),((hs.c3.zPA _ (Or.inr (by omega))).set _),((hs.c4.zPA _ (Or.inr (by omega))).zPA _ (Or.inr (by omega))),((hs.c5.zPA _ (Or.inr (by omega))).zPA _ (Or.inr (by omega))),((hs.c6.zPA _ (Or.inr (by omega))).zPA _ (Or.inr (by omega))),((hs.c7.set _).zPA _ (Or.inr (by omega))),kA.zPF dA (fun h0 e=>jA h0 e),hs.zPN,jA⟩ (fun h0=>?_);exact⟨Or.inr (fun j hj e1=>by
   have h1:=hq j hj;have:=aA j (Or.inr (Or.inr h1));have:=mA h0;omega),Or.inr (mA h0)⟩
 have lA:yo ((w2.setCell ⟨bn,off+i*8+7,none⟩ nv).setCell ⟨bn,off+i*8+3,none⟩ (.int .i64 (W.zPD k).zPH)) Q z2 W.sn W.zPG:=(((cA.zPG.zO9 gA).zPF fA (fun j hj=>by
  have h2:=aA j (Or.inr (Or.inl hj));exact pA j (by omega) (by omega) (by omega) (fun hp=>cA.pq j hp hj))).zO9 eA).zPF dA (fun j hj e=>cA.qr j hj (by rw[e];exact nA))
 have sA:∀j,w.heap.size<=j->j<wr.heap.size->j≠V->¬P j->j≠bn->∀o' u,zQ wr j o' u->zQ ((w2.setCell ⟨bn,off+i*8+7,none⟩ nv).setCell ⟨bn,off+i*8+3,none⟩ (.int .i64 (W.zPD k).zPH)) j o' u:=fun j h1 h2 h3 h4 h5 o' u hc=>oA (((hc.zO9 gA).zPF fA (pA j h1 (by omega) h3 h4)).zO9 eA) h5
 have kS:=sA SB (by omega) aB (by omega) (fun hp=>by have:=cB _ hp;omega) (by omega);have kR:=sA (w.heap.size+1) (by omega) (by have:=(hR.1).lt;exact this) (by omega) (fun hp=>by have:=aA _ (Or.inl hp);omega) (by omega);refine⟨z0,y1,(fun j=>P j\/(ws.heap.size<=j/\j<wh.heap.size)),Q,(fun j=>R j\/(wh.heap.size<=j/\j<w2.heap.size)),(hV.zO9 eA).zPF dA (by omega),⟨⟨kS _ _ hS.1.1,kS _ _ hS.1.2.1,kS _ _ hS.1.2.2.1,kS _ _ hS.1.2.2.2⟩,kS _ _ hS.2.1,kS _ _ hS.2.2.1,kS _ _ hS.2.2.2.1,kS _ _ hS.2.2.2.2⟩,⟨kR _ _ hR.1,kR _ _ hR.2.1,kR _ _ hR.2.2.1,kR _ _ hR.2.2.2.1,kR _ _ hR.2.2.2.2.1,kR _ _ hR.2.2.2.2.2.1,kR _ _ hR.2.2.2.2.2.2.1,kR _ _ hR.2.2.2.2.2.2.2.1,kR _ _ hR.2.2.2.2.2.2.2.2⟩,⟨(hP.zO9 eA).zPF dA (fun j hj e=>?_),lA,iA,fun j hj vA=>?_,fun j hj bA=>?_,fun j hj bA=>?_⟩,fun j hj=>?_,hB.trans (((((zF.zPB gA).trans (fA.mono (T:=fun j=>w.heap.size<=j) (fun j h=>?_))).trans (zF.zPB eA)).trans (dA.mono (fun j e=>?_))).zO9 (B:=w.heap.size) hB.size (fun j h=>h))⟩
 ·subst e;rcases hj with hj | hj
  ·exact cA.pr _ hj nA
  ·omega
 ·rcases hj with hj | hj
  ·exact cA.pq j hj vA
  ·have:=aA j (Or.inr (Or.inl vA));omega
 ·rcases bA with bA | bA
  ·rcases hj with hj | hj
   ·exact cA.pr j hj bA
   ·have:=aA j (Or.inr (Or.inr bA));omega
  ·rcases hj with hj | hj
   ·have:=aA j (Or.inl hj);omega
   ·omega
 ·rcases bA with bA | bA
  ·exact cA.qr j hj bA
  ·have:=aA j (Or.inr (Or.inl hj));omega
 ·rcases hj with(hj | hj) | hj | (hj | hj)
  ·have:=aA j (Or.inl hj);omega
  ·omega
  ·have:=aA j (Or.inr (Or.inl hj));omega
  ·have:=aA j (Or.inr (Or.inr hj));omega
  ·omega
 ·rcases h with h | h | h
  ·omega
  ·have:=aA j (Or.inl h);omega
  ·omega
 ·omega
end Go.Proofs.YtmgeglgboadfiaaGreatDoor
