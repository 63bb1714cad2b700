/- What the laws' own functions of copying leave (toPtr, toPtrS, toSlot, toSlotS, toInt64S, toPool): new memory that holds the same. -/
import Derived.Test.YtmgeglgboadfiaaGreatDoorT35
set_option linter.unusedVariables false
set_option maxRecDepth 20000
set_option maxHeartbeats 4000000
namespace Go.Proofs.YtmgeglgboadfiaaGreatDoor
open Go.RowKit
theorem zKm(v:Value)(n lo hi:Nat)(f:Nat->Int)(w:World)(h1:qT w lo hi v n f)(hn:n<=1048576) :
  Calls Tryz.prog 88 #[v] w fun e w'=>(∃v',e = .returned v'/\qj w' w.heap.size v' n f)/\Below w.heap.size w w'/\w.heap.size<w'.heap.size:=by
 obtain⟨m1,a,c,rfl,mc,g1⟩:=h1;have eA:=m1;unfold maxLen at m1;have G1:Hid(0<n->∃b off,a=some ⟨b,off,none⟩/\lo<=b/\b<hi/\∀i,i<n->w.cell? ⟨b,off+i,none⟩=some(.int .i64(f i))):=g1;clear g1;have gA:=zBC 23 2(.int .i64 0) 1 8(by kernel_rfl) zDM rfl n hn(by omega);go_enter Tryz.func88,Tryz.ntmps88;go_wp2
 go_loopw [4](fun i wr=>∃k:Nat,k<=n/\i = .int .i64 k/\(∀j,j<n->zX wr w.heap.size(0+j)(.int .i64(if j<k then f j else 0)))/\Below w.heap.size w wr/\w.heap.size<wr.heap.size)(fun i _=>n - (intOf i).toNat)
 case atStart=>exact⟨0,Nat.zero_le _,rfl,fun j hj=>by have:=qu w #[.int .i64 0] n j 0 2 hj(by simp);simpa using this,zC _ _,by simp⟩
 case round=>
  obtain⟨k,hk,rfl,hall,hb,hsz⟩:=hrel;have aA:Hid(∀j,j<n->zX wr w.heap.size(0+j)(.int .i64(if j<k then f j else 0))):=hall;clear hall;by_cases bA:k<n
  ·have dA:(k:Int)<(n:Int):=(by omega);obtain⟨b,off,rfl,_,_,k1⟩:=G1.out(by omega);have fA:=(hb.cell(zD(k1 k bA))).trans(k1 k bA);obtain⟨cA,hf2⟩:=aA.out k bA;rw [if_neg(Nat.lt_irrefl k),Nat.zero_add] at cA;rw [Nat.zero_add] at hf2;go_wp2;go_roundw
   case rel=>
    refine⟨k+1,by omega,by go_num,fun j hj=>?_,hb.setCell(Nat.le_refl _) _,by simpa using hsz⟩;by_cases e:j=k
    ·subst e;rw [if_pos(by omega)];simpa using(aA.out j hj).set(.int .i64(f j))
    ·have:=(aA.out j hj).zRK(b':=w.heap.size)(o':=k)(.int .i64(f k))(Or.inr(by omega));by_cases e2:j<k
     ·rw [if_pos(by omega)];rw [if_pos e2] at this;exact this
     ·rw [if_neg(by omega)];rw [if_neg e2] at this;exact this
   case measure=>simp [intOf];omega
  ·obtain rfl:k=n:=(by omega);go_wp2;go_ret;refine⟨⟨_,rfl,eA,_,k,rfl,Nat.le_refl _,fun _=>⟨0,rfl,fun i hi=>?_⟩,fun h=>absurd h(Nat.lt_irrefl _)⟩,hb,hsz⟩;have:=aA.out i hi;rw [if_pos hi] at this;exact this
theorem zGc(a b:Int)(w:World) :
  Calls Tryz.prog 148 #[.agg #[.int .i64 a,.int .i64 b]] w fun e w'=>e = .returned(.agg #[.int .i64 a,.int .i64 b])/\Below w.heap.size w w':=by
 go_enter Tryz.func148,Tryz.ntmps148;go_wp2;refine bodyPost_ret(v:=.agg #[.int .i64 a,.int .i64 b])(by simp [results,Tryz.results148,go_sem]) rfl ⟨rfl,?_⟩;exact(((Below.refl _ _).alloc(Nat.le_refl _) _).alloc(by simp) _).alloc(by simp;omega) _
theorem zFQ(v:Value)(n lo hi:Nat)(f g:Nat->Int)(w:World)(h1:zR w lo hi v n f g)(hn:n<=1048576) :
  Calls Tryz.prog 149 #[v] w fun e w'=>(∃v',e = .returned v'/\zj w' w.heap.size v' n f g)/\Below w.heap.size w w'/\w.heap.size<w'.heap.size:=by
 obtain⟨m1,a,c,rfl,mc,g1⟩:=h1;have kA:=m1;unfold maxLen at m1;have G1:Hid(0<n->∃b off,a=some ⟨b,off,none⟩/\lo<=b/\b<hi/\∀i,i<n->w.cell? ⟨b,off+i*2,none⟩=some(.int .i64(f i))/\w.cell? ⟨b,off+i*2+1,none⟩=some(.int .i64(g i))):=g1;clear g1;have lA:=zBC 62 61(.agg #[.int .i64 0,.int .i64 0]) 2 16(by kernel_rfl) zKj rfl n hn(by omega);go_enter Tryz.func149,Tryz.ntmps149;go_wp2
 go_loopw [4](fun i wr=>∃k:Nat,k<=n/\i = .int .i64 k/\(∀j,j<n->zX wr w.heap.size(0+j*2)(.int .i64(if j<k then f j else 0))/\zX wr w.heap.size(0+j*2+1)(.int .i64(if j<k then g j else 0)))/\Below w.heap.size w wr/\w.heap.size<wr.heap.size)(fun i _=>n - (intOf i).toNat)
 case atStart=>
  refine⟨0,Nat.zero_le _,rfl,fun j hj=>⟨?_,?_⟩,zC _ _,by simp⟩
  ·have:=qu w #[.int .i64 0,.int .i64 0] n j 0 61 hj(by simp);simpa using this
  ·have:=qu w #[.int .i64 0,.int .i64 0] n j 1 61 hj(by simp);simpa using this
 case round=>
  obtain⟨k,hk,rfl,hall,hb,hsz⟩:=hrel;have bA:Hid(∀j,j<n->zX wr w.heap.size(0+j*2)(.int .i64(if j<k then f j else 0))/\zX wr w.heap.size(0+j*2+1)(.int .i64(if j<k then g j else 0))):=hall;clear hall;by_cases cA:k<n
  ·have jA:(k:Int)<(n:Int):=(by omega);obtain⟨b,off,rfl,_,_,k1⟩:=G1.out(by omega);have eA:=(hb.cell(zD(k1 k cA).1)).trans(k1 k cA).1;have iA:=(hb.cell(zD(k1 k cA).2)).trans(k1 k cA).2;clear k1 G1;go_wp2_with fail;refine(zGc _ _ _).mono ?_;rintro e w1 ⟨rfl,hb1⟩;have fA:=zA hb hb1;have dA:w.heap.size<w1.heap.size:=Nat.lt_of_lt_of_le hsz hb1.size;have aA:Hid(∀j,j<n->zX w1 w.heap.size(0+j*2)(.int .i64(if j<k then f j else 0))/\zX w1 w.heap.size(0+j*2+1)(.int .i64(if j<k then g j else 0))):=fun j hj=>⟨(bA.out j hj).1.zRJ hb1,(bA.out j hj).2.zRJ hb1⟩
   clear bA hb1 eA iA;obtain⟨⟨gA,hf2⟩,⟨hc3,hf3⟩⟩:=aA.out k cA;rw [if_neg(Nat.lt_irrefl k),Nat.zero_add] at gA hc3;rw [Nat.zero_add] at hf2 hf3;go_wp2;go_roundw
   case rel=>
    refine⟨k+1,by omega,by go_num,fun j hj=>?_,(fA.setCell(Nat.le_refl _) _).setCell(Nat.le_refl _) _,by simpa using dA⟩;by_cases e:j=k
    ·subst e;rw [if_pos(by omega),if_pos(by omega)];have t1:=((aA.out j hj).1.set(.int .i64(f j))).zRK(b':=w.heap.size)(o':=0+j*2+1)(.int .i64(g j))(Or.inr(by omega));have t2:=((aA.out j hj).2.zRK(b':=w.heap.size)(o':=0+j*2)(.int .i64(f j))(Or.inr(by omega))).set(.int .i64(g j));simp only [Nat.zero_add] at t1 t2 ⊢;exact⟨t1,t2⟩
    ·have t1:=((aA.out j hj).1.zRK(b':=w.heap.size)(o':=k*2)(.int .i64(f k))(Or.inr(by omega))).zRK(b':=w.heap.size)(o':=k*2+1)(.int .i64(g k))(Or.inr(by omega));have t2:=((aA.out j hj).2.zRK(b':=w.heap.size)(o':=k*2)(.int .i64(f k))(Or.inr(by omega))).zRK(b':=w.heap.size)(o':=k*2+1)(.int .i64(g k))(Or.inr(by omega));by_cases e2:j<k
     ·rw [if_pos(by omega),if_pos(by omega)];rw [if_pos e2] at t1 t2;exact⟨t1,t2⟩
     ·rw [if_neg(by omega),if_neg(by omega)];rw [if_neg e2] at t1 t2;exact⟨t1,t2⟩
   case measure=>simp [intOf];omega
  ·obtain rfl:k=n:=(by omega);go_wp2;go_ret;refine⟨⟨_,rfl,kA,_,k,rfl,Nat.le_refl _,fun _=>⟨0,rfl,fun i hi=>?_⟩⟩,hb,hsz⟩;have:=bA.out i hi;rw [if_pos hi,if_pos hi] at this;exact this
theorem zM1(v0 v1 v2:Value)(lo hi:Nat)(s:zL)(w:World)(h1:qI w lo hi v0 v1 v2 s)(hn:s.kn<=1048576) :
  Calls Tryz.prog 147 #[.agg #[v0,v1,v2]] w fun e w'=>(∃kv kb,e = .returned(.agg #[.int .i64 s.zRU,kv,.string s.data])/\zj w' kb kv s.kn s.ks s.kb/\w.heap.size<=kb/\kb<w'.heap.size)/\Below w.heap.size w w':=by
 obtain⟨rfl,p1,rfl,m1⟩:=h1;have q1:=p1;obtain⟨_,a,c,rfl,_⟩:=p1;go_enter Tryz.func147,Tryz.ntmps147;go_wp2_with fail;have eA:=zC w(.cells #[.int .i64 s.zRU,.slice a s.kn c,.string s.data] 183);have fA:=zA eA(zC _(.cells #[.int .i64 0,.slice none 0 0,.string ⟨#[]⟩] 127));have dA:=zA fA(zC _(.cells #[.int .i64 s.zRU,.slice none 0 0,.string ⟨#[]⟩] 127));refine(zFQ _ s.kn lo hi _ _ _(q1.zRJ dA) hn).mono ?_;rintro e w1 ⟨⟨kv,rfl,hown⟩,hb1,hsz⟩;have HB:Hid(yT w1 w.heap.size(.int .i64 s.zRU)(.slice a s.kn c)(.string s.data)):=(((yT.zRL w _ _ _ _).zRJ(zC _ _)).zRJ(zC _ _)).zRJ hb1;have HR:Hid(yT w1(w.heap.size+1)(.int .i64 0)(.slice none 0 0)(.string ⟨#[]⟩)):=by
  have:=(((yT.zRL(w.alloc(.cells #[.int .i64 s.zRU,.slice a s.kn c,.string s.data] 183))(.int .i64 0)(.slice none 0 0)(.string ⟨#[]⟩) 127).zRJ(zC _ _)).zRJ hb1);rw [World.size_alloc] at this;exact this
 have HO:Hid(yT w1(w.heap.size+1+1)(.int .i64 s.zRU)(.slice none 0 0)(.string ⟨#[]⟩)):=by
  have:=((yT.zRL((w.alloc(.cells #[.int .i64 s.zRU,.slice a s.kn c,.string s.data] 183)).alloc(.cells #[.int .i64 0,.slice none 0 0,.string ⟨#[]⟩] 127))(.int .i64 s.zRU)(.slice none 0 0)(.string ⟨#[]⟩) 127).zRJ hb1);rw [World.size_alloc,World.size_alloc] at this;exact this
 have gA:=zA dA hb1;have aA:Hid(zj w1(w.heap.size+1+1+1) kv s.kn s.ks s.kb):=by
  have:=hown;rw [World.size_alloc,World.size_alloc,World.size_alloc] at this;exact this
 have bA:w.heap.size+1+1+1<w1.heap.size:=by
  rw [World.size_alloc,World.size_alloc,World.size_alloc] at hsz;exact hsz
 clear hsz;obtain⟨_,ka,kc,rfl,_⟩:=hown;clear eA fA dA hb1;obtain⟨⟨x0,x1⟩,⟨x2,x3⟩,⟨x4,x5⟩⟩:=HB.out;obtain⟨⟨y0,y1⟩,⟨y2,y3⟩,⟨y4,y5⟩⟩:=HR.out;obtain⟨⟨z0,z1⟩,⟨z2,z3⟩,⟨z4,z5⟩⟩:=HO.out;go_wp2;have cA:=((HR.out.zRK(b':=w.heap.size+1+1)(o':=1)(.slice ka s.kn kc)(by omega)).zRK(b':=w.heap.size+1+1)(o':=2)(.string s.data)(by omega)).put(.int .i64 s.zRU)(.slice ka s.kn kc)(.string s.data);refine bodyPost_ret(v:=.agg #[.int .i64 s.zRU,.slice ka s.kn kc,.string s.data])(by simp [results,Tryz.results147,go_sem,cA.1.1,cA.2.1.1,cA.2.2.1]) rfl ⟨⟨_,w.heap.size+1+1+1,rfl,?_,by omega,by simpa using bA⟩,?_⟩
 ·exact((((aA.out.put _(by omega)).put _(by omega)).put _(by omega)).put _(by omega)).put _(by omega)
 ·exact((((gA.setCell(by show _<=w.heap.size+1+1;omega) _).setCell(by show _<=w.heap.size+1+1;omega) _).setCell(by show _<=w.heap.size+1;omega) _).setCell(by show _<=w.heap.size+1;omega) _).setCell(by show _<=w.heap.size+1;omega) _
structure zM7(wr:World)(bs n k:Nat)(f:Nat->zL)(kb:Nat->Nat)(kv:Nat->Value):Prop where
 slots:∀j,j<n->yy wr bs(0+j*3)(kb j)(kv j)(if j<k then f j else zG2)
 zRW:yS kb k f
 zRY:∀j,j<k->0<(f j).kn->bs<kb j/\kb j<wr.heap.size
theorem zM7.zRJ{wr w':World}{bs n k:Nat}{f:Nat->zL}{kb:Nat->Nat}{kv:Nat->Value}(h:zM7 wr bs n k f kb kv)(t:Below wr.heap.size wr w'):zM7 w' bs n k f kb kv:=
 ⟨fun j hj=>(h.slots j hj).zRJ t,h.zRW,fun j hj h0=>by have:=h.zRY j hj h0;have:=t.size;omega⟩
theorem zM7.next{wr w1:World}{bs n k b:Nat}{f:Nat->zL}{kb:Nat->Nat}{kv:Nat->Value}{v:Value}(h:zM7 wr bs n k f kb kv)(hk:k<n)(dA:bs<wr.heap.size)(t:Below wr.heap.size wr w1)
  (hp:zj w1 b v(f k).kn(f k).ks(f k).kb)(hb:wr.heap.size<=b)(cA:b<w1.heap.size)(hs:(f k).data.size<=maxLen) :
  zM7(((w1.setCell ⟨bs,0+k*3,none⟩(.int .i64(f k).zRU)).setCell ⟨bs,0+k*3+1,none⟩ v).setCell ⟨bs,0+k*3+2,none⟩(.string(f k).data)) bs n(k+1) f(fun j=>if j=k then b else kb j)(fun j=>if j=k then v else kv j):=by
 have h':=h.zRJ t;refine⟨fun j hj=>?_,fun i j hi hj bA h1 h2=>?_,fun j hj h0=>?_⟩
 ·have aA:=h'.slots j hj;by_cases e:j=k
  ·subst e;simp only [if_true];rw [if_pos(by omega)];refine⟨?_,?_,?_,?_,hs,fun _=>by omega⟩
   ·exact((aA.zRU.set _).zRK _(Or.inr(by omega))).zRK _(Or.inr(by omega))
   ·exact((aA.kidsv.zRK _(Or.inr(by omega))).set _).zRK _(Or.inr(by omega))
   ·exact((aA.data.zRK _(Or.inr(by omega))).zRK _(Or.inr(by omega))).set _
   ·exact((hp.put _(by omega)).put _(by omega)).put _(by omega)
  ·simp only [if_neg e];have es:(if j<k+1 then f j else zG2)=if j<k then f j else zG2:=by
    by_cases e2:j<k
    ·rw [if_pos e2,if_pos(by omega)]
    ·rw [if_neg e2,if_neg(by omega)]
   rw [es];refine⟨?_,?_,?_,?_,aA.zRZ,aA.zRW⟩
   ·exact((aA.zRU.zRK _(Or.inr(by omega))).zRK _(Or.inr(by omega))).zRK _(Or.inr(by omega))
   ·exact((aA.kidsv.zRK _(Or.inr(by omega))).zRK _(Or.inr(by omega))).zRK _(Or.inr(by omega))
   ·exact((aA.data.zRK _(Or.inr(by omega))).zRK _(Or.inr(by omega))).zRK _(Or.inr(by omega))
   ·refine((aA.kids.zRR(zF.put _ _ _ _) ?_).zRR(zF.put _ _ _ _) ?_).zRR(zF.put _ _ _ _) ?_
    all_goals exact fun h0 hx=>aA.zRW h0 hx
 ·show(if i=k then b else kb i)≠(if j=k then b else kb j);by_cases e1:i=k
  ·by_cases e2:j=k
   ·omega
   ·rw [if_pos e1,if_neg e2];have:=h.zRY j(by omega) h2;omega
  ·by_cases e2:j=k
   ·rw [if_neg e1,if_pos e2];have:=h.zRY i(by omega) h1;omega
   ·rw [if_neg e1,if_neg e2];exact h.zRW i j(by omega)(by omega) bA h1 h2
 ·simp only [World.size_setCell];by_cases e:j=k
  ·rw [if_pos e];omega
  ·rw [if_neg e];have:=h'.zRY j(by omega) h0;omega
theorem zNu{w:World}{bs n j:Nat}(hj:j<n)(aA:bs=w.heap.size):yy(w.alloc(.cells(zA0 #[.int .i64 0,.slice none 0 0,.string ⟨#[]⟩] n) 127)) bs(0+j*3) 0(.slice none 0 0) zG2:=by
 subst aA;have c0:=qu w #[.int .i64 0,.slice none 0 0,.string ⟨#[]⟩] n j 0 127 hj(by simp);have c1:=qu w #[.int .i64 0,.slice none 0 0,.string ⟨#[]⟩] n j 1 127 hj(by simp);have c2:=qu w #[.int .i64 0,.slice none 0 0,.string ⟨#[]⟩] n j 2 127 hj(by simp);refine⟨?_,?_,?_,⟨Nat.zero_le _,none,0,rfl,Nat.le_refl _,fun h=>absurd h(Nat.lt_irrefl _)⟩,Nat.zero_le _,fun h=>absurd h(Nat.lt_irrefl _)⟩
 ·show zX _ _ _(.int .i64 0);simpa using c0
 ·simpa using c1
 ·show zX _ _ _(.string ⟨#[]⟩);simpa using c2
theorem zMF(v:Value)(n lo hi:Nat)(f:Nat->zL)(w:World)(h1:qA w lo hi v n f)(hn:n+yr f n<=1048576) :
  Calls Tryz.prog 87 #[v] w fun e w'=>(∃v' kb kv,e = .returned v'/\qW w' w.heap.size kb kv v' n f/\yS kb n f/\∀j,j<n->0<(f j).kn->w.heap.size<kb j/\kb j<w'.heap.size)/\Below w.heap.size w w'/\w.heap.size<w'.heap.size:=by
 obtain⟨m1,a,c,rfl,mc,g1⟩:=h1;have iA:=m1;unfold maxLen at m1;have G1:Hid(0<n->∃b off,a=some ⟨b,off,none⟩/\lo<=b/\b<hi/\∀i,i<n->∃v0 v1 v2,w.cell? ⟨b,off+i*3,none⟩=some v0/\w.cell? ⟨b,off+i*3+1,none⟩=some v1/\w.cell? ⟨b,off+i*3+2,none⟩=some v2/\qI w lo hi v0 v1 v2(f i)):=g1;have Hn:Hid(n+yr f n<=1048576):=hn;clear g1;have kA:=zBC 31 127(.agg #[.int .i64 0,.slice none 0 0,.string ⟨#[]⟩]) 3 48(by kernel_rfl) zEX rfl n(by omega)(by omega);clear hn;go_enter Tryz.func87,Tryz.ntmps87;go_wp2
 go_loopw [4](fun i wr=>∃(k:Nat)(kb:Nat->Nat)(kv:Nat->Value),k<=n/\i = .int .i64 k/\zM7 wr w.heap.size n k f kb kv/\Below w.heap.size w wr/\w.heap.size<wr.heap.size)(fun i _=>n - (intOf i).toNat)
 case atStart=>exact⟨0,fun _=>0,fun _=>.slice none 0 0,Nat.zero_le _,rfl,⟨fun j hj=>by rw [if_neg(by omega)];exact zNu hj rfl,fun i j hi=>absurd hi(by omega),fun j hj=>absurd hj(by omega)⟩,zC _ _,by simp⟩
 case round=>
  obtain⟨k,kb,kv,hk,rfl,hpart,hb,hsz⟩:=hrel;by_cases aA:k<n
  ·have jA:(k:Int)<(n:Int):=(by omega);obtain⟨b,off,rfl,_,_,k1⟩:=G1.out(by omega);obtain⟨x0,x1,x2,c0,c1,c2,hs⟩:=k1 k aA;have eA:=(hb.cell(zD c0)).trans c0;have gA:=(hb.cell(zD c1)).trans c1;have fA:=(hb.cell(zD c2)).trans c2;have cA:=hs.zRJ hb;have Hs:Hid(qI wr lo hi x0 x1 x2(f k)):=cA;clear k1 G1 c0 c1 c2 hs;obtain⟨rfl,⟨_,ka,kc,rfl,_⟩,rfl,hsmall⟩:=cA;go_wp2_with fail;refine(zM1 _ _ _ lo hi(f k) _ Hs.out(by have h1:=Hn.out;have h2:=zFr f aA;unfold zAY at h2;omega)).mono ?_;rintro e w1 ⟨⟨nv,nb,rfl,hp,hnb1,hnb2⟩,hb1⟩;have dA:=zA hb hb1;have hz:=(hpart.slots k aA).zRJ hb1;obtain⟨e0,e1⟩:=hz.zRU;obtain⟨e2,e3⟩:=hz.kidsv;obtain⟨e4,e5⟩:=hz.data;clear eA gA fA hz;rw [Nat.zero_add] at e0 e1 e2 e3 e4 e5;have Hp:Hid(zj w1 nb nv(f k).kn(f k).ks(f k).kb):=hp;obtain⟨_,na,nc,rfl,_⟩:=hp;have bA:w.heap.size<w1.heap.size:=(by have:=hb1.size;omega);go_wp2;go_roundw
   case rel=>
    refine⟨k+1,(fun j=>if j=k then nb else kb j),(fun j=>if j=k then .slice na(f k).kn nc else kv j),by omega,by go_num,?_,((dA.setCell(Nat.le_refl _) _).setCell(Nat.le_refl _) _).setCell(Nat.le_refl _) _,by simpa using bA⟩;have hx:=hpart.next aA hsz hb1 Hp.out hnb1 hnb2 hsmall;rw [Nat.zero_add] at hx;exact hx
   case measure=>simp [intOf];omega
  ·obtain rfl:k=n:=(by omega);go_wp2;go_ret;refine⟨⟨_,kb,kv,rfl,⟨iA,_,k,rfl,Nat.le_refl _,fun _=>⟨0,rfl,fun i hi=>?_⟩⟩,hpart.zRW,hpart.zRY⟩,hb,hsz⟩;have:=hpart.slots i hi;rw [if_pos hi] at this;exact this
theorem zMM(v0 v1:Value)(lo hi:Nat)(p:zJ)(w:World)(h1:zy w lo hi v0 v1 p)(hn:qE p<=1048576):Calls Tryz.prog 30 #[.agg #[v0,v1]] w(zHP p w):=by
 have q1:=h1;obtain⟨⟨_,a,c,rfl,_⟩,⟨_,a',c',rfl,_⟩⟩:=h1;unfold qE at hn;go_enter Tryz.func30,Tryz.ntmps30;go_wp2_with fail;have gA:=zC w(.cells #[.slice a p.n c,.slice a' p.hn c'] 25);have jA:=zA gA(zC _(.cells #[.slice none 0 0,.slice none 0 0] 33));have fA:=zA jA(zC _(.cells #[.slice none 0 0,.slice none 0 0] 33));refine(zMF _ p.n lo hi p.s _(q1.1.zRJ fA)(by omega)).mono ?_;rintro e w1 ⟨⟨sv,kb,kv,rfl,hown,hap,hpl⟩,hb1,hsz⟩;have HB:Hid(zc w1 w.heap.size(.slice a p.n c)(.slice a' p.hn c')):=(((zc.zRL w _ _ _).zRJ(zC _ _)).zRJ(zC _ _)).zRJ hb1;have HR:Hid(zc w1(w.heap.size+1)(.slice none 0 0)(.slice none 0 0)):=by
  have:=(((zc.zRL(w.alloc(.cells #[.slice a p.n c,.slice a' p.hn c'] 25))(.slice none 0 0)(.slice none 0 0) 33).zRJ(zC _ _)).zRJ hb1);rw [World.size_alloc] at this;exact this
 have HO:Hid(zc w1(w.heap.size+1+1)(.slice none 0 0)(.slice none 0 0)):=by
  have:=((zc.zRL((w.alloc(.cells #[.slice a p.n c,.slice a' p.hn c'] 25)).alloc(.cells #[.slice none 0 0,.slice none 0 0] 33))(.slice none 0 0)(.slice none 0 0) 33).zRJ hb1);rw [World.size_alloc,World.size_alloc] at this;exact this
 have iA:=zA fA hb1;rw [World.size_alloc,World.size_alloc,World.size_alloc] at hown hpl hsz;have aA:Hid(qW w1(w.heap.size+1+1+1) kb kv sv p.n p.s):=hown;have mA:Hid(yS kb p.n p.s):=hap;have dA:Hid(∀j,j<p.n->0<(p.s j).kn->w.heap.size+1+1+1<kb j/\kb j<w1.heap.size):=hpl;obtain⟨_,sa,sc,rfl,_⟩:=hown;clear hap hpl gA jA fA hb1;obtain⟨⟨x0,x1⟩,⟨x2,x3⟩⟩:=HB.out;obtain⟨⟨z0,z1⟩,⟨z2,z3⟩⟩:=HO.out;go_wp2_with fail;have eA:=iA.setCell(p:=⟨w.heap.size+1+1,0,none⟩)(by show _<=w.heap.size+1+1;omega)(.slice sa p.n sc);refine(zKm _ p.hn lo hi p.h _(q1.2.zRJ eA)(by omega)).mono ?_;rintro e w2 ⟨⟨hv,rfl,hiown⟩,hb4,hsz4⟩;rw [World.size_setCell] at hiown hsz4;have oA:=zA eA hb4;have lA:Hid(zc w2(w.heap.size+1)(.slice none 0 0)(.slice none 0 0)):=(HR.out.zRK _(by omega)).zRJ hb4;have nA:Hid(zc w2(w.heap.size+1+1)(.slice sa p.n sc)(.slice none 0 0)):=(show zc(w1.setCell ⟨w.heap.size+1+1,0,none⟩(.slice sa p.n sc))(w.heap.size+1+1)(.slice sa p.n sc)(.slice none 0 0)from⟨HO.out.1.set _,HO.out.2.zRK _(Or.inr(by omega))⟩).zRJ hb4;have cA:Hid(qW w2(w.heap.size+1+1+1) kb kv(.slice sa p.n sc) p.n p.s):=
  (aA.out.zRR(zF.put _ _ _ _)(fun _ e=>by omega)(fun i hi h0 e=>by have:=dA.out i hi h0;omega)).zRJ hb4
 have bA:Hid(qj w2 w1.heap.size hv p.hn p.h):=hiown;obtain⟨_,ia,ic,rfl,_⟩:=hiown;clear x0 x1 x2 x3 z0 z1 z2 z3 hb4 eA HB HR HO aA iA;obtain⟨⟨y0,y1⟩,⟨y2,y3⟩⟩:=lA.out;obtain⟨⟨z0,z1⟩,⟨z2,z3⟩⟩:=nA.out;go_wp2;have kA:=(lA.out.zRK(b':=w.heap.size+1+1)(o':=1)(.slice ia p.hn ic)(by omega)).put(.slice sa p.n sc)(.slice ia p.hn ic);refine bodyPost_ret(v:=.agg #[.slice sa p.n sc,.slice ia p.hn ic])(by simp [results,Tryz.results30,go_sem,kA.1.1,kA.2.1]) rfl ⟨_,_,rfl,?_,?_⟩
 ·refine⟨w.heap.size+1+1+1,w1.heap.size,kb,kv,?_,mA.out,?_,?_,?_⟩
  ·have pl:=dA.out;refine((cA.out.zRR(zF.put _ _ _ _) ?_ ?_).zRR(zF.put _ _ _ _) ?_ ?_).zRR(zF.put _ _ _ _) ?_ ?_
   ·exact fun _ e=>by omega
   ·exact fun i hi h0 e=>by have:=pl i hi h0;omega
   ·exact fun _ e=>by omega
   ·exact fun i hi h0 e=>by have:=pl i hi h0;omega
   ·exact fun _ e=>by omega
   ·exact fun i hi h0 e=>by have:=pl i hi h0;omega
  ·exact((bA.out.put _(by omega)).put _(by omega)).put _(by omega)
  ·rintro h0(⟨_,e⟩ | ⟨i,hi,h1,e⟩)
   ·omega
   ·have:=dA.out i hi h1;omega
  ·simp only [World.size_setCell];rintro k((⟨_,rfl⟩ | ⟨i,hi,h1,rfl⟩) | ⟨_,rfl⟩)
   ·omega
   ·have:=dA.out i hi h1;omega
   ·omega
 ·exact((oA.setCell(by show _<=w.heap.size+1+1;omega) _).setCell(by show _<=w.heap.size+1;omega) _).setCell(by show _<=w.heap.size+1;omega) _
open Go.Maps
theorem zi.off6{w:World}{b:Nat}{a0 a1 a2 a3 a4 a5:Value}(h:zi w b a0 a1 a2 a3 a4 a5){b':Nat}(o:Nat)(u:Value)(o':Nat)(u':Value)(aA:b'≠b):zi((w.setCell ⟨b',o,none⟩ u).setCell ⟨b',o',none⟩ u') b a0 a1 a2 a3 a4 a5:=by
 obtain⟨h0,h1,h2,h3,h4,h5⟩:=h;have hc:∀{j:Nat} {v:Value},zX w b j v->zX((w.setCell ⟨b',o,none⟩ u).setCell ⟨b',o',none⟩ u') b j v:=fun hc=>(hc.zRK _(Or.inl aA)).zRK _(Or.inl aA)
 exact⟨hc h0,hc h1,hc h2,hc h3,hc h4,hc h5⟩
theorem zi.mid6{w:World}{b:Nat}{a0 a1 a2 a3 a4 a5:Value}(h:zi w b a0 a1 a2 a3 a4 a5)(u u':Value):zi((w.setCell ⟨b,3,none⟩ u).setCell ⟨b,4,none⟩ u') b a0 a1 a2 u u' a5:=by
 obtain⟨h0,h1,h2,h3,h4,h5⟩:=h;exact⟨(h0.zRK _(Or.inr(by omega))).zRK _(Or.inr(by omega)),(h1.zRK _(Or.inr(by omega))).zRK _(Or.inr(by omega)),(h2.zRK _(Or.inr(by omega))).zRK _(Or.inr(by omega)),(h3.set _).zRK _(Or.inr(by omega)),(h4.zRK _(Or.inr(by omega))).set _,(h5.zRK _(Or.inr(by omega))).zRK _(Or.inr(by omega))⟩
theorem zOF(v:Value)(lo hi:Nat)(s:qC)(w:World)(h1:zR w lo hi v s.dn s.ds s.db)(hn:s.dn<=1048576) :
  Calls Tryz.prog 89 #[zDH v s] w fun e w'=>(∃v' b,e = .returned(zDH v' s)/\zj w' b v' s.dn s.ds s.db/\w.heap.size<=b/\b<w'.heap.size)/\Below w.heap.size w w':=by
 unfold zDH;have H1:=zB h1;obtain⟨-,a,c,rfl,-⟩:=id h1;clear h1;have fA:∀Wa Wb Wc:World,Wa=w.alloc(.cells #[.string s.name,.int .i64 s.origin,.int .i64 s.zRT,.int .i64 s.rs,.int .i64 s.rb,.slice a s.dn c] 116)->Wb=Wa.alloc(.cells #[.string ⟨#[]⟩,.int .i64 0,.int .i64 0,.int .i64 0,.int .i64 0,.slice none 0 0] 67)->Wc=Wb.alloc(.cells #[.string s.name,.int .i64 s.origin,.int .i64 s.zRT,.int .i64 0,.int .i64 0,.slice none 0 0] 67)->zi Wc w.heap.size(.string s.name)(.int .i64 s.origin)(.int .i64 s.zRT)(.int .i64 s.rs)(.int .i64 s.rb)(.slice a s.dn c)/\zi Wc(w.heap.size+1)(.string ⟨#[]⟩)(.int .i64 0)(.int .i64 0)(.int .i64 0)(.int .i64 0)(.slice none 0 0)/\zi Wc(w.heap.size+1+1)(.string s.name)(.int .i64 s.origin)(.int .i64 s.zRT)(.int .i64 0)(.int .i64 0)(.slice none 0 0)/\Below w.heap.size w Wc/\Wc.heap.size=w.heap.size+3:=by
  rintro Wa Wb Wc ea eb ec;have ha:=zC w(.cells #[.string s.name,.int .i64 s.origin,.int .i64 s.zRT,.int .i64 s.rs,.int .i64 s.rb,.slice a s.dn c] 116);have h1:=zi.zRL w(.string s.name)(.int .i64 s.origin)(.int .i64 s.zRT)(.int .i64 s.rs)(.int .i64 s.rb)(.slice a s.dn c) 116;have z1:Wa.heap.size=w.heap.size+1:=(by rw [ea];exact World.size_alloc _ _);rw [<-ea] at ha h1;have hb:=zC Wa(.cells #[.string ⟨#[]⟩,.int .i64 0,.int .i64 0,.int .i64 0,.int .i64 0,.slice none 0 0] 67);have h2:=zi.zRL Wa(.string ⟨#[]⟩)(.int .i64 0)(.int .i64 0)(.int .i64 0)(.int .i64 0)(.slice none 0 0) 67;have z2:Wb.heap.size=w.heap.size+1+1:=(by rw [eb,World.size_alloc,z1]);rw [<-eb,z1] at h2;rw [<-eb] at hb;have hc:=zC Wb(.cells #[.string s.name,.int .i64 s.origin,.int .i64 s.zRT,.int .i64 0,.int .i64 0,.slice none 0 0] 67);have h3:=zi.zRL Wb(.string s.name)(.int .i64 s.origin)(.int .i64 s.zRT)(.int .i64 0)(.int .i64 0)(.slice none 0 0) 67;have z3:Wc.heap.size=w.heap.size+3:=(by rw [ec,World.size_alloc,z2]);rw [<-ec,z2] at h3;rw [<-ec] at hc;exact⟨(h1.zRJ hb).zRJ hc,h2.zRJ hc,h3,zA(zA ha hb) hc,z3⟩
 obtain⟨hx,hy,hz,hbw,hsz⟩:=fA _ _ _ rfl rfl rfl;have HX:=zB hx;have HY:=zB hy;have HZ:=zB hz;have HS:=zB hsz;clear hx hy hz fA hsz;go_enter Tryz.func89,Tryz.ntmps89;go_wp2_with fail;generalize((w.alloc(.cells #[.string s.name,.int .i64 s.origin,.int .i64 s.zRT,.int .i64 s.rs,.int .i64 s.rb,.slice a s.dn c] 116)).alloc(.cells #[.string ⟨#[]⟩,.int .i64 0,.int .i64 0,.int .i64 0,.int .i64 0,.slice none 0 0] 67)).alloc(.cells #[.string s.name,.int .i64 s.origin,.int .i64 s.zRT,.int .i64 0,.int .i64 0,.slice none 0 0] 67)=W0 at HX HY HZ HS hbw ⊢;refine(zGc s.rs s.rb W0).mono ?_;rintro e w1 ⟨rfl,hb1⟩;have bA:=zB((HX.out.zRJ hb1).off6 3(.int .i64 s.rs) 4(.int .i64 s.rb)(show w.heap.size+1+1≠_ by omega));have cA:=zB((HY.out.zRJ hb1).off6 3(.int .i64 s.rs) 4(.int .i64 s.rb)(show w.heap.size+1+1≠_ by omega));have dA:=zB((HZ.out.zRJ hb1).mid6(.int .i64 s.rs)(.int .i64 s.rb));have aA:Below w.heap.size w((w1.setCell ⟨w.heap.size+1+1,3,none⟩(.int .i64 s.rs)).setCell ⟨w.heap.size+1+1,4,none⟩(.int .i64 s.rb)):=((zA hbw hb1).setCell(by show _<=w.heap.size+1+1;omega) _).setCell(by show _<=w.heap.size+1+1;omega) _;have gA:=zB(show w.heap.size+3<=((w1.setCell ⟨w.heap.size+1+1,3,none⟩(.int .i64 s.rs)).setCell ⟨w.heap.size+1+1,4,none⟩(.int .i64 s.rb)).heap.size by simp only [World.size_setCell];have:=hb1.size;have:=HS.out;omega);obtain⟨⟨x0,x0'⟩,⟨x1,x1'⟩,⟨x2,x2'⟩,⟨x3,x3'⟩,⟨x4,x4'⟩,⟨x5,x5'⟩⟩:=HX.out.zRJ hb1;obtain⟨⟨z0,z0'⟩,⟨z1,z1'⟩,⟨z2,z2'⟩,⟨z3,z3'⟩,⟨z4,z4'⟩,⟨z5,z5'⟩⟩:=HZ.out.zRJ hb1;clear hb1 hbw HX HY HZ HS;go_wp2_with fail;clear x0 x1 x2 x3 x4 x5 z0 z1 z2 z3 z4 z5 x0' x1' x2' x3' x4' x5' z0' z1' z2' z3' z4' z5';generalize(w1.setCell ⟨w.heap.size+1+1,3,none⟩(.int .i64 s.rs)).setCell ⟨w.heap.size+1+1,4,none⟩(.int .i64 s.rb)=W1 at bA cA dA gA aA ⊢;refine(zFQ _ s.dn lo hi _ _ W1(H1.out.zRJ aA) hn).mono ?_;rintro e w2 ⟨⟨v',rfl,ho⟩,hb2,hz2⟩;obtain⟨-,av,cv,rfl,-,-⟩:=id ho;have HO:=zB ho;have jA:=zB(bA.out.zRJ hb2);have eA:=zB(cA.out.zRJ hb2);have iA:=zB(dA.out.zRJ hb2);have kA:=zA aA hb2;clear ho hb2 bA cA dA aA;obtain⟨⟨x0,x0'⟩,⟨x1,x1'⟩,⟨x2,x2'⟩,⟨x3,x3'⟩,⟨x4,x4'⟩,⟨x5,x5'⟩⟩:=jA.out;obtain⟨⟨y0,y0'⟩,⟨y1,y1'⟩,⟨y2,y2'⟩,⟨y3,y3'⟩,⟨y4,y4'⟩,⟨y5,y5'⟩⟩:=eA.out;obtain⟨⟨z0,z0'⟩,⟨z1,z1'⟩,⟨z2,z2'⟩,⟨z3,z3'⟩,⟨z4,z4'⟩,⟨z5,z5'⟩⟩:=iA.out;go_wp2;have HR:=(show zi(w2.setCell ⟨w.heap.size+1+1,5,none⟩(.slice av s.dn cv))(w.heap.size+1) _ _ _ _ _ _ from(by
  obtain⟨h0,h1,h2,h3,h4,h5⟩:=eA.out;have hc:∀{j:Nat} {v:Value},zX w2(w.heap.size+1) j v->zX(w2.setCell ⟨w.heap.size+1+1,5,none⟩(.slice av s.dn cv))(w.heap.size+1) j v:=fun hc=>hc.zRK _(Or.inl(by omega))
  exact⟨hc h0,hc h1,hc h2,hc h3,hc h4,hc h5⟩)).put(.string s.name)(.int .i64 s.origin)(.int .i64 s.zRT)(.int .i64 s.rs)(.int .i64 s.rb)(.slice av s.dn cv)
 have lA:=gA.out;refine bodyPost_ret(v:=.agg #[.string s.name,.int .i64 s.origin,.int .i64 s.zRT,.int .i64 s.rs,.int .i64 s.rb,.slice av s.dn cv])(by simp [results,Tryz.results89,go_sem,HR.1.1,HR.2.1.1,HR.2.2.1.1,HR.2.2.2.1.1,HR.2.2.2.2.1.1,HR.2.2.2.2.2.1]) rfl ⟨⟨_,W1.heap.size,rfl,?_,by omega,by simpa using hz2⟩,?_⟩
 ·exact((((((HO.out.put _(by omega)).put _(by omega)).put _(by omega)).put _(by omega)).put _(by omega)).put _(by omega)).put _(by omega)
 ·exact((((((kA.setCell(by show _<=w.heap.size+1+1;omega) _).setCell(by show _<=w.heap.size+1;omega) _).setCell(by show _<=w.heap.size+1;omega) _).setCell(by show _<=w.heap.size+1;omega) _).setCell(by show _<=w.heap.size+1;omega) _).setCell(by show _<=w.heap.size+1;omega) _).setCell(by show _<=w.heap.size+1;omega) _
theorem zMk(v:Value)(lo hi:Nat)(s:zm)(w:World)(h1:zR w lo hi v s.dn s.ds s.db)(hn:s.dn<=1048576) :
  Calls Tryz.prog 90 #[yg v s] w fun e w'=>(∃v' b,e = .returned(yg v' s)/\zj w' b v' s.dn s.ds s.db/\w.heap.size<=b/\b<w'.heap.size)/\Below w.heap.size w w':=by
 unfold yg;have H1:=zB h1;obtain⟨-,a,c,rfl,-⟩:=id h1;clear h1;have fA:∀Wa Wb Wc:World,Wa=w.alloc(.cells #[.int .i64 s.id,.string s.name,.string s.set,.int .i64 s.zRT,.int .i64 s.time,.int .i64 s.rs,.int .i64 s.rb,.slice a s.dn c] 119)->Wb=Wa.alloc(.cells #[.int .i64 0,.string ⟨#[]⟩,.string ⟨#[]⟩,.int .i64 0,.int .i64 0,.int .i64 0,.int .i64 0,.slice none 0 0] 99)->Wc=Wb.alloc(.cells #[.int .i64 s.id,.string s.name,.string s.set,.int .i64 s.zRT,.int .i64 s.time,.int .i64 0,.int .i64 0,.slice none 0 0] 99)->zCp Wc w.heap.size(.int .i64 s.id)(.string s.name)(.string s.set)(.int .i64 s.zRT)(.int .i64 s.time)(.int .i64 s.rs)(.int .i64 s.rb)(.slice a s.dn c)/\zCp Wc(w.heap.size+1)(.int .i64 0)(.string ⟨#[]⟩)(.string ⟨#[]⟩)(.int .i64 0)(.int .i64 0)(.int .i64 0)(.int .i64 0)(.slice none 0 0)/\zCp Wc(w.heap.size+1+1)(.int .i64 s.id)(.string s.name)(.string s.set)(.int .i64 s.zRT)(.int .i64 s.time)(.int .i64 0)(.int .i64 0)(.slice none 0 0)/\Below w.heap.size w Wc/\Wc.heap.size=w.heap.size+3:=by
  rintro Wa Wb Wc ea eb ec;have ha:=zC w(.cells #[.int .i64 s.id,.string s.name,.string s.set,.int .i64 s.zRT,.int .i64 s.time,.int .i64 s.rs,.int .i64 s.rb,.slice a s.dn c] 119);have h1:=zCp.zRL w(.int .i64 s.id)(.string s.name)(.string s.set)(.int .i64 s.zRT)(.int .i64 s.time)(.int .i64 s.rs)(.int .i64 s.rb)(.slice a s.dn c) 119;have z1:Wa.heap.size=w.heap.size+1:=(by rw [ea];exact World.size_alloc _ _);rw [<-ea] at ha h1;have hb:=zC Wa(.cells #[.int .i64 0,.string ⟨#[]⟩,.string ⟨#[]⟩,.int .i64 0,.int .i64 0,.int .i64 0,.int .i64 0,.slice none 0 0] 99);have h2:=zCp.zRL Wa(.int .i64 0)(.string ⟨#[]⟩)(.string ⟨#[]⟩)(.int .i64 0)(.int .i64 0)(.int .i64 0)(.int .i64 0)(.slice none 0 0) 99;have z2:Wb.heap.size=w.heap.size+1+1:=(by rw [eb,World.size_alloc,z1]);rw [<-eb,z1] at h2;rw [<-eb] at hb;have hc:=zC Wb(.cells #[.int .i64 s.id,.string s.name,.string s.set,.int .i64 s.zRT,.int .i64 s.time,.int .i64 0,.int .i64 0,.slice none 0 0] 99);have h3:=zCp.zRL Wb(.int .i64 s.id)(.string s.name)(.string s.set)(.int .i64 s.zRT)(.int .i64 s.time)(.int .i64 0)(.int .i64 0)(.slice none 0 0) 99;have z3:Wc.heap.size=w.heap.size+3:=(by rw [ec,World.size_alloc,z2]);rw [<-ec,z2] at h3;rw [<-ec] at hc;exact⟨(h1.zRJ hb).zRJ hc,h2.zRJ hc,h3,zA(zA ha hb) hc,z3⟩
 obtain⟨hx,hy,hz,hbw,hsz⟩:=fA _ _ _ rfl rfl rfl;have HX:=zB hx;have HY:=zB hy;have HZ:=zB hz;have HS:=zB hsz;clear hx hy hz fA hsz;go_enter Tryz.func90,Tryz.ntmps90;go_wp2_with fail;generalize((w.alloc(.cells #[.int .i64 s.id,.string s.name,.string s.set,.int .i64 s.zRT,.int .i64 s.time,.int .i64 s.rs,.int .i64 s.rb,.slice a s.dn c] 119)).alloc(.cells #[.int .i64 0,.string ⟨#[]⟩,.string ⟨#[]⟩,.int .i64 0,.int .i64 0,.int .i64 0,.int .i64 0,.slice none 0 0] 99)).alloc(.cells #[.int .i64 s.id,.string s.name,.string s.set,.int .i64 s.zRT,.int .i64 s.time,.int .i64 0,.int .i64 0,.slice none 0 0] 99)=W0 at HX HY HZ HS hbw ⊢;refine(zGc s.rs s.rb W0).mono ?_;rintro e w1 ⟨rfl,hb1⟩;have bA:=zB((HX.out.zRJ hb1).off8 5(.int .i64 s.rs) 6(.int .i64 s.rb)(show w.heap.size+1+1≠_ by omega));have cA:=zB((HY.out.zRJ hb1).off8 5(.int .i64 s.rs) 6(.int .i64 s.rb)(show w.heap.size+1+1≠_ by omega));have dA:=zB((HZ.out.zRJ hb1).mid8(.int .i64 s.rs)(.int .i64 s.rb));have aA:Below w.heap.size w((w1.setCell ⟨w.heap.size+1+1,5,none⟩(.int .i64 s.rs)).setCell ⟨w.heap.size+1+1,6,none⟩(.int .i64 s.rb)):=((zA hbw hb1).setCell(by show _<=w.heap.size+1+1;omega) _).setCell(by show _<=w.heap.size+1+1;omega) _;have gA:=zB(show w.heap.size+3<=((w1.setCell ⟨w.heap.size+1+1,5,none⟩(.int .i64 s.rs)).setCell ⟨w.heap.size+1+1,6,none⟩(.int .i64 s.rb)).heap.size by simp only [World.size_setCell];have:=hb1.size;have:=HS.out;omega);obtain⟨⟨x0,x0'⟩,⟨x1,x1'⟩,⟨x2,x2'⟩,⟨x3,x3'⟩,⟨x4,x4'⟩,⟨x5,x5'⟩,⟨x6,x6'⟩,⟨x7,x7'⟩⟩:=HX.out.zRJ hb1;obtain⟨⟨z0,z0'⟩,⟨z1,z1'⟩,⟨z2,z2'⟩,⟨z3,z3'⟩,⟨z4,z4'⟩,⟨z5,z5'⟩,⟨z6,z6'⟩,⟨z7,z7'⟩⟩:=HZ.out.zRJ hb1;clear hb1 hbw HX HY HZ HS;go_wp2_with fail;clear x0 x1 x2 x3 x4 x5 x6 x7 x0' x1' x2' x3' x4' x5' x6' x7' z0 z1 z2 z3 z4 z5 z6 z7 z0' z1' z2' z3' z4' z5' z6' z7';generalize(w1.setCell ⟨w.heap.size+1+1,5,none⟩(.int .i64 s.rs)).setCell ⟨w.heap.size+1+1,6,none⟩(.int .i64 s.rb)=W1 at bA cA dA gA aA ⊢;refine(zFQ _ s.dn lo hi _ _ W1(H1.out.zRJ aA) hn).mono ?_;rintro e w2 ⟨⟨v',rfl,ho⟩,hb2,hz2⟩;obtain⟨-,av,cv,rfl,-,-⟩:=id ho;have HO:=zB ho;have jA:=zB(bA.out.zRJ hb2);have eA:=zB(cA.out.zRJ hb2);have iA:=zB(dA.out.zRJ hb2);have kA:=zA aA hb2;clear ho hb2 bA cA dA aA;obtain⟨⟨x0,x0'⟩,⟨x1,x1'⟩,⟨x2,x2'⟩,⟨x3,x3'⟩,⟨x4,x4'⟩,⟨x5,x5'⟩,⟨x6,x6'⟩,⟨x7,x7'⟩⟩:=jA.out;obtain⟨⟨y0,y0'⟩,⟨y1,y1'⟩,⟨y2,y2'⟩,⟨y3,y3'⟩,⟨y4,y4'⟩,⟨y5,y5'⟩,⟨y6,y6'⟩,⟨y7,y7'⟩⟩:=eA.out;obtain⟨⟨z0,z0'⟩,⟨z1,z1'⟩,⟨z2,z2'⟩,⟨z3,z3'⟩,⟨z4,z4'⟩,⟨z5,z5'⟩,⟨z6,z6'⟩,⟨z7,z7'⟩⟩:=iA.out;go_wp2;have HR:=(show zCp(w2.setCell ⟨w.heap.size+1+1,7,none⟩(.slice av s.dn cv))(w.heap.size+1) _ _ _ _ _ _ _ _ from(by
  obtain⟨h0,h1,h2,h3,h4,h5,h6,h7⟩:=eA.out;have hc:∀{j:Nat} {v:Value},zX w2(w.heap.size+1) j v->zX(w2.setCell ⟨w.heap.size+1+1,7,none⟩(.slice av s.dn cv))(w.heap.size+1) j v:=fun hc=>hc.zRK _(Or.inl(by omega))
  exact⟨hc h0,hc h1,hc h2,hc h3,hc h4,hc h5,hc h6,hc h7⟩)).put(.int .i64 s.id)(.string s.name)(.string s.set)(.int .i64 s.zRT)(.int .i64 s.time)(.int .i64 s.rs)(.int .i64 s.rb)(.slice av s.dn cv)
 have lA:=gA.out;refine bodyPost_ret(v:=.agg #[.int .i64 s.id,.string s.name,.string s.set,.int .i64 s.zRT,.int .i64 s.time,.int .i64 s.rs,.int .i64 s.rb,.slice av s.dn cv])(by simp [results,Tryz.results90,go_sem,HR.1.1,HR.2.1.1,HR.2.2.1.1,HR.2.2.2.1.1,HR.2.2.2.2.1.1,HR.2.2.2.2.2.1.1,HR.2.2.2.2.2.2.1.1,HR.2.2.2.2.2.2.2.1]) rfl ⟨⟨_,W1.heap.size,rfl,?_,by omega,by simpa using hz2⟩,?_⟩
 ·exact(((((((((HO.out.put _(by omega)).put _(by omega)).put _(by omega)).put _(by omega)).put _(by omega)).put _(by omega)).put _(by omega)).put _(by omega)).put _(by omega))
 ·exact(((((((((kA.setCell(by show _<=w.heap.size+1+1;omega) _).setCell(by show _<=w.heap.size+1;omega) _).setCell(by show _<=w.heap.size+1;omega) _).setCell(by show _<=w.heap.size+1;omega) _).setCell(by show _<=w.heap.size+1;omega) _).setCell(by show _<=w.heap.size+1;omega) _).setCell(by show _<=w.heap.size+1;omega) _).setCell(by show _<=w.heap.size+1;omega) _).setCell(by show _<=w.heap.size+1;omega) _)
theorem zLN(f:Nat->qC):∀{n i:Nat},i<n->zEo(f i)<=zBM f n
 |n+1,i,h=>by
  show zEo(f i)<=zBM f n+zEo(f n);by_cases e:i=n
  ·subst e;omega
  ·have:=zLN f(show i<n by omega);omega
theorem zJn(f:Nat->zm):∀{n i:Nat},i<n->zDs(f i)<=zAx f n
 |n+1,i,h=>by
  show zDs(f i)<=zAx f n+zDs(f n);by_cases e:i=n
  ·subst e;omega
  ·have:=zJn f(show i<n by omega);omega
theorem zKS{W:zH}(h:yd W<=1048576):zDf W:=by
 unfold yd at h;refine⟨fun i hi=>?_,fun i hi=>?_⟩
 ·have:=zLN W.zRS hi;unfold zEo at this;omega
 ·have:=zJn W.zRP hi;unfold zDs at this;omega
theorem zOz(W:zH)(k0:Int):zAm W k0<=k0+8*(yd W:Int):=by
 have h1:=zGK W.zRQ.s k0 W.zRQ.n;have h2:=zDd W k0;have h3:=zFC W.zRS(zBA W.zRQ k0) W.sn;have h4:=zEF W.zRP(ze W.zRS(zBA W.zRQ k0) W.sn) W.pn;have h7:yd W=W.zRQ.n+yr W.zRQ.s W.zRQ.n+W.zRQ.hn+(W.sn+zBM W.zRS W.sn)+(W.pn+zAx W.zRP W.pn):=rfl;have h5:zBA W.zRQ k0=qU W.zRQ.s k0 W.zRQ.n+W.zRQ.hn:=rfl;have h6:zAm W k0=zM W.zRP(ze W.zRS(zBA W.zRQ k0) W.sn) W.pn:=rfl;generalize zBA W.zRQ k0=e at *;generalize ze W.zRS e W.sn=s at *;omega
theorem zEL{W:zH}{k0:Int}(h:yd W<=4000000)(h0:0<=k0)(h1:k0<=100000000):zAm W k0<=1000000000000/\0<=zAm W k0:=by
 have:=zOz W k0;have:=zDd W k0;omega
theorem zFf{W:zH}(h:yd W<=1048576):qE W.zRQ<=1048576/\W.sn<=1048576/\W.pn<=1048576/\zDf W:=by
 refine⟨?_,?_,?_,zKS h⟩
 all_goals
  unfold yd at h;omega
theorem zGy:∀(l:List(Int×Int))(p:zJ),qE(zx p l)=qE p+l.length
 |[],_=>rfl
 |x :: l,p=>by
  have h:=zGy l(zAK p x.1);have e:qE(zAK p x.1)=qE p+1:=rfl;show qE(zx(zAK p x.1) l)=_;rw [h,e,List.length_cons];omega
theorem zIL(f:Nat->qC)(k c:Nat)(s:qC)(hs:zEo s<=zEo(f k)+c):∀n,zBM(fun j=>if j=k then s else f j) n<=zBM f n+(if k<n then c else 0)
 |0=>Nat.zero_le _
 |n+1=>by
  have ih:=zIL f k c s hs n;show zBM _ n+zEo(if n=k then s else f n)<=zBM f n+zEo(f n)+(if k<n+1 then c else 0);by_cases e:n=k
  ·subst e;rw [if_neg(Nat.lt_irrefl n)] at ih;rw [if_pos rfl,if_pos(Nat.lt_succ_self n)];omega
  ·rw [if_neg e];by_cases h:k<n
   ·rw [if_pos h] at ih;rw [if_pos(Nat.lt_succ_of_lt h)];omega
   ·rw [if_neg h] at ih;rw [if_neg(by omega)];omega
theorem zMQ(W:zH)(k:Nat)(y:zCB)(hy:zGt y)(hp:qE y.zRQ<=qE W.zRQ+40):yd(zLr W k y)<=yd W+46:=by
 have hl:=zCM(zf y.old)(zh y.old)(zN W(W.zRS k).zRT).time y.old.length;have h3:=hy.2.1;have hY:(zEr W k y).length+(zOr W k y).length=y.old.length:=hl;have aA:(zBY W k y).dn=(W.zRS k).dn+(zOr W k y).length:=by
  show(zDa W k y).length=_;unfold zDa;rw [List.length_append,zAn]
 have h1:=zIL W.zRS k 3(zBY W k y)(by
  show(zBY W k y).name.size+(zBY W k y).dn<=(W.zRS k).name.size+(W.zRS k).dn+3;rw [aA];show(W.zRS k).name.size+_<=_;omega) W.sn
 have h2:=zGy(zEr W k y) y.zRQ;have h5:(if k<W.sn then 3 else 0)<=3:=by split<;>omega
 have h7:yd(zLr W k y)=qE(zx y.zRQ(zEr W k y))+(W.sn+zBM(fun j=>if j=k then zBY W k y else W.zRS j) W.sn)+(W.pn+zAx W.zRP W.pn):=rfl;have h8:yd W=qE W.zRQ+(W.sn+zBM W.zRS W.sn)+(W.pn+zAx W.zRP W.pn):=rfl;omega
theorem zJ8{W:zH}{k:Nat}{y:zCB}(hy:zGt y)(hp:qE y.zRQ<=qE W.zRQ+40)(hN:yd W<=1048576):zAm(zA8 W k y).world 1<=1000000000000/\0<=zAm(zA8 W k y).world 1:=by
 unfold zA8;split
 ·have:=zMQ W k y hy hp;exact zEL(W:=zLr W k y)(by omega)(by decide)(by decide)
 ·exact zEL(W:=noW)(by decide)(by decide)(by decide)
def zCL(W:zH)(name:ByteArray)(zRV:Int)(oo:zBz):Prop:=∃r o,zIH W(∃i,i<1/\8000<((fun(_:Nat)=>name) i).size)(∃i,i<0/\¬yM((fun _=>⟨#[]⟩) i)) 1(fun i=>match i with  | _=>zAP W name)(fun i=>match i with  | _=>2) r/\(r=none->∃k,zFc W name k/\o=zA8 W k(zAM W.zRQ(W.zRS k).rs(W.zRS k).rb zRV W.time))/\oo=zMf r o
theorem zCL.uniq{W:zH}{name:ByteArray}{zRV:Int}{o o':zBz}(h:zCL W name zRV o)(h':zCL W name zRV o'):o=o':=by
 obtain⟨r,a,h1,h2,rfl⟩:=h;obtain⟨r',b,g1,g2,rfl⟩:=h';obtain rfl:=h1.uniq g1;cases r with
 |some i=>rfl
 |none=>
  obtain⟨k,hk,rfl⟩:=h2 rfl;obtain⟨k',hk',rfl⟩:=g2 rfl;obtain rfl:=hk.uniq hk';rfl
open Classical in
noncomputable def yp(W:zH)(name:ByteArray)(zRV:Int):zBz:=if h:∃o,zCL W name zRV o then h.choose else zBr 0
theorem zE7{W:zH}{name:ByteArray}{zRV:Int}{w w':World}{e:Ending}(h:zAd W name zRV w e w'):zBp(yp W name zRV) w e w':=by
 obtain⟨r,o,h1,h2,h3⟩:=h;have hi:zCL W name zRV(zMf r o):=⟨r,o,h1,h2,rfl⟩;have hx:∃o,zCL W name zRV o:=⟨_,hi⟩;have he:yp W name zRV=zMf r o:=by
  unfold yp;rw [dif_pos hx];exact hx.choose_spec.uniq hi
 rw [he];exact h3
theorem zGN{W:zH}{name:ByteArray}{zRV:Int}(hN:yd W<=1048576):zAm(yp W name zRV).world 1<=1000000000000/\0<=zAm(yp W name zRV).world 1:=by
 have hz:∀c,zAm(zBr c).world 1<=1000000000000/\0<=zAm(zBr c).world 1:=fun c=>zEL(W:=noW)(by decide)(by decide)(by decide)
 unfold yp;split
 ·rename_i h
  obtain⟨r,o,h1,h2,h3⟩:=h.choose_spec;rw [h3];cases r with
  |some i=>exact hz _
  |none=>
   obtain⟨k,hk,rfl⟩:=h2 rfl;exact zJ8(zGk _ _ _ _ _)(zIY _ _ _ _ _).1 hN
 ·exact hz _
end Go.Proofs.YtmgeglgboadfiaaGreatDoor
