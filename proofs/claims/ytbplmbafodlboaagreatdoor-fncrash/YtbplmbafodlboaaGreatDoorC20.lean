/- A part of the proof. -/
import Derived.Test.YtbplmbafodlboaaGreatDoorC19
set_option linter.unusedVariables false
set_option maxRecDepth 20000
set_option maxHeartbeats 4000000
namespace Go.Proofs.YtbplmbafodlboaaGreatDoor
open Go.RowKit Go.Maps
theorem zSn(v:Value)(n lo hi:Nat)(f g:Nat->Int)(x y:Int)(w:World)(h1:qo w lo hi v n f g) :
  Calls Tryz.prog 181 #[v,.agg #[.int .i64 x,.int .i64 y]] w fun e w'=>∃r:Int,e = .returned (.int .i64 r)/\(0<=r↔PIn n f g x y)/\Below w.heap.size w w':=by
 have Hp:=zC h1;obtain⟨m1,a,c,rfl,mc,-⟩:=id h1;unfold maxLen at m1;clear h1;have ha:=zD w (.cells #[.int .i64 x,.int .i64 y] 70);have HB:=zC (zAZ.new w (.int .i64 x) (.int .i64 y) 70);go_enter Tryz.func181,Tryz.ntmps181;go_wp2
 go_loopw [8] (fun i wr=>∃k:Nat,k<=n/\i = .int .i64 k/\¬PIn k f g x y/\zAZ wr w.heap.size (.int .i64 x) (.int .i64 y)/\Below w.heap.size w wr) (fun i _=>n - (intOf i).toNat)
 case atStart=>exact⟨0,Nat.zero_le _,rfl,fun ⟨j,hj,_⟩=>absurd hj (Nat.not_lt_zero _),HB.out,ha⟩
 case round=>
  obtain⟨k,hk,rfl,dA,hX,hb⟩:=hrel;have bA:=zC dA;have HX:=zC hX;clear dA hX;obtain⟨⟨x0,x1⟩,⟨x2,x3⟩⟩:=HX.out;by_cases cA:k<n
  ·have eA:(k:Int)<(n:Int):=(by omega);obtain⟨b,off,rfl,q0,q1⟩:=(Hp.out.zcw hb).cellsD cA;by_cases he:f k=x/\g k=y
   ·have H:=zC (show PIn n f g x y from⟨k,cA,he.1,he.2⟩);rw[he.1]at q0;rw[he.2]at q1;clear he;go_wp2
    go_quiet (fail)
    go_wp2;go_ret;exact⟨k,rfl,⟨fun _=>H.out,fun _=>by omega⟩,zAe hb _⟩
   ·have H:=zC he;have e0:(x == f k)=false\/(x == f k)=true/\(y == g k)=false:=by
     by_cases h:f k=x
     ·right;refine⟨by simp[h],?_⟩;have:¬y=g k:=fun h'=>he ⟨h,h'.symm⟩
      simp[this]
     ·left;have:¬x=f k:=fun h'=>h h'.symm
      simp[this]
    clear he;rcases e0 with e0 | ⟨e0,e1⟩
    all_goals
     go_wp2
     go_quiet (fail)
     go_wp2;go_roundw
     case rel=>
      refine⟨k+1,by omega,by go_num,?_,HX.out.zcw (zAe (Below.refl _ _) _),zAe hb _⟩;rintro⟨j,hj,aA⟩;by_cases e:j=k
      ·subst e;exact H.out ⟨aA.1,aA.2⟩
      ·exact bA.out ⟨j,by omega,aA⟩
     case measure=>simp[intOf];omega
  ·obtain rfl:k=n:=(by omega);go_wp2;go_ret;exact⟨-1,rfl,⟨fun h=>absurd h (by decide),fun h=>absurd h bA.out⟩,hb⟩
theorem zH8(v:Value)(n lo hi:Nat)(f g:Nat->Int)(x y:Int)(w:World)(h1:qo w lo hi v n f g) :
  Calls Tryz.prog 169 #[v,.agg #[.int .i64 x,.int .i64 y]] w fun e w'=>zL (PIn n f g x y) e/\Below w.heap.size w w':=by
 have Hp:=zC h1;clear h1;have ha:=zD w (.cells #[.int .i64 x,.int .i64 y] 70);obtain⟨⟨x0,-⟩,⟨x2,-⟩⟩:=zAZ.new w (.int .i64 x) (.int .i64 y) 70;go_enter Tryz.func169,Tryz.ntmps169;go_wp2_with fail;refine(zSn v n lo hi f g x y _ (Hp.out.zcw ha)).mono ?_;rintro e w1 ⟨r,rfl,hr,aA⟩;have Hr:=zC hr;have hB:=zA ha aA;clear hr aA x0 x2 ha;go_wp2;go_ret;refine⟨⟨_,rfl,?_⟩,hB⟩;have:=Hr.out;simp only[decide_eq_true_eq];exact this
theorem zQw(v:Value)(n lo hi:Nat)(f g:Nat->Int)(x y:Int)(T:Nat)(w:World)(h1:qo w lo hi v n f g)(hT:w.cell? ⟨T,0,none⟩=some v) :
  Calls Tryz.prog 168 #[.agg #[.int .i64 x,.int .i64 y],.pointer (some ⟨T,0,none⟩)] w fun e w'=>zL (PIn n f g x y) e/\Below w.heap.size w w':=by
 have Hp:=zC h1;obtain⟨m1,a,c,rfl,mc,-⟩:=id h1;clear h1;have ha:=zD w (.cells #[.int .i64 x,.int .i64 y] 70);obtain⟨⟨x0,-⟩,⟨x2,-⟩⟩:=zAZ.new w (.int .i64 x) (.int .i64 y) 70;have cA:=(ha.cell (p:=⟨T,0,none⟩) (zH hT)).trans hT;clear hT;go_enter Tryz.func168,Tryz.ntmps168;go_wp2_with fail;refine(zH8 _ n lo hi f g x y _ (Hp.out.zcw ha)).mono ?_;rintro e w1 ⟨⟨t1,rfl,bA⟩,aA⟩;have Ht:=zC bA;have hB:=zA ha aA;clear bA aA x0 x2 ha cA;go_wp2;go_ret;exact⟨⟨_,rfl,Ht.out⟩,hB⟩
theorem zSl(v:Value)(n lo hi:Nat)(f g:Nat->Int)(x y:Int)(T:Nat)(w:World)(h1:qo w lo hi v n f g)(hT:w.cell? ⟨T,0,none⟩=some v) :
  Calls Tryz.prog 170 #[.agg #[.int .i64 x,.int .i64 y],.pointer (some ⟨T,0,none⟩)] w fun e w'=>zL (PIn n f g x y) e/\Below w.heap.size w w':=by
 have Hp:=zC h1;obtain⟨m1,a,c,rfl,mc,-⟩:=id h1;clear h1;have ha:=zD w (.cells #[.int .i64 x,.int .i64 y] 70);obtain⟨⟨x0,-⟩,⟨x2,-⟩⟩:=zAZ.new w (.int .i64 x) (.int .i64 y) 70;have cA:=(ha.cell (p:=⟨T,0,none⟩) (zH hT)).trans hT;clear hT;go_enter Tryz.func170,Tryz.ntmps170;go_wp2_with fail;refine(zH8 _ n lo hi f g x y _ (Hp.out.zcw ha)).mono ?_;rintro e w1 ⟨⟨t1,rfl,bA⟩,aA⟩;have Ht:=zC bA;have hB:=zA ha aA;clear bA aA x0 x2 ha cA;go_wp2;go_ret;exact⟨⟨_,rfl,Ht.out⟩,hB⟩
theorem zEB(v0 v1 v2 v3:Value)(lo hi:Nat)(W:zB)(xs xb:Int)(w:World)(h:zAF w lo hi v0 v1 v2 v3 W)(hR:zq W.pool)(hT:qT W.pool xs xb) :
  Calls Tryz.prog 150 #[zB8 v0 v1 v2 v3 W,.agg #[.int .i64 xs,.int .i64 xb]] w fun e w'=>∃v,e = .returned v/\zCI w' w.heap.size v (zN W.pool xs xb)/\Below w.heap.size w w':=by
 have Hp:=zC h;have HR:=zC hR;have HT:=zC (show Nil xs xb\/yT W.pool xs xb from hT.imp id (fun h=>h.1.1));obtain⟨m0,a0,c0,rfl,eA,-⟩:=id h.pool.1;clear h hR hT;have ha:=zD w (.cells #[.slice a0 W.pool.n c0,v1,.int .i64 W.time,.int .i64 W.next,v2,v3] 30);have hB:=zAM.new w (.slice a0 W.pool.n c0) v1 (.int .i64 W.time) (.int .i64 W.next) v2 v3 30;have hz:(w.alloc (.cells #[.slice a0 W.pool.n c0,v1,.int .i64 W.time,.int .i64 W.next,v2,v3] 30)).heap.size=w.heap.size+1:=World.size_alloc _ _;have bA:=zD (w.alloc (.cells #[.slice a0 W.pool.n c0,v1,.int .i64 W.time,.int .i64 W.next,v2,v3] 30)) (.cells #[.int .i64 xs,.int .i64 xb] 70);have hX:=zAZ.new (w.alloc (.cells #[.slice a0 W.pool.n c0,v1,.int .i64 W.time,.int .i64 W.next,v2,v3] 30)) (.int .i64 xs) (.int .i64 xb) 70;rw[hz]at hX;have aA:=zA ha bA;obtain⟨⟨x0,-⟩,⟨x2,-⟩,-⟩:=hB.zcw bA;obtain⟨⟨y0,-⟩,⟨y2,-⟩⟩:=hX;clear hB ha bA;go_enter Tryz.func150,Tryz.ntmps150;go_wp2_with fail;clear x0 x2 y0 y2;generalize (w.alloc (.cells #[.slice a0 W.pool.n c0,v1,.int .i64 W.time,.int .i64 W.next,v2,v3] 30)).alloc (.cells #[.int .i64 xs,.int .i64 xb] 70)=W0 at aA ⊢;refine(zOj W.pool HR.out _ lo hi xs xb W0 (Hp.out.pool.1.zcw aA) HT.out).mono ?_;rintro e w1 ⟨v,rfl,hr,cA⟩;have Hr:=zC hr;have hB:=zA aA cA;have dA:=aA.size;clear hr cA;go_wp2;go_ret;exact⟨v,rfl,zCI.mono Hr.out dA,hB⟩
theorem zIJ(n:Int)(w:World):Calls Tryz.prog 173 #[.int .i64 n] w fun e w'=>zL (zG4 n) e/\w'=w:=by
 by_cases h1:0<=n
 ·by_cases h2:n<=1000000
  ·go_enter Tryz.func173,Tryz.ntmps173;go_wp2;go_ret;exact⟨zL.yes ⟨h1,h2⟩,rfl⟩
  ·go_enter Tryz.func173,Tryz.ntmps173;go_wp2;go_ret;exact⟨zL.no fun h=>by have:=h.2;omega,rfl⟩
 ·go_enter Tryz.func173,Tryz.ntmps173;go_wp2;go_ret;exact⟨zL.no fun h=>by have:=h.1;omega,rfl⟩
theorem zSR(x y t:Int)(T:Nat)(w:World)(hT:w.cell? ⟨T,0,none⟩=some (.int .i64 t)):Calls Tryz.prog 174 #[.agg #[.int .i64 x,.int .i64 y],.pointer (some ⟨T,0,none⟩)] w fun e w'=>zL (t<y) e/\Below w.heap.size w w':=by
 have aA:=zD w (.cells #[.int .i64 x,.int .i64 y] 70);have bA:=(aA.cell (p:=⟨T,0,none⟩) (zH hT)).trans hT;by_cases h:t<y
 ·go_enter Tryz.func174,Tryz.ntmps174;go_wp2;go_ret;exact⟨⟨_,rfl,by simpa using h⟩,aA⟩
 ·go_enter Tryz.func174,Tryz.ntmps174;go_wp2;go_ret;exact⟨⟨_,rfl,by simpa using h⟩,aA⟩
def zIO(l l':List (Int×Int))(w w':World)(v v':Value):Prop:=zCI w' w.heap.size v l/\zCI w' w.heap.size v' l'/\(∀q,v.ownBlock=some q->v'.ownBlock≠some q)/\Below w.heap.size w w'
theorem zGM{w1 w2:World}{base g cap:Nat}{v v':Value}{l l':List (Int×Int)}{x y:Int}(h':zCI w1 base v' l')(ha:∀q,v.ownBlock=some q->v'.ownBlock≠some q)
  (aA:w2.ownsRow base 70 2 (.slice (some ⟨g,0,none⟩) (l.length+1) cap) (l.length+1) (pcl l ++ [.int .i64 x,.int .i64 y])) (hg:w1.grownBy w2 v.ownBlock) (bA:v.ownBlock=some g\/g=w1.heap.size) :
  zCI w2 base (.slice (some ⟨g,0,none⟩) (l.length+1) cap) (l ++ [(x,y)])/\zCI w2 base v' l'/\(∀q,(Value.slice (some ⟨g,0,none⟩) (l.length+1) cap).ownBlock=some q->v'.ownBlock≠some q):=by
 refine⟨?_,h'.zcx hg (fun q hq e=>ha q e hq),fun q hq e=>?_⟩
 ·unfold zCI;rw[zIn,List.length_append];exact aA
 ·simp only[Value.ownBlock,Option.some.injEq]at hq;subst hq;rcases bA with h | h
  ·exact ha _ h e
  ·have:=(h'.lt e).2;omega
theorem zYT(v:Value)(n lo hi T:Nat)(f g:Nat->Int)(t:Int)(w:World)(h1:qo w lo hi v n f g)(hn:n<=200)(hT:w.cell? ⟨T,0,none⟩=some (.int .i64 t)) :
  Calls Tryz.prog 167 #[v,.func (.func 174) #[] #[.pointer (some ⟨T,0,none⟩)]] w fun e w'=>∃vy vo,e = .returned (.tuple #[vy,vo])/\zIO (zAl f g t n) (zEj f g t n) w w' vy vo:=by
 have Hp:=zn h1;have HT:=zn hT;obtain⟨m1,a,c,rfl,mc,_⟩:=id h1;clear h1 hT;obtain⟨i0,tA,oA⟩:=Option.map_eq_some_iff.1 zMM;simp only[Prod.mk.injEq]at oA;have HI:=zn (And.intro tA oA);clear tA oA;go_enter Tryz.func167,Tryz.ntmps167;go_wp2
 go_loopw [6,7,12] (fun vy vo i wr=>∃k:Nat,k<=n/\i = .int .i64 k/\zIO (zAl f g t k) (zEj f g t k) w wr vy vo) (fun _ _ i _=>n - (intOf i).toNat)
 case atStart=>exact⟨0,Nat.zero_le _,rfl,zCI.nil _ _,zCI.nil _ _,fun q hq=>by simp[Value.ownBlock]at hq,Below.refl _ _⟩
 case round=>
  obtain⟨k,hk,rfl,hy,ho,sA,hb⟩:=hrel;have Hy:=zn hy;have Ho:=zn ho;have iA:=zn sA;have cB:=zGN f g t k;clear hy ho sA;by_cases eB:k<n
  ·have fB:(k:Int)<(n:Int):=(by omega);obtain⟨b,off,rfl,q0,q1⟩:=(Hp.out.zcw hb).cellsD eB;have fA:=zD wr (.cells #[.int .i64 (f k),.int .i64 (g k)] 70);have HV:=zn (zAZ.new wr (.int .i64 (f k)) (.int .i64 (g k)) 70);have mA:=zA hb fA;have pA:=zn ((mA.cell (p:=⟨T,0,none⟩) (zH HT.out)).trans HT.out);have gB:∀(fn:Fn) (first cap:Array Value) (w:World),(Instr.makeFunc fn first cap).run Tryz.prog w = .ok (.func fn first cap) w:=fun _ _ _ _=>rfl
   go_wp2_with fail;refine(zSR (f k) (g k) t T _ pA.out).mono ?_;rintro e w1 ⟨⟨s,rfl,hs⟩,dA⟩;have bB:=zn ((Hy.out.zcw fA).zcw dA);have aB:=zn ((Ho.out.zcw fA).zcw dA);have vA:=zn (HV.out.zcw dA);have rA:=zA mA dA;clear dA mA fA Hy Ho HV q0 q1 pA;have iB:=rA.size;obtain⟨⟨x0,x1⟩,⟨x2,x3⟩⟩:=vA.out;have gA:=zD w1 (.cells #[.int .i64 (f k),.int .i64 (g k)] 70);have kA:=zn (bB.out.zcw gA);have jA:=zn (aB.out.zcw gA);have eA:=zA rA gA;have jB:(w1.alloc (.cells #[.int .i64 (f k),.int .i64 (g k)] 70)).heap.size=w1.heap.size+1:=World.size_alloc _ _;have HN:=zn (World.news_of_block (heap_alloc_last w1 (.cells #[.int .i64 (f k),.int .i64 (g k)] 70)));clear gA;by_cases hq:t<g k
   ·obtain rfl:s=true:=hs.2 hq;have ey:zAl f g t (k+1)=zAl f g t k ++ [(f k,g k)]:=if_pos hq;have eo:zEj f g t (k+1)=zEj f g t k:=if_pos hq;clear hs hq;go_wp2_with (first
     | (at_builtin;refine wpList_append_lies _ rfl _ _ 56 rfl w.heap.size 70 i0 (.agg #[.int .i64 0,.int .i64 0]) 2 16 (by kernel_rfl) HI.out.1 HI.out.2.1 HI.out.2.2.1 HI.out.2.2.2 rfl (by decide) _ _ _ rfl kA.out ⟨w1.heap.size,0,none⟩ 1 1 [.int .i64 (f k),.int .i64 (g k)] rfl rfl HN.out (by simp[Value.oneCell']) (by decide) (by unfold maxLen;omega) (by omega) (by omega) _ rfl ?_;intro g' lA w4 bA aA cA nA)
     | go_in)
    go_roundw
    case rel=>
     obtain⟨r1,r2,r3⟩:=zGM jA.out iA.out bA aA cA;exact⟨k+1,by omega,by go_num,by rw[ey];exact r1,by rw[eo];exact r2,r3,eA.grown aA eA.size (fun q hq=>(kA.out.lt hq).1)⟩
    case measure=>simp[intOf];omega
   ·obtain rfl:s=false:=yy hs hq;have ey:zAl f g t (k+1)=zAl f g t k:=if_neg hq;have eo:zEj f g t (k+1)=zEj f g t k ++ [(f k,g k)]:=if_neg hq;clear hs hq;go_wp2_with (first
     | (at_builtin;refine wpList_append_lies _ rfl _ _ 56 rfl w.heap.size 70 i0 (.agg #[.int .i64 0,.int .i64 0]) 2 16 (by kernel_rfl) HI.out.1 HI.out.2.1 HI.out.2.2.1 HI.out.2.2.2 rfl (by decide) _ _ _ rfl jA.out ⟨w1.heap.size,0,none⟩ 1 1 [.int .i64 (f k),.int .i64 (g k)] rfl rfl HN.out (by simp[Value.oneCell']) (by decide) (by unfold maxLen;omega) (by omega) (by omega) _ rfl ?_;intro g' lA w4 bA aA cA nA)
     | go_in)
    go_roundw
    case rel=>
     obtain⟨r1,r2,r3⟩:=zGM kA.out (fun q h h'=>iA.out q h' h) bA aA cA;exact⟨k+1,by omega,by go_num,by rw[ey];exact r2,by rw[eo];exact r1,fun q h h'=>r3 q h' h,eA.grown aA eA.size (fun q hq=>(jA.out.lt hq).1)⟩
    case measure=>simp[intOf];omega
  ·obtain rfl:k=n:=(by omega);go_wp2
   go_ret2
   exact⟨_,_,rfl,Hy.out,Ho.out,iA.out,hb⟩
def zb2(n:Nat)(f g:Nat->Int)(t:Int)(l:List (Int×Int)):Prop:=(zAD n f g/\zG4 t->l=zAl f g t n)/\(¬(zAD n f g/\zG4 t)->l = [])
def zb1(n:Nat)(f g:Nat->Int)(t:Int)(l:List (Int×Int)):Prop:=(zAD n f g/\zG4 t->l=zEj f g t n)/\(¬(zAD n f g/\zG4 t)->l = [])
def zZJ(n:Nat)(f g:Nat->Int)(t:Int)(w:World)(e:Ending)(w':World):Prop:=∃vy vo l l',e = .returned (.agg #[vy,vo])/\zb2 n f g t l/\zb1 n f g t l'/\zIO l l' w w' vy vo
theorem zEK(v:Value)(n lo hi:Nat)(f g:Nat->Int)(t:Int)(w:World)(h1:qo w lo hi v n f g) :
  Calls Tryz.prog 149 #[v,.int .i64 t] w (zZJ n f g t w):=by
 have Hp:=zn h1;obtain⟨m1,a,c,rfl,mc,_⟩:=id h1;clear h1;have nA:∀(fn:Fn) (first cap:Array Value) (w:World),(Instr.makeFunc fn first cap).run Tryz.prog w = .ok (.func fn first cap) w:=fun _ _ _ _=>rfl
 have ha:=zD w (.cells #[.int .i64 t] 2);have gA:=zD (w.alloc (.cells #[.int .i64 t] 2)) (.cells #[.slice none 0 0,.slice none 0 0] 198);have hA:=zA ha gA;have HT:=zn (show zo ((w.alloc (.cells #[.int .i64 t] 2)).alloc (.cells #[.slice none 0 0,.slice none 0 0] 198)) w.heap.size 0 (.int .i64 t)from zo.zcw ⟨by rw[World.cell?_alloc_at _ _ _ _ rfl];rfl,World.frozen?_alloc_at _ _ _ _ rfl⟩ gA);have HR:=zn (zAZ.new (w.alloc (.cells #[.int .i64 t] 2)) (.slice none 0 0) (.slice none 0 0) 198);rw[World.size_alloc]at HR;clear ha gA;by_cases ho:zAD n f g
 ·have Ho:=zn ho;clear ho;by_cases hq:zG4 t
  ·have Hq:=zn hq;clear hq;go_enter Tryz.func149,Tryz.ntmps149;go_wp2_with fail;generalize (w.alloc (.cells #[.int .i64 t] 2)).alloc (.cells #[.slice none 0 0,.slice none 0 0] 198)=W at HT HR hA ⊢;refine(zAn _ n lo hi f g _ (Hp.out.zcw hA)).mono ?_;rintro e w1 ⟨⟨s,rfl,hs⟩,aA⟩;obtain rfl:s=true:=hs.2 Ho.out;have eA:=zn (HT.out.zcw aA);have dA:=zn (HR.out.zcw aA);have cA:=zA hA aA;clear hs aA hA HT HR;obtain⟨x0,x1⟩:=eA.out;go_wp2_with (first
    | (go_at_call 173;refine(zIJ t _).mono ?_;rintro e w2 ⟨⟨s,rfl,hs⟩,rfl⟩;obtain rfl:s=true:=hs.2 Hq.out;clear hs)
    | fail)
   go_wp2_with fail;refine(zYT _ n lo hi w.heap.size f g t _ (Hp.out.zcw cA) Ho.out.1 eA.out.1).mono ?_;rintro e w3 ⟨vy,vo,rfl,bA⟩;have iA:=bA.2.2.2;have mA:=qj bA.1;have jA:=qj bA.2.1;obtain⟨ya,yc,rfl,_⟩:=mA;obtain⟨oa,oc,rfl,_⟩:=jA;have kA:=zn (dA.out.zcw iA);have HN:=zn bA;have fA:w.heap.size+1<w2.heap.size:=dA.out.1.lt;have lA:=zA cA iA;clear bA iA x0 x1 eA dA;obtain⟨⟨x0,x1⟩,⟨x2,x3⟩⟩:=kA.out;go_wp2;refine bodyPost_ret (v:=.agg #[.slice ya (zAl f g t n).length yc,.slice oa (zEj f g t n).length oc]) (by simp[results,Tryz.results149,go_sem, *]) rfl ?_;refine⟨_,_,zAl f g t n,zEj f g t n,rfl,⟨fun _=>rfl,fun h=>absurd ⟨Ho.out,Hq.out⟩ h⟩,⟨fun _=>rfl,fun h=>absurd ⟨Ho.out,Hq.out⟩ h⟩,?_,?_,HN.out.2.2.1,(lA.setCell (by show w.heap.size<=w.heap.size+1;omega) _).setCell (by show w.heap.size<=w.heap.size+1;omega) _⟩
   ·exact(((zCI.put HN.out.1 fA _).put fA _)).mono cA.size
   ·exact(((zCI.put HN.out.2.1 fA _).put fA _)).mono cA.size
  ·have Hq:=zn hq;clear hq;go_enter Tryz.func149,Tryz.ntmps149;go_wp2_with fail;generalize (w.alloc (.cells #[.int .i64 t] 2)).alloc (.cells #[.slice none 0 0,.slice none 0 0] 198)=W at HT HR hA ⊢;refine(zAn _ n lo hi f g _ (Hp.out.zcw hA)).mono ?_;rintro e w1 ⟨⟨s,rfl,hs⟩,aA⟩;obtain rfl:s=true:=hs.2 Ho.out;have eA:=zn (HT.out.zcw aA);have dA:=zn (HR.out.zcw aA);have cA:=zA hA aA;clear hs aA hA HT HR;obtain⟨x0,x1⟩:=eA.out;obtain⟨⟨y0,y1⟩,⟨y2,y3⟩⟩:=dA.out;go_wp2_with (first
    | (go_at_call 173;refine(zIJ t _).mono ?_;rintro e w2 ⟨⟨s,rfl,hs⟩,rfl⟩;obtain rfl:s=false:=yy hs Hq.out;clear hs)
    | fail)
   go_wp2;refine bodyPost_ret (v:=.agg #[.slice none 0 0,.slice none 0 0]) (by simp[results,Tryz.results149,go_sem, *]) rfl ?_;exact⟨_,_,[],[],rfl,⟨fun h=>absurd h.2 Hq.out,fun _=>rfl⟩,⟨fun h=>absurd h.2 Hq.out,fun _=>rfl⟩,zCI.nil _ _,zCI.nil _ _,fun q hq=>by simp[Value.ownBlock]at hq,(cA.setCell (by show w.heap.size<=w.heap.size+1;omega) _).setCell (by show w.heap.size<=w.heap.size+1;omega) _⟩
 ·have Ho:=zn ho;clear ho;go_enter Tryz.func149,Tryz.ntmps149;go_wp2_with fail;generalize (w.alloc (.cells #[.int .i64 t] 2)).alloc (.cells #[.slice none 0 0,.slice none 0 0] 198)=W at HT HR hA ⊢;refine(zAn _ n lo hi f g _ (Hp.out.zcw hA)).mono ?_;rintro e w1 ⟨⟨s,rfl,hs⟩,aA⟩;obtain rfl:s=false:=yy hs Ho.out;have dA:=zn (HR.out.zcw aA);have cA:=zA hA aA;clear hs aA hA HT HR;obtain⟨⟨y0,y1⟩,⟨y2,y3⟩⟩:=dA.out;go_wp2;refine bodyPost_ret (v:=.agg #[.slice none 0 0,.slice none 0 0]) (by simp[results,Tryz.results149,go_sem, *]) rfl ?_;exact⟨_,_,[],[],rfl,⟨fun h=>absurd h.1 Ho.out,fun _=>rfl⟩,⟨fun h=>absurd h.1 Ho.out,fun _=>rfl⟩,zCI.nil _ _,zCI.nil _ _,fun q hq=>by simp[Value.ownBlock]at hq,(cA.setCell (by show w.heap.size<=w.heap.size+1;omega) _).setCell (by show w.heap.size<=w.heap.size+1;omega) _⟩
theorem zQZ{l m:List (Int×Int)}{k:Nat}(hk:k<l.length)(h:(qP l k,qb l k)∈m):zAH (l.take (k+1)) m=zAH (l.take k) m ++ [(qP l k,qb l k)]:=by
 unfold qP qb at h ⊢;rw[zBT hk]at h ⊢;unfold zAH;rw[List.take_succ_eq_append_getElem hk,List.filter_append,List.filter_cons];simp only[List.filter_nil];rw[if_pos (by simp;exact h)]
theorem zTk{l m:List (Int×Int)}{k:Nat}(hk:k<l.length)(h:(qP l k,qb l k)∉m):zAH (l.take (k+1)) m=zAH (l.take k) m:=by
 unfold qP qb at h;rw[zBT hk]at h;unfold zAH;rw[List.take_succ_eq_append_getElem hk,List.filter_append,List.filter_cons];simp only[List.filter_nil];rw[if_neg (by simp;exact h),List.append_nil]
theorem zQY(l m:List (Int×Int))(k:Nat):(zAH (l.take k) m).length<=k/\(zCK (l.take k) m).length<=k:=by
 refine⟨?_,zQ9 l m k⟩;unfold zAH;exact Nat.le_trans (List.length_filter_le _ _) (by rw[List.length_take];omega)
theorem zFx(v v2:Value)(lo hi fB eB T:Nat)(l m:List (Int×Int))(w:World)(h1:qo w lo hi v l.length (qP l) (qb l))(hn:l.length<=200)(h2:qo w fB eB v2 m.length (qP m) (qb m))(hT:w.cell? ⟨T,0,none⟩=some v2) :
  Calls Tryz.prog 167 #[v,.func (.func 168) #[] #[.pointer (some ⟨T,0,none⟩)]] w fun e w'=>∃vy vo,e = .returned (.tuple #[vy,vo])/\zIO (zAH l m) (zCK l m) w w' vy vo:=by
 have Hp:=zn h1;have HT:=zn hT;have gB:=zn h2;obtain⟨m1,a,c,rfl,mc,_⟩:=id h1;clear h1 hT h2;unfold maxLen at m1;obtain⟨i0,cB,sA⟩:=Option.map_eq_some_iff.1 zMM;simp only[Prod.mk.injEq]at sA;have HI:=zn (And.intro cB sA);clear cB sA;go_enter Tryz.func167,Tryz.ntmps167;go_wp2
 go_loopw [6,7,12] (fun vy vo i wr=>∃k:Nat,k<=l.length/\i = .int .i64 k/\zIO (zAH (l.take k) m) (zCK (l.take k) m) w wr vy vo) (fun _ _ i _=>l.length - (intOf i).toNat)
 case atStart=>exact⟨0,Nat.zero_le _,rfl,zCI.nil _ _,zCI.nil _ _,fun q hq=>by simp[Value.ownBlock]at hq,Below.refl _ _⟩
 case round=>
  obtain⟨k,hk,rfl,hy,ho,bB,hb⟩:=hrel;have Hy:=zn hy;have Ho:=zn ho;have kA:=zn bB;have lB:=zQY l m k;clear hy ho bB;by_cases eA:k<l.length
  ·have mB:(k:Int)<(l.length:Int):=(by omega);obtain⟨b,off,rfl,q0,q1⟩:=(Hp.out.zcw hb).cellsD eA;have iA:=zD wr (.cells #[.int .i64 (qP l k),.int .i64 (qb l k)] 70);have HV:=zn (zAZ.new wr (.int .i64 (qP l k)) (.int .i64 (qb l k)) 70);have fA:=zA hb iA;have vA:=zn ((fA.cell (p:=⟨T,0,none⟩) (zH HT.out)).trans HT.out);have tA:=zn (gB.out.zcw fA);have nB:∀(fn:Fn) (first cap:Array Value) (w:World),(Instr.makeFunc fn first cap).run Tryz.prog w = .ok (.func fn first cap) w:=fun _ _ _ _=>rfl
   go_wp2_with fail;refine(zQw v2 m.length fB eB (qP m) (qb m) (qP l k) (qb l k) T _ tA.out vA.out).mono ?_;rintro e w1 ⟨⟨s,rfl,hs⟩,dA⟩;have kB:=zn ((Hy.out.zcw iA).zcw dA);have jB:=zn ((Ho.out.zcw iA).zcw dA);have iB:=zn (HV.out.zcw dA);have aB:=zA fA dA;clear dA fA iA Hy Ho HV q0 q1 vA tA;have oB:=aB.size;obtain⟨⟨x0,x1⟩,⟨x2,x3⟩⟩:=iB.out;have jA:=zD w1 (.cells #[.int .i64 (qP l k),.int .i64 (qb l k)] 70);have mA:=zn (kB.out.zcw jA);have lA:=zn (jB.out.zcw jA);have gA:=zA aB jA;have pB:(w1.alloc (.cells #[.int .i64 (qP l k),.int .i64 (qb l k)] 70)).heap.size=w1.heap.size+1:=World.size_alloc _ _;have HN:=zn (World.news_of_block (heap_alloc_last w1 (.cells #[.int .i64 (qP l k),.int .i64 (qb l k)] 70)));clear jA;by_cases hq:(qP l k,qb l k)∈m
   ·obtain rfl:s=true:=hs.2 (zFP.2 hq);have ey:=zn (zQZ eA hq);have eo:=zn (zPd eA hq);clear hs hq;go_wp2_with (first
     | (at_builtin;refine wpList_append_lies _ rfl _ _ 56 rfl w.heap.size 70 i0 (.agg #[.int .i64 0,.int .i64 0]) 2 16 (by kernel_rfl) HI.out.1 HI.out.2.1 HI.out.2.2.1 HI.out.2.2.2 rfl (by decide) _ _ _ rfl mA.out ⟨w1.heap.size,0,none⟩ 1 1 [.int .i64 (qP l k),.int .i64 (qb l k)] rfl rfl HN.out (by simp[Value.oneCell']) (by decide) (by unfold maxLen;omega) (by omega) (by omega) _ rfl ?_;intro g' nA w4 bA aA cA oA)
     | go_in)
    go_roundw
    case rel=>
     obtain⟨r1,r2,r3⟩:=zGM lA.out kA.out bA aA cA;exact⟨k+1,by omega,by go_num,by rw[ey.out];exact r1,by rw[eo.out];exact r2,r3,gA.grown aA gA.size (fun q hq=>(mA.out.lt hq).1)⟩
    case measure=>simp[intOf];omega
   ·obtain rfl:s=false:=yy hs (fun h=>hq (zFP.1 h));have ey:=zn (zTk eA hq);have eo:=zn (zMa eA hq);clear hs hq;go_wp2_with (first
     | (at_builtin;refine wpList_append_lies _ rfl _ _ 56 rfl w.heap.size 70 i0 (.agg #[.int .i64 0,.int .i64 0]) 2 16 (by kernel_rfl) HI.out.1 HI.out.2.1 HI.out.2.2.1 HI.out.2.2.2 rfl (by decide) _ _ _ rfl lA.out ⟨w1.heap.size,0,none⟩ 1 1 [.int .i64 (qP l k),.int .i64 (qb l k)] rfl rfl HN.out (by simp[Value.oneCell']) (by decide) (by unfold maxLen;omega) (by omega) (by omega) _ rfl ?_;intro g' nA w4 bA aA cA oA)
     | go_in)
    go_roundw
    case rel=>
     obtain⟨r1,r2,r3⟩:=zGM mA.out (fun q h h'=>kA.out q h' h) bA aA cA;exact⟨k+1,by omega,by go_num,by rw[ey.out];exact r2,by rw[eo.out];exact r1,fun q h h'=>r3 q h' h,gA.grown aA gA.size (fun q hq=>(lA.out.lt hq).1)⟩
    case measure=>simp[intOf];omega
  ·obtain rfl:k=l.length:=(by omega);have rA:=Hy.out;have pA:=Ho.out;rw[List.take_length]at rA pA;have HY:=zn rA;have HO:=zn pA;clear rA pA Hy Ho;go_wp2
   go_ret2
   exact⟨_,_,rfl,HY.out,HO.out,kA.out,hb⟩
theorem zGp(v v2:Value)(lo hi fB eB T:Nat)(l m:List (Int×Int))(w:World)(h1:qo w lo hi v l.length (qP l) (qb l))(hn:l.length<=200)(h2:qo w fB eB v2 m.length (qP m) (qb m))(hT:w.cell? ⟨T,0,none⟩=some v2) :
  Calls Tryz.prog 167 #[v,.func (.func 170) #[] #[.pointer (some ⟨T,0,none⟩)]] w fun e w'=>∃vy vo,e = .returned (.tuple #[vy,vo])/\zIO (zAH l m) (zCK l m) w w' vy vo:=by
 have Hp:=zn h1;have HT:=zn hT;have gB:=zn h2;obtain⟨m1,a,c,rfl,mc,_⟩:=id h1;clear h1 hT h2;unfold maxLen at m1;obtain⟨i0,cB,sA⟩:=Option.map_eq_some_iff.1 zMM;simp only[Prod.mk.injEq]at sA;have HI:=zn (And.intro cB sA);clear cB sA;go_enter Tryz.func167,Tryz.ntmps167;go_wp2
 go_loopw [6,7,12] (fun vy vo i wr=>∃k:Nat,k<=l.length/\i = .int .i64 k/\zIO (zAH (l.take k) m) (zCK (l.take k) m) w wr vy vo) (fun _ _ i _=>l.length - (intOf i).toNat)
 case atStart=>exact⟨0,Nat.zero_le _,rfl,zCI.nil _ _,zCI.nil _ _,fun q hq=>by simp[Value.ownBlock]at hq,Below.refl _ _⟩
 case round=>
  obtain⟨k,hk,rfl,hy,ho,bB,hb⟩:=hrel;have Hy:=zn hy;have Ho:=zn ho;have kA:=zn bB;have lB:=zQY l m k;clear hy ho bB;by_cases eA:k<l.length
  ·have mB:(k:Int)<(l.length:Int):=(by omega);obtain⟨b,off,rfl,q0,q1⟩:=(Hp.out.zcw hb).cellsD eA;have iA:=zD wr (.cells #[.int .i64 (qP l k),.int .i64 (qb l k)] 70);have HV:=zn (zAZ.new wr (.int .i64 (qP l k)) (.int .i64 (qb l k)) 70);have fA:=zA hb iA;have vA:=zn ((fA.cell (p:=⟨T,0,none⟩) (zH HT.out)).trans HT.out);have tA:=zn (gB.out.zcw fA);have nB:∀(fn:Fn) (first cap:Array Value) (w:World),(Instr.makeFunc fn first cap).run Tryz.prog w = .ok (.func fn first cap) w:=fun _ _ _ _=>rfl
   go_wp2_with fail;refine(zSl v2 m.length fB eB (qP m) (qb m) (qP l k) (qb l k) T _ tA.out vA.out).mono ?_;rintro e w1 ⟨⟨s,rfl,hs⟩,dA⟩;have kB:=zn ((Hy.out.zcw iA).zcw dA);have jB:=zn ((Ho.out.zcw iA).zcw dA);have iB:=zn (HV.out.zcw dA);have aB:=zA fA dA;clear dA fA iA Hy Ho HV q0 q1 vA tA;have oB:=aB.size;obtain⟨⟨x0,x1⟩,⟨x2,x3⟩⟩:=iB.out;have jA:=zD w1 (.cells #[.int .i64 (qP l k),.int .i64 (qb l k)] 70);have mA:=zn (kB.out.zcw jA);have lA:=zn (jB.out.zcw jA);have gA:=zA aB jA;have pB:(w1.alloc (.cells #[.int .i64 (qP l k),.int .i64 (qb l k)] 70)).heap.size=w1.heap.size+1:=World.size_alloc _ _;have HN:=zn (World.news_of_block (heap_alloc_last w1 (.cells #[.int .i64 (qP l k),.int .i64 (qb l k)] 70)));clear jA;by_cases hq:(qP l k,qb l k)∈m
   ·obtain rfl:s=true:=hs.2 (zFP.2 hq);have ey:=zn (zQZ eA hq);have eo:=zn (zPd eA hq);clear hs hq;go_wp2_with (first
     | (at_builtin;refine wpList_append_lies _ rfl _ _ 56 rfl w.heap.size 70 i0 (.agg #[.int .i64 0,.int .i64 0]) 2 16 (by kernel_rfl) HI.out.1 HI.out.2.1 HI.out.2.2.1 HI.out.2.2.2 rfl (by decide) _ _ _ rfl mA.out ⟨w1.heap.size,0,none⟩ 1 1 [.int .i64 (qP l k),.int .i64 (qb l k)] rfl rfl HN.out (by simp[Value.oneCell']) (by decide) (by unfold maxLen;omega) (by omega) (by omega) _ rfl ?_;intro g' nA w4 bA aA cA oA)
     | go_in)
    go_roundw
    case rel=>
     obtain⟨r1,r2,r3⟩:=zGM lA.out kA.out bA aA cA;exact⟨k+1,by omega,by go_num,by rw[ey.out];exact r1,by rw[eo.out];exact r2,r3,gA.grown aA gA.size (fun q hq=>(mA.out.lt hq).1)⟩
    case measure=>simp[intOf];omega
   ·obtain rfl:s=false:=yy hs (fun h=>hq (zFP.1 h));have ey:=zn (zTk eA hq);have eo:=zn (zMa eA hq);clear hs hq;go_wp2_with (first
     | (at_builtin;refine wpList_append_lies _ rfl _ _ 56 rfl w.heap.size 70 i0 (.agg #[.int .i64 0,.int .i64 0]) 2 16 (by kernel_rfl) HI.out.1 HI.out.2.1 HI.out.2.2.1 HI.out.2.2.2 rfl (by decide) _ _ _ rfl lA.out ⟨w1.heap.size,0,none⟩ 1 1 [.int .i64 (qP l k),.int .i64 (qb l k)] rfl rfl HN.out (by simp[Value.oneCell']) (by decide) (by unfold maxLen;omega) (by omega) (by omega) _ rfl ?_;intro g' nA w4 bA aA cA oA)
     | go_in)
    go_roundw
    case rel=>
     obtain⟨r1,r2,r3⟩:=zGM mA.out (fun q h h'=>kA.out q h' h) bA aA cA;exact⟨k+1,by omega,by go_num,by rw[ey.out];exact r2,by rw[eo.out];exact r1,fun q h h'=>r3 q h' h,gA.grown aA gA.size (fun q hq=>(lA.out.lt hq).1)⟩
    case measure=>simp[intOf];omega
  ·obtain rfl:k=l.length:=(by omega);have rA:=Hy.out;have pA:=Ho.out;rw[List.take_length]at rA pA;have HY:=zn rA;have HO:=zn pA;clear rA pA Hy Ho;go_wp2
   go_ret2
   exact⟨_,_,rfl,HY.out,HO.out,kA.out,hb⟩
theorem zBu(v v':Value)(n lo hi n' sA rA:Nat)(f g f' g':Nat->Int)(w:World)(h1:qo w lo hi v n f g)(h2:qo w sA rA v' n' f' g') :
  Calls Tryz.prog 171 #[v,v'] w fun e w'=>zL (zF1 n f g n' f' g') e/\Below w.heap.size w w':=by
 have Hp:=zn h1;have pA:=zn h2;obtain⟨m1,a,c,rfl,mc,_⟩:=id h1;obtain⟨m2,a',c',rfl,kB,_⟩:=id h2;unfold maxLen at m1 m2;clear h1 h2;by_cases ho:zAD n f g
 ·have Ho:=zn ho;clear ho;by_cases oA:zAD n' f' g'
  ·have cA:=zn oA;clear oA;go_enter Tryz.func171,Tryz.ntmps171;go_wp2_with fail;refine(zAn _ n lo hi f g _ Hp.out).mono ?_;rintro e w1 ⟨⟨t,rfl,ht⟩,bA⟩;obtain rfl:t=true:=ht.2 Ho.out;clear ht;go_wp2_with fail;refine(zAn _ n' sA rA f' g' _ (pA.out.zcw bA)).mono ?_;rintro e w2 ⟨⟨t,rfl,ht⟩,kA⟩;obtain rfl:t=true:=ht.2 cA.out;have iA:=zA bA kA;clear ht bA kA;go_wp2_with fail;refine(zIG _ n lo hi f g _ (Hp.out.zcw iA) Ho.out.1 Ho.out.2.1).mono ?_;rintro e w3 ⟨rfl,hm,cB⟩;have Hm:=zn hm;have aB:=zA iA cB;have hz:w.heap.size<=w2.heap.size:=iA.size;clear hm cB iA;go_wp2
   go_loopw [20] (fun i wr=>∃(k:Nat) (D:DataW Unit),k<=n'/\i = .int .i64 k/\zWi wr w2.heap.size n D/\zF0 n f g f' k D/\(∀j,j<k->PIn n f g (f' j) (g' j))/\Below w.heap.size w wr) (fun i _=>n' - (intOf i).toNat)
   case atStart=>exact⟨0,_,Nat.zero_le _,rfl,Hm.out,zF0.start Ho.out f',fun j hj=>absurd hj (Nat.not_lt_zero _),aB⟩
   case round=>
    obtain⟨k,D,hk,rfl,mA,eA,eB,hb⟩:=hrel;have dA:=zn mA;have aA:=zn eA;have vA:=zn eB;clear mA eA eB Hm aB;by_cases fA:k<n'
    ·have fB:(k:Int)<(n':Int):=(by omega);obtain⟨b,off,rfl,q0,q1⟩:=(pA.out.zcw hb).cellsD fA;have lA:keyOf Tryz.prog 2 (.int .i64 (f' k))=some (zET (f' k)):=keyOf_int_mk zZl (zNQ (cA.out.2.1 k fA).1 (by have:=(cA.out.2.1 k fA).2.1;omega));have jA:=zn lA;clear lA;have bA:=hb.alloc hb.size (.cells #[.int .i64 (f' k),.int .i64 (g' k)] 70);have jB:w2.heap.size<=wr.heap.size:=Nat.le_of_lt dA.out.lt;go_wp2_with (first
      | (at_lookup;refine wpList_lookup_own_int _ rfl _ _ 220 rfl 2 2 .i64 zbd zYB zZl (zco _) w2.heap.size n D rfl (dA.out.alloc _) _ _ rfl jA.out ?_;intro c0 bB iB)
      | (at_delete;refine wpList_delete_own _ rfl _ _ 220 2 rfl 2 zbd zYB _ w2.heap.size n D rfl (dA.out.alloc _) _ _ rfl jA.out ?_;intro w4 nA gA)
      | go_in)
     ·have gB:c0≠g' k:=by
       have h:(c0 != g' k)=true:=(by assumption);simpa using h
      go_ret;exact⟨zL.no (aA.out.no Ho.out cA.out fA (show D.atKey (zET (f' k)) (zGZ 0)=zGZ c0 from bB) gB),bA⟩
     ·have he:c0=g' k:=by
       have h:(c0 != g' k)=false:=(by assumption);simpa using h
      subst he;have tA:D.atKey (zET (f' k)) (zGZ 0)=zGZ (g' k):=bB;go_roundw
      case rel=>exact⟨k+1,_,by omega,by go_num,nA,aA.out.next cA.out fA tA,yE fA vA.out (aA.out.in cA.out fA tA),bA.grown gA.grown bA.size (fun j hj=>by cases hj;exact hz)⟩
      case measure=>simp[intOf];omega
    ·obtain rfl:k=n':=(by omega);go_wp2_with (first
      | (at_len;refine wpList_len_own _ rfl _ 220 rfl 2 2 zYB _ w2.heap.size n D rfl dA.out ?_)
      | go_in)
     go_ret;refine⟨⟨_,rfl,?_⟩,hb⟩;have He:=aA.out.end Ho.out cA.out vA.out;rw[<-He];simp
  ·have cA:=zn oA;clear oA;go_enter Tryz.func171,Tryz.ntmps171;go_wp2_with fail;refine(zAn _ n lo hi f g _ Hp.out).mono ?_;rintro e w1 ⟨⟨t,rfl,ht⟩,bA⟩;obtain rfl:t=true:=ht.2 Ho.out;clear ht;go_wp2_with fail;refine(zAn _ n' sA rA f' g' _ (pA.out.zcw bA)).mono ?_;rintro e w2 ⟨⟨t,rfl,ht⟩,kA⟩;obtain rfl:t=false:=yy ht cA.out;have iA:=zA bA kA;clear ht bA kA;go_wp2;go_ret;exact⟨zL.no fun h=>cA.out h.2.1,iA⟩
 ·have Ho:=zn ho;clear ho;go_enter Tryz.func171,Tryz.ntmps171;go_wp2_with fail;refine(zAn _ n lo hi f g _ Hp.out).mono ?_;rintro e w1 ⟨⟨t,rfl,ht⟩,bA⟩;obtain rfl:t=false:=yy ht Ho.out;clear ht;go_wp2;go_ret;exact⟨zL.no fun h=>Ho.out h.1,bA⟩
end Go.Proofs.YtbplmbafodlboaaGreatDoor
