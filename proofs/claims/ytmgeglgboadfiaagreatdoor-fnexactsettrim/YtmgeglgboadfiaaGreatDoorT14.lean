/- What impl.prevsRight answers. -/
import Derived.Test.YtmgeglgboadfiaaGreatDoorT13
set_option linter.unusedVariables false
set_option maxRecDepth 20000
set_option maxHeartbeats 4000000
namespace Go.Proofs.YtmgeglgboadfiaaGreatDoor
open Go.RowKit Go.Maps
def zEC(w:World)(b:Nat)(v0 v1 v2 v3 v4:Value):Prop:=zX w b 0 v0/\zX w b 1 v1/\zX w b 2 v2/\zX w b 3 v3/\zX w b 4 v4
theorem zEC.zRJ{w w':World}{b:Nat}{v0 v1 v2 v3 v4:Value}(h:zEC w b v0 v1 v2 v3 v4)(t:Below w.heap.size w w'):zEC w' b v0 v1 v2 v3 v4:=⟨h.1.zRJ t,h.2.1.zRJ t,h.2.2.1.zRJ t,h.2.2.2.1.zRJ t,h.2.2.2.2.zRJ t⟩
theorem zEC.zRL(w:World)(v0 v1 v2 v3 v4:Value)(t:TypeId):zEC(w.alloc(.cells #[v0,v1,v2,v3,v4] t)) w.heap.size v0 v1 v2 v3 v4:=by
 have hb:(w.alloc(.cells #[v0,v1,v2,v3,v4] t)).heap[w.heap.size]?=some(.cells #[v0,v1,v2,v3,v4] t):=heap_alloc_new _ _;exact⟨zI hb rfl,zI hb rfl,zI hb rfl,zI hb rfl,zI hb rfl⟩
def zCJ(W:zH):Prop:=∀i,i<zq W->(Lit.int .i64(zO W i).zRT).wf=true
def zIN(W:zH)(i:Nat):Prop:=(zN W(zO W i).zRT).id=(zO W i).zRT
theorem zDY(v:Value)(s:zm)(w:World):(Instr.field 99(yg v s) 0).run Tryz.prog w = .ok(.int .i64 s.id) w/\(Instr.field 99(yg v s) 2).run Tryz.prog w = .ok(.string s.set) w/\(Instr.field 99(yg v s) 3).run Tryz.prog w = .ok(.int .i64 s.zRT) w/\(Instr.field 99(yg v s) 4).run Tryz.prog w = .ok(.int .i64 s.time) w:=by
 refine⟨?_,?_,?_,?_⟩<;>kernel_rfl
theorem zHl(v0 v1 v2 v3:Value)(lo hi:Nat)(W:zH)(A:Nat)(w:World)(h:zl w lo hi v0 v1 v2 v3 W)(hs:W.sn<=8)(hp:W.pn<=20)(hA:zBU w lo hi W A)(hD:zCF W)(jA:zCJ W) :
  Calls Tryz.prog 205 #[zz v0 v1 v2 v3 W,zGG A] w fun e w'=>zG(∀i,i<zq W->zIN W i) e/\Below w.heap.size w w':=by
 have Hp:=zB h;have HA:=zB hA;have HD:=zB hD;have kA:=zB jA;clear h hA hD jA;have ha:=zC w(.cells #[v0,v1,.int .i64 W.time,.int .i64 W.next,v2,v3] 37);obtain⟨⟨x0,-⟩,⟨x2,-⟩,⟨x4,-⟩,⟨x6,-⟩,⟨x8,-⟩,⟨x10,-⟩⟩:=zi.zRL w v0 v1(.int .i64 W.time)(.int .i64 W.next) v2 v3 37;go_enter Tryz.func205,Tryz.ntmps205;go_wp2_with fail;clear x0 x2 x4 x6 x8 x10;generalize w.alloc(.cells #[v0,v1,.int .i64 W.time,.int .i64 W.next,v2,v3] 37)=W0 at ha ⊢;refine(zC9 v0 v1 v2 v3 lo hi W W0(Hp.out.zRJ ha) hs hp).mono ?_;rintro e w1 ⟨vm,vd,rfl,hm,hb1⟩;have HM:=zB hm;have cA:=zA ha hb1;obtain⟨am,cm,rfl,hcm⟩:=id hm.form;have oA:zq W<=28:=by unfold zq;omega
 clear ha hb1 hm;go_wp2
 go_loopw [10](fun i wr=>∃k:Nat,k<=zq W/\i = .int .i64 k/\(∀j,j<k->zIN W j)/\Below w1.heap.size w1 wr)(fun i _=>zq W - (intOf i).toNat)
 case atStart=>exact⟨0,Nat.zero_le _,rfl,fun j hj=>absurd hj(Nat.not_lt_zero _),Below.refl _ _⟩
 case round=>
  obtain⟨k,hk,rfl,hall,hb⟩:=hrel;have aA:=zB hall;clear hall;by_cases bA:k<zq W;rotate_left
  ·obtain rfl:k=zq W:=(by omega);go_wp2;go_ret;exact⟨zG.yes aA.out,zA cA hb⟩
  have nA:(k:Int)<(zq W:Int):=(by omega);obtain⟨g,cg,e,q0,q1,q2,q3,q4⟩:=(HM.out.zRJ hb).cells k bA;obtain⟨-,ad,cd,hvk,-,-⟩:=id((HM.out.zRJ hb).zRX k bA);rw [hvk] at q4;cases e;have eA:=zC wr(.cells #[.int .i64(zO W k).zRT,.int .i64(zO W k).time,.int .i64(zO W k).rs,.int .i64(zO W k).rb,.slice ad(zO W k).dn cd] 224);have HV:=zB(zEC.zRL wr(.int .i64(zO W k).zRT)(.int .i64(zO W k).time)(.int .i64(zO W k).rs)(.int .i64(zO W k).rb)(.slice ad(zO W k).dn cd) 224);have dA:=zB(HA.out.zRJ(zA cA(zA hb eA)));have fA:=zA hb eA;have lA:=zB(kA.out k bA);have gA:=zB(show zIN W k↔(zN W(zO W k).zRT).id=(zO W k).zRT from Iff.rfl);clear hvk eA;generalize zO W k=m at *;go_wp2_with fail;clear q0 q1 q2 q3 q4;generalize wr.alloc(.cells #[.int .i64 m.zRT,.int .i64 m.time,.int .i64 m.rs,.int .i64 m.rb,.slice ad m.dn cd] 224)=W2 at HV dA fA ⊢;generalize wr.heap.size=V at HV ⊢;obtain⟨⟨y0,-⟩,-⟩:=HV.out;go_region_held3(fun w'=>w'.cell? ⟨V,0,none⟩=some(.int .i64 m.zRT))(go_keep)
   (first | (go_at_call 190;refine(zBi lo hi W A m.zRT _ ?_ HD.out lA.out hp).mono ?_;(exact dA.out.zRJ(Below.refl _ _).drew);rintro e w6 ⟨aa,ca,rfl,hpd,hb6⟩;have mA:=fun w=>(zDY(.slice aa(zN W m.zRT).dn ca)(zN W m.zRT) w).1;obtain⟨⟨z0,_⟩,_⟩:=HV.out.zRJ(zK hb6)))
  have iA:=qh fA hb6;clear hb6 hpd mA z0 y0 dA;by_cases he:(zN W m.zRT).id=m.zRT
  ·have hd:((zN W m.zRT).id != m.zRT)=false:=(by simp [he]);have He:=zB(gA.out.2 he);clear he;go_wp2;go_roundw
   case rel=>exact⟨k+1,by omega,by go_num,zo bA aA.out He.out,iA⟩
   case measure=>simp [intOf];omega
  ·have hd:((zN W m.zRT).id != m.zRT)=true:=(by simp [he]);have He:=zB(fun h=>he(gA.out.1 h));clear he;go_wp2;go_ret;exact⟨zG.no fun h=>He.out(h k bA),zA cA iA⟩
theorem zMm(v:Value)(n lo hi:Nat)(f g:Nat->Int)(x y:Int)(w:World)(h1:zR w lo hi v n f g) :
  Calls Tryz.prog 228 #[v,.agg #[.int .i64 x,.int .i64 y]] w fun e w'=>∃r:Int,e = .returned(.int .i64 r)/\(0<=r↔PIn n f g x y)/\Below w.heap.size w w':=by
 have Hp:=zB h1;obtain⟨m1,a,c,rfl,mc,-⟩:=id h1;unfold maxLen at m1;clear h1;have ha:=zC w(.cells #[.int .i64 x,.int .i64 y] 61);have HB:=zB(zc.zRL w(.int .i64 x)(.int .i64 y) 61);go_enter Tryz.func228,Tryz.ntmps228;go_wp2
 go_loopw [8](fun i wr=>∃k:Nat,k<=n/\i = .int .i64 k/\¬PIn k f g x y/\zc wr w.heap.size(.int .i64 x)(.int .i64 y)/\Below w.heap.size w wr)(fun i _=>n - (intOf i).toNat)
 case atStart=>exact⟨0,Nat.zero_le _,rfl,fun ⟨j,hj,_⟩=>absurd hj(Nat.not_lt_zero _),HB.out,ha⟩
 case round=>
  obtain⟨k,hk,rfl,hno,hX,hb⟩:=hrel;have aA:=zB hno;have HX:=zB hX;clear hno hX;obtain⟨⟨x0,x1⟩,⟨x2,x3⟩⟩:=HX.out;by_cases bA:k<n
  ·have cA:(k:Int)<(n:Int):=(by omega);obtain⟨b,off,rfl,q0,q1⟩:=(Hp.out.zRJ hb).zRN bA;by_cases he:f k=x/\g k=y
   ·have H:=zB(show PIn n f g x y from⟨k,bA,he.1,he.2⟩);rw [he.1] at q0;rw [he.2] at q1;clear he;go_wp2
    go_quiet(fail)
    go_wp2;go_ret;exact⟨k,rfl,⟨fun _=>H.out,fun _=>by omega⟩,zg hb _⟩
   ·have H:=zB he;have e0:(x == f k)=false\/(x == f k)=true/\(y == g k)=false:=by
     by_cases h:f k=x
     ·right;refine⟨by simp [h],?_⟩;have:¬y=g k:=fun h'=>he ⟨h,h'.symm⟩
      simp [this]
     ·left;have:¬x=f k:=fun h'=>h h'.symm
      simp [this]
    clear he;rcases e0 with e0 | ⟨e0,e1⟩
    all_goals
     go_wp2
     go_quiet(fail)
     go_wp2;go_roundw
     case rel=>
      refine⟨k+1,by omega,by go_num,?_,HX.out.zRJ(zg(Below.refl _ _) _),zg hb _⟩;rintro⟨j,hj,hjx⟩;by_cases e:j=k
      ·subst e;exact H.out ⟨hjx.1,hjx.2⟩
      ·exact aA.out ⟨j,by omega,hjx⟩
     case measure=>simp [intOf];omega
  ·obtain rfl:k=n:=(by omega);go_wp2;go_ret;exact⟨-1,rfl,⟨fun h=>absurd h(by decide),fun h=>absurd h aA.out⟩,hb⟩
theorem zEw(v:Value)(n lo hi:Nat)(f g:Nat->Int)(x y:Int)(w:World)(h1:zR w lo hi v n f g) :
  Calls Tryz.prog 220 #[v,.agg #[.int .i64 x,.int .i64 y]] w fun e w'=>zG(PIn n f g x y) e/\Below w.heap.size w w':=by
 have Hp:=zB h1;clear h1;have ha:=zC w(.cells #[.int .i64 x,.int .i64 y] 61);obtain⟨⟨x0,-⟩,⟨x2,-⟩⟩:=zc.zRL w(.int .i64 x)(.int .i64 y) 61;go_enter Tryz.func220,Tryz.ntmps220;go_wp2_with fail;refine(zMm v n lo hi f g x y _(Hp.out.zRJ ha)).mono ?_;rintro e w1 ⟨r,rfl,hr,hb1⟩;have Hr:=zB hr;have hB:=zA ha hb1;clear hr hb1 x0 x2 ha;go_wp2;go_ret;refine⟨⟨_,rfl,?_⟩,hB⟩;have:=Hr.out;simp only [decide_eq_true_eq];exact this
theorem zLS(v:Value)(n lo hi:Nat)(f g:Nat->Int)(x y:Int)(T:Nat)(w:World)(h1:zR w lo hi v n f g)(hT:w.cell? ⟨T,0,none⟩=some v) :
  Calls Tryz.prog 231 #[.agg #[.int .i64 x,.int .i64 y],.pointer(some ⟨T,0,none⟩)] w fun e w'=>zG(PIn n f g x y) e/\Below w.heap.size w w':=by
 have Hp:=zB h1;obtain⟨m1,a,c,rfl,mc,-⟩:=id h1;clear h1;have ha:=zC w(.cells #[.int .i64 x,.int .i64 y] 61);obtain⟨⟨x0,-⟩,⟨x2,-⟩⟩:=zc.zRL w(.int .i64 x)(.int .i64 y) 61;have aA:=(ha.cell(p:=⟨T,0,none⟩)(zD hT)).trans hT;clear hT;go_enter Tryz.func231,Tryz.ntmps231;go_wp2_with fail;refine(zEw _ n lo hi f g x y _(Hp.out.zRJ ha)).mono ?_;rintro e w1 ⟨⟨t1,rfl,ht1⟩,hb1⟩;have Ht:=zB ht1;have hB:=zA ha hb1;clear ht1 hb1 x0 x2 ha aA;go_wp2;go_ret;exact⟨⟨_,rfl,Ht.out⟩,hB⟩
theorem zMt(v:Value)(n lo hi:Nat)(f g:Nat->Int)(x y:Int)(T:Nat)(w:World)(h1:zR w lo hi v n f g)(hT:w.cell? ⟨T,0,none⟩=some v) :
  Calls Tryz.prog 232 #[.agg #[.int .i64 x,.int .i64 y],.pointer(some ⟨T,0,none⟩)] w fun e w'=>zG(PIn n f g x y) e/\Below w.heap.size w w':=by
 have Hp:=zB h1;obtain⟨m1,a,c,rfl,mc,-⟩:=id h1;clear h1;have ha:=zC w(.cells #[.int .i64 x,.int .i64 y] 61);obtain⟨⟨x0,-⟩,⟨x2,-⟩⟩:=zc.zRL w(.int .i64 x)(.int .i64 y) 61;have aA:=(ha.cell(p:=⟨T,0,none⟩)(zD hT)).trans hT;clear hT;go_enter Tryz.func232,Tryz.ntmps232;go_wp2_with fail;refine(zEw _ n lo hi f g x y _(Hp.out.zRJ ha)).mono ?_;rintro e w1 ⟨⟨t1,rfl,ht1⟩,hb1⟩;have Ht:=zB ht1;have hB:=zA ha hb1;clear ht1 hb1 x0 x2 ha aA;go_wp2;go_ret;exact⟨⟨_,rfl,Ht.out⟩,hB⟩
theorem zBm(v0 v1 v2 v3:Value)(lo hi:Nat)(W:zH)(xs xb:Int)(w:World)(h:zl w lo hi v0 v1 v2 v3 W)(hR:zv W.zRQ)(hT:qF W.zRQ xs xb) :
  Calls Tryz.prog 226 #[zz v0 v1 v2 v3 W,.agg #[.int .i64 xs,.int .i64 xb]] w fun e w'=>∃v,e = .returned v/\zw w' w.heap.size v(zT W.zRQ xs xb)/\Below w.heap.size w w':=by
 have Hp:=zB h;have HR:=zB hR;have HT:=zB(show Nil xs xb\/zr W.zRQ xs xb from hT.imp id(fun h=>h.1.1));obtain⟨m0,a0,c0,rfl,mc0,-⟩:=id h.zRQ.1;clear h hR hT;have ha:=zC w(.cells #[.slice a0 W.zRQ.n c0,v1,.int .i64 W.time,.int .i64 W.next,v2,v3] 37);have hB:=zi.zRL w(.slice a0 W.zRQ.n c0) v1(.int .i64 W.time)(.int .i64 W.next) v2 v3 37;have hz:(w.alloc(.cells #[.slice a0 W.zRQ.n c0,v1,.int .i64 W.time,.int .i64 W.next,v2,v3] 37)).heap.size=w.heap.size+1:=World.size_alloc _ _;have bA:=zC(w.alloc(.cells #[.slice a0 W.zRQ.n c0,v1,.int .i64 W.time,.int .i64 W.next,v2,v3] 37))(.cells #[.int .i64 xs,.int .i64 xb] 61);have hX:=zc.zRL(w.alloc(.cells #[.slice a0 W.zRQ.n c0,v1,.int .i64 W.time,.int .i64 W.next,v2,v3] 37))(.int .i64 xs)(.int .i64 xb) 61;rw [hz] at hX;have aA:=zA ha bA;obtain⟨⟨x0,-⟩,⟨x2,-⟩,-⟩:=hB.zRJ bA;obtain⟨⟨y0,-⟩,⟨y2,-⟩⟩:=hX;clear hB ha bA;go_enter Tryz.func226,Tryz.ntmps226;go_wp2_with fail;clear x0 x2 y0 y2;generalize(w.alloc(.cells #[.slice a0 W.zRQ.n c0,v1,.int .i64 W.time,.int .i64 W.next,v2,v3] 37)).alloc(.cells #[.int .i64 xs,.int .i64 xb] 61)=W0 at aA ⊢;refine(zJG W.zRQ HR.out _ lo hi xs xb W0(Hp.out.zRQ.1.zRJ aA) HT.out).mono ?_;rintro e w1 ⟨v,rfl,hr,hb1⟩;have Hr:=zB hr;have hB:=zA aA hb1;have cA:=aA.size;clear hr hb1;go_wp2;go_ret;exact⟨v,rfl,zw.mono Hr.out cA,hB⟩
theorem zE0(n:Int)(w:World):Calls Tryz.prog 187 #[.int .i64 n] w fun e w'=>zG(zB3 n) e/\w'=w:=by
 by_cases h1:0<=n
 ·by_cases h2:n<=1000000
  ·go_enter Tryz.func187,Tryz.ntmps187;go_wp2;go_ret;exact⟨zG.yes ⟨h1,h2⟩,rfl⟩
  ·go_enter Tryz.func187,Tryz.ntmps187;go_wp2;go_ret;exact⟨zG.no fun h=>by have:=h.2;omega,rfl⟩
 ·go_enter Tryz.func187,Tryz.ntmps187;go_wp2;go_ret;exact⟨zG.no fun h=>by have:=h.1;omega,rfl⟩
theorem zMR(x y t:Int)(T:Nat)(w:World)(hT:w.cell? ⟨T,0,none⟩=some(.int .i64 t)):Calls Tryz.prog 189 #[.agg #[.int .i64 x,.int .i64 y],.pointer(some ⟨T,0,none⟩)] w fun e w'=>zG(t<y) e/\Below w.heap.size w w':=by
 have aA:=zC w(.cells #[.int .i64 x,.int .i64 y] 61);have bA:=(aA.cell(p:=⟨T,0,none⟩)(zD hT)).trans hT;by_cases h:t<y
 ·go_enter Tryz.func189,Tryz.ntmps189;go_wp2;go_ret;exact⟨⟨_,rfl,by simpa using h⟩,aA⟩
 ·go_enter Tryz.func189,Tryz.ntmps189;go_wp2;go_ret;exact⟨⟨_,rfl,by simpa using h⟩,aA⟩
def zC4(l l':List(Int×Int))(w w':World)(v v':Value):Prop:=zw w' w.heap.size v l/\zw w' w.heap.size v' l'/\(∀q,v.ownBlock=some q->v'.ownBlock≠some q)/\Below w.heap.size w w'
theorem zB1{w1 w2:World}{base g bA:Nat}{v v':Value}{l l':List(Int×Int)}{x y:Int}(h':zw w1 base v' l')(ha:∀q,v.ownBlock=some q->v'.ownBlock≠some q)
  (aA:w2.ownsRow base 61 2(.slice(some ⟨g,0,none⟩)(l.length+1) bA)(l.length+1)(pcl l ++ [.int .i64 x,.int .i64 y]))(hg:w1.grownBy w2 v.ownBlock)(cA:v.ownBlock=some g\/g=w1.heap.size) :
  zw w2 base(.slice(some ⟨g,0,none⟩)(l.length+1) bA)(l ++ [(x,y)])/\zw w2 base v' l'/\(∀q,(Value.slice(some ⟨g,0,none⟩)(l.length+1) bA).ownBlock=some q->v'.ownBlock≠some q):=by
 refine⟨?_,h'.zRR hg(fun q hq e=>ha q e hq),fun q hq e=>?_⟩
 ·unfold zw;rw [zA9,List.length_append];exact aA
 ·simp only [Value.ownBlock,Option.some.injEq] at hq;subst hq;rcases cA with h | h
  ·exact ha _ h e
  ·have:=(h'.lt e).2;omega
theorem zOl(v:Value)(n lo hi T:Nat)(f g:Nat->Int)(t:Int)(w:World)(h1:zR w lo hi v n f g)(hn:n<=200)(hT:w.cell? ⟨T,0,none⟩=some(.int .i64 t)) :
  Calls Tryz.prog 188 #[v,.func(.func 189) #[] #[.pointer(some ⟨T,0,none⟩)]] w fun e w'=>∃vy vo,e = .returned(.tuple #[vy,vo])/\zC4(qd f g t n)(zBg f g t n) w w' vy vo:=by
 have Hp:=zY h1;have HT:=zY hT;obtain⟨m1,a,c,rfl,mc,_⟩:=id h1;clear h1 hT;obtain⟨i0,hi0,hzz⟩:=Option.map_eq_some_iff.1 zA1;simp only [Prod.mk.injEq] at hzz;have HI:=zY(And.intro hi0 hzz);clear hi0 hzz;go_enter Tryz.func188,Tryz.ntmps188;go_wp2
 go_loopw [6,7,12](fun vy vo i wr=>∃k:Nat,k<=n/\i = .int .i64 k/\zC4(qd f g t k)(zBg f g t k) w wr vy vo)(fun _ _ i _=>n - (intOf i).toNat)
 case atStart=>exact⟨0,Nat.zero_le _,rfl,zw.nil _ _,zw.nil _ _,fun q hq=>by simp [Value.ownBlock] at hq,Below.refl _ _⟩
 case round=>
  obtain⟨k,hk,rfl,hy,ho,hap,hb⟩:=hrel;have Hy:=zY hy;have Ho:=zY ho;have iA:=zY hap;have sA:=zCM f g t k;clear hy ho hap;by_cases tA:k<n
  ·have cB:(k:Int)<(n:Int):=(by omega);obtain⟨b,off,rfl,q0,q1⟩:=(Hp.out.zRJ hb).zRN tA;have fA:=zC wr(.cells #[.int .i64(f k),.int .i64(g k)] 61);have HV:=zY(zc.zRL wr(.int .i64(f k))(.int .i64(g k)) 61);have jA:=zA hb fA;have pA:=zY((jA.cell(p:=⟨T,0,none⟩)(zD HT.out)).trans HT.out);have dB:∀(fn:Fn)(bA rA:Array Value)(w:World),(Instr.makeFunc fn bA rA).run Tryz.prog w = .ok(.func fn bA rA) w:=fun _ _ _ _=>rfl
   go_wp2_with fail;refine(zMR(f k)(g k) t T _ pA.out).mono ?_;rintro e w1 ⟨⟨s,rfl,hs⟩,hb1⟩;have vA:=zY((Hy.out.zRJ fA).zRJ hb1);have bB:=zY((Ho.out.zRJ fA).zRJ hb1);have aB:=zY(HV.out.zRJ hb1);have oA:=zA jA hb1;clear hb1 jA fA Hy Ho HV q0 q1 pA;have fB:=oA.size;obtain⟨⟨x0,x1⟩,⟨x2,x3⟩⟩:=aB.out;have gA:=zC w1(.cells #[.int .i64(f k),.int .i64(g k)] 61);have nA:=zY(vA.out.zRJ gA);have kA:=zY(bB.out.zRJ gA);have eA:=zA oA gA;have eB:(w1.alloc(.cells #[.int .i64(f k),.int .i64(g k)] 61)).heap.size=w1.heap.size+1:=World.size_alloc _ _;have HN:=zY(World.news_of_block(heap_alloc_last w1(.cells #[.int .i64(f k),.int .i64(g k)] 61)));clear gA;by_cases hq:t<g k
   ·obtain rfl:s=true:=hs.2 hq;have ey:qd f g t(k+1)=qd f g t k ++ [(f k,g k)]:=if_pos hq;have eo:zBg f g t(k+1)=zBg f g t k:=if_pos hq;clear hs hq;go_wp2_with(bA
     |(at_builtin;refine wpList_append_lies _ rfl _ _ 62 rfl w.heap.size 61 i0(.agg #[.int .i64 0,.int .i64 0]) 2 16(by kernel_rfl) HI.out.1 HI.out.2.1 HI.out.2.2.1 HI.out.2.2.2 rfl(by decide) _ _ _ rfl nA.out ⟨w1.heap.size,0,none⟩ 1 1 [.int .i64(f k),.int .i64(g k)] rfl rfl HN.out(by simp [Value.oneCell'])(by decide)(by unfold maxLen;omega)(by omega)(by omega) _ rfl ?_;intro g' mA w4 cA aA dA lA)
     |go_in)
    go_roundw
    case rel=>
     obtain⟨r1,r2,r3⟩:=zB1 kA.out iA.out cA aA dA;exact⟨k+1,by omega,by go_num,by rw [ey];exact r1,by rw [eo];exact r2,r3,eA.grown aA eA.size(fun q hq=>(nA.out.lt hq).1)⟩
    case measure=>simp [intOf];omega
   ·obtain rfl:s=false:=zQ hs hq;have ey:qd f g t(k+1)=qd f g t k:=if_neg hq;have eo:zBg f g t(k+1)=zBg f g t k ++ [(f k,g k)]:=if_neg hq;clear hs hq;go_wp2_with(bA
     |(at_builtin;refine wpList_append_lies _ rfl _ _ 62 rfl w.heap.size 61 i0(.agg #[.int .i64 0,.int .i64 0]) 2 16(by kernel_rfl) HI.out.1 HI.out.2.1 HI.out.2.2.1 HI.out.2.2.2 rfl(by decide) _ _ _ rfl kA.out ⟨w1.heap.size,0,none⟩ 1 1 [.int .i64(f k),.int .i64(g k)] rfl rfl HN.out(by simp [Value.oneCell'])(by decide)(by unfold maxLen;omega)(by omega)(by omega) _ rfl ?_;intro g' mA w4 cA aA dA lA)
     |go_in)
    go_roundw
    case rel=>
     obtain⟨r1,r2,r3⟩:=zB1 nA.out(fun q h h'=>iA.out q h' h) cA aA dA;exact⟨k+1,by omega,by go_num,by rw [ey];exact r2,by rw [eo];exact r1,fun q h h'=>r3 q h' h,eA.grown aA eA.size(fun q hq=>(kA.out.lt hq).1)⟩
    case measure=>simp [intOf];omega
  ·obtain rfl:k=n:=(by omega);go_wp2
   go_ret2
   exact⟨_,_,rfl,Hy.out,Ho.out,iA.out,hb⟩
def zQt(n:Nat)(f g:Nat->Int)(t:Int)(l:List(Int×Int)):Prop:=(qx n f g/\zB3 t->l=qd f g t n)/\(¬(qx n f g/\zB3 t)->l = [])
def zQn(n:Nat)(f g:Nat->Int)(t:Int)(l:List(Int×Int)):Prop:=(qx n f g/\zB3 t->l=zBg f g t n)/\(¬(qx n f g/\zB3 t)->l = [])
def zP7(n:Nat)(f g:Nat->Int)(t:Int)(w:World)(e:Ending)(w':World):Prop:=∃vy vo l l',e = .returned(.agg #[vy,vo])/\zQt n f g t l/\zQn n f g t l'/\zC4 l l' w w' vy vo
theorem zAz(v:Value)(n lo hi:Nat)(f g:Nat->Int)(t:Int)(w:World)(h1:zR w lo hi v n f g) :
  Calls Tryz.prog 151 #[v,.int .i64 t] w(zP7 n f g t w):=by
 have Hp:=zY h1;obtain⟨m1,a,c,rfl,mc,_⟩:=id h1;clear h1;have nA:∀(fn:Fn)(aA jA:Array Value)(w:World),(Instr.makeFunc fn aA jA).run Tryz.prog w = .ok(.func fn aA jA) w:=fun _ _ _ _=>rfl
 have ha:=zC w(.cells #[.int .i64 t] 2);have iA:=zC(w.alloc(.cells #[.int .i64 t] 2))(.cells #[.slice none 0 0,.slice none 0 0] 201);have hA:=zA ha iA;have HT:=zY(show zX((w.alloc(.cells #[.int .i64 t] 2)).alloc(.cells #[.slice none 0 0,.slice none 0 0] 201)) w.heap.size 0(.int .i64 t)from zX.zRJ ⟨by rw [World.cell?_alloc_at _ _ _ _ rfl];rfl,World.frozen?_alloc_at _ _ _ _ rfl⟩ iA);have HR:=zY(zc.zRL(w.alloc(.cells #[.int .i64 t] 2))(.slice none 0 0)(.slice none 0 0) 201);rw [World.size_alloc] at HR;clear ha iA;by_cases ho:qx n f g
 ·have Ho:=zY ho;clear ho;by_cases hq:zB3 t
  ·have Hq:=zY hq;clear hq;go_enter Tryz.func151,Tryz.ntmps151;go_wp2_with fail;generalize(w.alloc(.cells #[.int .i64 t] 2)).alloc(.cells #[.slice none 0 0,.slice none 0 0] 201)=W at HT HR hA ⊢;refine(qk _ n lo hi f g _(Hp.out.zRJ hA)).mono ?_;rintro e w1 ⟨⟨s,rfl,hs⟩,hb1⟩;obtain rfl:s=true:=hs.2 Ho.out;have dA:=zY(HT.out.zRJ hb1);have cA:=zY(HR.out.zRJ hb1);have bA:=zA hA hb1;clear hs hb1 hA HT HR;obtain⟨x0,x1⟩:=dA.out;go_wp2_with(aA
    |(go_at_call 187;refine(zE0 t _).mono ?_;rintro e w2 ⟨⟨s,rfl,hs⟩,rfl⟩;obtain rfl:s=true:=hs.2 Hq.out;clear hs)
    |fail)
   go_wp2_with fail;refine(zOl _ n lo hi w.heap.size f g t _(Hp.out.zRJ bA) Ho.out.1 dA.out.1).mono ?_;rintro e w3 ⟨vy,vo,rfl,hnew⟩;have gA:=hnew.2.2.2;have kA:=zW hnew.1;have fA:=zW hnew.2.1;obtain⟨ya,yc,rfl,_⟩:=kA;obtain⟨oa,oc,rfl,_⟩:=fA;have mA:=zY(cA.out.zRJ gA);have HN:=zY hnew;have eA:w.heap.size+1<w2.heap.size:=cA.out.1.lt;have lA:=zA bA gA;clear hnew gA x0 x1 dA cA;obtain⟨⟨x0,x1⟩,⟨x2,x3⟩⟩:=mA.out;go_wp2;refine bodyPost_ret(v:=.agg #[.slice ya(qd f g t n).length yc,.slice oa(zBg f g t n).length oc])(by simp [results,Tryz.results151,go_sem, *]) rfl ?_;refine⟨_,_,qd f g t n,zBg f g t n,rfl,⟨fun _=>rfl,fun h=>absurd ⟨Ho.out,Hq.out⟩ h⟩,⟨fun _=>rfl,fun h=>absurd ⟨Ho.out,Hq.out⟩ h⟩,?_,?_,HN.out.2.2.1,(lA.setCell(by show w.heap.size<=w.heap.size+1;omega) _).setCell(by show w.heap.size<=w.heap.size+1;omega) _⟩
   ·exact(((zw.put HN.out.1 eA _).put eA _)).mono bA.size
   ·exact(((zw.put HN.out.2.1 eA _).put eA _)).mono bA.size
  ·have Hq:=zY hq;clear hq;go_enter Tryz.func151,Tryz.ntmps151;go_wp2_with fail;generalize(w.alloc(.cells #[.int .i64 t] 2)).alloc(.cells #[.slice none 0 0,.slice none 0 0] 201)=W at HT HR hA ⊢;refine(qk _ n lo hi f g _(Hp.out.zRJ hA)).mono ?_;rintro e w1 ⟨⟨s,rfl,hs⟩,hb1⟩;obtain rfl:s=true:=hs.2 Ho.out;have dA:=zY(HT.out.zRJ hb1);have cA:=zY(HR.out.zRJ hb1);have bA:=zA hA hb1;clear hs hb1 hA HT HR;obtain⟨x0,x1⟩:=dA.out;obtain⟨⟨y0,y1⟩,⟨y2,y3⟩⟩:=cA.out;go_wp2_with(aA
    |(go_at_call 187;refine(zE0 t _).mono ?_;rintro e w2 ⟨⟨s,rfl,hs⟩,rfl⟩;obtain rfl:s=false:=zQ hs Hq.out;clear hs)
    |fail)
   go_wp2;refine bodyPost_ret(v:=.agg #[.slice none 0 0,.slice none 0 0])(by simp [results,Tryz.results151,go_sem, *]) rfl ?_;exact⟨_,_,[],[],rfl,⟨fun h=>absurd h.2 Hq.out,fun _=>rfl⟩,⟨fun h=>absurd h.2 Hq.out,fun _=>rfl⟩,zw.nil _ _,zw.nil _ _,fun q hq=>by simp [Value.ownBlock] at hq,(bA.setCell(by show w.heap.size<=w.heap.size+1;omega) _).setCell(by show w.heap.size<=w.heap.size+1;omega) _⟩
 ·have Ho:=zY ho;clear ho;go_enter Tryz.func151,Tryz.ntmps151;go_wp2_with fail;generalize(w.alloc(.cells #[.int .i64 t] 2)).alloc(.cells #[.slice none 0 0,.slice none 0 0] 201)=W at HT HR hA ⊢;refine(qk _ n lo hi f g _(Hp.out.zRJ hA)).mono ?_;rintro e w1 ⟨⟨s,rfl,hs⟩,hb1⟩;obtain rfl:s=false:=zQ hs Ho.out;have cA:=zY(HR.out.zRJ hb1);have bA:=zA hA hb1;clear hs hb1 hA HT HR;obtain⟨⟨y0,y1⟩,⟨y2,y3⟩⟩:=cA.out;go_wp2;refine bodyPost_ret(v:=.agg #[.slice none 0 0,.slice none 0 0])(by simp [results,Tryz.results151,go_sem, *]) rfl ?_;exact⟨_,_,[],[],rfl,⟨fun h=>absurd h.1 Ho.out,fun _=>rfl⟩,⟨fun h=>absurd h.1 Ho.out,fun _=>rfl⟩,zw.nil _ _,zw.nil _ _,fun q hq=>by simp [Value.ownBlock] at hq,(bA.setCell(by show w.heap.size<=w.heap.size+1;omega) _).setCell(by show w.heap.size<=w.heap.size+1;omega) _⟩
theorem zLm{l m:List(Int×Int)}{k:Nat}(hk:k<l.length)(h:(zf l k,zh l k)∈m):qQ(l.take(k+1)) m=qQ(l.take k) m ++ [(zf l k,zh l k)]:=by
 unfold zf zh at h ⊢;rw [yE hk] at h ⊢;unfold qQ;rw [List.take_succ_eq_append_getElem hk,List.filter_append,List.filter_cons];simp only [List.filter_nil];rw [if_pos(by simp;exact h)]
theorem zND{l m:List(Int×Int)}{k:Nat}(hk:k<l.length)(h:(zf l k,zh l k)∉m):qQ(l.take(k+1)) m=qQ(l.take k) m:=by
 unfold zf zh at h;rw [yE hk] at h;unfold qQ;rw [List.take_succ_eq_append_getElem hk,List.filter_append,List.filter_cons];simp only [List.filter_nil];rw [if_neg(by simp;exact h),List.append_nil]
theorem zLE(l m:List(Int×Int))(k:Nat):(qQ(l.take k) m).length<=k/\(zAQ(l.take k) m).length<=k:=by
 refine⟨?_,zME l m k⟩;unfold qQ;exact Nat.le_trans(List.length_filter_le _ _)(by rw [List.length_take];omega)
theorem zC5(v v2:Value)(lo hi sA cB T:Nat)(l m:List(Int×Int))(w:World)(h1:zR w lo hi v l.length(zf l)(zh l))(hn:l.length<=200)(h2:zR w sA cB v2 m.length(zf m)(zh m))(hT:w.cell? ⟨T,0,none⟩=some v2) :
  Calls Tryz.prog 188 #[v,.func(.func 231) #[] #[.pointer(some ⟨T,0,none⟩)]] w fun e w'=>∃vy vo,e = .returned(.tuple #[vy,vo])/\zC4(qQ l m)(zAQ l m) w w' vy vo:=by
 have Hp:=zY h1;have HT:=zY hT;have gB:=zY h2;obtain⟨m1,a,c,rfl,mc,_⟩:=id h1;clear h1 hT h2;unfold maxLen at m1;obtain⟨i0,hi0,hzz⟩:=Option.map_eq_some_iff.1 zA1;simp only [Prod.mk.injEq] at hzz;have HI:=zY(And.intro hi0 hzz);clear hi0 hzz;go_enter Tryz.func188,Tryz.ntmps188;go_wp2
 go_loopw [6,7,12](fun vy vo i wr=>∃k:Nat,k<=l.length/\i = .int .i64 k/\zC4(qQ(l.take k) m)(zAQ(l.take k) m) w wr vy vo)(fun _ _ i _=>l.length - (intOf i).toNat)
 case atStart=>exact⟨0,Nat.zero_le _,rfl,zw.nil _ _,zw.nil _ _,fun q hq=>by simp [Value.ownBlock] at hq,Below.refl _ _⟩
 case round=>
  obtain⟨k,hk,rfl,hy,ho,hap,hb⟩:=hrel;have Hy:=zY hy;have Ho:=zY ho;have kA:=zY hap;have dB:=zLE l m k;clear hy ho hap;by_cases eA:k<l.length
  ·have jB:(k:Int)<(l.length:Int):=(by omega);obtain⟨b,off,rfl,q0,q1⟩:=(Hp.out.zRJ hb).zRN eA;have iA:=zC wr(.cells #[.int .i64(zf l k),.int .i64(zh l k)] 61);have HV:=zY(zc.zRL wr(.int .i64(zf l k))(.int .i64(zh l k)) 61);have fA:=zA hb iA;have vA:=zY((fA.cell(p:=⟨T,0,none⟩)(zD HT.out)).trans HT.out);have bB:=zY(gB.out.zRJ fA);have kB:∀(fn:Fn)(bA aB:Array Value)(w:World),(Instr.makeFunc fn bA aB).run Tryz.prog w = .ok(.func fn bA aB) w:=fun _ _ _ _=>rfl
   go_wp2_with fail;refine(zLS v2 m.length sA cB(zf m)(zh m)(zf l k)(zh l k) T _ bB.out vA.out).mono ?_;rintro e w1 ⟨⟨s,rfl,hs⟩,hb1⟩;have eB:=zY((Hy.out.zRJ iA).zRJ hb1);have iB:=zY((Ho.out.zRJ iA).zRJ hb1);have fB:=zY(HV.out.zRJ hb1);have tA:=zA fA hb1;clear hb1 fA iA Hy Ho HV q0 q1 vA bB;have mB:=tA.size;obtain⟨⟨x0,x1⟩,⟨x2,x3⟩⟩:=fB.out;have jA:=zC w1(.cells #[.int .i64(zf l k),.int .i64(zh l k)] 61);have rA:=zY(eB.out.zRJ jA);have nA:=zY(iB.out.zRJ jA);have gA:=zA tA jA;have lB:(w1.alloc(.cells #[.int .i64(zf l k),.int .i64(zh l k)] 61)).heap.size=w1.heap.size+1:=World.size_alloc _ _;have HN:=zY(World.news_of_block(heap_alloc_last w1(.cells #[.int .i64(zf l k),.int .i64(zh l k)] 61)));clear jA;by_cases hq:(zf l k,zh l k)∈m
   ·obtain rfl:s=true:=hs.2(zBT.2 hq);have ey:=zY(zLm eA hq);have eo:=zY(zJt eA hq);clear hs hq;go_wp2_with(bA
     |(at_builtin;refine wpList_append_lies _ rfl _ _ 62 rfl w.heap.size 61 i0(.agg #[.int .i64 0,.int .i64 0]) 2 16(by kernel_rfl) HI.out.1 HI.out.2.1 HI.out.2.2.1 HI.out.2.2.2 rfl(by decide) _ _ _ rfl rA.out ⟨w1.heap.size,0,none⟩ 1 1 [.int .i64(zf l k),.int .i64(zh l k)] rfl rfl HN.out(by simp [Value.oneCell'])(by decide)(by unfold maxLen;omega)(by omega)(by omega) _ rfl ?_;intro g' pA w4 cA aA dA oA)
     |go_in)
    go_roundw
    case rel=>
     obtain⟨r1,r2,r3⟩:=zB1 nA.out kA.out cA aA dA;exact⟨k+1,by omega,by go_num,by rw [ey.out];exact r1,by rw [eo.out];exact r2,r3,gA.grown aA gA.size(fun q hq=>(rA.out.lt hq).1)⟩
    case measure=>simp [intOf];omega
   ·obtain rfl:s=false:=zQ hs(fun h=>hq(zBT.1 h));have ey:=zY(zND eA hq);have eo:=zY(zIB eA hq);clear hs hq;go_wp2_with(bA
     |(at_builtin;refine wpList_append_lies _ rfl _ _ 62 rfl w.heap.size 61 i0(.agg #[.int .i64 0,.int .i64 0]) 2 16(by kernel_rfl) HI.out.1 HI.out.2.1 HI.out.2.2.1 HI.out.2.2.2 rfl(by decide) _ _ _ rfl nA.out ⟨w1.heap.size,0,none⟩ 1 1 [.int .i64(zf l k),.int .i64(zh l k)] rfl rfl HN.out(by simp [Value.oneCell'])(by decide)(by unfold maxLen;omega)(by omega)(by omega) _ rfl ?_;intro g' pA w4 cA aA dA oA)
     |go_in)
    go_roundw
    case rel=>
     obtain⟨r1,r2,r3⟩:=zB1 rA.out(fun q h h'=>kA.out q h' h) cA aA dA;exact⟨k+1,by omega,by go_num,by rw [ey.out];exact r2,by rw [eo.out];exact r1,fun q h h'=>r3 q h' h,gA.grown aA gA.size(fun q hq=>(nA.out.lt hq).1)⟩
    case measure=>simp [intOf];omega
  ·obtain rfl:k=l.length:=(by omega);have mA:=Hy.out;have lA:=Ho.out;rw [List.take_length] at mA lA;have HY:=zY mA;have HO:=zY lA;clear mA lA Hy Ho;go_wp2
   go_ret2
   exact⟨_,_,rfl,HY.out,HO.out,kA.out,hb⟩
theorem zDq(v v2:Value)(lo hi sA cB T:Nat)(l m:List(Int×Int))(w:World)(h1:zR w lo hi v l.length(zf l)(zh l))(hn:l.length<=200)(h2:zR w sA cB v2 m.length(zf m)(zh m))(hT:w.cell? ⟨T,0,none⟩=some v2) :
  Calls Tryz.prog 188 #[v,.func(.func 232) #[] #[.pointer(some ⟨T,0,none⟩)]] w fun e w'=>∃vy vo,e = .returned(.tuple #[vy,vo])/\zC4(qQ l m)(zAQ l m) w w' vy vo:=by
 have Hp:=zY h1;have HT:=zY hT;have gB:=zY h2;obtain⟨m1,a,c,rfl,mc,_⟩:=id h1;clear h1 hT h2;unfold maxLen at m1;obtain⟨i0,hi0,hzz⟩:=Option.map_eq_some_iff.1 zA1;simp only [Prod.mk.injEq] at hzz;have HI:=zY(And.intro hi0 hzz);clear hi0 hzz;go_enter Tryz.func188,Tryz.ntmps188;go_wp2
 go_loopw [6,7,12](fun vy vo i wr=>∃k:Nat,k<=l.length/\i = .int .i64 k/\zC4(qQ(l.take k) m)(zAQ(l.take k) m) w wr vy vo)(fun _ _ i _=>l.length - (intOf i).toNat)
 case atStart=>exact⟨0,Nat.zero_le _,rfl,zw.nil _ _,zw.nil _ _,fun q hq=>by simp [Value.ownBlock] at hq,Below.refl _ _⟩
 case round=>
  obtain⟨k,hk,rfl,hy,ho,hap,hb⟩:=hrel;have Hy:=zY hy;have Ho:=zY ho;have kA:=zY hap;have dB:=zLE l m k;clear hy ho hap;by_cases eA:k<l.length
  ·have jB:(k:Int)<(l.length:Int):=(by omega);obtain⟨b,off,rfl,q0,q1⟩:=(Hp.out.zRJ hb).zRN eA;have iA:=zC wr(.cells #[.int .i64(zf l k),.int .i64(zh l k)] 61);have HV:=zY(zc.zRL wr(.int .i64(zf l k))(.int .i64(zh l k)) 61);have fA:=zA hb iA;have vA:=zY((fA.cell(p:=⟨T,0,none⟩)(zD HT.out)).trans HT.out);have bB:=zY(gB.out.zRJ fA);have kB:∀(fn:Fn)(bA aB:Array Value)(w:World),(Instr.makeFunc fn bA aB).run Tryz.prog w = .ok(.func fn bA aB) w:=fun _ _ _ _=>rfl
   go_wp2_with fail;refine(zMt v2 m.length sA cB(zf m)(zh m)(zf l k)(zh l k) T _ bB.out vA.out).mono ?_;rintro e w1 ⟨⟨s,rfl,hs⟩,hb1⟩;have eB:=zY((Hy.out.zRJ iA).zRJ hb1);have iB:=zY((Ho.out.zRJ iA).zRJ hb1);have fB:=zY(HV.out.zRJ hb1);have tA:=zA fA hb1;clear hb1 fA iA Hy Ho HV q0 q1 vA bB;have mB:=tA.size;obtain⟨⟨x0,x1⟩,⟨x2,x3⟩⟩:=fB.out;have jA:=zC w1(.cells #[.int .i64(zf l k),.int .i64(zh l k)] 61);have rA:=zY(eB.out.zRJ jA);have nA:=zY(iB.out.zRJ jA);have gA:=zA tA jA;have lB:(w1.alloc(.cells #[.int .i64(zf l k),.int .i64(zh l k)] 61)).heap.size=w1.heap.size+1:=World.size_alloc _ _;have HN:=zY(World.news_of_block(heap_alloc_last w1(.cells #[.int .i64(zf l k),.int .i64(zh l k)] 61)));clear jA;by_cases hq:(zf l k,zh l k)∈m
   ·obtain rfl:s=true:=hs.2(zBT.2 hq);have ey:=zY(zLm eA hq);have eo:=zY(zJt eA hq);clear hs hq;go_wp2_with(bA
     |(at_builtin;refine wpList_append_lies _ rfl _ _ 62 rfl w.heap.size 61 i0(.agg #[.int .i64 0,.int .i64 0]) 2 16(by kernel_rfl) HI.out.1 HI.out.2.1 HI.out.2.2.1 HI.out.2.2.2 rfl(by decide) _ _ _ rfl rA.out ⟨w1.heap.size,0,none⟩ 1 1 [.int .i64(zf l k),.int .i64(zh l k)] rfl rfl HN.out(by simp [Value.oneCell'])(by decide)(by unfold maxLen;omega)(by omega)(by omega) _ rfl ?_;intro g' pA w4 cA aA dA oA)
     |go_in)
    go_roundw
    case rel=>
     obtain⟨r1,r2,r3⟩:=zB1 nA.out kA.out cA aA dA;exact⟨k+1,by omega,by go_num,by rw [ey.out];exact r1,by rw [eo.out];exact r2,r3,gA.grown aA gA.size(fun q hq=>(rA.out.lt hq).1)⟩
    case measure=>simp [intOf];omega
   ·obtain rfl:s=false:=zQ hs(fun h=>hq(zBT.1 h));have ey:=zY(zND eA hq);have eo:=zY(zIB eA hq);clear hs hq;go_wp2_with(bA
     |(at_builtin;refine wpList_append_lies _ rfl _ _ 62 rfl w.heap.size 61 i0(.agg #[.int .i64 0,.int .i64 0]) 2 16(by kernel_rfl) HI.out.1 HI.out.2.1 HI.out.2.2.1 HI.out.2.2.2 rfl(by decide) _ _ _ rfl nA.out ⟨w1.heap.size,0,none⟩ 1 1 [.int .i64(zf l k),.int .i64(zh l k)] rfl rfl HN.out(by simp [Value.oneCell'])(by decide)(by unfold maxLen;omega)(by omega)(by omega) _ rfl ?_;intro g' pA w4 cA aA dA oA)
     |go_in)
    go_roundw
    case rel=>
     obtain⟨r1,r2,r3⟩:=zB1 rA.out(fun q h h'=>kA.out q h' h) cA aA dA;exact⟨k+1,by omega,by go_num,by rw [ey.out];exact r2,by rw [eo.out];exact r1,fun q h h'=>r3 q h' h,gA.grown aA gA.size(fun q hq=>(nA.out.lt hq).1)⟩
    case measure=>simp [intOf];omega
  ·obtain rfl:k=l.length:=(by omega);have mA:=Hy.out;have lA:=Ho.out;rw [List.take_length] at mA lA;have HY:=zY mA;have HO:=zY lA;clear mA lA Hy Ho;go_wp2
   go_ret2
   exact⟨_,_,rfl,HY.out,HO.out,kA.out,hb⟩
theorem yi(v v':Value)(n lo hi n' lo' hi':Nat)(f g f' g':Nat->Int)(w:World)(h1:zR w lo hi v n f g)(h2:zR w lo' hi' v' n' f' g') :
  Calls Tryz.prog 233 #[v,v'] w fun e w'=>zG(zES n f g n' f' g') e/\Below w.heap.size w w':=by
 have Hp:=zY h1;have mA:=zY h2;obtain⟨m1,a,c,rfl,mc,_⟩:=id h1;obtain⟨m2,a',c',rfl,mc',_⟩:=id h2;unfold maxLen at m1 m2;clear h1 h2;by_cases ho:qx n f g
 ·have Ho:=zY ho;clear ho;by_cases lA:qx n' f' g'
  ·have cA:=zY lA;clear lA;go_enter Tryz.func233,Tryz.ntmps233;go_wp2_with fail;refine(qk _ n lo hi f g _ Hp.out).mono ?_;rintro e w1 ⟨⟨t,rfl,ht⟩,bA⟩;obtain rfl:t=true:=ht.2 Ho.out;clear ht;go_wp2_with fail;refine(qk _ n' lo' hi' f' g' _(mA.out.zRJ bA)).mono ?_;rintro e w2 ⟨⟨t,rfl,ht⟩,hb2⟩;obtain rfl:t=true:=ht.2 cA.out;have gA:=zA bA hb2;clear ht bA hb2;go_wp2_with fail;refine(zEy _ n lo hi f g _(Hp.out.zRJ gA) Ho.out.1 Ho.out.2.1).mono ?_;rintro e w3 ⟨rfl,hm,hb3⟩;have Hm:=zY hm;have nA:=zA gA hb3;have hz:w.heap.size<=w2.heap.size:=gA.size;clear hm hb3 gA;go_wp2
   go_loopw [20](fun i wr=>∃(k:Nat)(D:DataW Unit),k<=n'/\i = .int .i64 k/\zOi wr w2.heap.size n D/\zDL n f g f' k D/\(∀j,j<k->PIn n f g(f' j)(g' j))/\Below w.heap.size w wr)(fun i _=>n' - (intOf i).toNat)
   case atStart=>exact⟨0,_,Nat.zero_le _,rfl,Hm.out,zDL.start Ho.out f',fun j hj=>absurd hj(Nat.not_lt_zero _),nA⟩
   case round=>
    obtain⟨k,D,hk,rfl,hown,hleft,hin,hb⟩:=hrel;have dA:=zY hown;have aA:=zY hleft;have pA:=zY hin;clear hown hleft hin Hm nA;by_cases eA:k<n'
    ·have tA:(k:Int)<(n':Int):=(by omega);obtain⟨b,off,rfl,q0,q1⟩:=(mA.out.zRJ hb).zRN eA;have iA:keyOf Tryz.prog 2(.int .i64(f' k))=some(zB0(f' k)):=keyOf_int_mk zQI(zIQ(cA.out.2.1 k eA).1(by have:=(cA.out.2.1 k eA).2.1;omega));have kA:=zY iA;clear iA;have bA:=hb.alloc hb.size(.cells #[.int .i64(f' k),.int .i64(g' k)] 61);have aB:w2.heap.size<=wr.heap.size:=Nat.le_of_lt dA.out.lt;go_wp2_with(first
      |(at_lookup;refine wpList_lookup_own_int _ rfl _ _ 243 rfl 2 2 .i64 zQm zPD zQI(zQ7 _) w2.heap.size n D rfl(dA.out.alloc _) _ _ rfl kA.out ?_;intro c0 oA vA)
      |(at_delete;refine wpList_delete_own _ rfl _ _ 243 2 rfl 2 zQm zPD _ w2.heap.size n D rfl(dA.out.alloc _) _ _ rfl kA.out ?_;intro w4 jA fA)
      |go_in)
     ·have sA:c0≠g' k:=by
       have h:(c0 != g' k)=true:=(by assumption);simpa using h
      go_ret;exact⟨zG.no(aA.out.no Ho.out cA.out eA(show D.atKey(zB0(f' k))(zDS 0)=zDS c0 from oA) sA),bA⟩
     ·have he:c0=g' k:=by
       have h:(c0 != g' k)=false:=(by assumption);simpa using h
      subst he;have rA:D.atKey(zB0(f' k))(zDS 0)=zDS(g' k):=oA;go_roundw
      case rel=>exact⟨k+1,_,by omega,by go_num,jA,aA.out.next cA.out eA rA,zo eA pA.out(aA.out.in cA.out eA rA),bA.grown fA.grown bA.size(fun j hj=>by cases hj;exact hz)⟩
      case measure=>simp [intOf];omega
    ·obtain rfl:k=n':=(by omega);go_wp2_with(first
      |(at_len;refine wpList_len_own _ rfl _ 243 rfl 2 2 zPD _ w2.heap.size n D rfl dA.out ?_)
      |go_in)
     go_ret;refine⟨⟨_,rfl,?_⟩,hb⟩;have He:=aA.out.end Ho.out cA.out pA.out;rw [<-He];simp
  ·have cA:=zY lA;clear lA;go_enter Tryz.func233,Tryz.ntmps233;go_wp2_with fail;refine(qk _ n lo hi f g _ Hp.out).mono ?_;rintro e w1 ⟨⟨t,rfl,ht⟩,bA⟩;obtain rfl:t=true:=ht.2 Ho.out;clear ht;go_wp2_with fail;refine(qk _ n' lo' hi' f' g' _(mA.out.zRJ bA)).mono ?_;rintro e w2 ⟨⟨t,rfl,ht⟩,hb2⟩;obtain rfl:t=false:=zQ ht cA.out;have gA:=zA bA hb2;clear ht bA hb2;go_wp2;go_ret;exact⟨zG.no fun h=>cA.out h.2.1,gA⟩
 ·have Ho:=zY ho;clear ho;go_enter Tryz.func233,Tryz.ntmps233;go_wp2_with fail;refine(qk _ n lo hi f g _ Hp.out).mono ?_;rintro e w1 ⟨⟨t,rfl,ht⟩,bA⟩;obtain rfl:t=false:=zQ ht Ho.out;clear ht;go_wp2;go_ret;exact⟨zG.no fun h=>Ho.out h.1,bA⟩
end Go.Proofs.YtmgeglgboadfiaaGreatDoor
