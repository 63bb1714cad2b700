/- What impl.ptrsBelow leaves: a new row of pointers, of a page, a node and a root. -/
import Derived.Test.YtmgeglgboadfiaaGreatDoorT6
import Derived.Deep.DeepCutAuto
set_option linter.unusedVariables false
set_option maxRecDepth 20000
set_option maxHeartbeats 4000000
namespace Go.Proofs.YtmgeglgboadfiaaGreatDoor
open Go.RowKit
def zQr(l:List(Int×Int))(w:World)(e:Ending)(w':World):Prop:=∃v,e = .returned v/\w'.ownsRow w.heap.size 61 2 v l.length(pcl l)/\Below w.heap.size w w'
def zBG(F:Int->Int->List(Int×Int))(s:zL):Nat->List(Int×Int)
 |0=>[]
 |k+1=>zBG F s k ++ F(zb s k)(zu s k)
theorem zJV(s:zL):∀k,zBG one s k=kidsUp(zb s)(zu s) k
 |0=>rfl
 |k+1=>by rw [zBG,kidsUp,zJV s k]
theorem zJc(p:zJ)(s:zL):∀k,zBG(zEu p) s k=zAv p s k
 |0=>rfl
 |k+1=>by rw [zBG,zAv,zJc p s k]
theorem zJi{F:Int->Int->List(Int×Int)}(hF:∀a b,(F a b).length<=9)(s:zL):∀k,(zBG F s k).length<=9*k
 |0=>Nat.le_refl _
 |k+1=>by
  have:=zJi hF s k;have:=hF(zb s k)(zu s k);rw [zBG,List.length_append];omega
def zGv(p:zJ)(F:Int->Int->List(Int×Int))(xs xb:Int):List(Int×Int):=if Nil xs xb then [] else(xs,xb) :: zBG F(p.s xs.toNat) 8
def zF9(p:zJ)(L:Int)(F:Int->Int->List(Int×Int)):Prop:=∀(v:Value)(lo hi:Nat)(xs xb:Int)(w:World),qA w lo hi v p.n p.s->(Nil xs xb\/zr p xs xb)->
 Calls Tryz.prog 197 #[v,.agg #[.int .i64 xs,.int .i64 xb],.int .i64 L] w(zQr(F xs xb) w)
theorem zL9{w:World}{base n K:Nat}{v:Value}{xs:List Value}{cs:Array Value}(h:w.ownsRow base 61 2 v n xs)(hK:w.heap[K]?=some(.cells cs 155(0,0))):v.ownBlock≠some K:=by
 intro e;rcases h.2 with⟨rfl,_⟩ | ⟨g,cap,cur,rfl,_,hg,_⟩
 ·simp [Value.ownBlock] at e
 ·simp only [Value.ownBlock,Option.some.injEq] at e;subst e;rw [hK] at hg;simp only [Option.some.injEq,Obj.cells.injEq] at hg;exact absurd hg.2.1(by decide)
theorem zAO{xs xb:Int}(h:¬Nil xs xb):(xs == 0)=false\/(xs == 0)=true/\(xb == 0)=false:=by
 by_cases h0:xs=0
 ·right;refine⟨by simp [h0],?_⟩;have:xb≠0:=fun h'=>h ⟨h0,h'⟩
  simp [this]
 ·left;simp [h0]
theorem zOD(p:zJ):zF9 p 2 one:=by
 intro v lo hi xs xb w hs hP;obtain⟨_,a,c,rfl,_⟩:=id hs;have ha:=zC w(.cells #[.int .i64 xs,.int .i64 xb] 61);obtain⟨⟨x0,x1⟩,⟨x2,x3⟩⟩:=zc.zRL w(.int .i64 xs)(.int .i64 xb) 61;have aA:=World.ownsRow_lit(e:=61)(size:=2)(base:=w.heap.size)(w.alloc(.cells #[.int .i64 xs,.int .i64 xb] 61)) #[.int .i64 xs,.int .i64 xb] 1(by simp)(by unfold maxLen;omega) rfl;rw [World.size_alloc] at aA;have bA:=zE aA;have HB:=zE(zA ha(zC _(.cells #[.int .i64 xs,.int .i64 xb] 61)));clear aA;by_cases hn:Nil xs xb
 ·have HN:=zE hn;obtain⟨rfl,rfl⟩:=hn;go_enter Tryz.func197,Tryz.ntmps197;go_wp2;go_ret;exact⟨_,rfl,by rw [show one 0 0 = [] from if_pos HN.out];exact World.ownsRow_nil _ _ _ _,ha⟩
 ·have HN:=zE hn;have e0:=zAO hn;clear hn;rcases e0 with e0 | ⟨e0,e1⟩
  all_goals
   go_enter Tryz.func197,Tryz.ntmps197;go_wp2;go_ret;exact⟨_,rfl,by rw [show one xs xb = [(xs,xb)] from if_neg HN.out];exact bA.out,HB.out⟩
theorem zJm(p:zJ)(L:Int)(F:Int->Int->List(Int×Int))(hR:zv p)(hL:0<=L/\L<2)(hF:∀a b,(F a b).length<=9)(iA:zF9 p(L+1) F):zF9 p L(zGv p F):=by
 intro v lo hi xs xb w hs hP;have Hs:=zE hs;obtain⟨_,a,c,rfl,_⟩:=id hs;have ha:=zC w(.cells #[.int .i64 xs,.int .i64 xb] 61);obtain⟨⟨x0,x1⟩,⟨x2,x3⟩⟩:=zc.zRL w(.int .i64 xs)(.int .i64 xb) 61;have tB:(L == 2)=false:=by simp;omega
 clear hs;by_cases hn:Nil xs xb
 ·have HN:=zE hn;obtain⟨rfl,rfl⟩:=hn;go_enter Tryz.func197,Tryz.ntmps197;go_wp2;go_ret;exact⟨_,rfl,by rw [show zGv p F 0 0 = [] from if_pos HN.out];exact World.ownsRow_nil _ _ _ _,ha⟩
 ·have HN:=zE hn;have e0:=zAO hn;have oA:zr p xs xb:=hP.resolve_left hn;have Hf:=zE(qV hR oA);have tA:=zE iA;have HF:=zE hF;obtain⟨k,rfl⟩:=Int.eq_ofNat_of_zero_le oA.2.1;rw [Int.toNat_natCast] at Hf;have hk:k<p.n:=(by have:=oA.2.2.1;omega);have rB:(k:Int)<(p.n:Int):=(by omega);clear hn hP oA iA hR hF;have fA:=World.ownsRow_lit(e:=61)(size:=2)(base:=w.heap.size+1)(w.alloc(.cells #[.int .i64(k:Int),.int .i64 xb] 61)) #[.int .i64(k:Int),.int .i64 xb] 1(by simp)(by unfold maxLen;omega) rfl;rw [World.size_alloc] at fA;have mA:=zE fA;have rA:=zC(w.alloc(.cells #[.int .i64(k:Int),.int .i64 xb] 61))(.cells #[.int .i64(k:Int),.int .i64 xb] 61);have pA:=zA ha rA;have gB:=(zc.zRL w(.int .i64(k:Int))(.int .i64 xb) 61).zRJ rA;clear x0 x1 x2 x3 fA ha rA;obtain⟨⟨x0,x1⟩,⟨x2,x3⟩⟩:=gB;obtain⟨b,off,ka,kc,rfl,hsc⟩:=(Hs.out.zRJ pA).cells hk;have HC:=zE hsc;obtain⟨q0,q1,q2,_⟩:=hsc;obtain⟨y0,y1⟩:=(zc.zRL w(.int .i64(k:Int))(.int .i64 xb) 61).1;obtain⟨y2,y3⟩:=(zc.zRL w(.int .i64(k:Int))(.int .i64 xb) 61).2;rcases e0 with e0 | ⟨e0,e1⟩
  all_goals
   go_enter Tryz.func197,Tryz.ntmps197;go_wp2_with fail;refine(zDh _ _ _ lo hi(p.s k) _ HC.out.slot(zEl Hf.out)).mono ?_;rintro e w1 ⟨rfl,hb1⟩;have cB:=zA pA hb1;have dA:=mA.out.kept(zBV hb1 none)(Or.inr(by simp [Value.ownBlock]));have sA:Hid((Tryz.prog.info? 155).map(·.size)=some(qD(p.s k)).size):=by
    show _=_;rw [qD,qB];exact zBv
   have kA:(w1.alloc(.cells(qD(p.s k)) 155)).heap[w1.heap.size]?=some(.cells(qD(p.s k)) 155(0,0)):=heap_alloc_last _ _;have HK:=zE kA;have vA:=zE(dA.alloc(.cells(qD(p.s k)) 155));have iB:=zA cB(zC w1(.cells(qD(p.s k)) 155));have pB:w.heap.size+2<=w1.heap.size:=(by have:=hb1.size;rw [World.size_alloc,World.size_alloc] at this;omega);obtain⟨i0,hi0,hzz⟩:=Option.map_eq_some_iff.1 zCR;simp only [Prod.mk.injEq] at hzz;have HT:=zE(And.intro hi0 hzz);clear hb1 cB dA kA pA x0 x1 x2 x3 y0 y1 y2 y3 q0 q1 q2 HC mA hi0 hzz;go_wp2_with(first
    |(refine wpList_store_row rfl 155(.tmp 8)(.tmp 23) rfl w1.heap.size(qD(p.s k)) rfl rfl 155 #[Value.int .i64 0,Value.int .i64 0,Value.int .i64 0,Value.int .i64 0,Value.int .i64 0,Value.int .i64 0,Value.int .i64 0,Value.int .i64 0,Value.int .i64 0,Value.int .i64 0,Value.int .i64 0,Value.int .i64 0,Value.int .i64 0,Value.int .i64 0,Value.int .i64 0,Value.int .i64 0](heap_alloc_last _ _) sA.out(by rw [qD,qB];rfl)(zAs _) ?_;rw [World.setRow_alloc_new]))
   go_loopw [7,24](fun o i wr=>∃(j:Nat)(oa:Option Addr)(oc:Nat),j<=8/\i = .int .i64 j/\o = .slice oa(((k:Int),xb) :: zBG F(p.s k) j).length oc/\wr.ownsRow(w.heap.size+1) 61 2 o(((k:Int),xb) :: zBG F(p.s k) j).length(pcl(((k:Int),xb) :: zBG F(p.s k) j))/\wr.heap[w1.heap.size]?=some(.cells(qD(p.s k)) 155(0,0))/\Below w.heap.size w wr)(fun _ i _=>8 - (intOf i).toNat)
   case atStart=>exact⟨0,_,_,Nat.zero_le _,rfl,rfl,vA.out,HK.out,iB⟩
   case round=>
    obtain⟨j,oa,oc,hj,rfl,rfl,hown,hK,hb⟩:=hrel;have eA:=zE hown;have nA:=zE hK;have aB:w1.heap.size<wr.heap.size:=(Array.getElem?_eq_some_iff.1 hK).1;have fB:=zJi HF.out(p.s k) j;clear hown hK;by_cases jB:j<8
    ·have nB:(j:Int)<8:=(by omega);obtain⟨y0,y1⟩:=zI(i:=j*2) nA.out(yO(zk(p.s k))(by omega));obtain⟨y2,y3⟩:=zI(i:=j*2+1) nA.out(yO(zk(p.s k))(by omega));have mB:Hid(Nil(zk(p.s k)(j*2))(zk(p.s k)(j*2+1))\/zr p(zk(p.s k)(j*2))(zk(p.s k)(j*2+1))):=by
      by_cases hn:Nil(zb(p.s k) j)(zu(p.s k) j)
      ·exact Or.inl hn
      ·exact Or.inr(zAi Hf.out jB hn).1
     go_wp2_with fail;refine(tA.out _ lo hi(zk(p.s k)(j*2))(zk(p.s k)(j*2+1)) _(Hs.out.zRJ hb) mB.out).mono ?_;rintro e w2 ⟨v2,rfl,hown2,hb2⟩;obtain⟨na,nc,rfl,_⟩:=zW hown2;have sB:=HF.out(zk(p.s k)(j*2))(zk(p.s k)(j*2+1));have lA:=zE hown2;have cA:=zE(eA.out.kept(zBV hb2 none)(by cases hv:(Value.slice oa(((k:Int),xb) :: zBG F(p.s k) j).length oc).ownBlock<;>simp));have eB:=zE((hb2.block _ aB).trans nA.out);have dB:=zA hb hb2;have vB:=hb2.size;clear hown2 hb2 y0 y1 y2 y3 eA nA;go_wp2_with(first
      |(at_builtin;refine qJ rfl _ _ 62 rfl(w.heap.size+1) 61 i0(.agg #[.int .i64 0,.int .i64 0]) 2 16(by kernel_rfl) HT.out.1 HT.out.2.1 HT.out.2.2.1 HT.out.2.2.2 rfl(by decide)(.slice oa(((k:Int),xb) :: zBG F(p.s k) j).length oc)(((k:Int),xb) :: zBG F(p.s k) j).length(pcl(((k:Int),xb) :: zBG F(p.s k) j)) rfl ?c0 na(F(zk(p.s k)(j*2))(zk(p.s k)(j*2+1))).length nc(pcl(F(zk(p.s k)(j*2))(zk(p.s k)(j*2+1)))) rfl(zA5 _)(zF4 _) ?c1 ?c3 ?c4 ?c5 ?_))
     case c0=>exact cA.out
     case c1=>
      intro h0;obtain⟨g,cap,e,_,_,_,hcell⟩:=qf lA.out h0;simp only [Value.slice.injEq,true_and] at e;exact⟨g,0,e.1,fun j u hj=>by rw [Nat.zero_add];exact(hcell j u hj).1⟩
     case c3=>rw [List.length_cons];unfold maxLen;omega
     case c4=>rw [List.length_cons];omega
     case c5=>omega
     intro v3 w3 bA aA _;have gA:((k:Int),xb) :: zBG F(p.s k)(j+1)=(((k:Int),xb) :: zBG F(p.s k) j) ++ F(zk(p.s k)(j*2))(zk(p.s k)(j*2+1)):=rfl;have bB:(zBG F(p.s k) j).length+1+(F(zk(p.s k)(j*2))(zk(p.s k)(j*2+1))).length=(((k:Int),xb) :: zBG F(p.s k)(j+1)).length:=(by rw [gA,List.length_append,List.length_cons]);rw [<-zA9,<-gA,bB] at bA;have kB:=zE((aA.block _(by omega)(fun e=>zL9 cA.out eB.out e.symm)).trans eB.out);have lB:=dB.grown aA dB.size(fun q hq=>by have:=cA.out.lt q hq;omega);obtain⟨oB,oc3,rfl,_⟩:=zW bA;have jA:=zE bA;clear bA aA gA bB;go_wp2;go_roundw
     case rel=>exact⟨j+1,oB,oc3,by omega,by go_num,rfl,jA.out,kB.out,lB⟩
     case measure=>simp [intOf];omega
    ·obtain rfl:j=8:=(by omega);go_wp2;go_ret;refine⟨_,rfl,?_,hb⟩;rw [show zGv p F(k:Int) xb=((k:Int),xb) :: zBG F(p.s k) 8 by unfold zGv;rw [if_neg HN.out,Int.toNat_natCast]];exact zER eA.out(by omega)
theorem zNx(p:zJ)(hR:zv p):zF9 p 1(zEu p):=by
 have h:=zJm p 1 one hR(by omega)(fun a b=>by unfold one;split<;>simp)(zOD p);have e:zGv p one=zEu p:=by
  funext xs xb;unfold zGv zEu zNA;rw [zJV]
 rw [e] at h;exact h
theorem zJG(p:zJ)(hR:zv p):zF9 p 0(zT p):=by
 have h:=zJm p 0(zEu p) hR(by omega)(zMC p)(zNx p hR);have e:zGv p(zEu p)=zT p:=by
  funext xs xb;unfold zGv zT;rw [zJc]
 rw [e] at h;exact h
def zOG(n:Nat)(f g:Nat->Int)(x y:Int):Prop:=∃j,j<n/\f j=x/\g j=y
theorem zR.cellsT{w:World}{lo hi:Nat}{a:Option Addr}{n c:Nat}{f g:Nat->Int}(h:zR w lo hi(.slice a n c) n f g){k:Nat}(hk:k<n):∃b off,a=some ⟨b,off,none⟩/\w.cell? ⟨b,off+k*2,none⟩=some(.int .i64(f k))/\w.cell? ⟨b,off+k*2+1,none⟩=some(.int .i64(g k)):=by
 obtain⟨_,a2,c2,hv,_,hx⟩:=h;simp only [Value.slice.injEq,true_and] at hv;obtain⟨rfl,rfl⟩:=hv;obtain⟨b,off,ha,_,_,h3⟩:=hx(by omega);exact⟨b,off,ha,(h3 k hk).1,(h3 k hk).2⟩
theorem zR.take{w:World}{lo hi:Nat}{a:Option Addr}{n c m c':Nat}{f g:Nat->Int}(h:zR w lo hi(.slice a n c) n f g)(hm:m<=n)(hc:m<=c'):zR w lo hi(.slice a m c') m f g:=by
 obtain⟨h0,a2,c2,hv,_,hx⟩:=h;simp only [Value.slice.injEq,true_and] at hv;obtain⟨rfl,rfl⟩:=hv;refine⟨by omega,_,c',rfl,hc,fun h1=>?_⟩;obtain⟨b,off,ha,hl,hh,h3⟩:=hx(by omega);exact⟨b,off,ha,hl,hh,fun i hi=>h3 i(by omega)⟩
theorem zKx(v:Value)(n lo hi:Nat)(f g:Nat->Int)(x y:Int)(w:World)(h1:zR w lo hi v n f g) :
  Calls Tryz.prog 228 #[v,.agg #[.int .i64 x,.int .i64 y]] w fun e w'=>(∃r:Int,e = .returned(.int .i64 r)/\(0<=r↔zOG n f g x y))/\Below w.heap.size w w':=by
 have Hp:=zE h1;obtain⟨m1,a,c,rfl,mc,_⟩:=id h1;unfold maxLen at m1;clear h1;have ha:=zC w(.cells #[.int .i64 x,.int .i64 y] 61);have HB:=zE(zc.zRL w(.int .i64 x)(.int .i64 y) 61);go_enter Tryz.func228,Tryz.ntmps228;go_wp2
 go_loopw [8](fun i wr=>∃k:Nat,k<=n/\i = .int .i64 k/\¬zOG k f g x y/\zc wr w.heap.size(.int .i64 x)(.int .i64 y)/\Below w.heap.size w wr)(fun i _=>n - (intOf i).toNat)
 case atStart=>exact⟨0,Nat.zero_le _,rfl,fun ⟨j,hj,_⟩=>absurd hj(Nat.not_lt_zero _),HB.out,ha⟩
 case round=>
  obtain⟨k,hk,rfl,hno,hX,hb⟩:=hrel;have aA:=zE hno;have HX:=zE hX;clear hno hX;obtain⟨⟨x0,x1⟩,⟨x2,x3⟩⟩:=HX.out;by_cases bA:k<n
  ·have cA:(k:Int)<(n:Int):=(by omega);obtain⟨b,off,rfl,q0,q1⟩:=(Hp.out.zRJ hb).cellsT bA;by_cases he:x=f k/\y=g k
   ·have H:=zE(show zOG n f g x y from⟨k,bA,he.1.symm,he.2.symm⟩);rw [<-he.1] at q0;rw [<-he.2] at q1;clear he;go_wp2
    go_quiet(fail)
    go_wp2;go_ret;exact⟨⟨_,rfl,⟨fun _=>H.out,fun _=>Int.natCast_nonneg _⟩⟩,zg hb _⟩
   ·have H:=zE he;have e0:(x == f k)=false\/(x == f k)=true/\(y == g k)=false:=by
     by_cases h:x=f k
     ·right;refine⟨by simp [h],?_⟩;have:y≠g k:=fun h'=>he ⟨h,h'⟩
      simp [this]
     ·left;simp [h]
    clear he;rcases e0 with e0 | ⟨e0,e1⟩
    all_goals
     go_wp2
     go_quiet(fail)
     go_wp2;go_roundw
     case rel=>
      refine⟨k+1,by omega,by go_num,?_,HX.out.zRJ(zg(Below.refl _ _) _),zg hb _⟩;rintro⟨j,hj,hjx⟩;by_cases e:j=k
      ·subst e;exact H.out ⟨hjx.1.symm,hjx.2.symm⟩
      ·exact aA.out ⟨j,by omega,hjx⟩
     case measure=>simp [intOf];omega
  ·obtain rfl:k=n:=(by omega);go_wp2;go_ret;exact⟨⟨-1,rfl,⟨fun h=>absurd h(by omega),fun h=>absurd h aA.out⟩⟩,hb⟩
theorem zDt(v:Value)(n lo hi:Nat)(f g:Nat->Int)(x y:Int)(w:World)(h1:zR w lo hi v n f g) :
  Calls Tryz.prog 220 #[v,.agg #[.int .i64 x,.int .i64 y]] w fun e w'=>zG(zOG n f g x y) e/\Below w.heap.size w w':=by
 have Hi:=zE h1;obtain⟨m1,a,c,rfl,mc,_⟩:=id h1;clear h1;have ha:=zC w(.cells #[.int .i64 x,.int .i64 y] 61);go_enter Tryz.func220,Tryz.ntmps220;go_wp2_with fail;refine(zKx _ n lo hi f g x y _(Hi.out.zRJ ha)).mono ?_;rintro e w' ⟨⟨r,rfl,hr⟩,hb⟩;have Hr:=zE hr;have hB:=zA ha hb;clear hr hb;go_wp2;go_ret;exact⟨⟨_,rfl,by simpa using Hr.out⟩,hB⟩
def zMH(p:zJ)(n:Nat)(f g:Nat->Int):Prop:=∀i,i<n->¬zOG i f g(f i)(g i)/\¬Has p.hn p.h(f i)
theorem zOQ(v0 v1 v:Value)(lo hi lo' hi' n:Nat)(p:zJ)(f g:Nat->Int)(w:World)(h1:zy w lo hi v0 v1 p)(h2:zR w lo' hi' v n f g) :
    Calls Tryz.prog 196 #[.agg #[v0,v1],v] w fun e w'=>zG(zMH p n f g) e/\Below w.heap.size w w':=by
  have Hp:=zE h1;have Hl:=zE h2;obtain⟨a,c,a',c',rfl,rfl⟩:∃a c a' c',v0 = .slice a p.n c/\v1 = .slice a' p.hn c':=by
    obtain⟨⟨_,a,c,h1,_⟩,⟨_,a',c',h3,_⟩⟩:=h1;exact⟨a,c,a',c',h1,h3⟩
  obtain⟨m1,la,lc,rfl,mc,_⟩:=id h2;unfold maxLen at m1;clear h1 h2;have ha:=zC w(.cells #[.slice a p.n c,.slice a' p.hn c'] 33);have HB:=zE(zc.zRL w(.slice a p.n c)(.slice a' p.hn c') 33);go_enter Tryz.func196,Tryz.ntmps196;go_wp2
  go_loopw [9](fun i wr=>∃k:Nat,k<=n/\i = .int .i64 k/\zMH p k f g/\zc wr w.heap.size(.slice a p.n c)(.slice a' p.hn c')/\Below w.heap.size w wr)(fun i _=>n - (intOf i).toNat)
  case atStart=>exact⟨0,Nat.zero_le _,rfl,fun j hj=>absurd hj(Nat.not_lt_zero _),HB.out,ha⟩
  case round=>
    obtain⟨k,hk,rfl,hall,hX,hb⟩:=hrel;have dA:=zE hall;have HX:=zE hX;clear hall hX;by_cases fA:k<n
    · have lA:(k:Int)<(n:Int):=by omega
      have oA:(k:Int)<=(lc:Int):=(by omega);obtain⟨b,off,rfl,q0,q1⟩:=(Hl.out.zRJ hb).cellsT fA;have iA:=zC wr(.cells #[.int .i64(f k),.int .i64(g k)] 61);have bA:=zE(HX.out.zRJ iA);have HV:=zE(zc.zRL wr(.int .i64(f k))(.int .i64(g k)) 61);have cA:=zA hb iA;have nA:w.heap.size<wr.heap.size:=HX.out.1.lt;have mA:(wr.alloc(.cells #[.int .i64(f k),.int .i64(g k)] 61)).heap.size=wr.heap.size+1:=World.size_alloc _ _;go_upto_region 4 with fail;generalize wr.alloc(.cells #[.int .i64(f k),.int .i64(g k)] 61)=wx at bA HV cA mA ⊢;clear q0 q1 iA HX;have eA:=zE((Hl.out.zRJ cA).take(m:=k)(c':=lc)(by omega)(by omega));obtain⟨⟨x0,x1⟩,⟨x2,x3⟩⟩:=bA.out;obtain⟨⟨y0,y1⟩,⟨y2,y3⟩⟩:=HV.out;by_cases hh:zOG k f g(f k)(g k)
      · have HH:=zE hh
        clear hh
        first
          |(go_region_with(first
              |(go_at_call 220
                 refine(zDt _ k lo' hi' f g(f k)(g k) _ ?_).mono ?_
                 (first | exact eA.out | exact eA.out.zRJ(Below.refl _ _).drew)
                 rintro e w2 ⟨⟨t2,rfl,ht2⟩,hb2⟩;obtain rfl:t2=true:=ht2.2 HH.out;clear ht2;have aA:Below wx.heap.size wx w2:=(by first | exact hb2 | exact zK hb2);obtain⟨⟨k0,_⟩,⟨k1,_⟩⟩:=bA.out.zRJ aA;obtain⟨⟨k2,_⟩,⟨k3,_⟩⟩:=HV.out.zRJ aA)))
          |fail
        all_goals
          have gA:=zA cA aA;go_wp2;go_ret;exact⟨zG.no fun h=>(h k fA).1 HH.out,gA⟩
      · have HH:=zE hh
        clear hh;go_region_held3(fun w'=>w'.cell? ⟨w.heap.size,0,none⟩=some(.slice a p.n c)/\w'.cell? ⟨w.heap.size,1,none⟩=some(.slice a' p.hn c')/\w'.cell? ⟨wr.heap.size,0,none⟩=some(.int .i64(f k))/\w'.cell? ⟨wr.heap.size,1,none⟩=some(.int .i64(g k)))(go_keep)
          (first
            |(go_at_call 220
               refine(zDt _ k lo' hi' f g(f k)(g k) _ ?_).mono ?_
               (first | exact eA.out | exact eA.out.zRJ(Below.refl _ _).drew)
               rintro e w2 ⟨⟨t2,rfl,ht2⟩,hb2⟩;obtain rfl:t2=false:=zQ ht2 HH.out;clear ht2;have aA:Below wx.heap.size wx w2:=(by first | exact hb2 | exact zK hb2);obtain⟨⟨k0,_⟩,⟨k1,_⟩⟩:=bA.out.zRJ aA;obtain⟨⟨k2,_⟩,⟨k3,_⟩⟩:=HV.out.zRJ aA)
            |(go_at_call 192
               refine(zCE _ p.hn lo hi p.h(f k) _ ?_).mono ?_;exact(Hp.out.2.zRJ(zA cA aA));rintro e w3 ⟨⟨t3,rfl,ht3⟩,rfl⟩))
        have gA:=zA cA aA;have kA:=zE(bA.out.zRJ aA);have jA:=zE ht3;clear ht3 aA hb2 x0 x1 x2 x3 y0 y1 y2 y3 k0 k1 k2 k3;cases t3
        · go_wp2
          go_roundw
          case rel=>exact⟨k+1,by omega,by go_num,zo(n:=n) fA dA.out ⟨HH.out,fun h=>absurd(jA.out.2 h)(by simp)⟩,kA.out,gA⟩
          case measure=>simp [intOf];omega
        · go_wp2
          go_ret;exact⟨zG.no fun h=>(h k fA).2(jA.out.1 trivial),gA⟩
    · obtain rfl:k=n:=by omega
      go_wp2;go_ret;exact⟨zG.yes dA.out,hb⟩
theorem zPI{w:World}{base:Nat}{v:Value}{l:List(Int×Int)}(hm:l.length<=maxLen)(h:w.ownsRow base 61 2 v l.length(pcl l)):zR w 0 w.heap.size v l.length(fun i=>(l.getD i(0,0)).1)(fun i=>(l.getD i(0,0)).2):=by
  by_cases h0:0<l.length
  · obtain⟨g,cap,rfl,hcp,hb,hlt,hcell⟩:=qf h h0
    refine⟨hm,_,cap,rfl,hcp,fun _=>⟨g,0,rfl,Nat.zero_le _,hlt,fun i hi=>?_⟩⟩;have get:∀(l:List(Int×Int)) i,i<l.length->(pcl l)[i*2]?=some(.int .i64(l.getD i(0,0)).1)/\(pcl l)[i*2+1]?=some(.int .i64(l.getD i(0,0)).2):=by
      intro l
      induction l with
      |nil=>intro i hi;simp at hi
      |cons x l ih=>
        intro i hi;cases i with
        |zero=>exact⟨rfl,rfl⟩
        |succ i=>
          have:=ih i(by simpa using hi);rw [show(i+1)*2=i*2+1+1 by omega];simpa [pcl] using this
    rw [Nat.zero_add];exact⟨(hcell _ _(get l i hi).1).1,(hcell _ _(get l i hi).2).1⟩
  · obtain⟨a,cap,rfl,hcp⟩:=zW h
    exact⟨hm,a,cap,rfl,hcp,fun h=>absurd h h0⟩
theorem zMu(p:zJ)(l:List(Int×Int)):zMH p l.length(fun i=>(l.getD i(0,0)).1)(fun i=>(l.getD i(0,0)).2)↔zPp p l:=by
  have aA:∀i(h:i<l.length),l.getD i(0,0)=l[i]:=fun i h=>by rw [List.getD_eq_getElem?_getD,List.getElem?_eq_getElem h,Option.getD_some]
  constructor
  · intro h
    refine⟨?_,fun x hx=>?_⟩
    · rw [List.Nodup,List.pairwise_iff_getElem]
      intro i j hi hj bA e;refine(h j hj).1 ⟨i,bA,?_,?_⟩
      · show(l.getD i(0,0)).1=(l.getD j(0,0)).1
        rw [aA i hi,aA j hj,e]
      · show(l.getD i(0,0)).2=(l.getD j(0,0)).2
        rw [aA i hi,aA j hj,e]
    · obtain⟨i,hi,rfl⟩:=List.getElem_of_mem hx
      have:=(h i hi).2;simp only [aA i hi] at this;exact this
  · rintro⟨h1,h2⟩ i hi
    refine⟨?_,?_⟩
    · rintro⟨j,hj,e1,e2⟩
      simp only [aA i hi,aA j(by omega)] at e1 e2;rw [List.Nodup,List.pairwise_iff_getElem] at h1;exact h1 j i(by omega) hi hj(Prod.ext e1 e2)
    · simp only [aA i hi]
      exact h2 _(List.getElem_mem hi)
theorem zE5(v0 v1:Value)(lo hi:Nat)(p:zJ)(xs xb:Int)(w:World)(h1:zy w lo hi v0 v1 p)(hR:zv p) :
    Calls Tryz.prog 155 #[.agg #[v0,v1],.agg #[.int .i64 xs,.int .i64 xb]] w fun e w'=>zG(zJ4 p xs xb) e/\Below w.heap.size w w':=by
  have Hp:=zE h1;have HR:=zE hR;obtain⟨a,c,a',c',rfl,rfl⟩:∃a c a' c',v0 = .slice a p.n c/\v1 = .slice a' p.hn c':=by
    obtain⟨⟨_,a,c,h1,_⟩,⟨_,a',c',h3,_⟩⟩:=h1;exact⟨a,c,a',c',h1,h3⟩
  clear h1 hR;have jA:=zBx w(.slice a p.n c)(.slice a' p.hn c')(.int .i64 xs)(.int .i64 xb) 33 61;by_cases hn:Nil xs xb
  · have HN:=zE hn
    obtain⟨rfl,rfl⟩:=hn;obtain⟨_,_,hba,_⟩:=jA;go_enter Tryz.func155,Tryz.ntmps155;go_wp2;go_ret;exact⟨zG.yes(Or.inl HN.out),hba⟩
  · have HN:=zE hn
    have e0:=zAO hn;clear hn;have dA:Hid(∀t:Bool,(t=true↔zr p xs xb/\zKb p(p.s xs.toNat)/\zPp p(zT p xs xb))->zG(zJ4 p xs xb)(.returned(.bool t))):=fun t ht=>⟨t,rfl,ht.trans ⟨fun h=>Or.inr h,fun h=>h.resolve_left HN.out⟩⟩
    go_enter Tryz.func155,Tryz.ntmps155;go_upto_region 1 with fail;generalize(w.alloc(.cells #[.slice a p.n c,.slice a' p.hn c'] 33)).alloc(.cells #[.int .i64 xs,.int .i64 xb] 61)=W at jA ⊢;obtain⟨hB,hX,hba,hz⟩:=jA;have HB:=zE hB;have HX:=zE hX;clear hB hX
    go_cut [7](fun v wc=>v = .bool false/\W=wc)
    case first=>
      obtain⟨⟨y0,y1⟩,⟨y2,y3⟩⟩:=HX.out;rcases e0 with e0 | ⟨e0,e1⟩
      all_goals
        go_wp2_with fail
        go_meet
        case rel=>exact⟨rfl,rfl⟩
    case rest=>
      obtain⟨rfl,rfl⟩:=hcut;clear e0;obtain⟨⟨x0,x1⟩,⟨x2,x3⟩⟩:=HB.out;obtain⟨⟨y0,y1⟩,⟨y2,y3⟩⟩:=HX.out;go_upto_region 3 with fail;by_cases hP:zr p xs xb
      · have HP:=zE hP
        clear hP;by_cases gA:zKb p(p.s xs.toNat)
        · have eA:=zE gA
          clear gA;go_region_held3(fun w'=>w'.cell? ⟨w.heap.size,0,none⟩=some(.slice a p.n c)/\w'.cell? ⟨w.heap.size,1,none⟩=some(.slice a' p.hn c')/\w'.cell? ⟨w.heap.size+1,0,none⟩=some(.int .i64 xs)/\w'.cell? ⟨w.heap.size+1,1,none⟩=some(.int .i64 xb))(go_keep)
            (first
              |(go_at_call 191
                 refine(zEf _ p.n lo hi p.s xs xb _ ?_).mono ?_
                 (first | exact Hp.out.1.zRJ hba | exact Hp.out.1.zRJ hba.drew)
                 rintro e w1 ⟨⟨t1,rfl,ht1⟩,hb1⟩;rw [zEj HR.out] at ht1;obtain rfl:t1=true:=ht1.2 HP.out;clear ht1;have aA:Below W.heap.size W w1:=(by first | exact hb1 | exact zK hb1);obtain⟨⟨k0,_⟩,⟨k1,_⟩⟩:=HB.out.zRJ aA;obtain⟨⟨k2,_⟩,⟨k3,_⟩⟩:=HX.out.zRJ aA)
              |(go_at_call 195
                 refine(zIX p HR.out _ lo hi xs xb _ ?_ HP.out).mono ?_;exact Hp.out.1.zRJ(zA hba aA);rintro e w2 ⟨⟨t2,rfl,ht2⟩,hb2⟩;obtain rfl:t2=true:=ht2.2 eA.out;clear ht2;have cA:=zA aA hb2;obtain⟨⟨l0,_⟩,⟨l1,_⟩⟩:=HB.out.zRJ cA;obtain⟨⟨l2,_⟩,⟨l3,_⟩⟩:=HX.out.zRJ cA)
              |(go_at_call 197
                 refine(zJG p HR.out _ lo hi xs xb _ ?_(Or.inr HP.out)).mono ?_;exact Hp.out.1.zRJ(zA hba cA);rintro e w3 ⟨v3,rfl,hrow3,hb3⟩;obtain⟨na,nc,rfl,_⟩:=zW hrow3;have iA:=zA cA hb3;have lA:=zPI(by have:=qM p xs xb;unfold maxLen;omega) hrow3;obtain⟨⟨m0,_⟩,⟨m1,_⟩⟩:=HB.out.zRJ iA;obtain⟨⟨m2,_⟩,⟨m3,_⟩⟩:=HX.out.zRJ iA)
              |(go_at_call 196
                 refine(zOQ _ _ _ lo hi 0 w3.heap.size _ p _ _ _ ?_ lA).mono ?_;exact Hp.out.zRJ(zA hba iA);rintro e w4 ⟨⟨t4,rfl,ht4⟩,hb4⟩;rw [zMu] at ht4;have kA:=zA iA hb4;obtain⟨⟨n0,_⟩,⟨n1,_⟩⟩:=HB.out.zRJ kA;obtain⟨⟨n2,_⟩,⟨n3,_⟩⟩:=HX.out.zRJ kA))
          have fA:=zA hba kA;have HT:=zE ht4;clear ht4;go_wp2;go_ret;exact⟨dA.out t4(HT.out.trans ⟨fun h=>⟨HP.out,eA.out,h⟩,fun h=>h.2.2⟩),fA⟩
        · have eA:=zE gA
          clear gA;refine wp_region_held_drew(S:=(fun w'=>w'.cell? ⟨w.heap.size,0,none⟩=some(.slice a p.n c)/\w'.cell? ⟨w.heap.size,1,none⟩=some(.slice a' p.hn c')/\w'.cell? ⟨w.heap.size+1,0,none⟩=some(.int .i64 xs)/\w'.cell? ⟨w.heap.size+1,1,none⟩=some(.int .i64 xb)))(by kernel_rfl) ?_(fun hHeld=>?_)
          · (try dsimp only)
            go_keep
          refine tk 0(h:=tk 1(h:=tk 2(h:=?_)));refine rd [3](rc(fun K hK=>?_) .nil);go_simp;go_at_call 191;refine(zEf _ p.n lo hi p.s xs xb _ ?_).mono ?_
          · first | exact Hp.out.1.zRJ hba | exact Hp.out.1.zRJ hba.drew
          rintro e w1 ⟨⟨t1,rfl,ht1⟩,hb1⟩;rw [zEj HR.out] at ht1;obtain rfl:t1=true:=ht1.2 HP.out;clear ht1;have aA:Below W.heap.size W w1:=(by first | exact hb1 | exact zK hb1);obtain⟨⟨k0,_⟩,⟨k1,_⟩⟩:=HB.out.zRJ aA;obtain⟨⟨k2,_⟩,⟨k3,_⟩⟩:=HX.out.zRJ aA
          (try go_wp2_with fail)
          refine hK.out _ _(by(try dsimp only);go_keep) ?_;clear hK K hHeld;intro hHeld
          try simp only [Act.put,s1,s2,s3]
          refine tk 4(h:=tk 5(h:=tk 6(h:=tk 7(h:=?_))));refine rd [8](rc(fun K hK=>?_) .nil);go_simp;go_at_call 195;refine(zIX p HR.out _ lo hi xs xb _ ?_ HP.out).mono ?_
          · exact Hp.out.1.zRJ(zA hba aA)
          rintro e w2 ⟨⟨t2,rfl,ht2⟩,hb2⟩;obtain rfl:t2=false:=zQ ht2 eA.out;clear ht2;have cA:=zA aA hb2;obtain⟨⟨l0,_⟩,⟨l1,_⟩⟩:=HB.out.zRJ cA;obtain⟨⟨l2,_⟩,⟨l3,_⟩⟩:=HX.out.zRJ cA
          (try go_wp2_with fail)
          refine hK.out _ _(by(try dsimp only);go_keep) ?_;clear hK K hHeld;intro hHeld
          try simp only [Act.put,s1,s2,s3]
          refine tk 9(h:=tk 10(h:=ts 11(h:=ts 12(h:=ts 13(h:=ts 14(h:=?_))))));refine rd [15](rc(fun K hK=>?_) .nil);split
          · rename_i bA
            exact absurd(show false=true from bA) Bool.false_ne_true
          refine hK.out _ _(by assumption)(fun hHeld=>?_);clear hK K
          try simp only [Act.put,s1,s2,s3]
          refine rd [16](rc(fun K hK=>?_) .nil);split
          · rename_i bA
            exact absurd(show false=true from bA) Bool.false_ne_true
          refine hK.out _ _(by assumption)(fun hHeld=>?_);clear hK K
          try simp only [Act.put,s1,s2,s3]
          refine tk 17(h:=tk 18(h:=?_));refine wpAnyH_done(by kernel_rfl) ?_ _;have fA:=zA hba cA;go_wp2;go_ret;exact⟨dA.out false ⟨fun h=>(by cases h),fun h=>absurd h.2.1 eA.out⟩,fA⟩
      · have HP:=zE hP
        clear hP;refine wp_region_held_drew(S:=(fun w'=>w'.cell? ⟨w.heap.size,0,none⟩=some(.slice a p.n c)/\w'.cell? ⟨w.heap.size,1,none⟩=some(.slice a' p.hn c')/\w'.cell? ⟨w.heap.size+1,0,none⟩=some(.int .i64 xs)/\w'.cell? ⟨w.heap.size+1,1,none⟩=some(.int .i64 xb)))(by kernel_rfl) ?_(fun hHeld=>?_)
        · (try dsimp only)
          go_keep
        refine tk 0(h:=tk 1(h:=tk 2(h:=?_)));refine rd [3](rc(fun K hK=>?_) .nil);go_simp;go_at_call 191;refine(zEf _ p.n lo hi p.s xs xb _ ?_).mono ?_
        · first | exact Hp.out.1.zRJ hba | exact Hp.out.1.zRJ hba.drew
        rintro e w1 ⟨⟨t1,rfl,ht1⟩,hb1⟩;rw [zEj HR.out] at ht1;obtain rfl:t1=false:=zQ ht1 HP.out;clear ht1;have aA:Below W.heap.size W w1:=(by first | exact hb1 | exact zK hb1);obtain⟨⟨k0,_⟩,⟨k1,_⟩⟩:=HB.out.zRJ aA;obtain⟨⟨k2,_⟩,⟨k3,_⟩⟩:=HX.out.zRJ aA
        (try go_wp2_with fail)
        refine hK.out _ _(by(try dsimp only);go_keep) ?_;clear hK K hHeld;intro hHeld
        try simp only [Act.put,s1,s2,s3]
        refine tk 4(h:=ts 5(h:=ts 6(h:=ts 7(h:=?_))));refine rd [8](rc(fun K hK=>?_) .nil);split
        · rename_i bA
          exact absurd(show false=true from bA) Bool.false_ne_true
        refine hK.out _ _(by assumption)(fun hHeld=>?_);clear hK K
        try simp only [Act.put,s1,s2,s3]
        refine tk 9(h:=tk 10(h:=ts 11(h:=ts 12(h:=ts 13(h:=ts 14(h:=?_))))));refine rd [15](rc(fun K hK=>?_) .nil);split
        · rename_i bA
          exact absurd(show false=true from bA) Bool.false_ne_true
        refine hK.out _ _(by assumption)(fun hHeld=>?_);clear hK K
        try simp only [Act.put,s1,s2,s3]
        refine rd [16](rc(fun K hK=>?_) .nil);split
        · rename_i bA
          exact absurd(show false=true from bA) Bool.false_ne_true
        refine hK.out _ _(by assumption)(fun hHeld=>?_);clear hK K
        try simp only [Act.put,s1,s2,s3]
        refine tk 17(h:=tk 18(h:=?_));refine wpAnyH_done(by kernel_rfl) ?_ _;have fA:=zA hba aA;go_wp2;go_ret;exact⟨dA.out false ⟨fun h=>(by cases h),fun h=>absurd h.1 HP.out⟩,fA⟩
def icl(l:List Int):List Value:=l.map(Value.int .i64)
theorem zMq(l m:List Int):icl(l ++ m)=icl l ++ icl m:=by simp [icl]
theorem zF0{w:World}{base:Nat}{v:Value}{l:List Int}(hm:l.length<=maxLen)(h:w.ownsRow base 2 1 v l.length(icl l)):qT w 0 w.heap.size v l.length(fun i=>l.getD i 0):=by
 by_cases h0:0<l.length
 ·obtain⟨g,cap,rfl,hcp,hb,hlt,hcell⟩:=qf h h0;refine⟨hm,_,cap,rfl,hcp,fun _=>⟨g,0,rfl,Nat.zero_le _,hlt,fun i hi=>?_⟩⟩;rw [Nat.zero_add];refine(hcell i _ ?_).1;simp [icl,hi]
 ·obtain⟨a,cap,rfl,hcp⟩:=zW h;exact⟨hm,a,cap,rfl,hcp,fun h=>absurd h h0⟩
theorem zFj(l:List Int)(x:Int):Has l.length(fun i=>l.getD i 0) x↔x∈l:=by
 have aA:∀i(h:i<l.length),l.getD i 0=l[i]:=fun i h=>by rw [List.getD_eq_getElem?_getD,List.getElem?_eq_getElem h,Option.getD_some]
 constructor
 ·rintro⟨j,hj,e⟩;rw [<-e];show l.getD j 0∈l;rw [aA j hj];exact List.getElem_mem hj
 ·intro h;obtain⟨i,hi,rfl⟩:=List.getElem_of_mem h;exact⟨i,hi,aA i hi⟩
def zAL(p:zJ)(rs:Int)(s:zL)(j:Nat):List Int:=rs :: yK(zAv p s j)
def zBN(p:zJ)(rs:Int)(s:zL)(j i:Nat):List Int:=zAL p rs s j ++ (zb s j :: yK(kidsUp(zb(p.s(zb s j).toNat))(zu(p.s(zb s j).toNat)) i))
theorem zHe(p:zJ)(s:zL)(j:Nat):∀m,j<=m->∃r,zAv p s m=zAv p s j ++ r
 |0,h=>⟨[],by rw [show j=0 by omega];simp⟩
 |m+1,h=>by
  by_cases e:j=m+1
  ·subst e;exact⟨[],by simp⟩
  ·obtain⟨r,hr⟩:=zHe p s j m(by omega);exact⟨r ++ zEu p(zb s m)(zu s m),by rw [zAv,hr,List.append_assoc]⟩
theorem zGx(ks kb:Nat->Int)(j:Nat):∀m,j<=m->∃r,kidsUp ks kb m=kidsUp ks kb j ++ r
 |0,h=>⟨[],by rw [show j=0 by omega];simp⟩
 |m+1,h=>by
  by_cases e:j=m+1
  ·subst e;exact⟨[],by simp⟩
  ·obtain⟨r,hr⟩:=zGx ks kb j m(by omega);exact⟨r ++ one(ks m)(kb m),by rw [kidsUp,hr,List.append_assoc]⟩
theorem zA2(l m:List(Int×Int)):yK(l ++ m)=yK l ++ yK m:=by simp [yK]
theorem zDc{l:List Int}{x:Int}:(l ++ [x]).Nodup↔l.Nodup/\x∉l:=by
 rw [List.nodup_append];constructor
 ·rintro⟨h1,_,h3⟩;exact⟨h1,fun hx=>h3 x hx x(by simp) rfl⟩
 ·rintro⟨h1,h2⟩;refine⟨h1,by simp,fun a ha b hb e=>?_⟩;rw [List.mem_singleton] at hb;subst hb;subst e;exact h2 ha
theorem zH6{p:zJ}{rs rb:Int}(hz:¬Nil rs rb):yK(zT p rs rb)=zAL p rs(p.s rs.toNat) 8:=by
 unfold zT zAL;rw [if_neg hz];rfl
theorem zLk{p:zJ}{s:zL}{j:Nat}(hn:¬Nil(zb s j)(zu s j)):zEu p(zb s j)(zu s j)=(zb s j,zu s j) :: zNA(p.s(zb s j).toNat):=if_neg hn
theorem zEb{p:zJ}{rs:Int}{s:zL}{j:Nat}(hn:¬Nil(zb s j)(zu s j)):zAL p rs s(j+1)=zBN p rs s j 8:=by
 unfold zAL zBN zAL;rw [zAv,zA2,zLk hn];rfl
theorem zGj{p:zJ}{rs:Int}{s:zL}{j:Nat}(hn:Nil(zb s j)(zu s j)):zAL p rs s(j+1)=zAL p rs s j:=by
 unfold zAL;rw [zAv,show zEu p(zb s j)(zu s j) = [] from if_pos hn,List.append_nil]
theorem zGd(p:zJ)(rs:Int)(s:zL)(j:Nat):zBN p rs s j 0=zAL p rs s j ++ [zb s j]:=rfl
theorem zPc{p:zJ}{rs:Int}{s:zL}{j i:Nat}(hn:Nil(zb(p.s(zb s j).toNat) i)(zu(p.s(zb s j).toNat) i)):zBN p rs s j(i+1)=zBN p rs s j i:=by
 unfold zBN;rw [kidsUp,show one(zb(p.s(zb s j).toNat) i)(zu(p.s(zb s j).toNat) i) = [] from if_pos hn,List.append_nil]
theorem zPo{p:zJ}{rs:Int}{s:zL}{j i:Nat}(hn:¬Nil(zb(p.s(zb s j).toNat) i)(zu(p.s(zb s j).toNat) i)):zBN p rs s j(i+1)=zBN p rs s j i ++ [zb(p.s(zb s j).toNat) i]:=by
 unfold zBN;rw [kidsUp,show one(zb(p.s(zb s j).toNat) i)(zu(p.s(zb s j).toNat) i) = [(zb(p.s(zb s j).toNat) i,zu(p.s(zb s j).toNat) i)] from if_neg hn,zA2,List.append_assoc];rfl
theorem zLD(p:zJ)(rs:Int)(s:zL){j:Nat}(hj:j<=8):(zAL p rs s j).length<=73:=by
 have:=zEc p s j;simp only [zAL,yK,List.length_cons,List.length_map];omega
theorem zQA(p:zJ)(rs:Int)(s:zL){j i:Nat}(hj:j<=8)(hi:i<=8):(zBN p rs s j i).length<=90:=by
 have h1:=zLD p rs s hj;have h2:=zAh(zb(p.s(zb s j).toNat))(zu(p.s(zb s j).toNat)) i;simp only [zBN,yK,List.length_append,List.length_cons,List.length_map];omega
theorem zJM{p:zJ}{rs rb:Int}(hz:¬Nil rs rb)(h:(yK(zT p rs rb)).Nodup){j i:Nat}(hj:j<8)(hi:i<=8)(hn:¬Nil(zb(p.s rs.toNat) j)(zu(p.s rs.toNat) j)):(zBN p rs(p.s rs.toNat) j i).Nodup:=by
 rw [zH6 hz] at h;obtain⟨r,hr⟩:=zHe p(p.s rs.toNat)(j+1) 8(by omega);obtain⟨r2,hr2⟩:=zGx(zb(p.s(zb(p.s rs.toNat) j).toNat))(zu(p.s(zb(p.s rs.toNat) j).toNat)) i 8 hi;have e1:zAL p rs(p.s rs.toNat) 8=zAL p rs(p.s rs.toNat)(j+1) ++ yK r:=by unfold zAL;rw [hr,zA2];rfl
 have e2:zBN p rs(p.s rs.toNat) j 8=zBN p rs(p.s rs.toNat) j i ++ yK r2:=by
  unfold zBN;rw [hr2,zA2,List.append_assoc];rfl
 rw [e1,zEb hn,e2,List.append_assoc] at h;exact(List.nodup_append.1 h).1
end Go.Proofs.YtmgeglgboadfiaaGreatDoor
