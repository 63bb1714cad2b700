/- The moves of a walk through a region that draws its order, in few words (no law is proved here). -/
import Derived.Deep.RegionHeld
import Derived.Test.YtmgeglgboadfiaaGreatDoorT2
set_option linter.unusedVariables false
set_option maxRecDepth 20000
set_option maxHeartbeats 4000000
namespace Go.Proofs.YtmgeglgboadfiaaGreatDoor
theorem s1{α : Type}(l:List α)(i:Nat)(a:α):l.toArray.setIfInBounds i a=(l.set i a).toArray:=List.setIfInBounds_toArray ..
theorem s2{α : Type}(x:α)(l:List α)(a:α):(x :: l).set 0 a=a :: l:=rfl
theorem s3{α : Type}(x:α)(l:List α)(i:Nat)(a:α):(x :: l).set(i+1) a=x :: l.set i a:=rfl
def zMX:List Oper->Nat->Option Oper
 |[],_=>none
 |o :: _,0=>some o
 |_ :: l,n+1=>zMX l n
theorem zJA:∀(l:List Oper)(i:Nat),l[i]?=zMX l i
 |[],_=>rfl
 |_ :: _,0=>rfl
 |_ :: l,n+1=>by simpa [zMX] using zJA l n
theorem zAX{aA:Array Oper}{i:Nat}{o:Oper}(h:zMX aA.toList i=some o):aA[i]?=some o:=by
 rw [<-h,<-zJA,Array.getElem?_toList]
section
variable {P : Program} {md : Region.Mode} {aA : Array Oper} {Q : Exit -> Act -> World -> Prop} {S : World -> Prop}
theorem tk(i:Nat){o:Oper}{v:Value}{cA:Nat}{aA l':Array Bool}{a a':Act}{w:World}(hi:zMX ops.toList i=some o:=by exact rfl)
  (hb:(Region.noSelect ops && (Region.free md ops aA i && (Region.ready md ops aA).contains i))=true:=by kernel_rfl)
  (hw:Region.wanted o(yielded ops a.tmps)=true:=by exact rfl)(hS:S w:=by assumption)
  (hy:∀w,S w->(execOp a.eval o).run P w = .ok(.value v) w:=by(intro w eA;(dA dsimp only at eA);go_simp;dA bA rfl))
  (hl:aA.setIfInBounds i true=l':=by((dA simp only [s1,s2,s3]);exact rfl))
  (ha:a.put o.dst v=a':=by((dA simp only [Act.put,s1,s2,s3]);exact rfl))
  (hQ:∀c a w,Q(.panic c)(a.put o.dst v) w->Q(.panic c) a w:=by exact fun _ _ _ h=>h)
  (h:wpAnyH P md ops Q S cA l' a' w):wpAnyH P md ops Q S(cA+1) aA a w:=by
 simp only [Bool.and_eq_true] at hb;subst hl ha;exact wpAnyH_take(zAX hi) hb.1 hb.2.1 hb.2.2 hQ(Or.inl ⟨hw,hy⟩) hS h
theorem ts(i:Nat){o:Oper}{bA:Nat}{aA l':Array Bool}{a a':Act}{w:World}(hi:zMX ops.toList i=some o:=by exact rfl)
  (hb:(Region.noSelect ops && (Region.free md ops aA i && (Region.ready md ops aA).contains i))=true:=by kernel_rfl)
  (hw:Region.wanted o(yielded ops a.tmps)=false:=by exact rfl)(hS:S w:=by assumption)
  (hl:aA.setIfInBounds i true=l':=by((try simp only [s1,s2,s3]);exact rfl))
  (ha:a.put o.dst undef=a':=by((try simp only [Act.put,s1,s2,s3]);exact rfl))
  (hQ:∀c a w,Q(.panic c)(a.put o.dst undef) w->Q(.panic c) a w:=by exact fun _ _ _ h=>h)
  (h:wpAnyH P md ops Q S bA l' a' w):wpAnyH P md ops Q S(bA+1) aA a w:=by
 simp only [Bool.and_eq_true] at hb;subst hl ha;exact wpAnyH_take(zAX hi) hb.1 hb.2.1 hb.2.2 hQ(Or.inr ⟨hw,rfl⟩) hS h
theorem rd(rs:List Nat){bA:Nat}{aA:Array Bool}{a:Act}{w:World}(h:AllReadyH P md ops Q S bA aA a w rs)
  (hr:Region.ready md ops aA=rs:=by kernel_rfl)(cA:rs≠[]:=by simp):wpAnyH P md ops Q S(bA+1) aA a w:=wpAnyH_ready hr cA h
theorem rc{bA:Nat}{aA:Array Bool}{a:Act}{w:World}{i:Nat}{o:Oper}{rs:List Nat}
  (h:∀K':Act->World->Prop,Shut(∀a w,S w->(S w->wpAnyH P md ops Q S bA(aA.setIfInBounds i true) a w)->K' a w)->if Region.wanted o(yielded ops a.tmps)=true then Oper.wp P o a w K' Q else K'(a.put o.dst undef) w)
  (hs:AllReadyH P md ops Q S bA aA a w rs)(ho:zMX ops.toList i=some o:=by exact rfl):AllReadyH P md ops Q S bA aA a w(i :: rs):=AllReadyH.cons(zAX ho) h hs
end
open Go.RowKit
def zGm(n:Nat)(f:Nat->zL)(s:zL):Prop:=∀i,i<8->zAV n f s.zRU(s.ks i)(s.kb i)(s.ks i)(s.kb i)
theorem zBb.uniq{n:Nat}{f:Nat->zL}{x ps pb aA bA:Int}(h:zBb n f x ps pb)(h':zBb n f x aA bA):ps=aA/\pb=bA:=by
 rcases h with⟨a,b,c,rfl,rfl⟩ | ⟨a,rfl,rfl⟩<;>rcases h' with⟨a',b',c',rfl,rfl⟩ | ⟨a',rfl,rfl⟩
 ·exact⟨rfl,rfl⟩
 ·exact absurd ⟨a,b,c⟩ a'
 ·exact absurd ⟨a',b',c'⟩ a
 ·exact⟨rfl,rfl⟩
theorem zAV.uniq{n:Nat}{f:Nat->zL}{b ks kb rs rb aA bA:Int}(h:zAV n f b ks kb rs rb)(h':zAV n f b ks kb aA bA):rs=aA/\rb=bA:=by
 obtain⟨ps,pb,hp,h⟩:=h;obtain⟨cA,pb',hp',h'⟩:=h';obtain⟨rfl,rfl⟩:=hp.uniq hp';rcases h with⟨a,rfl,rfl⟩ | ⟨a,rfl,rfl⟩<;>rcases h' with⟨a',rfl,rfl⟩ | ⟨a',rfl,rfl⟩
 ·exact⟨rfl,rfl⟩
 ·exact absurd a a'
 ·exact absurd a' a
 ·exact⟨rfl,rfl⟩
theorem zJT(g:Nat->Int)(k:Nat)(hk:k<8)(x y:Int):((zp g).setIfInBounds(k*2)(.int .i64 x)).setIfInBounds(k*2+1)(.int .i64 y)=zp(fun j=>if j=k*2 then x else if j=k*2+1 then y else g j):=by
 apply Array.ext_getElem?;intro i;rw [Array.getElem?_setIfInBounds,Array.getElem?_setIfInBounds];simp only [Array.size_setIfInBounds,qB];by_cases aA:i<16
 ·rw [yO _ aA,yO _ aA];by_cases e1:k*2+1=i
  ·subst e1;rw [if_pos rfl,if_pos(by omega),if_neg(by omega),if_pos rfl]
  ·rw [if_neg e1];by_cases e0:k*2=i
   ·subst e0;rw [if_pos rfl,if_pos(by omega),if_pos rfl]
   ·rw [if_neg e0,if_neg(by omega),if_neg(by omega)]
 ·have n1:(zp g)[i]?=none:=Array.getElem?_eq_none(by rw [qB];omega);have n2:(zp(fun j=>if j=k*2 then x else if j=k*2+1 then y else g j))[i]?=none:=Array.getElem?_eq_none(by rw [qB];omega);rw [n1,n2,if_neg(by omega),if_neg(by omega)]
theorem zNj(g:Nat->Int)(k:Nat)(hk:k<8)(w:World):(Instr.index 155(.agg(zp g))(.int .i64(k:Int))).run Tryz.prog w = .ok(.agg #[.int .i64(g(k*2)),.int .i64(g(k*2+1))]) w:=by
 rcases(by omega:k=0\/k=1\/k=2\/k=3\/k=4\/k=5\/k=6\/k=7)with rfl | rfl | rfl | rfl | rfl | rfl | rfl | rfl
 all_goals kernel_rfl
theorem zPU(g:Nat->Int)(k:Nat)(hk:k<8)(w:World):(part 61(zp g)(k*2)).run Tryz.prog w = .ok(.agg #[.int .i64(g(k*2)),.int .i64(g(k*2+1))]) w:=by
 rcases(by omega:k=0\/k=1\/k=2\/k=3\/k=4\/k=5\/k=6\/k=7)with rfl | rfl | rfl | rfl | rfl | rfl | rfl | rfl
 all_goals kernel_rfl
theorem zQF(d:Nat)(a b c e:Int)(w:World):(Op.equalIn(d+2) 61(.agg #[.int .i64 a,.int .i64 b])(.agg #[.int .i64 c,.int .i64 e])).run Tryz.prog w = .ok(a == c && b == e) w:=by
 by_cases h1:a=c<;>by_cases h2:b=e
 all_goals simp [go_sem,h1,h2]
theorem zQB(w:World):(sizeOf 61).run Tryz.prog w = .ok 2 w:=by kernel_rfl
theorem zJY{P:Program}(b:Nat->Bool)(F:Nat->Option Bool×Unit->Sem(ForInStep(Option Bool×Unit))):∀(L:List Nat)(w:World),(∀i∈L,∀s w,(F i s).run P w = .ok(if b i then .yield(none,())else .done(some false,())) w)->
  (forIn L(none,()) F).run P w = .ok(if L.all b then(none,())else(some false,())) w
 |[],w,_=>by simp [Sem.run_pure]
 |i :: L,w,hF=>by
  simp only [List.forIn_cons,Sem.run_bind,hF i(by simp),Result.andThen_ok,List.all_cons];by_cases hb:b i=true
  ·simp only [hb,if_true,Bool.true_and];exact zJY b F L w(fun j hj=>hF j(by simp [hj]))
  ·simp [hb,Sem.run_pure]
def zGg(g h:Nat->Int):Bool:=(List.range 8).all fun i=>g(i*2) == h(i*2) && g(i*2+1) == h(i*2+1)
theorem zHy(g h:Nat->Int):zGg g h=true↔∀i,i<8->g(i*2)=h(i*2)/\g(i*2+1)=h(i*2+1):=by
 simp [zGg,List.all_eq_true]
theorem zNh(g h:Nat->Int)(d:Nat)(w:World):(Op.equalIn(d+3) 155(.agg(zp g))(.agg(zp h))).run Tryz.prog w = .ok(zGg g h) w:=by
 rw [Op.equalIn];simp only [Sem.run_bind,run_underlying zG9,Result.andThen_ok,zQB];rw [Std.Legacy.Range.forIn_eq_forIn_range'];have e:=zJY(P:=Tryz.prog)(fun i=>g(i*2) == h(i*2) && g(i*2+1) == h(i*2+1))(fun i(bA:Option Bool×Unit)=>do
      let __do_lift <-part 61(zp g)(i*2)
      let __do_lift_1 <-part 61(zp h)(i*2)
      let __do_lift <-Op.equalIn(d+2) 61 __do_lift __do_lift_1
      if(!__do_lift)=true then pure(ForInStep.done(some false,()))else pure(ForInStep.yield(none,())))(List.range 8) w(fun i hi s w=>by
   have aA:i<8:=(by simpa using hi);simp only [Sem.run_bind,zPU _ i aA,Result.andThen_ok,zQF];cases(g(i*2) == h(i*2) && g(i*2+1) == h(i*2+1))<;>simp [Sem.run_pure])
 have e2:List.range' 0(([:8]:Std.Legacy.Range).size)([:8]:Std.Legacy.Range).step=List.range 8:=by rfl
 rw [e2,e];simp only [Result.andThen_ok];unfold zGg;cases((List.range 8).all fun i=>g(i*2) == h(i*2) && g(i*2+1) == h(i*2+1))<;>simp [Sem.run_pure]
theorem zJs(g h:Nat->Int)(w:World):(binOp .eql 155(.agg(zp g))(.agg(zp h))).run Tryz.prog w = .ok(.bool(zGg g h)) w:=by
 rw [run_eql_struct,zNh g h 9997];rfl
theorem zIu(v v0 v1 v2:Value)(n lo hi lo' hi':Nat)(f:Nat->zL)(s:zL)(w:World)(h1:qA w lo hi v n f)(h2:qI w lo' hi' v0 v1 v2 s)(hk:s.kn=8) :
  Calls Tryz.prog 200 #[v,.agg #[v0,v1,v2]] w fun e w'=>zG(zGm n f s) e/\Below w.heap.size w w':=by
 have Hv:Hid(qA w lo hi v n f):=h1;obtain⟨m1,a,c,rfl,mc,g1⟩:=h1;have Hs:Hid(qI w lo' hi' v0 v1 v2 s):=h2;obtain⟨rfl,⟨m2,ka,kc,rfl,mc2,g2⟩,rfl,m3⟩:=h2;have Hk:Hid(s.kn=8):=hk;clear g1 g2 hk;go_enter Tryz.func200,Tryz.ntmps200;go_wp2_with fail;have eA:=zC w(.cells #[.int .i64 s.zRU,.slice ka s.kn kc,.string s.data] 127);refine(zDh _ _ _ lo' hi' s _(Hs.out.zRJ eA)(Or.inr Hk.out)).mono ?_;rintro e w1 ⟨rfl,hb1⟩;have Hx:Hid(yT w1 w.heap.size(.int .i64 s.zRU)(.slice ka s.kn kc)(.string s.data)):=(yT.zRL w _ _ _ _).zRJ hb1;have aB:=zA eA hb1;have aA:Hid((Tryz.prog.info? 155).map(·.size)=some(qD s).size):=by
  show _=_;rw [qD,qB];exact zBv
 clear eA hb1;have mA:(#[Value.int .i64 0,Value.int .i64 0,Value.int .i64 0,Value.int .i64 0,Value.int .i64 0,Value.int .i64 0,Value.int .i64 0,Value.int .i64 0,Value.int .i64 0,Value.int .i64 0,Value.int .i64 0,Value.int .i64 0,Value.int .i64 0,Value.int .i64 0,Value.int .i64 0,Value.int .i64 0]:Array Value)=zp(fun _=>0):=rfl;have dA:Hid((#[Value.int .i64 0,Value.int .i64 0,Value.int .i64 0,Value.int .i64 0,Value.int .i64 0,Value.int .i64 0,Value.int .i64 0,Value.int .i64 0,Value.int .i64 0,Value.int .i64 0,Value.int .i64 0,Value.int .i64 0,Value.int .i64 0,Value.int .i64 0,Value.int .i64 0,Value.int .i64 0]:Array Value)=zp(fun _=>0)):=mA;clear mA;go_wp2_with(first
  |(refine wpList_store_row rfl 155(.tmp 5)(.tmp 10) rfl w1.heap.size(qD s) rfl rfl 155 #[Value.int .i64 0,Value.int .i64 0,Value.int .i64 0,Value.int .i64 0,Value.int .i64 0,Value.int .i64 0,Value.int .i64 0,Value.int .i64 0,Value.int .i64 0,Value.int .i64 0,Value.int .i64 0,Value.int .i64 0,Value.int .i64 0,Value.int .i64 0,Value.int .i64 0,Value.int .i64 0](heap_alloc_last _ _) aA.out(by rw [qD,qB];rfl)(zAs _) ?_;rw [World.setRow_alloc_new])
  |(refine wpList_load_row rfl 155(.tmp 5) rfl w1.heap.size rfl 155(qD s)(0,0) _ ?hh zG9 rfl aA.out ?_;(exact(Below.heap_alloc _ _ _(by simp)).trans(heap_alloc_last _ _))))
 have tA:w.heap.size<w1.heap.size:=Hx.out.1.lt
 go_loopw [12](fun i wr=>∃(k:Nat)(g:Nat->Int),k<=8/\i = .int .i64 k/\(∀j,j<k->zAV n f s.zRU(s.ks j)(s.kb j)(g(j*2))(g(j*2+1)))/\yT wr w.heap.size(.int .i64 s.zRU)(.slice ka s.kn kc)(.string s.data)/\
   wr.heap[w1.heap.size]?=some(.cells(qD s) 155(0,0))/\wr.heap[w1.heap.size+1]?=some(.cells(zp g) 155(0,0))/\Below w.heap.size w wr)(fun i _=>8 - (intOf i).toNat)
 case atStart=>
  refine⟨0,fun _=>0,Nat.zero_le _,rfl,fun j hj=>absurd hj(Nat.not_lt_zero _),(Hx.out.zRJ(zC _ _)).zRJ(zC _ _),?_,?_,zA(zA aB(zC _ _))(zC _ _)⟩
  ·exact(Below.heap_alloc _ _ _(by simp)).trans(heap_alloc_last _ _)
  ·have:=heap_alloc_last(w1.alloc(.cells(qD s) 155))(.cells #[Value.int .i64 0,Value.int .i64 0,Value.int .i64 0,Value.int .i64 0,Value.int .i64 0,Value.int .i64 0,Value.int .i64 0,Value.int .i64 0,Value.int .i64 0,Value.int .i64 0,Value.int .i64 0,Value.int .i64 0,Value.int .i64 0,Value.int .i64 0,Value.int .i64 0,Value.int .i64 0] 155);rw [World.size_alloc] at this;rw [this,dA.out]
 case round=>
  obtain⟨k,g,hk,rfl,hall,hx,hK,hF,hb⟩:=hrel;have bA:Hid(∀j,j<k->zAV n f s.zRU(s.ks j)(s.kb j)(g(j*2))(g(j*2+1))):=hall;have HX:Hid(yT wr w.heap.size(.int .i64 s.zRU)(.slice ka s.kn kc)(.string s.data)):=hx;have HK:Hid(wr.heap[w1.heap.size]?=some(.cells(qD s) 155(0,0))):=hK;have HF:Hid(wr.heap[w1.heap.size+1]?=some(.cells(zp g) 155(0,0))):=hF;clear hall hx hK hF;have jA:w1.heap.size+1<wr.heap.size:=(Array.getElem?_eq_some_iff.1 HF.out).1;by_cases lA:k<8
  ·have bB:(k:Int)<8:=(by omega);have kA:∀w,(Instr.index 155(.agg(qD s))(.int .i64(k:Int))).run Tryz.prog w = .ok(.agg #[.int .i64(s.ks k),.int .i64(s.kb k)]) w:=fun w=>by
    have e:=zNj(zk s) k lA w;have e0:zk s(k*2)=s.ks k:=(by unfold zk;rw [if_pos(by have:=Hk.out;omega),if_pos(by omega),show k*2 / 2=k by omega]);have e1:zk s(k*2+1)=s.kb k:=(by unfold zk;rw [if_pos(by have:=Hk.out;omega),if_neg(by omega),show(k*2+1) / 2=k by omega]);rw [e0,e1] at e;exact e
   obtain⟨⟨x0,x1⟩,⟨x2,x3⟩,⟨x4,x5⟩⟩:=HX.out;have pA:w.heap.size<wr.heap.size:=(by omega);go_wp2_with fail;have fA:=zC wr(.cells #[.int .i64(s.ks k),.int .i64(s.kb k)] 61);refine(zKi _ n lo hi f _ _ _ _(Hv.out.zRJ(zA hb fA))).mono ?_;rintro e w2 ⟨⟨rs,rb,rfl,hkf⟩,hb3⟩;have oA:Hid(zAV n f s.zRU(s.ks k)(s.kb k) rs rb):=hkf;have cA:=zA fA hb3;have gA:Hid(w2.heap[w1.heap.size+1]?=some(.cells(zp g) 155(0,0))):=(cA.block _ jA).trans HF.out;have rA:Hid(w2.heap[w1.heap.size]?=some(.cells(qD s) 155(0,0))):=(cA.block _(by omega)).trans HK.out;have sA:Hid(yT w2 w.heap.size(.int .i64 s.zRU)(.slice ka s.kn kc)(.string s.data)):=HX.out.zRJ cA;have nA:=zA hb cA;clear hkf hb3 fA cA x0 x1 x2 x3 x4 x5 kA HF HK HX hb;obtain⟨y0,y1⟩:=zI(i:=k*2) gA.out(yO g(by omega));obtain⟨y2,y3⟩:=zI(i:=k*2+1) gA.out(yO g(by omega));go_wp2;go_roundw
   case rel=>
    refine⟨k+1,fun j=>if j=k*2 then rs else if j=k*2+1 then rb else g j,by omega,by go_num,fun j hj=>?_,(sA.out.zRK _(by omega)).zRK _(by omega),?_,?_,(nA.setCell(by show _<=w1.heap.size+1;omega) _).setCell(by show _<=w1.heap.size+1;omega) _⟩
    ·by_cases e:j=k
     ·subst e;simp only [if_true];rw [if_neg(by omega)];exact oA.out
     ·simp only;rw [if_neg(by omega),if_neg(by omega),if_neg(by omega),if_neg(by omega)];exact bA.out j(by omega)
    ·rw [Below.heap_setCell _ _ _ _(by show w1.heap.size≠w1.heap.size+1;omega),Below.heap_setCell _ _ _ _(by show w1.heap.size≠w1.heap.size+1;omega)];exact rA.out
    ·have:=zAU(o:=k*2+1)(.int .i64 rb)(zAU(o:=k*2)(.int .i64 rs) gA.out);rw [zJT g k lA] at this;exact this
   case measure=>simp [intOf];omega
  ·obtain rfl:k=8:=(by omega);have vA:∀w,(binOp .eql 155(.agg(zp g))(.agg(qD s))).run Tryz.prog w = .ok(.bool(zGg g(zk s))) w:=fun w=>zJs g(zk s) w
   have iA:Hid((Tryz.prog.info? 155).map(·.size)=some(zp g).size):=by
    show _=_;rw [qB];exact zBv
   go_wp2_with(first
    |(refine wpList_load_row rfl 155(.tmp 6) rfl(w1.heap.size+1) rfl 155(zp g)(0,0) _ HF.out zG9 rfl iA.out ?_)
    |(refine wpList_load_row rfl 155(.tmp 5) rfl w1.heap.size rfl 155(qD s)(0,0) _ HK.out zG9 rfl aA.out ?_))
   go_ret;refine⟨⟨_,rfl,?_⟩,hb⟩;rw [zHy];have e0:∀i,i<8->zk s(i*2)=s.ks i/\zk s(i*2+1)=s.kb i:=fun i hi=>by
    have:=Hk.out;refine⟨?_,?_⟩
    ·unfold zk;rw [if_pos(by omega),if_pos(by omega),show i*2 / 2=i by omega]
    ·unfold zk;rw [if_pos(by omega),if_neg(by omega),show(i*2+1) / 2=i by omega]
   constructor
   ·intro h i hi;have:=bA.out i hi;rw [(h i hi).1,(h i hi).2,(e0 i hi).1,(e0 i hi).2] at this;exact this
   ·intro h i hi;rw [(e0 i hi).1,(e0 i hi).2];exact(bA.out i hi).uniq(h i hi)
def zBD(n:Nat)(f:Nat->zL)(s:zL):Prop:=qG s\/zHD s\/(zLC s/\zGm n f s)
def zFw(p:zJ)(i:Nat):Prop:=¬zBb p.n p.s(p.h i) 0 0/\¬Has i p.h(p.h i)
def zQd(p:zJ):Prop:=p.n<=200/\p.hn<=p.n/\(∀i,i<p.n->zBD p.n p.s(p.s i))/\∀i,i<p.hn->zFw p i
theorem zE4(v v0 v1 v2:Value)(n lo hi lo' hi':Nat)(f:Nat->zL)(s:zL)(w:World)(h1:qA w lo hi v n f)(h2:qI w lo' hi' v0 v1 v2 s) :
  Calls Tryz.prog 158 #[v,.agg #[v0,v1,v2]] w fun e w'=>zG(zBD n f s) e/\Below w.heap.size w w':=by
 have Hv:Hid(qA w lo hi v n f):=h1;obtain⟨m1,a,c,rfl,mc,g1⟩:=h1;have Hs:Hid(qI w lo' hi' v0 v1 v2 s):=h2;obtain⟨rfl,⟨m2,ka,kc,rfl,mc2,g2⟩,rfl,m3⟩:=h2;clear g1 g2;go_enter Tryz.func158,Tryz.ntmps158;go_wp2_with fail;have dA:=zC w(.cells #[.int .i64 s.zRU,.slice ka s.kn kc,.string s.data] 127);refine(zBf _ _ _ lo' hi' s _(Hs.out.zRJ dA)).mono ?_;rintro e w1 ⟨⟨t,rfl,ht⟩,hb1⟩;have Hx:Hid(yT w1 w.heap.size(.int .i64 s.zRU)(.slice ka s.kn kc)(.string s.data)):=(yT.zRL w _ _ _ _).zRJ hb1;have bA:=zA dA hb1;clear dA hb1;by_cases hf:qG s
 ·obtain rfl:t=true:=ht.2 hf;have HF:Hid(qG s):=hf;clear ht hf;go_wp2;go_ret;exact⟨zG.yes(Or.inl HF.out),bA⟩
 ·obtain rfl:t=false:=zQ ht hf;have HF:Hid(¬qG s):=hf;clear ht hf;obtain⟨⟨x0,x1⟩,⟨x2,x3⟩,⟨x4,x5⟩⟩:=Hx.out;go_wp2_with fail;refine(zIO _ _ _ lo' hi' s _(Hs.out.zRJ bA)).mono ?_;rintro e w2 ⟨⟨t,rfl,ht⟩,hb3⟩;have eA:Hid(yT w2 w.heap.size(.int .i64 s.zRU)(.slice ka s.kn kc)(.string s.data)):=Hx.out.zRJ hb3;have cA:=zA bA hb3;clear hb3 bA x0 x1 x2 x3 x4 x5 Hx;by_cases hf:zHD s
  ·obtain rfl:t=true:=ht.2 hf;have HP:Hid(zHD s):=hf;clear ht hf;go_wp2;go_ret;exact⟨zG.yes(Or.inr(Or.inl HP.out)),cA⟩
  ·obtain rfl:t=false:=zQ ht hf;have HP:Hid(¬zHD s):=hf;clear ht hf;obtain⟨⟨x0,x1⟩,⟨x2,x3⟩,⟨x4,x5⟩⟩:=eA.out;go_wp2_with fail;refine(zMc _ _ _ lo' hi' s _(Hs.out.zRJ cA)).mono ?_;rintro e w3 ⟨⟨t,rfl,ht⟩,hb5⟩;have fA:Hid(yT w3 w.heap.size(.int .i64 s.zRU)(.slice ka s.kn kc)(.string s.data)):=eA.out.zRJ hb5;have aA:=zA cA hb5;clear hb5 cA x0 x1 x2 x3 x4 x5 eA;by_cases hf:zLC s
   ·obtain rfl:t=true:=ht.2 hf;have HN:Hid(zLC s):=hf;clear ht hf;obtain⟨⟨x0,x1⟩,⟨x2,x3⟩,⟨x4,x5⟩⟩:=fA.out;go_wp2_with fail;refine(zIu _ _ _ _ n lo hi lo' hi' f s _(Hv.out.zRJ aA)(Hs.out.zRJ aA) HN.out.2.1).mono ?_;rintro e w4 ⟨⟨t,rfl,ht⟩,hb7⟩;have Ht:Hid(t=true↔zGm n f s):=ht;have gA:=zA aA hb7;clear hb7 aA x0 x1 x2 x3 x4 x5 fA ht;go_wp2;go_ret;refine⟨⟨t,rfl,Ht.out.trans ⟨fun h=>Or.inr(Or.inr ⟨HN.out,h⟩),fun h=>?_⟩⟩,gA⟩;rcases h with h | h | h
    ·exact absurd h HF.out
    ·exact absurd h HP.out
    ·exact h.2
   ·obtain rfl:t=false:=zQ ht hf;have HN:Hid(¬zLC s):=hf;clear ht hf;go_wp2;go_ret;refine⟨zG.no fun h=>?_,aA⟩;rcases h with h | h | h
    ·exact HF.out h
    ·exact HP.out h
    ·exact HN.out h.1
theorem zIx(v0 v1:Value)(lo hi:Nat)(p:zJ)(w:World)(h1:zy w lo hi v0 v1 p) :
  Calls Tryz.prog 194 #[.agg #[v0,v1]] w fun e w'=>zG(∀i,i<p.hn->zFw p i) e/\Below w.heap.size w w':=by
 have Hp:Hid(zy w lo hi v0 v1 p):=h1;obtain⟨⟨m1,a,c,rfl,mc,g1⟩,⟨m2,a',c',rfl,mc',g2⟩⟩:=h1;unfold maxLen at m1 m2;clear g1 g2;go_enter Tryz.func194,Tryz.ntmps194;go_wp2
 go_loopw [8](fun i wr=>∃k:Nat,k<=p.hn/\i = .int .i64 k/\(∀j,j<k->zFw p j)/\zc wr w.heap.size(.slice a p.n c)(.slice a' p.hn c')/\Below w.heap.size w wr)(fun i _=>p.hn - (intOf i).toNat)
 case atStart=>exact⟨0,Nat.zero_le _,rfl,fun j hj=>absurd hj(Nat.not_lt_zero _),zc.zRL _ _ _ _,zC _ _⟩
 case round=>
  obtain⟨k,hk,rfl,hall,hx,hb⟩:=hrel;have bA:Hid(∀j,j<k->zFw p j):=hall;have Hx:Hid(zc wr w.heap.size(.slice a p.n c)(.slice a' p.hn c')):=hx;clear hall hx;obtain⟨⟨y0,y1⟩,⟨y2,y3⟩⟩:=Hx.out;by_cases cA:k<p.hn
  ·have gA:(k:Int)<(p.hn:Int):=(by omega);have aA:=Hp.out.2.zRJ hb;have dA:Hid(qT wr lo hi(.slice a' p.hn c') p.hn p.h):=aA;obtain⟨_,a2,cap2,hv2,_,hx2⟩:=aA;simp only [Value.slice.injEq,true_and] at hv2;obtain⟨rfl,rfl⟩:=hv2;obtain⟨b,off,rfl,_,_,k1⟩:=hx2(by omega);have iA:=k1 k cA;clear k1 hx2;go_wp2_with fail;refine(zEk _ p.n lo hi p.s _ _(Hp.out.1.zRJ hb)).mono ?_;rintro e w1 ⟨⟨ps,pb,rfl,hpo⟩,hb1⟩;have fA:Hid(zBb p.n p.s(p.h k) ps pb):=hpo;have HX:Hid(zc w1 w.heap.size(.slice a p.n c)(.slice(some ⟨b,off,none⟩) p.hn c')):=Hx.out.zRJ hb1;have HI:Hid(qT w1 lo hi(.slice(some ⟨b,off,none⟩) k k) k p.h):=(dA.out.zRJ hb1).take(by omega)(by omega);have eA:=zA hb hb1;clear hpo hb1 y0 y1 y2 y3 Hx;by_cases hz:ps=0/\pb=0
   ·obtain⟨rfl,rfl⟩:=hz;go_wp2;go_ret;exact⟨zG.no fun h=>(h k cA).1 fA.out,eA⟩
   ·have HZ:Hid(¬zBb p.n p.s(p.h k) 0 0):=fun h=>by
     obtain⟨e0,e1⟩:=fA.out.uniq h;exact hz ⟨e0,e1⟩
    have e0:(ps == 0)=false\/(ps == 0)=true/\(pb == 0)=false:=by
     by_cases h:ps=0
     ·right;refine⟨by simp [h],?_⟩;have:pb≠0:=fun h'=>hz ⟨h,h'⟩
      simp [this]
     ·left;simp [h]
    clear hz;obtain⟨⟨y0,y1⟩,⟨y2,y3⟩⟩:=HX.out;have jA:k<=c':=(by omega);by_cases hh:Has k p.h(p.h k)
    ·have HH:Hid(Has k p.h(p.h k)):=hh;clear hh;rcases e0 with e0 | ⟨e0,e1⟩
     all_goals
      go_wp2_with fail;refine(zCE _ k lo hi p.h _ _ HI.out).mono ?_;rintro e w2 ⟨⟨t,rfl,ht⟩,rfl⟩;obtain rfl:t=true:=ht.2 HH.out;clear ht;go_wp2;go_ret;exact⟨zG.no fun h=>(h k cA).2 HH.out,eA⟩
    ·have HH:Hid(¬Has k p.h(p.h k)):=hh;clear hh;rcases e0 with e0 | ⟨e0,e1⟩
     all_goals
      go_wp2_with fail;refine(zCE _ k lo hi p.h _ _ HI.out).mono ?_;rintro e w2 ⟨⟨t,rfl,ht⟩,rfl⟩;obtain rfl:t=false:=zQ ht HH.out;clear ht y0 y1 y2 y3;go_wp2;go_roundw
      case rel=>exact⟨k+1,by omega,by go_num,zo cA bA.out ⟨HZ.out,HH.out⟩,HX.out,eA⟩
      case measure=>simp [intOf];omega
  ·obtain rfl:k=p.hn:=(by omega);go_wp2;go_ret;exact⟨zG.yes bA.out,hb⟩
theorem zPw:∀(m n:Nat)(h:Nat->Nat),(∀i,i<m->h i<n)->(∀i j,i<j->j<m->h i≠h j)->m<=n
 |0,_,_,_,_=>Nat.zero_le _
 |m+1,0,h,hlt,_=>absurd(hlt 0(by omega))(Nat.not_lt_zero _)
 |m+1,n+1,h,hlt,hne=>by
  have key:=zPw m n(fun i=>if h i<h m then h i else h i - 1)(fun i hi=>by
   have a:=hlt i(by omega);have b:=hne i m hi(by omega);have c:=hlt m(by omega);show(if h i<h m then h i else h i - 1)<n;split<;>omega)(fun i j aA hj=>by
   have a:=hne i j aA(by omega);have b:=hne i m(by omega)(by omega);have c:=hne j m(by omega)(by omega);show(if h i<h m then h i else h i - 1)≠(if h j<h m then h j else h j - 1);split<;>split<;>omega)
  omega
theorem zIM{s:zL}(h:qG s):s.zRU=0:=h.1
theorem zO0{n:Nat}{f:Nat->zL}{s:zL}(h:zBD n f s)(hf:¬qG s):1<=s.zRU:=by
 rcases h with h | h | h
 ·exact absurd h hf
 ·exact h.1.1
 ·exact h.1.1.1
theorem zFT{p:zJ}{s:zL}(h:qG s\/zAN p s)(hf:¬qG s):1<=s.zRU:=by
 rcases h with h | h
 ·exact absurd h hf
 ·exact h.1.1
theorem zHO{p:zJ}{b ks kb:Int}(aA:∀i,i<p.n->¬qG(p.s i)->1<=(p.s i).zRU):zAV p.n p.s b ks kb ks kb↔zH4 p b ks kb:=by
 constructor
 ·rintro⟨ps,pb,hp,h⟩;rcases h with⟨h,rfl,rfl⟩ | ⟨h,rfl,rfl⟩
  ·exact Or.inl ⟨rfl,rfl⟩
  ·rcases hp with⟨h1,h2,h3,_,h5⟩ | ⟨h1,rfl,rfl⟩
   ·right;have hb:=aA ks.toNat(by omega) h3;rw [<-h5] at hb;refine⟨⟨hb,h1,h2,h5.symm⟩,?_⟩;by_cases hx:b<kb
    ·exact absurd(Or.inr hx) h
    ·omega
   ·exact absurd(Or.inl ⟨rfl,rfl⟩) h
 ·rintro(⟨rfl,rfl⟩ | ⟨⟨h1,h2,h3,h4⟩,h5⟩)
  ·by_cases hx:0<p.n/\¬qG(p.s 0)
   ·refine⟨0,(p.s 0).zRU,Or.inl ⟨by omega,by omega,?_,rfl,rfl⟩,Or.inl ⟨Or.inl ⟨rfl,rfl⟩,rfl,rfl⟩⟩;exact hx.2
   ·refine⟨0,0,Or.inr ⟨fun h=>hx ⟨by omega,h.2.2⟩,rfl,rfl⟩,Or.inl ⟨Or.inl ⟨rfl,rfl⟩,rfl,rfl⟩⟩
  ·refine⟨ks,kb,Or.inl ⟨h2,h3,fun hf=>?_,rfl,h4.symm⟩,Or.inr ⟨fun h=>?_,rfl,rfl⟩⟩
   ·have:=zIM hf;omega
   ·rcases h with h | h
    ·have:=h.2;omega
    ·omega
theorem zCQ(p:zJ):zQd p↔zv p:=by
 constructor
 ·rintro⟨h1,h2,h3,h4⟩;have aA:∀i,i<p.n->¬qG(p.s i)->1<=(p.s i).zRU:=fun i hi=>zO0(h3 i hi)
  refine⟨h1,fun i hi=>?_,fun i hi=>?_⟩
  ·rcases h3 i hi with h | h | h
   ·exact Or.inl h
   ·exact Or.inr ⟨h.1,Or.inl h.2⟩
   ·refine Or.inr ⟨h.1.1,Or.inr ⟨h.1.2.1,h.1.2.2,fun j hj=>?_⟩⟩;exact(zHO aA).1(h.2 j(by have:=h.1.2.1;omega))
  ·obtain⟨ha,hb⟩:=h4 i hi;have hx:0<=p.h i/\p.h i<p.n/\¬qG(p.s(p.h i).toNat):=by
    by_cases hx:0<=p.h i/\p.h i<p.n/\¬qG(p.s(p.h i).toNat)
    ·exact hx
    ·exact absurd(Or.inr ⟨hx,rfl,rfl⟩) ha
   exact⟨hx.1,hx.2.1,hx.2.2,hb⟩
 ·rintro⟨h1,h3,h4⟩;have aA:∀i,i<p.n->¬qG(p.s i)->1<=(p.s i).zRU:=fun i hi=>zFT(h3 i hi)
  refine⟨h1,?_,fun i hi=>?_,fun i hi=>?_⟩
  ·refine zPw p.hn p.n(fun i=>(p.h i).toNat)(fun i hi=>?_)(fun i j bA hj=>?_)
   ·obtain⟨a,b,_,_⟩:=h4 i hi;show(p.h i).toNat<p.n;omega
   ·obtain⟨a,b,_,d⟩:=h4 j hj;obtain⟨a',b',_,_⟩:=h4 i(by omega);show(p.h i).toNat≠(p.h j).toNat;intro e;exact d ⟨i,bA,by omega⟩
  ·rcases h3 i hi with h | h
   ·exact Or.inl h
   ·rcases h.2 with g | g
    ·exact Or.inr(Or.inl ⟨h.1,g⟩)
    ·exact Or.inr(Or.inr ⟨⟨h.1,g.1,g.2.1⟩,fun j hj=>(zHO aA).2(g.2.2 j(by omega))⟩)
  ·obtain⟨a,b,c,d⟩:=h4 i hi;refine⟨fun hx=>?_,d⟩;rcases hx with⟨_,_,_,e1,e2⟩ | ⟨hx,_⟩
   ·have:=aA(p.h i).toNat(by omega) c;omega
   ·exact hx ⟨a,b,c⟩
theorem yz(v0 v1:Value)(lo hi:Nat)(p:zJ)(w:World)(h1:zy w lo hi v0 v1 p) :
  Calls Tryz.prog 154 #[.agg #[v0,v1]] w fun e w'=>zG(zv p) e/\Below w.heap.size w w':=by
 have Hp:Hid(zy w lo hi v0 v1 p):=h1;obtain⟨⟨m1,a,c,rfl,mc,g1⟩,⟨m2,a',c',rfl,mc',g2⟩⟩:=h1;unfold maxLen at m1 m2;clear g1 g2;have dA:Hid(Below w.heap.size w(w.alloc(.cells #[.slice a p.n c,.slice a' p.hn c'] 33))):=zC _ _;by_cases hn:(200:Int)<p.n
 ·have H:Hid(¬zv p):=fun h=>by have:=h.1;omega
  go_enter Tryz.func154,Tryz.ntmps154;go_wp2;go_ret;exact⟨zG.no H.out,dA.out⟩
 by_cases jA:(p.n:Int)<p.hn
 ·have H:Hid(¬zv p):=fun h=>by have:=((zCQ p).2 h).2.1;omega
  go_enter Tryz.func154,Tryz.ntmps154;go_wp2;go_ret;exact⟨zG.no H.out,dA.out⟩
 ·go_enter Tryz.func154,Tryz.ntmps154;go_wp2
  go_loopw [21](fun i wr=>∃k:Nat,k<=p.n/\i = .int .i64 k/\(∀j,j<k->zBD p.n p.s(p.s j))/\zc wr w.heap.size(.slice a p.n c)(.slice a' p.hn c')/\Below w.heap.size w wr)(fun i _=>p.n - (intOf i).toNat)
  case atStart=>exact⟨0,Nat.zero_le _,rfl,fun j hj=>absurd hj(Nat.not_lt_zero _),zc.zRL _ _ _ _,dA.out⟩
  case round=>
   obtain⟨k,hk,rfl,hall,hx,hb⟩:=hrel;have aA:Hid(∀j,j<k->zBD p.n p.s(p.s j)):=hall;have Hx:Hid(zc wr w.heap.size(.slice a p.n c)(.slice a' p.hn c')):=hx;clear hall hx;obtain⟨⟨y0,y1⟩,⟨y2,y3⟩⟩:=Hx.out;have iA:w.heap.size<wr.heap.size:=Hx.out.1.lt;by_cases eA:k<p.n
   ·have gA:(k:Int)<(p.n:Int):=(by omega);obtain⟨b,off,ka,kc,rfl,hs⟩:=(Hp.out.1.zRJ hb).cells eA;have Hs:Hid(zAj wr b(off+k*3) lo hi ka kc(p.s k)):=hs;obtain⟨q0,q1,q2,_⟩:=hs;go_wp2_with fail;have bA:=zC wr(.cells #[.int .i64(p.s k).zRU,.slice ka(p.s k).kn kc,.string(p.s k).data] 127);refine(zE4 _ _ _ _ p.n lo hi lo hi p.s(p.s k) _(Hp.out.1.zRJ(zA hb bA))(Hs.out.slot.zRJ bA)).mono ?_;rintro e w1 ⟨⟨t,rfl,ht⟩,hb1⟩;have fA:=zA bA hb1;have HX:Hid(zc w1 w.heap.size(.slice(some ⟨b,off,none⟩) p.n c)(.slice a' p.hn c')):=Hx.out.zRJ fA;have cA:=zA hb fA;have Ht:Hid(t=true↔zBD p.n p.s(p.s k)):=ht;clear bA hb1 fA ht q0 q1 q2 y0 y1 y2 y3 Hx Hs;cases t
    ·go_wp2;go_ret;refine⟨zG.no fun h=>?_,cA⟩;have:=((zCQ p).2 h).2.2.1 k eA;exact absurd(Ht.out.2 this)(by simp)
    ·go_wp2;go_roundw
     case rel=>exact⟨k+1,by omega,by go_num,zo eA aA.out(by simpa using Ht.out),HX.out,cA⟩
     case measure=>simp [intOf];omega
   ·obtain rfl:k=p.n:=(by omega);go_wp2_with fail;refine(zIx _ _ lo hi p _(Hp.out.zRJ hb)).mono ?_;rintro e w1 ⟨⟨t,rfl,ht⟩,hb1⟩;have Ht:Hid(t=true↔∀i,i<p.hn->zFw p i):=ht;have cA:=zA hb hb1;clear ht hb1 y0 y1 y2 y3;go_wp2;go_ret;refine⟨⟨t,rfl,Ht.out.trans ⟨fun h=>?_,fun h=>?_⟩⟩,cA⟩
    ·exact(zCQ p).1 ⟨by omega,by omega,aA.out,h⟩
    ·exact((zCQ p).2 h).2.2.2
theorem zBb.some(n:Nat)(f:Nat->zL)(x:Int):∃ps pb,zBb n f x ps pb:=by
 by_cases h:0<=x/\x<n/\¬qG(f x.toNat)
 ·exact⟨x,(f x.toNat).zRU,Or.inl ⟨h.1,h.2.1,h.2.2,rfl,rfl⟩⟩
 ·exact⟨0,0,Or.inr ⟨h,rfl,rfl⟩⟩
theorem zEf(v:Value)(n lo hi:Nat)(f:Nat->zL)(xs xb:Int)(w:World)(h1:qA w lo hi v n f) :
  Calls Tryz.prog 191 #[v,.agg #[.int .i64 xs,.int .i64 xb]] w fun e w'=>zG(¬zCC xs xb 0 0/\zBb n f xs xs xb) e/\Below w.heap.size w w':=by
 have Hi:Hid(qA w lo hi v n f):=h1;obtain⟨m1,a,c,rfl,mc,g1⟩:=h1;clear g1;have ha:=zC w(.cells #[.int .i64 xs,.int .i64 xb] 61);have Hx:Hid(zc(w.alloc(.cells #[.int .i64 xs,.int .i64 xb] 61)) w.heap.size(.int .i64 xs)(.int .i64 xb)):=zc.zRL _ _ _ _;by_cases hz:xs=0/\xb=0
 ·obtain⟨rfl,rfl⟩:=hz;go_enter Tryz.func191,Tryz.ntmps191;go_wp2_with fail
  go_quiet(fail)
  go_wp2;go_ret;exact⟨zG.no fun h=>h.1 ⟨rfl,rfl⟩,zg ha _⟩
 ·have HZ:Hid(¬zCC xs xb 0 0):=hz;have e0:(xs == 0)=false\/(xs == 0)=true/\(xb == 0)=false:=by
   by_cases h:xs=0
   ·right;refine⟨by simp [h],?_⟩;have:xb≠0:=fun h'=>hz ⟨h,h'⟩
    simp [this]
   ·left;simp [h]
  clear hz;obtain⟨bA,pb0,h0⟩:=zBb.some n f xs;have H0:Hid(zBb n f xs bA pb0):=h0;clear h0;by_cases hq:xs=bA/\xb=pb0
  ·obtain⟨rfl,rfl⟩:=hq;rcases e0 with e0 | ⟨e0,e1⟩
   all_goals
    go_enter Tryz.func191,Tryz.ntmps191;go_wp2_with fail;go_region_held3(fun w'=>w'.cell? ⟨w.heap.size,0,none⟩=some(.int .i64 xs)/\w'.cell? ⟨w.heap.size,1,none⟩=some(.int .i64 xb))(go_keep)
     (first | (go_at_call 216;refine(zEk _ n lo hi f _ _ ?_).mono ?_;(exact(Hi.out.zRJ ha).zRJ((Below.refl _ _).drew));rintro e w1 ⟨⟨ps,pb,rfl,hp⟩,hb1⟩;obtain⟨rfl,rfl⟩:=H0.out.uniq hp;clear hp;have aA:=zK hb1;have z0:=(Hx.out.zRJ aA).1.1;have z1:=(Hx.out.zRJ aA).2.1))
    have cA:=zA ha aA;clear hb1 aA z0 z1;go_wp2;go_ret;exact⟨zG.yes ⟨HZ.out,H0.out⟩,cA⟩
  ·have HQ:Hid(¬(xs=bA/\xb=pb0)):=hq;have e4:(xs == bA)=false\/(xs == bA)=true/\(xb == pb0)=false:=by
    by_cases h:xs=bA
    ·right;refine⟨by simp [h],?_⟩;have:xb≠pb0:=fun h'=>hq ⟨h,h'⟩
     simp [this]
    ·left;simp [h]
   clear hq;rcases e0 with e0 | ⟨e0,e1⟩
   all_goals
    rcases e4 with e4 | ⟨e4,e5⟩
    all_goals
     go_enter Tryz.func191,Tryz.ntmps191;go_wp2_with fail;go_region_held3(fun w'=>w'.cell? ⟨w.heap.size,0,none⟩=some(.int .i64 xs)/\w'.cell? ⟨w.heap.size,1,none⟩=some(.int .i64 xb))(go_keep)
      (first | (go_at_call 216;refine(zEk _ n lo hi f _ _ ?_).mono ?_;(exact(Hi.out.zRJ ha).zRJ((Below.refl _ _).drew));rintro e w1 ⟨⟨ps,pb,rfl,hp⟩,hb1⟩;obtain⟨rfl,rfl⟩:=H0.out.uniq hp;clear hp;have aA:=zK hb1;have z0:=(Hx.out.zRJ aA).1.1;have z1:=(Hx.out.zRJ aA).2.1))
     have cA:=zA ha aA;clear hb1 aA z0 z1;go_wp2;go_ret;refine⟨zG.no fun h=>?_,cA⟩;obtain⟨q0,q1⟩:=h.2.uniq H0.out;exact HQ.out ⟨q0,q1⟩
theorem zEj{p:zJ}{xs xb:Int}(hR:zv p):(¬zCC xs xb 0 0/\zBb p.n p.s xs xs xb)↔zr p xs xb:=by
 constructor
 ·rintro⟨h,h1 | ⟨_,h2,h3⟩⟩
  ·obtain⟨a,b,c,_,e⟩:=h1;have:=zFT(hR.2.1 xs.toNat(by omega)) c;exact⟨by omega,a,b,e.symm⟩
  ·exact absurd ⟨h2,h3⟩ h
 ·rintro⟨a,b,c,d⟩;refine⟨fun h=>by have:=h.2;omega,Or.inl ⟨b,c,fun hf=>?_,rfl,d.symm⟩⟩;have:=zIM hf;omega
end Go.Proofs.YtmgeglgboadfiaaGreatDoor
