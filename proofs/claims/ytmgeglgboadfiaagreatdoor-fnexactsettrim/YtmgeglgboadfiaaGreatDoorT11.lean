/- What spec.l04Reach answers: the walk. -/
import Derived.Test.YtmgeglgboadfiaaGreatDoorT10
set_option linter.unusedVariables false
set_option maxRecDepth 20000
set_option maxHeartbeats 4000000
namespace Go.Proofs.YtmgeglgboadfiaaGreatDoor
open Go.RowKit Go.Maps
theorem zKv(v0 v1 v2 v3:Value)(lo hi:Nat)(W:zH)(w:World)(h:zl w lo hi v0 v1 v2 v3 W)(hT:zBI W)(hs:W.sn<=8)(hp:W.pn<=20) :
  Calls Tryz.prog 73 #[zz v0 v1 v2 v3 W] w fun e w'=>∃R f,e = .returned(.slice(some ⟨R,0,none⟩) W.zRQ.n W.zRQ.n)/\w.heap.size<=R/\yW w' R W.zRQ.n f/\(∀s,f s=true↔zFS W s)/\Below w.heap.size w w':=by
 have Hp:=zB h;have HT:=zB hT;obtain⟨m1,a,c,rfl,mc,_⟩:=id h.zRP;obtain⟨m2,a',c',rfl,mc',_⟩:=id h.zRS;obtain⟨m0,a0,c0,rfl,mc0,_⟩:=id h.zRQ.1;unfold maxLen at m0 m1 m2;have cC:W.zRQ.n<=200:=hT.right.1;clear h hT;obtain⟨i0,hi0,hzz⟩:=Option.map_eq_some_iff.1 zA1;simp only [Prod.mk.injEq] at hzz;have HI:=zB(And.intro hi0 hzz);clear hi0 hzz;have dC:=zEN W.zRQ.n(by omega);have ha:=zC w(.cells #[.slice a0 W.zRQ.n c0,v1,.int .i64 W.time,.int .i64 W.next,.slice a' W.sn c',.slice a W.pn c] 37);have dB:(w.alloc(.cells #[.slice a0 W.zRQ.n c0,v1,.int .i64 W.time,.int .i64 W.next,.slice a' W.sn c',.slice a W.pn c] 37)).heap.size=w.heap.size+1:=World.size_alloc _ _;have mB:∀W1:World,W1=w.alloc(.cells #[.slice a0 W.zRQ.n c0,v1,.int .i64 W.time,.int .i64 W.next,.slice a' W.sn c',.slice a W.pn c] 37)->zi((W1.alloc(.cells(madeCells #[.bool false] W.zRQ.n) 4)).alloc(.cells #[] 61)) w.heap.size(.slice a0 W.zRQ.n c0) v1(.int .i64 W.time)(.int .i64 W.next)(.slice a' W.sn c')(.slice a W.pn c)/\yW((W1.alloc(.cells(madeCells #[.bool false] W.zRQ.n) 4)).alloc(.cells #[] 61))(w.heap.size+1) W.zRQ.n(fun _=>false)/\zw((W1.alloc(.cells(madeCells #[.bool false] W.zRQ.n) 4)).alloc(.cells #[] 61))(w.heap.size+2)(.slice(some ⟨w.heap.size+1+1,0,none⟩) 0 0) []/\Below w.heap.size w((W1.alloc(.cells(madeCells #[.bool false] W.zRQ.n) 4)).alloc(.cells #[] 61)):=by
  rintro W1 rfl;have hB:=zi.zRL w(.slice a0 W.zRQ.n c0) v1(.int .i64 W.time)(.int .i64 W.next)(.slice a' W.sn c')(.slice a W.pn c) 37;have hR:=yW.zRL(w.alloc(.cells #[.slice a0 W.zRQ.n c0,v1,.int .i64 W.time,.int .i64 W.next,.slice a' W.sn c',.slice a W.pn c] 37)) W.zRQ.n 4;rw [dB] at hR;generalize w.alloc(.cells #[.slice a0 W.zRQ.n c0,v1,.int .i64 W.time,.int .i64 W.next,.slice a' W.sn c',.slice a W.pn c] 37)=W1 at *;have b2:=zC W1(.cells(madeCells #[.bool false] W.zRQ.n) 4);have tA:(W1.alloc(.cells(madeCells #[.bool false] W.zRQ.n) 4)).heap.size=w.heap.size+1+1:=(by rw [World.size_alloc,dB]);have pB:=hB.zRJ b2;have aC:=zA ha b2;generalize W1.alloc(.cells(madeCells #[.bool false] W.zRQ.n) 4)=W2 at *;have b3:=zC W2(.cells #[] 61);have l3:=World.ownsRow_lit(e:=61)(size:=2)(base:=w.heap.size+2) W2 #[] 0(by rw [tA];omega)(by unfold maxLen;omega) rfl;rw [tA] at l3;exact⟨pB.zRJ b3,hR.zRJ b3,l3,zA aC b3⟩
 have oB:=zB(mB _ rfl);clear mB;go_enter Tryz.func73,Tryz.ntmps73;obtain⟨⟨x0,x1⟩,⟨x2,x3⟩,⟨x4,x5⟩,⟨x6,x7⟩,⟨x8,x9⟩,⟨x10,x11⟩⟩:=zi.zRL w(.slice a0 W.zRQ.n c0) v1(.int .i64 W.time)(.int .i64 W.next)(.slice a' W.sn c')(.slice a W.pn c) 37;go_wp2;clear x0 x1 x2 x3 x4 x5 x6 x7 x8 x9 x10 x11 ha
 go_loopw [4,5](fun vr i wr=>∃k:Nat,k<=W.sn/\i = .int .i64 k/\zw wr(w.heap.size+2) vr(zB7 W k)/\zi wr w.heap.size(.slice a0 W.zRQ.n c0) v1(.int .i64 W.time)(.int .i64 W.next)(.slice a' W.sn c')(.slice a W.pn c)/\yW wr(w.heap.size+1) W.zRQ.n(fun _=>false)/\Below w.heap.size w wr)(fun _ i _=>W.sn - (intOf i).toNat)
 case atStart=>
  obtain⟨s1,s2,s3,s4⟩:=oB.out;exact⟨0,Nat.zero_le _,rfl,s3,s1,s2,s4⟩
 case round=>
  clear oB dB;obtain⟨k,hk,rfl,hrow,hX,hR,hb⟩:=hrel;have aA:=zB hrow;have HX:=zB hX;have dA:=zB hR;clear hrow hX hR;obtain⟨⟨x0,x1⟩,⟨x2,x3⟩,⟨x4,x5⟩,⟨x6,x7⟩,⟨x8,x9⟩,⟨x10,x11⟩⟩:=HX.out;by_cases iA:k<W.sn
  ·have sA:(k:Int)<(W.sn:Int):=(by omega);obtain⟨b,off,vd,rfl,hs2⟩:=(Hp.out.zRS.zRJ hb).cells iA;have q3:=hs2.c3;have q4:=hs2.c4;clear hs2;have gA:=zC wr(.cells #[.int .i64(W.zRS k).rs,.int .i64(W.zRS k).rb] 61);have cA:=zB(aA.out.zRJ gA);have mA:=zB(HX.out.zRJ gA);have lA:=zB(dA.out.zRJ gA);have rA:=zA hb gA;have tA:=zD x10;have vB:=(dA.out);have tB:(wr.alloc(.cells #[.int .i64(W.zRS k).rs,.int .i64(W.zRS k).rb] 61)).heap.size=wr.heap.size+1:=World.size_alloc _ _;have HN:=zB(World.news_of_block(heap_alloc_last wr(.cells #[.int .i64(W.zRS k).rs,.int .i64(W.zRS k).rb] 61)));have jA:=zBo W k;clear gA aA HX dA vB;go_wp2_with(first
    |(at_builtin;refine wpList_append_lies _ rfl _ _ 62 rfl(w.heap.size+2) 61 i0(.agg #[.int .i64 0,.int .i64 0]) 2 16(by kernel_rfl) HI.out.1 HI.out.2.1 HI.out.2.2.1 HI.out.2.2.2 rfl(by decide) _ _ _ rfl cA.out ⟨wr.heap.size,0,none⟩ 1 1 [.int .i64(W.zRS k).rs,.int .i64(W.zRS k).rb] rfl rfl HN.out(by simp [Value.oneCell'])(by decide)(by unfold maxLen;omega)(by omega)(by omega) _ rfl ?_;intro g' fB w8 fA bA vA eB)
    |go_in)
   go_roundw
   case rel=>
    have kA:∀q,Value.ownBlock _=some q->w.heap.size+2<=q:=fun q hq=>(cA.out.lt hq).1
    refine⟨k+1,by omega,by go_num,?_,mA.out.grown bA(fun q hq=>by have:=kA q hq;omega),lA.out.grown bA(fun q hq=>by have:=kA q hq;omega),rA.grown bA rA.size(fun q hq=>by have:=kA q hq;omega)⟩;rw [zG3,zEZ iA];have nA:=zw.next fA;rw [jA] at nA;exact nA
   case measure=>simp [intOf];omega
  ·obtain rfl:k=W.sn:=(by omega);go_wp2
   go_loopw [4,6](fun vr i wr=>∃k:Nat,k<=W.pn/\i = .int .i64 k/\zw wr(w.heap.size+2) vr(zB7 W(W.sn+k))/\zi wr w.heap.size(.slice a0 W.zRQ.n c0) v1(.int .i64 W.time)(.int .i64 W.next)(.slice a' W.sn c')(.slice a W.pn c)/\yW wr(w.heap.size+1) W.zRQ.n(fun _=>false)/\Below w.heap.size w wr)(fun _ i _=>W.pn - (intOf i).toNat)
   case atStart=>exact⟨0,Nat.zero_le _,rfl,aA.out,HX.out,dA.out,hb⟩
   case round=>
    clear x0 x1 x2 x3 x4 x5 x6 x7 x8 x9 x10 x11 HX hb aA dA;obtain⟨k,hk,rfl,hrow,hX,hR,hb⟩:=hrel;have aA:=zB hrow;have HX:=zB hX;have dA:=zB hR;clear hrow hX hR;obtain⟨⟨x0,x1⟩,⟨x2,x3⟩,⟨x4,x5⟩,⟨x6,x7⟩,⟨x8,x9⟩,⟨x10,x11⟩⟩:=HX.out;by_cases iA:k<W.pn
    ·have sA:(k:Int)<(W.pn:Int):=(by omega);obtain⟨b,off,vd,rfl,hs2⟩:=(Hp.out.zRP.zRJ hb).cells iA;have q3:=hs2.c5;have q4:=hs2.c6;clear hs2;have gA:=zC wr(.cells #[.int .i64(W.zRP k).rs,.int .i64(W.zRP k).rb] 61);have cA:=zB(aA.out.zRJ gA);have mA:=zB(HX.out.zRJ gA);have lA:=zB(dA.out.zRJ gA);have rA:=zA hb gA;have tA:=zD x10;have tB:(wr.alloc(.cells #[.int .i64(W.zRP k).rs,.int .i64(W.zRP k).rb] 61)).heap.size=wr.heap.size+1:=World.size_alloc _ _;have HN:=zB(World.news_of_block(heap_alloc_last wr(.cells #[.int .i64(W.zRP k).rs,.int .i64(W.zRP k).rb] 61)));have jA:=zBo W(W.sn+k);clear gA aA HX dA;go_wp2_with(first
      |(at_builtin;refine wpList_append_lies _ rfl _ _ 62 rfl(w.heap.size+2) 61 i0(.agg #[.int .i64 0,.int .i64 0]) 2 16(by kernel_rfl) HI.out.1 HI.out.2.1 HI.out.2.2.1 HI.out.2.2.2 rfl(by decide) _ _ _ rfl cA.out ⟨wr.heap.size,0,none⟩ 1 1 [.int .i64(W.zRP k).rs,.int .i64(W.zRP k).rb] rfl rfl HN.out(by simp [Value.oneCell'])(by decide)(by unfold maxLen;omega)(by omega)(by omega) _ rfl ?_;intro g' fB w8 fA bA vA eB)
      |go_in)
     go_roundw
     case rel=>
      have kA:∀q,Value.ownBlock _=some q->w.heap.size+2<=q:=fun q hq=>(cA.out.lt hq).1
      refine⟨k+1,by omega,by go_num,?_,mA.out.grown bA(fun q hq=>by have:=kA q hq;omega),lA.out.grown bA(fun q hq=>by have:=kA q hq;omega),rA.grown bA rA.size(fun q hq=>by have:=kA q hq;omega)⟩;rw [show W.sn+(k+1)=W.sn+k+1 from rfl,zG3,zDg];have nA:=zw.next fA;rw [jA] at nA;exact nA
     case measure=>simp [intOf];omega
    ·obtain rfl:k=W.pn:=(by omega);go_wp2;obtain⟨ar,cr,rfl,hcr⟩:=zW aA.out;rw [zBo] at *;clear x0 x1 x2 x3 x4 x5 x6 x7 x8 x9 x10 x11
     go_loopw [7](fun i wr=>∃k:Nat,∃f,k<=W.sn+W.pn/\i = .int .i64 k/\zw wr(w.heap.size+2)(.slice ar(W.sn+W.pn) cr)(zB7 W(W.sn+W.pn))/\zi wr w.heap.size(.slice a0 W.zRQ.n c0) v1(.int .i64 W.time)(.int .i64 W.next)(.slice a' W.sn c')(.slice a W.pn c)/\yW wr(w.heap.size+1) W.zRQ.n f/\zET W k [] 0 f/\Below w.heap.size w wr)(fun i _=>W.sn+W.pn - (intOf i).toNat)
     case atStart=>exact⟨0,fun _=>false,Nat.zero_le _,rfl,aA.out,HX.out,dA.out,fun s=>⟨fun h=>absurd h(by simp),fun h=>by rcases h with⟨i,hi,_⟩ | ⟨q,hq,_⟩<;>omega⟩,hb⟩
     case round=>
      clear HX hb aA dA;obtain⟨k,f,hk,rfl,hrow,hX,hR,hm,hb⟩:=hrel;have aA:=zB hrow;have HX:=zB hX;have dA:=zB hR;have Hm:=zB hm;clear hrow hX hR hm;by_cases iA:k<W.sn+W.pn
      ·have sA:(k:Int)<(W.sn+W.pn:Int):=(by omega);have jB:=zOs HT.out iA;have aB:=zNv(W:=W) iA;have eA:=(aA.out.atW(by rw [zBo];omega));rw [zBo] at eA;obtain⟨b,off,rfl,q0,q1⟩:=eA.zRN iA;rw [aB.1] at q0;rw [aB.2] at q1;have bB:=zB jB;clear jB aB;generalize lB:(zBc W k).1=rs at *;generalize iB:(zBc W k).2=rb at *;have cB:=zB(And.intro lB iB);clear lB iB eA;obtain⟨⟨x0,x1⟩,⟨x2,x3⟩,⟨x4,x5⟩,⟨x6,x7⟩,⟨x8,x9⟩,⟨x10,x11⟩⟩:=HX.out;clear x1 x3 x4 x5 x6 x7 x8 x9 x10 x11;go_wp2_with fail;go_region_held3(fun w'=>w'.cell? ⟨w.heap.size,0,none⟩=some(.slice a0 W.zRQ.n c0)/\w'.cell? ⟨w.heap.size,1,none⟩=some v1/\w'.cell? ⟨b,off+k*2,none⟩=some(.int .i64 rs)/\w'.cell? ⟨b,off+k*2+1,none⟩=some(.int .i64 rb))(go_keep)
        (first | (go_at_call 141;refine(yf _ v1 lo hi W.zRQ rs rb _ ?_ HT.out.right bB.out).mono ?_;(exact(Hp.out.zRQ.zRJ hb).zRJ(Below.refl _ _).drew);rintro e w6 ⟨vl,rfl,hrl,hb6⟩;obtain⟨⟨y0,_⟩,⟨y1,_⟩,_⟩:=HX.out.zRJ(zK hb6);have z0:=(hb6.cell(p:=⟨b,off+k*2,none⟩)(zD q0)).trans q0;have z1:=(hb6.cell(p:=⟨b,off+k*2+1,none⟩)(zD q1)).trans q1))
       have pA:=qh hb hb6;have mA:=zB(HX.out.zRJ(zK hb6));have lA:=zB(dA.out.zRJ(zK hb6));have cA:=zB(aA.out.zRJ(zK hb6));have gB:0<W.zRQ.n->w.heap.size+1<wr.heap.size:=fun h0=>(dA.out 0 h0).lt
       have Hl:=zB hrl;clear hb6 hrl z0 z1 y0 y1 q0 q1 x0 x2 HX dA aA;have nB:wr.drew.heap.size=wr.heap.size:=rfl;rw [nB] at Hl;obtain⟨al,cl,rfl,hcl⟩:=zW Hl.out;have eC:=qM W.zRQ rs rb;have rB:=zB(fun j(hj:j<(zT W.zRQ rs rb).length)=>zIE HT.out.right bB.out hj);have HE:=zB(show zT W.zRQ rs rb=zT W.zRQ(zBc W k).1(zBc W k).2 by rw [cB.out.1,cB.out.2]);generalize zT W.zRQ rs rb=l at *;clear cB bB nB;go_wp2
       go_loopw [9](fun i oA=>∃j:Nat,∃f,j<=l.length/\i = .int .i64 j/\zw oA wr.heap.size(.slice al l.length cl) l/\zw oA(w.heap.size+2)(.slice(some ⟨b,off,none⟩)(W.sn+W.pn) cr)(zB7 W(W.sn+W.pn))/\zi oA w.heap.size(.slice a0 W.zRQ.n c0) v1(.int .i64 W.time)(.int .i64 W.next)(.slice a' W.sn c')(.slice a W.pn c)/\yW oA(w.heap.size+1) W.zRQ.n f/\zET W k l j f/\Below w.heap.size w oA)(fun i _=>l.length - (intOf i).toNat)
       case atStart=>exact⟨0,f,Nat.zero_le _,rfl,Hl.out,cA.out,mA.out,lA.out,zLo Hm.out l,pA⟩
       case round=>
        clear mA lA cA Hl pA Hm f;obtain⟨j,f,hj,rfl,hl2,hrow,hX,hR,hm,pA⟩:=hrel;have Hl:=zB hl2;have aA:=zB hrow;have HX:=zB hX;have dA:=zB hR;have Hm:=zB hm;clear hrow hX hR hm hl2;by_cases kB:j<l.length
        ·have bC:(j:Int)<(l.length:Int):=(by omega);obtain⟨b2,off2,rfl,q0,q1⟩:=(Hl.out.atW(by omega)).zRN kB;obtain⟨s,hs1,hs2⟩:=rB.out j kB;have fC:(s:Int)<(W.zRQ.n:Int):=(by omega);rw [hs1] at q0;obtain⟨y0,y1⟩:=dA.out s hs2;have sB:=zB hs1;clear hs1 q1;go_wp2;go_roundw
         case rel=>exact⟨j+1,_,by omega,by go_num,Hl.out.put(gB(by omega)) _,aA.out.put(by omega) _,HX.out.zRR(zF.put _(w.heap.size+1) s _)(by omega),dA.out.put true,zMS Hm.out sB.out,pA.setCell(show w.heap.size<=w.heap.size+1 by omega) _⟩
         case measure=>simp [intOf];omega
        ·obtain rfl:j=l.length:=(by omega);go_wp2;go_roundw
         case rel=>exact⟨k+1,f,by omega,by go_num,aA.out,HX.out,dA.out,zMj Hm.out HE.out,pA⟩
         case measure=>simp [intOf];omega
      ·obtain rfl:k=W.sn+W.pn:=(by omega);go_wp2;go_ret;refine⟨_,f,rfl,by omega,dA.out,fun s=>?_,hb⟩;rw [Hm.out s,zMb];constructor
       ·rintro(h | ⟨q,hq,_⟩)
        ·exact h
        ·omega
       ·exact Or.inl
def zKJ(W:zH)(k:Nat):Prop:=∀i,i<k->∀j,j<i->∀x,x∈zFP W(zO W i)->∀y,y∈zFP W(zO W j)->x.1≠y.1
def zCo(W:zH)(k:Nat)(now old:List(Int×Int))(j:Nat):Prop:=∀q,q<j->(zf now q,zh now q)∉old->∀i,i<k->∀y,y∈zFP W(zO W i)->zf now q≠y.1
def zQ1(W:zH)(k:Nat)(now old:List(Int×Int))(j s:Nat):Prop:=(∃i,i<k/\∃b,((s:Int),b)∈zFP W(zO W i))\/∃q,q<j/\zf now q=(s:Int)/\(zf now q,zh now q)∉old
def zBk(W:zH)(k:Nat)(now old:List(Int×Int))(j:Nat)(f:Nat->Bool):Prop:=∀s,f s=true↔zQ1 W k now old j s
theorem zHa{W:zH}{k:Nat}{aA bA:List(Int×Int)}(h:zKJ W k)(hn:aA=yV W(zO W k))(ho:bA=zCr W(zO W k))(hr:zCo W k aA bA aA.length):zKJ W(k+1):=by
 intro i hi j hj x hx y hy;by_cases e:i=k
 ·subst e;obtain⟨h1,h2⟩:=List.mem_filter.1 hx;rw [<-hn] at h1;rw [<-ho] at h2;obtain⟨q,hq,e⟩:=List.getElem_of_mem h1;have:=hr q hq;unfold zf zh at this;rw [yE hq,e] at this;exact this(by simpa using h2) j hj y hy
 ·exact h i(by omega) j hj x hx y hy
theorem zJk{W:zH}{k j:Nat}{aA bA:List(Int×Int)}{f:Nat->Bool}(h:zBk W k aA bA j f)(cA:(zf aA j,zh aA j)∈bA):zBk W k aA bA(j+1) f:=by
 intro s;rw [h s];constructor
 ·rintro(h | ⟨q,hq,h⟩)
  ·exact Or.inl h
  ·exact Or.inr ⟨q,by omega,h⟩
 ·rintro(h | ⟨q,hq,h1,h2⟩)
  ·exact Or.inl h
  ·by_cases e:q=j
   ·subst e;exact absurd cA h2
   ·exact Or.inr ⟨q,by omega,h1,h2⟩
theorem zJp{W:zH}{k j s:Nat}{aA bA:List(Int×Int)}{f:Nat->Bool}(h:zBk W k aA bA j f)(hs:zf aA j=(s:Int))(cA:(zf aA j,zh aA j)∉bA):zBk W k aA bA(j+1)(fun i=>if i=s then true else f i):=by
 intro i;show(if i=s then true else f i)=true↔_;by_cases e:i=s
 ·subst e;rw [if_pos rfl];exact⟨fun _=>Or.inr ⟨j,by omega,hs,cA⟩,fun _=>rfl⟩
 ·rw [if_neg e,h i];constructor
  ·rintro(h | ⟨q,hq,h⟩)
   ·exact Or.inl h
   ·exact Or.inr ⟨q,by omega,h⟩
  ·rintro(h | ⟨q,hq,h,h2⟩)
   ·exact Or.inl h
   ·by_cases eq:q=j
    ·subst eq;exact absurd(by omega) e
    ·exact Or.inr ⟨q,by omega,h,h2⟩
theorem zLX{W:zH}{k j:Nat}{aA bA:List(Int×Int)}(h:zCo W k aA bA j)(cA:(zf aA j,zh aA j)∈bA):zCo W k aA bA(j+1):=by
 intro q hq;by_cases e:q=j
 ·subst e;exact fun h=>absurd cA h
 ·exact h q(by omega)
theorem zLg{W:zH}{k j s:Nat}{aA bA:List(Int×Int)}{f:Nat->Bool}(h:zCo W k aA bA j)(hS:zBk W k aA bA j f)(hs:zf aA j=(s:Int))(hf:f s=false):zCo W k aA bA(j+1):=by
 intro q hq;by_cases e:q=j
 ·subst e;intro _ i hi y hy ey;have:f s=true:=(hS s).2(Or.inl ⟨i,hi,y.2,by rw [<-hs,ey];exact hy⟩);rw [hf] at this;exact absurd this(by simp)
 ·exact h q(by omega)
theorem zJZ{W:zH}{k:Nat}{aA bA:List(Int×Int)}{f:Nat->Bool}(h:zBk W k aA bA aA.length f)(hn:aA=yV W(zO W k))(ho:bA=zCr W(zO W k)):zBk W(k+1) [] [] 0 f:=by
 intro s;rw [h s];constructor
 ·rintro(⟨i,hi,h⟩ | ⟨q,hq,e,h2⟩)
  ·exact Or.inl ⟨i,by omega,h⟩
  ·refine Or.inl ⟨k,by omega,(aA[q]).2,?_⟩;unfold zf zh at h2;unfold zf at e;rw [yE hq] at e h2;refine List.mem_filter.2 ⟨?_,?_⟩
   ·rw [<-hn,<-e];exact List.getElem_mem hq
   ·rw [<-ho,<-e];simpa using h2
 ·rintro(⟨i,hi,b,h2⟩ | ⟨q,hq,_⟩)
  ·by_cases e:i=k
   ·subst e;obtain⟨h3,h4⟩:=List.mem_filter.1 h2;rw [<-hn] at h3;rw [<-ho] at h4;obtain⟨q,hq,e⟩:=List.getElem_of_mem h3;refine Or.inr ⟨q,hq,?_⟩;unfold zf zh;rw [yE hq,e];exact⟨rfl,by simpa using h4⟩
   ·exact Or.inl ⟨i,by omega,b,h2⟩
  ·omega
theorem zHZ{W:zH}{k:Nat}{f:Nat->Bool}(h:zBk W k [] [] 0 f)(aA bA:List(Int×Int)):zBk W k aA bA 0 f:=by
 intro s;rw [h s];constructor
 ·rintro(h | ⟨q,hq,_⟩)
  ·exact Or.inl h
  ·omega
 ·rintro(h | ⟨q,hq,_⟩)
  ·exact Or.inl h
  ·omega
theorem zHf{W:zH}{k j s:Nat}{aA bA:List(Int×Int)}{f:Nat->Bool}(hT:zBI W)(hk:k<zq W)(hn:aA=yV W(zO W k))(ho:bA=zCr W(zO W k))(hS:zBk W k aA bA j f)(hj:j<aA.length)(hs:zf aA j=(s:Int))(dA:(zf aA j,zh aA j)∉bA)(hf:f s=true):¬zGZ W:=by
 intro hA;rcases(hS s).1 hf with⟨i,hi,b,h⟩ | ⟨q,hq,e,h2⟩
 ·refine hA k hk i hi(zf aA j,zh aA j) ?_ _ h hs;refine List.mem_filter.2 ⟨?_,by rw [<-ho];simpa using dA⟩;rw [<-hn];unfold zf zh;rw [yE hj];exact List.getElem_mem hj
 ·have cA:=zBK hT.right(l:=aA)(fun x hx=>by rw [hn] at hx;exact(zAW hT.right(hT.tree k hk) hx).1)(by rw [hn];exact zAe hT.right(hT.tree k hk))(by rw [hn];have:=qM W.zRQ(zO W k).rs(zO W k).rb;unfold yV;omega);exact cA.2.2 j hj q hq(by rw [e,hs])
theorem zKD(v0 v1 v2 v3:Value)(lo hi:Nat)(W:zH)(w:World)(h:zl w lo hi v0 v1 v2 v3 W)(hT:zBI W)(hP:zCl W)(hs:W.sn<=8)(hp:W.pn<=20) :
  Calls Tryz.prog 77 #[zz v0 v1 v2 v3 W] w fun e w'=>zG(zGZ W) e/\Below w.heap.size w w':=by
 have Hp:=zB h;have HT:=zB hT;have HP:=zB hP;obtain⟨m1,a,c,rfl,mc,-⟩:=id h.zRP;obtain⟨m2,a',c',rfl,mc',-⟩:=id h.zRS;obtain⟨m0,a0,c0,rfl,mc0,-⟩:=id h.zRQ.1;unfold maxLen at m0 m1 m2;have mD:W.zRQ.n<=200:=hT.right.1;clear h hT hP;have oD:=zEN W.zRQ.n(by omega);have ha:=zC w(.cells #[.slice a0 W.zRQ.n c0,v1,.int .i64 W.time,.int .i64 W.next,.slice a' W.sn c',.slice a W.pn c] 37);have mC:(w.alloc(.cells #[.slice a0 W.zRQ.n c0,v1,.int .i64 W.time,.int .i64 W.next,.slice a' W.sn c',.slice a W.pn c] 37)).heap.size=w.heap.size+1:=World.size_alloc _ _;have dD:∀W1:World,W1=w.alloc(.cells #[.slice a0 W.zRQ.n c0,v1,.int .i64 W.time,.int .i64 W.next,.slice a' W.sn c',.slice a W.pn c] 37)->zi(W1.alloc(.cells(madeCells #[.bool false] W.zRQ.n) 4)) w.heap.size(.slice a0 W.zRQ.n c0) v1(.int .i64 W.time)(.int .i64 W.next)(.slice a' W.sn c')(.slice a W.pn c)/\yW(W1.alloc(.cells(madeCells #[.bool false] W.zRQ.n) 4))(w.heap.size+1) W.zRQ.n(fun _=>false)/\Below w.heap.size w(W1.alloc(.cells(madeCells #[.bool false] W.zRQ.n) 4))/\w.heap.size+2<=(W1.alloc(.cells(madeCells #[.bool false] W.zRQ.n) 4)).heap.size:=by
  rintro W1 rfl;have hB:=zi.zRL w(.slice a0 W.zRQ.n c0) v1(.int .i64 W.time)(.int .i64 W.next)(.slice a' W.sn c')(.slice a W.pn c) 37;have hR:=yW.zRL(w.alloc(.cells #[.slice a0 W.zRQ.n c0,v1,.int .i64 W.time,.int .i64 W.next,.slice a' W.sn c',.slice a W.pn c] 37)) W.zRQ.n 4;rw [mC] at hR;generalize w.alloc(.cells #[.slice a0 W.zRQ.n c0,v1,.int .i64 W.time,.int .i64 W.next,.slice a' W.sn c',.slice a W.pn c] 37)=W1 at *;have b2:=zC W1(.cells(madeCells #[.bool false] W.zRQ.n) 4);exact⟨hB.zRJ b2,hR,zA ha b2,by rw [World.size_alloc,mC];omega⟩
 have eD:=zB(dD _ rfl);clear dD;go_enter Tryz.func77,Tryz.ntmps77;obtain⟨⟨x0,x1⟩,⟨x2,x3⟩,⟨x4,x5⟩,⟨x6,x7⟩,⟨x8,x9⟩,⟨x10,x11⟩⟩:=zi.zRL w(.slice a0 W.zRQ.n c0) v1(.int .i64 W.time)(.int .i64 W.next)(.slice a' W.sn c')(.slice a W.pn c) 37;go_wp2;clear x0 x1 x2 x3 x4 x5 x6 x7 x8 x9 x10 x11 ha
 go_loopw [4](fun i wr=>∃k:Nat,∃f,k<=W.pn+W.sn/\i = .int .i64 k/\zi wr w.heap.size(.slice a0 W.zRQ.n c0) v1(.int .i64 W.time)(.int .i64 W.next)(.slice a' W.sn c')(.slice a W.pn c)/\yW wr(w.heap.size+1) W.zRQ.n f/\zBk W k [] [] 0 f/\zKJ W k/\Below w.heap.size w wr/\w.heap.size+2<=wr.heap.size)(fun i _=>W.pn+W.sn - (intOf i).toNat)
 case atStart=>
  obtain⟨s1,s2,s3,s4⟩:=eD.out;exact⟨0,fun _=>false,Nat.zero_le _,rfl,s1,s2,fun s=>⟨fun h=>absurd h(by simp),fun h=>by rcases h with⟨i,hi,_⟩ | ⟨q,hq,_⟩<;>omega⟩,fun i hi=>absurd hi(Nat.not_lt_zero _),s3,s4⟩
 case round=>
  clear eD mC;obtain⟨k,f,hk,rfl,hX,hR,hS,hA,hb,hz⟩:=hrel;have HX:=zB hX;have dA:=zB hR;have HS:=zB hS;have HA:=zB hA;clear hX hR hS hA;obtain⟨⟨x0,x1⟩,⟨x2,x3⟩,⟨x4,x5⟩,⟨x6,x7⟩,⟨x8,x9⟩,⟨x10,x11⟩⟩:=HX.out;by_cases nD:k<W.pn+W.sn
  ·have fD:(k:Int)<(W.pn+W.sn:Int):=(by omega);by_cases cD:k<W.pn
   ·have tC:(k:Int)<(W.pn:Int):=(by omega);obtain⟨b,off,vd,rfl,hsc⟩:=(Hp.out.zRP.zRJ hb).cells cD;have q3:=hsc.c3;have q5:=hsc.c5;have q6:=hsc.c6;have Hm:=zB(show(zO W k).zRT=(W.zRP k).zRT/\(zO W k).rs=(W.zRP k).rs/\(zO W k).rb=(W.zRP k).rb from by rw [qS cD];exact⟨rfl,rfl,rfl⟩);clear hsc;have cA:=zC wr(.cells #[.int .i64 0,.int .i64 0] 61);have tB:=zB(HX.out.zRJ cA);have fC:=zB(zc.zRL wr(.int .i64 0)(.int .i64 0) 61);have sC:=zB(dA.out.zRJ cA);have r3:=(cA.cell(zD q3)).trans q3;have r5:=(cA.cell(zD q5)).trans q5;have r6:=(cA.cell(zD q6)).trans q6;have nC:=zA hb cA;have oC:(wr.alloc(.cells #[.int .i64 0,.int .i64 0] 61)).heap.size=wr.heap.size+1:=World.size_alloc _ _;have rC:b<wr.heap.size:=zD q3;have fB:w.heap.size≠wr.heap.size:=(by omega);have bB:b≠wr.heap.size:=(by omega);obtain⟨⟨y0,y1⟩,⟨y2,y3⟩,⟨y4,y5⟩,⟨y6,y7⟩,⟨y8,y9⟩,⟨y10,y11⟩⟩:=tB.out;obtain⟨⟨p0,p1⟩,⟨p2,p3⟩⟩:=fC.out;generalize bC:(W.zRP k).zRT=x at *;generalize nA:(W.zRP k).rs=rs at *;generalize mA:(W.zRP k).rb=rb at *;have vC:=zB(And.intro bC(And.intro nA mA));clear bC nA mA;have pA:=zC wr(.cells #[.int .i64 rs,.int .i64 rb] 61);have tA:=zB(HX.out.zRJ pA);have kB:=zB(zc.zRL wr(.int .i64 rs)(.int .i64 rb) 61);have mB:=zB(dA.out.zRJ pA);have vA:=zA hb pA;obtain⟨⟨z0,z1⟩,⟨z2,z3⟩,⟨z4,z5⟩,⟨z6,z7⟩,⟨z8,z9⟩,⟨z10,z11⟩⟩:=tA.out;go_wp2_with fail;clear x0 x1 x2 x3 x4 x5 x6 x7 x8 x9 x10 x11 y0 y1 y2 y3 y4 y5 y6 y7 y8 y9 y10 y11 z0 z1 z2 z3 z4 z5 z6 z7 z8 z9 z10 z11 p0 p1 p2 p3 r3 r5 r6 q3 q5 q6 tB fC sC nC cA oC fB bB rC pA;have dC:w.heap.size+2<=(wr.alloc(.cells #[.int .i64 rs,.int .i64 rb] 61)).heap.size:=(by rw [World.size_alloc];omega);generalize wr.alloc(.cells #[.int .i64 rs,.int .i64 rb] 61)=W3 at tA kB mB vA dC ⊢;refine(zAr _ v1 _ _ lo hi W x W3(Hp.out.zRJ vA)).mono ?_;rintro e w1 ⟨s,bb,t,rfl,hF,hb3⟩;have hq:=zF5 HP.out hF;have eC:=zB(show qF W.zRQ s bb by rw [hq.1,hq.2.1];exact HT.out.old x);have iB:=zB(show qF W.zRQ rs rb by have:=HT.out.tree k(by unfold zq;omega);rw [Hm.out.2.1,Hm.out.2.2] at this;exact this);have HE:=zB(show zT W.zRQ rs rb=yV W(zO W k)/\zT W.zRQ s bb=zCr W(zO W k)by unfold yV zCr;rw [Hm.out.1,Hm.out.2.1,Hm.out.2.2,hq.1,hq.2.1];exact⟨rfl,rfl⟩);have gA:=zC w1(.cells #[.int .i64 s,.int .i64 bb] 61);have sA:=zB((tA.out.zRJ hb3).zRJ gA);have cB:=zB((kB.out.zRJ hb3).zRJ gA);have nB:=zB((mB.out.zRJ hb3).zRJ gA);have dB:=zB(zc.zRL w1(.int .i64 s)(.int .i64 bb) 61);have rA:=zA(zA vA hb3) gA;have pB:w.heap.size+2<=(w1.alloc(.cells #[.int .i64 s,.int .i64 bb] 61)).heap.size:=(by have h1:=hb3.size;have h2:=gA.size;omega);clear hq hF hb3 gA tA kB mB vA dC vC Hm;obtain⟨⟨x0,x1⟩,⟨x2,x3⟩,⟨x4,x5⟩,⟨x6,x7⟩,⟨x8,x9⟩,⟨x10,x11⟩⟩:=sA.out;obtain⟨⟨p0,p1⟩,⟨p2,p3⟩⟩:=dB.out;clear x4 x5 x6 x7 x8 x9 x10 x11 x1 x3 p1 p3;go_wp2_with fail;clear x0 x2 p0 p2;generalize w1.alloc(.cells #[.int .i64 s,.int .i64 bb] 61)=w4 at sA cB nB dB rA pB ⊢;refine(yf _ v1 lo hi W.zRQ s bb w4(Hp.out.zRQ.zRJ rA) HT.out.right eC.out).mono ?_;rintro e w5 ⟨vo,rfl,hro,hb6⟩;have lB:=zB(sA.out.zRJ hb6);have kC:=zB(cB.out.zRJ hb6);have iC:=zB(nB.out.zRJ hb6);have fA:=zB(hro.mono pB);have eB:=zA rA hb6;have vB:w.heap.size+2<=w5.heap.size:=(by have h1:=hb6.size;omega);clear hro hb6 sA cB nB dB rA pB eC;obtain⟨⟨x0,x1⟩,⟨x2,x3⟩,⟨x4,x5⟩,⟨x6,x7⟩,⟨x8,x9⟩,⟨x10,x11⟩⟩:=lB.out;obtain⟨⟨p0,p1⟩,⟨p2,p3⟩⟩:=kC.out;clear x4 x5 x6 x7 x8 x9 x10 x11 x1 x3 p1 p3;go_wp2_with fail;clear x0 x2 p0 p2;refine(yf _ v1 lo hi W.zRQ rs rb w5(Hp.out.zRQ.zRJ eB) HT.out.right iB.out).mono ?_;rintro e w6 ⟨vn,rfl,hrn,hb8⟩;have lC:=zB(lB.out.zRJ hb8);have aC:=zB(iC.out.zRJ hb8);have iA:=zB(fA.out.zRJ hb8);have aA:=zB(hrn.mono vB);have gC:=zA eB hb8;have cC:w.heap.size+2<=w6.heap.size:=(by have h1:=hb8.size;omega);have pC:=zB(fun j(hj:j<(zT W.zRQ rs rb).length)=>zIE HT.out.right iB.out hj);have lD:=qM W.zRQ rs rb;have iD:=qM W.zRQ s bb;clear hrn hb8 lB kC iC fA eB vB iB;obtain⟨an,cn,rfl,hcn⟩:=zW aA.out;generalize zT W.zRQ rs rb=now at *;generalize zT W.zRQ s bb=old at *;go_wp2
    go_loopw [11](fun i eA=>∃j:Nat,∃f,j<=now.length/\i = .int .i64 j/\zw eA(w.heap.size+2) vo old/\zw eA(w.heap.size+2)(.slice an now.length cn) now/\zi eA w.heap.size(.slice a0 W.zRQ.n c0) v1(.int .i64 W.time)(.int .i64 W.next)(.slice a' W.sn c')(.slice(some ⟨b,off,none⟩) W.pn c)/\yW eA(w.heap.size+1) W.zRQ.n f/\zBk W k now old j f/\zCo W k now old j/\Below w.heap.size w eA/\w.heap.size+2<=eA.heap.size)(fun i _=>now.length - (intOf i).toNat)
    case atStart=>exact⟨0,f,Nat.zero_le _,rfl,iA.out,aA.out,lC.out,aC.out,zHZ HS.out _ _,fun q hq=>absurd hq(Nat.not_lt_zero _),gC,cC⟩
    case round=>
     clear lC aC iA aA gC cC HS HX dA hb hz;obtain⟨j,f,hj,rfl,hro,hrn,hX,hR,hS,hAr,hb,hz⟩:=hrel;have fA:=zB hro;have rB:=zB hrn;have HX:=zB hX;have dA:=zB hR;have HS:=zB hS;have gB:=zB hAr;clear hro hrn hX hR hS hAr;by_cases oB:j<now.length
     ·have aD:(j:Int)<(now.length:Int):=(by omega);obtain⟨b2,off2,rfl,q0,q1⟩:=(rB.out.atW(by omega)).zRN oB;obtain⟨sl,hs1,hs2⟩:=pC.out j oB;have kD:(sl:Int)<(W.zRQ.n:Int):=(by omega);have oA:=zB hs1;clear hs1;go_wp2_with fail;refine(zDE _ old.length 0 _(zf old)(zh old)(zf now j)(zh now j) _(fA.out.atW(by omega))).mono ?_;rintro e w7 ⟨⟨t7,rfl,ht7⟩,hb10⟩;have aB:=zB(ht7.trans zBT);have z0:=(hb10.cell(p:=⟨b2,off2+j*2,none⟩)(zD q0)).trans q0;have lA:=zB(fA.out.zRJ hb10);have kA:=zB(rB.out.zRJ hb10);have jC:=zB(HX.out.zRJ hb10);have sB:=zB(dA.out.zRJ hb10);have bA:=zA hb hb10;have jA:w.heap.size+2<=w7.heap.size:=(by have h1:=hb10.size;omega);clear ht7 hb10 q0 q1 fA rB HX dA hb hz;cases t7
      ·have Hn:=zB(show(zf now j,zh now j)∉old from fun h=>absurd(aB.out.2 h)(by simp));clear aB;rw [oA.out] at z0;obtain⟨y0,y1⟩:=sB.out sl hs2;cases hfs:f sl
       ·have jB:=zB hfs;rw [hfs] at y0;clear hfs;go_wp2;go_roundw
        case rel=>exact⟨j+1,_,by omega,by go_num,lA.out.put(by omega) _,kA.out.put(by omega) _,jC.out.zRR(zF.put _(w.heap.size+1) sl _)(by omega),sB.out.put true,zJp HS.out oA.out Hn.out,zLg gB.out HS.out oA.out jB.out,bA.setCell(show w.heap.size<=w.heap.size+1 by omega) _,by rw [World.size_setCell];exact jA⟩
        case measure=>simp [intOf];omega
       ·have jB:=zB hfs;rw [hfs] at y0;clear hfs;go_wp2;go_ret;exact⟨zG.no(zHf HT.out(by unfold zq;omega) HE.out.1 HE.out.2 HS.out oB oA.out Hn.out jB.out),bA⟩
      ·have Hn:=zB(aB.out.1 rfl);clear aB;go_wp2;go_roundw
       case rel=>exact⟨j+1,f,by omega,by go_num,lA.out,kA.out,jC.out,sB.out,zJk HS.out Hn.out,zLX gB.out Hn.out,bA,jA⟩
       case measure=>simp [intOf];omega
     ·obtain rfl:j=now.length:=(by omega);go_wp2;go_roundw
      case rel=>exact⟨k+1,f,by omega,by go_num,HX.out,dA.out,zJZ HS.out HE.out.1 HE.out.2,zHa HA.out HE.out.1 HE.out.2 gB.out,hb,hz⟩
      case measure=>simp [intOf];omega
   ·have tC:¬(k:Int)<(W.pn:Int):=(by omega);have bD:k - W.pn<W.sn:=(by omega);have jD:(k:Int) - (W.pn:Int)=((k - W.pn:Nat):Int):=(Int.ofNat_sub(by omega)).symm;have gD:((k - W.pn:Nat):Int)<(W.sn:Int):=Int.ofNat_lt.2 bD;obtain⟨b,off,vd,rfl,hsc⟩:=(Hp.out.zRS.zRJ hb).cells bD;have q3:=hsc.c2;have q5:=hsc.c3;have q6:=hsc.c4;have Hm:=zB(show(zO W k).zRT=(W.zRS(k - W.pn)).zRT/\(zO W k).rs=(W.zRS(k - W.pn)).rs/\(zO W k).rb=(W.zRS(k - W.pn)).rb from by have e:=yH W(k - W.pn);rw [show W.pn+(k - W.pn)=k by omega] at e;rw [e];exact⟨rfl,rfl,rfl⟩);clear hsc;have cA:=zC wr(.cells #[.int .i64 0,.int .i64 0] 61);have tB:=zB(HX.out.zRJ cA);have fC:=zB(zc.zRL wr(.int .i64 0)(.int .i64 0) 61);have sC:=zB(dA.out.zRJ cA);have r3:=(cA.cell(zD q3)).trans q3;have r5:=(cA.cell(zD q5)).trans q5;have r6:=(cA.cell(zD q6)).trans q6;have nC:=zA hb cA;have oC:(wr.alloc(.cells #[.int .i64 0,.int .i64 0] 61)).heap.size=wr.heap.size+1:=World.size_alloc _ _;have rC:b<wr.heap.size:=zD q3;have fB:w.heap.size≠wr.heap.size:=(by omega);have bB:b≠wr.heap.size:=(by omega);obtain⟨⟨y0,y1⟩,⟨y2,y3⟩,⟨y4,y5⟩,⟨y6,y7⟩,⟨y8,y9⟩,⟨y10,y11⟩⟩:=tB.out;obtain⟨⟨p0,p1⟩,⟨p2,p3⟩⟩:=fC.out;generalize bC:(W.zRS(k - W.pn)).zRT=x at *;generalize nA:(W.zRS(k - W.pn)).rs=rs at *;generalize mA:(W.zRS(k - W.pn)).rb=rb at *;have vC:=zB(And.intro bC(And.intro nA mA));clear bC nA mA;have pA:=zC wr(.cells #[.int .i64 rs,.int .i64 rb] 61);have tA:=zB(HX.out.zRJ pA);have kB:=zB(zc.zRL wr(.int .i64 rs)(.int .i64 rb) 61);have mB:=zB(dA.out.zRJ pA);have vA:=zA hb pA;obtain⟨⟨z0,z1⟩,⟨z2,z3⟩,⟨z4,z5⟩,⟨z6,z7⟩,⟨z8,z9⟩,⟨z10,z11⟩⟩:=tA.out;go_wp2_with fail;clear x0 x1 x2 x3 x4 x5 x6 x7 x8 x9 x10 x11 y0 y1 y2 y3 y4 y5 y6 y7 y8 y9 y10 y11 z0 z1 z2 z3 z4 z5 z6 z7 z8 z9 z10 z11 p0 p1 p2 p3 r3 r5 r6 q3 q5 q6 tB fC sC nC cA oC fB bB rC pA;have dC:w.heap.size+2<=(wr.alloc(.cells #[.int .i64 rs,.int .i64 rb] 61)).heap.size:=(by rw [World.size_alloc];omega);generalize wr.alloc(.cells #[.int .i64 rs,.int .i64 rb] 61)=W3 at tA kB mB vA dC ⊢;refine(zAr _ v1 _ _ lo hi W x W3(Hp.out.zRJ vA)).mono ?_;rintro e w1 ⟨s,bb,t,rfl,hF,hb3⟩;have hq:=zF5 HP.out hF;have eC:=zB(show qF W.zRQ s bb by rw [hq.1,hq.2.1];exact HT.out.old x);have iB:=zB(show qF W.zRQ rs rb by have:=HT.out.tree k(by unfold zq;omega);rw [Hm.out.2.1,Hm.out.2.2] at this;exact this);have HE:=zB(show zT W.zRQ rs rb=yV W(zO W k)/\zT W.zRQ s bb=zCr W(zO W k)by unfold yV zCr;rw [Hm.out.1,Hm.out.2.1,Hm.out.2.2,hq.1,hq.2.1];exact⟨rfl,rfl⟩);have gA:=zC w1(.cells #[.int .i64 s,.int .i64 bb] 61);have sA:=zB((tA.out.zRJ hb3).zRJ gA);have cB:=zB((kB.out.zRJ hb3).zRJ gA);have nB:=zB((mB.out.zRJ hb3).zRJ gA);have dB:=zB(zc.zRL w1(.int .i64 s)(.int .i64 bb) 61);have rA:=zA(zA vA hb3) gA;have pB:w.heap.size+2<=(w1.alloc(.cells #[.int .i64 s,.int .i64 bb] 61)).heap.size:=(by have h1:=hb3.size;have h2:=gA.size;omega);clear hq hF hb3 gA tA kB mB vA dC vC Hm;obtain⟨⟨x0,x1⟩,⟨x2,x3⟩,⟨x4,x5⟩,⟨x6,x7⟩,⟨x8,x9⟩,⟨x10,x11⟩⟩:=sA.out;obtain⟨⟨p0,p1⟩,⟨p2,p3⟩⟩:=dB.out;clear x4 x5 x6 x7 x8 x9 x10 x11 x1 x3 p1 p3;go_wp2_with fail;clear x0 x2 p0 p2;generalize w1.alloc(.cells #[.int .i64 s,.int .i64 bb] 61)=w4 at sA cB nB dB rA pB ⊢;refine(yf _ v1 lo hi W.zRQ s bb w4(Hp.out.zRQ.zRJ rA) HT.out.right eC.out).mono ?_;rintro e w5 ⟨vo,rfl,hro,hb6⟩;have lB:=zB(sA.out.zRJ hb6);have kC:=zB(cB.out.zRJ hb6);have iC:=zB(nB.out.zRJ hb6);have fA:=zB(hro.mono pB);have eB:=zA rA hb6;have vB:w.heap.size+2<=w5.heap.size:=(by have h1:=hb6.size;omega);clear hro hb6 sA cB nB dB rA pB eC;obtain⟨⟨x0,x1⟩,⟨x2,x3⟩,⟨x4,x5⟩,⟨x6,x7⟩,⟨x8,x9⟩,⟨x10,x11⟩⟩:=lB.out;obtain⟨⟨p0,p1⟩,⟨p2,p3⟩⟩:=kC.out;clear x4 x5 x6 x7 x8 x9 x10 x11 x1 x3 p1 p3;go_wp2_with fail;clear x0 x2 p0 p2;refine(yf _ v1 lo hi W.zRQ rs rb w5(Hp.out.zRQ.zRJ eB) HT.out.right iB.out).mono ?_;rintro e w6 ⟨vn,rfl,hrn,hb8⟩;have lC:=zB(lB.out.zRJ hb8);have aC:=zB(iC.out.zRJ hb8);have iA:=zB(fA.out.zRJ hb8);have aA:=zB(hrn.mono vB);have gC:=zA eB hb8;have cC:w.heap.size+2<=w6.heap.size:=(by have h1:=hb8.size;omega);have pC:=zB(fun j(hj:j<(zT W.zRQ rs rb).length)=>zIE HT.out.right iB.out hj);have lD:=qM W.zRQ rs rb;have iD:=qM W.zRQ s bb;clear hrn hb8 lB kC iC fA eB vB iB;obtain⟨an,cn,rfl,hcn⟩:=zW aA.out;generalize zT W.zRQ rs rb=now at *;generalize zT W.zRQ s bb=old at *;go_wp2
    go_loopw [11](fun i eA=>∃j:Nat,∃f,j<=now.length/\i = .int .i64 j/\zw eA(w.heap.size+2) vo old/\zw eA(w.heap.size+2)(.slice an now.length cn) now/\zi eA w.heap.size(.slice a0 W.zRQ.n c0) v1(.int .i64 W.time)(.int .i64 W.next)(.slice(some ⟨b,off,none⟩) W.sn c')(.slice a W.pn c)/\yW eA(w.heap.size+1) W.zRQ.n f/\zBk W k now old j f/\zCo W k now old j/\Below w.heap.size w eA/\w.heap.size+2<=eA.heap.size)(fun i _=>now.length - (intOf i).toNat)
    case atStart=>exact⟨0,f,Nat.zero_le _,rfl,iA.out,aA.out,lC.out,aC.out,zHZ HS.out _ _,fun q hq=>absurd hq(Nat.not_lt_zero _),gC,cC⟩
    case round=>
     clear lC aC iA aA gC cC HS HX dA hb hz;obtain⟨j,f,hj,rfl,hro,hrn,hX,hR,hS,hAr,hb,hz⟩:=hrel;have fA:=zB hro;have rB:=zB hrn;have HX:=zB hX;have dA:=zB hR;have HS:=zB hS;have gB:=zB hAr;clear hro hrn hX hR hS hAr;by_cases oB:j<now.length
     ·have aD:(j:Int)<(now.length:Int):=(by omega);obtain⟨b2,off2,rfl,q0,q1⟩:=(rB.out.atW(by omega)).zRN oB;obtain⟨sl,hs1,hs2⟩:=pC.out j oB;have kD:(sl:Int)<(W.zRQ.n:Int):=(by omega);have oA:=zB hs1;clear hs1;go_wp2_with fail;refine(zDE _ old.length 0 _(zf old)(zh old)(zf now j)(zh now j) _(fA.out.atW(by omega))).mono ?_;rintro e w7 ⟨⟨t7,rfl,ht7⟩,hb10⟩;have aB:=zB(ht7.trans zBT);have z0:=(hb10.cell(p:=⟨b2,off2+j*2,none⟩)(zD q0)).trans q0;have lA:=zB(fA.out.zRJ hb10);have kA:=zB(rB.out.zRJ hb10);have jC:=zB(HX.out.zRJ hb10);have sB:=zB(dA.out.zRJ hb10);have bA:=zA hb hb10;have jA:w.heap.size+2<=w7.heap.size:=(by have h1:=hb10.size;omega);clear ht7 hb10 q0 q1 fA rB HX dA hb hz;cases t7
      ·have Hn:=zB(show(zf now j,zh now j)∉old from fun h=>absurd(aB.out.2 h)(by simp));clear aB;rw [oA.out] at z0;obtain⟨y0,y1⟩:=sB.out sl hs2;cases hfs:f sl
       ·have jB:=zB hfs;rw [hfs] at y0;clear hfs;go_wp2;go_roundw
        case rel=>exact⟨j+1,_,by omega,by go_num,lA.out.put(by omega) _,kA.out.put(by omega) _,jC.out.zRR(zF.put _(w.heap.size+1) sl _)(by omega),sB.out.put true,zJp HS.out oA.out Hn.out,zLg gB.out HS.out oA.out jB.out,bA.setCell(show w.heap.size<=w.heap.size+1 by omega) _,by rw [World.size_setCell];exact jA⟩
        case measure=>simp [intOf];omega
       ·have jB:=zB hfs;rw [hfs] at y0;clear hfs;go_wp2;go_ret;exact⟨zG.no(zHf HT.out(by unfold zq;omega) HE.out.1 HE.out.2 HS.out oB oA.out Hn.out jB.out),bA⟩
      ·have Hn:=zB(aB.out.1 rfl);clear aB;go_wp2;go_roundw
       case rel=>exact⟨j+1,f,by omega,by go_num,lA.out,kA.out,jC.out,sB.out,zJk HS.out Hn.out,zLX gB.out Hn.out,bA,jA⟩
       case measure=>simp [intOf];omega
     ·obtain rfl:j=now.length:=(by omega);go_wp2;go_roundw
      case rel=>exact⟨k+1,f,by omega,by go_num,HX.out,dA.out,zJZ HS.out HE.out.1 HE.out.2,zHa HA.out HE.out.1 HE.out.2 gB.out,hb,hz⟩
      case measure=>simp [intOf];omega
  ·obtain rfl:k=W.pn+W.sn:=(by omega);go_wp2;go_ret;exact⟨zG.yes HA.out,hb⟩
def qs(W:zH)(x:Int):Prop:=∃k,k<W.pn/\(W.zRP k).id=x
def zAP(W:zH)(x:ByteArray):Prop:=∃k,k<W.sn/\(W.zRS k).name=x
def zE2(W:zH)(i:Nat):Prop:=yM(W.zRS i).name/\(0<i->zDP(W.zRS(i - 1)).name(W.zRS i).name)/\((W.zRS i).zRT≠0->qs W(W.zRS i).zRT)/\((W.zRS i).origin≠0->qs W(W.zRS i).origin)
def zGs(W:zH)(i:Nat):Prop:=1<=(W.zRP i).id/\(W.zRP i).id<W.next/\1<=(W.zRP i).time/\(W.zRP i).time<W.time/\yM(W.zRP i).name/\zAP W(W.zRP i).set
def zFY(W:zH)(i:Nat):Prop:=(0<i->(W.zRP(i - 1)).id<(W.zRP i).id/\(W.zRP(i - 1)).time<(W.zRP i).time)/\((W.zRP i).zRT≠0->(W.zRP i).zRT<(W.zRP i).id/\qs W(W.zRP i).zRT)
def zPB(W:zH)(i j:Nat):Prop:=∀k,k<j->¬((W.zRP k).set=(W.zRP i).set/\(W.zRP k).name=(W.zRP i).name)
def zPk(W:zH)(i:Nat):Prop:=zGs W i/\zFY W i/\zPB W i i
def zBL(W:zH):Prop:=zBu W.time 1 900000/\zBu W.next 1 900000/\W.sn<=8/\W.pn<=20/\(∀i,i<W.sn->zE2 W i)/\∀i,i<W.pn->zPk W i
theorem qi{W:zH}{x r:Int}(h:zGA W.pn(fun k=>(W.zRP k).id=x) r):(qs W x/\0<=r/\r<W.pn/\(W.zRP r.toNat).id=x)\/(¬qs W x/\r = -1):=by
 rcases h with⟨k,hk,e,_,rfl⟩ | ⟨hn,rfl⟩
 ·exact Or.inl ⟨⟨k,hk,e⟩,by omega,by omega,by simpa using e⟩
 ·exact Or.inr ⟨fun ⟨k,hk,e⟩=>hn k hk e,rfl⟩
theorem zOV{W:zH}{x:ByteArray}{r:Int}(h:zGA W.sn(fun k=>(W.zRS k).name=x) r):(zAP W x/\0<=r)\/(¬zAP W x/\r = -1):=by
 rcases h with⟨k,hk,e,_,rfl⟩ | ⟨hn,rfl⟩
 ·exact Or.inl ⟨⟨k,hk,e⟩,by omega⟩
 ·exact Or.inr ⟨fun ⟨k,hk,e⟩=>hn k hk e,rfl⟩
def zCK(w:World)(b:Nat)(v0 v1 v2 v3 v4 v5 v6 v7:Value):Prop:=(zX w b 0 v0/\zX w b 1 v1/\zX w b 2 v2/\zX w b 3 v3)/\(zX w b 4 v4/\zX w b 5 v5/\zX w b 6 v6/\zX w b 7 v7)
theorem zCK.zRJ{w w':World}{b:Nat}{v0 v1 v2 v3 v4 v5 v6 v7:Value}(h:zCK w b v0 v1 v2 v3 v4 v5 v6 v7)(t:Below w.heap.size w w'):zCK w' b v0 v1 v2 v3 v4 v5 v6 v7:=
 ⟨⟨h.1.1.zRJ t,h.1.2.1.zRJ t,h.1.2.2.1.zRJ t,h.1.2.2.2.zRJ t⟩,h.2.1.zRJ t,h.2.2.1.zRJ t,h.2.2.2.1.zRJ t,h.2.2.2.2.zRJ t⟩
theorem zCK.zRL(w:World)(v0 v1 v2 v3 v4 v5 v6 v7:Value)(t:TypeId):zCK(w.alloc(.cells #[v0,v1,v2,v3,v4,v5,v6,v7] t)) w.heap.size v0 v1 v2 v3 v4 v5 v6 v7:=by
 have hb:(w.alloc(.cells #[v0,v1,v2,v3,v4,v5,v6,v7] t)).heap[w.heap.size]?=some(.cells #[v0,v1,v2,v3,v4,v5,v6,v7] t):=heap_alloc_new _ _;exact⟨⟨zI hb rfl,zI hb rfl,zI hb rfl,zI hb rfl⟩,zI hb rfl,zI hb rfl,zI hb rfl,zI hb rfl⟩
end Go.Proofs.YtmgeglgboadfiaaGreatDoor
