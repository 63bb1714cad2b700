/- What TreeWrite and TreeTrim leave is so (no law is proved here). -/
import Derived.Test.YtmgeglgboadfiaaGreatDoorT30
set_option linter.unusedVariables false
set_option maxRecDepth 20000
set_option maxHeartbeats 4000000
namespace Go.Proofs.YtmgeglgboadfiaaGreatDoor
open Go.RowKit
theorem zH7{p:zJ}(hR:zv p){i:Nat}(h:zBZ p.n p.s i):¬Has p.hn p.h(i:Int):=by
 rintro⟨j,hj,e⟩;have h3:=(hR.2.2 j hj).2.2.1;rw [e,Int.toNat_natCast] at h3;exact h3 h.2.1
theorem zJa{p:zJ}{i:Nat}{s:zL}(hR:zv p)(h:zBZ p.n p.s i)(hs:zAN p s)(hk:0<s.kn):zAy(qm p i s)(i:Int) s.zRU:=
 ⟨zFA h hs.1.1,by rw [Int.toNat_natCast,zEB];exact hk,zH7 hR h⟩
theorem zLv{p q:zJ}(h:Ext p q){i:Nat}(hi:zBZ q.n q.s i):zJU p(i:Int):=by
 unfold zJU;rw [Int.toNat_natCast];exact h.free hi.2.1
theorem zLF{p q:zJ}{xs xb x y b:Int}{n:Nat}(hT:ym p xs xb)(hn:n<64)(hB:zAa xb b)
  (hl:(yJ(qK p xs xb n 1 0)(qL p xs xb n 1 0)/\q=p/\x=0/\y=0)\/(¬yJ(qK p xs xb n 1 0)(qL p xs xb n 1 0)/\∃i:Nat,zBZ p.n p.s i/\q=qm p i(qY(qK p xs xb n 1 0)(qL p xs xb n 1 0) b)/\x=(i:Int)/\y=b)) :
  (yJ(qK p xs xb n 0 x)(qL p xs xb n 0 y)->New p xs xb n b q 0 0 x y 0 0)/\
  (¬yJ(qK p xs xb n 0 x)(qL p xs xb n 0 y)->∀i,zBZ q.n q.s i->New p xs xb n b(qm q i(qY(qK p xs xb n 0 x)(qL p xs xb n 0 y) b))(i:Int) b x y 0 0):=by
 have fl:zAN p(qY(qK p xs xb n 1 0)(qL p xs xb n 1 0) b):=zAf hT hn(by omega) hB(fun s t h=>h)(Or.inl ⟨rfl,rfl⟩);have aA:Ext p q/\zv q/\((Nil x y/\yJ(qK p xs xb n 1 0)(qL p xs xb n 1 0))\/(zAy q x y/\zJU p x/\q.s x.toNat=qY(qK p xs xb n 1 0)(qL p xs xb n 1 0) b/\¬yJ(qK p xs xb n 1 0)(qL p xs xb n 1 0)))/\zAN q(qY(qK p xs xb n 0 x)(qL p xs xb n 0 y) b):=by
  rcases hl with⟨h1,rfl,rfl,rfl⟩ | ⟨h1,i,hi,rfl,rfl,rfl⟩
  ·exact⟨Ext.refl _,hT.1,Or.inl ⟨⟨rfl,rfl⟩,h1⟩,zAf hT hn(by omega) hB(fun s t h=>h)(Or.inl ⟨rfl,rfl⟩)⟩
  ·have e1:Ext p(qm p i(qY(qK p xs xb n 1 0)(qL p xs xb n 1 0) y)):=Ext.set hi.2.1 _;have nd:=zJa(s:=qY(qK p xs xb n 1 0)(qL p xs xb n 1 0) y) hT.1 hi fl(by show 0<8;omega);refine⟨e1,zEd hT.1 hi fl,Or.inr ⟨nd,zLv(Ext.refl p) hi,?_,h1⟩,zAf hT hn(by omega) hB(fun s t h=>e1.points h)(Or.inr ⟨nd.1,Int.le_refl _⟩)⟩;rw [Int.toNat_natCast];exact zEB _ _ _
 obtain⟨e1,r1,m1,f1⟩:=aA;refine⟨fun hA=>⟨e1,r1,Or.inl ⟨rfl,rfl⟩,m1,Or.inl ⟨⟨rfl,rfl⟩,hA⟩⟩,fun hA i hi=>?_⟩;have e2:Ext q(qm q i(qY(qK p xs xb n 0 x)(qL p xs xb n 0 y) b)):=Ext.set hi.2.1 _;have rt:=zJa(s:=qY(qK p xs xb n 0 x)(qL p xs xb n 0 y) b) r1 hi f1(by show 0<8;omega);refine⟨e1.trans e2,zEd r1 hi f1,Or.inl ⟨rfl,rfl⟩,m1.imp id(fun h=>⟨e2.node h.1,h.2.1,by rw [e2.at h.1.1];exact h.2.2.1,h.2.2.2⟩),Or.inr ⟨rt,zLv e1 hi,?_,hA⟩⟩;rw [Int.toNat_natCast];exact zEB _ _ _
theorem zPh{p:zJ}{xs xb zRV b:Int}(hc:(zAM p xs xb zRV b).code=0) :
  ym p xs xb/\∃n:Nat,n<64/\zRV=(n:Int)/\(zAM p xs xb zRV b).old=qe p xs xb n 3/\∃ms mb,New p xs xb n b(zAM p xs xb zRV b).zRQ(zAM p xs xb zRV b).rs(zAM p xs xb zRV b).rb ms mb 0 0:=by
 by_cases h1:ym p xs xb/\zAa xb b
 ·by_cases h2:zDV zRV
  ·obtain⟨n,rfl⟩:=Int.eq_ofNat_of_zero_le h2.1;have hn:n<64:=(by have:=h2.2;omega);by_cases h3:Nil(qo p xs xb n)(qp p xs xb n)
   ·rw [zGS h1 h2 h3] at hc;exact absurd hc(by decide)
   ·have eL:zAM p xs xb(n:Int) b=zAw p xs xb n b ⟨p,0,0,0⟩:=zF8 h1 h2 h3;refine⟨h1.1,n,hn,rfl,?_⟩;rw [eL] at hc ⊢;have aA:∀(q:zJ)(x y:Int),layS p xs xb n b ⟨p,0,0,0⟩ 1=⟨q,x,y,0⟩->zv q->zAN q(qY(qK p xs xb n 0 x)(qL p xs xb n 0 y) b)->((yJ(qK p xs xb n 0 x)(qL p xs xb n 0 y)->New p xs xb n b q 0 0 x y 0 0)/\(¬yJ(qK p xs xb n 0 x)(qL p xs xb n 0 y)->∀i,zBZ q.n q.s i->New p xs xb n b(qm q i(qY(qK p xs xb n 0 x)(qL p xs xb n 0 y) b))(i:Int) b x y 0 0))->
      (zAw p xs xb n b ⟨p,0,0,0⟩).old=qe p xs xb n 3/\∃ms mb,New p xs xb n b(zAw p xs xb n b ⟨p,0,0,0⟩).zRQ(zAw p xs xb n b ⟨p,0,0,0⟩).rs(zAw p xs xb n b ⟨p,0,0,0⟩).rb ms mb 0 0:=fun q x y hL hR hF hN=>by
     by_cases hA:yJ(qK p xs xb n 0 x)(qL p xs xb n 0 y)
     ·rw [zHt hL hA];exact⟨rfl,x,y,hN.1 hA⟩
     ·by_cases r0:roomN q.s q.n=0
      ·rw [zGF hL hA hR hF(zEe r0)] at hc;exact absurd hc(by decide)
      ·obtain⟨i,hi⟩:=zFB(f:=q.s)(n:=q.n)(by omega);rw [zHg hL hA hR hF hi];exact⟨rfl,x,y,hN.2 hA i hi⟩
    have fl:zAN p(qY(qK p xs xb n 1 0)(qL p xs xb n 1 0) b):=zAf h1.1 hn(by omega) h1.2(fun s t h=>h)(Or.inl ⟨rfl,rfl⟩);by_cases hA:yJ(qK p xs xb n 1 0)(qL p xs xb n 1 0)
    ·exact aA p 0 0(zRC hA) h1.1.1(zAf h1.1 hn(by omega) h1.2(fun s t h=>h)(Or.inl ⟨rfl,rfl⟩))(zLF h1.1 hn h1.2(Or.inl ⟨hA,rfl,rfl,rfl⟩))
    ·by_cases r0:roomN p.s p.n=0
     ·rw [zLA h1.1 hn h1.2 hA(zEe r0)] at hc;exact absurd hc(by decide)
     ·obtain⟨i,hi⟩:=zFB(f:=p.s)(n:=p.n)(by omega);exact aA _(i:Int) b(zQ3 h1.1 hn h1.2 hA hi)(zEd h1.1.1 hi fl)(zAf h1.1 hn(by omega) h1.2(fun s t h=>zFN hi.2.1 h)(Or.inr ⟨zFA(s:=qY(qK p xs xb n 1 0)(qL p xs xb n 1 0) b) hi h1.2.1.1,Int.le_refl _⟩))(zLF h1.1 hn h1.2(Or.inr ⟨hA,i,hi,rfl,rfl,rfl⟩))
  ·rw [zFO h1 h2] at hc;exact absurd hc(by decide)
 ·rw [zDK h1] at hc;exact absurd hc(by decide)
theorem zOe(p:zJ)(xs xb:Int)(n:Nat)(b:Int)(o:zDe):qE(zAw p xs xb n b o).zRQ<=qE o.zRQ+16/\(zAw p xs xb n b o).old.length<=3:=by
 have h2:=zGY p xs xb n b o 2;have h3:(qe p xs xb n 3).length<=3:=zAh _ _ 3;unfold zAw;split
 ·exact⟨Nat.zero_le _,Nat.zero_le _⟩
 ·split
  ·exact⟨Nat.zero_le _,Nat.zero_le _⟩
  ·exact⟨by show qE(layS p xs xb n b o 2).zRQ<=_;omega,h3⟩
theorem zIY(p:zJ)(xs xb zRV b:Int):qE(zAM p xs xb zRV b).zRQ<=qE p+40/\(zAM p xs xb zRV b).old.length<=3:=by
 unfold zAM;split
 ·split
  ·split
   ·exact⟨Nat.zero_le _,Nat.zero_le _⟩
   ·have h1:=zOe p xs xb zRV.toNat b ⟨p,0,0,0⟩;exact⟨by have h4:=h1.1;simp only at h4;omega,h1.2⟩
  ·exact⟨Nat.zero_le _,Nat.zero_le _⟩
 ·exact⟨Nat.zero_le _,Nat.zero_le _⟩
def zFL(c:Int):Prop:=c=0\/∃i,i<7/\c=zBO i
theorem zOB(p:zJ)(s:zL):zFL(zCt p s).code:=by
 unfold zCt;split
 ·split
  ·exact Or.inl rfl
  ·exact Or.inr ⟨4,by omega,rfl⟩
 ·exact Or.inr ⟨0,by omega,rfl⟩
theorem zJb(p:zJ)(xs xb:Int)(n:Nat)(b:Int)(o:zDe)(h:zFL o.code)(L:Nat):zFL(layS p xs xb n b o L).code:=by
 cases L with
 |zero=>exact h
 |succ L=>
  unfold layS;unfold zJJ zEz;split
  ·exact Or.inl rfl
  ·exact zOB _ _
theorem zNq(p:zJ)(xs xb:Int)(n:Nat)(b:Int)(o:zDe)(h:zFL o.code):zFL(zAw p xs xb n b o).code:=by
 unfold zAw;split
 ·exact zJb p xs xb n b o h 1
 ·split
  ·exact zJb p xs xb n b o h 2
  ·exact Or.inl rfl
theorem zN5(p:zJ)(xs xb zRV b:Int):zFL(zAM p xs xb zRV b).code:=by
 unfold zAM;split
 ·split
  ·split
   ·exact Or.inr ⟨2,by omega,rfl⟩
   ·exact zNq _ _ _ _ _ _(Or.inl rfl)
  ·exact Or.inr ⟨6,by omega,rfl⟩
 ·exact Or.inr ⟨0,by omega,rfl⟩
theorem zNm{l:List(Int×Int)}(h:l.Nodup)(hi:∀x,x∈l->∀y,y∈l->x.1=y.1->x=y):(l.map Prod.fst).Nodup:=by
 unfold List.Nodup at h ⊢;rw [List.pairwise_map];exact h.imp_of_mem(fun {a b} ha hb aA e=>aA(hi a ha b hb e))
theorem New.hold{p q:zJ}{xs xb b ys yb ms mb gs gb:Int}{n:Nat}(h:New p xs xb n b q ys yb ms mb gs gb)(hT:ym p xs xb)(hn:n<64):yY q(qe p xs xb n 3):=by
 have hk:=yY.tree hT.1 hT.2;refine⟨h.right,fun x hx=>?_,zNm(zN4 hT hn)(fun x hx y hy e=>?_)⟩
 ·obtain⟨h1,h2⟩:=hk.2.1 x(zMx hT hn hx);exact⟨h.ext.points h1,fun hh=>h2((h.ext.has x.1).1 hh)⟩
 ·have h1:=(hk.2.1 x(zMx hT hn hx)).1.2.2.2;have h2:=(hk.2.1 y(zMx hT hn hy)).1.2.2.2;have e2:x.2=y.2:=(by rw [<-h1,<-h2,e]);exact Prod.ext e e2
def zGt(y:zCB):Prop:=zFL y.code/\y.old.length<=3/\(y.code=0->yY y.zRQ y.old)
theorem zGk(p:zJ)(xs xb zRV b:Int):zGt(zAM p xs xb zRV b):=⟨zN5 _ _ _ _ _,(zIY _ _ _ _ _).2,fun hc=>by
 obtain⟨hT,n,hn,-,ho,ms,mb,hN⟩:=zPh hc;rw [ho];exact hN.hold hT hn⟩
theorem zRB{l:List(Int×Int)}{i:Nat}(hi:i<l.length):(zf l i,zh l i)=l[i]:=by
 unfold zf zh;rw [List.getD_eq_getElem?_getD,List.getElem?_eq_getElem hi];rfl
theorem yY.ptrs{p:zJ}{l:List(Int×Int)}(h:yY p l)(hl:l.length<=200):qx l.length(zf l)(zh l):=by
 refine⟨by omega,fun i hi=>?_,fun i hi k hk e=>?_⟩
 ·have hm:(zf l i,zh l i)∈l:=(by rw [zRB hi];exact List.getElem_mem hi);have h1:=(h.2.1 _ hm).1;have hf:=qV h.1 h1;have hb:=hf.1;have h2:=h.1.1;unfold zr at h1;unfold qw at hb;unfold zE6;dsimp only at h1 hb ⊢;have h3:=h1.2.2.2;omega
 ·have hn:=h.2.2;have hi':i<(l.map Prod.fst).length:=(by rw [List.length_map];exact hi);have aA:k<(l.map Prod.fst).length:=(by rw [List.length_map];omega);have e1:∀j(hj:j<(l.map Prod.fst).length),(l.map Prod.fst)[j]=zf l j:=fun j hj=>by
   rw [List.length_map] at hj;rw [List.getElem_map];unfold zf;rw [List.getD_eq_getElem?_getD,List.getElem?_eq_getElem hj];rfl
  have:=(List.getElem_inj(h₀:=aA)(h₁:=hi') hn).1(by rw [e1,e1];exact e);omega
theorem zOE(l:List(Int×Int)):((List.range l.length).map fun i=>(zf l i,zh l i))=l:=by
 refine List.ext_getElem(by simp)(fun i h1 h2=>?_);rw [List.getElem_map,List.getElem_range];exact zRB h2
def zBH(n:Nat)(f g:Nat->Int):List(Int×Int):=(List.range n).map fun i=>(f i,g i)
theorem zAn(n:Nat)(f g:Nat->Int):(zBH n f g).length=n:=by
 unfold zBH;rw [List.length_map,List.length_range]
theorem zIc{n:Nat}(f g:Nat->Int){i:Nat}(hi:i<n):zf(zBH n f g) i=f i/\zh(zBH n f g) i=g i:=by
 unfold zf zh zBH;rw [List.getD_eq_getElem?_getD,List.getElem?_map,List.getElem?_range hi];exact⟨rfl,rfl⟩
noncomputable def zEr(W:zH)(k:Nat)(y:zCB):List(Int×Int):=qd(zf y.old)(zh y.old)(zN W(W.zRS k).zRT).time y.old.length
noncomputable def zOr(W:zH)(k:Nat)(y:zCB):List(Int×Int):=zBg(zf y.old)(zh y.old)(zN W(W.zRS k).zRT).time y.old.length
noncomputable def zDa(W:zH)(k:Nat)(y:zCB):List(Int×Int):=zBH(W.zRS k).dn(W.zRS k).ds(W.zRS k).db ++ zOr W k y
noncomputable def zBY(W:zH)(k:Nat)(y:zCB):qC:={W.zRS k with rs:=y.rs,rb:=y.rb,dn:=(zDa W k y).length,ds:=zf(zDa W k y),db:=zh(zDa W k y)}
noncomputable def zLr(W:zH)(k:Nat)(y:zCB):zH:={W with zRQ:=zx y.zRQ(zEr W k y),zRS:=fun j=>if j=k then zBY W k y else W.zRS j}
open Classical in
noncomputable def zA8(W:zH)(k:Nat)(y:zCB):zBz:=if y.code=0 then⟨zLr W k y,0,((zEr W k y).length:Int),0⟩else zBr y.code
theorem zLO(f g:Nat->Int)(t:Int):∀n,(zBg f g t n).length<=n
 |0=>Nat.le_refl _
 |n+1=>by
  have:=zLO f g t n;unfold zBg;split
  ·omega
  ·rw [List.length_append,List.length_singleton];omega
theorem zPF{W:zH}{k:Nat}{y:zCB}(h:zGt y)(hc:y.code=0):yY y.zRQ(zEr W k y):=by
 refine(h.2.2 hc).sub ?_;have:=zGL(zf y.old)(zh y.old)(zN W(W.zRS k).zRT).time y.old.length
 rwa [zOE] at this
theorem zKW{w w':World}{row:Option Nat}(h:w.grownBy w' row):zF(fun k=>row=some k) w w':=⟨h.os,h.tape,h.output,h.size,fun k hk hn=>h.block k hk(fun e=>hn e.symm)⟩
theorem zLc{w:World}(ty:TypeId)(a ao:Option Addr)(c:Nat):(Builtin.append_ #[62,62] ty #[.slice a 0 0,.slice ao 0 c]).run Tryz.prog w = .ok(.slice a 0 0) w:=by
 obtain⟨i0,hi0,hzz⟩:=Option.map_eq_some_iff.1 zCR;have ht:Tryz.prog.underlying 62=some(.slice 61):=by kernel_rfl
 cases a<;>cases ao<;>simp [Builtin.append_,run_underlying ht,sizeOf,typeInfo,hi0,Builtin.lenOf,Builtin.firstCells,storeCells,loadCells,loadCellsFrom]
theorem zGq{w:World}{kb n lo hi:Nat}{kv vo:Value}{f g:Nat->Int}{l:List(Int×Int)}(ho:zj w kb kv n f g)(hB:yh w 61 2 kv n)(hv:zR w lo hi vo l.length(zf l)(zh l))(hn:n+l.length<=4000000)(ty:TypeId) :
  ∃a c w' nb,(Builtin.append_ #[62,62] ty #[kv,vo]).run Tryz.prog w = .ok(.slice a(n+l.length) c) w'/\zj w' nb(.slice a(n+l.length) c)(zBH n f g ++ l).length(zf(zBH n f g ++ l))(zh(zBH n f g ++ l))/\zF(fun j=>0<n/\j=kb) w w'/\(0<n+l.length->(0<n/\nb=kb)\/(w.heap.size<=nb/\nb<w'.heap.size)):=by
 obtain⟨i0,hi0,hzz⟩:=Option.map_eq_some_iff.1 zCR;simp only [Prod.mk.injEq] at hzz;obtain⟨jA,hsz,hby⟩:=hzz;have ht:Tryz.prog.underlying 62=some(.slice 61):=by kernel_rfl
 have cA:(zBH n f g ++ l).length=n+l.length:=by rw [List.length_append,zAn]
 have fA:0<n->kv.ownBlock=some kb:=fun h0=>by
  obtain⟨_,a,c,hv,_,hx⟩:=ho;obtain⟨off,ha,_⟩:=hx h0;rw [hv,ha];rfl
 have bA:0<n->∀q,kv.ownBlock=some q->∀j u,(pcl(zBH n f g))[j]?=some u->w.cell? ⟨q,j,none⟩=some u:=fun h0 q hq j u hj=>by
  have gA:j<n*2:=by
   have:=(List.getElem?_eq_some_iff.1 hj).1
   rwa [zA5,zAn] at this
  obtain⟨_,a,c,hv',_,hx⟩:=ho;obtain⟨off,ha',hall⟩:=hx h0;rcases hB with⟨e,_⟩ | ⟨_,g',cap',cur,hv2,_⟩
  ·omega
  ·rw [hv',ha'] at hv2;simp only [Value.slice.injEq,Option.some.injEq,Addr.mk.injEq,and_true,true_and] at hv2;obtain⟨⟨rfl,rfl⟩,rfl⟩:=hv2;rw [hv',ha'] at hq;obtain rfl:kb=q:=(by injection hq);obtain⟨i,hd,hj2⟩:∃i,i<n/\(j=i*2\/j=i*2+1):=⟨j / 2,by omega,by omega⟩;have h8:=hall i hd;obtain⟨e1,e2⟩:=zBa(zBH n f g) i(by rw [zAn];exact hd);have e3:=zIc f g hd;unfold zf zh at e3;rw [e3.1] at e1;rw [e3.2] at e2;rcases hj2 with rfl | rfl
   ·rw [e1] at hj;replace hj:=Option.some.inj hj;have h9:=h8.1.1;rw [Nat.zero_add] at h9;rw [h9,hj]
   ·rw [e2] at hj;replace hj:=Option.some.inj hj;have h9:=h8.2.1;rw [Nat.zero_add] at h9;rw [h9,hj]
 by_cases eA:l.length=0
 ·obtain rfl:l = []:=List.eq_nil_of_length_eq_zero eA;obtain⟨_,ao,co,rfl,_,_⟩:=hv;have aA:∀a c,kv = .slice a n c->zj w kb(.slice a n c)(zBH n f g ++ []).length(zf(zBH n f g ++ []))(zh(zBH n f g ++ [])):=fun a c e=>by
   rw [List.append_nil,zAn];obtain⟨h1,a',c',h2,h3,hx⟩:=ho;rw [e] at h2;cases h2;refine⟨h1,a,c,rfl,h3,fun h0=>?_⟩;obtain⟨off,ha,hall⟩:=hx h0;exact⟨off,ha,fun i hi=>by rw [(zIc f g hi).1,(zIc f g hi).2];exact hall i hi⟩
  rcases Nat.eq_zero_or_pos n with h0 | h0
  ·rcases hB with⟨_,a,rfl⟩ | ⟨hp,_⟩
   ·subst h0;exact⟨a,0,w,kb,zLc ty a ao co,aA a 0 rfl,zF.refl _ _,fun h=>by simp at h⟩
   ·omega
  ·obtain⟨a,c,hv⟩:∃a c,kv = .slice a n c:=(by obtain⟨_,a,c,h,_⟩:=ho;exact⟨a,c,h⟩);have dA:=hB.owns(base:=0)(xs:=pcl(zBH n f g)) h0(by rw [zA5,zAn])(fun _ _=>Nat.zero_le _)(bA h0);exact⟨a,c,w,kb,by rw [show(Value.slice a(n+([]:List(Int×Int)).length) c)=kv from hv.symm];exact zA3 0 62 ty 61 i0 2 co ao ht hi0 kv n _ dA,aA a c hv,zF.refl _ _,fun _=>Or.inl ⟨h0,rfl⟩⟩
 ·obtain⟨-,ao,co,rfl,-,hx⟩:=hv;obtain⟨b,off,rfl,-,-,hall⟩:=hx(by omega);obtain⟨q,cap,w',row,hr,aA,hg,hrr,hgg,hgz⟩:=yh.append(P:=Tryz.prog) 62 ty 61 i0 _ 2 16 0 ht hi0 jA hsz hby rfl(by decide) hB(xs:=pcl(zBH n f g))(by rw [zA5,zAn])(fun _ _ _=>Nat.zero_le _) bA
   ⟨b,off,none⟩ l.length co(pcl l)(zA5 l)(fun j u hj=>by
    have gA:j<l.length*2:=by
     have:=(List.getElem?_eq_some_iff.1 hj).1
     rwa [zA5] at this
    obtain⟨i,hd,hj2⟩:∃i,i<l.length/\(j=i*2\/j=i*2+1):=⟨j / 2,by omega,by omega⟩;have h8:=hall i hd;obtain⟨e1,e2⟩:=zBa l i hd;rcases hj2 with rfl | rfl
    ·rw [e1] at hj;replace hj:=Option.some.inj hj;rw [<-hj,show(⟨b,off,none⟩:Addr).add(i*2)=⟨b,off+i*2,none⟩from by simp [Addr.add]];exact h8.1
    ·rw [e2] at hj;replace hj:=Option.some.inj hj;rw [<-hj,show(⟨b,off,none⟩:Addr).add(i*2+1)=⟨b,off+i*2+1,none⟩from by simp [Addr.add,Nat.add_assoc]];exact h8.2)(zF4 l)(by omega)(by unfold maxLen;omega)(by omega)(Nat.zero_le _)
  have hR:zw w' 0(.slice(some ⟨q,0,none⟩)(n+l.length) cap)(zBH n f g ++ l):=by
   unfold zw;rw [cA,zA9];exact aA
  obtain⟨nb,h1,h2⟩:=hR.own(by rw [cA];unfold maxLen;omega);have iA:q=nb:=by
   have:=(h2(by rw [cA];exact Nat.add_pos_right n(Nat.pos_of_ne_zero eA))).1;simp only [Value.ownBlock] at this;injection this
  subst iA;refine⟨_,_,w',q,hr,h1,(zKW hg).mono ?_,fun _=>?_⟩
  ·intro j hj;rcases hrr with h | ⟨h0,h⟩
   ·rw [h] at hj;cases hj
   ·rw [h,fA h0] at hj;injection hj with hj;exact⟨h0,hj.symm⟩
  ·rcases hgg with⟨h0,h⟩ | h
   ·rw [fA h0] at h;injection h with h;exact Or.inl ⟨h0,h.symm⟩
   ·exact Or.inr ⟨by omega,hgz⟩
theorem zH2{w w':World}{Q:Nat->Prop}{bs off n c:Nat}{kb:Nat->Nat}{kv:Nat->Value}{f:Nat->qC}(hS:yN w bs kb kv(.slice(some ⟨bs,off,none⟩) n c) n f)(aA:zBJ kb n f)(bA:∀j,zCA bs kb n f j->Q j){k:Nat}(hk:k<n){s':qC}{nb:Nat}{nv:Value}
  (ht:zF(fun j=>j=bs\/(0<(f k).dn/\j=kb k)) w w')(hx:∀j,j<n->j≠k->∀r,r<6->∀u,zX w bs(off+j*6+r) u->zX w' bs(off+j*6+r) u)(hs:zAE w' bs(off+k*6) nb nv s')(cA:0<s'.dn->((0<(f k).dn/\nb=kb k)\/∀j,zCA bs kb n f j->j≠nb)/\Q nb) :
  zBX w' Q(.slice(some ⟨bs,off,none⟩) n c) n(fun j=>if j=k then s' else f j):=by
 have eA:∀i,i<n->i≠k->0<(f i).dn->0<s'.dn->kb i≠nb:=fun i hi fA h1 h2 e=>by
  rcases(cA h2).1 with⟨h3,h4⟩ | h3
  ·exact aA i k hi hk fA h1 h3(by rw [e,h4])
  ·exact h3(kb i)(Or.inr ⟨i,hi,h1,rfl⟩) e
 refine⟨bs,(fun j=>if j=k then nb else kb j),(fun j=>if j=k then nv else kv j),?_,?_,?_⟩
 ·obtain⟨hm,a,cap,hv,hc,hx0⟩:=hS;simp only [Value.slice.injEq,true_and] at hv;obtain⟨rfl,rfl⟩:=hv;refine⟨hm,_,_,rfl,hc,fun h0=>?_⟩;obtain⟨gA,e,hall⟩:=hx0 h0;simp only [Option.some.injEq,Addr.mk.injEq,true_and,and_true] at e;subst e;refine⟨off,rfl,fun j hj=>?_⟩;by_cases e:j=k
  ·subst e;simp only [if_true];exact hs
  ·simp only [if_neg e];have h:=hall j hj;exact⟨hx j hj e 0(by omega) _ h.c0,hx j hj e 1(by omega) _ h.c1,hx j hj e 2(by omega) _ h.c2,hx j hj e 3(by omega) _ h.c3,hx j hj e 4(by omega) _ h.c4,hx j hj e 5(by omega) _ h.c5,h.zRX.zRR ht(fun h0 hh=>by
    rcases hh with hh | ⟨h1,hh⟩
    ·exact h.zRW h0 hh
    ·exact aA j k hj hk e h0 h1 hh),h.zRZ,h.zRW⟩
 ·intro i j hi hj dA h1 h2;show(if i=k then nb else kb i)≠(if j=k then nb else kb j);by_cases e1:i=k
  ·by_cases e2:j=k
   ·exact absurd(e1.trans e2.symm) dA
   ·simp only [if_pos e1] at h1;simp only [if_neg e2] at h2;rw [if_pos e1,if_neg e2];exact fun e=>eA j hj e2 h2 h1 e.symm
  ·simp only [if_neg e1] at h1;by_cases e2:j=k
   ·simp only [if_pos e2] at h2;rw [if_neg e1,if_pos e2];exact eA i hi e1 h1 h2
   ·simp only [if_neg e2] at h2;rw [if_neg e1,if_neg e2];exact aA i j hi hj dA h1 h2
 ·rintro j(⟨h0,rfl⟩ | ⟨i,hi,h0,rfl⟩)
  ·exact bA _(Or.inl ⟨h0,rfl⟩)
  ·by_cases e:i=k
   ·simp only [if_pos e] at h0 ⊢;exact(cA h0).2
   ·simp only [if_neg e] at h0 ⊢;exact bA _(Or.inr ⟨i,hi,h0,rfl⟩)
theorem yh.turnedL{S:Nat->Prop}{w w1 w':World}{e:TypeId}{s:Nat}{v:Value}{n:Nat}(h:yh w e s v n)(hb:Below w.heap.size w w1)(t:zF S w1 w')(cA:0<n->∃q,v.ownBlock=some q/\¬S q):yh w' e s v n:=by
 rcases h with h | ⟨h0,g,cap,cur,hv,hg,h1,h2,h3⟩
 ·exact Or.inl h
 ·obtain⟨q,hq,hS⟩:=cA h0;rw [hv] at hq;have bA:g=q:=(by simpa [Value.ownBlock] using hq);subst bA;have aA:=(Array.getElem?_eq_some_iff.1 hg).1;exact Or.inr ⟨h0,g,cap,cur,hv,((t.block g(Nat.lt_of_lt_of_le aA hb.size) hS).trans(hb.block g aA)).trans hg,h1,h2,h3⟩
theorem zIs(W:zH)(q:zJ)(x:Int):zN {W with zRQ:=q} x=zN W x:=rfl
theorem zGQ(v0 v1:Value)(lo hi:Nat)(p:zJ)(xs xb:Int)(w:World)(h1:zy w lo hi v0 v1 p)(hn:qE p<=1048576) :
    Calls Tryz.prog 153 #[.agg #[v0,v1],.agg #[.int .i64 xs,.int .i64 xb]] w(zMi(zHx p xs xb) w):=by
  have Hp:=zU h1;obtain⟨a,c,a',c',rfl,rfl⟩:=h1.form;have Hn:=zU hn;have lB:p.hn<=1048576:=(by unfold qE at hn;omega);have gB:p.n<=1048576:=(by unfold qE at hn;omega);have kB:Hid(∀j,j<p.n->(p.s j).kn<=1048576):=fun j hj=>by have h2:=zFr p.s hj;unfold zAY at h2;unfold qE at hn;omega
  have mB:p.hn<=c':=(by obtain⟨_,⟨_,_,_,e,h,_⟩⟩:=h1;simp only [Value.slice.injEq,true_and] at e;omega);have bB:=zQv w(.slice a p.n c)(.slice a' p.hn c')(.int .i64 xs)(.int .i64 xb) 33 61 151;obtain⟨i0,hi0,hzz⟩:=Option.map_eq_some_iff.1 zDM;simp only [Prod.mk.injEq] at hzz;have HI:=zU(And.intro hi0 hzz);clear h1 hn hi0 hzz;go_enter Tryz.func153,Tryz.ntmps153;go_wp2_with fail;generalize((w.alloc(.cells #[.slice a p.n c,.slice a' p.hn c'] 33)).alloc(.cells #[.int .i64 xs,.int .i64 xb] 61)).alloc(.cells #[.slice none 0 0,.slice none 0 0,.int .i64 0,.int .i64 0,.int .i64 0] 151)=W at bB ⊢;obtain⟨hB,hX,hR,hba,hz⟩:=bB;refine(yz _ _ lo hi p _(Hp.out.zRJ hba)).mono ?_;rintro e w1 ⟨⟨t,rfl,ht⟩,hb1⟩;have aB:=zU(hB.zRJ hb1);have vA:=zU(hX.zRJ hb1);have tA:=zU(hR.zRJ hb1);have rA:=zA hba hb1;have eB:w.heap.size+3<=w1.heap.size:=(by have:=hb1.size;omega);clear hB hX hR hba hb1 hz;by_cases nA:zv p
  · have mA:=zU nA
    obtain rfl:t=true:=ht.2 nA;clear ht nA;obtain⟨⟨x0,x1⟩,⟨x2,x3⟩⟩:=aB.out;obtain⟨⟨y0,y1⟩,⟨y2,y3⟩⟩:=vA.out;go_wp2_with fail;refine(zEf _ p.n lo hi p.s _ _ _(Hp.out.1.zRJ rA)).mono ?_;rintro e w2 ⟨⟨t,rfl,ht⟩,hb2⟩;rw [zEj mA.out] at ht;have oA:=zU(aB.out.zRJ hb2);have sA:=zU(vA.out.zRJ hb2);have kA:=zU(tA.out.zRJ hb2);have jA:=zA rA hb2;have nB:w.heap.size+3<=w2.heap.size:=(by have:=hb2.size;omega);clear hb2 rA aB vA tA eB x0 x1 x2 x3 y0 y1 y2 y3;by_cases hP:zr p xs xb
    · have HP:=zU hP
      obtain rfl:t=true:=ht.2 hP;clear ht hP;obtain⟨⟨x0,x1⟩,⟨x2,x3⟩⟩:=oA.out;obtain⟨⟨y0,y1⟩,⟨y2,y3⟩⟩:=sA.out;go_wp2_with fail;refine(zCE _ p.hn lo hi p.h _ _(Hp.out.2.zRJ jA)).mono ?_;rintro e w3 ⟨⟨t,rfl,ht⟩,hw3⟩;subst hw3;by_cases hH:Has p.hn p.h xs
      · have HH:=zU hH
        obtain rfl:t=true:=ht.2 hH;clear ht hH;obtain⟨⟨u0,u1⟩,⟨u2,u3⟩,⟨u4,u5⟩,⟨u6,u7⟩,⟨u8,u9⟩⟩:=kA.out;go_wp2;have eA:=kA.out.put(.slice none 0 0)(.slice none 0 0)(.int .i64 0)(.int .i64 0)(.int .i64 4);have gA:=zCj(R:=w.heap.size+1+1)(u2:=.int .i64 0)(u3:=.int .i64 0)(u4:=.int .i64 4)(by omega) jA;rw [zJL mA.out(fun h=>h.2 HH.out)];exact bodyPost_ret(v:=.agg #[.slice none 0 0,.slice none 0 0,.int .i64 0,.int .i64 0,.int .i64 4])(by simp [results,Tryz.results153,go_sem,eA.1.1,eA.2.1.1,eA.2.2.1.1,eA.2.2.2.1.1,eA.2.2.2.2.1]) rfl ⟨_,_,rfl,gA.1,gA.2⟩
      · have HH:=zU hH
        obtain rfl:t=false:=zQ ht hH;clear ht hH;obtain⟨⟨u0,u1⟩,⟨u2,u3⟩,⟨u4,u5⟩,⟨u6,u7⟩,⟨u8,u9⟩⟩:=kA.out;have fB:(p.hn:Int)<=(c':Int):=(by omega);have n0:w.heap.size+1+1≠w.heap.size:=(by omega);have n1:w.heap.size+1+1≠w.heap.size+1:=(by omega);go_wp2_with fail;go_region_held3(fun w'=>w'.cell? ⟨w.heap.size,0,none⟩=some(.slice a p.n c)/\w'.cell? ⟨w.heap.size,1,none⟩=some(.slice a' p.hn c')/\w'.cell? ⟨w.heap.size+1,0,none⟩=some(.int .i64 xs))(go_keep)
          (first
            |(go_at_call 193;refine(zEO _ p.n lo hi p.s _ ?_ gB kB.out).mono ?_;(first | exact Hp.out.1.zRJ jA.drew | exact Hp.out.1.zRJ(zA jA(zC _ _)).drew);rintro e w5 ⟨v5,bs,kb,kv,rfl,ho5,hap5,hpl5,hb5⟩;obtain⟨_,sa,sc5,rfl,_⟩:=id ho5;(first | (have cB:w5.cell? ⟨w3.heap.size,0,none⟩=some(.int .i64 xs):=((zI(i:=0)(v:=.int .i64 xs)(heap_alloc_new w3(.cells #[.int .i64 xs] 2)) rfl).zRJ(zK hb5)).1) | skip);have dA:Below w3.heap.size w3 w5:=(by first | exact zK hb5 | exact zA(zC _ _)(zK hb5));have iA:∀k,yk bs kb p.n p.s k->w3.heap.size<=k/\k<w5.heap.size:=(by first | exact hpl5 | exact fun k hk=>(by have:=hpl5 k hk;simp at this;omega));have z0:=(oA.out.zRJ dA).1.1;have z1:=(oA.out.zRJ dA).2.1;have z2:=(sA.out.zRJ dA).1.1)
            |(refine step_append_grows rfl(.tmp 33)(.tmp 36) 23 rfl 2 i0(.int .i64 0) 1 8(by kernel_rfl) HI.out.1 HI.out.2.1 HI.out.2.2.1 HI.out.2.2.2 rfl(by decide) a' p.hn p.hn(ic p.h p.hn)(by simp [Act.eval])(zL6 Hp.out.2)(zBe _ _)(zNM Hp.out.2(zA jA(zA dA(zC w5 _)))) ⟨w5.heap.size,0,none⟩ 1 1 [.int .i64 xs](by simp [Act.eval]) rfl(zRD _ _ _)(zQO _)(by omega)(by unfold maxLen;omega)(by omega) ?_
               intro v6 w6 bA aA;obtain⟨a6,c6,rfl,_⟩:=zW bA;have lA:Below w5.heap.size w5 w6:=zA(zC w5 _)(zCU aA);have fA:w6.ownsRow w5.heap.size 2 1(.slice a6(p.hn+1) c6)(p.hn+1)(ic p.h p.hn ++ [.int .i64 xs]):=zER bA(by simp);have cA:=zA dA lA;obtain⟨⟨p0,p1⟩,⟨p2,p3⟩⟩:=oA.out.zRJ cA;obtain⟨⟨p4,p5⟩,⟨p6,p7⟩⟩:=sA.out.zRJ cA;obtain⟨⟨p8,p9⟩,⟨p10,p11⟩,⟨p12,p13⟩,⟨p14,p15⟩,⟨p16,p17⟩⟩:=kA.out.zRJ cA;clear bA aA)
            |(refine step_append_grows rfl(.tmp 33)(.tmp 36) 23 rfl 2 i0(.int .i64 0) 1 8(by kernel_rfl) HI.out.1 HI.out.2.1 HI.out.2.2.1 HI.out.2.2.2 rfl(by decide) a' p.hn p.hn(ic p.h p.hn)(by simp [Act.eval])(zL6 Hp.out.2)(zBe _ _)(zNM Hp.out.2(zA jA dA)) ⟨w3.heap.size,0,none⟩ 1 1 [.int .i64 xs](by simp [Act.eval]) rfl(zF7 cB)(zQO _)(by omega)(by unfold maxLen;omega)(by omega) ?_
               intro v6 w6 bA aA;obtain⟨a6,c6,rfl,_⟩:=zW bA;have lA:Below w5.heap.size w5 w6:=zCU aA;have fA:w6.ownsRow w5.heap.size 2 1(.slice a6(p.hn+1) c6)(p.hn+1)(ic p.h p.hn ++ [.int .i64 xs]):=zER bA(by simp);have cA:=zA dA lA;obtain⟨⟨p0,p1⟩,⟨p2,p3⟩⟩:=oA.out.zRJ cA;obtain⟨⟨p4,p5⟩,⟨p6,p7⟩⟩:=sA.out.zRJ cA;obtain⟨⟨p8,p9⟩,⟨p10,p11⟩,⟨p12,p13⟩,⟨p14,p15⟩,⟨p16,p17⟩⟩:=kA.out.zRJ cA;clear bA aA))
        all_goals
          have dB:=zU(zJX(p:=zAK p xs)(B:=w3.heap.size)(M:=w3.heap.size)(ho5.zRJ lA) hap5(fun k hk=>by have:=iA k hk;have:=lA.size;omega)(by show p.hn+1<=maxLen;unfold maxLen;omega)(by rw [<-zNW] at fA;exact fA)(fun k e=>by
            have h1:=fA.lt k e;refine⟨by have:=dA.size;omega,Or.inr(Or.inr ⟨h1.2,fun hx=>?_⟩)⟩;have:=iA k hx;omega)(Nat.le_refl _)(fun e=>absurd e(Nat.succ_ne_zero _)))
          have iB:=zU(kA.out.zRJ cA);have jB:=zA jA cA;clear ho5 hap5 hpl5 iA hb5 dA lA cA fA;go_wp2;have pA:=iB.out.put(.slice sa p.n sc5)(.slice a6(p.hn+1) c6)(.int .i64 0)(.int .i64 0)(.int .i64 0);have gA:=zHJ(R:=w.heap.size+1+1)(u2:=.int .i64 0)(u3:=.int .i64 0)(u4:=.int .i64 0) dB.out(by omega)(by omega)(Nat.le_refl _) jB;rw [zNR mA.out HP.out HH.out];exact bodyPost_ret(v:=.agg #[.slice sa p.n sc5,.slice a6(p.hn+1) c6,.int .i64 0,.int .i64 0,.int .i64 0])(by simp [results,Tryz.results153,go_sem,pA.1.1,pA.2.1.1,pA.2.2.1.1,pA.2.2.2.1.1,pA.2.2.2.2.1]) rfl ⟨_,_,rfl,gA.1,gA.2⟩
    · have HP:=zU hP
      obtain rfl:t=false:=zQ ht hP;clear ht hP;obtain⟨⟨u0,u1⟩,⟨u2,u3⟩,⟨u4,u5⟩,⟨u6,u7⟩,⟨u8,u9⟩⟩:=kA.out;go_wp2;have eA:=kA.out.put(.slice none 0 0)(.slice none 0 0)(.int .i64 0)(.int .i64 0)(.int .i64 4);have gA:=zCj(R:=w.heap.size+1+1)(u2:=.int .i64 0)(u3:=.int .i64 0)(u4:=.int .i64 4)(by omega) jA;rw [zJL mA.out(fun h=>HP.out h.1)];exact bodyPost_ret(v:=.agg #[.slice none 0 0,.slice none 0 0,.int .i64 0,.int .i64 0,.int .i64 4])(by simp [results,Tryz.results153,go_sem,eA.1.1,eA.2.1.1,eA.2.2.1.1,eA.2.2.2.1.1,eA.2.2.2.2.1]) rfl ⟨_,_,rfl,gA.1,gA.2⟩
  · have mA:=zU nA
    obtain rfl:t=false:=zQ ht nA;clear ht nA;obtain⟨⟨u0,u1⟩,⟨u2,u3⟩,⟨u4,u5⟩,⟨u6,u7⟩,⟨u8,u9⟩⟩:=tA.out;go_wp2;have eA:=tA.out.put(.slice none 0 0)(.slice none 0 0)(.int .i64 0)(.int .i64 0)(.int .i64 1);have gA:=zCj(R:=w.heap.size+1+1)(u2:=.int .i64 0)(u3:=.int .i64 0)(u4:=.int .i64 1)(by omega) rA;rw [zOO mA.out];exact bodyPost_ret(v:=.agg #[.slice none 0 0,.slice none 0 0,.int .i64 0,.int .i64 0,.int .i64 1])(by simp [results,Tryz.results153,go_sem,eA.1.1,eA.2.1.1,eA.2.2.1.1,eA.2.2.2.1.1,eA.2.2.2.2.1]) rfl ⟨_,_,rfl,gA.1,gA.2⟩
theorem zNk(v0 v1:Value)(a b c:Int)(w:World):(Instr.field 151(.agg #[v0,v1,.int .i64 a,.int .i64 b,.int .i64 c]) 0).run Tryz.prog w = .ok(.agg #[v0,v1]) w:=by kernel_rfl
theorem zMr(C lo hi:Nat)(z0 z1 z2 z3 u8:Value)(tm nx id m:Int)(p q:zJ)(x:Int×Int)(w:World)(hC:yq w C z0 z1(.int .i64 tm)(.int .i64 nx) z2 z3(.int .i64 id)(.int .i64 m) u8)(hP:zy w lo hi z0 z1 p)(hn:qE p<=1048576)(hh:zHx p x.1 x.2=⟨q,0,0,0⟩)(hm:0<=m)(dB:m<=1000000) :
  Calls Tryz.prog 96 #[.pointer(some ⟨C,0,none⟩),.agg #[.int .i64 x.1,.int .i64 x.2]] w fun e w'=>(∃v,e = .returned v)/\∃y0 y1,yq w' C y0 y1(.int .i64 tm)(.int .i64 nx) z2 z3(.int .i64 id)(.int .i64(m+1)) u8/\zt w' w.heap.size w'.heap.size y0 y1 q/\zF(fun j=>j=C) w w':=by
 obtain⟨a0,c0,a1,c1,rfl,rfl⟩:=hP.form;have aB:=hC.1.lt;have iA:=zC w(.cells #[.int .i64 x.1,.int .i64 x.2] 61);have HX:=zB(zc.zRL w(.int .i64 x.1)(.int .i64 x.2) 61);have HC:=zB(hC.zRJ iA);have cB:IntKind.i64.wrap(m+1)=m+1:=by first | exact wrap_small(by omega)(by omega) | exact wrap_small _(by omega)(by omega)
 have rA:(w.alloc(.cells #[.int .i64 x.1,.int .i64 x.2] 61)).heap.size=w.heap.size+1:=World.size_alloc _ _;have cA:=zB(show ∀w',Below(w.alloc(.cells #[.int .i64 x.1,.int .i64 x.2] 61)).heap.size(w.alloc(.cells #[.int .i64 x.1,.int .i64 x.2] 61)) w'->Calls Tryz.prog 153 #[.agg #[.slice a0 p.n c0,.slice a1 p.hn c1],.agg #[.int .i64 x.1,.int .i64 x.2]] w' fun e kA=>∃b0 d0 b1 d1,e = .returned(.agg #[.slice b0 q.n d0,.slice b1 q.hn d1,.int .i64 0,.int .i64 0,.int .i64 0])/\zt kA w'.heap.size kA.heap.size(.slice b0 q.n d0)(.slice b1 q.hn d1) q/\Below w'.heap.size w' kA from fun w' tA=>by
  refine(zGQ _ _ lo hi p x.1 x.2 w'((hP.zRJ iA).zRJ tA) hn).mono ?_;rw [hh];rintro e w2 ⟨y0,y1,rfl,ho,hb2⟩;obtain⟨b0,d0,b1,d1,rfl,rfl⟩:=ho.at.form;exact⟨b0,d0,b1,d1,rfl,ho,hb2⟩)
 clear hP hh hC hn;go_enter Tryz.func96,Tryz.ntmps96;go_wp2_with fail;generalize w.alloc(.cells #[.int .i64 x.1,.int .i64 x.2] 61)=w1 at iA HX HC rA cA ⊢;have gA:Below w1.heap.size w1 w1.drew:=(Below.refl _ _).drew;have jA:=zB(show ∀w',Below w1.drew.heap.size w1.drew w'->(fun w':World=>w'.cell? ⟨w.heap.size,0,none⟩=some(.int .i64 x.1)/\w'.cell? ⟨w.heap.size,1,none⟩=some(.int .i64 x.2)) w' from fun w' hb=>by
  have h:=(HX.out.zRJ gA).zRJ hb;exact⟨h.1.1,h.2.1⟩)
 obtain⟨⟨x0,-⟩,⟨x1,-⟩,-⟩:=HC.out.zRJ gA;refine wp_region_held_drew(S:=(fun w':World=>w'.cell? ⟨w.heap.size,0,none⟩=some(.int .i64 x.1)/\w'.cell? ⟨w.heap.size,1,none⟩=some(.int .i64 x.2)))(by kernel_rfl)(jA.out _(Below.refl _ _))(fun hHeld=>?_);have fA:=gA;generalize w1.drew=q0 at hHeld jA x0 x1 gA fA ⊢;refine tk 0(h:=tk 1(h:=tk 2(h:=tk 3(h:=tk 4(h:=tk 6(h:=?_))))));refine rd [5](rc(fun K hK=>?_) .nil);go_simp
 (try go_wp2_with fail)
 refine hK.out _ _(jA.out _(Below.refl _ _)) ?_;clear hK K;intro hHeld
 try simp only [Act.put,s1,s2,s3]
 refine rd [7](rc(fun K hK=>?_) .nil);go_simp;go_at_call 153;refine(cA.out q0 fA).mono ?_;rintro e w3 ⟨b0,d0,b1,d1,rfl,hO3,hb3⟩;have oA:=zB hO3;have dA:Below w1.heap.size w1 w3:=zA fA hb3;have bA:=zB(HC.out.zRJ dA);have eA:=zB(HX.out.zRJ dA);clear hO3
 (try go_wp2_with fail)
 refine hK.out _ _ ⟨eA.out.1.1,eA.out.2.1⟩ ?_;clear hK K hHeld;intro hHeld
 try simp only [Act.put,s1,s2,s3]
 have vA:=zNk(.slice b0 q.n d0)(.slice b1 q.hn d1) 0 0 0;refine tk 8(h:=tk 9(h:=tk 10(h:=tk 11(h:=?_))));refine rd [12](rc(fun K hK=>?_) .nil);obtain⟨⟨t0,t0'⟩,⟨t1,t1'⟩,-⟩:=bA.out;go_simp
 (try go_wp2_with fail)
 have hT:=(zF.put w3 C 0(.slice b0 q.n d0)).trans(zF.put(w3.setCell ⟨C,0,none⟩(.slice b0 q.n d0)) C 1(.slice b1 q.hn d1));have lA:=eA.out.zRR hT(fun h=>by omega);refine hK.out _ _ ⟨lA.1.1,lA.2.1⟩ ?_;clear hK K hHeld t0 t0' t1 t1';intro hHeld
 try simp only [Act.put,s1,s2,s3]
 refine wpAnyH_done(by kernel_rfl) ?_ _;have aA:=zB(show yq((w3.setCell ⟨C,0,none⟩(.slice b0 q.n d0)).setCell ⟨C,1,none⟩(.slice b1 q.hn d1)) C(.slice b0 q.n d0)(.slice b1 q.hn d1)(.int .i64 tm)(.int .i64 nx) z2 z3(.int .i64 id)(.int .i64 m) u8 from⟨(bA.out.1.set _).zRK _(Or.inr(by decide)),(bA.out.2.1.zRK _(Or.inr(by decide))).set _,(bA.out.2.2.1.zRK _(Or.inr(by decide))).zRK _(Or.inr(by decide)),(bA.out.2.2.2.1.zRK _(Or.inr(by decide))).zRK _(Or.inr(by decide)),(bA.out.2.2.2.2.1.zRK _(Or.inr(by decide))).zRK _(Or.inr(by decide)),(bA.out.2.2.2.2.2.1.zRK _(Or.inr(by decide))).zRK _(Or.inr(by decide)),(bA.out.2.2.2.2.2.2.1.zRK _(Or.inr(by decide))).zRK _(Or.inr(by decide)),(bA.out.2.2.2.2.2.2.2.1.zRK _(Or.inr(by decide))).zRK _(Or.inr(by decide)),(bA.out.2.2.2.2.2.2.2.2.zRK _(Or.inr(by decide))).zRK _(Or.inr(by decide))⟩);have sA:Below w.heap.size w w3:=zA iA dA;have nA:=zB(show zF(fun j=>j=C) w((w3.setCell ⟨C,0,none⟩(.slice b0 q.n d0)).setCell ⟨C,1,none⟩(.slice b1 q.hn d1))from(zF.zRM sA).trans hT);have bB:=hb3.size;have eB:=fA.size;have pA:=zB((oA.out.zRR hT(fun k e=>by omega)).zRO(show w.heap.size<=q0.heap.size by omega) hT.size);clear lA hT vA bA eA oA;generalize((w3.setCell ⟨C,0,none⟩(.slice b0 q.n d0)).setCell ⟨C,1,none⟩(.slice b1 q.hn d1))=w4 at aA nA pA ⊢;obtain⟨y7,y7'⟩:=aA.out.2.2.2.2.2.2.2.1;go_wp2_with fail;have mA:=zF.put w4 C 7(.int .i64(m+1));go_end0;refine⟨⟨_,rfl⟩,_,_,⟨aA.out.1.zRK _(Or.inr(by decide)),aA.out.2.1.zRK _(Or.inr(by decide)),aA.out.2.2.1.zRK _(Or.inr(by decide)),aA.out.2.2.2.1.zRK _(Or.inr(by decide)),aA.out.2.2.2.2.1.zRK _(Or.inr(by decide)),aA.out.2.2.2.2.2.1.zRK _(Or.inr(by decide)),aA.out.2.2.2.2.2.2.1.zRK _(Or.inr(by decide)),aA.out.2.2.2.2.2.2.2.1.set _,aA.out.2.2.2.2.2.2.2.2.zRK _(Or.inr(by decide))⟩,?_,nA.out.trans mA⟩;exact(pA.out.zRR mA(fun k e=>by omega)).zRO(Nat.le_refl _) mA.size
end Go.Proofs.YtmgeglgboadfiaaGreatDoor
