/- A part of the proof. -/
import Derived.Test.YtgabgheflgjgiaaGreatDoorU18
import Derived.ArgAppend
set_option linter.unusedVariables false
set_option maxRecDepth 20000
set_option maxHeartbeats 4000000
namespace Go.Proofs.YtgabgheflgjgiaaGreatDoor
open Go.RowKit
theorem zI7{w:World}(ty:TypeId)(a ao:Option Addr)(c:Nat):(Builtin.append_ #[100,100] ty #[.slice a 0 0,.slice ao 0 c]).run Tryz.prog w = .ok (.slice a 0 0) w:=by
 obtain⟨i0,aA,bA⟩:=Option.map_eq_some_iff.1 zDg;have ht:Tryz.prog.underlying 100=some (.slice 99):=by kernel_rfl
 cases a<;>cases ao<;>simp[Builtin.append_,run_underlying ht,sizeOf,typeInfo,aA,Builtin.lenOf,Builtin.firstCells,storeCells,loadCells,loadCellsFrom]
theorem zF2{w:World}{kb n lo hi:Nat}{kv vo:Value}{f g:Nat->Int}{l:List (Int×Int)}(ho:ze w kb kv n f g)(hB:zAc w 99 2 kv n)(hv:zp w lo hi vo l.length (zg l) (zj l))(hn:n+l.length<=4000000)(ty:TypeId) :
  ∃a c w' nb,(Builtin.append_ #[100,100] ty #[kv,vo]).run Tryz.prog w = .ok (.slice a (n+l.length) c) w'/\ze w' nb (.slice a (n+l.length) c) (yr n f g ++ l).length (zg (yr n f g ++ l)) (zj (yr n f g ++ l))/\zE (fun j=>0<n/\j=kb) w w'/\(0<n+l.length->(0<n/\nb=kb)\/(w.heap.size<=nb/\nb<w'.heap.size)):=by
 obtain⟨i0,jA,nA⟩:=Option.map_eq_some_iff.1 zDg;simp only[Prod.mk.injEq]at nA;obtain⟨cB,bB,pA⟩:=nA;have ht:Tryz.prog.underlying 100=some (.slice 99):=by kernel_rfl
 have eA:(yr n f g ++ l).length=n+l.length:=by rw[List.length_append,zAK]
 have lA:0<n->kv.ownBlock=some kb:=fun h0=>by
  obtain⟨_,a,c,hv,_,hx⟩:=ho;obtain⟨off,ha,_⟩:=hx h0;rw[hv,ha];rfl
 have cA:0<n->∀q,kv.ownBlock=some q->∀j u,(pcl (yr n f g))[j]?=some u->w.cell? ⟨q,j,none⟩=some u:=fun h0 q hq j u hj=>by
  have tA:j<n*2:=by
   have:=(List.getElem?_eq_some_iff.1 hj).1
   rwa [zBh,zAK]at this
  obtain⟨_,a,c,mA,_,hx⟩:=ho;obtain⟨off,iA,aA⟩:=hx h0;rcases hB with⟨e,_⟩ | ⟨_,g',oA,dB,gA,_⟩
  ·omega
  ·rw[mA,iA]at gA;simp only[Value.slice.injEq,Option.some.injEq,Addr.mk.injEq,and_true,true_and]at gA;obtain⟨⟨rfl,rfl⟩,rfl⟩:=gA;rw[mA,iA]at hq;obtain rfl:kb=q:=(by injection hq);obtain⟨i,hd,dA⟩:∃i,i<n/\(j=i*2\/j=i*2+1):=⟨j / 2,by omega,by omega⟩;have h8:=aA i hd;obtain⟨e1,e2⟩:=zBG (yr n f g) i (by rw[zAK];exact hd);have e3:=zG7 f g hd;unfold zg zj at e3;rw[e3.1]at e1;rw[e3.2]at e2;rcases dA with rfl | rfl
   ·rw[e1]at hj;replace hj:=Option.some.inj hj;have h9:=h8.1.1;rw[Nat.zero_add]at h9;rw[h9,hj]
   ·rw[e2]at hj;replace hj:=Option.some.inj hj;have h9:=h8.2.1;rw[Nat.zero_add]at h9;rw[h9,hj]
 by_cases kA:l.length=0
 ·obtain rfl:l = []:=List.eq_nil_of_length_eq_zero kA;obtain⟨_,ao,co,rfl,_,_⟩:=hv;have bA:∀a c,kv = .slice a n c->ze w kb (.slice a n c) (yr n f g ++ []).length (zg (yr n f g ++ [])) (zj (yr n f g ++ [])):=fun a c e=>by
   rw[List.append_nil,zAK];obtain⟨h1,a',c',h2,h3,hx⟩:=ho;rw[e]at h2;cases h2;refine⟨h1,a,c,rfl,h3,fun h0=>?_⟩;obtain⟨off,ha,aA⟩:=hx h0;exact⟨off,ha,fun i hi=>by rw[(zG7 f g hi).1,(zG7 f g hi).2];exact aA i hi⟩
  rcases Nat.eq_zero_or_pos n with h0 | h0
  ·rcases hB with⟨_,a,rfl⟩ | ⟨hp,_⟩
   ·subst h0;exact⟨a,0,w,kb,zI7 ty a ao co,bA a 0 rfl,zE.refl _ _,fun h=>by simp at h⟩
   ·omega
  ·obtain⟨a,c,hv⟩:∃a c,kv = .slice a n c:=(by obtain⟨_,a,c,h,_⟩:=ho;exact⟨a,c,h⟩);have fA:=hB.owns (base:=0) (xs:=pcl (yr n f g)) h0 (by rw[zBh,zAK]) (fun _ _=>Nat.zero_le _) (cA h0);exact⟨a,c,w,kb,by rw[show(Value.slice a (n+([]:List (Int×Int)).length) c)=kv from hv.symm];exact yl 0 100 ty 99 i0 2 co ao ht jA kv n _ fA,bA a c hv,zE.refl _ _,fun _=>Or.inl ⟨h0,rfl⟩⟩
 ·obtain⟨-,ao,co,rfl,-,hx⟩:=hv;obtain⟨b,off,rfl,-,-,aA⟩:=hx (by omega);obtain⟨q,cap,w',row,hr,bA,hg,aB,rA,sA⟩:=zAc.append (P:=Tryz.prog) 100 ty 99 i0 _ 2 16 0 ht jA cB bB pA rfl (by decide) hB (xs:=pcl (yr n f g)) (by rw[zBh,zAK]) (fun _ _ _=>Nat.zero_le _) cA
   ⟨b,off,none⟩ l.length co (pcl l) (zBh l) (fun j u hj=>by
    have tA:j<l.length*2:=by
     have:=(List.getElem?_eq_some_iff.1 hj).1
     rwa [zBh]at this
    obtain⟨i,hd,dA⟩:∃i,i<l.length/\(j=i*2\/j=i*2+1):=⟨j / 2,by omega,by omega⟩;have h8:=aA i hd;obtain⟨e1,e2⟩:=zBG l i hd;rcases dA with rfl | rfl
    ·rw[e1]at hj;replace hj:=Option.some.inj hj;rw[<-hj,show(⟨b,off,none⟩:Addr).add (i*2)=⟨b,off+i*2,none⟩from by simp[Addr.add]];exact h8.1
    ·rw[e2]at hj;replace hj:=Option.some.inj hj;rw[<-hj,show(⟨b,off,none⟩:Addr).add (i*2+1)=⟨b,off+i*2+1,none⟩from by simp[Addr.add,Nat.add_assoc]];exact h8.2) (zIr l) (by omega) (by unfold maxLen;omega) (by omega) (Nat.zero_le _)
  have hR:qH w' 0 (.slice (some ⟨q,0,none⟩) (n+l.length) cap) (yr n f g ++ l):=by
   unfold qH;rw[eA,zCL];exact bA
  obtain⟨nb,h1,h2⟩:=hR.own (by rw[eA];unfold maxLen;omega);have vA:q=nb:=by
   have:=(h2 (by rw[eA];exact Nat.add_pos_right n (Nat.pos_of_ne_zero kA))).1;simp only[Value.ownBlock]at this;injection this
  subst vA;refine⟨_,_,w',q,hr,h1,(zB2 hg).mono ?_,fun _=>?_⟩
  ·intro j hj;rcases aB with h | ⟨h0,h⟩
   ·rw[h]at hj;cases hj
   ·rw[h,lA h0]at hj;injection hj with hj;exact⟨h0,hj.symm⟩
  ·rcases rA with⟨h0,h⟩ | h
   ·rw[lA h0]at h;injection h with h;exact Or.inl ⟨h0,h.symm⟩
   ·exact Or.inr ⟨by omega,sA⟩
theorem zHG{w w':World}{Q:Nat->Prop}{bs off n c:Nat}{kb:Nat->Nat}{kv:Nat->Value}{f:Nat->zu}(hS:qK w bs kb kv (.slice (some ⟨bs,off,none⟩) n c) n f)(aA:qy kb n f)(cA:∀j,yo bs kb n f j->Q j){k:Nat}(hk:k<n){s':zu}{nb:Nat}{nv:Value}
  (ht:zE (fun j=>j=bs\/(0<(f k).dn/\j=kb k)) w w') (hx:∀j,j<n->j≠k->∀r,r<6->∀u,zT w bs (off+j*6+r) u->zT w' bs (off+j*6+r) u) (hs:qx w' bs (off+k*6) nb nv s') (fA:0<s'.dn->((0<(f k).dn/\nb=kb k)\/∀j,yo bs kb n f j->j≠nb)/\Q nb) :
  zAd w' Q (.slice (some ⟨bs,off,none⟩) n c) n (fun j=>if j=k then s' else f j):=by
 have dA:∀i,i<n->i≠k->0<(f i).dn->0<s'.dn->kb i≠nb:=fun i hi gA h1 h2 e=>by
  rcases(fA h2).1 with⟨h3,h4⟩ | h3
  ·exact aA i k hi hk gA h1 h3 (by rw[e,h4])
  ·exact h3 (kb i) (Or.inr ⟨i,hi,h1,rfl⟩) e
 refine⟨bs,(fun j=>if j=k then nb else kb j),(fun j=>if j=k then nv else kv j),?_,?_,?_⟩
 ·obtain⟨hm,a,cap,hv,hc,iA⟩:=hS;simp only[Value.slice.injEq,true_and]at hv;obtain⟨rfl,rfl⟩:=hv;refine⟨hm,_,_,rfl,hc,fun h0=>?_⟩;obtain⟨jA,e,bA⟩:=iA h0;simp only[Option.some.injEq,Addr.mk.injEq,true_and,and_true]at e;subst e;refine⟨off,rfl,fun j hj=>?_⟩;by_cases e:j=k
  ·subst e;simp only[if_true];exact hs
  ·simp only[if_neg e];have h:=bA j hj;exact⟨hx j hj e 0 (by omega) _ h.c0,hx j hj e 1 (by omega) _ h.c1,hx j hj e 2 (by omega) _ h.c2,hx j hj e 3 (by omega) _ h.c3,hx j hj e 4 (by omega) _ h.c4,hx j hj e 5 (by omega) _ h.c5,h.zO5.zOr ht (fun h0 hh=>by
    rcases hh with hh | ⟨h1,hh⟩
    ·exact h.zO4 h0 hh
    ·exact aA j k hj hk e h0 h1 hh),h.zO6,h.zO4⟩
 ·intro i j hi hj eA h1 h2;show(if i=k then nb else kb i)≠(if j=k then nb else kb j);by_cases e1:i=k
  ·by_cases e2:j=k
   ·exact absurd (e1.trans e2.symm) eA
   ·simp only[if_pos e1]at h1;simp only[if_neg e2]at h2;rw[if_pos e1,if_neg e2];exact fun e=>dA j hj e2 h2 h1 e.symm
  ·simp only[if_neg e1]at h1;by_cases e2:j=k
   ·simp only[if_pos e2]at h2;rw[if_neg e1,if_pos e2];exact dA i hi e1 h1 h2
   ·simp only[if_neg e2]at h2;rw[if_neg e1,if_neg e2];exact aA i j hi hj eA h1 h2
 ·rintro j (⟨h0,rfl⟩ | ⟨i,hi,h0,rfl⟩)
  ·exact cA _ (Or.inl ⟨h0,rfl⟩)
  ·by_cases e:i=k
   ·simp only[if_pos e]at h0 ⊢;exact(fA h0).2
   ·simp only[if_neg e]at h0 ⊢;exact cA _ (Or.inr ⟨i,hi,h0,rfl⟩)
theorem zJm{w w':World}{Q:Nat->Prop}{bs off n c:Nat}{kb:Nat->Nat}{kv:Nat->Value}{f:Nat->zd}(hS:qI w bs kb kv (.slice (some ⟨bs,off,none⟩) n c) n f)(aA:yF kb n f)(cA:∀j,zAZ bs kb n f j->Q j){k:Nat}(hk:k<n){s':zd}{nb:Nat}{nv:Value}
  (ht:zE (fun j=>j=bs\/(0<(f k).dn/\j=kb k)) w w') (hx:∀j,j<n->j≠k->∀r,r<8->∀u,zT w bs (off+j*8+r) u->zT w' bs (off+j*8+r) u) (hs:yA w' bs (off+k*8) nb nv s') (fA:0<s'.dn->((0<(f k).dn/\nb=kb k)\/∀j,zAZ bs kb n f j->j≠nb)/\Q nb) :
  yp w' Q (.slice (some ⟨bs,off,none⟩) n c) n (fun j=>if j=k then s' else f j):=by
 have dA:∀i,i<n->i≠k->0<(f i).dn->0<s'.dn->kb i≠nb:=fun i hi gA h1 h2 e=>by
  rcases(fA h2).1 with⟨h3,h4⟩ | h3
  ·exact aA i k hi hk gA h1 h3 (by rw[e,h4])
  ·exact h3 (kb i) (Or.inr ⟨i,hi,h1,rfl⟩) e
 refine⟨bs,(fun j=>if j=k then nb else kb j),(fun j=>if j=k then nv else kv j),?_,?_,?_⟩
 ·obtain⟨hm,a,cap,hv,hc,iA⟩:=hS;simp only[Value.slice.injEq,true_and]at hv;obtain⟨rfl,rfl⟩:=hv;refine⟨hm,_,_,rfl,hc,fun h0=>?_⟩;obtain⟨jA,e,bA⟩:=iA h0;simp only[Option.some.injEq,Addr.mk.injEq,true_and,and_true]at e;subst e;refine⟨off,rfl,fun j hj=>?_⟩;by_cases e:j=k
  ·subst e;simp only[if_true];exact hs
  ·simp only[if_neg e];have h:=bA j hj;exact⟨hx j hj e 0 (by omega) _ h.c0,hx j hj e 1 (by omega) _ h.c1,hx j hj e 2 (by omega) _ h.c2,hx j hj e 3 (by omega) _ h.c3,hx j hj e 4 (by omega) _ h.c4,hx j hj e 5 (by omega) _ h.c5,hx j hj e 6 (by omega) _ h.c6,hx j hj e 7 (by omega) _ h.c7,h.zO5.zOr ht (fun h0 hh=>by
    rcases hh with hh | ⟨h1,hh⟩
    ·exact h.zO4 h0 hh
    ·exact aA j k hj hk e h0 h1 hh),h.zO6,h.zO4⟩
 ·intro i j hi hj eA h1 h2;show(if i=k then nb else kb i)≠(if j=k then nb else kb j);by_cases e1:i=k
  ·by_cases e2:j=k
   ·exact absurd (e1.trans e2.symm) eA
   ·simp only[if_pos e1]at h1;simp only[if_neg e2]at h2;rw[if_pos e1,if_neg e2];exact fun e=>dA j hj e2 h2 h1 e.symm
  ·simp only[if_neg e1]at h1;by_cases e2:j=k
   ·simp only[if_pos e2]at h2;rw[if_neg e1,if_pos e2];exact dA i hi e1 h1 h2
   ·simp only[if_neg e2]at h2;rw[if_neg e1,if_neg e2];exact aA i j hi hj eA h1 h2
 ·rintro j (⟨h0,rfl⟩ | ⟨i,hi,h0,rfl⟩)
  ·exact cA _ (Or.inl ⟨h0,rfl⟩)
  ·by_cases e:i=k
   ·simp only[if_pos e]at h0 ⊢;exact(fA h0).2
   ·simp only[if_neg e]at h0 ⊢;exact cA _ (Or.inr ⟨i,hi,h0,rfl⟩)
theorem zAc.turnedL{S:Nat->Prop}{w w1 w':World}{e:TypeId}{s:Nat}{v:Value}{n:Nat}(h:zAc w e s v n)(hb:Below w.heap.size w w1)(t:zE S w1 w')(dA:0<n->∃q,v.ownBlock=some q/\¬S q):zAc w' e s v n:=by
 rcases h with h | ⟨h0,g,cap,bA,hv,hg,h1,h2,h3⟩
 ·exact Or.inl h
 ·obtain⟨q,hq,hS⟩:=dA h0;rw[hv]at hq;have cA:g=q:=(by simpa[Value.ownBlock]using hq);subst cA;have aA:=(Array.getElem?_eq_some_iff.1 hg).1;exact Or.inr ⟨h0,g,cap,bA,hv,((t.block g (Nat.lt_of_lt_of_le aA hb.size) hS).trans (hb.block g aA)).trans hg,h1,h2,h3⟩
theorem zLw{w:World}{bs o nb:Nat}{f:Nat->zd}{kv:Nat->Value}{i:Nat}(h:yA w bs o nb (kv i) (f i)):∀r,r<8->zT w bs (o+r) (cellSnap f kv i r)
 | 0,_=>h.c0
 | 1,_=>h.c1
 | 2,_=>h.c2
 | 3,_=>h.c3
 | 4,_=>h.c4
 | 5,_=>h.c5
 | 6,_=>h.c6
 | 7,_=>h.c7
 | n+8,h=>absurd h (by omega)
theorem qI.nthE{w:World}{bs n off c:Nat}{kb:Nat->Nat}{kv:Nat->Value}{f:Nat->zd}(h:qI w bs kb kv (.slice (some ⟨bs,off,none⟩) n c) n f){k:Nat}(hk:k<n):yA w bs (off+k*8) (kb k) (kv k) (f k):=by
 obtain⟨_,a,c',hv,_,hx⟩:=h;simp only[Value.slice.injEq,true_and]at hv;obtain⟨aA,e,hs⟩:=hx (by omega);rw[<-hv.1]at e;simp only[Option.some.injEq,Addr.mk.injEq,and_true,true_and]at e;rw[e];exact hs k hk
section
variable {w wq w7 : World} {C PB IB k bn off cn nb mid : Nat} {z0 z1 z2 y0 y1 nv : Value} {W : zH} {x m : Int} {P Q R : Nat -> Prop} {kb : Nat -> Nat} {kv : Nat -> Value} {pl : zI}
end
def qw(W:zH)(sid:Int)(w:World)(e:Ending)(w':World):Prop:=∃r o,zCj W (∃i,i<0/\8000<((fun (_:Nat)=>(⟨#[]⟩:ByteArray)) i).size) (∃i,i<0/\¬qV ((fun _=>⟨#[]⟩) i)) 2 (fun i=>match i with | 0=>qL W sid | _=>zCe W sid=1) (fun i=>match i with | 0=>2 | _=>5) r/\(r=none->∃k,qo W sid k/\((∃i,zHm W sid i/\o=⟨zOe W k i,0,((zHA W k i).length:Int),0⟩)\/∃i,zGS W sid i/\o=⟨zOf W k i,0,((zFX W k i).length:Int),0⟩))/\zw (zHg r o) w e w'
theorem qw.ill{W:zH}{aA:Int}{w w':World}{e:Ending}{i:Nat}(hr:zCj W (∃i,i<0/\8000<((fun (_:Nat)=>(⟨#[]⟩:ByteArray)) i).size) (∃i,i<0/\¬qV ((fun _=>⟨#[]⟩) i)) 2 (fun i=>match i with | 0=>qL W aA | _=>zCe W aA=1) (fun i=>match i with | 0=>2 | _=>5) (some i))(h:zw (yB (zEU i)) w e w'):qw W aA w e w':=⟨some i,yB 0,hr,fun e=>(by cases e),h⟩
theorem zHB{W:zH}(hS:zBr W)(t:Int):(∀i,i<W.pn->zCi (W.zOw i).dn (W.zOw i).ds (W.zOw i).db/\zAu W.zOv (yh (W.zOw i).ds (W.zOw i).db t (W.zOw i).dn))/\∀i,i<W.sn->zCi (W.zOy i).dn (W.zOy i).ds (W.zOy i).db/\zAu W.zOv (yh (W.zOy i).ds (W.zOy i).db t (W.zOy i).dn):=by
 refine⟨fun i hi=>?_,fun i hi=>?_⟩
 ·have:=zHr hS (i:=i) (by unfold qf;omega) t;rw[qZ hi]at this;exact this
 ·have:=zHr hS (i:=W.pn+i) (by unfold qf;omega) t;rw[yk]at this;exact this
def qj(p:zI)(i:Nat)(s:zO):zI:={n:=p.n,s:=fun j=>if j=i then s else p.s j,hn:=p.hn,h:=p.h}
theorem zh.set{w:World}{lo hi:Nat}{a:Option Addr}{c:Nat}{v1:Value}{p:zI}(h:zh w lo hi (.slice a p.n c) v1 p){i:Nat}(bA:i<p.n) :
  ∃bs off,a=some ⟨bs,off,none⟩/\(lo<=bs/\bs<hi)/\(∃x0 x1 x2,zT w bs (off+i*3) x0/\zT w bs (off+i*3+1) x1/\zT w bs (off+i*3+2) x2)/\
   ∀(s:zO) (nb:Nat) (nv:Value) (eA bA:Nat),ze w nb nv s.kn s.ks s.kb->s.data.size<=maxLen->(0<s.kn->(nb<lo\/hi<=nb)/\eA<=nb/\nb<bA)->eA<=lo->hi<=bA->
    zh (((w.setCell ⟨bs,off+i*3,none⟩ (.int .i64 s.zO1)).setCell ⟨bs,off+i*3+1,none⟩ nv).setCell ⟨bs,off+i*3+2,none⟩ (.string s.data)) eA bA (.slice a p.n c) v1 (qj p i s):=by
 obtain⟨bs,hb,kb,kv,⟨hm,a0,c0,hv,nA,hx⟩,lA,fA,iA,jA⟩:=h;simp only[Value.slice.injEq,true_and]at hv;obtain⟨rfl,rfl⟩:=hv;have h0:0<p.n:=by omega
 obtain⟨off,ha,dA⟩:=hx h0;have mA:=jA bs (Or.inl (Or.inl ⟨h0,rfl⟩));have gA:∀j,j<p.n->0<(p.s j).kn->lo<=kb j/\kb j<hi:=fun j hj hk=>jA _ (Or.inl (Or.inr ⟨j,hj,hk,rfl⟩))
 have kA:0<p.hn->lo<=hb/\hb<hi:=fun h=>jA _ (Or.inr ⟨h,rfl⟩)
 refine⟨bs,off,ha,mA,⟨_,_,_,(dA i bA).zO1,(dA i bA).kidsv,(dA i bA).data⟩,fun s nb nv eA oA hp hs cA h1 h2=>?_⟩;refine⟨bs,hb,(fun j=>if j=i then nb else kb j),(fun j=>if j=i then nv else kv j),⟨hm,a,c,rfl,nA,fun _=>⟨off,ha,fun j hj=>?_⟩⟩,fun j k hj hk pA g1 g2=>?_,?_,fun g0 hx=>?_,fun k hk=>?_⟩
 ·have aA:=dA j hj;by_cases e:j=i
  ·subst e;simp only[qj,if_true];refine⟨?_,?_,?_,?_,hs,fun hk e=>by have:=cA hk;omega⟩
   ·exact((aA.zO1.set _).zOq _ (Or.inr (by omega))).zOq _ (Or.inr (by omega))
   ·exact((aA.kidsv.zOq _ (Or.inr (by omega))).set _).zOq _ (Or.inr (by omega))
   ·exact((aA.data.zOq _ (Or.inr (by omega))).zOq _ (Or.inr (by omega))).set _
   ·refine((hp.zOr (zE.put _ _ _ _) ?_).zOr (zE.put _ _ _ _) ?_).zOr (zE.put _ _ _ _) ?_
    all_goals exact fun hk e=>by have:=cA hk;omega
  ·simp only[qj,if_neg e];refine⟨?_,?_,?_,?_,aA.zO6,aA.zO4⟩
   ·exact((aA.zO1.zOq _ (Or.inr (by omega))).zOq _ (Or.inr (by omega))).zOq _ (Or.inr (by omega))
   ·exact((aA.kidsv.zOq _ (Or.inr (by omega))).zOq _ (Or.inr (by omega))).zOq _ (Or.inr (by omega))
   ·exact((aA.data.zOq _ (Or.inr (by omega))).zOq _ (Or.inr (by omega))).zOq _ (Or.inr (by omega))
   ·refine((aA.kids.zOr (zE.put _ _ _ _) ?_).zOr (zE.put _ _ _ _) ?_).zOr (zE.put _ _ _ _) ?_
    all_goals exact fun hk e=>aA.zO4 hk e
 ·show(if j=i then nb else kb j)≠(if k=i then nb else kb k);by_cases e1:j=i
  ·by_cases e2:k=i
   ·omega
   ·rw[if_pos e1,if_neg e2];simp only[qj,if_pos e1]at g1;simp only[qj,if_neg e2]at g2;have:=cA g1;have:=gA k hk g2;omega
  ·by_cases e2:k=i
   ·rw[if_neg e1,if_pos e2];simp only[qj,if_neg e1]at g1;simp only[qj,if_pos e2]at g2;have:=cA g2;have:=gA j hj g1;omega
   ·rw[if_neg e1,if_neg e2];simp only[qj,if_neg e1]at g1;simp only[qj,if_neg e2]at g2;exact lA j k hj hk pA g1 g2
 ·have rA:0<p.hn->hb≠bs:=fun h e=>iA h (Or.inl ⟨h0,e⟩)
  refine((fA.zOr (zE.put _ _ _ _) ?_).zOr (zE.put _ _ _ _) ?_).zOr (zE.put _ _ _ _) ?_
  all_goals exact fun hk e=>rA hk e
 ·rcases hx with⟨_,e⟩ | ⟨j,hj,g1,e⟩
  ·exact iA g0 (Or.inl ⟨h0,e⟩)
  ·by_cases e1:j=i
   ·simp only[qj,if_pos e1]at g1 e;have:=cA g1;have:=kA g0;omega
   ·simp only[qj,if_neg e1]at g1 e;exact iA g0 (Or.inr ⟨j,hj,g1,e⟩)
 ·rcases hk with(⟨_,e⟩ | ⟨j,hj,g1,e⟩) | ⟨g0,e⟩
  ·omega
  ·by_cases e1:j=i
   ·simp only[qj,if_pos e1]at g1 e;have:=cA g1;omega
   ·simp only[qj,if_neg e1]at g1 e;have:=gA j hj g1;omega
  ·have:=kA g0;omega
theorem zG1{w wr:World}{lo hi R:Nat}{s0 s1:Value}{p:zI}(ho:zh wr lo hi s0 s1 p)(bA:R<lo)(aA:w.heap.size<=R)(cA:hi<=wr.heap.size)(hb:Below w.heap.size w wr) :
  zh ((wr.setCell ⟨R,0,none⟩ s0).setCell ⟨R,1,none⟩ s1) w.heap.size ((wr.setCell ⟨R,0,none⟩ s0).setCell ⟨R,1,none⟩ s1).heap.size s0 s1 p/\Below w.heap.size w ((wr.setCell ⟨R,0,none⟩ s0).setCell ⟨R,1,none⟩ s1):=by
 have t:=(zE.put wr R 0 s0).trans (zE.put _ R 1 s1);have hz:=t.size;exact⟨(ho.zOr t (fun k hk=>by omega)).zOu (by omega) (by omega),(hb.setCell aA _).setCell aA _⟩
def qk(n:Nat)(f:Nat->zO)(i:Nat):Prop:=i<n/\qJ (f i)/\∀j,j<i->¬qJ (f j)
theorem qk.uniq{n:Nat}{f:Nat->zO}{i j:Nat}(h:qk n f i)(h':qk n f j):i=j:=by
 rcases Nat.lt_trichotomy i j with e | e | e
 ·exact absurd h.2.1 (h'.2.2 i e)
 ·exact e
 ·exact absurd h'.2.1 (h.2.2 j e)
open Classical in
noncomputable def zAP(p:zI)(s:zO):zFJ:=
 if zt p/\¬qJ s/\ym p s then(if h:∃i,qk p.n p.s i then⟨qj p (Classical.choose h) s,((Classical.choose h:Nat):Int),s.zO1,0⟩else⟨zBn 0,0,0,6⟩)else⟨zBn 0,0,0,1⟩
theorem zC6{p:zI}{s:zO}(h:zt p/\¬qJ s/\ym p s)(h':∀j,j<p.n->¬qJ (p.s j)):zAP p s=⟨zBn 0,0,0,6⟩:=by
 unfold zAP;rw[if_pos h,dif_neg (fun ⟨i,hi⟩=>h' i hi.1 hi.2.1)]
theorem zFF{p:zI}{s:zO}{i:Nat}(h:zt p/\¬qJ s/\ym p s)(h':qk p.n p.s i):zAP p s=⟨qj p i s,(i:Int),s.zO1,0⟩:=by
 unfold zAP;have hx:∃i,qk p.n p.s i:=⟨i,h'⟩;rw[if_pos h,dif_pos hx];have e:Classical.choose hx=i:=(Classical.choose_spec hx).uniq h';rw[e]
theorem zE.trans2{S T:Nat->Prop}{a b c:World}(h:zE S a b)(k:zE T b c)(aA:∀i,T i->i<a.heap.size->S i):zE S a c:=
 ⟨k.os.trans h.os,k.tape.trans h.tape,k.output.trans h.output,Nat.le_trans h.size k.size,fun i hi hs=>(k.block i (Nat.lt_of_lt_of_le hi h.size) (fun t=>hs (aA i t hi))).trans (h.block i hi hs)⟩
theorem zHI(f:Nat->zO)(i:Nat)(s:zO):∀n,zAo (fun j=>if j=i then s else f j) n<=zAo f n+(if i<n then zAn s else 0)
 | 0=>Nat.zero_le _
 | n+1=>by
  have ih:=zHI f i s n;show zAo (fun j=>if j=i then s else f j) n+zAn (if n=i then s else f n)<=zAo f n+zAn (f n)+_;by_cases e:n=i
  ·rw[if_pos e,if_pos (by omega)];rw[if_neg (by omega)]at ih;omega
  ·rw[if_neg e];by_cases e2:i<n
   ·rw[if_pos e2]at ih;rw[if_pos (by omega)];omega
   ·rw[if_neg e2]at ih;rw[if_neg (by omega)];omega
theorem zLu(p:zI)(i:Nat)(s:zO):qA (qj p i s)<=qA p+zAn s:=by
 have h:=zHI p.s i s p.n;have h2:(if i<p.n then zAn s else 0)<=zAn s:=by split<;>omega
 show p.n+zAo (fun j=>if j=i then s else p.s j) p.n+p.hn<=p.n+zAo p.s p.n+p.hn+zAn s;omega
def yK(f g:Nat->Int):Prop:=∀i,i<8->Nil (f i) (g i)
def qO(f g:Nat->Int)(b:Int):zO:={zO1:=b,kn:=8,ks:=f,kb:=g,data:=⟨#[]⟩}
open Classical in
noncomputable def zJU(p:zI)(f g:Nat->Int)(b:Int):zFJ:=if yK f g then⟨p,0,0,0⟩else zAP p (qO f g b)
def zAy(f g:Nat->Int)(n:Nat):List (Int×Int):=(List.range n).map fun i=>(f i,g i)
theorem yE(f g:Nat->Int)(n:Nat):(zAy f g n).length=n:=by simp[zAy]
theorem zLp(f g:Nat->Int)(n:Nat):zAy f g (n+1)=zAy f g n ++ [(f n,g n)]:=by simp[zAy,List.range_succ]
theorem zIx(f g:Nat->Int){n i:Nat}(h:i<n):zg (zAy f g n) i=f i/\zj (zAy f g n) i=g i:=by
 have:(zAy f g n).getD i (0,0)=(f i,g i):=by
  rw[List.getD_eq_getElem?_getD,List.getElem?_eq_getElem (by rw[yE];exact h),Option.getD_some];simp[zAy]
 unfold zg zj;rw[this];exact⟨rfl,rfl⟩
theorem zG6{f g f' g':Nat->Int}{n:Nat}(h:∀i,i<n->f i=f' i/\g i=g' i):zAy f g n=zAy f' g' n:=by
 unfold zAy;apply List.map_congr_left;intro i hi;rw[List.mem_range]at hi;rw[(h i hi).1,(h i hi).2]
theorem zH4{w:World}{b off:Nat}{f g:Nat->Int}:∀{n:Nat},(∀i,i<n->w.cell? ⟨b,off+i*2,none⟩=some (.int .i64 (f i))/\w.cell? ⟨b,off+i*2+1,none⟩=some (.int .i64 (g i)))->∀j u,(pcl (zAy f g n))[j]?=some u->w.cell? ⟨b,off+j,none⟩=some u
 | 0,_,j,u,hj=>by simp[zAy,pcl]at hj
 | n+1,h,j,u,hj=>by
  rw[zLp,zCL]at hj;by_cases aA:j<n*2
  ·rw[List.getElem?_append_left (by rw[zBh,yE];exact aA)]at hj;exact zH4 (fun i hi=>h i (by omega)) j u hj
  ·rw[List.getElem?_append_right (by rw[zBh,yE];omega),zBh,yE]at hj;obtain⟨h1,h2⟩:=h n (Nat.lt_succ_self n);have bA:j - n*2<2:=by
    have:=(List.getElem?_eq_some_iff.1 hj).1;simpa[pcl]using this
   by_cases e:j=n*2
   ·subst e;rw[h1];simpa[pcl]using hj
   ·obtain rfl:j=n*2+1:=(by omega);rw[show n*2+1 - n*2=1 by omega]at hj;rw[<-Nat.add_assoc,h2];simpa[pcl]using hj
def yi(p:zI)(xs xb:Int)(i:Nat):Int:=if Nil xs xb then 0 else zU (p.s xs.toNat) i
def zAJ(p:zI)(xs xb:Int)(i:Nat):Int:=if Nil xs xb then 0 else zq (p.s xs.toNat) i
theorem zNK:pcl (zAy (fun _=>0) (fun _=>0) 8)=(zDO #[.int .i64 0,.int .i64 0] 8).toList:=by kernel_rfl
theorem zA2(v0 v1:Value)(lo hi:Nat)(p:zI)(xs xb:Int)(w:World)(h1:qm w lo hi v0 v1 p)(hP:Nil xs xb\/(zy p xs xb/\(p.s xs.toNat).kn=8)) :
  Calls Tryz.prog 113 #[.agg #[v0,v1],.agg #[.int .i64 xs,.int .i64 xb]] w fun e w'=>∃b cp,e = .returned (.slice (some ⟨b,0,none⟩) 8 cp)/\qH w' w.heap.size (.slice (some ⟨b,0,none⟩) 8 cp) (zAy (yi p xs xb) (zAJ p xs xb) 8)/\Below w.heap.size w w':=by
 have Hp:=zF h1;have HP:=zF hP;obtain⟨a,c,a',c',rfl,rfl⟩:∃a c a' c',v0 = .slice a p.n c/\v1 = .slice a' p.hn c':=by
  obtain⟨⟨_,a,c,h1,_⟩,⟨_,a',c',h3,_⟩⟩:=h1;exact⟨a,c,a',c',h1,h3⟩
 clear h1 hP;have aB:=zB1 w (.slice a p.n c) (.slice a' p.hn c') (.int .i64 xs) (.int .i64 xb) 36 99;obtain⟨i0,tA,lA⟩:=Option.map_eq_some_iff.1 zCt;simp only[Prod.mk.injEq]at lA;have HI:=zF (And.intro tA lA);clear tA lA;go_enter Tryz.func113,Tryz.ntmps113;go_wp2_with fail;generalize (w.alloc (.cells #[.slice a p.n c,.slice a' p.hn c'] 36)).alloc (.cells #[.int .i64 xs,.int .i64 xb] 99)=W at aB ⊢;obtain⟨hB,hX,sA,hz⟩:=aB;refine(yN xs xb W).mono ?_;rintro e w1 ⟨⟨t,rfl,ht⟩,eA⟩;have nA:=zF (hB.zOp eA);have oA:=zF (hX.zOp eA);have rA:=zA sA eA;have lB:w.heap.size+2<=w1.heap.size:=by have:=eA.size;omega
 clear hB hX sA eA hz;by_cases hn:Nil xs xb
 ·have HN:=zF hn;obtain rfl:t=true:=ht.2 hn;clear ht hn;have vA:=zGr 100 99 (.agg #[.int .i64 0,.int .i64 0]) 2 16 (by kernel_rfl) zNc rfl 8 (by omega) (by omega);have jB:∀w,(Instr.makeSlice 100 (.int .i64 8) (.int .i64 8)).run Tryz.prog w = .ok (.slice (some ⟨w.heap.size,0,none⟩) 8 8) (w.alloc (.cells (zDO #[.int .i64 0,.int .i64 0] 8) 99)):=vA;clear vA;have fA:=World.ownsRow_lit (e:=99) (size:=2) (base:=w.heap.size) w1 (zDO #[.int .i64 0,.int .i64 0] 8) 8 (by omega) (by unfold maxLen;omega) (by decide +kernel);have gB:=zA rA (zC w1 (.cells (zDO #[.int .i64 0,.int .i64 0] 8) 99));have cA:=zF fA;clear fA;go_wp2;go_ret;refine⟨_,_,rfl,?_,gB⟩;have e0:zAy (yi p xs xb) (zAJ p xs xb) 8=zAy (fun _=>0) (fun _=>0) 8:=zG6 (fun i _=>⟨if_pos HN.out,if_pos HN.out⟩);unfold qH;rw[e0,zNK,yE];exact cA.out
 ·have HN:=zF hn;obtain rfl:t=false:=zP ht hn;clear ht hn;obtain⟨jA,h8⟩:=HP.out.resolve_left HN.out;have dA:Hid (zAy (yi p xs xb) (zAJ p xs xb) 8=zAy (p.s xs.toNat).ks (p.s xs.toNat).kb 8):=zG6 (fun i hi=>⟨(if_neg HN.out).trans (zCa h8 hi),(if_neg HN.out).trans (zDz h8 hi)⟩);obtain⟨k,rfl⟩:=Int.eq_ofNat_of_zero_le jA.2.1;have hk:k<p.n:=(by have:=jA.2.2.1;omega);have kB:(k:Int)<(p.n:Int):=(by omega);rw[Int.toNat_natCast]at h8 dA;clear jA HP;obtain⟨b,off,ka,kc,rfl,kA⟩:=Hp.out.1.cells hk;have pA:Hid (zp w lo hi (.slice ka 8 kc) 8 (p.s k).ks (p.s k).kb):=(by have:=kA.slot.2.1;rw[h8]at this;exact this);have iA:=zC w1 (.cells #[] 99);have gA:=zA rA iA;obtain⟨q0,q1,q2,_⟩:=kA.zOp gA;rw[h8]at q1;have bB:=zF (nA.out.zOp iA);have cB:=zF (oA.out.zOp iA);have cA:=zF (World.ownsRow_lit (e:=99) (size:=2) (base:=w.heap.size) w1 #[] 0 (by omega) (by unfold maxLen;omega) rfl);have mB:(w1.alloc (.cells #[] 99)).heap.size=w1.heap.size+1:=World.size_alloc _ _;obtain⟨⟨x0,x1⟩,⟨x2,x3⟩⟩:=bB.out;obtain⟨⟨y0,y1⟩,⟨y2,y3⟩⟩:=cB.out;have dB:=zF (pA.out.zOp gA);clear iA kA nA oA h8 pA;go_wp2_with (first
   | (at_builtin;refine yO rfl _ _ 100 rfl w.heap.size 99 i0 (.agg #[.int .i64 0,.int .i64 0]) 2 16 (by kernel_rfl) HI.out.1 HI.out.2.1 HI.out.2.2.1 HI.out.2.2.2 rfl (by decide) (.slice (some ⟨w1.heap.size,0,none⟩) 0 0) 0 [] rfl ?c0 ka 8 kc (pcl (zAy (p.s k).ks (p.s k).kb 8)) rfl (by rw[zBh,yE]) (zIr _) ?c1 ?c3 ?c4 ?c5 ?_)
   | fail)
  case c0=>exact cA.out
  case c1=>
   intro h0;obtain⟨_,a2,c2,hv,_,hx⟩:=dB.out;simp only[Value.slice.injEq,true_and]at hv;obtain⟨rfl,rfl⟩:=hv;obtain⟨kb,mA,ha,_,_,h3⟩:=hx (by omega);exact⟨kb,mA,ha,zH4 h3⟩
  case c3=>unfold maxLen;omega
  case c4=>omega
  case c5=>omega
  intro v3 w3 bA aA;obtain⟨g3,fB,rfl,_⟩:=World.ownsRow.form bA (by omega);have eB:Hid (qH w3 w.heap.size (.slice (some ⟨g3,0,none⟩) 8 fB) (zAy (yi p k xb) (zAJ p k xb) 8)):=by
   unfold qH;rw[dA.out,yE];exact bA
  have iB:=gA.grown aA gA.size (fun q hq=>by simp only[Value.ownBlock,Option.some.injEq]at hq;omega);clear bA aA;go_wp2;go_ret;exact⟨_,_,rfl,eB.out,iB⟩
end Go.Proofs.YtgabgheflgjgiaaGreatDoor
