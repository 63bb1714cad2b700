/- Rows of sets and of snapshots that were copied, the first of which have lists of their own (no law is proved here). -/
import Derived.Test.YtmgeglgboadfiaaGreatDoorT19
set_option linter.unusedVariables false
set_option maxRecDepth 20000
set_option maxHeartbeats 4000000
namespace Go.Proofs.YtmgeglgboadfiaaGreatDoor
open Go.RowKit
def zNF(f:Nat->qC)(cv:Nat->Value)(i r:Nat):Value:=
 match r with
 |0=>.string(f i).name
 |1=>.int .i64(f i).origin
 |2=>.int .i64(f i).zRT
 |3=>.int .i64(f i).rs
 |4=>.int .i64(f i).rb
 |_=>cv i
def zCu(f:Nat->qC)(cv:Nat->Value)(n:Nat):List Value:=(List.range(n*6)).map fun j=>zNF f cv(j / 6)(j % 6)
theorem zDC(f:Nat->qC)(cv:Nat->Value)(n:Nat):(zCu f cv n).length=n*6:=by simp [zCu]
theorem zCT(f:Nat->qC)(cv:Nat->Value)(n:Nat){i r:Nat}(hi:i<n)(hr:r<6):(zCu f cv n)[i*6+r]?=some(zNF f cv i r):=by
 have h:i*6+r<n*6:=by omega
 have h1:(i*6+r) / 6=i:=by omega
 have h2:(i*6+r) % 6=r:=by omega
 simp [zCu,h,h1,h2]
theorem zEW(f:Nat->qC)(cv:Nat->Value)(n:Nat)(h:∀i,i<n->(cv i).oneCell'=true):∀u∈zCu f cv n,u.oneCell'=true:=by
 intro u hu;unfold zCu at hu;obtain⟨j,hj,rfl⟩:=List.mem_map.1 hu;have bA:=List.mem_range.1 hj;have hi:j / 6<n:=by omega
 have hr:j % 6<6:=by omega
 generalize j % 6=r at hr ⊢;rcases r with _ | _ | _ | _ | _ | _<;>aA | rfl | exact h _ hi
def zAq(w:World)(b o:Nat)(s:qC)(vd:Value):Prop:=zX w b o(.string s.name)/\zX w b(o+1)(.int .i64 s.origin)/\zX w b(o+2)(.int .i64 s.zRT)/\zX w b(o+3)(.int .i64 s.rs)/\zX w b(o+4)(.int .i64 s.rb)/\zX w b(o+5) vd
theorem zAq.zRR{S:Nat->Prop}{w w':World}{b o:Nat}{s:qC}{vd:Value}(h:zAq w b o s vd)(t:zF S w w')(hs:¬S b):zAq w' b o s vd:=by
 obtain⟨h0,h1,h2,h3,h4,h5⟩:=h;exact⟨h0.zRR t hs,h1.zRR t hs,h2.zRR t hs,h3.zRR t hs,h4.zRR t hs,h5.zRR t hs⟩
theorem zAq.zRJ{w w':World}{b o:Nat}{s:qC}{vd:Value}(h:zAq w b o s vd)(t:Below w.heap.size w w'):zAq w' b o s vd:=
 h.zRR(zF.zRM(S:=fun _=>False) t)(fun h=>h)
theorem zAq.set{w:World}{b o:Nat}{s:qC}{vd:Value}(h:zAq w b o s vd)(u:Value):zAq(w.setCell ⟨b,o+5,none⟩ u) b o s u:=by
 obtain⟨h0,h1,h2,h3,h4,h5⟩:=h;exact⟨h0.zRK _(Or.inr(by omega)),h1.zRK _(Or.inr(by omega)),h2.zRK _(Or.inr(by omega)),h3.zRK _(Or.inr(by omega)),h4.zRK _(Or.inr(by omega)),h5.set _⟩
theorem zAq.zRK{w:World}{b o o':Nat}{s:qC}{vd:Value}(h:zAq w b o s vd)(u:Value)(aA:∀r,r<6->o'≠o+r):zAq(w.setCell ⟨b,o',none⟩ u) b o s vd:=by
 obtain⟨h0,h1,h2,h3,h4,h5⟩:=h;exact⟨h0.zRK _(Or.inr(aA 0(by omega))),h1.zRK _(Or.inr(aA 1(by omega))),h2.zRK _(Or.inr(aA 2(by omega))),h3.zRK _(Or.inr(aA 3(by omega))),h4.zRK _(Or.inr(aA 4(by omega))),h5.zRK _(Or.inr(aA 5(by omega)))⟩
structure yF(wr:World)(bs L n k:Nat)(f:Nat->qC)(kb:Nat->Nat)(kv cv:Nat->Value):Prop where
 zRc:∀j,j<n->zAq wr bs(j*6)(f j)(if j<k then kv j else cv j)
 zRX:∀j,j<k->zj wr(kb j)(kv j)(f j).dn(f j).ds(f j).db
 zRY:∀j,j<k->0<(f j).dn->L<=kb j/\kb j<wr.heap.size
 zRW:zBJ kb k f
 lt:0<n->bs<L
theorem yF.zRJ{wr w':World}{bs L n k:Nat}{f:Nat->qC}{kb:Nat->Nat}{kv cv:Nat->Value}(h:yF wr bs L n k f kb kv cv)(t:Below wr.heap.size wr w'):yF w' bs L n k f kb kv cv:=
 ⟨fun j hj=>(h.zRc j hj).zRJ t,fun j hj=>(h.zRX j hj).zRJ t,fun j hj h0=>by have:=h.zRY j hj h0;have:=t.size;omega,h.zRW,h.lt⟩
theorem yF.zRR{S:Nat->Prop}{wr w':World}{bs L n k:Nat}{f:Nat->qC}{kb:Nat->Nat}{kv cv:Nat->Value}(h:yF wr bs L n k f kb kv cv)(t:zF S wr w')(hs:∀q,S q->(0<n->q≠bs)/\q<L)(hk:k<=n):yF w' bs L n k f kb kv cv:=
 ⟨fun j hj=>(h.zRc j hj).zRR t(fun e=>(hs _ e).1(by omega) rfl),fun j hj=>(h.zRX j hj).zRR t(fun h0 e=>by have:=h.zRY j hj h0;have:=(hs _ e).2;omega),fun j hj h0=>by have:=h.zRY j hj h0;have:=t.size;omega,h.zRW,h.lt⟩
theorem yF.next{wr w1:World}{bs L n k b:Nat}{f:Nat->qC}{kb:Nat->Nat}{kv cv:Nat->Value}{v:Value}(h:yF wr bs L n k f kb kv cv)(hk:k<n)(hL:L<=wr.heap.size)(t:Below wr.heap.size wr w1)
  (hp:zj w1 b v(f k).dn(f k).ds(f k).db)(hb:0<(f k).dn->wr.heap.size<=b/\b<w1.heap.size) :
  yF(w1.setCell ⟨bs,k*6+5,none⟩ v) bs L n(k+1) f(fun j=>if j=k then b else kb j)(fun j=>if j=k then v else kv j) cv:=by
 have h':=h.zRJ t;have bA:=h.lt(by omega);refine⟨fun j hj=>?_,fun j hj=>?_,fun j hj h0=>?_,fun i j hi hj aA h1 h2=>?_,h.lt⟩
 ·have hh:=h'.zRc j hj;by_cases e:j=k
  ·subst e;rw [if_pos(by omega),if_pos rfl];exact hh.set v
  ·rw [if_neg e];have es:(if j<k+1 then kv j else cv j)=if j<k then kv j else cv j:=by
    by_cases e2:j<k
    ·rw [if_pos e2,if_pos(by omega)]
    ·rw [if_neg e2,if_neg(by omega)]
   rw [es];exact hh.zRK v(fun r hr=>by omega)
 ·by_cases e:j=k
  ·subst e;simp only [if_true];exact hp.zRR(zF.put _ _ _ _)(fun h0 hx=>by have:=hb h0;omega)
  ·simp only [if_neg e];exact(h'.zRX j(by omega)).zRR(zF.put _ _ _ _)(fun h0 hx=>by have:=h'.zRY j(by omega) h0;omega)
 ·simp only [World.size_setCell];by_cases e:j=k
  ·subst e;rw [if_pos rfl];have:=hb h0;omega
  ·rw [if_neg e];have:=h'.zRY j(by omega) h0;omega
 ·show(if i=k then b else kb i)≠(if j=k then b else kb j);by_cases e1:i=k
  ·by_cases e2:j=k
   ·omega
   ·rw [if_pos e1,if_neg e2];subst e1;have:=hb h1;have:=h.zRY j(by omega) h2;omega
  ·by_cases e2:j=k
   ·rw [if_neg e1,if_pos e2];subst e2;have:=hb h2;have:=h.zRY i(by omega) h1;omega
   ·rw [if_neg e1,if_neg e2];exact h.zRW i j(by omega)(by omega) aA h1 h2
theorem yF.own{wr:World}{bs L n c:Nat}{f:Nat->qC}{kb:Nat->Nat}{kv cv:Nat->Value}{a:Option Addr}(h:yF wr bs L n n f kb kv cv)(hm:n<=maxLen)(ha:0<n->a=some ⟨bs,0,none⟩)(hc:n<=c)(hs:∀i,i<n->(f i).name.size<=maxLen):yN wr bs kb kv(.slice a n c) n f:=
 ⟨hm,a,c,rfl,hc,fun h0=>⟨0,ha h0,fun i hi=>by
  obtain⟨h0,h1,h2,h3,h4,h5⟩:=h.zRc i hi;rw [if_pos hi] at h5;rw [Nat.zero_add];exact⟨h0,h1,h2,h3,h4,h5,h.zRX i hi,hs i hi,fun hk e=>by have:=h.zRY i hi hk;have:=h.lt(by omega);omega⟩⟩⟩
theorem yF.turned0{S:Nat->Prop}{wr w':World}{bs L n:Nat}{f:Nat->qC}{kb:Nat->Nat}{kv cv:Nat->Value}(h:yF wr bs L n 0 f kb kv cv)(t:zF S wr w')(hs:∀q,S q->0<n->q≠bs):yF w' bs L n 0 f kb kv cv:=
 ⟨fun j hj=>(h.zRc j hj).zRR t(fun e=>hs _ e(by omega) rfl),fun j hj=>absurd hj(Nat.not_lt_zero _),fun j hj=>absurd hj(Nat.not_lt_zero _),h.zRW,h.lt⟩
theorem yF.weak{wr:World}{bs L L' n:Nat}{f:Nat->qC}{kb:Nat->Nat}{kv cv:Nat->Value}(h:yF wr bs L n 0 f kb kv cv)(hL:L<=L'):yF wr bs L' n 0 f kb kv cv:=
 ⟨h.zRc,h.zRX,fun j hj=>absurd hj(Nat.not_lt_zero _),h.zRW,fun h0=>Nat.lt_of_lt_of_le(h.lt h0) hL⟩
theorem yZ.values{w:World}{lo hi:Nat}{a:Option Addr}{n c:Nat}{f:Nat->qC}(h:yZ w lo hi(.slice a n c) n f) :
  ∃cv:Nat->Value,(∀i,i<n->zR w lo hi(cv i)(f i).dn(f i).ds(f i).db/\(f i).name.size<=maxLen)/\
   (0<n->∃b off,a=some ⟨b,off,none⟩/\∀j u,(zCu f cv n)[j]?=some u->w.cell? ⟨b,off+j,none⟩=some u):=by
 obtain⟨_,a0,c0,h0,_,g⟩:=h;simp only [Value.slice.injEq,true_and] at h0;obtain⟨rfl,rfl⟩:=h0;by_cases hn:0<n
 ·obtain⟨b,off,ha,hb1,hb2,hc⟩:=g hn;have aA:∀i,∃x,i<n->zBP w b(off+i*6) lo hi x(f i):=fun i=>by
   by_cases hi:i<n
   ·obtain⟨vd,hs⟩:=hc i hi;exact⟨vd,fun _=>hs⟩
   ·exact⟨.slice none 0 0,fun h=>absurd h hi⟩
  obtain⟨cv,hcv⟩:=Classical.axiomOfChoice aA;refine⟨cv,fun i hi=>⟨(hcv i hi).zRX,(hcv i hi).zRZ⟩,fun _=>⟨b,off,ha,fun j u hj=>?_⟩⟩;have bA:j<n*6:=by
   have:=(List.getElem?_eq_some_iff.1 hj).1
   rwa [zDC] at this
  have hs:=hcv(j / 6)(by omega);have e:=zCT f cv n(i:=j / 6)(r:=j % 6)(by omega)(by omega);rw [show j / 6*6+j % 6=j by omega,hj] at e;have hr:j % 6<6:=(by omega);have ho:off+j=off+j / 6*6+j % 6:=(by omega);rw [ho];generalize j % 6=r at hr e ⊢;generalize j / 6=q at hs e ⊢;rcases r with _ | _ | _ | _ | _ | _ | r
  ·cases e;exact hs.c0
  ·cases e;exact hs.c1
  ·cases e;exact hs.c2
  ·cases e;exact hs.c3
  ·cases e;exact hs.c4
  ·cases e;exact hs.c5
  ·omega
 ·exact⟨fun _=>.slice none 0 0,fun i hi=>absurd hi(by omega),fun h=>absurd h hn⟩
theorem zBs{w1:World}{base n:Nat}{v:Value}{f:Nat->qC}{cv:Nat->Value}(aA:w1.ownsRow base 67 6 v n(zCu f cv n))(L:Nat)(hL:w1.heap.size<=L):∃bs a c,v = .slice a n c/\n<=c/\(0<n->a=some ⟨bs,0,none⟩/\base<=bs/\bs<w1.heap.size)/\yF w1 bs L n 0 f(fun _=>0) cv cv:=by
 obtain⟨a1,c1,rfl,hnc⟩:=zW aA;by_cases h0:0<n
 ·obtain⟨g,cap,hv,_,hg1,hg2,hcell⟩:=qf aA h0;simp only [Value.slice.injEq,true_and] at hv;obtain⟨rfl,rfl⟩:=hv;refine⟨g,_,_,rfl,hnc,fun _=>⟨rfl,hg1,hg2⟩,fun j hj=>?_,fun j hj=>absurd hj(Nat.not_lt_zero _),fun j hj=>absurd hj(Nat.not_lt_zero _),fun i j hi=>absurd hi(Nat.not_lt_zero _),fun _=>by omega⟩;rw [if_neg(Nat.not_lt_zero _)];exact⟨hcell _ _(zCT f cv n hj(r:=0)(by omega)),hcell _ _(zCT f cv n hj(r:=1)(by omega)),hcell _ _(zCT f cv n hj(r:=2)(by omega)),hcell _ _(zCT f cv n hj(r:=3)(by omega)),hcell _ _(zCT f cv n hj(r:=4)(by omega)),hcell _ _(zCT f cv n hj(r:=5)(by omega))⟩
 ·exact⟨0,_,_,rfl,hnc,fun h=>absurd h h0,fun j hj=>absurd hj(by omega),fun j hj=>absurd hj(Nat.not_lt_zero _),fun j hj=>absurd hj(Nat.not_lt_zero _),fun i j hi=>absurd hi(Nat.not_lt_zero _),fun h=>absurd h h0⟩
def zMB(f:Nat->zm)(cv:Nat->Value)(i r:Nat):Value:=
 match r with
 |0=>.int .i64(f i).id
 |1=>.string(f i).name
 |2=>.string(f i).set
 |3=>.int .i64(f i).zRT
 |4=>.int .i64(f i).time
 |5=>.int .i64(f i).rs
 |6=>.int .i64(f i).rb
 |_=>cv i
def zA7(f:Nat->zm)(cv:Nat->Value)(n:Nat):List Value:=(List.range(n*8)).map fun j=>zMB f cv(j / 8)(j % 8)
theorem zBj(f:Nat->zm)(cv:Nat->Value)(n:Nat):(zA7 f cv n).length=n*8:=by simp [zA7]
theorem zAl(f:Nat->zm)(cv:Nat->Value)(n:Nat){i r:Nat}(hi:i<n)(hr:r<8):(zA7 f cv n)[i*8+r]?=some(zMB f cv i r):=by
 have h:i*8+r<n*8:=by omega
 have h1:(i*8+r) / 8=i:=by omega
 have h2:(i*8+r) % 8=r:=by omega
 simp [zA7,h,h1,h2]
theorem zCY(f:Nat->zm)(cv:Nat->Value)(n:Nat)(h:∀i,i<n->(cv i).oneCell'=true):∀u∈zA7 f cv n,u.oneCell'=true:=by
 intro u hu;unfold zA7 at hu;obtain⟨j,hj,rfl⟩:=List.mem_map.1 hu;have bA:=List.mem_range.1 hj;have hi:j / 8<n:=by omega
 have hr:j % 8<8:=by omega
 generalize j % 8=r at hr ⊢;rcases r with _ | _ | _ | _ | _ | _ | _ | _<;>aA | rfl | exact h _ hi
def zAJ(w:World)(b o:Nat)(s:zm)(vd:Value):Prop:=zX w b o(.int .i64 s.id)/\zX w b(o+1)(.string s.name)/\zX w b(o+2)(.string s.set)/\zX w b(o+3)(.int .i64 s.zRT)/\zX w b(o+4)(.int .i64 s.time)/\zX w b(o+5)(.int .i64 s.rs)/\zX w b(o+6)(.int .i64 s.rb)/\zX w b(o+7) vd
theorem zAJ.zRR{S:Nat->Prop}{w w':World}{b o:Nat}{s:zm}{vd:Value}(h:zAJ w b o s vd)(t:zF S w w')(hs:¬S b):zAJ w' b o s vd:=by
 obtain⟨h0,h1,h2,h3,h4,h5,h6,h7⟩:=h;exact⟨h0.zRR t hs,h1.zRR t hs,h2.zRR t hs,h3.zRR t hs,h4.zRR t hs,h5.zRR t hs,h6.zRR t hs,h7.zRR t hs⟩
theorem zAJ.zRJ{w w':World}{b o:Nat}{s:zm}{vd:Value}(h:zAJ w b o s vd)(t:Below w.heap.size w w'):zAJ w' b o s vd:=
 h.zRR(zF.zRM(S:=fun _=>False) t)(fun h=>h)
theorem zAJ.set{w:World}{b o:Nat}{s:zm}{vd:Value}(h:zAJ w b o s vd)(u:Value):zAJ(w.setCell ⟨b,o+7,none⟩ u) b o s u:=by
 obtain⟨h0,h1,h2,h3,h4,h5,h6,h7⟩:=h;exact⟨h0.zRK _(Or.inr(by omega)),h1.zRK _(Or.inr(by omega)),h2.zRK _(Or.inr(by omega)),h3.zRK _(Or.inr(by omega)),h4.zRK _(Or.inr(by omega)),h5.zRK _(Or.inr(by omega)),h6.zRK _(Or.inr(by omega)),h7.set _⟩
theorem zAJ.zRK{w:World}{b o o':Nat}{s:zm}{vd:Value}(h:zAJ w b o s vd)(u:Value)(aA:∀r,r<8->o'≠o+r):zAJ(w.setCell ⟨b,o',none⟩ u) b o s vd:=by
 obtain⟨h0,h1,h2,h3,h4,h5,h6,h7⟩:=h;exact⟨h0.zRK _(Or.inr(aA 0(by omega))),h1.zRK _(Or.inr(aA 1(by omega))),h2.zRK _(Or.inr(aA 2(by omega))),h3.zRK _(Or.inr(aA 3(by omega))),h4.zRK _(Or.inr(aA 4(by omega))),h5.zRK _(Or.inr(aA 5(by omega))),h6.zRK _(Or.inr(aA 6(by omega))),h7.zRK _(Or.inr(aA 7(by omega)))⟩
structure qg(wr:World)(bs L n k:Nat)(f:Nat->zm)(kb:Nat->Nat)(kv cv:Nat->Value):Prop where
 zRc:∀j,j<n->zAJ wr bs(j*8)(f j)(if j<k then kv j else cv j)
 zRX:∀j,j<k->zj wr(kb j)(kv j)(f j).dn(f j).ds(f j).db
 zRY:∀j,j<k->0<(f j).dn->L<=kb j/\kb j<wr.heap.size
 zRW:zA6 kb k f
 lt:0<n->bs<L
theorem qg.zRJ{wr w':World}{bs L n k:Nat}{f:Nat->zm}{kb:Nat->Nat}{kv cv:Nat->Value}(h:qg wr bs L n k f kb kv cv)(t:Below wr.heap.size wr w'):qg w' bs L n k f kb kv cv:=
 ⟨fun j hj=>(h.zRc j hj).zRJ t,fun j hj=>(h.zRX j hj).zRJ t,fun j hj h0=>by have:=h.zRY j hj h0;have:=t.size;omega,h.zRW,h.lt⟩
theorem qg.zRR{S:Nat->Prop}{wr w':World}{bs L n k:Nat}{f:Nat->zm}{kb:Nat->Nat}{kv cv:Nat->Value}(h:qg wr bs L n k f kb kv cv)(t:zF S wr w')(hs:∀q,S q->(0<n->q≠bs)/\q<L)(hk:k<=n):qg w' bs L n k f kb kv cv:=
 ⟨fun j hj=>(h.zRc j hj).zRR t(fun e=>(hs _ e).1(by omega) rfl),fun j hj=>(h.zRX j hj).zRR t(fun h0 e=>by have:=h.zRY j hj h0;have:=(hs _ e).2;omega),fun j hj h0=>by have:=h.zRY j hj h0;have:=t.size;omega,h.zRW,h.lt⟩
theorem qg.next{wr w1:World}{bs L n k b:Nat}{f:Nat->zm}{kb:Nat->Nat}{kv cv:Nat->Value}{v:Value}(h:qg wr bs L n k f kb kv cv)(hk:k<n)(hL:L<=wr.heap.size)(t:Below wr.heap.size wr w1)
  (hp:zj w1 b v(f k).dn(f k).ds(f k).db)(hb:0<(f k).dn->wr.heap.size<=b/\b<w1.heap.size) :
  qg(w1.setCell ⟨bs,k*8+7,none⟩ v) bs L n(k+1) f(fun j=>if j=k then b else kb j)(fun j=>if j=k then v else kv j) cv:=by
 have h':=h.zRJ t;have bA:=h.lt(by omega);refine⟨fun j hj=>?_,fun j hj=>?_,fun j hj h0=>?_,fun i j hi hj aA h1 h2=>?_,h.lt⟩
 ·have hh:=h'.zRc j hj;by_cases e:j=k
  ·subst e;rw [if_pos(by omega),if_pos rfl];exact hh.set v
  ·rw [if_neg e];have es:(if j<k+1 then kv j else cv j)=if j<k then kv j else cv j:=by
    by_cases e2:j<k
    ·rw [if_pos e2,if_pos(by omega)]
    ·rw [if_neg e2,if_neg(by omega)]
   rw [es];exact hh.zRK v(fun r hr=>by omega)
 ·by_cases e:j=k
  ·subst e;simp only [if_true];exact hp.zRR(zF.put _ _ _ _)(fun h0 hx=>by have:=hb h0;omega)
  ·simp only [if_neg e];exact(h'.zRX j(by omega)).zRR(zF.put _ _ _ _)(fun h0 hx=>by have:=h'.zRY j(by omega) h0;omega)
 ·simp only [World.size_setCell];by_cases e:j=k
  ·subst e;rw [if_pos rfl];have:=hb h0;omega
  ·rw [if_neg e];have:=h'.zRY j(by omega) h0;omega
 ·show(if i=k then b else kb i)≠(if j=k then b else kb j);by_cases e1:i=k
  ·by_cases e2:j=k
   ·omega
   ·rw [if_pos e1,if_neg e2];subst e1;have:=hb h1;have:=h.zRY j(by omega) h2;omega
  ·by_cases e2:j=k
   ·rw [if_neg e1,if_pos e2];subst e2;have:=hb h2;have:=h.zRY i(by omega) h1;omega
   ·rw [if_neg e1,if_neg e2];exact h.zRW i j(by omega)(by omega) aA h1 h2
theorem qg.own{wr:World}{bs L n c:Nat}{f:Nat->zm}{kb:Nat->Nat}{kv cv:Nat->Value}{a:Option Addr}(h:qg wr bs L n n f kb kv cv)(hm:n<=maxLen)(ha:0<n->a=some ⟨bs,0,none⟩)(hc:n<=c)(hs:∀i,i<n->((f i).name.size<=maxLen/\(f i).set.size<=maxLen)):yU wr bs kb kv(.slice a n c) n f:=
 ⟨hm,a,c,rfl,hc,fun h0=>⟨0,ha h0,fun i hi=>by
  obtain⟨h0,h1,h2,h3,h4,h5,h6,h7⟩:=h.zRc i hi;rw [if_pos hi] at h7;rw [Nat.zero_add];exact⟨h0,h1,h2,h3,h4,h5,h6,h7,h.zRX i hi,hs i hi,fun hk e=>by have:=h.zRY i hi hk;have:=h.lt(by omega);omega⟩⟩⟩
theorem qg.turned0{S:Nat->Prop}{wr w':World}{bs L n:Nat}{f:Nat->zm}{kb:Nat->Nat}{kv cv:Nat->Value}(h:qg wr bs L n 0 f kb kv cv)(t:zF S wr w')(hs:∀q,S q->0<n->q≠bs):qg w' bs L n 0 f kb kv cv:=
 ⟨fun j hj=>(h.zRc j hj).zRR t(fun e=>hs _ e(by omega) rfl),fun j hj=>absurd hj(Nat.not_lt_zero _),fun j hj=>absurd hj(Nat.not_lt_zero _),h.zRW,h.lt⟩
theorem qg.weak{wr:World}{bs L L' n:Nat}{f:Nat->zm}{kb:Nat->Nat}{kv cv:Nat->Value}(h:qg wr bs L n 0 f kb kv cv)(hL:L<=L'):qg wr bs L' n 0 f kb kv cv:=
 ⟨h.zRc,h.zRX,fun j hj=>absurd hj(Nat.not_lt_zero _),h.zRW,fun h0=>Nat.lt_of_lt_of_le(h.lt h0) hL⟩
theorem qz.values{w:World}{lo hi:Nat}{a:Option Addr}{n c:Nat}{f:Nat->zm}(h:qz w lo hi(.slice a n c) n f) :
  ∃cv:Nat->Value,(∀i,i<n->zR w lo hi(cv i)(f i).dn(f i).ds(f i).db/\((f i).name.size<=maxLen/\(f i).set.size<=maxLen))/\
   (0<n->∃b off,a=some ⟨b,off,none⟩/\∀j u,(zA7 f cv n)[j]?=some u->w.cell? ⟨b,off+j,none⟩=some u):=by
 obtain⟨_,a0,c0,h0,_,g⟩:=h;simp only [Value.slice.injEq,true_and] at h0;obtain⟨rfl,rfl⟩:=h0;by_cases hn:0<n
 ·obtain⟨b,off,ha,hb1,hb2,hc⟩:=g hn;have aA:∀i,∃x,i<n->zAk w b(off+i*8) lo hi x(f i):=fun i=>by
   by_cases hi:i<n
   ·obtain⟨vd,hs⟩:=hc i hi;exact⟨vd,fun _=>hs⟩
   ·exact⟨.slice none 0 0,fun h=>absurd h hi⟩
  obtain⟨cv,hcv⟩:=Classical.axiomOfChoice aA;refine⟨cv,fun i hi=>⟨(hcv i hi).zRX,(hcv i hi).zRZ⟩,fun _=>⟨b,off,ha,fun j u hj=>?_⟩⟩;have bA:j<n*8:=by
   have:=(List.getElem?_eq_some_iff.1 hj).1
   rwa [zBj] at this
  have hs:=hcv(j / 8)(by omega);have e:=zAl f cv n(i:=j / 8)(r:=j % 8)(by omega)(by omega);rw [show j / 8*8+j % 8=j by omega,hj] at e;have hr:j % 8<8:=(by omega);have ho:off+j=off+j / 8*8+j % 8:=(by omega);rw [ho];generalize j % 8=r at hr e ⊢;generalize j / 8=q at hs e ⊢;rcases r with _ | _ | _ | _ | _ | _ | _ | _ | r
  ·cases e;exact hs.c0
  ·cases e;exact hs.c1
  ·cases e;exact hs.c2
  ·cases e;exact hs.c3
  ·cases e;exact hs.c4
  ·cases e;exact hs.c5
  ·cases e;exact hs.c6
  ·cases e;exact hs.c7
  ·omega
 ·exact⟨fun _=>.slice none 0 0,fun i hi=>absurd hi(by omega),fun h=>absurd h hn⟩
theorem zAg{w1:World}{base n:Nat}{v:Value}{f:Nat->zm}{cv:Nat->Value}(aA:w1.ownsRow base 99 8 v n(zA7 f cv n))(L:Nat)(hL:w1.heap.size<=L):∃bs a c,v = .slice a n c/\n<=c/\(0<n->a=some ⟨bs,0,none⟩/\base<=bs/\bs<w1.heap.size)/\qg w1 bs L n 0 f(fun _=>0) cv cv:=by
 obtain⟨a1,c1,rfl,hnc⟩:=zW aA;by_cases h0:0<n
 ·obtain⟨g,cap,hv,_,hg1,hg2,hcell⟩:=qf aA h0;simp only [Value.slice.injEq,true_and] at hv;obtain⟨rfl,rfl⟩:=hv;refine⟨g,_,_,rfl,hnc,fun _=>⟨rfl,hg1,hg2⟩,fun j hj=>?_,fun j hj=>absurd hj(Nat.not_lt_zero _),fun j hj=>absurd hj(Nat.not_lt_zero _),fun i j hi=>absurd hi(Nat.not_lt_zero _),fun _=>by omega⟩;rw [if_neg(Nat.not_lt_zero _)];exact⟨hcell _ _(zAl f cv n hj(r:=0)(by omega)),hcell _ _(zAl f cv n hj(r:=1)(by omega)),hcell _ _(zAl f cv n hj(r:=2)(by omega)),hcell _ _(zAl f cv n hj(r:=3)(by omega)),hcell _ _(zAl f cv n hj(r:=4)(by omega)),hcell _ _(zAl f cv n hj(r:=5)(by omega)),hcell _ _(zAl f cv n hj(r:=6)(by omega)),hcell _ _(zAl f cv n hj(r:=7)(by omega))⟩
 ·exact⟨0,_,_,rfl,hnc,fun h=>absurd h h0,fun j hj=>absurd hj(by omega),fun j hj=>absurd hj(Nat.not_lt_zero _),fun j hj=>absurd hj(Nat.not_lt_zero _),fun i j hi=>absurd hi(Nat.not_lt_zero _),fun h=>absurd h h0⟩
def zDf(W:zH):Prop:=(∀i,i<W.sn->(W.zRS i).dn<=1048576)/\∀i,i<W.pn->(W.zRP i).dn<=1048576
theorem zPJ{w:World}{b off n:Nat}{f:Nat->zL}{cv:Nat->Value}(h:∀i,i<n->w.cell? ⟨b,off+i*3,none⟩=some(.int .i64(f i).zRU)/\w.cell? ⟨b,off+i*3+1,none⟩=some(cv i)/\w.cell? ⟨b,off+i*3+2,none⟩=some(.string(f i).data)) :
  ∀j u,(sc f cv n)[j]?=some u->w.cell? ⟨b,off+j,none⟩=some u:=by
 intro j u hj;have aA:j<n*3:=by
  have:=(List.getElem?_eq_some_iff.1 hj).1
  rwa [zDT] at this
 obtain⟨c0,c1,c2⟩:=h(j / 3)(by omega);have e:=zD9 f cv n(j / 3)(j % 3)(by omega)(by omega);rw [show j / 3*3+j % 3=j by omega,hj] at e;rcases(by omega:j % 3=0\/j % 3=1\/j % 3=2)with hm | hm | hm
 ·rw [hm] at e;simp at e;subst e;rw [show off+j=off+j / 3*3 by omega];exact c0
 ·rw [hm] at e;simp at e;subst e;rw [show off+j=off+j / 3*3+1 by omega];exact c1
 ·rw [hm] at e;simp at e;subst e;rw [show off+j=off+j / 3*3+2 by omega];exact c2
theorem qA.values{w:World}{lo hi:Nat}{a:Option Addr}{n c:Nat}{f:Nat->zL}(h:qA w lo hi(.slice a n c) n f) :
  ∃cv:Nat->Value,(∀i,i<n->qI w lo hi(.int .i64(f i).zRU)(cv i)(.string(f i).data)(f i))/\
   (0<n->∃b off,a=some ⟨b,off,none⟩/\lo<=b/\b<hi/\∀j u,(sc f cv n)[j]?=some u->w.cell? ⟨b,off+j,none⟩=some u):=by
 obtain⟨_,a0,c0,h0,_,g⟩:=h;simp only [Value.slice.injEq,true_and] at h0;obtain⟨rfl,rfl⟩:=h0;by_cases hn:0<n
 ·obtain⟨b,off,ha,hb1,hb2,hc⟩:=g hn;have aA:∀i,∃x,i<n->(w.cell? ⟨b,off+i*3,none⟩=some(.int .i64(f i).zRU)/\w.cell? ⟨b,off+i*3+1,none⟩=some x/\w.cell? ⟨b,off+i*3+2,none⟩=some(.string(f i).data))/\qI w lo hi(.int .i64(f i).zRU) x(.string(f i).data)(f i):=fun i=>by
   by_cases hi:i<n
   ·obtain⟨v0,v1,v2,q0,q1,q2,hs⟩:=hc i hi;have bA:=hs;obtain⟨rfl,_,rfl,_⟩:=bA;exact⟨v1,fun _=>⟨⟨q0,q1,q2⟩,hs⟩⟩
   ·exact⟨.slice none 0 0,fun h=>absurd h hi⟩
  obtain⟨cv,hcv⟩:=Classical.axiomOfChoice aA;exact⟨cv,fun i hi=>(hcv i hi).2,fun _=>⟨b,off,ha,hb1,hb2,zPJ fun i hi=>(hcv i hi).1⟩⟩
 ·exact⟨fun _=>.slice none 0 0,fun i hi=>absurd hi(by omega),fun h=>absurd h hn⟩
theorem qI.form{w:World}{lo hi:Nat}{v0 v1 v2:Value}{s:zL}(h:qI w lo hi v0 v1 v2 s):∃ka kc,v1 = .slice ka s.kn kc:=by
 obtain⟨_,⟨_,ka,kc,h,_⟩,_⟩:=h;exact⟨ka,kc,h⟩
structure zI5(wr:World)(bs n k:Nat)(f:Nat->zL)(kb:Nat->Nat)(kv cv:Nat->Value):Prop where
 cells:∀j,j<n->zX wr bs(j*3)(.int .i64(f j).zRU)/\zX wr bs(j*3+1)(if j<k then kv j else cv j)/\zX wr bs(j*3+2)(.string(f j).data)
 kids:∀j,j<k->zj wr(kb j)(kv j)(f j).kn(f j).ks(f j).kb
 zRY:∀j,j<k->0<(f j).kn->bs<kb j/\kb j<wr.heap.size
 zRW:yS kb k f
theorem zI5.zRJ{wr w':World}{bs n k:Nat}{f:Nat->zL}{kb:Nat->Nat}{kv cv:Nat->Value}(h:zI5 wr bs n k f kb kv cv)(t:Below wr.heap.size wr w'):zI5 w' bs n k f kb kv cv:=
 ⟨fun j hj=>⟨(h.cells j hj).1.zRJ t,(h.cells j hj).2.1.zRJ t,(h.cells j hj).2.2.zRJ t⟩,fun j hj=>(h.kids j hj).zRJ t,fun j hj h0=>by have:=h.zRY j hj h0;have:=t.size;omega,h.zRW⟩
theorem zI5.next{wr w1:World}{bs n k b:Nat}{f:Nat->zL}{kb:Nat->Nat}{kv cv:Nat->Value}{v:Value}(h:zI5 wr bs n k f kb kv cv)(hk:k<n)(bA:bs<wr.heap.size)(t:Below wr.heap.size wr w1)
  (hp:zj w1 b v(f k).kn(f k).ks(f k).kb)(hb:0<(f k).kn->wr.heap.size<=b/\b<w1.heap.size) :
  zI5(((w1.setCell ⟨bs,k*3,none⟩(.int .i64(f k).zRU)).setCell ⟨bs,k*3+1,none⟩ v).setCell ⟨bs,k*3+2,none⟩(.string(f k).data)) bs n(k+1) f(fun j=>if j=k then b else kb j)(fun j=>if j=k then v else kv j) cv:=by
 have h':=h.zRJ t;refine⟨fun j hj=>?_,fun j hj=>?_,fun j hj h0=>?_,fun i j hi hj aA h1 h2=>?_⟩
 ·obtain⟨c0,c1,c2⟩:=h'.cells j hj;by_cases e:j=k
  ·subst e;rw [if_pos(by omega),if_pos rfl];exact⟨((c0.set _).zRK _(Or.inr(by omega))).zRK _(Or.inr(by omega)),((c1.zRK _(Or.inr(by omega))).set _).zRK _(Or.inr(by omega)),((c2.zRK _(Or.inr(by omega))).zRK _(Or.inr(by omega))).set _⟩
  ·rw [if_neg e];have es:(if j<k+1 then kv j else cv j)=if j<k then kv j else cv j:=by
    by_cases e2:j<k
    ·rw [if_pos e2,if_pos(by omega)]
    ·rw [if_neg e2,if_neg(by omega)]
   rw [es];exact⟨((c0.zRK _(Or.inr(by omega))).zRK _(Or.inr(by omega))).zRK _(Or.inr(by omega)),((c1.zRK _(Or.inr(by omega))).zRK _(Or.inr(by omega))).zRK _(Or.inr(by omega)),((c2.zRK _(Or.inr(by omega))).zRK _(Or.inr(by omega))).zRK _(Or.inr(by omega))⟩
 ·by_cases e:j=k
  ·subst e;simp only [if_true];refine((hp.zRR(zF.put _ _ _ _) ?_).zRR(zF.put _ _ _ _) ?_).zRR(zF.put _ _ _ _) ?_
   all_goals exact fun h0 hx=>by have:=hb h0;omega
  ·simp only [if_neg e];refine(((h'.kids j(by omega)).zRR(zF.put _ _ _ _) ?_).zRR(zF.put _ _ _ _) ?_).zRR(zF.put _ _ _ _) ?_
   all_goals exact fun h0 hx=>by have:=h'.zRY j(by omega) h0;omega
 ·simp only [World.size_setCell];by_cases e:j=k
  ·subst e;rw [if_pos rfl];have:=hb h0;omega
  ·rw [if_neg e];have:=h'.zRY j(by omega) h0;omega
 ·show(if i=k then b else kb i)≠(if j=k then b else kb j);by_cases e1:i=k
  ·by_cases e2:j=k
   ·omega
   ·rw [if_pos e1,if_neg e2];subst e1;have:=hb h1;have:=h.zRY j(by omega) h2;omega
  ·by_cases e2:j=k
   ·rw [if_neg e1,if_pos e2];subst e2;have:=hb h2;have:=h.zRY i(by omega) h1;omega
   ·rw [if_neg e1,if_neg e2];exact h.zRW i j(by omega)(by omega) aA h1 h2
theorem zI5.own{wr:World}{bs n:Nat}{f:Nat->zL}{kb:Nat->Nat}{kv cv:Nat->Value}{a:Option Addr}{c:Nat}(h:zI5 wr bs n n f kb kv cv)(hm:n<=maxLen)(ha:0<n->a=some ⟨bs,0,none⟩)(hc:n<=c)(hs:∀j,j<n->(f j).data.size<=maxLen):qW wr bs kb kv(.slice a n c) n f:=
 ⟨hm,a,c,rfl,hc,fun h0=>⟨0,ha h0,fun i hi=>by
  obtain⟨c0,c1,c2⟩:=h.cells i hi;rw [if_pos hi] at c1;rw [Nat.zero_add];exact⟨c0,c1,c2,h.kids i hi,hs i hi,fun hk e=>by have:=h.zRY i hi hk;omega⟩⟩⟩
theorem zEO(v:Value)(n lo hi:Nat)(f:Nat->zL)(w:World)(h1:qA w lo hi v n f)(hn:n<=1048576)(hk:∀j,j<n->(f j).kn<=1048576) :
  Calls Tryz.prog 193 #[v] w fun e w'=>∃v' bs kb kv,e = .returned v'/\qW w' bs kb kv v' n f/\yS kb n f/\(∀k,yk bs kb n f k->w.heap.size<=k/\k<w'.heap.size)/\Below w.heap.size w w':=by
 have Hm:=zU h1.1;have q1:=h1;obtain⟨_,a,c,rfl,_,_⟩:=h1;obtain⟨cv,hcv,hsrc⟩:=q1.values;have iA:=zU hcv;have Hk:=zU hk;have aA:0<n->∃b off,a=some ⟨b,off,none⟩/\∀j u,(sc f cv n)[j]?=some u->w.cell? ⟨b,off+j,none⟩=some u:=fun h0=>by
  obtain⟨b,off,h2,_,_,h3⟩:=hsrc h0;exact⟨b,off,h2,h3⟩
 have eA:=zPE f cv n(fun i hi=>by obtain⟨ka,kc,e⟩:=(hcv i hi).form;rw [e];rfl);clear hcv hk q1 hsrc;go_enter Tryz.func193,Tryz.ntmps193;go_wp2_with fail;refine(zIJ a n c(sc f cv n) w(zDT _ _ _) eA hn aA).mono ?_;rintro e w1 ⟨v',rfl,hown,hb1,_⟩;obtain⟨a1,c1,rfl,hnc⟩:=zW hown;clear eA aA;have gA:∃bs,(0<n->a1=some ⟨bs,0,none⟩/\w.heap.size<=bs/\bs<w1.heap.size)/\zI5 w1 bs n 0 f(fun _=>0) cv cv:=by
  by_cases h0:0<n
  ·obtain⟨g,cap,hv,_,hg1,hg2,hcell⟩:=qf hown h0;simp only [Value.slice.injEq,true_and] at hv;obtain⟨rfl,rfl⟩:=hv;refine⟨g,fun _=>⟨rfl,hg1,hg2⟩,fun j hj=>⟨?_,?_,?_⟩,fun j hj=>absurd hj(Nat.not_lt_zero _),fun j hj=>absurd hj(Nat.not_lt_zero _),fun i j hi=>absurd hi(Nat.not_lt_zero _)⟩
   ·have:=hcell(j*3+0) _(zD9 f cv n j 0 hj(by omega));simpa using this
   ·have:=hcell(j*3+1) _(zD9 f cv n j 1 hj(by omega));simpa using this
   ·have:=hcell(j*3+2) _(zD9 f cv n j 2 hj(by omega));simpa using this
  ·exact⟨0,fun h=>absurd h h0,fun j hj=>absurd hj(by omega),fun j hj=>absurd hj(Nat.not_lt_zero _),fun j hj=>absurd hj(Nat.not_lt_zero _),fun i j hi=>absurd hi(Nat.not_lt_zero _)⟩
 obtain⟨bs,gA,hhalf⟩:=gA;have fA:=zU gA;have cA:=zU hhalf;clear hown gA hhalf;go_wp2
 go_loopw [4,5,10](fun _ _ i wr=>∃(k:Nat)(kb:Nat->Nat)(kv:Nat->Value),k<=n/\i = .int .i64 k/\zI5 wr bs n k f kb kv cv/\Below w.heap.size w wr/\w1.heap.size<=wr.heap.size)(fun _ _ i _=>n - (intOf i).toNat)
 case atStart=>exact⟨0,_,_,Nat.zero_le _,rfl,cA.out,hb1,Nat.le_refl _⟩
 case round=>
  obtain⟨k,kb,kv,hk,rfl,hh,hb,hz⟩:=hrel;have Hh:=zU hh;clear hh;by_cases bA:k<n
  ·have mA:(k:Int)<(n:Int):=(by omega);obtain⟨rfl,hg1,hg2⟩:=fA.out(by omega);obtain⟨ka,kc,hcv⟩:=(iA.out k bA).form;have lA:Hid(qI wr lo hi(.int .i64(f k).zRU)(.slice ka(f k).kn kc)(.string(f k).data)(f k)):=by
    have:=(iA.out k bA).zRJ hb;rw [hcv] at this;exact this
   obtain⟨⟨q0,r0⟩,q1,⟨q2,r2⟩⟩:=Hh.out.cells k bA;rw [if_neg(by omega),hcv] at q1;obtain⟨q1,r1⟩:=q1;go_wp2_with fail;have ha:=zC wr(.cells #[.int .i64(f k).zRU,.slice ka(f k).kn kc,.string(f k).data] 127);refine(zIv _ _ _ lo hi(f k) _(lA.out.zRJ ha)(Hk.out k bA)).mono ?_;rintro e w2 ⟨nv,nb,rfl,hp2,hpl2,hb2⟩;obtain⟨_,na,nc,rfl,_⟩:=id hp2;have dA:=zA ha hb2;have kA:=zU(Hh.out.next bA(by omega) dA hp2(fun h0=>by have:=hpl2 h0;rw [World.size_alloc] at this;omega));have jA:=zA hb dA;have nA:=dA.size;clear q0 q1 q2 r0 r1 r2;obtain⟨⟨q0,r0⟩,q1,⟨q2,r2⟩⟩:=(Hh.out.zRJ dA).cells k bA;rw [if_neg(by omega),hcv] at q1;obtain⟨q1,r1⟩:=q1;clear hp2 hpl2 hb2 ha dA hcv;go_wp2;go_roundw
   case rel=>exact⟨k+1,_,_,by omega,by go_num,kA.out,((jA.setCell hg1 _).setCell hg1 _).setCell hg1 _,by simp only [World.size_setCell];omega⟩
   case measure=>simp [intOf];omega
  ·obtain rfl:k=n:=(by omega);go_wp2;go_ret;refine⟨_,bs,kb,kv,rfl,Hh.out.own Hm.out(fun h0=>(fA.out h0).1) hnc(fun j hj=>(iA.out j hj).2.2.2),Hh.out.zRW,fun j hj=>?_,hb⟩;rcases hj with⟨h0,rfl⟩ | ⟨i,hi,h0,rfl⟩
   ·have:=fA.out h0;omega
   ·have:=fA.out(by omega);have:=Hh.out.zRY i hi h0;omega
theorem zBw(v0 v1:Value)(lo hi:Nat)(p:zJ)(w:World)(h1:zy w lo hi v0 v1 p)(hn:qE p<=1048576):Calls Tryz.prog 168 #[.agg #[v0,v1]] w(zHP p w):=by
 have Hp:=zU h1;obtain⟨⟨m1,a,c,rfl,mc,g1⟩,⟨m2,a',c',rfl,mc',g2⟩⟩:=h1;have Hm:=zU(And.intro m1 m2);clear g1 g2 m1 m2;unfold qE at hn;have Hn:Hid(∀j,j<p.n->(p.s j).kn<=1048576):=fun j hj=>by have h2:=zFr p.s hj;unfold zAY at h2;omega
 have kA:p.n<=1048576:=by omega
 have mA:p.hn<=1048576:=by omega
 clear hn;have fA:=zC w(.cells #[.slice a p.n c,.slice a' p.hn c'] 33);have dA:=zA fA(zC _(.cells #[.slice none 0 0,.slice none 0 0] 33));have HB:=zU((zc.zRL w(.slice a p.n c)(.slice a' p.hn c') 33).zRJ(zC _(.cells #[.slice none 0 0,.slice none 0 0] 33)));have eA:=zc.zRL(w.alloc(.cells #[.slice a p.n c,.slice a' p.hn c'] 33))(.slice none 0 0)(.slice none 0 0) 33;rw [World.size_alloc] at eA;have HR:=zU eA;clear fA eA;go_enter Tryz.func168,Tryz.ntmps168;go_wp2_with fail;generalize hW:(w.alloc(.cells #[.slice a p.n c,.slice a' p.hn c'] 33)).alloc(.cells #[.slice none 0 0,.slice none 0 0] 33)=W at HB HR dA ⊢;have hz:W.heap.size=w.heap.size+2:=by rw [<-hW,World.size_alloc,World.size_alloc]
 clear hW;obtain⟨⟨x0,x1⟩,⟨x2,x3⟩⟩:=HB.out;obtain⟨⟨y0,y1⟩,⟨y2,y3⟩⟩:=HR.out;go_region_held3(fun w'=>w'.cell? ⟨w.heap.size,0,none⟩=some(.slice a p.n c)/\w'.cell? ⟨w.heap.size,1,none⟩=some(.slice a' p.hn c'))(go_keep)
  (first
   |(go_at_call 193;refine(zEO _ p.n lo hi p.s _ ?_ kA Hn.out).mono ?_;(exact Hp.out.1.zRJ dA.drew);rintro e w1 ⟨v',bs,kb,kv,rfl,ho,hap,hpl,hb1⟩;obtain⟨_,sa,sc',rfl,_⟩:=id ho;have aA:=zK hb1;obtain⟨⟨z0,z1⟩,⟨z2,z3⟩⟩:=HB.out.zRJ aA)
   |(go_at_call 211;refine(zIj _ _ _(ic p.h p.hn) _(zBe _ _)(zO4 _ _) mA ?_).mono ?_;(exact zJw Hp.out.2 rfl(zA dA aA));rintro e w2 ⟨v',rfl,hown,hb2,hz0⟩;obtain⟨ia,ic',rfl,_⟩:=zW hown;have bA:=zA aA hb2;obtain⟨⟨z4,z5⟩,⟨z6,z7⟩⟩:=HB.out.zRJ bA;have lA:=zU(HR.out.zRJ bA);obtain⟨⟨z8,z9⟩,⟨z10,z11⟩⟩:=HR.out.zRJ bA))
 obtain⟨hb,hint,hipl⟩:=zKM Hm.out.2 hown hz0;have nA:W.heap.size<=w1.heap.size:=aA.size;have oA:w1.heap.size<=w2.heap.size:=hb2.size;have cA:∀k,yk bs kb p.n p.s k->W.heap.size<=k/\k<w1.heap.size:=hpl;have jA:Hid(zt w2(w.heap.size+2) w2.heap.size(.slice sa p.n sc')(.slice ia p.hn ic') p):=by
  refine⟨bs,hb,kb,kv,ho.zRJ hb2,hap,hint,fun h0 hx=>?_,fun k hk=>?_⟩
  ·have:=cA _ hx;have:=hipl h0;omega
  ·rcases hk with hk | ⟨h0,rfl⟩
   ·have:=cA _ hk;omega
   ·have:=hipl h0;omega
 have iA:=zA dA bA;clear hint hipl hpl cA ho hap hown hb1 aA hb2 bA;go_wp2;have gA:=lA.out.put(.slice sa p.n sc')(.slice ia p.hn ic');refine bodyPost_ret(v:=.agg #[.slice sa p.n sc',.slice ia p.hn ic'])(by simp [results,Tryz.results168,go_sem,gA.1.1,gA.2.1]) rfl ⟨_,_,rfl,?_,?_⟩
 ·have t:=(zF.put w2(w.heap.size+1) 0(.slice sa p.n sc')).trans(zF.put _(w.heap.size+1) 1(.slice ia p.hn ic'));have hz:=t.size;exact(jA.out.zRR t(fun k hk=>by omega)).zRO(by omega) hz
 ·exact(iA.setCell(by show _<=w.heap.size+1;omega) _).setCell(by show _<=w.heap.size+1;omega) _
def yh(w:World)(e:TypeId)(s:Nat)(v:Value)(n:Nat):Prop:=
 (n=0/\∃a,v = .slice a 0 0)\/(0<n/\∃g cap cur,v = .slice(some ⟨g,0,none⟩) n cap/\w.heap[g]?=some(.cells cur e(0,0))/\n<=cap/\cap<=maxLen/\cur.size=cap*s)
theorem yC{w:World}{base:Nat}{e:TypeId}{s:Nat}{v:Value}{n:Nat}{xs:List Value}(h:w.ownsRow base e s v n xs)(hz:n=0->∃a,v = .slice a 0 0):yh w e s v n:=by
 rcases Nat.eq_zero_or_pos n with h0 | h0
 ·exact Or.inl ⟨h0,hz h0⟩
 ·rcases h.2 with h | ⟨g,cap,cur,hv,_,hg,h1,h2,h3,_⟩
  ·omega
  ·exact Or.inr ⟨h0,g,cap,cur,hv,hg,h1,h2,h3⟩
theorem yh.zRJ{w w':World}{e:TypeId}{s:Nat}{v:Value}{n:Nat}(h:yh w e s v n)(t:Below w.heap.size w w'):yh w' e s v n:=by
 rcases h with h | ⟨h0,g,cap,cur,hv,hg,h1⟩
 ·exact Or.inl h
 ·exact Or.inr ⟨h0,g,cap,cur,hv,(t.block g(Array.getElem?_eq_some_iff.1 hg).1).trans hg,h1⟩
theorem yh.kept{w w':World}{row:Option Nat}{e:TypeId}{s:Nat}{v:Value}{n:Nat}(h:yh w e s v n)(hg:w.grownBy w' row)(aA:0<n->v.ownBlock≠row):yh w' e s v n:=by
 rcases h with h | ⟨h0,g,cap,cur,hv,hb,h1⟩
 ·exact Or.inl h
 ·exact Or.inr ⟨h0,g,cap,cur,hv,(hg.block g(Array.getElem?_eq_some_iff.1 hb).1(fun e=>aA h0(by rw [hv];exact e))).trans hb,h1⟩
theorem zI1{w:World}{g:Nat}{bA:Array Value}{e:TypeId}(h:w.heap[g]?=some(.cells bA e(0,0)))(a:Addr)(u:Value):∃aA,(w.setCell a u).heap[g]?=some(.cells aA e(0,0))/\aA.size=bA.size:=by
 by_cases hg:a.block=g
 ·subst hg;unfold World.setCell;simp only [Array.getElem?_modify,h,if_true,Option.map_some];refine⟨_,rfl,?_⟩;split<;>simp
 ·refine⟨bA,?_,rfl⟩;unfold World.setCell;simp only [Array.getElem?_modify,hg,if_false,h]
theorem yh.set{w:World}{e:TypeId}{s:Nat}{v:Value}{n:Nat}(h:yh w e s v n)(a:Addr)(u:Value):yh(w.setCell a u) e s v n:=by
 rcases h with h | ⟨h0,g,cap,cur,hv,hg,h1,h2,h3⟩
 ·exact Or.inl h
 ·obtain⟨aA,hg',hs⟩:=zI1 hg a u;exact Or.inr ⟨h0,g,cap,aA,hv,hg',h1,h2,by rw [hs];exact h3⟩
theorem yh.owns{w:World}{e:TypeId}{s:Nat}{v:Value}{n base:Nat}{xs:List Value}(h:yh w e s v n)(h0:0<n)(hl:xs.length=n*s)(hb:∀g,v.ownBlock=some g->base<=g)
  (hc:∀g,v.ownBlock=some g->∀j u,xs[j]?=some u->w.cell? ⟨g,j,none⟩=some u):w.ownsRow base e s v n xs:=by
 refine⟨hl,?_⟩;rcases h with h | ⟨_,g,cap,cur,hv,hg,h1,h2,h3⟩
 ·omega
 ·refine Or.inr ⟨g,cap,cur,hv,hb g(by rw [hv];rfl),hg,h1,h2,h3,?_⟩;have aA:n*s<=cur.size:=(by rw [h3];exact Nat.mul_le_mul_right s h1);refine List.ext_getElem? fun j=>?_
  rw [List.getElem?_take];by_cases hj:j<n*s
  ·rw [if_pos hj];have hx:j<xs.length:=(by omega);have h4:=hc g(by rw [hv];rfl) j xs[j](by rw [List.getElem?_eq_getElem hx]);have h5:w.cell? ⟨g,j,none⟩=cur[j]?:=by
    simp [World.cell?,hg]
   rw [h5] at h4;rw [List.getElem?_eq_getElem hx,<-h4,Array.getElem?_toList]
  ·rw [if_neg hj,List.getElem?_eq_none(by omega)]
theorem zDr{P:Program}{w:World}(t ty e:TypeId)(i:TypeInfo)(a:Option Addr)(ad:Addr)(m c:Nat)(ht:P.underlying t=some(.slice e))(hi:P.info? e=some i)(hm:0<m)(hb:m*i.bytes<=140737488355328) :
  (Builtin.append_ #[t,t] ty #[.slice a 0 0,.slice(some ad) m c]).run P w=(Builtin.append_ #[t,t] ty #[.slice none 0 0,.slice(some ad) m c]).run P w:=by
 cases a with
 |none=>rfl
 |some a=>
  have h1:¬m=0:=(by omega);have h2:Builtin.nextslicecap m 0=m:=(by unfold Builtin.nextslicecap;simp [hm]);have h3:¬(281474976710656:Nat)<m*i.bytes:=(by omega);have h4:∀w:World,(loadCells a 0).run P w = .ok #[] w:=fun w=>by first | rfl | simp [loadCells] | simp [loadCells,loadCellsFrom]
  simp [Builtin.append_,run_underlying ht,sizeOf,typeInfo,hi,Builtin.lenOf,Builtin.firstCells,h1,h2,h3,h4]
theorem yh.append{P:Program}{w:World}(t ty e:TypeId)(i:TypeInfo)(z:Value)(s bytes base:Nat)(ht:P.underlying t=some(.slice e))(hi:P.info? e=some i)(hz:i.zero=some z)(cA:i.size=s)(gA:i.bytes=bytes)(lA:z.cells.size=s)(kA:0<s)
  {v:Value} {n:Nat} {xs:List Value}(h:yh w e s v n)(hl:xs.length=n*s)(hb:0<n->∀g,v.ownBlock=some g->base<=g)(hc:0<n->∀g,v.ownBlock=some g->∀j u,xs[j]?=some u->w.cell? ⟨g,j,none⟩=some u)
  (ad:Addr)(m c:Nat)(bA:List Value)(iA:bA.length=m*s)(dA:∀j u,bA[j]?=some u->w.cell?(ad.add j)=some u)(h1:∀u∈bA,u.oneCell'=true)(hm:0<m)(jA:n+m<=maxLen)(aA:(n+m)*bytes<=140737488355328)(eA:base<=w.heap.size) :
  ∃g fA w' row,(Builtin.append_ #[t,t] ty #[v,.slice(some ad) m c]).run P w = .ok(.slice(some ⟨g,0,none⟩)(n+m) fA) w'/\w'.ownsRow base e s(.slice(some ⟨g,0,none⟩)(n+m) fA)(n+m)(xs ++ bA)/\w.grownBy w' row/\(row=none\/(0<n/\row=v.ownBlock))/\((0<n/\v.ownBlock=some g)\/g=w.heap.size)/\g<w'.heap.size:=by
 rcases Nat.eq_zero_or_pos n with h0 | h0
 ·rcases h with⟨_,a,rfl⟩ | ⟨hp,_⟩
  ·subst h0;obtain rfl:xs = []:=List.eq_nil_of_length_eq_zero(by omega);obtain⟨g,fA,w',hr,h2,h3,h4,h5⟩:=run_append_lies(P:=P) w t ty base e i z s bytes ht hi hz cA gA lA kA(.slice none 0 0) 0 [] ⟨by simp,Or.inl ⟨rfl,rfl⟩⟩ ad m c bA iA dA h1 hm jA aA eA w.heap.size rfl;refine⟨g,fA,w',none,?_,h2,h3,Or.inl rfl,Or.inr ?_,h5⟩
   ·rw [zDr t ty e i a ad m c ht hi hm(by rw [gA];simpa using aA)];exact hr
   ·rcases h4 with h4 | h4
    ·cases h4
    ·exact h4
  ·omega
 ·obtain⟨g,fA,w',hr,h2,h3,h4,h5⟩:=run_append_lies(P:=P) w t ty base e i z s bytes ht hi hz cA gA lA kA v n xs(h.owns h0 hl(hb h0)(hc h0)) ad m c bA iA dA h1 hm jA aA eA w.heap.size rfl;exact⟨g,fA,w',v.ownBlock,hr,h2,h3,Or.inr ⟨h0,rfl⟩,h4.imp(fun h=>⟨h0,h⟩) id,h5⟩
theorem zD2(v:Value)(n lo hi:Nat)(f g:Nat->Int)(w:World)(h1:zR w lo hi v n f g)(hn:n<=1048576) :
  Calls Tryz.prog 171 #[v] w fun e w'=>(∃v' kb,e = .returned v'/\yh w' 61 2 v' n/\zj w' kb v' n f g/\(0<n->w.heap.size<=kb/\kb<w'.heap.size))/\Below w.heap.size w w':=by
 obtain⟨m1,a,c,rfl,mc,g1⟩:=h1;have G1:Hid(0<n->∃b off,a=some ⟨b,off,none⟩/\lo<=b/\b<hi/\∀i,i<n->w.cell? ⟨b,off+i*2,none⟩=some(.int .i64(f i))/\w.cell? ⟨b,off+i*2+1,none⟩=some(.int .i64(g i))):=g1;have Hm:Hid(n<=maxLen):=m1;clear g1 m1;have nA:=fun w=>Lib.run_eql_slice_nil(P:=Tryz.prog) w 62 61 a n c 0 0(by kernel_rfl)
 cases a with
 |none=>
  have mA:n=0:=by
   by_cases h:0<n
   ·obtain⟨b,off,ha,_⟩:=G1.out h;simp at ha
   ·omega
  subst mA;go_enter Tryz.func171,Tryz.ntmps171;go_wp2;go_ret;exact⟨⟨_,0,rfl,Or.inl ⟨rfl,_,rfl⟩,⟨Nat.zero_le _,none,0,rfl,Nat.le_refl _,fun h=>absurd h(Nat.lt_irrefl _)⟩,fun h=>absurd h(Nat.lt_irrefl _)⟩,Below.refl _ _⟩
 |some ad=>
  obtain⟨i0,hi,hzz⟩:=Option.map_eq_some_iff.1 zCR;simp only [Prod.mk.injEq] at hzz;obtain⟨hz,hs,hby⟩:=hzz;have gA:∀(w':World),Below w.heap.size w w'->∀j u,(kc f g n)[j]?=some u->w'.cell?(ad.add j)=some u:=fun w' hb j u hj=>by
   by_cases h0:0<n
   ·obtain⟨b,off,ha,_,_,hc⟩:=G1.out h0;simp only [Option.some.injEq] at ha;subst ha;have:=zFu hc j u hj;have fA:(⟨b,off,none⟩:Addr).add j=⟨b,off+j,none⟩:=(by unfold Addr.add;split<;>simp_all);rw [fA] at this ⊢;exact(hb.cell(zD this)).trans this
   ·obtain rfl:n=0:=(by omega);simp [kc] at hj
  have jA:Hid(∀(w':World),Below w.heap.size w w'->∀j u,(kc f g n)[j]?=some u->w'.cell?(ad.add j)=some u):=gA;have HI:Hid(Tryz.prog.info? 61=some i0/\i0.zero=some(.agg #[.int .i64 0,.int .i64 0])/\i0.size=2/\i0.bytes=16):=⟨hi,hz,hs,hby⟩;have cA:(w.alloc(.cells #[] 61)).ownsRow w.heap.size 61 2(.slice(some ⟨w.heap.size,0,none⟩) 0 0) 0 []:=World.ownsRow_made w #[] 0(Nat.le_refl _)(Nat.zero_le _)(by simp);have eA:Hid((w.alloc(.cells #[] 61)).ownsRow w.heap.size 61 2(.slice(some ⟨w.heap.size,0,none⟩) 0 0) 0 []):=cA;clear hi hz hs hby gA cA;go_enter Tryz.func171,Tryz.ntmps171;go_wp2_with(first
   |(at_builtin;refine qJ rfl _ _ 62 rfl w.heap.size 61 i0(.agg #[.int .i64 0,.int .i64 0]) 2 16(by kernel_rfl) HI.out.1 HI.out.2.1 HI.out.2.2.1 HI.out.2.2.2 rfl(by decide) _ _ _ rfl eA.out(some ad) n c(kc f g n) rfl(zEH f g n)(zKF f g n) ?c1 ?c3 ?c4 ?c5 ?_))
  case c1=>
   intro h0;obtain⟨b,off,ha,_,_,_⟩:=G1.out h0;simp only [Option.some.injEq] at ha;refine⟨b,off,by rw [ha],fun j u hj=>?_⟩;have:=jA.out _((Below.refl _ _).alloc(Nat.le_refl _)(.cells #[] 61)) j u hj;have fA:(⟨b,off,none⟩:Addr).add j=⟨b,off+j,none⟩:=(by unfold Addr.add;split<;>simp_all);rw [ha,fA] at this;exact this
  case c3=>unfold maxLen;omega
  case c4=>omega
  case c5=>simp
  intro v' w1 dA bA iA;have lA:Below w.heap.size w w1:=((Below.refl _ _).alloc(Nat.le_refl _) _).grown bA(by simp)(fun q hq=>by have:=eA.out.lt q hq;omega);have aA:w1.ownsRow w.heap.size 61 2 v' n(kc f g n):=(by simpa using dA);obtain⟨kb,hp,hk⟩:=zCG Hm.out aA;have kA:Hid(yh w1 61 2 v' n):=yC aA(fun h0=>⟨_,iA h0⟩);have Hp:Hid(zj w1 kb v' n f g/\(0<n->w.heap.size<=kb/\kb<w1.heap.size)):=⟨hp,hk⟩;clear hp hk dA aA bA iA;go_wp2;go_ret;exact⟨⟨v',kb,rfl,kA.out,Hp.out.1,Hp.out.2⟩,lA⟩
end Go.Proofs.YtmgeglgboadfiaaGreatDoor
