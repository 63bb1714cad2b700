/- A part of the proof. -/
import Derived.Test.YtgabgheflgjgiaaGreatDoorU40
set_option linter.unusedVariables false
set_option maxRecDepth 20000
set_option maxHeartbeats 4000000
namespace Go.Proofs.YtgabgheflgjgiaaGreatDoor
open Go.RowKit
theorem zEk.turnedD{S:Nat->Prop}{w w':World}{b:Nat}{v0 v1 v2 v3 v4 v5 v6 v7:Value}(h:zEk w b v0 v1 v2 v3 v4 v5 v6 v7)(t:zE S w w')(hs:¬S b):zEk w' b v0 v1 v2 v3 v4 v5 v6 v7:=⟨⟨h.1.1.zOr t hs,h.1.2.1.zOr t hs,h.1.2.2.1.zOr t hs,h.1.2.2.2.zOr t hs⟩,h.2.1.zOr t hs,h.2.2.1.zOr t hs,h.2.2.2.1.zOr t hs,h.2.2.2.2.zOr t hs⟩
def SdF(w wr:World)(V SB base:Nat)(z2 z3 gv:Value)(W W2:zH)(g:zd):Prop:=∃(y0 y1:Value) (P Q R:Nat->Prop),za wr V y0 y1 (.int .i64 W.time) (.int .i64 W.next) z2 z3/\zEk wr SB (.int .i64 g.id) (.string g.name) (.string g.set) (.int .i64 g.zO0) (.int .i64 g.time) (.int .i64 g.rs) (.int .i64 g.rb) (gv)/\zBi wr (w.heap.size+1) (.slice none 0 0) (.slice none 0 0) (.int .i64 0) (.int .i64 0) (.slice none 0 0) (.slice none 0 0) (.int .i64 0) (.int .i64 0) (.int .i64 0)/\zAT wr P Q R y0 y1 z2 z3 W2/\(∀j,P j\/Q j\/R j->base<=j/\j<wr.heap.size/\j≠V/\j≠SB)/\Below w.heap.size w wr
theorem zNt{w wr ws wh w2:World}{V SB base k i sb so sc nb:Nat}{z0 z1 z3 y1 gv nv:Value}{W:zH}{g:zd}{P Q R:Nat->Prop}{ub:Nat->Nat}{uv:Nat->Value}(hg:g=W.zOw k)(bA:zAT wr P Q R z0 z1 (.slice (some ⟨sb,so,none⟩) W.sn sc) z3 W)(aA:∀j,P j\/Q j\/R j->base<=j/\j<V)(sA:w.heap.size+2<=base)(eB:V<SB)(aB:SB<wr.heap.size)(hB:Below w.heap.size w wr)
  (ho:qK wr sb ub uv (.slice (some ⟨sb,so,none⟩) W.sn sc) W.sn W.zOy) (bB:qy ub W.sn W.zOy) (hq:∀j,yo sb ub W.sn W.zOy j->Q j) (hi:i<W.sn) (fA:Below wr.heap.size wr ws) (eA:zE (fun j=>j=V\/P j\/ws.heap.size<=j) ws wh) (hV:za wh V z0 y1 (.int .i64 W.time) (.int .i64 W.next) (.slice (some ⟨sb,so,none⟩) W.sn sc) z3) (hP:qN wh (fun j=>P j\/(ws.heap.size<=j/\j<wh.heap.size)) z0 y1 (zW W.zOv (sdY W (W.zOw k) (W.zOy i).dn (W.zOy i).ds (W.zOy i).db)))
  (dA:Below wh.heap.size wh w2) (jA:ze w2 nb nv (sdD W (W.zOw k) (W.zOy i).dn (W.zOy i).ds (W.zOy i).db).length (zg (sdD W (W.zOw k) (W.zOy i).dn (W.zOy i).ds (W.zOy i).db)) (zj (sdD W (W.zOw k) (W.zOy i).dn (W.zOy i).ds (W.zOy i).db))) (nA:0<(sdD W (W.zOw k) (W.zOy i).dn (W.zOy i).ds (W.zOy i).db).length->wh.heap.size<=nb/\nb<w2.heap.size) (hS:zEk wr SB (.int .i64 g.id) (.string g.name) (.string g.set) (.int .i64 g.zO0) (.int .i64 g.time) (.int .i64 g.rs) (.int .i64 g.rb) (gv)) (hR:zBi wr (w.heap.size+1) (.slice none 0 0) (.slice none 0 0) (.int .i64 0) (.int .i64 0) (.slice none 0 0) (.slice none 0 0) (.int .i64 0) (.int .i64 0) (.int .i64 0)) :
  SdF w ((w2.setCell ⟨sb,so+i*6+5,none⟩ nv).setCell ⟨sb,so+i*6+2,none⟩ (.int .i64 g.zO0)) V SB base (.slice (some ⟨sb,so,none⟩) W.sn sc) z3 gv W {W with zOv:=zW W.zOv (sdY W (W.zOw k) (W.zOy i).dn (W.zOy i).ds (W.zOy i).db),zOy:=zHh W k i} g:=by
 subst hg;obtain⟨D,hD⟩:∃D,D=sdD W (W.zOw k) (W.zOy i).dn (W.zOy i).ds (W.zOy i).db:=⟨_,rfl⟩;rw[<-hD]at jA nA;have oA:Q sb:=hq _ (Or.inl ⟨by omega,rfl⟩);have fB:=aA _ (Or.inr (Or.inl oA));have kB:=fA.size;have jB:=eA.size;have iB:=dA.size;have cA:zE (fun j=>j=sb) w2 ((w2.setCell ⟨sb,so+i*6+5,none⟩ nv).setCell ⟨sb,so+i*6+2,none⟩ (.int .i64 (W.zOw k).zO0)):=(zE.put _ sb _ _).trans (zE.put _ sb _ _);have lB:=cA.size;have rA:∀j,w.heap.size<=j->j<ws.heap.size->j≠V->¬P j->¬(j=V\/P j\/ws.heap.size<=j):=fun j h1 h2 h3 h4 h=>by
  rcases h with h | h | h
  ·exact h3 h
  ·exact h4 h
  ·omega
 have cB:∀j,P j->j<V:=fun j hj=>(aA j (Or.inl hj)).2
 have pA:∀{b' o' u},zT w2 b' o' u->b'≠sb->zT ((w2.setCell ⟨sb,so+i*6+5,none⟩ nv).setCell ⟨sb,so+i*6+2,none⟩ (.int .i64 (W.zOw k).zO0)) b' o' u:=fun h vA=>(h.zOq _ (Or.inl (fun e=>vA e.symm))).zOq _ (Or.inl (fun e=>vA e.symm))
 have h7:qK w2 sb ub uv (.slice (some ⟨sb,so,none⟩) W.sn sc) W.sn W.zOy:=((ho.zOp fA).zOr eA (fun j hj=>by
  have h1:=hq j hj;have h2:=aA j (Or.inr (Or.inl h1));exact rA j (by omega) (by omega) (by omega) (fun hp=>bA.pq j hp h1))).zOp dA
 have hs:qx w2 sb (so+i*6) (ub i) (uv i) (W.zOy i):=by
  obtain⟨dB,c',ev,hx⟩:=h7.nth hi;simp only[Value.slice.injEq,Option.some.injEq,Addr.mk.injEq,and_true,true_and]at ev;obtain⟨rfl,rfl⟩:=ev;exact hx
 have iA:0<D.length->nb≠sb:=fun h0=>by have:=nA h0;omega
 have eS:zHh W k i=fun j=>if j=i then {W.zOy i with zO0:=(W.zOw k).zO0,dn:=D.length,ds:=zg D,db:=zj D}else W.zOy j:=by unfold zHh zN4;rw[hD]
 have gA:zAd ((w2.setCell ⟨sb,so+i*6+5,none⟩ nv).setCell ⟨sb,so+i*6+2,none⟩ (.int .i64 (W.zOw k).zO0)) (fun j=>Q j\/(wh.heap.size<=j/\j<w2.heap.size)) (.slice (some ⟨sb,so,none⟩) W.sn sc) W.sn (zHh W k i):=by
  rw[eS];refine zHG h7 bB (fun j hj=>Or.inl (hq j hj)) hi (nb:=nb) (nv:=nv) (cA.mono (fun j e=>Or.inl e)) (fun j hj gB r hr u hu=>(hu.zOq _ (Or.inr (by omega))).zOq _ (Or.inr (by omega))) ⟨((hs.c0.zOq _ (Or.inr (by omega))).zOq _ (Or.inr (by omega))),((hs.c1.zOq _ (Or.inr (by omega))).zOq _ (Or.inr (by omega))),((hs.c2.zOq _ (Or.inr (by omega))).set _),((hs.c3.zOq _ (Or.inr (by omega))).zOq _ (Or.inr (by omega))),((hs.c4.zOq _ (Or.inr (by omega))).zOq _ (Or.inr (by omega))),((hs.c5.set _).zOq _ (Or.inr (by omega))),jA.zOr cA (fun h0 e=>iA h0 e),hs.zO6,iA⟩ (fun h0=>?_);exact⟨Or.inr (fun j hj e1=>by
   have h1:=hq j hj;have:=aA j (Or.inr (Or.inl h1));have:=nA h0;omega),Or.inr (nA h0)⟩
 have mA:yp ((w2.setCell ⟨sb,so+i*6+5,none⟩ nv).setCell ⟨sb,so+i*6+2,none⟩ (.int .i64 (W.zOw k).zO0)) R z3 W.pn W.zOw:=(((bA.zOw.zOp fA).zOr eA (fun j hj=>by
  have h2:=aA j (Or.inr (Or.inr hj));exact rA j (by omega) (by omega) (by omega) (fun hp=>bA.pr j hp hj))).zOp dA).zOr cA (fun j hj e=>bA.qr _ oA (by rw[<-e];exact hj))
 have tA:∀j,w.heap.size<=j->j<wr.heap.size->j≠V->¬P j->j≠sb->∀o' u,zT wr j o' u->zT ((w2.setCell ⟨sb,so+i*6+5,none⟩ nv).setCell ⟨sb,so+i*6+2,none⟩ (.int .i64 (W.zOw k).zO0)) j o' u:=fun j h1 h2 h3 h4 h5 o' u hc=>pA (((hc.zOp fA).zOr eA (rA j h1 (by omega) h3 h4)).zOp dA) h5
 have kS:=tA SB (by omega) aB (by omega) (fun hp=>by have:=cB _ hp;omega) (by omega);have kR:=tA (w.heap.size+1) (by omega) (by have:=(hR.1).lt;exact this) (by omega) (fun hp=>by have:=aA _ (Or.inl hp);omega) (by omega);refine⟨z0,y1,(fun j=>P j\/(ws.heap.size<=j/\j<wh.heap.size)),(fun j=>Q j\/(wh.heap.size<=j/\j<w2.heap.size)),R,(hV.zOp dA).zOr cA (by omega),⟨⟨kS _ _ hS.1.1,kS _ _ hS.1.2.1,kS _ _ hS.1.2.2.1,kS _ _ hS.1.2.2.2⟩,kS _ _ hS.2.1,kS _ _ hS.2.2.1,kS _ _ hS.2.2.2.1,kS _ _ hS.2.2.2.2⟩,⟨kR _ _ hR.1,kR _ _ hR.2.1,kR _ _ hR.2.2.1,kR _ _ hR.2.2.2.1,kR _ _ hR.2.2.2.2.1,kR _ _ hR.2.2.2.2.2.1,kR _ _ hR.2.2.2.2.2.2.1,kR _ _ hR.2.2.2.2.2.2.2.1,kR _ _ hR.2.2.2.2.2.2.2.2⟩,⟨(hP.zOp dA).zOr cA (fun j hj e=>?_),gA,mA,fun j hj kA=>?_,fun j hj lA=>?_,fun j hj lA=>?_⟩,fun j hj=>?_,hB.trans (((((zE.zOs fA).trans (eA.mono (T:=fun j=>w.heap.size<=j) (fun j h=>?_))).trans (zE.zOs dA)).trans (cA.mono (fun j e=>?_))).zOp (B:=w.heap.size) hB.size (fun j h=>h))⟩
 ·subst e;rcases hj with hj | hj
  ·exact bA.pq _ hj oA
  ·omega
 ·rcases kA with kA | kA
  ·rcases hj with hj | hj
   ·exact bA.pq j hj kA
   ·have:=aA j (Or.inr (Or.inl kA));omega
  ·rcases hj with hj | hj
   ·have:=aA j (Or.inl hj);omega
   ·omega
 ·rcases hj with hj | hj
  ·exact bA.pr j hj lA
  ·have:=aA j (Or.inr (Or.inr lA));omega
 ·rcases hj with hj | hj
  ·exact bA.qr j hj lA
  ·have:=aA j (Or.inr (Or.inr lA));omega
 ·rcases hj with(hj | hj) | (hj | hj) | hj
  ·have:=aA j (Or.inl hj);omega
  ·omega
  ·have:=aA j (Or.inr (Or.inl hj));omega
  ·omega
  ·have:=aA j (Or.inr (Or.inr hj));omega
 ·rcases h with h | h | h
  ·omega
  ·have:=aA j (Or.inl h);omega
  ·omega
 ·omega
theorem zM9{w wr ws wh w2:World}{V SB base k i bn off cn nb:Nat}{z0 z1 z2 y1 gv nv:Value}{W:zH}{g:zd}{P Q R:Nat->Prop}{kb:Nat->Nat}{kv:Nat->Value}(hg:g=W.zOw k)(cA:zAT wr P Q R z0 z1 z2 (.slice (some ⟨bn,off,none⟩) W.pn cn) W)(aA:∀j,P j\/Q j\/R j->base<=j/\j<V)(rA:w.heap.size+2<=base)(dB:V<SB)(aB:SB<wr.heap.size)(hB:Below w.heap.size w wr)
  (ho:qI wr bn kb kv (.slice (some ⟨bn,off,none⟩) W.pn cn) W.pn W.zOw) (bB:yF kb W.pn W.zOw) (hq:∀j,zAZ bn kb W.pn W.zOw j->R j) (hi:i<W.pn) (gA:Below wr.heap.size wr ws) (fA:zE (fun j=>j=V\/P j\/ws.heap.size<=j) ws wh) (hV:za wh V z0 y1 (.int .i64 W.time) (.int .i64 W.next) z2 (.slice (some ⟨bn,off,none⟩) W.pn cn)) (hP:qN wh (fun j=>P j\/(ws.heap.size<=j/\j<wh.heap.size)) z0 y1 (zW W.zOv (sdY W (W.zOw k) (W.zOw i).dn (W.zOw i).ds (W.zOw i).db)))
  (eA:Below wh.heap.size wh w2) (kA:ze w2 nb nv (sdD W (W.zOw k) (W.zOw i).dn (W.zOw i).ds (W.zOw i).db).length (zg (sdD W (W.zOw k) (W.zOw i).dn (W.zOw i).ds (W.zOw i).db)) (zj (sdD W (W.zOw k) (W.zOw i).dn (W.zOw i).ds (W.zOw i).db))) (mA:0<(sdD W (W.zOw k) (W.zOw i).dn (W.zOw i).ds (W.zOw i).db).length->wh.heap.size<=nb/\nb<w2.heap.size) (hS:zEk wr SB (.int .i64 g.id) (.string g.name) (.string g.set) (.int .i64 g.zO0) (.int .i64 g.time) (.int .i64 g.rs) (.int .i64 g.rb) (gv)) (hR:zBi wr (w.heap.size+1) (.slice none 0 0) (.slice none 0 0) (.int .i64 0) (.int .i64 0) (.slice none 0 0) (.slice none 0 0) (.int .i64 0) (.int .i64 0) (.int .i64 0)) :
  SdF w ((w2.setCell ⟨bn,off+i*8+7,none⟩ nv).setCell ⟨bn,off+i*8+3,none⟩ (.int .i64 g.zO0)) V SB base z2 (.slice (some ⟨bn,off,none⟩) W.pn cn) gv W {W with zOv:=zW W.zOv (sdY W (W.zOw k) (W.zOw i).dn (W.zOw i).ds (W.zOw i).db),zOw:=zG9 W k i} g:=by
 subst hg;obtain⟨D,hD⟩:∃D,D=sdD W (W.zOw k) (W.zOw i).dn (W.zOw i).ds (W.zOw i).db:=⟨_,rfl⟩;rw[<-hD]at kA mA;have nA:R bn:=hq _ (Or.inl ⟨by omega,rfl⟩);have eB:=aA _ (Or.inr (Or.inr nA));have jB:=gA.size;have iB:=fA.size;have gB:=eA.size;have dA:zE (fun j=>j=bn) w2 ((w2.setCell ⟨bn,off+i*8+7,none⟩ nv).setCell ⟨bn,off+i*8+3,none⟩ (.int .i64 (W.zOw k).zO0)):=(zE.put _ bn _ _).trans (zE.put _ bn _ _);have kB:=dA.size;have pA:∀j,w.heap.size<=j->j<ws.heap.size->j≠V->¬P j->¬(j=V\/P j\/ws.heap.size<=j):=fun j h1 h2 h3 h4 h=>by
  rcases h with h | h | h
  ·exact h3 h
  ·exact h4 h
  ·omega
 have cB:∀j,P j->j<V:=fun j hj=>(aA j (Or.inl hj)).2
 have oA:∀{b' o' u},zT w2 b' o' u->b'≠bn->zT ((w2.setCell ⟨bn,off+i*8+7,none⟩ nv).setCell ⟨bn,off+i*8+3,none⟩ (.int .i64 (W.zOw k).zO0)) b' o' u:=fun h tA=>(h.zOq _ (Or.inl (fun e=>tA e.symm))).zOq _ (Or.inl (fun e=>tA e.symm))
 have h7:qI w2 bn kb kv (.slice (some ⟨bn,off,none⟩) W.pn cn) W.pn W.zOw:=((ho.zOp gA).zOr fA (fun j hj=>by
  have h1:=hq j hj;have h2:=aA j (Or.inr (Or.inr h1));exact pA j (by omega) (by omega) (by omega) (fun hp=>cA.pr j hp h1))).zOp eA
 have hs:yA w2 bn (off+i*8) (kb i) (kv i) (W.zOw i):=h7.nthE hi;have jA:0<D.length->nb≠bn:=fun h0=>by have:=mA h0;omega
 have eS:zG9 W k i=fun j=>if j=i then {W.zOw i with zO0:=(W.zOw k).zO0,dn:=D.length,ds:=zg D,db:=zj D}else W.zOw j:=by unfold zG9 zNA;rw[hD]
 have iA:yp ((w2.setCell ⟨bn,off+i*8+7,none⟩ nv).setCell ⟨bn,off+i*8+3,none⟩ (.int .i64 (W.zOw k).zO0)) (fun j=>R j\/(wh.heap.size<=j/\j<w2.heap.size)) (.slice (some ⟨bn,off,none⟩) W.pn cn) W.pn (zG9 W k i):=by
  rw[eS];refine zJm h7 bB (fun j hj=>Or.inl (hq j hj)) hi (nb:=nb) (nv:=nv) (dA.mono (fun j e=>Or.inl e)) (fun j hj fB r hr u hu=>(hu.zOq _ (Or.inr (by omega))).zOq _ (Or.inr (by omega))) ⟨((hs.c0.zOq _ (Or.inr (by omega))).zOq _ (Or.inr (by omega))),((hs.c1.zOq _ (Or.inr (by omega))).zOq _ (Or.inr (by omega))),((hs.c2.zOq _ (Or.inr (by omega))).zOq _ (Or.inr (by omega))),((hs.c3.zOq _ (Or.inr (by omega))).set _),((hs.c4.zOq _ (Or.inr (by omega))).zOq _ (Or.inr (by omega))),((hs.c5.zOq _ (Or.inr (by omega))).zOq _ (Or.inr (by omega))),((hs.c6.zOq _ (Or.inr (by omega))).zOq _ (Or.inr (by omega))),((hs.c7.set _).zOq _ (Or.inr (by omega))),kA.zOr dA (fun h0 e=>jA h0 e),hs.zO6,jA⟩ (fun h0=>?_);exact⟨Or.inr (fun j hj e1=>by
   have h1:=hq j hj;have:=aA j (Or.inr (Or.inr h1));have:=mA h0;omega),Or.inr (mA h0)⟩
 have lA:zAd ((w2.setCell ⟨bn,off+i*8+7,none⟩ nv).setCell ⟨bn,off+i*8+3,none⟩ (.int .i64 (W.zOw k).zO0)) Q z2 W.sn W.zOy:=(((cA.zOy.zOp gA).zOr fA (fun j hj=>by
  have h2:=aA j (Or.inr (Or.inl hj));exact pA j (by omega) (by omega) (by omega) (fun hp=>cA.pq j hp hj))).zOp eA).zOr dA (fun j hj e=>cA.qr j hj (by rw[e];exact nA))
 have sA:∀j,w.heap.size<=j->j<wr.heap.size->j≠V->¬P j->j≠bn->∀o' u,zT wr j o' u->zT ((w2.setCell ⟨bn,off+i*8+7,none⟩ nv).setCell ⟨bn,off+i*8+3,none⟩ (.int .i64 (W.zOw k).zO0)) j o' u:=fun j h1 h2 h3 h4 h5 o' u hc=>oA (((hc.zOp gA).zOr fA (pA j h1 (by omega) h3 h4)).zOp eA) h5
 have kS:=sA SB (by omega) aB (by omega) (fun hp=>by have:=cB _ hp;omega) (by omega);have kR:=sA (w.heap.size+1) (by omega) (by have:=(hR.1).lt;exact this) (by omega) (fun hp=>by have:=aA _ (Or.inl hp);omega) (by omega);refine⟨z0,y1,(fun j=>P j\/(ws.heap.size<=j/\j<wh.heap.size)),Q,(fun j=>R j\/(wh.heap.size<=j/\j<w2.heap.size)),(hV.zOp eA).zOr dA (by omega),⟨⟨kS _ _ hS.1.1,kS _ _ hS.1.2.1,kS _ _ hS.1.2.2.1,kS _ _ hS.1.2.2.2⟩,kS _ _ hS.2.1,kS _ _ hS.2.2.1,kS _ _ hS.2.2.2.1,kS _ _ hS.2.2.2.2⟩,⟨kR _ _ hR.1,kR _ _ hR.2.1,kR _ _ hR.2.2.1,kR _ _ hR.2.2.2.1,kR _ _ hR.2.2.2.2.1,kR _ _ hR.2.2.2.2.2.1,kR _ _ hR.2.2.2.2.2.2.1,kR _ _ hR.2.2.2.2.2.2.2.1,kR _ _ hR.2.2.2.2.2.2.2.2⟩,⟨(hP.zOp eA).zOr dA (fun j hj e=>?_),lA,iA,fun j hj vA=>?_,fun j hj bA=>?_,fun j hj bA=>?_⟩,fun j hj=>?_,hB.trans (((((zE.zOs gA).trans (fA.mono (T:=fun j=>w.heap.size<=j) (fun j h=>?_))).trans (zE.zOs eA)).trans (dA.mono (fun j e=>?_))).zOp (B:=w.heap.size) hB.size (fun j h=>h))⟩
 ·subst e;rcases hj with hj | hj
  ·exact cA.pr _ hj nA
  ·omega
 ·rcases hj with hj | hj
  ·exact cA.pq j hj vA
  ·have:=aA j (Or.inr (Or.inl vA));omega
 ·rcases bA with bA | bA
  ·rcases hj with hj | hj
   ·exact cA.pr j hj bA
   ·have:=aA j (Or.inr (Or.inr bA));omega
  ·rcases hj with hj | hj
   ·have:=aA j (Or.inl hj);omega
   ·omega
 ·rcases bA with bA | bA
  ·exact cA.qr j hj bA
  ·have:=aA j (Or.inr (Or.inl hj));omega
 ·rcases hj with(hj | hj) | hj | (hj | hj)
  ·have:=aA j (Or.inl hj);omega
  ·omega
  ·have:=aA j (Or.inr (Or.inl hj));omega
  ·have:=aA j (Or.inr (Or.inr hj));omega
  ·omega
 ·rcases h with h | h | h
  ·omega
  ·have:=aA j (Or.inl h);omega
  ·omega
 ·omega
end Go.Proofs.YtgabgheflgjgiaaGreatDoor
