/- A part of the proof. -/
import Derived.Test.YtgabgheflgjgiaaGreatDoorV40
set_option linter.unusedVariables false
set_option maxRecDepth 20000
set_option maxHeartbeats 4000000
namespace Go.Proofs.YtgabgheflgjgiaaGreatDoor
open Go.RowKit
theorem zEc.turnedD{S:Nat->Prop}{w w':World}{b:Nat}{v0 v1 v2 v3 v4 v5 v6 v7:Value}(h:zEc w b v0 v1 v2 v3 v4 v5 v6 v7)(t:zE S w w')(hs:¬S b):zEc w' b v0 v1 v2 v3 v4 v5 v6 v7:=⟨⟨h.1.1.zOW t hs,h.1.2.1.zOW t hs,h.1.2.2.1.zOW t hs,h.1.2.2.2.zOW t hs⟩,h.2.1.zOW t hs,h.2.2.1.zOW t hs,h.2.2.2.1.zOW t hs,h.2.2.2.2.zOW t hs⟩
def SdF(w wr:World)(V SB base:Nat)(z2 z3 gv:Value)(W W2:zH)(g:zd):Prop:=∃(y0 y1:Value) (P Q R:Nat->Prop),za wr V y0 y1 (.int .i64 W.time) (.int .i64 W.next) z2 z3/\zEc wr SB (.int .i64 g.id) (.string g.name) (.string g.set) (.int .i64 g.zOg) (.int .i64 g.time) (.int .i64 g.rs) (.int .i64 g.rb) (gv)/\zBg wr (w.heap.size+1) (.slice none 0 0) (.slice none 0 0) (.int .i64 0) (.int .i64 0) (.slice none 0 0) (.slice none 0 0) (.int .i64 0) (.int .i64 0) (.int .i64 0)/\zAS wr P Q R y0 y1 z2 z3 W2/\(∀j,P j\/Q j\/R j->base<=j/\j<wr.heap.size/\j≠V/\j≠SB)/\Below w.heap.size w wr
theorem zNa{w wr ws wh w2:World}{V SB base k i sb so sc nb:Nat}{z0 z1 z3 y1 gv nv:Value}{W:zH}{g:zd}{P Q R:Nat->Prop}{ub:Nat->Nat}{uv:Nat->Value}(hg:g=W.zOb k)(aA:zAS wr P Q R z0 z1 (.slice (some ⟨sb,so,none⟩) W.sn sc) z3 W)(hlt:∀j,P j\/Q j\/R j->base<=j/\j<V)(rA:w.heap.size+2<=base)(cB:V<SB)(tA:SB<wr.heap.size)(hB:Below w.heap.size w wr)
  (ho:qK wr sb ub uv (.slice (some ⟨sb,so,none⟩) W.sn sc) W.sn W.zOd) (vA:qy ub W.sn W.zOd) (hq:∀j,yo sb ub W.sn W.zOd j->Q j) (hi:i<W.sn) (eA:Below wr.heap.size wr ws) (dA:zE (fun j=>j=V\/P j\/ws.heap.size<=j) ws wh) (hV:za wh V z0 y1 (.int .i64 W.time) (.int .i64 W.next) (.slice (some ⟨sb,so,none⟩) W.sn sc) z3) (hP:qN wh (fun j=>P j\/(ws.heap.size<=j/\j<wh.heap.size)) z0 y1 (zW W.zOa (sdY W (W.zOb k) (W.zOd i).dn (W.zOd i).ds (W.zOd i).db)))
  (cA:Below wh.heap.size wh w2) (iA:ze w2 nb nv (sdD W (W.zOb k) (W.zOd i).dn (W.zOd i).ds (W.zOd i).db).length (zg (sdD W (W.zOb k) (W.zOd i).dn (W.zOd i).ds (W.zOd i).db)) (zj (sdD W (W.zOb k) (W.zOd i).dn (W.zOd i).ds (W.zOd i).db))) (mA:0<(sdD W (W.zOb k) (W.zOd i).dn (W.zOd i).ds (W.zOd i).db).length->wh.heap.size<=nb/\nb<w2.heap.size) (hS:zEc wr SB (.int .i64 g.id) (.string g.name) (.string g.set) (.int .i64 g.zOg) (.int .i64 g.time) (.int .i64 g.rs) (.int .i64 g.rb) (gv)) (hR:zBg wr (w.heap.size+1) (.slice none 0 0) (.slice none 0 0) (.int .i64 0) (.int .i64 0) (.slice none 0 0) (.slice none 0 0) (.int .i64 0) (.int .i64 0) (.int .i64 0)) :
  SdF w ((w2.setCell ⟨sb,so+i*6+5,none⟩ nv).setCell ⟨sb,so+i*6+2,none⟩ (.int .i64 g.zOg)) V SB base (.slice (some ⟨sb,so,none⟩) W.sn sc) z3 gv W {W with zOa:=zW W.zOa (sdY W (W.zOb k) (W.zOd i).dn (W.zOd i).ds (W.zOd i).db),zOd:=zHV W k i} g:=by
 subst hg;obtain⟨D,hD⟩:∃D,D=sdD W (W.zOb k) (W.zOd i).dn (W.zOd i).ds (W.zOd i).db:=⟨_,rfl⟩;rw[<-hD]at iA mA;have nA:Q sb:=hq _ (Or.inl ⟨by omega,rfl⟩);have dB:=hlt _ (Or.inr (Or.inl nA));have gB:=eA.size;have fB:=dA.size;have hz2:=cA.size;have bA:zE (fun j=>j=sb) w2 ((w2.setCell ⟨sb,so+i*6+5,none⟩ nv).setCell ⟨sb,so+i*6+2,none⟩ (.int .i64 (W.zOb k).zOg)):=(zE.put _ sb _ _).trans (zE.put _ sb _ _);have iB:=bA.size;have pA:∀j,w.heap.size<=j->j<ws.heap.size->j≠V->¬P j->¬(j=V\/P j\/ws.heap.size<=j):=fun j h1 h2 h3 h4 h=>by
  rcases h with h | h | h
  ·exact h3 h
  ·exact h4 h
  ·omega
 have aB:∀j,P j->j<V:=fun j hj=>(hlt j (Or.inl hj)).2
 have oA:∀{b' o' u},zT w2 b' o' u->b'≠sb->zT ((w2.setCell ⟨sb,so+i*6+5,none⟩ nv).setCell ⟨sb,so+i*6+2,none⟩ (.int .i64 (W.zOb k).zOg)) b' o' u:=fun h hne=>(h.zOV _ (Or.inl (fun e=>hne e.symm))).zOV _ (Or.inl (fun e=>hne e.symm))
 have h7:qK w2 sb ub uv (.slice (some ⟨sb,so,none⟩) W.sn sc) W.sn W.zOd:=((ho.zOU eA).zOW dA (fun j hj=>by
  have h1:=hq j hj;have h2:=hlt j (Or.inr (Or.inl h1));exact pA j (by omega) (by omega) (by omega) (fun hp=>aA.pq j hp h1))).zOU cA
 have hs:qx w2 sb (so+i*6) (ub i) (uv i) (W.zOd i):=by
  obtain⟨bB,c',ev,hx⟩:=h7.nth hi;simp only[Value.slice.injEq,Option.some.injEq,Addr.mk.injEq,and_true,true_and]at ev;obtain⟨rfl,rfl⟩:=ev;exact hx
 have gA:0<D.length->nb≠sb:=fun h0=>by have:=mA h0;omega
 have eS:zHV W k i=fun j=>if j=i then {W.zOd i with zOg:=(W.zOb k).zOg,dn:=D.length,ds:=zg D,db:=zj D}else W.zOd j:=by unfold zHV zNk;rw[hD]
 have fA:zAc ((w2.setCell ⟨sb,so+i*6+5,none⟩ nv).setCell ⟨sb,so+i*6+2,none⟩ (.int .i64 (W.zOb k).zOg)) (fun j=>Q j\/(wh.heap.size<=j/\j<w2.heap.size)) (.slice (some ⟨sb,so,none⟩) W.sn sc) W.sn (zHV W k i):=by
  rw[eS];refine zG4 h7 vA (fun j hj=>Or.inl (hq j hj)) hi (nb:=nb) (nv:=nv) (bA.mono (fun j e=>Or.inl e)) (fun j hj eB r hr u hu=>(hu.zOV _ (Or.inr (by omega))).zOV _ (Or.inr (by omega))) ⟨((hs.c0.zOV _ (Or.inr (by omega))).zOV _ (Or.inr (by omega))),((hs.c1.zOV _ (Or.inr (by omega))).zOV _ (Or.inr (by omega))),((hs.c2.zOV _ (Or.inr (by omega))).set _),((hs.c3.zOV _ (Or.inr (by omega))).zOV _ (Or.inr (by omega))),((hs.c4.zOV _ (Or.inr (by omega))).zOV _ (Or.inr (by omega))),((hs.c5.set _).zOV _ (Or.inr (by omega))),iA.zOW bA (fun h0 e=>gA h0 e),hs.zOm,gA⟩ (fun h0=>?_);exact⟨Or.inr (fun j hj e1=>by
   have h1:=hq j hj;have:=hlt j (Or.inr (Or.inl h1));have:=mA h0;omega),Or.inr (mA h0)⟩
 have lA:yp ((w2.setCell ⟨sb,so+i*6+5,none⟩ nv).setCell ⟨sb,so+i*6+2,none⟩ (.int .i64 (W.zOb k).zOg)) R z3 W.pn W.zOb:=(((aA.zOb.zOU eA).zOW dA (fun j hj=>by
  have h2:=hlt j (Or.inr (Or.inr hj));exact pA j (by omega) (by omega) (by omega) (fun hp=>aA.pr j hp hj))).zOU cA).zOW bA (fun j hj e=>aA.qr _ nA (by rw[<-e];exact hj))
 have sA:∀j,w.heap.size<=j->j<wr.heap.size->j≠V->¬P j->j≠sb->∀o' u,zT wr j o' u->zT ((w2.setCell ⟨sb,so+i*6+5,none⟩ nv).setCell ⟨sb,so+i*6+2,none⟩ (.int .i64 (W.zOb k).zOg)) j o' u:=fun j h1 h2 h3 h4 h5 o' u hc=>oA (((hc.zOU eA).zOW dA (pA j h1 (by omega) h3 h4)).zOU cA) h5
 have kS:=sA SB (by omega) tA (by omega) (fun hp=>by have:=aB _ hp;omega) (by omega);have kR:=sA (w.heap.size+1) (by omega) (by have:=(hR.1).lt;exact this) (by omega) (fun hp=>by have:=hlt _ (Or.inl hp);omega) (by omega);refine⟨z0,y1,(fun j=>P j\/(ws.heap.size<=j/\j<wh.heap.size)),(fun j=>Q j\/(wh.heap.size<=j/\j<w2.heap.size)),R,(hV.zOU cA).zOW bA (by omega),⟨⟨kS _ _ hS.1.1,kS _ _ hS.1.2.1,kS _ _ hS.1.2.2.1,kS _ _ hS.1.2.2.2⟩,kS _ _ hS.2.1,kS _ _ hS.2.2.1,kS _ _ hS.2.2.2.1,kS _ _ hS.2.2.2.2⟩,⟨kR _ _ hR.1,kR _ _ hR.2.1,kR _ _ hR.2.2.1,kR _ _ hR.2.2.2.1,kR _ _ hR.2.2.2.2.1,kR _ _ hR.2.2.2.2.2.1,kR _ _ hR.2.2.2.2.2.2.1,kR _ _ hR.2.2.2.2.2.2.2.1,kR _ _ hR.2.2.2.2.2.2.2.2⟩,⟨(hP.zOU cA).zOW bA (fun j hj e=>?_),fA,lA,fun j hj jA=>?_,fun j hj kA=>?_,fun j hj kA=>?_⟩,fun j hj=>?_,hB.trans (((((zE.zOX eA).trans (dA.mono (T:=fun j=>w.heap.size<=j) (fun j h=>?_))).trans (zE.zOX cA)).trans (bA.mono (fun j e=>?_))).zOU (B:=w.heap.size) hB.size (fun j h=>h))⟩
 ·subst e;rcases hj with hj | hj
  ·exact aA.pq _ hj nA
  ·omega
 ·rcases jA with jA | jA
  ·rcases hj with hj | hj
   ·exact aA.pq j hj jA
   ·have:=hlt j (Or.inr (Or.inl jA));omega
  ·rcases hj with hj | hj
   ·have:=hlt j (Or.inl hj);omega
   ·omega
 ·rcases hj with hj | hj
  ·exact aA.pr j hj kA
  ·have:=hlt j (Or.inr (Or.inr kA));omega
 ·rcases hj with hj | hj
  ·exact aA.qr j hj kA
  ·have:=hlt j (Or.inr (Or.inr kA));omega
 ·rcases hj with(hj | hj) | (hj | hj) | hj
  ·have:=hlt j (Or.inl hj);omega
  ·omega
  ·have:=hlt j (Or.inr (Or.inl hj));omega
  ·omega
  ·have:=hlt j (Or.inr (Or.inr hj));omega
 ·rcases h with h | h | h
  ·omega
  ·have:=hlt j (Or.inl h);omega
  ·omega
 ·omega
theorem zMr{w wr ws wh w2:World}{V SB base k i bn off cn nb:Nat}{z0 z1 z2 y1 gv nv:Value}{W:zH}{g:zd}{P Q R:Nat->Prop}{kb:Nat->Nat}{kv:Nat->Value}(hg:g=W.zOb k)(bA:zAS wr P Q R z0 z1 z2 (.slice (some ⟨bn,off,none⟩) W.pn cn) W)(hlt:∀j,P j\/Q j\/R j->base<=j/\j<V)(pA:w.heap.size+2<=base)(bB:V<SB)(tA:SB<wr.heap.size)(hB:Below w.heap.size w wr)
  (ho:qI wr bn kb kv (.slice (some ⟨bn,off,none⟩) W.pn cn) W.pn W.zOb) (vA:yF kb W.pn W.zOb) (hq:∀j,zAY bn kb W.pn W.zOb j->R j) (hi:i<W.pn) (fA:Below wr.heap.size wr ws) (eA:zE (fun j=>j=V\/P j\/ws.heap.size<=j) ws wh) (hV:za wh V z0 y1 (.int .i64 W.time) (.int .i64 W.next) z2 (.slice (some ⟨bn,off,none⟩) W.pn cn)) (hP:qN wh (fun j=>P j\/(ws.heap.size<=j/\j<wh.heap.size)) z0 y1 (zW W.zOa (sdY W (W.zOb k) (W.zOb i).dn (W.zOb i).ds (W.zOb i).db)))
  (dA:Below wh.heap.size wh w2) (jA:ze w2 nb nv (sdD W (W.zOb k) (W.zOb i).dn (W.zOb i).ds (W.zOb i).db).length (zg (sdD W (W.zOb k) (W.zOb i).dn (W.zOb i).ds (W.zOb i).db)) (zj (sdD W (W.zOb k) (W.zOb i).dn (W.zOb i).ds (W.zOb i).db))) (lA:0<(sdD W (W.zOb k) (W.zOb i).dn (W.zOb i).ds (W.zOb i).db).length->wh.heap.size<=nb/\nb<w2.heap.size) (hS:zEc wr SB (.int .i64 g.id) (.string g.name) (.string g.set) (.int .i64 g.zOg) (.int .i64 g.time) (.int .i64 g.rs) (.int .i64 g.rb) (gv)) (hR:zBg wr (w.heap.size+1) (.slice none 0 0) (.slice none 0 0) (.int .i64 0) (.int .i64 0) (.slice none 0 0) (.slice none 0 0) (.int .i64 0) (.int .i64 0) (.int .i64 0)) :
  SdF w ((w2.setCell ⟨bn,off+i*8+7,none⟩ nv).setCell ⟨bn,off+i*8+3,none⟩ (.int .i64 g.zOg)) V SB base z2 (.slice (some ⟨bn,off,none⟩) W.pn cn) gv W {W with zOa:=zW W.zOa (sdY W (W.zOb k) (W.zOb i).dn (W.zOb i).ds (W.zOb i).db),zOb:=zGx W k i} g:=by
 subst hg;obtain⟨D,hD⟩:∃D,D=sdD W (W.zOb k) (W.zOb i).dn (W.zOb i).ds (W.zOb i).db:=⟨_,rfl⟩;rw[<-hD]at jA lA;have mA:R bn:=hq _ (Or.inl ⟨by omega,rfl⟩);have cB:=hlt _ (Or.inr (Or.inr mA));have fB:=fA.size;have eB:=eA.size;have hz2:=dA.size;have cA:zE (fun j=>j=bn) w2 ((w2.setCell ⟨bn,off+i*8+7,none⟩ nv).setCell ⟨bn,off+i*8+3,none⟩ (.int .i64 (W.zOb k).zOg)):=(zE.put _ bn _ _).trans (zE.put _ bn _ _);have gB:=cA.size;have oA:∀j,w.heap.size<=j->j<ws.heap.size->j≠V->¬P j->¬(j=V\/P j\/ws.heap.size<=j):=fun j h1 h2 h3 h4 h=>by
  rcases h with h | h | h
  ·exact h3 h
  ·exact h4 h
  ·omega
 have aB:∀j,P j->j<V:=fun j hj=>(hlt j (Or.inl hj)).2
 have nA:∀{b' o' u},zT w2 b' o' u->b'≠bn->zT ((w2.setCell ⟨bn,off+i*8+7,none⟩ nv).setCell ⟨bn,off+i*8+3,none⟩ (.int .i64 (W.zOb k).zOg)) b' o' u:=fun h hne=>(h.zOV _ (Or.inl (fun e=>hne e.symm))).zOV _ (Or.inl (fun e=>hne e.symm))
 have h7:qI w2 bn kb kv (.slice (some ⟨bn,off,none⟩) W.pn cn) W.pn W.zOb:=((ho.zOU fA).zOW eA (fun j hj=>by
  have h1:=hq j hj;have h2:=hlt j (Or.inr (Or.inr h1));exact oA j (by omega) (by omega) (by omega) (fun hp=>bA.pr j hp h1))).zOU dA
 have hs:yA w2 bn (off+i*8) (kb i) (kv i) (W.zOb i):=h7.nthE hi;have iA:0<D.length->nb≠bn:=fun h0=>by have:=lA h0;omega
 have eS:zGx W k i=fun j=>if j=i then {W.zOb i with zOg:=(W.zOb k).zOg,dn:=D.length,ds:=zg D,db:=zj D}else W.zOb j:=by unfold zGx zMs;rw[hD]
 have gA:yp ((w2.setCell ⟨bn,off+i*8+7,none⟩ nv).setCell ⟨bn,off+i*8+3,none⟩ (.int .i64 (W.zOb k).zOg)) (fun j=>R j\/(wh.heap.size<=j/\j<w2.heap.size)) (.slice (some ⟨bn,off,none⟩) W.pn cn) W.pn (zGx W k i):=by
  rw[eS];refine zJZ h7 vA (fun j hj=>Or.inl (hq j hj)) hi (nb:=nb) (nv:=nv) (cA.mono (fun j e=>Or.inl e)) (fun j hj dB r hr u hu=>(hu.zOV _ (Or.inr (by omega))).zOV _ (Or.inr (by omega))) ⟨((hs.c0.zOV _ (Or.inr (by omega))).zOV _ (Or.inr (by omega))),((hs.c1.zOV _ (Or.inr (by omega))).zOV _ (Or.inr (by omega))),((hs.c2.zOV _ (Or.inr (by omega))).zOV _ (Or.inr (by omega))),((hs.c3.zOV _ (Or.inr (by omega))).set _),((hs.c4.zOV _ (Or.inr (by omega))).zOV _ (Or.inr (by omega))),((hs.c5.zOV _ (Or.inr (by omega))).zOV _ (Or.inr (by omega))),((hs.c6.zOV _ (Or.inr (by omega))).zOV _ (Or.inr (by omega))),((hs.c7.set _).zOV _ (Or.inr (by omega))),jA.zOW cA (fun h0 e=>iA h0 e),hs.zOm,iA⟩ (fun h0=>?_);exact⟨Or.inr (fun j hj e1=>by
   have h1:=hq j hj;have:=hlt j (Or.inr (Or.inr h1));have:=lA h0;omega),Or.inr (lA h0)⟩
 have kA:zAc ((w2.setCell ⟨bn,off+i*8+7,none⟩ nv).setCell ⟨bn,off+i*8+3,none⟩ (.int .i64 (W.zOb k).zOg)) Q z2 W.sn W.zOd:=(((bA.zOd.zOU fA).zOW eA (fun j hj=>by
  have h2:=hlt j (Or.inr (Or.inl hj));exact oA j (by omega) (by omega) (by omega) (fun hp=>bA.pq j hp hj))).zOU dA).zOW cA (fun j hj e=>bA.qr j hj (by rw[e];exact mA))
 have rA:∀j,w.heap.size<=j->j<wr.heap.size->j≠V->¬P j->j≠bn->∀o' u,zT wr j o' u->zT ((w2.setCell ⟨bn,off+i*8+7,none⟩ nv).setCell ⟨bn,off+i*8+3,none⟩ (.int .i64 (W.zOb k).zOg)) j o' u:=fun j h1 h2 h3 h4 h5 o' u hc=>nA (((hc.zOU fA).zOW eA (oA j h1 (by omega) h3 h4)).zOU dA) h5
 have kS:=rA SB (by omega) tA (by omega) (fun hp=>by have:=aB _ hp;omega) (by omega);have kR:=rA (w.heap.size+1) (by omega) (by have:=(hR.1).lt;exact this) (by omega) (fun hp=>by have:=hlt _ (Or.inl hp);omega) (by omega);refine⟨z0,y1,(fun j=>P j\/(ws.heap.size<=j/\j<wh.heap.size)),Q,(fun j=>R j\/(wh.heap.size<=j/\j<w2.heap.size)),(hV.zOU dA).zOW cA (by omega),⟨⟨kS _ _ hS.1.1,kS _ _ hS.1.2.1,kS _ _ hS.1.2.2.1,kS _ _ hS.1.2.2.2⟩,kS _ _ hS.2.1,kS _ _ hS.2.2.1,kS _ _ hS.2.2.2.1,kS _ _ hS.2.2.2.2⟩,⟨kR _ _ hR.1,kR _ _ hR.2.1,kR _ _ hR.2.2.1,kR _ _ hR.2.2.2.1,kR _ _ hR.2.2.2.2.1,kR _ _ hR.2.2.2.2.2.1,kR _ _ hR.2.2.2.2.2.2.1,kR _ _ hR.2.2.2.2.2.2.2.1,kR _ _ hR.2.2.2.2.2.2.2.2⟩,⟨(hP.zOU dA).zOW cA (fun j hj e=>?_),kA,gA,fun j hj sA=>?_,fun j hj aA=>?_,fun j hj aA=>?_⟩,fun j hj=>?_,hB.trans (((((zE.zOX fA).trans (eA.mono (T:=fun j=>w.heap.size<=j) (fun j h=>?_))).trans (zE.zOX dA)).trans (cA.mono (fun j e=>?_))).zOU (B:=w.heap.size) hB.size (fun j h=>h))⟩
 ·subst e;rcases hj with hj | hj
  ·exact bA.pr _ hj mA
  ·omega
 ·rcases hj with hj | hj
  ·exact bA.pq j hj sA
  ·have:=hlt j (Or.inr (Or.inl sA));omega
 ·rcases aA with aA | aA
  ·rcases hj with hj | hj
   ·exact bA.pr j hj aA
   ·have:=hlt j (Or.inr (Or.inr aA));omega
  ·rcases hj with hj | hj
   ·have:=hlt j (Or.inl hj);omega
   ·omega
 ·rcases aA with aA | aA
  ·exact bA.qr j hj aA
  ·have:=hlt j (Or.inr (Or.inl hj));omega
 ·rcases hj with(hj | hj) | hj | (hj | hj)
  ·have:=hlt j (Or.inl hj);omega
  ·omega
  ·have:=hlt j (Or.inr (Or.inl hj));omega
  ·have:=hlt j (Or.inr (Or.inr hj));omega
  ·omega
 ·rcases h with h | h | h
  ·omega
  ·have:=hlt j (Or.inl h);omega
  ·omega
 ·omega
end Go.Proofs.YtgabgheflgjgiaaGreatDoor
