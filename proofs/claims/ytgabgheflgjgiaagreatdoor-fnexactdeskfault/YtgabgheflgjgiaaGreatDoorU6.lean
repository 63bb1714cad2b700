/- A part of the proof. -/
import Derived.Test.YtgabgheflgjgiaaGreatDoorU5
import Derived.ProofKit
set_option linter.unusedVariables false
set_option maxRecDepth 20000
set_option maxHeartbeats 4000000
namespace Go.Proofs.YtgabgheflgjgiaaGreatDoor
open Go.RowKit
def cellSet(f:Nat->zu)(cv:Nat->Value)(i r:Nat):Value:=
 match r with
 | 0=>.string (f i).name
 | 1=>.int .i64 (f i).origin
 | 2=>.int .i64 (f i).zO0
 | 3=>.int .i64 (f i).rs
 | 4=>.int .i64 (f i).rb
 | _=>cv i
def zCq(f:Nat->zu)(cv:Nat->Value)(n:Nat):List Value:=(List.range (n*6)).map fun j=>cellSet f cv (j / 6) (j % 6)
theorem zFK(f:Nat->zu)(cv:Nat->Value)(n:Nat):(zCq f cv n).length=n*6:=by simp[zCq]
theorem zCG(f:Nat->zu)(cv:Nat->Value)(n:Nat){i r:Nat}(hi:i<n)(hr:r<6):(zCq f cv n)[i*6+r]?=some (cellSet f cv i r):=by
 have h:i*6+r<n*6:=by omega
 have h1:(i*6+r) / 6=i:=by omega
 have h2:(i*6+r) % 6=r:=by omega
 simp[zCq,h,h1,h2]
theorem zHq(f:Nat->zu)(cv:Nat->Value)(n:Nat)(h:∀i,i<n->(cv i).oneCell'=true):∀u∈zCq f cv n,u.oneCell'=true:=by
 intro u hu;unfold zCq at hu;obtain⟨j,hj,rfl⟩:=List.mem_map.1 hu;have aA:=List.mem_range.1 hj;have hi:j / 6<n:=by omega
 have hr:j % 6<6:=by omega
 generalize j % 6=r at hr ⊢;rcases r with _ | _ | _ | _ | _ | _<;>first | rfl | exact h _ hi
def zAf(w:World)(b o:Nat)(s:zu)(vd:Value):Prop:=zT w b o (.string s.name)/\zT w b (o+1) (.int .i64 s.origin)/\zT w b (o+2) (.int .i64 s.zO0)/\zT w b (o+3) (.int .i64 s.rs)/\zT w b (o+4) (.int .i64 s.rb)/\zT w b (o+5) vd
theorem zAf.zOr{S:Nat->Prop}{w w':World}{b o:Nat}{s:zu}{vd:Value}(h:zAf w b o s vd)(t:zE S w w')(hs:¬S b):zAf w' b o s vd:=by
 obtain⟨h0,h1,h2,h3,h4,h5⟩:=h;exact⟨h0.zOr t hs,h1.zOr t hs,h2.zOr t hs,h3.zOr t hs,h4.zOr t hs,h5.zOr t hs⟩
theorem zAf.zOp{w w':World}{b o:Nat}{s:zu}{vd:Value}(h:zAf w b o s vd)(t:Below w.heap.size w w'):zAf w' b o s vd:=
 h.zOr (zE.zOs (S:=fun _=>False) t) (fun h=>h)
theorem zAf.set{w:World}{b o:Nat}{s:zu}{vd:Value}(h:zAf w b o s vd)(u:Value):zAf (w.setCell ⟨b,o+5,none⟩ u) b o s u:=by
 obtain⟨h0,h1,h2,h3,h4,h5⟩:=h;exact⟨h0.zOq _ (Or.inr (by omega)),h1.zOq _ (Or.inr (by omega)),h2.zOq _ (Or.inr (by omega)),h3.zOq _ (Or.inr (by omega)),h4.zOq _ (Or.inr (by omega)),h5.set _⟩
theorem zAf.zOq{w:World}{b o o':Nat}{s:zu}{vd:Value}(h:zAf w b o s vd)(u:Value)(aA:∀r,r<6->o'≠o+r):zAf (w.setCell ⟨b,o',none⟩ u) b o s vd:=by
 obtain⟨h0,h1,h2,h3,h4,h5⟩:=h;exact⟨h0.zOq _ (Or.inr (aA 0 (by omega))),h1.zOq _ (Or.inr (aA 1 (by omega))),h2.zOq _ (Or.inr (aA 2 (by omega))),h3.zOq _ (Or.inr (aA 3 (by omega))),h4.zOq _ (Or.inr (aA 4 (by omega))),h5.zOq _ (Or.inr (aA 5 (by omega)))⟩
structure yn (wr:World) (bs L n k:Nat) (f:Nat->zu) (kb:Nat->Nat) (kv cv:Nat->Value):Prop where
 zO9:∀j,j<n->zAf wr bs (j*6) (f j) (if j<k then kv j else cv j)
 zO5:∀j,j<k->ze wr (kb j) (kv j) (f j).dn (f j).ds (f j).db
 zO7:∀j,j<k->0<(f j).dn->L<=kb j/\kb j<wr.heap.size
 zO4:qy kb k f
 lt:0<n->bs<L
theorem yn.zOp{wr w':World}{bs L n k:Nat}{f:Nat->zu}{kb:Nat->Nat}{kv cv:Nat->Value}(h:yn wr bs L n k f kb kv cv)(t:Below wr.heap.size wr w'):yn w' bs L n k f kb kv cv:=
 ⟨fun j hj=>(h.zO9 j hj).zOp t,fun j hj=>(h.zO5 j hj).zOp t,fun j hj h0=>by have:=h.zO7 j hj h0;have:=t.size;omega,h.zO4,h.lt⟩
theorem yn.next{wr w1:World}{bs L n k b:Nat}{f:Nat->zu}{kb:Nat->Nat}{kv cv:Nat->Value}{v:Value}(h:yn wr bs L n k f kb kv cv)(hk:k<n)(hL:L<=wr.heap.size)(t:Below wr.heap.size wr w1)
  (hp:ze w1 b v (f k).dn (f k).ds (f k).db) (hb:0<(f k).dn->wr.heap.size<=b/\b<w1.heap.size) :
  yn (w1.setCell ⟨bs,k*6+5,none⟩ v) bs L n (k+1) f (fun j=>if j=k then b else kb j) (fun j=>if j=k then v else kv j) cv:=by
 have h':=h.zOp t;have bA:=h.lt (by omega);refine⟨fun j hj=>?_,fun j hj=>?_,fun j hj h0=>?_,fun i j hi hj aA h1 h2=>?_,h.lt⟩
 ·have hh:=h'.zO9 j hj;by_cases e:j=k
  ·subst e;rw[if_pos (by omega),if_pos rfl];exact hh.set v
  ·rw[if_neg e];have es:(if j<k+1 then kv j else cv j)=if j<k then kv j else cv j:=by
    by_cases e2:j<k
    ·rw[if_pos e2,if_pos (by omega)]
    ·rw[if_neg e2,if_neg (by omega)]
   rw[es];exact hh.zOq v (fun r hr=>by omega)
 ·by_cases e:j=k
  ·subst e;simp only[if_true];exact hp.zOr (zE.put _ _ _ _) (fun h0 hx=>by have:=hb h0;omega)
  ·simp only[if_neg e];exact(h'.zO5 j (by omega)).zOr (zE.put _ _ _ _) (fun h0 hx=>by have:=h'.zO7 j (by omega) h0;omega)
 ·simp only[World.size_setCell];by_cases e:j=k
  ·subst e;rw[if_pos rfl];have:=hb h0;omega
  ·rw[if_neg e];have:=h'.zO7 j (by omega) h0;omega
 ·show(if i=k then b else kb i)≠(if j=k then b else kb j);by_cases e1:i=k
  ·by_cases e2:j=k
   ·omega
   ·rw[if_pos e1,if_neg e2];subst e1;have:=hb h1;have:=h.zO7 j (by omega) h2;omega
  ·by_cases e2:j=k
   ·rw[if_neg e1,if_pos e2];subst e2;have:=hb h2;have:=h.zO7 i (by omega) h1;omega
   ·rw[if_neg e1,if_neg e2];exact h.zO4 i j (by omega) (by omega) aA h1 h2
theorem yn.own{wr:World}{bs L n c:Nat}{f:Nat->zu}{kb:Nat->Nat}{kv cv:Nat->Value}{a:Option Addr}(h:yn wr bs L n n f kb kv cv)(hm:n<=maxLen)(ha:0<n->a=some ⟨bs,0,none⟩)(hc:n<=c)(hs:∀i,i<n->(f i).name.size<=maxLen):qK wr bs kb kv (.slice a n c) n f:=
 ⟨hm,a,c,rfl,hc,fun h0=>⟨0,ha h0,fun i hi=>by
  obtain⟨h0,h1,h2,h3,h4,h5⟩:=h.zO9 i hi;rw[if_pos hi]at h5;rw[Nat.zero_add];exact⟨h0,h1,h2,h3,h4,h5,h.zO5 i hi,hs i hi,fun hk e=>by have:=h.zO7 i hi hk;have:=h.lt (by omega);omega⟩⟩⟩
theorem yn.turned0{S:Nat->Prop}{wr w':World}{bs L n:Nat}{f:Nat->zu}{kb:Nat->Nat}{kv cv:Nat->Value}(h:yn wr bs L n 0 f kb kv cv)(t:zE S wr w')(hs:∀q,S q->0<n->q≠bs):yn w' bs L n 0 f kb kv cv:=
 ⟨fun j hj=>(h.zO9 j hj).zOr t (fun e=>hs _ e (by omega) rfl),fun j hj=>absurd hj (Nat.not_lt_zero _),fun j hj=>absurd hj (Nat.not_lt_zero _),h.zO4,h.lt⟩
theorem yn.weak{wr:World}{bs L L' n:Nat}{f:Nat->zu}{kb:Nat->Nat}{kv cv:Nat->Value}(h:yn wr bs L n 0 f kb kv cv)(hL:L<=L'):yn wr bs L' n 0 f kb kv cv:=
 ⟨h.zO9,h.zO5,fun j hj=>absurd hj (Nat.not_lt_zero _),h.zO4,fun h0=>Nat.lt_of_lt_of_le (h.lt h0) hL⟩
theorem zBP.values{w:World}{lo hi:Nat}{a:Option Addr}{n c:Nat}{f:Nat->zu}(h:zBP w lo hi (.slice a n c) n f) :
  ∃cv:Nat->Value,(∀i,i<n->zp w lo hi (cv i) (f i).dn (f i).ds (f i).db/\(f i).name.size<=maxLen)/\
   (0<n->∃b off,a=some ⟨b,off,none⟩/\∀j u,(zCq f cv n)[j]?=some u->w.cell? ⟨b,off+j,none⟩=some u):=by
 obtain⟨_,a0,c0,h0,_,g⟩:=h;simp only[Value.slice.injEq,true_and]at h0;obtain⟨rfl,rfl⟩:=h0;by_cases hn:0<n
 ·obtain⟨b,off,ha,cA,dA,hc⟩:=g hn;have bA:∀i,∃x,i<n->zCD w b (off+i*6) lo hi x (f i):=fun i=>by
   by_cases hi:i<n
   ·obtain⟨vd,hs⟩:=hc i hi;exact⟨vd,fun _=>hs⟩
   ·exact⟨.slice none 0 0,fun h=>absurd h hi⟩
  obtain⟨cv,aA⟩:=Classical.axiomOfChoice bA;refine⟨cv,fun i hi=>⟨(aA i hi).zO5,(aA i hi).zO6⟩,fun _=>⟨b,off,ha,fun j u hj=>?_⟩⟩;have eA:j<n*6:=by
   have:=(List.getElem?_eq_some_iff.1 hj).1
   rwa [zFK]at this
  have hs:=aA (j / 6) (by omega);have e:=zCG f cv n (i:=j / 6) (r:=j % 6) (by omega) (by omega);rw[show j / 6*6+j % 6=j by omega,hj]at e;have hr:j % 6<6:=(by omega);have ho:off+j=off+j / 6*6+j % 6:=(by omega);rw[ho];generalize j % 6=r at hr e ⊢;generalize j / 6=q at hs e ⊢;rcases r with _ | _ | _ | _ | _ | _ | r
  ·cases e;exact hs.c0
  ·cases e;exact hs.c1
  ·cases e;exact hs.c2
  ·cases e;exact hs.c3
  ·cases e;exact hs.c4
  ·cases e;exact hs.c5
  ·omega
 ·exact⟨fun _=>.slice none 0 0,fun i hi=>absurd hi (by omega),fun h=>absurd h hn⟩
theorem zEF{w1:World}{base n:Nat}{v:Value}{f:Nat->zu}{cv:Nat->Value}(bA:w1.ownsRow base 102 6 v n (zCq f cv n))(L:Nat)(hL:w1.heap.size<=L):∃bs a c,v = .slice a n c/\n<=c/\(0<n->a=some ⟨bs,0,none⟩/\base<=bs/\bs<w1.heap.size)/\yn w1 bs L n 0 f (fun _=>0) cv cv:=by
 obtain⟨a1,c1,rfl,cA⟩:=zX bA;by_cases h0:0<n
 ·obtain⟨g,cap,hv,_,dA,eA,aA⟩:=qp bA h0;simp only[Value.slice.injEq,true_and]at hv;obtain⟨rfl,rfl⟩:=hv;refine⟨g,_,_,rfl,cA,fun _=>⟨rfl,dA,eA⟩,fun j hj=>?_,fun j hj=>absurd hj (Nat.not_lt_zero _),fun j hj=>absurd hj (Nat.not_lt_zero _),fun i j hi=>absurd hi (Nat.not_lt_zero _),fun _=>by omega⟩;rw[if_neg (Nat.not_lt_zero _)];exact⟨aA _ _ (zCG f cv n hj (r:=0) (by omega)),aA _ _ (zCG f cv n hj (r:=1) (by omega)),aA _ _ (zCG f cv n hj (r:=2) (by omega)),aA _ _ (zCG f cv n hj (r:=3) (by omega)),aA _ _ (zCG f cv n hj (r:=4) (by omega)),aA _ _ (zCG f cv n hj (r:=5) (by omega))⟩
 ·exact⟨0,_,_,rfl,cA,fun h=>absurd h h0,fun j hj=>absurd hj (by omega),fun j hj=>absurd hj (Nat.not_lt_zero _),fun j hj=>absurd hj (Nat.not_lt_zero _),fun i j hi=>absurd hi (Nat.not_lt_zero _),fun h=>absurd h h0⟩
def cellSnap(f:Nat->zd)(cv:Nat->Value)(i r:Nat):Value:=
 match r with
 | 0=>.int .i64 (f i).id
 | 1=>.string (f i).name
 | 2=>.string (f i).set
 | 3=>.int .i64 (f i).zO0
 | 4=>.int .i64 (f i).time
 | 5=>.int .i64 (f i).rs
 | 6=>.int .i64 (f i).rb
 | _=>cv i
def zAv(f:Nat->zd)(cv:Nat->Value)(n:Nat):List Value:=(List.range (n*8)).map fun j=>cellSnap f cv (j / 8) (j % 8)
theorem zAe(f:Nat->zd)(cv:Nat->Value)(n:Nat):(zAv f cv n).length=n*8:=by simp[zAv]
theorem zAG(f:Nat->zd)(cv:Nat->Value)(n:Nat){i r:Nat}(hi:i<n)(hr:r<8):(zAv f cv n)[i*8+r]?=some (cellSnap f cv i r):=by
 have h:i*8+r<n*8:=by omega
 have h1:(i*8+r) / 8=i:=by omega
 have h2:(i*8+r) % 8=r:=by omega
 simp[zAv,h,h1,h2]
theorem zGZ(f:Nat->zd)(cv:Nat->Value)(n:Nat)(h:∀i,i<n->(cv i).oneCell'=true):∀u∈zAv f cv n,u.oneCell'=true:=by
 intro u hu;unfold zAv at hu;obtain⟨j,hj,rfl⟩:=List.mem_map.1 hu;have aA:=List.mem_range.1 hj;have hi:j / 8<n:=by omega
 have hr:j % 8<8:=by omega
 generalize j % 8=r at hr ⊢;rcases r with _ | _ | _ | _ | _ | _ | _ | _<;>first | rfl | exact h _ hi
def zAD(w:World)(b o:Nat)(s:zd)(vd:Value):Prop:=zT w b o (.int .i64 s.id)/\zT w b (o+1) (.string s.name)/\zT w b (o+2) (.string s.set)/\zT w b (o+3) (.int .i64 s.zO0)/\zT w b (o+4) (.int .i64 s.time)/\zT w b (o+5) (.int .i64 s.rs)/\zT w b (o+6) (.int .i64 s.rb)/\zT w b (o+7) vd
theorem zAD.zOr{S:Nat->Prop}{w w':World}{b o:Nat}{s:zd}{vd:Value}(h:zAD w b o s vd)(t:zE S w w')(hs:¬S b):zAD w' b o s vd:=by
 obtain⟨h0,h1,h2,h3,h4,h5,h6,h7⟩:=h;exact⟨h0.zOr t hs,h1.zOr t hs,h2.zOr t hs,h3.zOr t hs,h4.zOr t hs,h5.zOr t hs,h6.zOr t hs,h7.zOr t hs⟩
theorem zAD.zOp{w w':World}{b o:Nat}{s:zd}{vd:Value}(h:zAD w b o s vd)(t:Below w.heap.size w w'):zAD w' b o s vd:=
 h.zOr (zE.zOs (S:=fun _=>False) t) (fun h=>h)
theorem zAD.set{w:World}{b o:Nat}{s:zd}{vd:Value}(h:zAD w b o s vd)(u:Value):zAD (w.setCell ⟨b,o+7,none⟩ u) b o s u:=by
 obtain⟨h0,h1,h2,h3,h4,h5,h6,h7⟩:=h;exact⟨h0.zOq _ (Or.inr (by omega)),h1.zOq _ (Or.inr (by omega)),h2.zOq _ (Or.inr (by omega)),h3.zOq _ (Or.inr (by omega)),h4.zOq _ (Or.inr (by omega)),h5.zOq _ (Or.inr (by omega)),h6.zOq _ (Or.inr (by omega)),h7.set _⟩
theorem zAD.zOq{w:World}{b o o':Nat}{s:zd}{vd:Value}(h:zAD w b o s vd)(u:Value)(aA:∀r,r<8->o'≠o+r):zAD (w.setCell ⟨b,o',none⟩ u) b o s vd:=by
 obtain⟨h0,h1,h2,h3,h4,h5,h6,h7⟩:=h;exact⟨h0.zOq _ (Or.inr (aA 0 (by omega))),h1.zOq _ (Or.inr (aA 1 (by omega))),h2.zOq _ (Or.inr (aA 2 (by omega))),h3.zOq _ (Or.inr (aA 3 (by omega))),h4.zOq _ (Or.inr (aA 4 (by omega))),h5.zOq _ (Or.inr (aA 5 (by omega))),h6.zOq _ (Or.inr (aA 6 (by omega))),h7.zOq _ (Or.inr (aA 7 (by omega)))⟩
structure yM (wr:World) (bs L n k:Nat) (f:Nat->zd) (kb:Nat->Nat) (kv cv:Nat->Value):Prop where
 zO9:∀j,j<n->zAD wr bs (j*8) (f j) (if j<k then kv j else cv j)
 zO5:∀j,j<k->ze wr (kb j) (kv j) (f j).dn (f j).ds (f j).db
 zO7:∀j,j<k->0<(f j).dn->L<=kb j/\kb j<wr.heap.size
 zO4:yF kb k f
 lt:0<n->bs<L
theorem yM.zOp{wr w':World}{bs L n k:Nat}{f:Nat->zd}{kb:Nat->Nat}{kv cv:Nat->Value}(h:yM wr bs L n k f kb kv cv)(t:Below wr.heap.size wr w'):yM w' bs L n k f kb kv cv:=
 ⟨fun j hj=>(h.zO9 j hj).zOp t,fun j hj=>(h.zO5 j hj).zOp t,fun j hj h0=>by have:=h.zO7 j hj h0;have:=t.size;omega,h.zO4,h.lt⟩
theorem yM.next{wr w1:World}{bs L n k b:Nat}{f:Nat->zd}{kb:Nat->Nat}{kv cv:Nat->Value}{v:Value}(h:yM wr bs L n k f kb kv cv)(hk:k<n)(hL:L<=wr.heap.size)(t:Below wr.heap.size wr w1)
  (hp:ze w1 b v (f k).dn (f k).ds (f k).db) (hb:0<(f k).dn->wr.heap.size<=b/\b<w1.heap.size) :
  yM (w1.setCell ⟨bs,k*8+7,none⟩ v) bs L n (k+1) f (fun j=>if j=k then b else kb j) (fun j=>if j=k then v else kv j) cv:=by
 have h':=h.zOp t;have bA:=h.lt (by omega);refine⟨fun j hj=>?_,fun j hj=>?_,fun j hj h0=>?_,fun i j hi hj aA h1 h2=>?_,h.lt⟩
 ·have hh:=h'.zO9 j hj;by_cases e:j=k
  ·subst e;rw[if_pos (by omega),if_pos rfl];exact hh.set v
  ·rw[if_neg e];have es:(if j<k+1 then kv j else cv j)=if j<k then kv j else cv j:=by
    by_cases e2:j<k
    ·rw[if_pos e2,if_pos (by omega)]
    ·rw[if_neg e2,if_neg (by omega)]
   rw[es];exact hh.zOq v (fun r hr=>by omega)
 ·by_cases e:j=k
  ·subst e;simp only[if_true];exact hp.zOr (zE.put _ _ _ _) (fun h0 hx=>by have:=hb h0;omega)
  ·simp only[if_neg e];exact(h'.zO5 j (by omega)).zOr (zE.put _ _ _ _) (fun h0 hx=>by have:=h'.zO7 j (by omega) h0;omega)
 ·simp only[World.size_setCell];by_cases e:j=k
  ·subst e;rw[if_pos rfl];have:=hb h0;omega
  ·rw[if_neg e];have:=h'.zO7 j (by omega) h0;omega
 ·show(if i=k then b else kb i)≠(if j=k then b else kb j);by_cases e1:i=k
  ·by_cases e2:j=k
   ·omega
   ·rw[if_pos e1,if_neg e2];subst e1;have:=hb h1;have:=h.zO7 j (by omega) h2;omega
  ·by_cases e2:j=k
   ·rw[if_neg e1,if_pos e2];subst e2;have:=hb h2;have:=h.zO7 i (by omega) h1;omega
   ·rw[if_neg e1,if_neg e2];exact h.zO4 i j (by omega) (by omega) aA h1 h2
theorem yM.own{wr:World}{bs L n c:Nat}{f:Nat->zd}{kb:Nat->Nat}{kv cv:Nat->Value}{a:Option Addr}(h:yM wr bs L n n f kb kv cv)(hm:n<=maxLen)(ha:0<n->a=some ⟨bs,0,none⟩)(hc:n<=c)(hs:∀i,i<n->((f i).name.size<=maxLen/\(f i).set.size<=maxLen)):qI wr bs kb kv (.slice a n c) n f:=
 ⟨hm,a,c,rfl,hc,fun h0=>⟨0,ha h0,fun i hi=>by
  obtain⟨h0,h1,h2,h3,h4,h5,h6,h7⟩:=h.zO9 i hi;rw[if_pos hi]at h7;rw[Nat.zero_add];exact⟨h0,h1,h2,h3,h4,h5,h6,h7,h.zO5 i hi,hs i hi,fun hk e=>by have:=h.zO7 i hi hk;have:=h.lt (by omega);omega⟩⟩⟩
theorem yM.turned0{S:Nat->Prop}{wr w':World}{bs L n:Nat}{f:Nat->zd}{kb:Nat->Nat}{kv cv:Nat->Value}(h:yM wr bs L n 0 f kb kv cv)(t:zE S wr w')(hs:∀q,S q->0<n->q≠bs):yM w' bs L n 0 f kb kv cv:=
 ⟨fun j hj=>(h.zO9 j hj).zOr t (fun e=>hs _ e (by omega) rfl),fun j hj=>absurd hj (Nat.not_lt_zero _),fun j hj=>absurd hj (Nat.not_lt_zero _),h.zO4,h.lt⟩
theorem yM.weak{wr:World}{bs L L' n:Nat}{f:Nat->zd}{kb:Nat->Nat}{kv cv:Nat->Value}(h:yM wr bs L n 0 f kb kv cv)(hL:L<=L'):yM wr bs L' n 0 f kb kv cv:=
 ⟨h.zO9,h.zO5,fun j hj=>absurd hj (Nat.not_lt_zero _),h.zO4,fun h0=>Nat.lt_of_lt_of_le (h.lt h0) hL⟩
theorem zAh.values{w:World}{lo hi:Nat}{a:Option Addr}{n c:Nat}{f:Nat->zd}(h:zAh w lo hi (.slice a n c) n f) :
  ∃cv:Nat->Value,(∀i,i<n->zp w lo hi (cv i) (f i).dn (f i).ds (f i).db/\((f i).name.size<=maxLen/\(f i).set.size<=maxLen))/\
   (0<n->∃b off,a=some ⟨b,off,none⟩/\∀j u,(zAv f cv n)[j]?=some u->w.cell? ⟨b,off+j,none⟩=some u):=by
 obtain⟨_,a0,c0,h0,_,g⟩:=h;simp only[Value.slice.injEq,true_and]at h0;obtain⟨rfl,rfl⟩:=h0;by_cases hn:0<n
 ·obtain⟨b,off,ha,cA,dA,hc⟩:=g hn;have bA:∀i,∃x,i<n->zBT w b (off+i*8) lo hi x (f i):=fun i=>by
   by_cases hi:i<n
   ·obtain⟨vd,hs⟩:=hc i hi;exact⟨vd,fun _=>hs⟩
   ·exact⟨.slice none 0 0,fun h=>absurd h hi⟩
  obtain⟨cv,aA⟩:=Classical.axiomOfChoice bA;refine⟨cv,fun i hi=>⟨(aA i hi).zO5,(aA i hi).zO6⟩,fun _=>⟨b,off,ha,fun j u hj=>?_⟩⟩;have eA:j<n*8:=by
   have:=(List.getElem?_eq_some_iff.1 hj).1
   rwa [zAe]at this
  have hs:=aA (j / 8) (by omega);have e:=zAG f cv n (i:=j / 8) (r:=j % 8) (by omega) (by omega);rw[show j / 8*8+j % 8=j by omega,hj]at e;have hr:j % 8<8:=(by omega);have ho:off+j=off+j / 8*8+j % 8:=(by omega);rw[ho];generalize j % 8=r at hr e ⊢;generalize j / 8=q at hs e ⊢;rcases r with _ | _ | _ | _ | _ | _ | _ | _ | r
  ·cases e;exact hs.c0
  ·cases e;exact hs.c1
  ·cases e;exact hs.c2
  ·cases e;exact hs.c3
  ·cases e;exact hs.c4
  ·cases e;exact hs.c5
  ·cases e;exact hs.c6
  ·cases e;exact hs.c7
  ·omega
 ·exact⟨fun _=>.slice none 0 0,fun i hi=>absurd hi (by omega),fun h=>absurd h hn⟩
theorem zDf{w1:World}{base n:Nat}{v:Value}{f:Nat->zd}{cv:Nat->Value}(bA:w1.ownsRow base 111 8 v n (zAv f cv n))(L:Nat)(hL:w1.heap.size<=L):∃bs a c,v = .slice a n c/\n<=c/\(0<n->a=some ⟨bs,0,none⟩/\base<=bs/\bs<w1.heap.size)/\yM w1 bs L n 0 f (fun _=>0) cv cv:=by
 obtain⟨a1,c1,rfl,cA⟩:=zX bA;by_cases h0:0<n
 ·obtain⟨g,cap,hv,_,dA,eA,aA⟩:=qp bA h0;simp only[Value.slice.injEq,true_and]at hv;obtain⟨rfl,rfl⟩:=hv;refine⟨g,_,_,rfl,cA,fun _=>⟨rfl,dA,eA⟩,fun j hj=>?_,fun j hj=>absurd hj (Nat.not_lt_zero _),fun j hj=>absurd hj (Nat.not_lt_zero _),fun i j hi=>absurd hi (Nat.not_lt_zero _),fun _=>by omega⟩;rw[if_neg (Nat.not_lt_zero _)];exact⟨aA _ _ (zAG f cv n hj (r:=0) (by omega)),aA _ _ (zAG f cv n hj (r:=1) (by omega)),aA _ _ (zAG f cv n hj (r:=2) (by omega)),aA _ _ (zAG f cv n hj (r:=3) (by omega)),aA _ _ (zAG f cv n hj (r:=4) (by omega)),aA _ _ (zAG f cv n hj (r:=5) (by omega)),aA _ _ (zAG f cv n hj (r:=6) (by omega)),aA _ _ (zAG f cv n hj (r:=7) (by omega))⟩
 ·exact⟨0,_,_,rfl,cA,fun h=>absurd h h0,fun j hj=>absurd hj (by omega),fun j hj=>absurd hj (Nat.not_lt_zero _),fun j hj=>absurd hj (Nat.not_lt_zero _),fun i j hi=>absurd hi (Nat.not_lt_zero _),fun h=>absurd h h0⟩
def zAt(W:zH):Prop:=(∀i,i<W.sn->(W.zOy i).dn<=1048576)/\∀i,i<W.pn->(W.zOw i).dn<=1048576
theorem zB2{w w':World}{row:Option Nat}(h:w.grownBy w' row):zE (fun k=>row=some k) w w':=⟨h.os,h.tape,h.output,h.size,fun k hk hn=>h.block k hk (fun e=>hn e.symm)⟩
theorem qK.edit{w w':World}{bs off n c:Nat}{kb:Nat->Nat}{kv:Nat->Value}{f:Nat->zu}(ho:qK w bs kb kv (.slice (some ⟨bs,off,none⟩) n c) n f){k:Nat}(hk:k<n){s':zu}{nb:Nat}{nv:Value}
  (ht:zE (fun j=>j=bs) w w') (hx:∀j,j<n->j≠k->∀r,r<6->∀u,zT w bs (off+j*6+r) u->zT w' bs (off+j*6+r) u) (hs:qx w' bs (off+k*6) nb nv s') :
  qK w' bs (fun j=>if j=k then nb else kb j) (fun j=>if j=k then nv else kv j) (.slice (some ⟨bs,off,none⟩) n c) n (fun j=>if j=k then s' else f j):=by
 obtain⟨hm,a,cap,hv,hc,bA⟩:=ho;simp only[Value.slice.injEq,true_and]at hv;obtain⟨rfl,rfl⟩:=hv;refine⟨hm,_,_,rfl,hc,fun h0=>?_⟩;obtain⟨cA,e,aA⟩:=bA h0;simp only[Option.some.injEq,Addr.mk.injEq,true_and,and_true]at e;subst e;refine⟨off,rfl,fun j hj=>?_⟩;by_cases e:j=k
 ·subst e;simp only[if_true];exact hs
 ·simp only[if_neg e];have h:=aA j hj;exact⟨hx j hj e 0 (by omega) _ h.c0,hx j hj e 1 (by omega) _ h.c1,hx j hj e 2 (by omega) _ h.c2,hx j hj e 3 (by omega) _ h.c3,hx j hj e 4 (by omega) _ h.c4,hx j hj e 5 (by omega) _ h.c5,h.zO5.zOr ht (fun h0 e=>h.zO4 h0 e),h.zO6,h.zO4⟩
def zHJ(s:zd)(dv:Value):List Value:=[.int .i64 s.id,.string s.name,.string s.set,.int .i64 s.zO0,.int .i64 s.time,.int .i64 s.rs,.int .i64 s.rb,dv]
theorem zI1{w w':World}{base g cap bs nb n:Nat}{row:Option Nat}{kb:Nat->Nat}{kv:Nat->Value}{v dv:Value}{f:Nat->zd}{s:zd}(ho:qI w bs kb kv v n f)(lA:yF kb n f)
  (hd:ze w' nb dv s.dn s.ds s.db) (pA:s.name.size<=maxLen/\s.set.size<=maxLen) (dA:0<s.dn->(∀i,i<n->0<(f i).dn->kb i≠nb)/\nb≠g)
  (eA:w'.ownsRow base 111 8 (.slice (some ⟨g,0,none⟩) (n+1) cap) (n+1) (zAv f kv n ++ zHJ s dv)) (hg:w.grownBy w' row) (hr:row=none\/(0<n/\row=v.ownBlock)) (mA:(0<n/\v.ownBlock=some g)\/g=w.heap.size) (hm:n+1<=maxLen) :
  qI w' g (fun j=>if j=n then nb else kb j) (fun j=>if j=n then dv else kv j) (.slice (some ⟨g,0,none⟩) (n+1) cap) (n+1) (fun j=>if j=n then s else f j)/\yF (fun j=>if j=n then nb else kb j) (n+1) (fun j=>if j=n then s else f j):=by
 have iA:0<n->v.ownBlock=some bs:=fun h0=>by
  obtain⟨_,a,c,hv,_,hx⟩:=ho;obtain⟨off,ha,_⟩:=hx h0;rw[hv,ha];rfl
 have fA:∀i,i<n->∃o,yA w bs o (kb i) (kv i) (f i):=fun i hi=>by
  obtain⟨_,a,c,hv,_,hx⟩:=ho;obtain⟨off,ha,h⟩:=hx (by omega);exact⟨_,h i hi⟩
 have gA:∀i,i<n->0<(f i).dn->kb i≠g/\row≠some (kb i):=fun i hi h0=>by
  obtain⟨o,h⟩:=fA i hi;have h1:=h.zO4 h0;have h2:=h.deadLt h0;refine⟨?_,?_⟩
  ·rcases mA with⟨h3,h4⟩ | h4
   ·rw[iA h3]at h4;injection h4 with h4;omega
   ·omega
  ·rcases hr with e | ⟨h3,e⟩
   ·rw[e];exact fun h=>by cases h
   ·rw[e,iA h3];exact fun h=>h1 (by injection h with h;exact h.symm)
 obtain⟨g',kA,jA,cA,_,_,aA⟩:=qp eA (by omega);simp only[Value.slice.injEq,Option.some.injEq,Addr.mk.injEq,and_true,true_and]at jA;obtain⟨rfl,rfl⟩:=jA;refine⟨⟨hm,_,_,rfl,cA,fun _=>⟨0,rfl,fun i hi=>?_⟩⟩,fun i j hi hj nA h1 h2=>?_⟩
 ·rw[Nat.zero_add];by_cases e:i=n
  ·subst e;simp only[if_true];have hc:∀r u,(zHJ s dv)[r]?=some u->zT w' g (i*8+r) u:=fun r u h=>aA _ _ (by
    rw[List.getElem?_append_right (by rw[zAe];omega),zAe,show i*8+r - i*8=r by omega];exact h)
   exact⟨hc 0 _ rfl,hc 1 _ rfl,hc 2 _ rfl,hc 3 _ rfl,hc 4 _ rfl,hc 5 _ rfl,hc 6 _ rfl,hc 7 _ rfl,hd,pA,fun h0=>(dA h0).2⟩
  ·simp only[if_neg e];have bA:i<n:=(by omega);obtain⟨o,h⟩:=fA i bA;have hc:∀r,r<8->zT w' g (i*8+r) (cellSnap f kv i r):=fun r oA=>aA _ _ (by
    rw[List.getElem?_append_left (by rw[zAe];omega)];exact zAG f kv n bA oA)
   exact⟨hc 0 (by omega),hc 1 (by omega),hc 2 (by omega),hc 3 (by omega),hc 4 (by omega),hc 5 (by omega),hc 6 (by omega),hc 7 (by omega),h.zO5.zOr (zB2 hg) (fun h0=>(gA i bA h0).2),h.zO6,fun h0=>(gA i bA h0).1⟩
 ·show(if i=n then nb else kb i)≠(if j=n then nb else kb j);by_cases e1:i=n
  ·by_cases e2:j=n
   ·omega
   ·rw[if_pos e1,if_neg e2];simp only[if_pos e1]at h1;simp only[if_neg e2]at h2;exact fun e=>(dA h1).1 j (by omega) h2 e.symm
  ·by_cases e2:j=n
   ·rw[if_neg e1,if_pos e2];simp only[if_neg e1]at h1;simp only[if_pos e2]at h2;exact(dA h2).1 i (by omega) h1
   ·rw[if_neg e1,if_neg e2];simp only[if_neg e1]at h1;simp only[if_neg e2]at h2;exact lA i j (by omega) (by omega) nA h1 h2
def zAF(w:World)(lo hi m top:Nat)(v0 v1 v2 v3:Value)(W:zH):Prop:=∃P Q R,zAT w P Q R v0 v1 v2 v3 W/\∀k,P k\/Q k\/R k->(lo<=k/\k<hi)\/(m<=k/\k<top)
theorem zAF.own{w:World}{lo hi m aA:Nat}{v0 v1 v2 v3:Value}{W:zH}(h:zAF w lo hi m aA v0 v1 v2 v3 W)(h1:lo<=m)(h2:hi<=aA):zf w lo aA v0 v1 v2 v3 W:=by
 obtain⟨P,Q,R,h,hl⟩:=h;exact⟨P,Q,R,h,fun k hk=>by have:=hl k hk;omega⟩
theorem zAF.zOr{S:Nat->Prop}{w w':World}{lo hi m aA:Nat}{v0 v1 v2 v3:Value}{W:zH}(h:zAF w lo hi m aA v0 v1 v2 v3 W)(t:zE S w w')(hs:∀k,S k->k<lo\/(hi<=k/\k<m))(hm:hi<=m)(bA:lo<=m):zAF w' lo hi m aA v0 v1 v2 v3 W:=by
 obtain⟨P,Q,R,h,hl⟩:=h;exact⟨P,Q,R,h.zOr t (fun k hk e=>by have:=hl k hk;have:=hs k e;omega),hl⟩
def zA4(W:zH)(k:Nat)(name set:ByteArray):zd:={id:=W.next,name:=name,set:=set,zO0:=(W.zOy k).zO0,time:=W.time,rs:=(W.zOy k).rs,rb:=(W.zOy k).rb,dn:=(W.zOy k).dn,ds:=(W.zOy k).ds,db:=(W.zOy k).db}
def zCO(W:zH)(k:Nat)(name set:ByteArray):zH:={W with time:=W.time+1,next:=W.next+1,zOy:=fun j=>if j=k then {W.zOy k with zO0:=W.next,dn:=0}else W.zOy j,pn:=W.pn+1,zOw:=fun j=>if j=W.pn then zA4 W k name set else W.zOw j}
theorem zJl{w w1:World}{P Q R:Nat->Prop}{v0 v1 v3:Value}{b2 bA c2 g cap base lo:Nat}{row:Option Nat}{W:zH}{k:Nat}{name set:ByteArray}{dv:Value}{kA:Nat->Nat}{eB:Nat->Value}{eA:Nat}{aA:Nat->Nat}{tA:Nat->Value}
  (hP:qN w P v0 v1 W.zOv) (hS:qK w b2 aA tA (.slice (some ⟨b2,bA,none⟩) W.sn c2) W.sn W.zOy) (aB:qy aA W.sn W.zOy) (fA:∀j,yo b2 aA W.sn W.zOy j->Q j)
  (hZ:qI w eA kA eB v3 W.pn W.zOw) (lB:yF kA W.pn W.zOw) (gA:∀j,zAZ eA kA W.pn W.zOw j->R j)
  (pq:∀j,P j->¬Q j) (pr:∀j,P j->¬R j) (qr:∀j,Q j->¬R j) {hi:Nat} (dA:∀j,P j\/Q j\/R j->lo<=j/\j<hi) (pB:hi<=w.heap.size) (hk:k<W.sn) (hm:W.pn+1<=maxLen) (hn:name.size<=maxLen) (hs:set.size<=maxLen)
  (sA:w1.ownsRow base 111 8 (.slice (some ⟨g,0,none⟩) (W.pn+1) cap) (W.pn+1) (zAv W.zOw eB W.pn ++ zHJ (zA4 W k name set) (tA k))) (hg:w.grownBy w1 row) (hr:row=none\/(0<W.pn/\row=v3.ownBlock)) (bB:(0<W.pn/\v3.ownBlock=some g)\/g=w.heap.size) (rB:lo<=w.heap.size) (oB:g<w1.heap.size) :
  zAF ((w1.setCell ⟨b2,bA+k*6+2,none⟩ (.int .i64 W.next)).setCell ⟨b2,bA+k*6+5,none⟩ (.slice none 0 0)) lo hi w.heap.size w1.heap.size v0 v1 (.slice (some ⟨b2,bA,none⟩) W.sn c2) (.slice (some ⟨g,0,none⟩) (W.pn+1) cap) (zCO W k name set):=by
 have cB:0<W.pn->v3.ownBlock=some eA/\R eA:=fun h0=>by
  refine⟨?_,gA _ (Or.inl ⟨h0,rfl⟩)⟩;obtain⟨_,a,c,hv,_,hx⟩:=hZ;obtain⟨off,ha,_⟩:=hx h0;rw[hv,ha];rfl
 have dB:∀j,row=some j->R j:=fun j e=>by
  rcases hr with h | ⟨h0,h⟩
  ·rw[h]at e;cases e
  ·obtain⟨h1,h2⟩:=cB h0;rw[h,h1]at e;injection e with e;exact e▸h2
 have pA:R g\/g=w.heap.size:=by
  rcases bB with⟨h0,h⟩ | h
  ·obtain⟨h1,h2⟩:=cB h0;rw[h1]at h;injection h with h;exact Or.inl (h▸h2)
  ·exact Or.inr h
 have hT:=zB2 hg;have fB:∀j,P j->¬(row=some j):=fun j hj e=>pr j hj (dB j e)
 have gB:∀j,Q j->¬(row=some j):=fun j hj e=>qr j hj (dB j e)
 have iA:Q b2:=fA _ (Or.inl ⟨by omega,rfl⟩);have vA:=hS.zOr hT (fun j hj=>gB j (fA j hj));have nA:zE (fun j=>j=b2) w1 ((w1.setCell ⟨b2,bA+k*6+2,none⟩ (.int .i64 W.next)).setCell ⟨b2,bA+k*6+5,none⟩ (.slice none 0 0)):=(zE.put w1 b2 _ _).trans (zE.put _ b2 _ _);have cA:qx w1 b2 (bA+k*6) (aA k) (tA k) (W.zOy k):=by
  obtain⟨_,a,c,hv,_,hx⟩:=vA;obtain⟨off,ha,h⟩:=hx (by omega);simp only[Value.slice.injEq,true_and]at hv;obtain⟨rfl,_⟩:=hv;simp only[Option.some.injEq,Addr.mk.injEq,true_and,and_true]at ha;subst ha;exact h k hk
 have jA:0<(W.zOy k).dn->Q (aA k):=fun h0=>fA _ (Or.inr ⟨k,hk,h0,rfl⟩)
 have rA:∀j,Q j->j≠g:=fun j hj e=>by
  rcases pA with h | h
  ·exact qr j hj (e▸h)
  ·have:=(dA j (Or.inr (Or.inl hj))).2;omega
 have mB:∀j,P j->j≠g:=fun j hj e=>by
  rcases pA with h | h
  ·exact pr j hj (e▸h)
  ·have:=(dA j (Or.inl hj)).2;omega
 obtain⟨jB,oA⟩:=zI1 (s:=zA4 W k name set) (nb:=aA k) hZ lB (cA.zO5) ⟨hn,hs⟩ (fun h0=>⟨fun i hi h1 e=>qr _ (jA h0) (gA _ (Or.inr ⟨i,hi,h1,e.symm⟩)),rA _ (jA h0)⟩) sA hg hr bB hm;have kB:=jB.zOr nA (fun j hj e=>by
  rcases hj with⟨_,h⟩ | ⟨i,hi,h0,h⟩
  ·exact rA b2 iA (by rw[<-e];exact h)
  ·by_cases e2:i=W.pn
   ·simp only[if_pos e2]at h h0;exact cA.zO4 h0 (by rw[<-h];exact e)
   ·simp only[if_neg e2]at h h0;exact qr b2 iA (gA _ (Or.inr ⟨i,by omega,h0,by rw[<-e];exact h⟩)))
 have iB:=vA.edit hk (s':={W.zOy k with zO0:=W.next,dn:=0}) (nb:=aA k) (nv:=.slice none 0 0) nA
  (fun j hj sB r hr u hc=>(hc.zOq _ (Or.inr (by omega))).zOq _ (Or.inr (by omega)))
  ⟨(cA.c0.zOq _ (Or.inr (by omega))).zOq _ (Or.inr (by omega)),(cA.c1.zOq _ (Or.inr (by omega))).zOq _ (Or.inr (by omega)),(cA.c2.set _).zOq _ (Or.inr (by omega)),(cA.c3.zOq _ (Or.inr (by omega))).zOq _ (Or.inr (by omega)),(cA.c4.zOq _ (Or.inr (by omega))).zOq _ (Or.inr (by omega)),(cA.c5.zOq _ (Or.inr (by omega))).set _,⟨Nat.zero_le _,none,0,rfl,Nat.le_refl _,fun h=>absurd h (Nat.lt_irrefl _)⟩,cA.zO6,fun h=>absurd h (Nat.lt_irrefl _)⟩
 have tB:=hg.size;have lA:∀j,yo b2 (fun j=>if j=k then aA k else aA j) W.sn (fun j=>if j=k then {W.zOy k with zO0:=W.next,dn:=0}else W.zOy j) j->Q j/\(0<(W.zOy k).dn->j≠aA k):=by
  rintro j (⟨h0,rfl⟩ | ⟨i,hi,h0,rfl⟩)
  ·exact⟨iA,fun h e=>cA.zO4 h e.symm⟩
  ·by_cases e:i=k
   ·simp only[if_pos e]at h0;exact absurd h0 (Nat.lt_irrefl _)
   ·simp only[if_neg e]at h0 ⊢;exact⟨fA _ (Or.inr ⟨i,hi,h0,rfl⟩),fun h e2=>aB i k hi hk e h0 h e2⟩
 have mA:∀j,zAZ g (fun j=>if j=W.pn then aA k else kA j) (W.pn+1) (fun j=>if j=W.pn then zA4 W k name set else W.zOw j) j->R j\/j=g\/(0<(W.zOy k).dn/\j=aA k):=by
  rintro j (⟨h0,rfl⟩ | ⟨i,hi,h0,rfl⟩)
  ·exact Or.inr (Or.inl rfl)
  ·by_cases e:i=W.pn
   ·simp only[if_pos e]at h0 ⊢;exact Or.inr (Or.inr ⟨h0,trivial⟩)
   ·simp only[if_neg e]at h0 ⊢;exact Or.inl (gA _ (Or.inr ⟨i,by omega,h0,rfl⟩))
 refine⟨P,_,_,⟨(hP.zOr hT fB).zOr nA (fun j hj e=>pq j hj (e▸iA)),⟨b2,_,_,iB,?_,fun j hj=>hj⟩,⟨g,_,_,kB,oA,fun j hj=>hj⟩,?_,?_,?_⟩,?_⟩
 ·intro i j hi hj nB h1 h2;show(if i=k then aA k else aA i)≠(if j=k then aA k else aA j);dsimp only[zCO]at h1 h2;by_cases e1:i=k
  ·simp only[if_pos e1]at h1;exact absurd h1 (Nat.lt_irrefl _)
  ·by_cases e2:j=k
   ·simp only[if_pos e2]at h2;exact absurd h2 (Nat.lt_irrefl _)
   ·simp only[if_neg e1]at h1;simp only[if_neg e2]at h2;rw[if_neg e1,if_neg e2];exact aB i j hi hj nB h1 h2
 ·exact fun j hj h=>pq j hj (lA j h).1
 ·intro j hj h;rcases mA j h with h | h | ⟨h0,h⟩
  ·exact pr j hj h
  ·exact mB j hj h
  ·exact pq j hj (h▸jA h0)
 ·intro j hj h;obtain⟨h1,h2⟩:=lA j hj;rcases mA j h with h | h | ⟨h0,h⟩
  ·exact qr j h1 h
  ·exact rA j h1 h
  ·exact h2 h0 h
 ·rintro j (h | h | h)
  ·have:=dA j (Or.inl h);omega
  ·have:=dA j (Or.inr (Or.inl (lA j h).1));omega
  ·rcases mA j h with h | h | ⟨h0,h⟩
   ·have:=dA j (Or.inr (Or.inr h));omega
   ·rcases pA with h3 | h3
    ·have:=dA g (Or.inr (Or.inr h3));omega
    ·omega
   ·have:=dA _ (Or.inr (Or.inl (jA h0)));omega
def zGT(i:Nat)(c:Int):Prop:=(97<=c/\c<=122)\/(i≠0/\((48<=c/\c<=57)\/c=95))
def qV(s:ByteArray):Prop:=1<=s.size/\s.size<=20/\∀j,(h:j<s.size)->zGT j (s[j].toNat:Int)
theorem zOd{s:ByteArray}{k:Nat}(cA:k<s.size)(aA:∀j,(h:j<k)->(h':j<s.size)->zGT j (s[j].toNat:Int))(bA:zGT k (s[k].toNat:Int)) :
  ∃m:Nat,m<=s.size/\Value.int .i64 ((k:Int)+1) = .int .i64 (m:Int)/\∀j,(h:j<m)->(h':j<s.size)->zGT j (s[j].toNat:Int):=by
 refine⟨k+1,by omega,by simp,fun j h h'=>?_⟩;by_cases e:j=k
 ·subst e;exact bA
 ·exact aA j (by omega) h'
theorem zOc{s:ByteArray}(bA:0<s.size)(aA:zGT 0 (s[0].toNat:Int)) :
  ∃m:Nat,m<=s.size/\Value.int .i64 1 = .int .i64 (m:Int)/\∀j,(h:j<m)->(h':j<s.size)->zGT j (s[j].toNat:Int):=by
 refine⟨1,by omega,by simp,fun j h h'=>?_⟩;obtain rfl:j=0:=by omega
 exact aA
theorem zAl(s:ByteArray)(w:World)(hs:s.size<=maxLen) :
  Calls Tryz.prog 43 #[.string s] w fun e w'=>zK (qV s) e/\w'=w:=by
 unfold maxLen at hs;by_cases h1:s.size<1
 ·have dA:(s.size:Int)<1:=(by omega);go_enter Tryz.func43,Tryz.ntmps43;go_wp2;go_ret;exact⟨⟨false,rfl,by simp[qV];omega⟩,rfl⟩
 by_cases h2:20<s.size
 ·have eA:(20:Int)<(s.size:Int):=(by omega);have dA:¬(s.size:Int)<1:=(by omega);go_enter Tryz.func43,Tryz.ntmps43;go_wp2;go_ret;exact⟨⟨false,rfl,by simp[qV];omega⟩,rfl⟩
 have dA:¬(s.size:Int)<1:=by omega
 have eA:¬(20:Int)<(s.size:Int):=by omega
 go_enter Tryz.func43,Tryz.ntmps43;go_wp2
 go_loop [3] (fun i=>∃k:Nat,k<=s.size/\i = .int .i64 k/\∀j,(h:j<k)->(h':j<s.size)->zGT j (s[j].toNat:Int)) (fun i=>s.size - (intOf i).toNat)
 case atStart=>exact⟨0,Nat.zero_le _,rfl,fun j h=>absurd h (Nat.not_lt_zero _)⟩
 case round=>
  obtain⟨k,hk,rfl,bA⟩:=hrel;have aA:Hid (∀j,(h:j<k)->(h':j<s.size)->zGT j (s[j].toNat:Int)):=bA;clear bA;by_cases cA:k<s.size
  ·by_cases fA:k=0
   all_goals try subst fA
   all_goals go_wp2
   all_goals try (go_ret;refine⟨⟨false,rfl,?_⟩,rfl⟩;simp only[Bool.false_eq_true,false_iff];intro h;have h3:=h.2.2 _ cA;unfold zGT at h3;first | omega | grind)
   all_goals
    go_round
    case measure=>simp[intOf];omega
    case rel=>first | exact zOc cA (by unfold zGT;first | omega | grind) | exact zOd cA aA.out (by unfold zGT;first | omega | grind)
  ·go_wp2;go_ret;refine⟨⟨true,rfl,?_⟩,rfl⟩;simp only[true_iff];exact⟨by omega,by omega,fun j h=>aA.out j (by omega) h⟩
def zAN(a b:ByteArray):Prop:=Op.bytesLess a.toList b.toList=true
theorem zI8:∀x y:List UInt8,Op.bytesLess x y=true\/x=y\/Op.bytesLess y x=true
 | [],[]=>Or.inr (Or.inl rfl)
 | [],b :: y=>Or.inl (by simp[Op.bytesLess])
 | a :: x,[]=>Or.inr (Or.inr (by simp[Op.bytesLess]))
 | a :: x,b :: y=>by
  simp only[Op.bytesLess,Bool.or_eq_true,decide_eq_true_eq,Bool.and_eq_true,beq_iff_eq,List.cons.injEq];by_cases h:a=b
  ·subst h;rcases zI8 x y with h | h | h
   ·exact Or.inl (Or.inr ⟨rfl,h⟩)
   ·exact Or.inr (Or.inl ⟨rfl,h⟩)
   ·exact Or.inr (Or.inr (Or.inr ⟨rfl,h⟩))
  ·have:a<b\/b<a:=by
    have aA:a.toNat≠b.toNat:=fun e=>h (UInt8.toNat_inj.1 e)
    rw[UInt8.lt_iff_toNat_lt,UInt8.lt_iff_toNat_lt];omega
   rcases this with h | h
   ·exact Or.inl (Or.inl h)
   ·exact Or.inr (Or.inr (Or.inl h))
theorem zHp:∀x:List UInt8,Op.bytesLess x x=false
 | []=>rfl
 | a :: x=>by simp[Op.bytesLess,zHp x]
theorem zM0{a b:ByteArray}(h:zAN a b):a≠b:=fun e=>by
 subst e;unfold zAN at h;rw[zHp]at h;exact absurd h (by simp)
theorem zI9:∀x y z:List UInt8,Op.bytesLess x y=true->Op.bytesLess y z=true->Op.bytesLess x z=true
 | _,[],_,h,_=>by cases ‹List UInt8›<;>simp[Op.bytesLess]at h
 | [],_ :: _,[],_,h=>by simp[Op.bytesLess]at h
 | [],_ :: _,_ :: _,_,_=>by simp[Op.bytesLess]
 | _ :: _,_ :: _,[],_,h=>by simp[Op.bytesLess]at h
 | a :: x,b :: y,c :: z,h,h'=>by
  simp only[Op.bytesLess,Bool.or_eq_true,decide_eq_true_eq,Bool.and_eq_true,beq_iff_eq,UInt8.lt_iff_toNat_lt]at h h' ⊢;rcases h with h | ⟨h,h1⟩
  ·rcases h' with h' | ⟨h',h2⟩
   ·left;omega
   ·subst h';left;exact h
  ·subst h;rcases h' with h' | ⟨h',h2⟩
   ·left;exact h'
   ·subst h';right;exact⟨rfl,zI9 x y z h1 h2⟩
theorem zDq{a b c:ByteArray}(h:zAN a b)(h':zAN b c):zAN a c:=zI9 _ _ _ h h'
end Go.Proofs.YtgabgheflgjgiaaGreatDoor
