/- A part of the proof. -/
import Derived.Test.YtbplmbafodlboaaGreatDoorF15
import Derived.WideKeyPair
import Derived.DeepKeys4
set_option linter.unusedVariables false
set_option maxRecDepth 20000
set_option maxHeartbeats 4000000
namespace Go.Proofs.YtbplmbafodlboaaGreatDoor
open Go.RowKit
def zTG(f:Nat->zAJ)(cv:Nat->Value)(i r:Nat):Value:=
 match r with
 | 0=>.string (f i).name
 | 1=>.int .i64 (f i).origin
 | 2=>.int .i64 (f i).zcD
 | 3=>.int .i64 (f i).rs
 | 4=>.int .i64 (f i).rb
 | _=>cv i
def zGv(f:Nat->zAJ)(cv:Nat->Value)(n:Nat):List Value:=(List.range (n*6)).map fun j=>zTG f cv (j / 6) (j % 6)
theorem zHV(f:Nat->zAJ)(cv:Nat->Value)(n:Nat):(zGv f cv n).length=n*6:=by simp[zGv]
theorem zEr(f:Nat->zAJ)(cv:Nat->Value)(n:Nat){i r:Nat}(hi:i<n)(hr:r<6):(zGv f cv n)[i*6+r]?=some (zTG f cv i r):=by
 have h:i*6+r<n*6:=by omega
 have h1:(i*6+r) / 6=i:=by omega
 have h2:(i*6+r) % 6=r:=by omega
 simp[zGv,h,h1,h2]
theorem zJs(f:Nat->zAJ)(cv:Nat->Value)(n:Nat)(h:∀i,i<n->(cv i).oneCell'=true):∀u∈zGv f cv n,u.oneCell'=true:=by
 intro u hu;unfold zGv at hu;obtain⟨j,hj,rfl⟩:=List.mem_map.1 hu;have aA:=List.mem_range.1 hj;have hi:j / 6<n:=by omega
 have hr:j % 6<6:=by omega
 generalize j % 6=r at hr ⊢;rcases r with _ | _ | _ | _ | _ | _<;>first | rfl | exact h _ hi
def zCy(w:World)(b o:Nat)(s:zAJ)(vd:Value):Prop:=zg w b o (.string s.name)/\zg w b (o+1) (.int .i64 s.origin)/\zg w b (o+2) (.int .i64 s.zcD)/\zg w b (o+3) (.int .i64 s.rs)/\zg w b (o+4) (.int .i64 s.rb)/\zg w b (o+5) vd
theorem zCy.zb8{S:Nat->Prop}{w w':World}{b o:Nat}{s:zAJ}{vd:Value}(h:zCy w b o s vd)(t:zJ S w w')(hs:¬S b):zCy w' b o s vd:=by
 obtain⟨h0,h1,h2,h3,h4,h5⟩:=h;exact⟨h0.zb8 t hs,h1.zb8 t hs,h2.zb8 t hs,h3.zb8 t hs,h4.zb8 t hs,h5.zb8 t hs⟩
theorem zCy.zb7{w w':World}{b o:Nat}{s:zAJ}{vd:Value}(h:zCy w b o s vd)(t:Below w.heap.size w w'):zCy w' b o s vd:=
 h.zb8 (zJ.of_below (S:=fun _=>False) t) (fun h=>h)
theorem zCy.set{w:World}{b o:Nat}{s:zAJ}{vd:Value}(h:zCy w b o s vd)(u:Value):zCy (w.setCell ⟨b,o+5,none⟩ u) b o s u:=by
 obtain⟨h0,h1,h2,h3,h4,h5⟩:=h;exact⟨h0.other _ (Or.inr (by omega)),h1.other _ (Or.inr (by omega)),h2.other _ (Or.inr (by omega)),h3.other _ (Or.inr (by omega)),h4.other _ (Or.inr (by omega)),h5.set _⟩
theorem zCy.other{w:World}{b o o':Nat}{s:zAJ}{vd:Value}(h:zCy w b o s vd)(u:Value)(aA:∀r,r<6->o'≠o+r):zCy (w.setCell ⟨b,o',none⟩ u) b o s vd:=by
 obtain⟨h0,h1,h2,h3,h4,h5⟩:=h;exact⟨h0.other _ (Or.inr (aA 0 (by omega))),h1.other _ (Or.inr (aA 1 (by omega))),h2.other _ (Or.inr (aA 2 (by omega))),h3.other _ (Or.inr (aA 3 (by omega))),h4.other _ (Or.inr (aA 4 (by omega))),h5.other _ (Or.inr (aA 5 (by omega)))⟩
structure zBO (wr:World) (bs L n k:Nat) (f:Nat->zAJ) (kb:Nat->Nat) (kv cv:Nat->Value):Prop where
 zcJ:∀j,j<n->zCy wr bs (j*6) (f j) (if j<k then kv j else cv j)
 dead:∀j,j<k->zAQ wr (kb j) (kv j) (f j).dn (f j).ds (f j).db
 zcH:∀j,j<k->0<(f j).dn->L<=kb j/\kb j<wr.heap.size
 zcI:zNp kb k f
 lt:0<n->bs<L
theorem zBO.zb7{wr w':World}{bs L n k:Nat}{f:Nat->zAJ}{kb:Nat->Nat}{kv cv:Nat->Value}(h:zBO wr bs L n k f kb kv cv)(t:Below wr.heap.size wr w'):zBO w' bs L n k f kb kv cv:=
 ⟨fun j hj=>(h.zcJ j hj).zb7 t,fun j hj=>(h.dead j hj).zb7 t,fun j hj h0=>by have:=h.zcH j hj h0;have:=t.size;omega,h.zcI,h.lt⟩
theorem zBO.zb8{S:Nat->Prop}{wr w':World}{bs L n k:Nat}{f:Nat->zAJ}{kb:Nat->Nat}{kv cv:Nat->Value}(h:zBO wr bs L n k f kb kv cv)(t:zJ S wr w')(hs:∀q,S q->(0<n->q≠bs)/\q<L)(hk:k<=n):zBO w' bs L n k f kb kv cv:=
 ⟨fun j hj=>(h.zcJ j hj).zb8 t (fun e=>(hs _ e).1 (by omega) rfl),fun j hj=>(h.dead j hj).zb8 t (fun h0 e=>by have:=h.zcH j hj h0;have:=(hs _ e).2;omega),fun j hj h0=>by have:=h.zcH j hj h0;have:=t.size;omega,h.zcI,h.lt⟩
theorem zBO.next{wr w1:World}{bs L n k b:Nat}{f:Nat->zAJ}{kb:Nat->Nat}{kv cv:Nat->Value}{v:Value}(h:zBO wr bs L n k f kb kv cv)(hk:k<n)(hL:L<=wr.heap.size)(t:Below wr.heap.size wr w1)
  (hp:zAQ w1 b v (f k).dn (f k).ds (f k).db) (hb:0<(f k).dn->wr.heap.size<=b/\b<w1.heap.size) :
  zBO (w1.setCell ⟨bs,k*6+5,none⟩ v) bs L n (k+1) f (fun j=>if j=k then b else kb j) (fun j=>if j=k then v else kv j) cv:=by
 have h':=h.zb7 t;have bA:=h.lt (by omega);refine⟨fun j hj=>?_,fun j hj=>?_,fun j hj h0=>?_,fun i j hi hj aA h1 h2=>?_,h.lt⟩
 ·have hh:=h'.zcJ j hj;by_cases e:j=k
  ·subst e;rw[if_pos (by omega),if_pos rfl];exact hh.set v
  ·rw[if_neg e];have es:(if j<k+1 then kv j else cv j)=if j<k then kv j else cv j:=by
    by_cases e2:j<k
    ·rw[if_pos e2,if_pos (by omega)]
    ·rw[if_neg e2,if_neg (by omega)]
   rw[es];exact hh.other v (fun r hr=>by omega)
 ·by_cases e:j=k
  ·subst e;simp only[if_true];exact hp.zb8 (zJ.put _ _ _ _) (fun h0 hx=>by have:=hb h0;omega)
  ·simp only[if_neg e];exact(h'.dead j (by omega)).zb8 (zJ.put _ _ _ _) (fun h0 hx=>by have:=h'.zcH j (by omega) h0;omega)
 ·simp only[World.size_setCell];by_cases e:j=k
  ·subst e;rw[if_pos rfl];have:=hb h0;omega
  ·rw[if_neg e];have:=h'.zcH j (by omega) h0;omega
 ·show(if i=k then b else kb i)≠(if j=k then b else kb j);by_cases e1:i=k
  ·by_cases e2:j=k
   ·omega
   ·rw[if_pos e1,if_neg e2];subst e1;have:=hb h1;have:=h.zcH j (by omega) h2;omega
  ·by_cases e2:j=k
   ·rw[if_neg e1,if_pos e2];subst e2;have:=hb h2;have:=h.zcH i (by omega) h1;omega
   ·rw[if_neg e1,if_neg e2];exact h.zcI i j (by omega) (by omega) aA h1 h2
theorem zBO.own{wr:World}{bs L n c:Nat}{f:Nat->zAJ}{kb:Nat->Nat}{kv cv:Nat->Value}{a:Option Addr}(h:zBO wr bs L n n f kb kv cv)(hm:n<=maxLen)(ha:0<n->a=some ⟨bs,0,none⟩)(hc:n<=c)(hs:∀i,i<n->(f i).name.size<=maxLen):zD4 wr bs kb kv (.slice a n c) n f:=
 ⟨hm,a,c,rfl,hc,fun h0=>⟨0,ha h0,fun i hi=>by
  obtain⟨h0,h1,h2,h3,h4,h5⟩:=h.zcJ i hi;rw[if_pos hi]at h5;rw[Nat.zero_add];exact⟨h0,h1,h2,h3,h4,h5,h.dead i hi,hs i hi,fun hk e=>by have:=h.zcH i hi hk;have:=h.lt (by omega);omega⟩⟩⟩
theorem zBO.turned0{S:Nat->Prop}{wr w':World}{bs L n:Nat}{f:Nat->zAJ}{kb:Nat->Nat}{kv cv:Nat->Value}(h:zBO wr bs L n 0 f kb kv cv)(t:zJ S wr w')(hs:∀q,S q->0<n->q≠bs):zBO w' bs L n 0 f kb kv cv:=
 ⟨fun j hj=>(h.zcJ j hj).zb8 t (fun e=>hs _ e (by omega) rfl),fun j hj=>absurd hj (Nat.not_lt_zero _),fun j hj=>absurd hj (Nat.not_lt_zero _),h.zcI,h.lt⟩
theorem zBO.weak{wr:World}{bs L L' n:Nat}{f:Nat->zAJ}{kb:Nat->Nat}{kv cv:Nat->Value}(h:zBO wr bs L n 0 f kb kv cv)(hL:L<=L'):zBO wr bs L' n 0 f kb kv cv:=
 ⟨h.zcJ,h.dead,fun j hj=>absurd hj (Nat.not_lt_zero _),h.zcI,fun h0=>Nat.lt_of_lt_of_le (h.lt h0) hL⟩
theorem zCd.values{w:World}{lo hi:Nat}{a:Option Addr}{n c:Nat}{f:Nat->zAJ}(h:zCd w lo hi (.slice a n c) n f) :
  ∃cv:Nat->Value,(∀i,i<n->qi w lo hi (cv i) (f i).dn (f i).ds (f i).db/\(f i).name.size<=maxLen)/\
   (0<n->∃b off,a=some ⟨b,off,none⟩/\∀j u,(zGv f cv n)[j]?=some u->w.cell? ⟨b,off+j,none⟩=some u):=by
 obtain⟨_,a0,c0,h0,_,g⟩:=h;simp only[Value.slice.injEq,true_and]at h0;obtain⟨rfl,rfl⟩:=h0;by_cases hn:0<n
 ·obtain⟨b,off,ha,cA,dA,hc⟩:=g hn;have bA:∀i,∃x,i<n->zDV w b (off+i*6) lo hi x (f i):=fun i=>by
   by_cases hi:i<n
   ·obtain⟨vd,hs⟩:=hc i hi;exact⟨vd,fun _=>hs⟩
   ·exact⟨.slice none 0 0,fun h=>absurd h hi⟩
  obtain⟨cv,aA⟩:=Classical.axiomOfChoice bA;refine⟨cv,fun i hi=>⟨(aA i hi).dead,(aA i hi).zcG⟩,fun _=>⟨b,off,ha,fun j u hj=>?_⟩⟩;have eA:j<n*6:=by
   have:=(List.getElem?_eq_some_iff.1 hj).1
   rwa [zHV]at this
  have hs:=aA (j / 6) (by omega);have e:=zEr f cv n (i:=j / 6) (r:=j % 6) (by omega) (by omega);rw[show j / 6*6+j % 6=j by omega,hj]at e;have hr:j % 6<6:=(by omega);have ho:off+j=off+j / 6*6+j % 6:=(by omega);rw[ho];generalize j % 6=r at hr e ⊢;generalize j / 6=q at hs e ⊢;rcases r with _ | _ | _ | _ | _ | _ | r
  ·cases e;exact hs.c0
  ·cases e;exact hs.c1
  ·cases e;exact hs.c2
  ·cases e;exact hs.c3
  ·cases e;exact hs.c4
  ·cases e;exact hs.c5
  ·omega
 ·exact⟨fun _=>.slice none 0 0,fun i hi=>absurd hi (by omega),fun h=>absurd h hn⟩
theorem zFX{w1:World}{base n:Nat}{v:Value}{f:Nat->zAJ}{cv:Nat->Value}(bA:w1.ownsRow base 72 6 v n (zGv f cv n))(L:Nat)(hL:w1.heap.size<=L):∃bs a c,v = .slice a n c/\n<=c/\(0<n->a=some ⟨bs,0,none⟩/\base<=bs/\bs<w1.heap.size)/\zBO w1 bs L n 0 f (fun _=>0) cv cv:=by
 obtain⟨a1,c1,rfl,cA⟩:=qf bA;by_cases h0:0<n
 ·obtain⟨g,cap,hv,_,dA,eA,aA⟩:=zC4 bA h0;simp only[Value.slice.injEq,true_and]at hv;obtain⟨rfl,rfl⟩:=hv;refine⟨g,_,_,rfl,cA,fun _=>⟨rfl,dA,eA⟩,fun j hj=>?_,fun j hj=>absurd hj (Nat.not_lt_zero _),fun j hj=>absurd hj (Nat.not_lt_zero _),fun i j hi=>absurd hi (Nat.not_lt_zero _),fun _=>by omega⟩;rw[if_neg (Nat.not_lt_zero _)];exact⟨aA _ _ (zEr f cv n hj (r:=0) (by omega)),aA _ _ (zEr f cv n hj (r:=1) (by omega)),aA _ _ (zEr f cv n hj (r:=2) (by omega)),aA _ _ (zEr f cv n hj (r:=3) (by omega)),aA _ _ (zEr f cv n hj (r:=4) (by omega)),aA _ _ (zEr f cv n hj (r:=5) (by omega))⟩
 ·exact⟨0,_,_,rfl,cA,fun h=>absurd h h0,fun j hj=>absurd hj (by omega),fun j hj=>absurd hj (Nat.not_lt_zero _),fun j hj=>absurd hj (Nat.not_lt_zero _),fun i j hi=>absurd hi (Nat.not_lt_zero _),fun h=>absurd h h0⟩
def zQH(f:Nat->zu)(cv:Nat->Value)(i r:Nat):Value:=
 match r with
 | 0=>.int .i64 (f i).id
 | 1=>.string (f i).name
 | 2=>.string (f i).set
 | 3=>.int .i64 (f i).zcD
 | 4=>.int .i64 (f i).time
 | 5=>.int .i64 (f i).rs
 | 6=>.int .i64 (f i).rb
 | _=>cv i
def zEQ(f:Nat->zu)(cv:Nat->Value)(n:Nat):List Value:=(List.range (n*8)).map fun j=>zQH f cv (j / 8) (j % 8)
theorem zEs(f:Nat->zu)(cv:Nat->Value)(n:Nat):(zEQ f cv n).length=n*8:=by simp[zEQ]
theorem zC0(f:Nat->zu)(cv:Nat->Value)(n:Nat){i r:Nat}(hi:i<n)(hr:r<8):(zEQ f cv n)[i*8+r]?=some (zQH f cv i r):=by
 have h:i*8+r<n*8:=by omega
 have h1:(i*8+r) / 8=i:=by omega
 have h2:(i*8+r) % 8=r:=by omega
 simp[zEQ,h,h1,h2]
theorem zGF(f:Nat->zu)(cv:Nat->Value)(n:Nat)(h:∀i,i<n->(cv i).oneCell'=true):∀u∈zEQ f cv n,u.oneCell'=true:=by
 intro u hu;unfold zEQ at hu;obtain⟨j,hj,rfl⟩:=List.mem_map.1 hu;have aA:=List.mem_range.1 hj;have hi:j / 8<n:=by omega
 have hr:j % 8<8:=by omega
 generalize j % 8=r at hr ⊢;rcases r with _ | _ | _ | _ | _ | _ | _ | _<;>first | rfl | exact h _ hi
def zCF(w:World)(b o:Nat)(s:zu)(vd:Value):Prop:=zg w b o (.int .i64 s.id)/\zg w b (o+1) (.string s.name)/\zg w b (o+2) (.string s.set)/\zg w b (o+3) (.int .i64 s.zcD)/\zg w b (o+4) (.int .i64 s.time)/\zg w b (o+5) (.int .i64 s.rs)/\zg w b (o+6) (.int .i64 s.rb)/\zg w b (o+7) vd
theorem zCF.zb8{S:Nat->Prop}{w w':World}{b o:Nat}{s:zu}{vd:Value}(h:zCF w b o s vd)(t:zJ S w w')(hs:¬S b):zCF w' b o s vd:=by
 obtain⟨h0,h1,h2,h3,h4,h5,h6,h7⟩:=h;exact⟨h0.zb8 t hs,h1.zb8 t hs,h2.zb8 t hs,h3.zb8 t hs,h4.zb8 t hs,h5.zb8 t hs,h6.zb8 t hs,h7.zb8 t hs⟩
theorem zCF.zb7{w w':World}{b o:Nat}{s:zu}{vd:Value}(h:zCF w b o s vd)(t:Below w.heap.size w w'):zCF w' b o s vd:=
 h.zb8 (zJ.of_below (S:=fun _=>False) t) (fun h=>h)
theorem zCF.set{w:World}{b o:Nat}{s:zu}{vd:Value}(h:zCF w b o s vd)(u:Value):zCF (w.setCell ⟨b,o+7,none⟩ u) b o s u:=by
 obtain⟨h0,h1,h2,h3,h4,h5,h6,h7⟩:=h;exact⟨h0.other _ (Or.inr (by omega)),h1.other _ (Or.inr (by omega)),h2.other _ (Or.inr (by omega)),h3.other _ (Or.inr (by omega)),h4.other _ (Or.inr (by omega)),h5.other _ (Or.inr (by omega)),h6.other _ (Or.inr (by omega)),h7.set _⟩
theorem zCF.other{w:World}{b o o':Nat}{s:zu}{vd:Value}(h:zCF w b o s vd)(u:Value)(aA:∀r,r<8->o'≠o+r):zCF (w.setCell ⟨b,o',none⟩ u) b o s vd:=by
 obtain⟨h0,h1,h2,h3,h4,h5,h6,h7⟩:=h;exact⟨h0.other _ (Or.inr (aA 0 (by omega))),h1.other _ (Or.inr (aA 1 (by omega))),h2.other _ (Or.inr (aA 2 (by omega))),h3.other _ (Or.inr (aA 3 (by omega))),h4.other _ (Or.inr (aA 4 (by omega))),h5.other _ (Or.inr (aA 5 (by omega))),h6.other _ (Or.inr (aA 6 (by omega))),h7.other _ (Or.inr (aA 7 (by omega)))⟩
structure zAh (wr:World) (bs L n k:Nat) (f:Nat->zu) (kb:Nat->Nat) (kv cv:Nat->Value):Prop where
 zcJ:∀j,j<n->zCF wr bs (j*8) (f j) (if j<k then kv j else cv j)
 dead:∀j,j<k->zAQ wr (kb j) (kv j) (f j).dn (f j).ds (f j).db
 zcH:∀j,j<k->0<(f j).dn->L<=kb j/\kb j<wr.heap.size
 zcI:zLT kb k f
 lt:0<n->bs<L
theorem zAh.zb7{wr w':World}{bs L n k:Nat}{f:Nat->zu}{kb:Nat->Nat}{kv cv:Nat->Value}(h:zAh wr bs L n k f kb kv cv)(t:Below wr.heap.size wr w'):zAh w' bs L n k f kb kv cv:=
 ⟨fun j hj=>(h.zcJ j hj).zb7 t,fun j hj=>(h.dead j hj).zb7 t,fun j hj h0=>by have:=h.zcH j hj h0;have:=t.size;omega,h.zcI,h.lt⟩
theorem zAh.zb8{S:Nat->Prop}{wr w':World}{bs L n k:Nat}{f:Nat->zu}{kb:Nat->Nat}{kv cv:Nat->Value}(h:zAh wr bs L n k f kb kv cv)(t:zJ S wr w')(hs:∀q,S q->(0<n->q≠bs)/\q<L)(hk:k<=n):zAh w' bs L n k f kb kv cv:=
 ⟨fun j hj=>(h.zcJ j hj).zb8 t (fun e=>(hs _ e).1 (by omega) rfl),fun j hj=>(h.dead j hj).zb8 t (fun h0 e=>by have:=h.zcH j hj h0;have:=(hs _ e).2;omega),fun j hj h0=>by have:=h.zcH j hj h0;have:=t.size;omega,h.zcI,h.lt⟩
theorem zAh.next{wr w1:World}{bs L n k b:Nat}{f:Nat->zu}{kb:Nat->Nat}{kv cv:Nat->Value}{v:Value}(h:zAh wr bs L n k f kb kv cv)(hk:k<n)(hL:L<=wr.heap.size)(t:Below wr.heap.size wr w1)
  (hp:zAQ w1 b v (f k).dn (f k).ds (f k).db) (hb:0<(f k).dn->wr.heap.size<=b/\b<w1.heap.size) :
  zAh (w1.setCell ⟨bs,k*8+7,none⟩ v) bs L n (k+1) f (fun j=>if j=k then b else kb j) (fun j=>if j=k then v else kv j) cv:=by
 have h':=h.zb7 t;have bA:=h.lt (by omega);refine⟨fun j hj=>?_,fun j hj=>?_,fun j hj h0=>?_,fun i j hi hj aA h1 h2=>?_,h.lt⟩
 ·have hh:=h'.zcJ j hj;by_cases e:j=k
  ·subst e;rw[if_pos (by omega),if_pos rfl];exact hh.set v
  ·rw[if_neg e];have es:(if j<k+1 then kv j else cv j)=if j<k then kv j else cv j:=by
    by_cases e2:j<k
    ·rw[if_pos e2,if_pos (by omega)]
    ·rw[if_neg e2,if_neg (by omega)]
   rw[es];exact hh.other v (fun r hr=>by omega)
 ·by_cases e:j=k
  ·subst e;simp only[if_true];exact hp.zb8 (zJ.put _ _ _ _) (fun h0 hx=>by have:=hb h0;omega)
  ·simp only[if_neg e];exact(h'.dead j (by omega)).zb8 (zJ.put _ _ _ _) (fun h0 hx=>by have:=h'.zcH j (by omega) h0;omega)
 ·simp only[World.size_setCell];by_cases e:j=k
  ·subst e;rw[if_pos rfl];have:=hb h0;omega
  ·rw[if_neg e];have:=h'.zcH j (by omega) h0;omega
 ·show(if i=k then b else kb i)≠(if j=k then b else kb j);by_cases e1:i=k
  ·by_cases e2:j=k
   ·omega
   ·rw[if_pos e1,if_neg e2];subst e1;have:=hb h1;have:=h.zcH j (by omega) h2;omega
  ·by_cases e2:j=k
   ·rw[if_neg e1,if_pos e2];subst e2;have:=hb h2;have:=h.zcH i (by omega) h1;omega
   ·rw[if_neg e1,if_neg e2];exact h.zcI i j (by omega) (by omega) aA h1 h2
theorem zAh.own{wr:World}{bs L n c:Nat}{f:Nat->zu}{kb:Nat->Nat}{kv cv:Nat->Value}{a:Option Addr}(h:zAh wr bs L n n f kb kv cv)(hm:n<=maxLen)(ha:0<n->a=some ⟨bs,0,none⟩)(hc:n<=c)(hs:∀i,i<n->((f i).name.size<=maxLen/\(f i).set.size<=maxLen)):zC9 wr bs kb kv (.slice a n c) n f:=
 ⟨hm,a,c,rfl,hc,fun h0=>⟨0,ha h0,fun i hi=>by
  obtain⟨h0,h1,h2,h3,h4,h5,h6,h7⟩:=h.zcJ i hi;rw[if_pos hi]at h7;rw[Nat.zero_add];exact⟨h0,h1,h2,h3,h4,h5,h6,h7,h.dead i hi,hs i hi,fun hk e=>by have:=h.zcH i hi hk;have:=h.lt (by omega);omega⟩⟩⟩
theorem zAh.turned0{S:Nat->Prop}{wr w':World}{bs L n:Nat}{f:Nat->zu}{kb:Nat->Nat}{kv cv:Nat->Value}(h:zAh wr bs L n 0 f kb kv cv)(t:zJ S wr w')(hs:∀q,S q->0<n->q≠bs):zAh w' bs L n 0 f kb kv cv:=
 ⟨fun j hj=>(h.zcJ j hj).zb8 t (fun e=>hs _ e (by omega) rfl),fun j hj=>absurd hj (Nat.not_lt_zero _),fun j hj=>absurd hj (Nat.not_lt_zero _),h.zcI,h.lt⟩
theorem zAh.weak{wr:World}{bs L L' n:Nat}{f:Nat->zu}{kb:Nat->Nat}{kv cv:Nat->Value}(h:zAh wr bs L n 0 f kb kv cv)(hL:L<=L'):zAh wr bs L' n 0 f kb kv cv:=
 ⟨h.zcJ,h.dead,fun j hj=>absurd hj (Nat.not_lt_zero _),h.zcI,fun h0=>Nat.lt_of_lt_of_le (h.lt h0) hL⟩
theorem zBg.values{w:World}{lo hi:Nat}{a:Option Addr}{n c:Nat}{f:Nat->zu}(h:zBg w lo hi (.slice a n c) n f) :
  ∃cv:Nat->Value,(∀i,i<n->qi w lo hi (cv i) (f i).dn (f i).ds (f i).db/\((f i).name.size<=maxLen/\(f i).set.size<=maxLen))/\
   (0<n->∃b off,a=some ⟨b,off,none⟩/\∀j u,(zEQ f cv n)[j]?=some u->w.cell? ⟨b,off+j,none⟩=some u):=by
 obtain⟨_,a0,c0,h0,_,g⟩:=h;simp only[Value.slice.injEq,true_and]at h0;obtain⟨rfl,rfl⟩:=h0;by_cases hn:0<n
 ·obtain⟨b,off,ha,cA,dA,hc⟩:=g hn;have bA:∀i,∃x,i<n->zCz w b (off+i*8) lo hi x (f i):=fun i=>by
   by_cases hi:i<n
   ·obtain⟨vd,hs⟩:=hc i hi;exact⟨vd,fun _=>hs⟩
   ·exact⟨.slice none 0 0,fun h=>absurd h hi⟩
  obtain⟨cv,aA⟩:=Classical.axiomOfChoice bA;refine⟨cv,fun i hi=>⟨(aA i hi).dead,(aA i hi).zcG⟩,fun _=>⟨b,off,ha,fun j u hj=>?_⟩⟩;have eA:j<n*8:=by
   have:=(List.getElem?_eq_some_iff.1 hj).1
   rwa [zEs]at this
  have hs:=aA (j / 8) (by omega);have e:=zC0 f cv n (i:=j / 8) (r:=j % 8) (by omega) (by omega);rw[show j / 8*8+j % 8=j by omega,hj]at e;have hr:j % 8<8:=(by omega);have ho:off+j=off+j / 8*8+j % 8:=(by omega);rw[ho];generalize j % 8=r at hr e ⊢;generalize j / 8=q at hs e ⊢;rcases r with _ | _ | _ | _ | _ | _ | _ | _ | r
  ·cases e;exact hs.c0
  ·cases e;exact hs.c1
  ·cases e;exact hs.c2
  ·cases e;exact hs.c3
  ·cases e;exact hs.c4
  ·cases e;exact hs.c5
  ·cases e;exact hs.c6
  ·cases e;exact hs.c7
  ·omega
 ·exact⟨fun _=>.slice none 0 0,fun i hi=>absurd hi (by omega),fun h=>absurd h hn⟩
theorem zDc{w1:World}{base n:Nat}{v:Value}{f:Nat->zu}{cv:Nat->Value}(bA:w1.ownsRow base 75 8 v n (zEQ f cv n))(L:Nat)(hL:w1.heap.size<=L):∃bs a c,v = .slice a n c/\n<=c/\(0<n->a=some ⟨bs,0,none⟩/\base<=bs/\bs<w1.heap.size)/\zAh w1 bs L n 0 f (fun _=>0) cv cv:=by
 obtain⟨a1,c1,rfl,cA⟩:=qf bA;by_cases h0:0<n
 ·obtain⟨g,cap,hv,_,dA,eA,aA⟩:=zC4 bA h0;simp only[Value.slice.injEq,true_and]at hv;obtain⟨rfl,rfl⟩:=hv;refine⟨g,_,_,rfl,cA,fun _=>⟨rfl,dA,eA⟩,fun j hj=>?_,fun j hj=>absurd hj (Nat.not_lt_zero _),fun j hj=>absurd hj (Nat.not_lt_zero _),fun i j hi=>absurd hi (Nat.not_lt_zero _),fun _=>by omega⟩;rw[if_neg (Nat.not_lt_zero _)];exact⟨aA _ _ (zC0 f cv n hj (r:=0) (by omega)),aA _ _ (zC0 f cv n hj (r:=1) (by omega)),aA _ _ (zC0 f cv n hj (r:=2) (by omega)),aA _ _ (zC0 f cv n hj (r:=3) (by omega)),aA _ _ (zC0 f cv n hj (r:=4) (by omega)),aA _ _ (zC0 f cv n hj (r:=5) (by omega)),aA _ _ (zC0 f cv n hj (r:=6) (by omega)),aA _ _ (zC0 f cv n hj (r:=7) (by omega))⟩
 ·exact⟨0,_,_,rfl,cA,fun h=>absurd h h0,fun j hj=>absurd hj (by omega),fun j hj=>absurd hj (Nat.not_lt_zero _),fun j hj=>absurd hj (Nat.not_lt_zero _),fun i j hi=>absurd hi (Nat.not_lt_zero _),fun h=>absurd h h0⟩
def zF9(W:zC):Prop:=(∀i,i<W.sn->(W.zcC i).dn<=1048576)/\∀i,i<W.pn->(W.zb9 i).dn<=1048576
open Go.Maps
def zEZ(v:Value):Option (DataW Value×List MemPlace):=some (.held v,[])
theorem zHJ{v:Value}{d:DataW Value}{ps:List MemPlace}(h:zEZ v=some (d,ps)):d = .held v:=by
 unfold zEZ at h;simp only[Option.some.injEq,Prod.mk.injEq]at h;exact h.1.symm
theorem zD7(v:Value):zEZ v=some (.held v,[]):=rfl
theorem zJg{P:Program}(w:World){dA:Array Oper}{rest:List Oper}{o:Oper}{a:Act}{Q:Exit->Act->World->Prop}
  (hg:o.guard=none) (m x:Operand) (t:TypeId) (hop:o.op=Op.lookup t m x false)
  (k e:TypeId) (K:Keyed P k) (ht:P.underlying t=some (.map k e)) {z:Value} (hz:(zeroValue e).run P w = .ok z w) (b n:Nat) (D:DataW Value)
  (hm:a.eval m = .map (some b)) (bA:w.ownsMap P k zEZ b n D) (key:Value) (kl:Lit) (hx:a.eval x=key) (aA:keyOf P k key=some kl)
  (v:Value) (fA:D.atKey kl (.held z) = .held v) (hK:wpList P dA Q rest (a.put o.dst v) w) :
  wpList P dA Q (o :: rest) a w:=by
 refine wpList_plain hg fun K' eA=>?_
 obtain⟨v',ps,cA,hv⟩:=bA.lookup K ht hz (zD7 z) aA;have e1:=zHJ hv;rw[fA]at e1;injection e1 with e1;subst e1;unfold Oper.wp;simp[execOp,hop,hm,hx,cA,Result.andThen];exact eA _ _ hK
theorem zEL{P:Program}(w:World){cA:Array Oper}{rest:List Oper}{o:Oper}{a:Act}{Q:Exit->Act->World->Prop}
  (hg:o.guard=none) (m x:Operand) (t:TypeId) (hop:o.op=Op.lookup t m x true)
  (k e:TypeId) (K:Keyed P k) (ht:P.underlying t=some (.map k e)) {z:Value} (hz:(zeroValue e).run P w = .ok z w) (b n:Nat) (D:DataW Value)
  (hm:a.eval m = .map (some b)) (bA:w.ownsMap P k zEZ b n D) (key:Value) (kl:Lit) (hx:a.eval x=key) (aA:keyOf P k key=some kl)
  (v:Value) (dA:D.atKey kl (.held z) = .held v) (c:Bool) (hc:Maps.has D kl=c) (hK:wpList P cA Q rest (a.put o.dst (.tuple #[v,.bool c])) w) :
  wpList P cA Q (o :: rest) a w:=by
 refine wpList_lookup_own_ok w hg m x t hop k e K ht zEZ hz (.held z) [] (zD7 z) b n D hm bA key kl hx aA (fun v' ps hv=>?_);have e1:=zHJ hv;rw[dA]at e1;injection e1 with e1;subst e1;rw[hc];exact hK
def putD(key:Nat->Lit)(val:Nat->Value):Nat->DataW Value
 | 0=>.map []
 | k+1=>(putD key val k).put (key k) (.held (val k))
def zGA(key:Nat->Lit):Prop:=∀i,WideAt.IsKeyLit (key i)
theorem zEh{key:Nat->Lit}(hk:zGA key)(val:Nat->Value):∀k,Tidy (putD key val k)
 | 0=>tidy_empty
 | k+1=>(zEh hk val k).put (hk k) _
theorem zHI{key:Nat->Lit}(hk:zGA key)(val:Nat->Value)(l:Lit):∀k,Maps.has (putD key val k) l=true↔∃i,i<k/\key i=l
 | 0=>by
  constructor
  ·intro h;exact absurd h (by simp[putD,Maps.has])
  ·rintro⟨i,hi,_⟩;omega
 | k+1=>by
  by_cases hx:key k=l
  ·subst hx;exact⟨fun _=>⟨k,by omega,rfl⟩,fun _=>has_put_same (zEh hk val k).isMap (hk k) _⟩
  ·rw[show Maps.has (putD key val (k+1)) l=Maps.has (putD key val k) l from has_put_other (Ne.symm hx) _,zHI hk val l k];constructor
   ·rintro⟨i,hi,e⟩;exact⟨i,by omega,e⟩
   ·rintro⟨i,hi,e⟩;by_cases h:i=k
    ·subst h;exact absurd e hx
    ·exact⟨i,by omega,e⟩
theorem zKA{key:Nat->Lit}(hk:zGA key)(val:Nat->Value){l:Lit}{k:Nat}(h:∀i,i<k->key i≠l)(z:DataW Value):(putD key val k).atKey l z=z:=by
 refine atKey_of_not_has ?_ _;rw[Bool.eq_false_iff];intro hh;obtain⟨i,hi,e⟩:=(zHI hk val l k).1 hh;exact h i hi e
theorem zPi{key:Nat->Lit}(hk:zGA key)(val:Nat->Value)(z:DataW Value):∀k i,i<k->(∀j,i<j->j<k->key j≠key i)->(putD key val k).atKey (key i) z = .held (val i)
 | 0,i,hi,_=>absurd hi (Nat.not_lt_zero _)
 | k+1,i,hi,hd=>by
  by_cases e:i=k
  ·subst e;exact atKey_put_same (zEh hk val i).isMap (hk i) _ _
  ·exact(atKey_put_other (Ne.symm (hd k (by omega) (by omega))) _ _).trans (zPi hk val z k i (by omega) (fun j h1 h2=>hd j h1 (by omega)))
def zIq(n:Nat)(key:Nat->Lit):Prop:=∀i,i<n->∀k,k<i->key k≠key i
theorem zIQ{k:Nat}{f:Nat->Lit}:zIq (k+1) f↔zIq k f/\∀i,i<k->f i≠f k:=by
 constructor
 ·exact fun h=>⟨fun i hi=>h i (by omega),fun i hi=>h k (by omega) i hi⟩
 ·rintro⟨h1,h2⟩ i hi j hj;by_cases e:i=k
  ·subst e;exact h2 j hj
  ·exact h1 i (by omega) j hj
theorem zKB{key:Nat->Lit}(hk:zGA key)(val:Nat->Value):∀k,Maps.size (putD key val k)<=k/\(Maps.size (putD key val k)=k↔zIq k key)
 | 0=>⟨Nat.le_refl _,fun _ i hi=>by omega,fun _=>rfl⟩
 | k+1=>by
  obtain⟨h1,h2⟩:=zKB hk val k;have e:Maps.size (putD key val (k+1))=if Maps.has (putD key val k) (key k)then Maps.size (putD key val k)else Maps.size (putD key val k)+1:=size_put (zEh hk val k) _
  by_cases hh:Maps.has (putD key val k) (key k)=true
  ·rw[if_pos hh]at e;rw[e,zIQ];refine⟨by omega,fun h=>by omega,fun h=>?_⟩;obtain⟨i,hi,he⟩:=(zHI hk val (key k) k).1 hh;exact absurd he (h.2 i hi)
  ·rw[if_neg hh]at e;rw[e,zIQ,<-h2];refine⟨by omega,fun h=>⟨by omega,fun i hi he=>hh ((zHI hk val (key k) k).2 ⟨i,hi,he⟩)⟩,fun h=>by omega⟩
theorem zGw(n:Int)(w:World):Calls Tryz.prog 113 #[.int .i64 n] w fun e w'=>zK (zHQ n 1 900000) e/\w'=w:=by
 by_cases h1:1<=n
 ·by_cases h2:n<=900000
  ·go_enter Tryz.func113,Tryz.ntmps113;go_wp2;go_ret;exact⟨zK.yes ⟨h1,h2⟩,rfl⟩
  ·go_enter Tryz.func113,Tryz.ntmps113;go_wp2;go_ret;exact⟨zK.no fun h=>by have:=h.2;omega,rfl⟩
 ·go_enter Tryz.func113,Tryz.ntmps113;go_wp2;go_ret;exact⟨zK.no fun h=>by have:=h.1;omega,rfl⟩
def Mid(a x b:Int):Prop:=a<x/\x<b
theorem zKR(a x b:Int)(w:World):Calls Tryz.prog 139 #[.int .i64 a,.int .i64 x,.int .i64 b] w fun e w'=>zK (Mid a x b) e/\w'=w:=by
 by_cases h1:a<x
 ·by_cases h2:x<b
  ·go_enter Tryz.func139,Tryz.ntmps139;go_wp2;go_ret;exact⟨zK.yes ⟨h1,h2⟩,rfl⟩
  ·go_enter Tryz.func139,Tryz.ntmps139;go_wp2;go_ret;exact⟨zK.no fun h=>by have:=h.2;omega,rfl⟩
 ·go_enter Tryz.func139,Tryz.ntmps139;go_wp2;go_ret;exact⟨zK.no fun h=>by have:=h.1;omega,rfl⟩
def zG6(f:Nat->zAJ):Nat->ByteArray
 | 0=>⟨#[]⟩
 | k+1=>(f k).name
def zZj(n:Nat)(f:Nat->zAJ):Prop:=n<=8/\∀i,i<n->zDT (f i).name/\zC8 (zG6 f i) (f i).name
theorem zNk(v:Value)(n lo hi:Nat)(f:Nat->zAJ)(w:World)(h:zCd w lo hi v n f) :
  Calls Tryz.prog 114 #[v] w fun e w'=>zK (zZj n f) e/\Below w.heap.size w w':=by
 have Hp:=zB h;obtain⟨m1,a,c,rfl,mc,-⟩:=id h;unfold maxLen at m1;clear h;by_cases hn:n<=8;rotate_left
 ·have kA:(8:Int)<(n:Int):=(by omega);go_enter Tryz.func114,Tryz.ntmps114;go_wp2;go_ret;exact⟨zK.no fun h=>hn h.1,Below.refl _ _⟩
 have kA:¬(8:Int)<(n:Int):=by omega
 go_enter Tryz.func114,Tryz.ntmps114;go_wp2
 go_loopw [3,11] (fun l i wr=>∃k:Nat,k<=n/\i = .int .i64 k/\l = .string (zG6 f k)/\(∀j,j<k->zDT (f j).name/\zC8 (zG6 f j) (f j).name)/\Below w.heap.size w wr) (fun _ i _=>n - (intOf i).toNat)
 case atStart=>exact⟨0,Nat.zero_le _,rfl,rfl,fun j hj=>absurd hj (Nat.not_lt_zero _),Below.refl _ _⟩
 case round=>
  obtain⟨k,hk,rfl,rfl,cA,hb⟩:=hrel;have bA:=zB cA;clear cA;by_cases dA:k<n;rotate_left
  ·obtain rfl:k=n:=(by omega);go_wp2;go_ret;exact⟨zK.yes ⟨hn,bA.out⟩,hb⟩
  have jA:(k:Int)<(n:Int):=(by omega);obtain⟨b,off,vd,rfl,aA⟩:=(Hp.out.zb7 hb).cells dA;obtain⟨-,ad,cd,rfl,-,-⟩:=id aA.dead;have gA:=zD wr (.cells #[.string (f k).name,.int .i64 (f k).origin,.int .i64 (f k).zcD,.int .i64 (f k).rs,.int .i64 (f k).rb,.slice ad (f k).dn cd] 72);have iA:=zB (zAC.new wr (.string (f k).name) (.int .i64 (f k).origin) (.int .i64 (f k).zcD) (.int .i64 (f k).rs) (.int .i64 (f k).rb) (.slice ad (f k).dn cd) 72);have fA:=zA hb gA;have q0:=aA.c0;have q1:=aA.c1;have q2:=aA.c2;have q3:=aA.c3;have q4:=aA.c4;have q5:=aA.c5;have lA:=aA.zcG;obtain⟨⟨y0,y1⟩,-⟩:=iA.out;clear aA gA;go_wp2_with fail;clear q0 q1 q2 q3 q4 q5;refine(zJE (f k).name _ lA).mono ?_;rintro e wn ⟨⟨tn,rfl,eA⟩,rfl⟩;by_cases hA:zDT (f k).name;rotate_left
  ·have Hn:=zB hA;obtain rfl:tn=false:=zAG eA hA;clear eA hA;go_wp2;go_ret;exact⟨zK.no fun h=>Hn.out (h.2 k dA).1,fA⟩
  have HA:=zB hA;obtain rfl:tn=true:=eA.2 hA;clear eA hA;by_cases hR:zC8 (zG6 f k) (f k).name
  ·have f1:=(zTe (f k).name (zG6 f k)).2 hR;have HR:=zB hR;clear hR;go_wp2;go_roundw
   case rel=>exact⟨k+1,by omega,by go_num,rfl,qz dA bA.out ⟨HA.out,HR.out⟩,fA⟩
   case measure=>simp[intOf];omega
  ·have f1:(Op.bytesLess (f k).name.toList (zG6 f k).toList || (f k).name.toList == (zG6 f k).toList)=true:=by
    cases hc:(Op.bytesLess (f k).name.toList (zG6 f k).toList || (f k).name.toList == (zG6 f k).toList)
    ·exact absurd ((zTe _ _).1 hc) hR
    ·rfl
   have HR:=zB hR;clear hR;go_wp2;go_ret;exact⟨zK.no fun h=>HR.out (h.2 k dA).2,fA⟩
theorem zWm:laidOutB Tryz.prog=true:=by kernel_rfl
theorem zaT:300<=Tryz.prog.types.size+300 - 1/\1<=Tryz.prog.types.size:=by
 have h:decide (1<=Tryz.prog.types.size)=true:=by kernel_rfl
 have:=of_decide_eq_true h;omega
theorem zWo{k:Nat}(h:decide (k<Tryz.prog.types.size)=true):k<Tryz.prog.types.size:=of_decide_eq_true h
theorem zb6:Tryz.prog.underlying 9=some .string:=by kernel_rfl
theorem zbN:Tryz.prog.underlying 2=some (.int .i64):=by kernel_rfl
theorem zaq:Keyed Tryz.prog 9:=string_keyed zb6
theorem zbO:Keyed Tryz.prog 2:=int_keyed zbN
def zGl(s:ByteArray):Lit:=.string s.data.toList
theorem zTY{s:ByteArray}(h:s.size<=maxLen):keyOf Tryz.prog 9 (.string s)=some (zGl s):=by simp[keyOf,mapKey,zGl,h]
theorem zWl{s t:ByteArray}(h:zGl s=zGl t):s=t:=by
 unfold zGl at h;injection h with h;cases s;cases t;simp only[ByteArray.mk.injEq];exact Array.toList_inj.1 h
theorem zQk(s:ByteArray):WideAt.IsKeyLit (zGl s):=trivial
def zPK(x:Int):Lit:=.int .i64 x
theorem zTX{x:Int}(h:(Lit.int .i64 x).wf=true):keyOf Tryz.prog 2 (.int .i64 x)=some (zPK x):=keyOf_int_mk zbN h
theorem zQj{x y:Int}(h:zPK x=zPK y):x=y:=by unfold zPK at h;injection h
theorem zWk(x:Int):WideAt.IsKeyLit (zPK x):=trivial
theorem zbx:Tryz.prog.underlying 205=some (.array 2 9):=by kernel_rfl
theorem zar:Keyed Tryz.prog 205:=Keyed.of_law (deep_law_laid zWm (m:=5) (by decide) (zWo (by kernel_rfl)) (by kernel_rfl) (by kernel_rfl))
theorem zYy{s t:ByteArray}(hs:s.size<=maxLen)(ht:t.size<=maxLen):∃l,keyOf Tryz.prog 205 (.agg #[.string s,.string t])=some l:=by
 obtain⟨m,hm⟩:∃m,Tryz.prog.types.size+1=m+2:=⟨Tryz.prog.types.size - 1,by have:=zaT;omega⟩;have hk:Tryz.prog.keyType 205=true:=by kernel_rfl
 have hc:Tryz.prog.cellsOf 205=2:=by kernel_rfl
 have h1:Tryz.prog.cellsOf 9=1:=by kernel_rfl
 unfold keyOf;simp only[zbx];rw[if_pos (by simp[hk,Value.formed,hc]),hm];unfold Program.keyLits;simp only[zbx,Value.cells];rw[if_pos (by rw[hc];rfl),show List.range 2 = [0,1] from rfl,List.mapM_cons,List.mapM_cons,List.mapM_nil];simp[h1,Program.keyLits,hs,ht]
theorem zbp:Tryz.prog.underlying 70=some (.struct #[⟨"Slot",2,0,false, "", "",0⟩,⟨"Birth",2,1,false, "", "",8⟩]):=by kernel_rfl
theorem zap:Keyed Tryz.prog 70:=Keyed.of_law (deep_law_laid zWm (m:=5) (by decide) (zWo (by kernel_rfl)) (by kernel_rfl) (by kernel_rfl))
theorem zYx{x y:Int}(hx:(Lit.int .i64 x).wf=true)(hy:(Lit.int .i64 y).wf=true):∃l,keyOf Tryz.prog 70 (.agg #[.int .i64 x,.int .i64 y])=some l:=by
 obtain⟨m,hm⟩:∃m,Tryz.prog.types.size+1=m+2:=⟨Tryz.prog.types.size - 1,by have:=zaT;omega⟩;have hk:Tryz.prog.keyType 70=true:=by kernel_rfl
 have hc:Tryz.prog.cellsOf 70=2:=by kernel_rfl
 have h1:Tryz.prog.cellsOf 2=1:=by kernel_rfl
 unfold keyOf;simp only[zbp];rw[if_pos (by simp[hk,Value.formed,hc]),hm];unfold Program.keyLits;simp only[zbp,Value.cells];rw[if_pos ⟨by rw[hc];rfl,by kernel_rfl⟩];simp[h1,Program.keyLits,hx,hy]
def zPn(vd:Value)(s:zAJ):Value:=.agg #[.string s.name,.int .i64 s.origin,.int .i64 s.zcD,.int .i64 s.rs,.int .i64 s.rb,vd]
def zDk(vd:Value)(s:zu):Value:=.agg #[.int .i64 s.id,.string s.name,.string s.set,.int .i64 s.zcD,.int .i64 s.time,.int .i64 s.rs,.int .i64 s.rb,vd]
def zP1(w:World)(lo hi n:Nat)(f:Nat->zAJ)(vd:Nat->Value):Prop:=∀i,i<n->qi w lo hi (vd i) (f i).dn (f i).ds (f i).db
def zHT(w:World)(lo hi n:Nat)(f:Nat->zu)(vd:Nat->Value):Prop:=∀i,i<n->qi w lo hi (vd i) (f i).dn (f i).ds (f i).db
open Classical in
theorem zCd.vals{w:World}{lo hi:Nat}{a:Option Addr}{n c:Nat}{f:Nat->zAJ}(h:zCd w lo hi (.slice a n c) n f):∃vd:Nat->Value,zP1 w lo hi n f vd/\∀i,i<n->∃b off,a=some ⟨b,off,none⟩/\zDV w b (off+i*6) lo hi (vd i) (f i):=by
 have hx:∀i,∃v,i<n->∃b off,a=some ⟨b,off,none⟩/\zDV w b (off+i*6) lo hi v (f i):=fun i=>by
  by_cases aA:i<n
  ·obtain⟨b,off,vd,ha,hs⟩:=h.cells aA;exact⟨vd,fun _=>⟨b,off,ha,hs⟩⟩
  ·exact⟨undef,fun h=>absurd h aA⟩
 refine⟨fun i=>(hx i).choose,fun i aA=>?_,fun i aA=>(hx i).choose_spec aA⟩;obtain⟨b,off,_,hs⟩:=(hx i).choose_spec aA;exact hs.dead
open Classical in
theorem zBg.vals{w:World}{lo hi:Nat}{a:Option Addr}{n c:Nat}{f:Nat->zu}(h:zBg w lo hi (.slice a n c) n f):∃vd:Nat->Value,zHT w lo hi n f vd/\∀i,i<n->∃b off,a=some ⟨b,off,none⟩/\zCz w b (off+i*8) lo hi (vd i) (f i):=by
 have hx:∀i,∃v,i<n->∃b off,a=some ⟨b,off,none⟩/\zCz w b (off+i*8) lo hi v (f i):=fun i=>by
  by_cases aA:i<n
  ·obtain⟨b,off,vd,ha,hs⟩:=h.cells aA;exact⟨vd,fun _=>⟨b,off,ha,hs⟩⟩
  ·exact⟨undef,fun h=>absurd h aA⟩
 refine⟨fun i=>(hx i).choose,fun i aA=>?_,fun i aA=>(hx i).choose_spec aA⟩;obtain⟨b,off,_,hs⟩:=(hx i).choose_spec aA;exact hs.dead
theorem zX3:Tryz.prog.underlying 183=some (.map 9 72):=by kernel_rfl
theorem zX6:Tryz.prog.underlying 188=some (.map 2 75):=by kernel_rfl
theorem zV3:Tryz.prog.underlying 204=some (.map 205 2):=by kernel_rfl
def zD3(w:World)(W:zC)(M n:Nat)(vd:Nat->Value):Prop:=w.ownsMap Tryz.prog 9 zEZ M n (putD (fun i=>zGl (W.zcC i).name) (fun i=>zPn (vd i) (W.zcC i)) n)
def zEo(w:World)(W:zC)(M n:Nat)(vd:Nat->Value):Prop:=w.ownsMap Tryz.prog 2 zEZ M n (putD (fun i=>zPK (W.zb9 i).id) (fun i=>zDk (vd i) (W.zb9 i)) n)
theorem zD3.zb7{w w':World}{W:zC}{M n:Nat}{vd:Nat->Value}(h:zD3 w W M n vd)(t:Below w.heap.size w w'):zD3 w' W M n vd:=h.kept (zCo t none) (by simp)
theorem zEo.zb7{w w':World}{W:zC}{M n:Nat}{vd:Nat->Value}(h:zEo w W M n vd)(t:Below w.heap.size w w'):zEo w' W M n vd:=h.kept (zCo t none) (by simp)
theorem zM3(v0 v1 v2 v3:Value)(lo hi:Nat)(W:zC)(w:World)(h:yQ w lo hi v0 v1 v2 v3 W)(hn:W.sn<=8) :
  Calls Tryz.prog 138 #[zBb v0 v1 v2 v3 W] w fun e w'=>∃vd,e = .returned (.map (some (w.heap.size+1)))/\zD3 w' W (w.heap.size+1) W.sn vd/\zP1 w lo hi W.sn W.zcC vd/\Below w.heap.size w w':=by
 have Hp:=zB h;obtain⟨m1,a,c,rfl,mc,-⟩:=id h.zcC;unfold maxLen at m1;obtain⟨vd,rA,oA⟩:=h.zcC.vals;have vA:=zB rA;have tA:=zB oA;clear h rA oA;have ha:=zD w (.cells #[v0,v1,.int .i64 W.time,.int .i64 W.next,.slice a W.sn c,v3] 30);have HB:=zB (zAC.new w v0 v1 (.int .i64 W.time) (.int .i64 W.next) (.slice a W.sn c) v3 30);have kA:(w.alloc (.cells #[v0,v1,.int .i64 W.time,.int .i64 W.next,.slice a W.sn c,v3] 30)).heap.size=w.heap.size+1:=World.size_alloc _ _;have hm:=World.ownsMap_made (w.alloc (.cells #[v0,v1,.int .i64 W.time,.int .i64 W.next,.slice a W.sn c,v3] 30)) Tryz.prog 9 zEZ;rw[kA]at hm;have HM:=zB hm;have lA:=zB (HB.out.zb7 (zD _ (.map #[] 0)));have mA:=zB (zA ha (zD _ (.map #[] 0)));have fB:=@run_makeMap Tryz.prog;obtain⟨x0,x2,x4,x6,x8,eB⟩:=lA.out.c;clear hm;go_enter Tryz.func138,Tryz.ntmps138;go_wp2;clear x0 x2 x4 x6 x8 eB ha
 go_loopw [10] (fun i wr=>∃k:Nat,k<=W.sn/\i = .int .i64 k/\zD3 wr W (w.heap.size+1) k vd/\Below w.heap.size w wr/\w.heap.size+2<=wr.heap.size) (fun i _=>W.sn - (intOf i).toNat)
 case atStart=>exact⟨0,Nat.zero_le _,rfl,HM.out,mA.out,by rw[World.size_alloc,kA];omega⟩
 case round=>
  clear HM lA mA HB kA;obtain⟨k,hk,rfl,eA,hb,hz⟩:=hrel;have cA:=zB eA;clear eA;by_cases bB:k<W.sn
  ·have cB:(k:Int)<(W.sn:Int):=(by omega);obtain⟨b,off,rfl,pA⟩:=tA.out k bB;have bA:=pA.zb7 hb;obtain⟨-,ad,cd,jA,-,-⟩:=id bA.dead;have aB:=zB jA;rw[jA]at bA;clear jA pA;have gA:=zD wr (.cells #[.string (W.zcC k).name,.int .i64 (W.zcC k).origin,.int .i64 (W.zcC k).zcD,.int .i64 (W.zcC k).rs,.int .i64 (W.zcC k).rb,.slice ad (W.zcC k).dn cd] 72);have sA:=zB (zAC.new wr (.string (W.zcC k).name) (.int .i64 (W.zcC k).origin) (.int .i64 (W.zcC k).zcD) (.int .i64 (W.zcC k).rs) (.int .i64 (W.zcC k).rb) (.slice ad (W.zcC k).dn cd) 72);have nA:=zA hb gA;have q0:=bA.c0;have q1:=bA.c1;have q2:=bA.c2;have q3:=bA.c3;have q4:=bA.c4;have q5:=bA.c5;have iA:=zB (zTY bA.zcG);obtain⟨⟨y0,y1⟩,⟨y2,y3⟩,⟨y4,y5⟩,⟨y6,y7⟩,⟨y8,y9⟩,⟨iB,jB⟩⟩:=sA.out;have dA:=zB (cA.out.zb7 gA);have gB:=gA.size;clear bA gA;go_wp2_with (first
    | (at_mapUpdate;refine wpList_mapUpdate_own _ rfl _ _ _ 183 rfl 9 72 zaq zX3 zEZ (w.heap.size+1) k _ rfl dA.out (by unfold maxLen;omega) _ _ _ rfl rfl iA.out _ [] (zD7 _) ?_;intro w1 fA aA)
    | go_in)
   go_roundw
   case rel=>
    refine⟨k+1,by omega,by go_num,?_,nA.grown aA nA.size (fun j hj=>by cases hj;omega),by have:=aA.size;omega⟩;unfold zD3 putD zPn;rw[aB.out];exact fA
   case measure=>simp[intOf];omega
  ·obtain rfl:k=W.sn:=(by omega);go_wp2;go_ret;exact⟨vd,rfl,cA.out,vA.out,hb⟩
def zVt(n:Nat)(f:Nat->zu):Prop:=∀i,i<n->(Lit.int .i64 (f i).id).wf=true
theorem zNm(v0 v1 v2 v3:Value)(lo hi:Nat)(W:zC)(w:World)(h:yQ w lo hi v0 v1 v2 v3 W)(hn:W.pn<=20)(tA:zVt W.pn W.zb9) :
  Calls Tryz.prog 143 #[zBb v0 v1 v2 v3 W] w fun e w'=>∃vd,e = .returned (.map (some (w.heap.size+1)))/\zEo w' W (w.heap.size+1) W.pn vd/\zHT w lo hi W.pn W.zb9 vd/\Below w.heap.size w w':=by
 have Hp:=zB h;have eB:=zB tA;obtain⟨m1,a,c,rfl,mc,-⟩:=id h.zb9;unfold maxLen at m1;obtain⟨vd,sA,oA⟩:=h.zb9.vals;have bB:=zB sA;have aB:=zB oA;clear h sA oA tA;have ha:=zD w (.cells #[v0,v1,.int .i64 W.time,.int .i64 W.next,v2,.slice a W.pn c] 30);have HB:=zB (zAC.new w v0 v1 (.int .i64 W.time) (.int .i64 W.next) v2 (.slice a W.pn c) 30);have kA:(w.alloc (.cells #[v0,v1,.int .i64 W.time,.int .i64 W.next,v2,.slice a W.pn c] 30)).heap.size=w.heap.size+1:=World.size_alloc _ _;have hm:=World.ownsMap_made (w.alloc (.cells #[v0,v1,.int .i64 W.time,.int .i64 W.next,v2,.slice a W.pn c] 30)) Tryz.prog 2 zEZ;rw[kA]at hm;have HM:=zB hm;have lA:=zB (HB.out.zb7 (zD _ (.map #[] 0)));have mA:=zB (zA ha (zD _ (.map #[] 0)));have iB:=@run_makeMap Tryz.prog;obtain⟨x0,x2,x4,x6,x8,gB⟩:=lA.out.c;clear hm;go_enter Tryz.func143,Tryz.ntmps143;go_wp2;clear x0 x2 x4 x6 x8 gB ha
 go_loopw [10] (fun i wr=>∃k:Nat,k<=W.pn/\i = .int .i64 k/\zEo wr W (w.heap.size+1) k vd/\Below w.heap.size w wr/\w.heap.size+2<=wr.heap.size) (fun i _=>W.pn - (intOf i).toNat)
 case atStart=>exact⟨0,Nat.zero_le _,rfl,HM.out,mA.out,by rw[World.size_alloc,kA];omega⟩
 case round=>
  clear HM lA mA HB kA;obtain⟨k,hk,rfl,eA,hb,hz⟩:=hrel;have cA:=zB eA;clear eA;by_cases pA:k<W.pn
  ·have fB:(k:Int)<(W.pn:Int):=(by omega);obtain⟨b,off,rfl,rA⟩:=aB.out k pA;have bA:=rA.zb7 hb;obtain⟨-,ad,cd,jA,-,-⟩:=id bA.dead;have cB:=zB jA;rw[jA]at bA;clear jA rA;have gA:=zD wr (.cells #[.int .i64 (W.zb9 k).id,.string (W.zb9 k).name,.string (W.zb9 k).set,.int .i64 (W.zb9 k).zcD,.int .i64 (W.zb9 k).time,.int .i64 (W.zb9 k).rs,.int .i64 (W.zb9 k).rb,.slice ad (W.zb9 k).dn cd] 75);have vA:=zB (zF7.new wr (.int .i64 (W.zb9 k).id) (.string (W.zb9 k).name) (.string (W.zb9 k).set) (.int .i64 (W.zb9 k).zcD) (.int .i64 (W.zb9 k).time) (.int .i64 (W.zb9 k).rs) (.int .i64 (W.zb9 k).rb) (.slice ad (W.zb9 k).dn cd) 75);have nA:=zA hb gA;have q0:=bA.c0;have q1:=bA.c1;have q2:=bA.c2;have q3:=bA.c3;have q4:=bA.c4;have q5:=bA.c5;have q6:=bA.c6;have q7:=bA.c7;have iA:=zB (zTX (eB.out k pA));obtain⟨⟨⟨y0,-⟩,⟨y1,-⟩,⟨y2,-⟩,⟨y3,-⟩⟩,⟨y4,-⟩,⟨y5,-⟩,⟨y6,-⟩,⟨y7,-⟩⟩:=vA.out;have dA:=zB (cA.out.zb7 gA);have jB:=gA.size;clear bA gA;go_wp2_with (first
    | (at_mapUpdate;refine wpList_mapUpdate_own _ rfl _ _ _ 188 rfl 2 75 zbO zX6 zEZ (w.heap.size+1) k _ rfl dA.out (by unfold maxLen;omega) _ _ _ rfl rfl iA.out _ [] (zD7 _) ?_;intro w1 fA aA)
    | go_in)
   go_roundw
   case rel=>
    refine⟨k+1,by omega,by go_num,?_,nA.grown aA nA.size (fun j hj=>by cases hj;omega),by have:=aA.size;omega⟩;unfold zEo putD zDk;rw[cB.out];exact fA
   case measure=>simp[intOf];omega
  ·obtain rfl:k=W.pn:=(by omega);go_wp2;go_ret;exact⟨vd,rfl,cA.out,bB.out,hb⟩
def zEj(n:Nat)(f:Nat->zu):Prop:=∀i,i<n->∀k,k<i->¬((f k).set=(f i).set/\(f k).name=(f i).name)
theorem zEj.iff{n:Nat}{f:Nat->zu}{key:Nat->Lit}(hk:∀i,i<n->keyOf Tryz.prog 205 (.agg #[.string (f i).set,.string (f i).name])=some (key i)):zIq n key↔zEj n f:=by
 constructor
 ·intro h i hi k aA e;refine h i hi k aA ?_;have h1:=hk i hi;have h2:=hk k (by omega);rw[e.1,e.2,h1]at h2;exact(Option.some.inj h2).symm
 ·intro h i hi k aA e;have h1:=hk i hi;have h2:=hk k (by omega);rw[e]at h2;have:=zar.inj h2 h1;simp only[Value.agg.injEq,Array.mk.injEq,List.cons.injEq,Value.string.injEq,and_true]at this;exact h i hi k aA this
theorem zMh(v:Value)(n lo hi:Nat)(f:Nat->zu)(w:World)(h:zBg w lo hi v n f)(hn:n<=20) :
  Calls Tryz.prog 140 #[v] w fun e w'=>zK (zEj n f) e/\Below w.heap.size w w':=by
 have Hp:=zB h;obtain⟨m1,a,c,rfl,mc,-⟩:=id h;unfold maxLen at m1;have iA:∀i,∃l,WideAt.IsKeyLit l/\(i<n->keyOf Tryz.prog 205 (.agg #[.string (f i).set,.string (f i).name])=some l):=fun i=>by
  by_cases mA:i<n
  ·obtain⟨b,off,vd,_,hs⟩:=h.cells mA;obtain⟨l,hl⟩:=zYy hs.zcG.2 hs.zcG.1;exact⟨l,zar.key hl,fun _=>hl⟩
  ·exact⟨.string [],trivial,fun h=>absurd h mA⟩
 obtain⟨key,nA,oA⟩:∃key:Nat->Lit,zGA key/\∀i,i<n->keyOf Tryz.prog 205 (.agg #[.string (f i).set,.string (f i).name])=some (key i):=⟨fun i=>(iA i).choose,fun i=>(iA i).choose_spec.1,fun i=>(iA i).choose_spec.2⟩;have sA:=zB nA;have kA:=zB oA;clear h iA nA oA;have HM:=zB (World.ownsMap_made w Tryz.prog 205 zEZ);have aB:=@run_makeMap Tryz.prog;go_enter Tryz.func140,Tryz.ntmps140;go_wp2
 go_loopw [9] (fun i wr=>∃k:Nat,k<=n/\i = .int .i64 k/\wr.ownsMap Tryz.prog 205 zEZ w.heap.size k (putD key (fun i=>.int .i64 (f i).id) k)/\Below w.heap.size w wr/\w.heap.size+1<=wr.heap.size) (fun i _=>n - (intOf i).toNat)
 case atStart=>exact⟨0,Nat.zero_le _,rfl,HM.out,zD _ _,by rw[World.size_alloc];omega⟩
 case round=>
  clear HM;obtain⟨k,hk,rfl,eA,hb,hz⟩:=hrel;have cA:=zB eA;clear eA;by_cases pA:k<n
  ·have vA:(k:Int)<(n:Int):=(by omega);obtain⟨b,off,vd,rfl,bA⟩:=(Hp.out.zb7 hb).cells pA;obtain⟨-,ad,cd,rfl,-,-⟩:=id bA.dead;have gA:=zD wr (.cells #[.int .i64 (f k).id,.string (f k).name,.string (f k).set,.int .i64 (f k).zcD,.int .i64 (f k).time,.int .i64 (f k).rs,.int .i64 (f k).rb,.slice ad (f k).dn cd] 75);have rA:=zB (zF7.new wr (.int .i64 (f k).id) (.string (f k).name) (.string (f k).set) (.int .i64 (f k).zcD) (.int .i64 (f k).time) (.int .i64 (f k).rs) (.int .i64 (f k).rb) (.slice ad (f k).dn cd) 75);have lA:=zA hb gA;have q0:=bA.c0;have q1:=bA.c1;have q2:=bA.c2;have q3:=bA.c3;have q4:=bA.c4;have q5:=bA.c5;have q6:=bA.c6;have q7:=bA.c7;have jA:=zB (kA.out k pA);obtain⟨⟨⟨y0,-⟩,⟨y1,-⟩,⟨y2,-⟩,⟨y3,-⟩⟩,⟨y4,-⟩,⟨y5,-⟩,⟨y6,-⟩,⟨y7,-⟩⟩:=rA.out;have dA:=zB (cA.out.kept (zCo gA none) (by simp));have bB:=gA.size;clear bA gA;go_wp2_with (first
    | (at_mapUpdate;refine wpList_mapUpdate_own _ rfl _ _ _ 204 rfl 205 2 zar zV3 zEZ w.heap.size k _ rfl dA.out (by unfold maxLen;omega) _ _ _ rfl rfl jA.out _ [] (zD7 _) ?_;intro w1 fA aA)
    | go_in)
   go_roundw
   case rel=>exact⟨k+1,by omega,by go_num,fA,lA.grown aA lA.size (fun j hj=>by cases hj;omega),by have:=aA.size;omega⟩
   case measure=>simp[intOf];omega
  ·obtain rfl:k=n:=(by omega);have tA:=zB (zKB sA.out (fun i=>.int .i64 (f i).id) k);have HN:=zB (zEj.iff (f:=f) kA.out);go_wp2_with (first
    | (at_len;refine wpList_len_own _ rfl _ 204 rfl 205 2 zV3 zEZ w.heap.size k _ rfl cA.out ?_)
    | go_in)
   go_ret;refine⟨⟨_,rfl,?_⟩,hb⟩;have h1:=tA.out.2;have h2:=HN.out;simp only[beq_iff_eq,Int.natCast_inj];exact h1.trans h2
end Go.Proofs.YtbplmbafodlboaaGreatDoor
