/- Rows of sets and of snapshots that were copied, the first of which have lists of their own (no law is proved here). -/
import Derived.Test.YtihplgckbhnohaaGreatDoorG2
import Derived.Test.YtihplgckbhnohaaGreatDoorG3
import Derived.Test.YtihplgckbhnohaaGreatDoorProg
import GoSem.ClaimJoined
import GoSem.ClaimMapViews
import Derived.JoinedTies
import Derived.KernelRfl
import Derived.RowKit
import Derived.Test.YtihplgckbhnohaaGreatDoorG1
import Derived.Deep.RegionHeld3
import Derived.Deep.QuietTactic
import Derived.BigQuiet
namespace Go.Proofs.YtihplgckbhnohaaGreatDoor
open Go.RowKit
set_option linter.unusedVariables false
def cellSet(f:Nat→SetD)(cv:Nat→Value)(i r:Nat):Value:=
 match r with
 | 0=>.string (f i).name
 | 1=>.int .i64 (f i).origin
 | 2=>.int .i64 (f i).prev
 | 3=>.int .i64 (f i).rs
 | 4=>.int .i64 (f i).rb
 | _=>cv i
def clSet(f:Nat→SetD)(cv:Nat→Value)(n:Nat):List Value:=(List.range (n*6)).map fun j=>cellSet f cv (j / 6) (j % 6)
theorem clSet_len(f:Nat→SetD)(cv:Nat→Value)(n:Nat):(clSet f cv n).length=n*6:=by simp [clSet]
theorem clSet_at(f:Nat→SetD)(cv:Nat→Value)(n:Nat){i r:Nat}(hi:i<n)(hr:r<6):(clSet f cv n)[i*6+r]?=some (cellSet f cv i r):=by
 have h:i*6+r<n*6:=by omega
 have h1:(i*6+r) / 6=i:=by omega
 have h2:(i*6+r) % 6=r:=by omega
 simp [clSet,h,h1,h2]
theorem clSet_one(f:Nat→SetD)(cv:Nat→Value)(n:Nat)(h:∀i,i<n→(cv i).oneCell'=true):∀u∈clSet f cv n,u.oneCell'=true:=by
 intro u hu
 unfold clSet at hu
 obtain⟨j,hj,rfl⟩:=List.mem_map.1 hu
 have hj':=List.mem_range.1 hj
 have hi:j / 6<n:=by omega
 have hr:j % 6<6:=by omega
 generalize j % 6=r at hr ⊢
 rcases r with _ | _ | _ | _ | _ | _ <;> first | rfl | exact h _ hi
def SetHead(w:World)(b o:Nat)(s:SetD)(vd:Value):Prop:=Cell w b o (.string s.name)∧Cell w b (o+1) (.int .i64 s.origin)∧Cell w b (o+2) (.int .i64 s.prev)∧Cell w b (o+3) (.int .i64 s.rs)∧Cell w b (o+4) (.int .i64 s.rb)∧Cell w b (o+5) vd
theorem SetHead.turned{S:Nat→Prop}{w w':World}{b o:Nat}{s:SetD}{vd:Value}(h:SetHead w b o s vd)(t:Turned S w w')(hs:¬S b):SetHead w' b o s vd:=by
 obtain⟨h0,h1,h2,h3,h4,h5⟩:=h
 exact⟨h0.turned t hs,h1.turned t hs,h2.turned t hs,h3.turned t hs,h4.turned t hs,h5.turned t hs⟩
theorem SetHead.below{w w':World}{b o:Nat}{s:SetD}{vd:Value}(h:SetHead w b o s vd)(t:Below w.heap.size w w'):SetHead w' b o s vd:=
 h.turned (Turned.of_below (S:=fun _=>False) t) (fun h=>h)
theorem SetHead.set{w:World}{b o:Nat}{s:SetD}{vd:Value}(h:SetHead w b o s vd)(u:Value):SetHead (w.setCell ⟨b,o+5,none⟩ u) b o s u:=by
 obtain⟨h0,h1,h2,h3,h4,h5⟩:=h
 exact⟨h0.other _ (Or.inr (by omega)),h1.other _ (Or.inr (by omega)),h2.other _ (Or.inr (by omega)),h3.other _ (Or.inr (by omega)),h4.other _ (Or.inr (by omega)),h5.set _⟩
theorem SetHead.other{w:World}{b o o':Nat}{s:SetD}{vd:Value}(h:SetHead w b o s vd)(u:Value)(hne:∀r,r<6→o'≠o+r):SetHead (w.setCell ⟨b,o',none⟩ u) b o s vd:=by
 obtain⟨h0,h1,h2,h3,h4,h5⟩:=h
 exact⟨h0.other _ (Or.inr (hne 0 (by omega))),h1.other _ (Or.inr (hne 1 (by omega))),h2.other _ (Or.inr (hne 2 (by omega))),h3.other _ (Or.inr (hne 3 (by omega))),h4.other _ (Or.inr (hne 4 (by omega))),h5.other _ (Or.inr (hne 5 (by omega)))⟩
structure HalfSet (wr:World) (bs L n k:Nat) (f:Nat→SetD) (kb:Nat→Nat) (kv cv:Nat→Value):Prop where
 heads:∀j,j<n→SetHead wr bs (j*6) (f j) (if j<k then kv j else cv j)
 dead:∀j,j<k→PtrsOwn wr (kb j) (kv j) (f j).dn (f j).ds (f j).db
 place:∀j,j<k→0<(f j).dn→L≤kb j∧kb j<wr.heap.size
 apart:SetsApart kb k f
 lt:0<n→bs<L
theorem HalfSet.below{wr w':World}{bs L n k:Nat}{f:Nat→SetD}{kb:Nat→Nat}{kv cv:Nat→Value}(h:HalfSet wr bs L n k f kb kv cv)(t:Below wr.heap.size wr w'):HalfSet w' bs L n k f kb kv cv:=
 ⟨fun j hj=>(h.heads j hj).below t,fun j hj=>(h.dead j hj).below t,fun j hj h0=>by have:=h.place j hj h0; have:=t.size; omega,h.apart,h.lt⟩
theorem HalfSet.turned{S:Nat→Prop}{wr w':World}{bs L n k:Nat}{f:Nat→SetD}{kb:Nat→Nat}{kv cv:Nat→Value}(h:HalfSet wr bs L n k f kb kv cv)(t:Turned S wr w')(hs:∀q,S q→(0<n→q≠bs)∧q<L)(hk:k≤n):HalfSet w' bs L n k f kb kv cv:=
 ⟨fun j hj=>(h.heads j hj).turned t (fun e=>(hs _ e).1 (by omega) rfl),fun j hj=>(h.dead j hj).turned t (fun h0 e=>by have:=h.place j hj h0; have:=(hs _ e).2; omega),fun j hj h0=>by have:=h.place j hj h0; have:=t.size; omega,h.apart,h.lt⟩
theorem HalfSet.next{wr w1:World}{bs L n k b:Nat}{f:Nat→SetD}{kb:Nat→Nat}{kv cv:Nat→Value}{v:Value}(h:HalfSet wr bs L n k f kb kv cv)(hk:k<n)(hL:L≤wr.heap.size)(t:Below wr.heap.size wr w1)
  (hp:PtrsOwn w1 b v (f k).dn (f k).ds (f k).db) (hb:0<(f k).dn→wr.heap.size≤b∧b<w1.heap.size) :
  HalfSet (w1.setCell ⟨bs,k*6+5,none⟩ v) bs L n (k+1) f (fun j=>if j=k then b else kb j) (fun j=>if j=k then v else kv j) cv:=by
 have h':=h.below t
 have hlt:=h.lt (by omega)
 refine⟨fun j hj=>?_,fun j hj=>?_,fun j hj h0=>?_,fun i j hi hj hij h1 h2=>?_,h.lt⟩
 ·have hh:=h'.heads j hj
  by_cases e:j=k
  ·subst e
   rw [if_pos (by omega),if_pos rfl]
   exact hh.set v
  ·rw [if_neg e]
   have es:(if j<k+1 then kv j else cv j)=if j<k then kv j else cv j:=by
    by_cases e2:j<k
    ·rw [if_pos e2,if_pos (by omega)]
    ·rw [if_neg e2,if_neg (by omega)]
   rw [es]
   exact hh.other v (fun r hr=>by omega)
 ·by_cases e:j=k
  ·subst e
   simp only [if_true]
   exact hp.turned (Turned.put _ _ _ _) (fun h0 hx=>by have:=hb h0; omega)
  ·simp only [if_neg e]
   exact(h'.dead j (by omega)).turned (Turned.put _ _ _ _) (fun h0 hx=>by have:=h'.place j (by omega) h0; omega)
 ·simp only [World.size_setCell]
  by_cases e:j=k
  ·subst e
   rw [if_pos rfl]
   have:=hb h0
   omega
  ·rw [if_neg e]
   have:=h'.place j (by omega) h0
   omega
 ·show(if i=k then b else kb i)≠(if j=k then b else kb j)
  by_cases e1:i=k
  ·by_cases e2:j=k
   ·omega
   ·rw [if_pos e1,if_neg e2]
    subst e1
    have:=hb h1
    have:=h.place j (by omega) h2
    omega
  ·by_cases e2:j=k
   ·rw [if_neg e1,if_pos e2]
    subst e2
    have:=hb h2
    have:=h.place i (by omega) h1
    omega
   ·rw [if_neg e1,if_neg e2]
    exact h.apart i j (by omega) (by omega) hij h1 h2
theorem HalfSet.own{wr:World}{bs L n c:Nat}{f:Nat→SetD}{kb:Nat→Nat}{kv cv:Nat→Value}{a:Option Addr}(h:HalfSet wr bs L n n f kb kv cv)(hm:n≤maxLen)(ha:0<n→a=some ⟨bs,0,none⟩)(hc:n≤c)(hs:∀i,i<n→(f i).name.size≤maxLen):SetsOwn wr bs kb kv (.slice a n c) n f:=
 ⟨hm,a,c,rfl,hc,fun h0=>⟨0,ha h0,fun i hi=>by
  obtain⟨h0,h1,h2,h3,h4,h5⟩:=h.heads i hi
  rw [if_pos hi] at h5
  rw [Nat.zero_add]
  exact⟨h0,h1,h2,h3,h4,h5,h.dead i hi,hs i hi,fun hk e=>by have:=h.place i hi hk; have:=h.lt (by omega); omega⟩⟩⟩
theorem HalfSet.turned0{S:Nat→Prop}{wr w':World}{bs L n:Nat}{f:Nat→SetD}{kb:Nat→Nat}{kv cv:Nat→Value}(h:HalfSet wr bs L n 0 f kb kv cv)(t:Turned S wr w')(hs:∀q,S q→0<n→q≠bs):HalfSet w' bs L n 0 f kb kv cv:=
 ⟨fun j hj=>(h.heads j hj).turned t (fun e=>hs _ e (by omega) rfl),fun j hj=>absurd hj (Nat.not_lt_zero _),fun j hj=>absurd hj (Nat.not_lt_zero _),h.apart,h.lt⟩
theorem HalfSet.weak{wr:World}{bs L L' n:Nat}{f:Nat→SetD}{kb:Nat→Nat}{kv cv:Nat→Value}(h:HalfSet wr bs L n 0 f kb kv cv)(hL:L≤L'):HalfSet wr bs L' n 0 f kb kv cv:=
 ⟨h.heads,h.dead,fun j hj=>absurd hj (Nat.not_lt_zero _),h.apart,fun h0=>Nat.lt_of_lt_of_le (h.lt h0) hL⟩
theorem SetsAt.values{w:World}{lo hi:Nat}{a:Option Addr}{n c:Nat}{f:Nat→SetD}(h:SetsAt w lo hi (.slice a n c) n f) :
  ∃cv:Nat→Value,(∀i,i<n→PtrsAt w lo hi (cv i) (f i).dn (f i).ds (f i).db∧(f i).name.size≤maxLen)∧
   (0<n→∃b off,a=some ⟨b,off,none⟩∧∀j u,(clSet f cv n)[j]?=some u→w.cell? ⟨b,off+j,none⟩=some u):=by
 obtain⟨_,a0,c0,h0,_,g⟩:=h
 simp only [Value.slice.injEq,true_and] at h0
 obtain⟨rfl,rfl⟩:=h0
 by_cases hn:0<n
 ·obtain⟨b,off,ha,hb1,hb2,hc⟩:=g hn
  have hex:∀i,∃x,i<n→SetCells w b (off+i*6) lo hi x (f i):=fun i=>by
   by_cases hi:i<n
   ·obtain⟨vd,hs⟩:=hc i hi
    exact⟨vd,fun _=>hs⟩
   ·exact⟨.slice none 0 0,fun h=>absurd h hi⟩
  obtain⟨cv,hcv⟩:=Classical.axiomOfChoice hex
  refine⟨cv,fun i hi=>⟨(hcv i hi).dead,(hcv i hi).small⟩,fun _=>⟨b,off,ha,fun j u hj=>?_⟩⟩
  have hlt:j<n*6:=by
   have:=(List.getElem?_eq_some_iff.1 hj).1
   rwa [clSet_len] at this
  have hs:=hcv (j / 6) (by omega)
  have e:=clSet_at f cv n (i:=j / 6) (r:=j % 6) (by omega) (by omega)
  rw [show j / 6*6+j % 6=j by omega,hj] at e
  have hr:j % 6<6:=by omega
  have ho:off+j=off+j / 6*6+j % 6:=by omega
  rw [ho]
  generalize j % 6=r at hr e ⊢
  generalize j / 6=q at hs e ⊢
  rcases r with _ | _ | _ | _ | _ | _ | r
  ·cases e; exact hs.c0
  ·cases e; exact hs.c1
  ·cases e; exact hs.c2
  ·cases e; exact hs.c3
  ·cases e; exact hs.c4
  ·cases e; exact hs.c5
  ·omega
 ·exact⟨fun _=>.slice none 0 0,fun i hi=>absurd hi (by omega),fun h=>absurd h hn⟩
theorem halfSet_start{w1:World}{base n:Nat}{v:Value}{f:Nat→SetD}{cv:Nat→Value}(hown:w1.ownsRow base 90 6 v n (clSet f cv n))(L:Nat)(hL:w1.heap.size≤L):∃bs a c,v = .slice a n c∧n≤c∧(0<n→a=some ⟨bs,0,none⟩∧base≤bs∧bs<w1.heap.size)∧HalfSet w1 bs L n 0 f (fun _=>0) cv cv:=by
 obtain⟨a1,c1,rfl,hnc⟩:=owns_form hown
 by_cases h0:0<n
 ·obtain⟨g,cap,hv,_,hg1,hg2,hcell⟩:=owns_cell hown h0
  simp only [Value.slice.injEq,true_and] at hv
  obtain⟨rfl,rfl⟩:=hv
  refine⟨g,_,_,rfl,hnc,fun _=>⟨rfl,hg1,hg2⟩,fun j hj=>?_,fun j hj=>absurd hj (Nat.not_lt_zero _),fun j hj=>absurd hj (Nat.not_lt_zero _),fun i j hi=>absurd hi (Nat.not_lt_zero _),fun _=>by omega⟩
  rw [if_neg (Nat.not_lt_zero _)]
  exact⟨hcell _ _ (clSet_at f cv n hj (r:=0) (by omega)),hcell _ _ (clSet_at f cv n hj (r:=1) (by omega)),hcell _ _ (clSet_at f cv n hj (r:=2) (by omega)),hcell _ _ (clSet_at f cv n hj (r:=3) (by omega)),hcell _ _ (clSet_at f cv n hj (r:=4) (by omega)),hcell _ _ (clSet_at f cv n hj (r:=5) (by omega))⟩
 ·exact⟨0,_,_,rfl,hnc,fun h=>absurd h h0,fun j hj=>absurd hj (by omega),fun j hj=>absurd hj (Nat.not_lt_zero _),fun j hj=>absurd hj (Nat.not_lt_zero _),fun i j hi=>absurd hi (Nat.not_lt_zero _),fun h=>absurd h h0⟩
def cellSnap(f:Nat→SnapD)(cv:Nat→Value)(i r:Nat):Value:=
 match r with
 | 0=>.int .i64 (f i).id
 | 1=>.string (f i).name
 | 2=>.string (f i).set
 | 3=>.int .i64 (f i).prev
 | 4=>.int .i64 (f i).time
 | 5=>.int .i64 (f i).rs
 | 6=>.int .i64 (f i).rb
 | _=>cv i
def clSnap(f:Nat→SnapD)(cv:Nat→Value)(n:Nat):List Value:=(List.range (n*8)).map fun j=>cellSnap f cv (j / 8) (j % 8)
theorem clSnap_len(f:Nat→SnapD)(cv:Nat→Value)(n:Nat):(clSnap f cv n).length=n*8:=by simp [clSnap]
theorem clSnap_at(f:Nat→SnapD)(cv:Nat→Value)(n:Nat){i r:Nat}(hi:i<n)(hr:r<8):(clSnap f cv n)[i*8+r]?=some (cellSnap f cv i r):=by
 have h:i*8+r<n*8:=by omega
 have h1:(i*8+r) / 8=i:=by omega
 have h2:(i*8+r) % 8=r:=by omega
 simp [clSnap,h,h1,h2]
theorem clSnap_one(f:Nat→SnapD)(cv:Nat→Value)(n:Nat)(h:∀i,i<n→(cv i).oneCell'=true):∀u∈clSnap f cv n,u.oneCell'=true:=by
 intro u hu
 unfold clSnap at hu
 obtain⟨j,hj,rfl⟩:=List.mem_map.1 hu
 have hj':=List.mem_range.1 hj
 have hi:j / 8<n:=by omega
 have hr:j % 8<8:=by omega
 generalize j % 8=r at hr ⊢
 rcases r with _ | _ | _ | _ | _ | _ | _ | _ <;> first | rfl | exact h _ hi
def SnapHead(w:World)(b o:Nat)(s:SnapD)(vd:Value):Prop:=Cell w b o (.int .i64 s.id)∧Cell w b (o+1) (.string s.name)∧Cell w b (o+2) (.string s.set)∧Cell w b (o+3) (.int .i64 s.prev)∧Cell w b (o+4) (.int .i64 s.time)∧Cell w b (o+5) (.int .i64 s.rs)∧Cell w b (o+6) (.int .i64 s.rb)∧Cell w b (o+7) vd
theorem SnapHead.turned{S:Nat→Prop}{w w':World}{b o:Nat}{s:SnapD}{vd:Value}(h:SnapHead w b o s vd)(t:Turned S w w')(hs:¬S b):SnapHead w' b o s vd:=by
 obtain⟨h0,h1,h2,h3,h4,h5,h6,h7⟩:=h
 exact⟨h0.turned t hs,h1.turned t hs,h2.turned t hs,h3.turned t hs,h4.turned t hs,h5.turned t hs,h6.turned t hs,h7.turned t hs⟩
theorem SnapHead.below{w w':World}{b o:Nat}{s:SnapD}{vd:Value}(h:SnapHead w b o s vd)(t:Below w.heap.size w w'):SnapHead w' b o s vd:=
 h.turned (Turned.of_below (S:=fun _=>False) t) (fun h=>h)
theorem SnapHead.set{w:World}{b o:Nat}{s:SnapD}{vd:Value}(h:SnapHead w b o s vd)(u:Value):SnapHead (w.setCell ⟨b,o+7,none⟩ u) b o s u:=by
 obtain⟨h0,h1,h2,h3,h4,h5,h6,h7⟩:=h
 exact⟨h0.other _ (Or.inr (by omega)),h1.other _ (Or.inr (by omega)),h2.other _ (Or.inr (by omega)),h3.other _ (Or.inr (by omega)),h4.other _ (Or.inr (by omega)),h5.other _ (Or.inr (by omega)),h6.other _ (Or.inr (by omega)),h7.set _⟩
theorem SnapHead.other{w:World}{b o o':Nat}{s:SnapD}{vd:Value}(h:SnapHead w b o s vd)(u:Value)(hne:∀r,r<8→o'≠o+r):SnapHead (w.setCell ⟨b,o',none⟩ u) b o s vd:=by
 obtain⟨h0,h1,h2,h3,h4,h5,h6,h7⟩:=h
 exact⟨h0.other _ (Or.inr (hne 0 (by omega))),h1.other _ (Or.inr (hne 1 (by omega))),h2.other _ (Or.inr (hne 2 (by omega))),h3.other _ (Or.inr (hne 3 (by omega))),h4.other _ (Or.inr (hne 4 (by omega))),h5.other _ (Or.inr (hne 5 (by omega))),h6.other _ (Or.inr (hne 6 (by omega))),h7.other _ (Or.inr (hne 7 (by omega)))⟩
structure HalfSnap (wr:World) (bs L n k:Nat) (f:Nat→SnapD) (kb:Nat→Nat) (kv cv:Nat→Value):Prop where
 heads:∀j,j<n→SnapHead wr bs (j*8) (f j) (if j<k then kv j else cv j)
 dead:∀j,j<k→PtrsOwn wr (kb j) (kv j) (f j).dn (f j).ds (f j).db
 place:∀j,j<k→0<(f j).dn→L≤kb j∧kb j<wr.heap.size
 apart:SnapsApart kb k f
 lt:0<n→bs<L
theorem HalfSnap.below{wr w':World}{bs L n k:Nat}{f:Nat→SnapD}{kb:Nat→Nat}{kv cv:Nat→Value}(h:HalfSnap wr bs L n k f kb kv cv)(t:Below wr.heap.size wr w'):HalfSnap w' bs L n k f kb kv cv:=
 ⟨fun j hj=>(h.heads j hj).below t,fun j hj=>(h.dead j hj).below t,fun j hj h0=>by have:=h.place j hj h0; have:=t.size; omega,h.apart,h.lt⟩
theorem HalfSnap.turned{S:Nat→Prop}{wr w':World}{bs L n k:Nat}{f:Nat→SnapD}{kb:Nat→Nat}{kv cv:Nat→Value}(h:HalfSnap wr bs L n k f kb kv cv)(t:Turned S wr w')(hs:∀q,S q→(0<n→q≠bs)∧q<L)(hk:k≤n):HalfSnap w' bs L n k f kb kv cv:=
 ⟨fun j hj=>(h.heads j hj).turned t (fun e=>(hs _ e).1 (by omega) rfl),fun j hj=>(h.dead j hj).turned t (fun h0 e=>by have:=h.place j hj h0; have:=(hs _ e).2; omega),fun j hj h0=>by have:=h.place j hj h0; have:=t.size; omega,h.apart,h.lt⟩
theorem HalfSnap.next{wr w1:World}{bs L n k b:Nat}{f:Nat→SnapD}{kb:Nat→Nat}{kv cv:Nat→Value}{v:Value}(h:HalfSnap wr bs L n k f kb kv cv)(hk:k<n)(hL:L≤wr.heap.size)(t:Below wr.heap.size wr w1)
  (hp:PtrsOwn w1 b v (f k).dn (f k).ds (f k).db) (hb:0<(f k).dn→wr.heap.size≤b∧b<w1.heap.size) :
  HalfSnap (w1.setCell ⟨bs,k*8+7,none⟩ v) bs L n (k+1) f (fun j=>if j=k then b else kb j) (fun j=>if j=k then v else kv j) cv:=by
 have h':=h.below t
 have hlt:=h.lt (by omega)
 refine⟨fun j hj=>?_,fun j hj=>?_,fun j hj h0=>?_,fun i j hi hj hij h1 h2=>?_,h.lt⟩
 ·have hh:=h'.heads j hj
  by_cases e:j=k
  ·subst e
   rw [if_pos (by omega),if_pos rfl]
   exact hh.set v
  ·rw [if_neg e]
   have es:(if j<k+1 then kv j else cv j)=if j<k then kv j else cv j:=by
    by_cases e2:j<k
    ·rw [if_pos e2,if_pos (by omega)]
    ·rw [if_neg e2,if_neg (by omega)]
   rw [es]
   exact hh.other v (fun r hr=>by omega)
 ·by_cases e:j=k
  ·subst e
   simp only [if_true]
   exact hp.turned (Turned.put _ _ _ _) (fun h0 hx=>by have:=hb h0; omega)
  ·simp only [if_neg e]
   exact(h'.dead j (by omega)).turned (Turned.put _ _ _ _) (fun h0 hx=>by have:=h'.place j (by omega) h0; omega)
 ·simp only [World.size_setCell]
  by_cases e:j=k
  ·subst e
   rw [if_pos rfl]
   have:=hb h0
   omega
  ·rw [if_neg e]
   have:=h'.place j (by omega) h0
   omega
 ·show(if i=k then b else kb i)≠(if j=k then b else kb j)
  by_cases e1:i=k
  ·by_cases e2:j=k
   ·omega
   ·rw [if_pos e1,if_neg e2]
    subst e1
    have:=hb h1
    have:=h.place j (by omega) h2
    omega
  ·by_cases e2:j=k
   ·rw [if_neg e1,if_pos e2]
    subst e2
    have:=hb h2
    have:=h.place i (by omega) h1
    omega
   ·rw [if_neg e1,if_neg e2]
    exact h.apart i j (by omega) (by omega) hij h1 h2
theorem HalfSnap.own{wr:World}{bs L n c:Nat}{f:Nat→SnapD}{kb:Nat→Nat}{kv cv:Nat→Value}{a:Option Addr}(h:HalfSnap wr bs L n n f kb kv cv)(hm:n≤maxLen)(ha:0<n→a=some ⟨bs,0,none⟩)(hc:n≤c)(hs:∀i,i<n→((f i).name.size≤maxLen∧(f i).set.size≤maxLen)):SnapsOwn wr bs kb kv (.slice a n c) n f:=
 ⟨hm,a,c,rfl,hc,fun h0=>⟨0,ha h0,fun i hi=>by
  obtain⟨h0,h1,h2,h3,h4,h5,h6,h7⟩:=h.heads i hi
  rw [if_pos hi] at h7
  rw [Nat.zero_add]
  exact⟨h0,h1,h2,h3,h4,h5,h6,h7,h.dead i hi,hs i hi,fun hk e=>by have:=h.place i hi hk; have:=h.lt (by omega); omega⟩⟩⟩
theorem HalfSnap.turned0{S:Nat→Prop}{wr w':World}{bs L n:Nat}{f:Nat→SnapD}{kb:Nat→Nat}{kv cv:Nat→Value}(h:HalfSnap wr bs L n 0 f kb kv cv)(t:Turned S wr w')(hs:∀q,S q→0<n→q≠bs):HalfSnap w' bs L n 0 f kb kv cv:=
 ⟨fun j hj=>(h.heads j hj).turned t (fun e=>hs _ e (by omega) rfl),fun j hj=>absurd hj (Nat.not_lt_zero _),fun j hj=>absurd hj (Nat.not_lt_zero _),h.apart,h.lt⟩
theorem HalfSnap.weak{wr:World}{bs L L' n:Nat}{f:Nat→SnapD}{kb:Nat→Nat}{kv cv:Nat→Value}(h:HalfSnap wr bs L n 0 f kb kv cv)(hL:L≤L'):HalfSnap wr bs L' n 0 f kb kv cv:=
 ⟨h.heads,h.dead,fun j hj=>absurd hj (Nat.not_lt_zero _),h.apart,fun h0=>Nat.lt_of_lt_of_le (h.lt h0) hL⟩
theorem SnapsAt.values{w:World}{lo hi:Nat}{a:Option Addr}{n c:Nat}{f:Nat→SnapD}(h:SnapsAt w lo hi (.slice a n c) n f) :
  ∃cv:Nat→Value,(∀i,i<n→PtrsAt w lo hi (cv i) (f i).dn (f i).ds (f i).db∧((f i).name.size≤maxLen∧(f i).set.size≤maxLen))∧
   (0<n→∃b off,a=some ⟨b,off,none⟩∧∀j u,(clSnap f cv n)[j]?=some u→w.cell? ⟨b,off+j,none⟩=some u):=by
 obtain⟨_,a0,c0,h0,_,g⟩:=h
 simp only [Value.slice.injEq,true_and] at h0
 obtain⟨rfl,rfl⟩:=h0
 by_cases hn:0<n
 ·obtain⟨b,off,ha,hb1,hb2,hc⟩:=g hn
  have hex:∀i,∃x,i<n→SnapCells w b (off+i*8) lo hi x (f i):=fun i=>by
   by_cases hi:i<n
   ·obtain⟨vd,hs⟩:=hc i hi
    exact⟨vd,fun _=>hs⟩
   ·exact⟨.slice none 0 0,fun h=>absurd h hi⟩
  obtain⟨cv,hcv⟩:=Classical.axiomOfChoice hex
  refine⟨cv,fun i hi=>⟨(hcv i hi).dead,(hcv i hi).small⟩,fun _=>⟨b,off,ha,fun j u hj=>?_⟩⟩
  have hlt:j<n*8:=by
   have:=(List.getElem?_eq_some_iff.1 hj).1
   rwa [clSnap_len] at this
  have hs:=hcv (j / 8) (by omega)
  have e:=clSnap_at f cv n (i:=j / 8) (r:=j % 8) (by omega) (by omega)
  rw [show j / 8*8+j % 8=j by omega,hj] at e
  have hr:j % 8<8:=by omega
  have ho:off+j=off+j / 8*8+j % 8:=by omega
  rw [ho]
  generalize j % 8=r at hr e ⊢
  generalize j / 8=q at hs e ⊢
  rcases r with _ | _ | _ | _ | _ | _ | _ | _ | r
  ·cases e; exact hs.c0
  ·cases e; exact hs.c1
  ·cases e; exact hs.c2
  ·cases e; exact hs.c3
  ·cases e; exact hs.c4
  ·cases e; exact hs.c5
  ·cases e; exact hs.c6
  ·cases e; exact hs.c7
  ·omega
 ·exact⟨fun _=>.slice none 0 0,fun i hi=>absurd hi (by omega),fun h=>absurd h hn⟩
theorem halfSnap_start{w1:World}{base n:Nat}{v:Value}{f:Nat→SnapD}{cv:Nat→Value}(hown:w1.ownsRow base 92 8 v n (clSnap f cv n))(L:Nat)(hL:w1.heap.size≤L):∃bs a c,v = .slice a n c∧n≤c∧(0<n→a=some ⟨bs,0,none⟩∧base≤bs∧bs<w1.heap.size)∧HalfSnap w1 bs L n 0 f (fun _=>0) cv cv:=by
 obtain⟨a1,c1,rfl,hnc⟩:=owns_form hown
 by_cases h0:0<n
 ·obtain⟨g,cap,hv,_,hg1,hg2,hcell⟩:=owns_cell hown h0
  simp only [Value.slice.injEq,true_and] at hv
  obtain⟨rfl,rfl⟩:=hv
  refine⟨g,_,_,rfl,hnc,fun _=>⟨rfl,hg1,hg2⟩,fun j hj=>?_,fun j hj=>absurd hj (Nat.not_lt_zero _),fun j hj=>absurd hj (Nat.not_lt_zero _),fun i j hi=>absurd hi (Nat.not_lt_zero _),fun _=>by omega⟩
  rw [if_neg (Nat.not_lt_zero _)]
  exact⟨hcell _ _ (clSnap_at f cv n hj (r:=0) (by omega)),hcell _ _ (clSnap_at f cv n hj (r:=1) (by omega)),hcell _ _ (clSnap_at f cv n hj (r:=2) (by omega)),hcell _ _ (clSnap_at f cv n hj (r:=3) (by omega)),hcell _ _ (clSnap_at f cv n hj (r:=4) (by omega)),hcell _ _ (clSnap_at f cv n hj (r:=5) (by omega)),hcell _ _ (clSnap_at f cv n hj (r:=6) (by omega)),hcell _ _ (clSnap_at f cv n hj (r:=7) (by omega))⟩
 ·exact⟨0,_,_,rfl,hnc,fun h=>absurd h h0,fun j hj=>absurd hj (by omega),fun j hj=>absurd hj (Nat.not_lt_zero _),fun j hj=>absurd hj (Nat.not_lt_zero _),fun i j hi=>absurd hi (Nat.not_lt_zero _),fun h=>absurd h h0⟩
def DeadsN(W:WorldD):Prop:=(∀i,i<W.sn→(W.sets i).dn≤1048576)∧∀i,i<W.pn→(W.snaps i).dn≤1048576
end Go.Proofs.YtihplgckbhnohaaGreatDoor

namespace Go.Proofs.YtihplgckbhnohaaGreatDoor
open Go.RowKit
set_option linter.unusedVariables false
theorem IntsAt.take{w:World}{lo hi:Nat}{a:Option Addr}{n c m c':Nat}{f:Nat→Int}(h:IntsAt w lo hi (.slice a n c) n f)(hm:m≤n)(hc:m≤c'):IntsAt w lo hi (.slice a m c') m f:=by
 obtain⟨h0,a2,cap,hv,hcc,hx⟩:=h
 simp only [Value.slice.injEq,true_and] at hv
 obtain⟨rfl,rfl⟩:=hv
 refine⟨by omega,a,c',rfl,hc,fun h0=>?_⟩
 obtain⟨b,off,ha,h1,h2,h3⟩:=hx (by omega)
 exact⟨b,off,ha,h1,h2,fun i hi=>h3 i (by omega)⟩
structure SlotCells (w:World) (b o:Nat) (lo hi:Nat) (ka:Option Addr) (kc:Nat) (s:SlotD):Prop where
 c0:w.cell? ⟨b,o,none⟩=some (.int .i64 s.birth)
 c1:w.cell? ⟨b,o+1,none⟩=some (.slice ka s.kn kc)
 c2:w.cell? ⟨b,o+2,none⟩=some (.string s.data)
 slot:SlotAt w lo hi (.int .i64 s.birth) (.slice ka s.kn kc) (.string s.data) s
theorem SlotCells.below{w w':World}{b o lo hi:Nat}{ka:Option Addr}{kc:Nat}{s:SlotD}(h:SlotCells w b o lo hi ka kc s)(t:Below w.heap.size w w'):SlotCells w' b o lo hi ka kc s:=
 ⟨(t.cell (lt_of_cell h.c0)).trans h.c0,(t.cell (lt_of_cell h.c1)).trans h.c1,(t.cell (lt_of_cell h.c2)).trans h.c2,h.slot.below t⟩
theorem SlotsAt.cells{w:World}{lo hi:Nat}{a:Option Addr}{n c:Nat}{f:Nat→SlotD}(h:SlotsAt w lo hi (.slice a n c) n f){i:Nat}(hi':i<n) :
  ∃b off ka kc,a=some ⟨b,off,none⟩∧SlotCells w b (off+i*3) lo hi ka kc (f i):=by
 obtain⟨h0,a2,cap,hv,hcc,hx⟩:=h
 simp only [Value.slice.injEq,true_and] at hv
 obtain⟨rfl,rfl⟩:=hv
 obtain⟨b,off,ha,h1,h2,h3⟩:=hx (by omega)
 obtain⟨v0,v1,v2,c0,c1,c2,hs⟩:=h3 i hi'
 have hs':=hs
 obtain⟨rfl,⟨_,ka,kc,rfl,_⟩,rfl,_⟩:=hs
 exact⟨b,off,ka,kc,ha,⟨c0,c1,c2,hs'⟩⟩
theorem bool_no{P:Prop}{t:Bool}(ht:t=true↔P)(h:¬P):t=false:=Bool.eq_false_iff.2 (fun e=>h (ht.1 e))
def Free(s:SlotD):Prop:=s.birth=0∧s.kn=0∧s.data.toList.isEmpty=true
def BirthOk(n:Int):Prop:=1≤n∧n≤1000000
def Points(p:PoolD)(xs xb:Int):Prop:=1≤xb∧0≤xs∧xs<p.n∧(p.s xs.toNat).birth=xb
def KidOk(p:PoolD)(b:Int)(xs xb:Int):Prop:=(xs=0∧xb=0)∨(Points p xs xb∧xb≤b)
def Fits(p:PoolD)(s:SlotD):Prop:=BirthOk s.birth∧((s.kn=0∧s.data.size=16)∨(s.kn=8∧s.data.toList.isEmpty=true∧∀i,i<s.kn→KidOk p s.birth (s.ks i) (s.kb i)))
def Has(n:Nat)(f:Nat→Int)(x:Int):Prop:=∃j,j<n∧f j=x
def HeldOk(p:PoolD)(i:Nat):Prop:=0≤p.h i∧p.h i<p.n∧¬Free (p.s (p.h i).toNat)∧¬Has i p.h (p.h i)
def Right(p:PoolD):Prop:=p.n≤200∧(∀i,i<p.n→Free (p.s i)∨Fits p (p.s i))∧∀i,i<p.hn→HeldOk p i
set_option maxRecDepth 20000 in
set_option maxHeartbeats 400000 in
theorem l01Free_any(v0 v1 v2:Value)(lo hi:Nat)(s:SlotD)(w:World)(h1:SlotAt w lo hi v0 v1 v2 s) :
  Calls Tryz.prog 28 #[.agg #[v0,v1,v2]] w fun e w'=>BoolIs (Free s) e∧Below w.heap.size w w':=by
 obtain⟨rfl,⟨m1,a,c,rfl,_⟩,rfl,_⟩:=h1
 unfold maxLen at m1
 have hbw:=(Below.refl w.heap.size w).alloc (Nat.le_refl _) (.cells #[.int .i64 s.birth,.slice a s.kn c,.string s.data] 66)
 by_cases h1:s.birth=0
 ·by_cases h2:s.kn=0
  ·by_cases h3:s.data.toList.isEmpty=true
   ·have H:Hid (Free s):=⟨h1,h2,h3⟩
    have e1:(s.birth == 0)=true:=by simp [h1]
    have e2:((s.kn:Int) == 0)=true:=by simp [h2]
    clear h1 h2
    go_enter Tryz.func28,Tryz.ntmps28
    go_wp2
    go_ret
    exact⟨BoolIs.yes H.out,hbw⟩
   ·have H:Hid (¬Free s):=fun h=>h3 h.2.2
    have e1:(s.birth == 0)=true:=by simp [h1]
    have e2:((s.kn:Int) == 0)=true:=by simp [h2]
    have e3:s.data.toList.isEmpty=false:=by simpa using h3
    clear h1 h2 h3
    go_enter Tryz.func28,Tryz.ntmps28
    go_wp2
    go_ret
    exact⟨BoolIs.no H.out,hbw⟩
  ·have H:Hid (¬Free s):=fun h=>h2 h.2.1
   have e1:(s.birth == 0)=true:=by simp [h1]
   have e2:((s.kn:Int) == 0)=false:=by simp; omega
   clear h1 h2
   go_enter Tryz.func28,Tryz.ntmps28
   go_wp2
   go_ret
   exact⟨BoolIs.no H.out,hbw⟩
 ·have H:Hid (¬Free s):=fun h=>h1 h.1
  have e1:(s.birth == 0)=false:=by simp [h1]
  clear h1
  go_enter Tryz.func28,Tryz.ntmps28
  go_wp2
  go_ret
  exact⟨BoolIs.no H.out,hbw⟩
set_option maxRecDepth 20000 in
set_option maxHeartbeats 400000 in
theorem l01Birth_any(n:Int)(w:World):Calls Tryz.prog 105 #[.int .i64 n] w fun e w'=>BoolIs (BirthOk n) e∧w'=w:=by
 by_cases h1:1≤n
 ·by_cases h2:n≤1000000
  ·go_enter Tryz.func105,Tryz.ntmps105
   go_wp2
   go_ret
   exact⟨BoolIs.yes ⟨h1,h2⟩,rfl⟩
  ·go_enter Tryz.func105,Tryz.ntmps105
   go_wp2
   go_ret
   exact⟨BoolIs.no fun h=>by have:=h.2; omega,rfl⟩
 ·go_enter Tryz.func105,Tryz.ntmps105
  go_wp2
  go_ret
  exact⟨BoolIs.no fun h=>by have:=h.1; omega,rfl⟩
set_option maxRecDepth 20000 in
set_option maxHeartbeats 400000 in
theorem l01None_any(a b:Int)(w:World):Calls Tryz.prog 97 #[.agg #[.int .i64 a,.int .i64 b]] w fun e w'=>BoolIs (PtrEq a b 0 0) e∧Below w.heap.size w w':=by
 have hbw:=(Below.refl w.heap.size w).alloc (Nat.le_refl _) (.cells #[.int .i64 a,.int .i64 b] 88)
 by_cases h1:a=0
 ·by_cases h2:b=0
  ·subst h1 h2
   go_enter Tryz.func97,Tryz.ntmps97
   go_wp2
   go_ret
   exact⟨BoolIs.yes ⟨rfl,rfl⟩,hbw⟩
  ·subst h1
   have H:Hid (¬PtrEq 0 b 0 0):=fun h=>h2 h.2
   have e2:(b == 0)=false:=by simp [h2]
   clear h2
   go_enter Tryz.func97,Tryz.ntmps97
   go_wp2
   go_ret
   exact⟨BoolIs.no H.out,hbw⟩
 ·have H:Hid (¬PtrEq a b 0 0):=fun h=>h1 h.1
  have e2:(a == 0)=false:=by simp [h1]
  clear h1
  go_enter Tryz.func97,Tryz.ntmps97
  go_wp2
  go_ret
  exact⟨BoolIs.no H.out,hbw⟩
set_option maxRecDepth 20000 in
set_option maxHeartbeats 400000 in
theorem l01Has_any(v:Value)(n lo hi:Nat)(f:Nat→Int)(x:Int)(w:World)(h1:IntsAt w lo hi v n f) :
  Calls Tryz.prog 72 #[v,.int .i64 x] w fun e w'=>BoolIs (Has n f x) e∧w'=w:=by
 obtain⟨m1,a,c,rfl,mc,g1⟩:=h1
 unfold maxLen at m1
 have G1:Hid (0<n→∃b off,a=some ⟨b,off,none⟩∧lo≤b∧b<hi∧∀i,i<n→w.cell? ⟨b,off+i,none⟩=some (.int .i64 (f i))):=g1
 clear g1
 go_enter Tryz.func72,Tryz.ntmps72
 go_wp2
 go_loop [5] (fun i=>∃k:Nat,k≤n∧i = .int .i64 k∧¬Has k f x) (fun i=>n - (intOf i).toNat)
 case atStart=>exact⟨0,Nat.zero_le _,rfl,fun ⟨j,hj,_⟩=>absurd hj (Nat.not_lt_zero _)⟩
 case round=>
  obtain⟨k,hk,rfl,hno⟩:=hrel
  have Hno:Hid (¬Has k f x):=hno
  clear hno
  by_cases hlt:k<n
  ·have hlt':(k:Int)<(n:Int):=by omega
   obtain⟨b,off,rfl,_,_,k1⟩:=G1.out (by omega)
   have hc1:=k1 k hlt
   clear k1 G1
   by_cases he:f k=x
   ·have H:Hid (Has n f x):=⟨k,hlt,he⟩
    have he':(f k == x)=true:=by simp [he]
    clear he
    go_wp2
    go_ret
    exact⟨BoolIs.yes H.out,rfl⟩
   ·have H:Hid (¬f k=x):=he
    have he':(f k == x)=false:=by simp [he]
    clear he
    go_wp2
    go_round
    case rel=>
     refine⟨k+1,by omega,by go_num,?_⟩
     rintro⟨j,hj,hjx⟩
     by_cases e:j=k
     ·subst e; exact H.out hjx
     ·exact Hno.out ⟨j,by omega,hjx⟩
    case measure=>simp [intOf]; omega
  ·obtain rfl:k=n:=by omega
   go_wp2
   go_ret
   exact⟨BoolIs.no Hno.out,rfl⟩
end Go.Proofs.YtihplgckbhnohaaGreatDoor

namespace Go.Proofs.YtihplgckbhnohaaGreatDoor
open Go.RowKit
set_option linter.unusedVariables false
def Page(s:SlotD):Prop:=BirthOk s.birth∧s.kn=0∧s.data.size=16
def Node(s:SlotD):Prop:=BirthOk s.birth∧s.kn=8∧s.data.toList.isEmpty=true
set_option maxRecDepth 20000 in
set_option maxHeartbeats 400000 in
theorem isFree_any(v0 v1 v2:Value)(lo hi:Nat)(s:SlotD)(w:World)(h1:SlotAt w lo hi v0 v1 v2 s) :
  Calls Tryz.prog 108 #[.agg #[v0,v1,v2]] w fun e w'=>BoolIs (Free s) e∧Below w.heap.size w w':=by
 obtain⟨rfl,⟨m1,a,c,rfl,_⟩,rfl,_⟩:=h1
 unfold maxLen at m1
 have hbw:=(Below.refl w.heap.size w).alloc (Nat.le_refl _) (.cells #[.int .i64 s.birth,.slice a s.kn c,.string s.data] 66)
 by_cases h1:s.birth=0
 ·by_cases h2:s.kn=0
  ·by_cases h3:s.data.toList.isEmpty=true
   ·have H:Hid (Free s):=⟨h1,h2,h3⟩
    have e1:(s.birth == 0)=true:=by simp [h1]
    have e2:((s.kn:Int) == 0)=true:=by simp [h2]
    clear h1 h2
    go_enter Tryz.func108,Tryz.ntmps108
    go_wp2
    go_ret
    exact⟨BoolIs.yes H.out,hbw⟩
   ·have H:Hid (¬Free s):=fun h=>h3 h.2.2
    have e1:(s.birth == 0)=true:=by simp [h1]
    have e2:((s.kn:Int) == 0)=true:=by simp [h2]
    have e3:s.data.toList.isEmpty=false:=by simpa using h3
    clear h1 h2 h3
    go_enter Tryz.func108,Tryz.ntmps108
    go_wp2
    go_ret
    exact⟨BoolIs.no H.out,hbw⟩
  ·have H:Hid (¬Free s):=fun h=>h2 h.2.1
   have e1:(s.birth == 0)=true:=by simp [h1]
   have e2:((s.kn:Int) == 0)=false:=by simp; omega
   clear h1 h2
   go_enter Tryz.func108,Tryz.ntmps108
   go_wp2
   go_ret
   exact⟨BoolIs.no H.out,hbw⟩
 ·have H:Hid (¬Free s):=fun h=>h1 h.1
  have e1:(s.birth == 0)=false:=by simp [h1]
  clear h1
  go_enter Tryz.func108,Tryz.ntmps108
  go_wp2
  go_ret
  exact⟨BoolIs.no H.out,hbw⟩
set_option maxRecDepth 20000 in
set_option maxHeartbeats 400000 in
theorem birthRight_any(n:Int)(w:World):Calls Tryz.prog 171 #[.int .i64 n] w fun e w'=>BoolIs (BirthOk n) e∧w'=w:=by
 by_cases h1:1≤n
 ·by_cases h2:n≤1000000
  ·go_enter Tryz.func171,Tryz.ntmps171
   go_wp2
   go_ret
   exact⟨BoolIs.yes ⟨h1,h2⟩,rfl⟩
  ·go_enter Tryz.func171,Tryz.ntmps171
   go_wp2
   go_ret
   exact⟨BoolIs.no fun h=>by have:=h.2; omega,rfl⟩
 ·go_enter Tryz.func171,Tryz.ntmps171
  go_wp2
  go_ret
  exact⟨BoolIs.no fun h=>by have:=h.1; omega,rfl⟩
set_option maxRecDepth 20000 in
set_option maxHeartbeats 400000 in
theorem isPage_any(v0 v1 v2:Value)(lo hi:Nat)(s:SlotD)(w:World)(h1:SlotAt w lo hi v0 v1 v2 s) :
  Calls Tryz.prog 150 #[.agg #[v0,v1,v2]] w fun e w'=>BoolIs (Page s) e∧Below w.heap.size w w':=by
 obtain⟨rfl,⟨m1,a,c,rfl,_⟩,rfl,m2⟩:=h1
 unfold maxLen at m1 m2
 have hbw:=(Below.refl w.heap.size w).alloc (Nat.le_refl _) (.cells #[.int .i64 s.birth,.slice a s.kn c,.string s.data] 66)
 by_cases h1:BirthOk s.birth
 ·have HB:Hid (BirthOk s.birth):=h1
  by_cases h2:s.kn=0
  ·by_cases h3:s.data.size=16
   ·have H:Hid (Page s):=⟨h1,h2,h3⟩
    have e2:((s.kn:Int) == 0)=true:=by simp [h2]
    have e3:((s.data.size:Int) == 16)=true:=by simp [h3]
    clear h1 h2 h3
    go_enter Tryz.func150,Tryz.ntmps150
    go_wp2_with (go_at_call 171; refine(birthRight_any _ _).mono ?_; rintro e w' ⟨⟨t,rfl,ht⟩,rfl⟩; obtain rfl:t=true:=ht.2 HB.out; clear ht)
    go_ret
    exact⟨BoolIs.yes H.out,hbw⟩
   ·have H:Hid (¬Page s):=fun h=>h3 h.2.2
    have e2:((s.kn:Int) == 0)=true:=by simp [h2]
    have e3:((s.data.size:Int) == 16)=false:=by simp; omega
    clear h1 h2 h3
    go_enter Tryz.func150,Tryz.ntmps150
    go_wp2_with (go_at_call 171; refine(birthRight_any _ _).mono ?_; rintro e w' ⟨⟨t,rfl,ht⟩,rfl⟩; obtain rfl:t=true:=ht.2 HB.out; clear ht)
    go_ret
    exact⟨BoolIs.no H.out,hbw⟩
  ·have H:Hid (¬Page s):=fun h=>h2 h.2.1
   have e2:((s.kn:Int) == 0)=false:=by simp; omega
   clear h1 h2
   go_enter Tryz.func150,Tryz.ntmps150
   go_wp2_with (go_at_call 171; refine(birthRight_any _ _).mono ?_; rintro e w' ⟨⟨t,rfl,ht⟩,rfl⟩; obtain rfl:t=true:=ht.2 HB.out; clear ht)
   go_ret
   exact⟨BoolIs.no H.out,hbw⟩
 ·have HB:Hid (¬BirthOk s.birth):=h1
  clear h1
  go_enter Tryz.func150,Tryz.ntmps150
  go_wp2_with (go_at_call 171; refine(birthRight_any _ _).mono ?_; rintro e w' ⟨⟨t,rfl,ht⟩,rfl⟩; obtain rfl:t=false:=bool_no ht HB.out; clear ht)
  go_ret
  exact⟨BoolIs.no fun h=>HB.out h.1,hbw⟩
set_option maxRecDepth 20000 in
set_option maxHeartbeats 400000 in
theorem isNode_any(v0 v1 v2:Value)(lo hi:Nat)(s:SlotD)(w:World)(h1:SlotAt w lo hi v0 v1 v2 s) :
  Calls Tryz.prog 151 #[.agg #[v0,v1,v2]] w fun e w'=>BoolIs (Node s) e∧Below w.heap.size w w':=by
 obtain⟨rfl,⟨m1,a,c,rfl,_⟩,rfl,m2⟩:=h1
 unfold maxLen at m1 m2
 have hbw:=(Below.refl w.heap.size w).alloc (Nat.le_refl _) (.cells #[.int .i64 s.birth,.slice a s.kn c,.string s.data] 66)
 by_cases h1:BirthOk s.birth
 ·have HB:Hid (BirthOk s.birth):=h1
  by_cases h2:s.kn=8
  ·by_cases h3:s.data.toList.isEmpty=true
   ·have H:Hid (Node s):=⟨h1,h2,h3⟩
    have e2:((s.kn:Int) == 8)=true:=by simp [h2]
    clear h1 h2
    go_enter Tryz.func151,Tryz.ntmps151
    go_wp2_with (go_at_call 171; refine(birthRight_any _ _).mono ?_; rintro e w' ⟨⟨t,rfl,ht⟩,rfl⟩; obtain rfl:t=true:=ht.2 HB.out; clear ht)
    go_ret
    exact⟨BoolIs.yes H.out,hbw⟩
   ·have H:Hid (¬Node s):=fun h=>h3 h.2.2
    have e2:((s.kn:Int) == 8)=true:=by simp [h2]
    have e3:s.data.toList.isEmpty=false:=by simpa using h3
    clear h1 h2 h3
    go_enter Tryz.func151,Tryz.ntmps151
    go_wp2_with (go_at_call 171; refine(birthRight_any _ _).mono ?_; rintro e w' ⟨⟨t,rfl,ht⟩,rfl⟩; obtain rfl:t=true:=ht.2 HB.out; clear ht)
    go_ret
    exact⟨BoolIs.no H.out,hbw⟩
  ·have H:Hid (¬Node s):=fun h=>h2 h.2.1
   have e2:((s.kn:Int) == 8)=false:=by simp; omega
   clear h1 h2
   go_enter Tryz.func151,Tryz.ntmps151
   go_wp2_with (go_at_call 171; refine(birthRight_any _ _).mono ?_; rintro e w' ⟨⟨t,rfl,ht⟩,rfl⟩; obtain rfl:t=true:=ht.2 HB.out; clear ht)
   go_ret
   exact⟨BoolIs.no H.out,hbw⟩
 ·have HB:Hid (¬BirthOk s.birth):=h1
  clear h1
  go_enter Tryz.func151,Tryz.ntmps151
  go_wp2_with (go_at_call 171; refine(birthRight_any _ _).mono ?_; rintro e w' ⟨⟨t,rfl,ht⟩,rfl⟩; obtain rfl:t=false:=bool_no ht HB.out; clear ht)
  go_ret
  exact⟨BoolIs.no fun h=>HB.out h.1,hbw⟩
set_option maxRecDepth 20000 in
set_option maxHeartbeats 400000 in
theorem index_any(v:Value)(n lo hi:Nat)(f:Nat→Int)(x:Int)(w:World)(h1:IntsAt w lo hi v n f) :
  Calls Tryz.prog 174 #[v,.int .i64 x] w fun e w'=>(∃r:Int,e = .returned (.int .i64 r)∧(0≤r↔Has n f x))∧w'=w:=by
 obtain⟨m1,a,c,rfl,mc,g1⟩:=h1
 unfold maxLen at m1
 have G1:Hid (0<n→∃b off,a=some ⟨b,off,none⟩∧lo≤b∧b<hi∧∀i,i<n→w.cell? ⟨b,off+i,none⟩=some (.int .i64 (f i))):=g1
 clear g1
 go_enter Tryz.func174,Tryz.ntmps174
 go_wp2
 go_loop [8] (fun i=>∃k:Nat,k≤n∧i = .int .i64 k∧¬Has k f x) (fun i=>n - (intOf i).toNat)
 case atStart=>exact⟨0,Nat.zero_le _,rfl,fun ⟨j,hj,_⟩=>absurd hj (Nat.not_lt_zero _)⟩
 case round=>
  obtain⟨k,hk,rfl,hno⟩:=hrel
  have Hno:Hid (¬Has k f x):=hno
  clear hno
  by_cases hlt:k<n
  ·have hlt':(k:Int)<(n:Int):=by omega
   obtain⟨b,off,rfl,_,_,k1⟩:=G1.out (by omega)
   have hc1:=k1 k hlt
   clear k1 G1
   by_cases he:f k=x
   ·have H:Hid (Has n f x):=⟨k,hlt,he⟩
    have he':(x == f k)=true:=by simp [he]
    clear he
    go_wp2
    go_ret
    exact⟨⟨_,rfl,⟨fun _=>H.out,fun _=>Int.natCast_nonneg _⟩⟩,rfl⟩
   ·have H:Hid (¬f k=x):=he
    have he':(x == f k)=false:=by simp; exact fun e=>he e.symm
    clear he
    go_wp2
    go_round
    case rel=>
     refine⟨k+1,by omega,by go_num,?_⟩
     rintro⟨j,hj,hjx⟩
     by_cases e:j=k
     ·subst e; exact H.out hjx
     ·exact Hno.out ⟨j,by omega,hjx⟩
    case measure=>simp [intOf]; omega
  ·obtain rfl:k=n:=by omega
   go_wp2
   go_ret
   exact⟨⟨-1,rfl,⟨fun h=>absurd h (by omega),fun h=>absurd h Hno.out⟩⟩,rfl⟩
set_option maxRecDepth 20000 in
set_option maxHeartbeats 400000 in
theorem contains_any(v:Value)(n lo hi:Nat)(f:Nat→Int)(x:Int)(w:World)(h1:IntsAt w lo hi v n f) :
  Calls Tryz.prog 154 #[v,.int .i64 x] w fun e w'=>BoolIs (Has n f x) e∧w'=w:=by
 have Hi:Hid (IntsAt w lo hi v n f):=h1
 obtain⟨m1,a,c,rfl,mc,g1⟩:=h1
 clear g1
 go_enter Tryz.func154,Tryz.ntmps154
 go_wp2_with fail
 refine(index_any _ n lo hi f x _ Hi.out).mono ?_
 rintro e w' ⟨⟨r,rfl,hr⟩,rfl⟩
 have Hr:Hid (0≤r↔Has n f x):=hr
 clear hr
 go_wp2
 go_ret
 exact⟨⟨_,rfl,by simpa using Hr.out⟩,rfl⟩
def PtrOf(n:Nat)(f:Nat→SlotD)(x ps pb:Int):Prop:=
 (0≤x∧x<n∧¬Free (f x.toNat)∧ps=x∧pb=(f x.toNat).birth)∨(¬(0≤x∧x<n∧¬Free (f x.toNat))∧ps=0∧pb=0)
set_option maxRecDepth 20000 in
set_option maxHeartbeats 400000 in
theorem ptrOf_any(v:Value)(n lo hi:Nat)(f:Nat→SlotD)(x:Int)(w:World)(h1:SlotsAt w lo hi v n f) :
  Calls Tryz.prog 153 #[v,.int .i64 x] w fun e w'=>(∃ps pb,e = .returned (.agg #[.int .i64 ps,.int .i64 pb])∧PtrOf n f x ps pb)∧Below w.heap.size w w':=by
 have Hi:Hid (SlotsAt w lo hi v n f):=h1
 obtain⟨m1,a,c,rfl,mc,g1⟩:=h1
 unfold maxLen at m1
 clear g1
 have Hbw:Hid (Below w.heap.size w (w.alloc (.cells #[.int .i64 0,.int .i64 0] 88))):=below_alloc _ _
 by_cases h1:x<0
 ·have H:Hid (PtrOf n f x 0 0):=Or.inr ⟨fun h=>by omega,rfl,rfl⟩
  go_enter Tryz.func153,Tryz.ntmps153
  go_wp2
  refine bodyPost_ret (v:=.agg #[.int .i64 0,.int .i64 0]) (by simp [results,Tryz.results153,go_sem]) rfl ⟨⟨0,0,rfl,H.out⟩,Hbw.out⟩
 ·by_cases h2:(n:Int)≤x
  ·have H:Hid (PtrOf n f x 0 0):=Or.inr ⟨fun h=>by omega,rfl,rfl⟩
   go_enter Tryz.func153,Tryz.ntmps153
   go_wp2
   refine bodyPost_ret (v:=.agg #[.int .i64 0,.int .i64 0]) (by simp [results,Tryz.results153,go_sem]) rfl ⟨⟨0,0,rfl,H.out⟩,Hbw.out⟩
  ·obtain⟨k,rfl⟩:=Int.eq_ofNat_of_zero_le (show 0≤x by omega)
   have hk:k<n:=by omega
   have hkl:(k:Int)<(n:Int):=by omega
   obtain⟨b,off,ka,kc,rfl,hs⟩:=Hi.out.cells hk
   have Hs:Hid (SlotCells w b (off+k*3) lo hi ka kc (f k)):=hs
   have hlt:=lt_of_cell hs.c0
   obtain⟨q0,q1,q2,_⟩:=hs
   by_cases hf:Free (f k)
   ·have H:Hid (PtrOf n f k 0 0):=Or.inr ⟨fun h=>h.2.2 (by rw [Int.toNat_natCast]; exact hf),rfl,rfl⟩
    have HF:Hid (Free (f k)):=hf
    clear hf
    go_enter Tryz.func153,Tryz.ntmps153
    go_wp2_with fail
    refine(isFree_any _ _ _ lo hi (f k) _ (Hs.out.slot.below Hbw.out)).mono ?_
    rintro e w1 ⟨⟨t,rfl,hx⟩,hb1⟩
    obtain rfl:t=true:=hx.2 HF.out
    clear hx
    have HX:Hid (Box2 w1 w.heap.size (.int .i64 0) (.int .i64 0)):=(Box2.new w _ _ _).below hb1
    have hbn:=below_next Hbw.out hb1
    clear hb1 q0 q1 q2
    obtain⟨⟨y0,y1⟩,⟨y2,y3⟩⟩:=HX.out
    go_wp2
    have HY:=HX.out.put (.int .i64 0) (.int .i64 0)
    refine bodyPost_ret (v:=.agg #[.int .i64 0,.int .i64 0]) (by simp [results,Tryz.results153,go_sem,HY.1.1,HY.2.1]) rfl ⟨⟨0,0,rfl,H.out⟩,(hbn.setCell (Nat.le_refl _) _).setCell (Nat.le_refl _) _⟩
   ·have H:Hid (PtrOf n f k k (f k).birth):=Or.inl ⟨by omega,hkl,by rw [Int.toNat_natCast]; exact hf,rfl,by rw [Int.toNat_natCast]⟩
    have HF:Hid (¬Free (f k)):=hf
    clear hf
    go_enter Tryz.func153,Tryz.ntmps153
    go_wp2_with fail
    refine(isFree_any _ _ _ lo hi (f k) _ (Hs.out.slot.below Hbw.out)).mono ?_
    rintro e w1 ⟨⟨t,rfl,hx⟩,hb1⟩
    obtain rfl:t=false:=bool_no hx HF.out
    clear hx
    have HX:Hid (Box2 w1 w.heap.size (.int .i64 0) (.int .i64 0)):=(Box2.new w _ _ _).below hb1
    have hbn:=below_next Hbw.out hb1
    have q5:=(Hs.out.below hbn).c0
    clear hb1 q0 q1 q2
    obtain⟨⟨y0,y1⟩,⟨y2,y3⟩⟩:=HX.out
    go_wp2
    have HY:=HX.out.put (.int .i64 k) (.int .i64 (f k).birth)
    refine bodyPost_ret (v:=.agg #[.int .i64 k,.int .i64 (f k).birth]) (by simp [results,Tryz.results153,go_sem,HY.1.1,HY.2.1]) rfl ⟨⟨_,_,rfl,H.out⟩,(hbn.setCell (Nat.le_refl _) _).setCell (Nat.le_refl _) _⟩
end Go.Proofs.YtihplgckbhnohaaGreatDoor
