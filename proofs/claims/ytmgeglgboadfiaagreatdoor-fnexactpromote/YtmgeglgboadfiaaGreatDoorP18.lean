/- Rows of sets and of snapshots that a call owns (no law is proved here). -/
import Derived.Test.YtmgeglgboadfiaaGreatDoorP1
import Derived.Test.YtmgeglgboadfiaaGreatDoorP3
import Derived.Test.YtmgeglgboadfiaaGreatDoorP6
namespace Go.Proofs.YtmgeglgboadfiaaGreatDoor
open Go.RowKit
set_option linter.unusedVariables false
def nilSet:SetD:={name:=⟨#[]⟩,origin:=0,prev:=0,rs:=0,rb:=0,dn:=0,ds:=fun _=>0,db:=fun _=>0}
structure SetOwn (w:World) (bs o kb:Nat) (kv:Value) (s:SetD):Prop where
 c0:Cell w bs o (.string s.name)
 c1:Cell w bs (o+1) (.int .i64 s.origin)
 c2:Cell w bs (o+2) (.int .i64 s.prev)
 c3:Cell w bs (o+3) (.int .i64 s.rs)
 c4:Cell w bs (o+4) (.int .i64 s.rb)
 c5:Cell w bs (o+5) kv
 dead:PtrsOwn w kb kv s.dn s.ds s.db
 small:s.name.size≤maxLen
 apart:0<s.dn→kb≠bs
theorem SetOwn.turned{S:Nat→Prop}{w w':World}{bs o kb:Nat}{kv:Value}{s:SetD}(h:SetOwn w bs o kb kv s)(t:Turned S w w')(h1:¬S bs)(h2:0<s.dn→¬S kb):SetOwn w' bs o kb kv s:=
 ⟨h.c0.turned t h1,h.c1.turned t h1,h.c2.turned t h1,h.c3.turned t h1,h.c4.turned t h1,h.c5.turned t h1,h.dead.turned t h2,h.small,h.apart⟩
theorem SetOwn.below{w w':World}{bs o kb:Nat}{kv:Value}{s:SetD}(h:SetOwn w bs o kb kv s)(t:Below w.heap.size w w'):SetOwn w' bs o kb kv s:=
 h.turned (Turned.of_below (S:=fun _=>False) t) (fun h=>h) (fun _ h=>h)
theorem SetOwn.cells{w:World}{bs o kb:Nat}{kv:Value}{s:SetD}(h:SetOwn w bs o kb kv s){lo hi:Nat}(hb:0<s.dn→lo≤kb∧kb<hi):SetCells w bs o lo hi kv s:=
 ⟨h.c0.1,h.c1.1,h.c2.1,h.c3.1,h.c4.1,h.c5.1,h.dead.at hb,h.small⟩
theorem SetOwn.deadLt{w:World}{bs o kb:Nat}{kv:Value}{s:SetD}(h:SetOwn w bs o kb kv s)(h0:0<s.dn):kb<w.heap.size:=by
 obtain⟨_,_,_,_,_,h4⟩:=h.dead
 obtain⟨o,_,h5⟩:=h4 h0
 exact(h5 0 h0).1.lt
def SetsOwn(w:World)(bs:Nat)(kb:Nat→Nat)(kv:Nat→Value)(v:Value)(n:Nat)(f:Nat→SetD):Prop:=
 n≤maxLen∧∃a cap,v = .slice a n cap∧n≤cap∧(0<n→∃off,a=some ⟨bs,off,none⟩∧∀i,i<n→SetOwn w bs (off+i*6) (kb i) (kv i) (f i))
def SetsB(bs:Nat)(kb:Nat→Nat)(n:Nat)(f:Nat→SetD)(k:Nat):Prop:=(0<n∧k=bs)∨∃i,i<n∧0<(f i).dn∧k=kb i
def SetsApart(kb:Nat→Nat)(n:Nat)(f:Nat→SetD):Prop:=∀i j,i<n→j<n→i≠j→0<(f i).dn→0<(f j).dn→kb i≠kb j
theorem SetsOwn.lt{w:World}{bs:Nat}{kb:Nat→Nat}{kv:Nat→Value}{v:Value}{n:Nat}{f:Nat→SetD}(h:SetsOwn w bs kb kv v n f){k:Nat}(hk:SetsB bs kb n f k):k<w.heap.size:=by
 obtain⟨_,a,cap,_,_,hc⟩:=h
 rcases hk with⟨h0,rfl⟩ | ⟨i,hi,h0,rfl⟩
 ·obtain⟨off,_,h3⟩:=hc h0
  exact(h3 0 h0).c0.lt
 ·obtain⟨off,_,h3⟩:=hc (by omega)
  exact(h3 i hi).deadLt h0
theorem SetsOwn.turned{S:Nat→Prop}{w w':World}{bs:Nat}{kb:Nat→Nat}{kv:Nat→Value}{v:Value}{n:Nat}{f:Nat→SetD}(h:SetsOwn w bs kb kv v n f)(t:Turned S w w')(hs:∀k,SetsB bs kb n f k→¬S k):SetsOwn w' bs kb kv v n f:=by
 obtain⟨h0,a,cap,hv,hcc,hc⟩:=h
 refine⟨h0,a,cap,hv,hcc,fun hn=>?_⟩
 obtain⟨off,ha,h3⟩:=hc hn
 exact⟨off,ha,fun i hi=>(h3 i hi).turned t (hs _ (Or.inl ⟨hn,rfl⟩)) (fun h=>hs _ (Or.inr ⟨i,hi,h,rfl⟩))⟩
theorem SetsOwn.below{w w':World}{bs:Nat}{kb:Nat→Nat}{kv:Nat→Value}{v:Value}{n:Nat}{f:Nat→SetD}(h:SetsOwn w bs kb kv v n f)(t:Below w.heap.size w w'):SetsOwn w' bs kb kv v n f:=
 h.turned (Turned.of_below (S:=fun _=>False) t) (fun _ _ h=>h)
theorem SetsOwn.at{w:World}{bs:Nat}{kb:Nat→Nat}{kv:Nat→Value}{v:Value}{n:Nat}{f:Nat→SetD}(h:SetsOwn w bs kb kv v n f){lo hi:Nat}(hb:∀k,SetsB bs kb n f k→lo≤k∧k<hi):SetsAt w lo hi v n f:=by
 obtain⟨h0,a,cap,hv,hcc,hc⟩:=h
 refine⟨h0,a,cap,hv,hcc,fun hn=>?_⟩
 obtain⟨off,ha,h3⟩:=hc hn
 have hx:=hb _ (Or.inl ⟨hn,rfl⟩)
 exact⟨bs,off,ha,hx.1,hx.2,fun i hi=>⟨_,(h3 i hi).cells (fun h=>hb _ (Or.inr ⟨i,hi,h,rfl⟩))⟩⟩
structure SetPart (wr:World) (bs n k:Nat) (f:Nat→SetD) (kb:Nat→Nat) (kv:Nat→Value):Prop where
 rows:∀j,j<n→SetOwn wr bs (0+j*6) (kb j) (kv j) (if j<k then f j else nilSet)
 apart:SetsApart kb k f
 place:∀j,j<k→0<(f j).dn→bs<kb j∧kb j<wr.heap.size
theorem SetPart.below{wr w':World}{bs n k:Nat}{f:Nat→SetD}{kb:Nat→Nat}{kv:Nat→Value}(h:SetPart wr bs n k f kb kv)(t:Below wr.heap.size wr w'):SetPart w' bs n k f kb kv:=
 ⟨fun j hj=>(h.rows j hj).below t,h.apart,fun j hj h0=>by have:=h.place j hj h0; have:=t.size; omega⟩
theorem SetPart.next{wr w1:World}{bs n k b:Nat}{f:Nat→SetD}{kb:Nat→Nat}{kv:Nat→Value}{v:Value}(h:SetPart wr bs n k f kb kv)(hk:k<n)(hbs:bs<wr.heap.size)(t:Below wr.heap.size wr w1)
  (hp:PtrsOwn w1 b v (f k).dn (f k).ds (f k).db) (hb:wr.heap.size≤b) (hb2:b<w1.heap.size) (hs:(f k).name.size≤maxLen) :
  SetPart ((((((w1.setCell ⟨bs,0+k*6,none⟩ (.string (f k).name)).setCell ⟨bs,0+k*6+1,none⟩ (.int .i64 (f k).origin)).setCell ⟨bs,0+k*6+2,none⟩ (.int .i64 (f k).prev)).setCell ⟨bs,0+k*6+3,none⟩ (.int .i64 (f k).rs)).setCell ⟨bs,0+k*6+4,none⟩ (.int .i64 (f k).rb)).setCell ⟨bs,0+k*6+5,none⟩ v) bs n (k+1) f (fun j=>if j=k then b else kb j) (fun j=>if j=k then v else kv j):=by
 have h':=h.below t
 refine⟨fun j hj=>?_,fun i j hi hj hij h1 h2=>?_,fun j hj h0=>?_⟩
 ·have hj':=h'.rows j hj
  by_cases e:j=k
  ·subst e
   simp only [if_true]
   rw [if_pos (by omega)]
   refine⟨?_,?_,?_,?_,?_,?_,?_,hs,fun _=>by omega⟩
   ·exact(((((hj'.c0.set _).other _ (Or.inr (by omega))).other _ (Or.inr (by omega))).other _ (Or.inr (by omega))).other _ (Or.inr (by omega))).other _ (Or.inr (by omega))
   ·exact(((((hj'.c1.other _ (Or.inr (by omega))).set _).other _ (Or.inr (by omega))).other _ (Or.inr (by omega))).other _ (Or.inr (by omega))).other _ (Or.inr (by omega))
   ·exact(((((hj'.c2.other _ (Or.inr (by omega))).other _ (Or.inr (by omega))).set _).other _ (Or.inr (by omega))).other _ (Or.inr (by omega))).other _ (Or.inr (by omega))
   ·exact(((((hj'.c3.other _ (Or.inr (by omega))).other _ (Or.inr (by omega))).other _ (Or.inr (by omega))).set _).other _ (Or.inr (by omega))).other _ (Or.inr (by omega))
   ·exact(((((hj'.c4.other _ (Or.inr (by omega))).other _ (Or.inr (by omega))).other _ (Or.inr (by omega))).other _ (Or.inr (by omega))).set _).other _ (Or.inr (by omega))
   ·exact(((((hj'.c5.other _ (Or.inr (by omega))).other _ (Or.inr (by omega))).other _ (Or.inr (by omega))).other _ (Or.inr (by omega))).other _ (Or.inr (by omega))).set _
   ·exact(((((hp.put _ (by omega)).put _ (by omega)).put _ (by omega)).put _ (by omega)).put _ (by omega)).put _ (by omega)
  ·simp only [if_neg e]
   have es:(if j<k+1 then f j else nilSet)=if j<k then f j else nilSet:=by
    by_cases e2:j<k
    ·rw [if_pos e2,if_pos (by omega)]
    ·rw [if_neg e2,if_neg (by omega)]
   rw [es]
   refine⟨?_,?_,?_,?_,?_,?_,?_,hj'.small,hj'.apart⟩
   ·exact(((((hj'.c0.other _ (Or.inr (by omega))).other _ (Or.inr (by omega))).other _ (Or.inr (by omega))).other _ (Or.inr (by omega))).other _ (Or.inr (by omega))).other _ (Or.inr (by omega))
   ·exact(((((hj'.c1.other _ (Or.inr (by omega))).other _ (Or.inr (by omega))).other _ (Or.inr (by omega))).other _ (Or.inr (by omega))).other _ (Or.inr (by omega))).other _ (Or.inr (by omega))
   ·exact(((((hj'.c2.other _ (Or.inr (by omega))).other _ (Or.inr (by omega))).other _ (Or.inr (by omega))).other _ (Or.inr (by omega))).other _ (Or.inr (by omega))).other _ (Or.inr (by omega))
   ·exact(((((hj'.c3.other _ (Or.inr (by omega))).other _ (Or.inr (by omega))).other _ (Or.inr (by omega))).other _ (Or.inr (by omega))).other _ (Or.inr (by omega))).other _ (Or.inr (by omega))
   ·exact(((((hj'.c4.other _ (Or.inr (by omega))).other _ (Or.inr (by omega))).other _ (Or.inr (by omega))).other _ (Or.inr (by omega))).other _ (Or.inr (by omega))).other _ (Or.inr (by omega))
   ·exact(((((hj'.c5.other _ (Or.inr (by omega))).other _ (Or.inr (by omega))).other _ (Or.inr (by omega))).other _ (Or.inr (by omega))).other _ (Or.inr (by omega))).other _ (Or.inr (by omega))
   ·refine(((((hj'.dead.turned (Turned.put _ _ _ _) ?_).turned (Turned.put _ _ _ _) ?_).turned (Turned.put _ _ _ _) ?_).turned (Turned.put _ _ _ _) ?_).turned (Turned.put _ _ _ _) ?_).turned (Turned.put _ _ _ _) ?_
    all_goals exact fun h0 hx=>hj'.apart h0 hx
 ·show(if i=k then b else kb i)≠(if j=k then b else kb j)
  by_cases e1:i=k
  ·by_cases e2:j=k
   ·omega
   ·rw [if_pos e1,if_neg e2]
    have:=h.place j (by omega) h2
    omega
  ·by_cases e2:j=k
   ·rw [if_neg e1,if_pos e2]
    have:=h.place i (by omega) h1
    omega
   ·rw [if_neg e1,if_neg e2]
    exact h.apart i j (by omega) (by omega) hij h1 h2
 ·simp only [World.size_setCell]
  by_cases e:j=k
  ·rw [if_pos e]; omega
  ·rw [if_neg e]
   have:=h'.place j (by omega) h0
   omega
theorem infoSetT:(Tryz.prog.info? 67).map (fun i=>(i.zero,i.size,i.bytes))=some (some (.agg #[.string ⟨#[]⟩,.int .i64 0,.int .i64 0,.int .i64 0,.int .i64 0,.slice none 0 0]),6,72):=by kernel_rfl
theorem nilSet_own{w:World}{bs n j:Nat}(hj:j<n)(hbs:bs=w.heap.size):SetOwn (w.alloc (.cells (zeros #[.string ⟨#[]⟩,.int .i64 0,.int .i64 0,.int .i64 0,.int .i64 0,.slice none 0 0] n) 67)) bs (0+j*6) 0 (.slice none 0 0) nilSet:=by
 subst hbs
 have c0:=new_cell w #[.string ⟨#[]⟩,.int .i64 0,.int .i64 0,.int .i64 0,.int .i64 0,.slice none 0 0] n j 0 67 hj (by simp)
 have c1:=new_cell w #[.string ⟨#[]⟩,.int .i64 0,.int .i64 0,.int .i64 0,.int .i64 0,.slice none 0 0] n j 1 67 hj (by simp)
 have c2:=new_cell w #[.string ⟨#[]⟩,.int .i64 0,.int .i64 0,.int .i64 0,.int .i64 0,.slice none 0 0] n j 2 67 hj (by simp)
 have c3:=new_cell w #[.string ⟨#[]⟩,.int .i64 0,.int .i64 0,.int .i64 0,.int .i64 0,.slice none 0 0] n j 3 67 hj (by simp)
 have c4:=new_cell w #[.string ⟨#[]⟩,.int .i64 0,.int .i64 0,.int .i64 0,.int .i64 0,.slice none 0 0] n j 4 67 hj (by simp)
 have c5:=new_cell w #[.string ⟨#[]⟩,.int .i64 0,.int .i64 0,.int .i64 0,.int .i64 0,.slice none 0 0] n j 5 67 hj (by simp)
 refine⟨?_,?_,?_,?_,?_,?_,⟨Nat.zero_le _,none,0,rfl,Nat.le_refl _,fun h=>absurd h (Nat.lt_irrefl _)⟩,Nat.zero_le _,fun h=>absurd h (Nat.lt_irrefl _)⟩
 ·show Cell _ _ _ (.string ⟨#[]⟩)
  simpa using c0
 ·show Cell _ _ _ (.int .i64 0)
  simpa using c1
 ·show Cell _ _ _ (.int .i64 0)
  simpa using c2
 ·show Cell _ _ _ (.int .i64 0)
  simpa using c3
 ·show Cell _ _ _ (.int .i64 0)
  simpa using c4
 ·show Cell _ _ _ (.slice none 0 0)
  simpa using c5
def nilSnap:SnapD:={id:=0,name:=⟨#[]⟩,set:=⟨#[]⟩,prev:=0,time:=0,rs:=0,rb:=0,dn:=0,ds:=fun _=>0,db:=fun _=>0}
structure SnapOwn (w:World) (bs o kb:Nat) (kv:Value) (s:SnapD):Prop where
 c0:Cell w bs o (.int .i64 s.id)
 c1:Cell w bs (o+1) (.string s.name)
 c2:Cell w bs (o+2) (.string s.set)
 c3:Cell w bs (o+3) (.int .i64 s.prev)
 c4:Cell w bs (o+4) (.int .i64 s.time)
 c5:Cell w bs (o+5) (.int .i64 s.rs)
 c6:Cell w bs (o+6) (.int .i64 s.rb)
 c7:Cell w bs (o+7) kv
 dead:PtrsOwn w kb kv s.dn s.ds s.db
 small:s.name.size≤maxLen∧s.set.size≤maxLen
 apart:0<s.dn→kb≠bs
theorem SnapOwn.turned{S:Nat→Prop}{w w':World}{bs o kb:Nat}{kv:Value}{s:SnapD}(h:SnapOwn w bs o kb kv s)(t:Turned S w w')(h1:¬S bs)(h2:0<s.dn→¬S kb):SnapOwn w' bs o kb kv s:=
 ⟨h.c0.turned t h1,h.c1.turned t h1,h.c2.turned t h1,h.c3.turned t h1,h.c4.turned t h1,h.c5.turned t h1,h.c6.turned t h1,h.c7.turned t h1,h.dead.turned t h2,h.small,h.apart⟩
theorem SnapOwn.below{w w':World}{bs o kb:Nat}{kv:Value}{s:SnapD}(h:SnapOwn w bs o kb kv s)(t:Below w.heap.size w w'):SnapOwn w' bs o kb kv s:=
 h.turned (Turned.of_below (S:=fun _=>False) t) (fun h=>h) (fun _ h=>h)
theorem SnapOwn.cells{w:World}{bs o kb:Nat}{kv:Value}{s:SnapD}(h:SnapOwn w bs o kb kv s){lo hi:Nat}(hb:0<s.dn→lo≤kb∧kb<hi):SnapCells w bs o lo hi kv s:=
 ⟨h.c0.1,h.c1.1,h.c2.1,h.c3.1,h.c4.1,h.c5.1,h.c6.1,h.c7.1,h.dead.at hb,h.small⟩
theorem SnapOwn.deadLt{w:World}{bs o kb:Nat}{kv:Value}{s:SnapD}(h:SnapOwn w bs o kb kv s)(h0:0<s.dn):kb<w.heap.size:=by
 obtain⟨_,_,_,_,_,h4⟩:=h.dead
 obtain⟨o,_,h5⟩:=h4 h0
 exact(h5 0 h0).1.lt
def SnapsOwn(w:World)(bs:Nat)(kb:Nat→Nat)(kv:Nat→Value)(v:Value)(n:Nat)(f:Nat→SnapD):Prop:=
 n≤maxLen∧∃a cap,v = .slice a n cap∧n≤cap∧(0<n→∃off,a=some ⟨bs,off,none⟩∧∀i,i<n→SnapOwn w bs (off+i*8) (kb i) (kv i) (f i))
def SnapsB(bs:Nat)(kb:Nat→Nat)(n:Nat)(f:Nat→SnapD)(k:Nat):Prop:=(0<n∧k=bs)∨∃i,i<n∧0<(f i).dn∧k=kb i
def SnapsApart(kb:Nat→Nat)(n:Nat)(f:Nat→SnapD):Prop:=∀i j,i<n→j<n→i≠j→0<(f i).dn→0<(f j).dn→kb i≠kb j
theorem SnapsOwn.lt{w:World}{bs:Nat}{kb:Nat→Nat}{kv:Nat→Value}{v:Value}{n:Nat}{f:Nat→SnapD}(h:SnapsOwn w bs kb kv v n f){k:Nat}(hk:SnapsB bs kb n f k):k<w.heap.size:=by
 obtain⟨_,a,cap,_,_,hc⟩:=h
 rcases hk with⟨h0,rfl⟩ | ⟨i,hi,h0,rfl⟩
 ·obtain⟨off,_,h3⟩:=hc h0
  exact(h3 0 h0).c0.lt
 ·obtain⟨off,_,h3⟩:=hc (by omega)
  exact(h3 i hi).deadLt h0
theorem SnapsOwn.turned{S:Nat→Prop}{w w':World}{bs:Nat}{kb:Nat→Nat}{kv:Nat→Value}{v:Value}{n:Nat}{f:Nat→SnapD}(h:SnapsOwn w bs kb kv v n f)(t:Turned S w w')(hs:∀k,SnapsB bs kb n f k→¬S k):SnapsOwn w' bs kb kv v n f:=by
 obtain⟨h0,a,cap,hv,hcc,hc⟩:=h
 refine⟨h0,a,cap,hv,hcc,fun hn=>?_⟩
 obtain⟨off,ha,h3⟩:=hc hn
 exact⟨off,ha,fun i hi=>(h3 i hi).turned t (hs _ (Or.inl ⟨hn,rfl⟩)) (fun h=>hs _ (Or.inr ⟨i,hi,h,rfl⟩))⟩
theorem SnapsOwn.below{w w':World}{bs:Nat}{kb:Nat→Nat}{kv:Nat→Value}{v:Value}{n:Nat}{f:Nat→SnapD}(h:SnapsOwn w bs kb kv v n f)(t:Below w.heap.size w w'):SnapsOwn w' bs kb kv v n f:=
 h.turned (Turned.of_below (S:=fun _=>False) t) (fun _ _ h=>h)
theorem SnapsOwn.at{w:World}{bs:Nat}{kb:Nat→Nat}{kv:Nat→Value}{v:Value}{n:Nat}{f:Nat→SnapD}(h:SnapsOwn w bs kb kv v n f){lo hi:Nat}(hb:∀k,SnapsB bs kb n f k→lo≤k∧k<hi):SnapsAt w lo hi v n f:=by
 obtain⟨h0,a,cap,hv,hcc,hc⟩:=h
 refine⟨h0,a,cap,hv,hcc,fun hn=>?_⟩
 obtain⟨off,ha,h3⟩:=hc hn
 have hx:=hb _ (Or.inl ⟨hn,rfl⟩)
 exact⟨bs,off,ha,hx.1,hx.2,fun i hi=>⟨_,(h3 i hi).cells (fun h=>hb _ (Or.inr ⟨i,hi,h,rfl⟩))⟩⟩
structure SnapPart (wr:World) (bs n k:Nat) (f:Nat→SnapD) (kb:Nat→Nat) (kv:Nat→Value):Prop where
 rows:∀j,j<n→SnapOwn wr bs (0+j*8) (kb j) (kv j) (if j<k then f j else nilSnap)
 apart:SnapsApart kb k f
 place:∀j,j<k→0<(f j).dn→bs<kb j∧kb j<wr.heap.size
theorem SnapPart.below{wr w':World}{bs n k:Nat}{f:Nat→SnapD}{kb:Nat→Nat}{kv:Nat→Value}(h:SnapPart wr bs n k f kb kv)(t:Below wr.heap.size wr w'):SnapPart w' bs n k f kb kv:=
 ⟨fun j hj=>(h.rows j hj).below t,h.apart,fun j hj h0=>by have:=h.place j hj h0; have:=t.size; omega⟩
theorem SnapPart.next{wr w1:World}{bs n k b:Nat}{f:Nat→SnapD}{kb:Nat→Nat}{kv:Nat→Value}{v:Value}(h:SnapPart wr bs n k f kb kv)(hk:k<n)(hbs:bs<wr.heap.size)(t:Below wr.heap.size wr w1)
  (hp:PtrsOwn w1 b v (f k).dn (f k).ds (f k).db) (hb:wr.heap.size≤b) (hb2:b<w1.heap.size) (hs:(f k).name.size≤maxLen∧(f k).set.size≤maxLen) :
  SnapPart ((((((((w1.setCell ⟨bs,0+k*8,none⟩ (.int .i64 (f k).id)).setCell ⟨bs,0+k*8+1,none⟩ (.string (f k).name)).setCell ⟨bs,0+k*8+2,none⟩ (.string (f k).set)).setCell ⟨bs,0+k*8+3,none⟩ (.int .i64 (f k).prev)).setCell ⟨bs,0+k*8+4,none⟩ (.int .i64 (f k).time)).setCell ⟨bs,0+k*8+5,none⟩ (.int .i64 (f k).rs)).setCell ⟨bs,0+k*8+6,none⟩ (.int .i64 (f k).rb)).setCell ⟨bs,0+k*8+7,none⟩ v) bs n (k+1) f (fun j=>if j=k then b else kb j) (fun j=>if j=k then v else kv j):=by
 have h':=h.below t
 refine⟨fun j hj=>?_,fun i j hi hj hij h1 h2=>?_,fun j hj h0=>?_⟩
 ·have hj':=h'.rows j hj
  by_cases e:j=k
  ·subst e
   simp only [if_true]
   rw [if_pos (by omega)]
   refine⟨?_,?_,?_,?_,?_,?_,?_,?_,?_,hs,fun _=>by omega⟩
   ·exact(((((((hj'.c0.set _).other _ (Or.inr (by omega))).other _ (Or.inr (by omega))).other _ (Or.inr (by omega))).other _ (Or.inr (by omega))).other _ (Or.inr (by omega))).other _ (Or.inr (by omega))).other _ (Or.inr (by omega))
   ·exact(((((((hj'.c1.other _ (Or.inr (by omega))).set _).other _ (Or.inr (by omega))).other _ (Or.inr (by omega))).other _ (Or.inr (by omega))).other _ (Or.inr (by omega))).other _ (Or.inr (by omega))).other _ (Or.inr (by omega))
   ·exact(((((((hj'.c2.other _ (Or.inr (by omega))).other _ (Or.inr (by omega))).set _).other _ (Or.inr (by omega))).other _ (Or.inr (by omega))).other _ (Or.inr (by omega))).other _ (Or.inr (by omega))).other _ (Or.inr (by omega))
   ·exact(((((((hj'.c3.other _ (Or.inr (by omega))).other _ (Or.inr (by omega))).other _ (Or.inr (by omega))).set _).other _ (Or.inr (by omega))).other _ (Or.inr (by omega))).other _ (Or.inr (by omega))).other _ (Or.inr (by omega))
   ·exact(((((((hj'.c4.other _ (Or.inr (by omega))).other _ (Or.inr (by omega))).other _ (Or.inr (by omega))).other _ (Or.inr (by omega))).set _).other _ (Or.inr (by omega))).other _ (Or.inr (by omega))).other _ (Or.inr (by omega))
   ·exact(((((((hj'.c5.other _ (Or.inr (by omega))).other _ (Or.inr (by omega))).other _ (Or.inr (by omega))).other _ (Or.inr (by omega))).other _ (Or.inr (by omega))).set _).other _ (Or.inr (by omega))).other _ (Or.inr (by omega))
   ·exact(((((((hj'.c6.other _ (Or.inr (by omega))).other _ (Or.inr (by omega))).other _ (Or.inr (by omega))).other _ (Or.inr (by omega))).other _ (Or.inr (by omega))).other _ (Or.inr (by omega))).set _).other _ (Or.inr (by omega))
   ·exact(((((((hj'.c7.other _ (Or.inr (by omega))).other _ (Or.inr (by omega))).other _ (Or.inr (by omega))).other _ (Or.inr (by omega))).other _ (Or.inr (by omega))).other _ (Or.inr (by omega))).other _ (Or.inr (by omega))).set _
   ·exact(((((((hp.put _ (by omega)).put _ (by omega)).put _ (by omega)).put _ (by omega)).put _ (by omega)).put _ (by omega)).put _ (by omega)).put _ (by omega)
  ·simp only [if_neg e]
   have es:(if j<k+1 then f j else nilSnap)=if j<k then f j else nilSnap:=by
    by_cases e2:j<k
    ·rw [if_pos e2,if_pos (by omega)]
    ·rw [if_neg e2,if_neg (by omega)]
   rw [es]
   refine⟨?_,?_,?_,?_,?_,?_,?_,?_,?_,hj'.small,hj'.apart⟩
   ·exact(((((((hj'.c0.other _ (Or.inr (by omega))).other _ (Or.inr (by omega))).other _ (Or.inr (by omega))).other _ (Or.inr (by omega))).other _ (Or.inr (by omega))).other _ (Or.inr (by omega))).other _ (Or.inr (by omega))).other _ (Or.inr (by omega))
   ·exact(((((((hj'.c1.other _ (Or.inr (by omega))).other _ (Or.inr (by omega))).other _ (Or.inr (by omega))).other _ (Or.inr (by omega))).other _ (Or.inr (by omega))).other _ (Or.inr (by omega))).other _ (Or.inr (by omega))).other _ (Or.inr (by omega))
   ·exact(((((((hj'.c2.other _ (Or.inr (by omega))).other _ (Or.inr (by omega))).other _ (Or.inr (by omega))).other _ (Or.inr (by omega))).other _ (Or.inr (by omega))).other _ (Or.inr (by omega))).other _ (Or.inr (by omega))).other _ (Or.inr (by omega))
   ·exact(((((((hj'.c3.other _ (Or.inr (by omega))).other _ (Or.inr (by omega))).other _ (Or.inr (by omega))).other _ (Or.inr (by omega))).other _ (Or.inr (by omega))).other _ (Or.inr (by omega))).other _ (Or.inr (by omega))).other _ (Or.inr (by omega))
   ·exact(((((((hj'.c4.other _ (Or.inr (by omega))).other _ (Or.inr (by omega))).other _ (Or.inr (by omega))).other _ (Or.inr (by omega))).other _ (Or.inr (by omega))).other _ (Or.inr (by omega))).other _ (Or.inr (by omega))).other _ (Or.inr (by omega))
   ·exact(((((((hj'.c5.other _ (Or.inr (by omega))).other _ (Or.inr (by omega))).other _ (Or.inr (by omega))).other _ (Or.inr (by omega))).other _ (Or.inr (by omega))).other _ (Or.inr (by omega))).other _ (Or.inr (by omega))).other _ (Or.inr (by omega))
   ·exact(((((((hj'.c6.other _ (Or.inr (by omega))).other _ (Or.inr (by omega))).other _ (Or.inr (by omega))).other _ (Or.inr (by omega))).other _ (Or.inr (by omega))).other _ (Or.inr (by omega))).other _ (Or.inr (by omega))).other _ (Or.inr (by omega))
   ·exact(((((((hj'.c7.other _ (Or.inr (by omega))).other _ (Or.inr (by omega))).other _ (Or.inr (by omega))).other _ (Or.inr (by omega))).other _ (Or.inr (by omega))).other _ (Or.inr (by omega))).other _ (Or.inr (by omega))).other _ (Or.inr (by omega))
   ·refine(((((((hj'.dead.turned (Turned.put _ _ _ _) ?_).turned (Turned.put _ _ _ _) ?_).turned (Turned.put _ _ _ _) ?_).turned (Turned.put _ _ _ _) ?_).turned (Turned.put _ _ _ _) ?_).turned (Turned.put _ _ _ _) ?_).turned (Turned.put _ _ _ _) ?_).turned (Turned.put _ _ _ _) ?_
    all_goals exact fun h0 hx=>hj'.apart h0 hx
 ·show(if i=k then b else kb i)≠(if j=k then b else kb j)
  by_cases e1:i=k
  ·by_cases e2:j=k
   ·omega
   ·rw [if_pos e1,if_neg e2]
    have:=h.place j (by omega) h2
    omega
  ·by_cases e2:j=k
   ·rw [if_neg e1,if_pos e2]
    have:=h.place i (by omega) h1
    omega
   ·rw [if_neg e1,if_neg e2]
    exact h.apart i j (by omega) (by omega) hij h1 h2
 ·simp only [World.size_setCell]
  by_cases e:j=k
  ·rw [if_pos e]; omega
  ·rw [if_neg e]
   have:=h'.place j (by omega) h0
   omega
theorem infoSnapT:(Tryz.prog.info? 99).map (fun i=>(i.zero,i.size,i.bytes))=some (some (.agg #[.int .i64 0,.string ⟨#[]⟩,.string ⟨#[]⟩,.int .i64 0,.int .i64 0,.int .i64 0,.int .i64 0,.slice none 0 0]),8,96):=by kernel_rfl
theorem nilSnap_own{w:World}{bs n j:Nat}(hj:j<n)(hbs:bs=w.heap.size):SnapOwn (w.alloc (.cells (zeros #[.int .i64 0,.string ⟨#[]⟩,.string ⟨#[]⟩,.int .i64 0,.int .i64 0,.int .i64 0,.int .i64 0,.slice none 0 0] n) 99)) bs (0+j*8) 0 (.slice none 0 0) nilSnap:=by
 subst hbs
 have c0:=new_cell w #[.int .i64 0,.string ⟨#[]⟩,.string ⟨#[]⟩,.int .i64 0,.int .i64 0,.int .i64 0,.int .i64 0,.slice none 0 0] n j 0 99 hj (by simp)
 have c1:=new_cell w #[.int .i64 0,.string ⟨#[]⟩,.string ⟨#[]⟩,.int .i64 0,.int .i64 0,.int .i64 0,.int .i64 0,.slice none 0 0] n j 1 99 hj (by simp)
 have c2:=new_cell w #[.int .i64 0,.string ⟨#[]⟩,.string ⟨#[]⟩,.int .i64 0,.int .i64 0,.int .i64 0,.int .i64 0,.slice none 0 0] n j 2 99 hj (by simp)
 have c3:=new_cell w #[.int .i64 0,.string ⟨#[]⟩,.string ⟨#[]⟩,.int .i64 0,.int .i64 0,.int .i64 0,.int .i64 0,.slice none 0 0] n j 3 99 hj (by simp)
 have c4:=new_cell w #[.int .i64 0,.string ⟨#[]⟩,.string ⟨#[]⟩,.int .i64 0,.int .i64 0,.int .i64 0,.int .i64 0,.slice none 0 0] n j 4 99 hj (by simp)
 have c5:=new_cell w #[.int .i64 0,.string ⟨#[]⟩,.string ⟨#[]⟩,.int .i64 0,.int .i64 0,.int .i64 0,.int .i64 0,.slice none 0 0] n j 5 99 hj (by simp)
 have c6:=new_cell w #[.int .i64 0,.string ⟨#[]⟩,.string ⟨#[]⟩,.int .i64 0,.int .i64 0,.int .i64 0,.int .i64 0,.slice none 0 0] n j 6 99 hj (by simp)
 have c7:=new_cell w #[.int .i64 0,.string ⟨#[]⟩,.string ⟨#[]⟩,.int .i64 0,.int .i64 0,.int .i64 0,.int .i64 0,.slice none 0 0] n j 7 99 hj (by simp)
 refine⟨?_,?_,?_,?_,?_,?_,?_,?_,⟨Nat.zero_le _,none,0,rfl,Nat.le_refl _,fun h=>absurd h (Nat.lt_irrefl _)⟩,⟨Nat.zero_le _,Nat.zero_le _⟩,fun h=>absurd h (Nat.lt_irrefl _)⟩
 ·show Cell _ _ _ (.int .i64 0)
  simpa using c0
 ·show Cell _ _ _ (.string ⟨#[]⟩)
  simpa using c1
 ·show Cell _ _ _ (.string ⟨#[]⟩)
  simpa using c2
 ·show Cell _ _ _ (.int .i64 0)
  simpa using c3
 ·show Cell _ _ _ (.int .i64 0)
  simpa using c4
 ·show Cell _ _ _ (.int .i64 0)
  simpa using c5
 ·show Cell _ _ _ (.int .i64 0)
  simpa using c6
 ·show Cell _ _ _ (.slice none 0 0)
  simpa using c7
def PoolIn(w:World)(S:Nat→Prop)(v0 v1:Value)(p:PoolD):Prop:=
 ∃(bs hb:Nat) (kb:Nat→Nat) (kv:Nat→Value),SlotsOwn w bs kb kv v0 p.n p.s∧KidsApart kb p.n p.s∧IntsOwn w hb v1 p.hn p.h∧(0<p.hn→¬SlotsB bs kb p.n p.s hb)∧
  ∀k,SlotsB bs kb p.n p.s k∨(0<p.hn∧k=hb)→S k
theorem PoolOwn.isIn{w:World}{lo hi:Nat}{S:Nat→Prop}{v0 v1:Value}{p:PoolD}(h:PoolOwn w lo hi v0 v1 p)(hS:∀k,lo≤k→k<hi→S k):PoolIn w S v0 v1 p:=by
 obtain⟨bs,hb,kb,kv,h1,h2,h3,h4,h5⟩:=h
 exact⟨bs,hb,kb,kv,h1,h2,h3,h4,fun k hk=>hS k (h5 k hk).1 (h5 k hk).2⟩
theorem PoolIn.own{w:World}{lo hi:Nat}{S:Nat→Prop}{v0 v1:Value}{p:PoolD}(h:PoolIn w S v0 v1 p)(hS:∀k,S k→lo≤k∧k<hi):PoolOwn w lo hi v0 v1 p:=by
 obtain⟨bs,hb,kb,kv,h1,h2,h3,h4,h5⟩:=h
 exact⟨bs,hb,kb,kv,h1,h2,h3,h4,fun k hk=>hS k (h5 k hk)⟩
theorem PoolIn.mono{w:World}{S T:Nat→Prop}{v0 v1:Value}{p:PoolD}(h:PoolIn w S v0 v1 p)(hS:∀k,S k→T k):PoolIn w T v0 v1 p:=by
 obtain⟨bs,hb,kb,kv,h1,h2,h3,h4,h5⟩:=h
 exact⟨bs,hb,kb,kv,h1,h2,h3,h4,fun k hk=>hS k (h5 k hk)⟩
theorem PoolIn.below{w w':World}{S:Nat→Prop}{v0 v1:Value}{p:PoolD}(h:PoolIn w S v0 v1 p)(t:Below w.heap.size w w'):PoolIn w' S v0 v1 p:=by
 obtain⟨bs,hb,kb,kv,h1,h2,h3,h4,h5⟩:=h
 exact⟨bs,hb,kb,kv,h1.below t,h2,h3.below t,h4,h5⟩
theorem PoolIn.turned{S T:Nat→Prop}{w w':World}{v0 v1:Value}{p:PoolD}(h:PoolIn w S v0 v1 p)(t:Turned T w w')(hs:∀k,S k→¬T k):PoolIn w' S v0 v1 p:=by
 obtain⟨bs,hb,kb,kv,h1,h2,h3,h4,h5⟩:=h
 have out:∀k,SlotsB bs kb p.n p.s k∨(0<p.hn∧k=hb)→¬T k:=fun k hk=>hs k (h5 k hk)
 exact⟨bs,hb,kb,kv,h1.turned t (fun h0=>out _ (Or.inl (Or.inl ⟨h0,rfl⟩))) (fun i hi h=>out _ (Or.inl (Or.inr ⟨i,hi,h,rfl⟩))),h2,h3.turned t (fun h0=>out _ (Or.inr ⟨h0,rfl⟩)),h4,h5⟩
theorem PoolIn.at{w:World}{S:Nat→Prop}{lo hi:Nat}{v0 v1:Value}{p:PoolD}(h:PoolIn w S v0 v1 p)(hS:∀k,S k→lo≤k∧k<hi):PoolAt w lo hi v0 v1 p:=(h.own hS).at
def SetsIn(w:World)(S:Nat→Prop)(v:Value)(n:Nat)(f:Nat→SetD):Prop:=∃(bs:Nat) (kb:Nat→Nat) (kv:Nat→Value),SetsOwn w bs kb kv v n f∧SetsApart kb n f∧∀k,SetsB bs kb n f k→S k
def SnapsIn(w:World)(S:Nat→Prop)(v:Value)(n:Nat)(f:Nat→SnapD):Prop:=∃(bs:Nat) (kb:Nat→Nat) (kv:Nat→Value),SnapsOwn w bs kb kv v n f∧SnapsApart kb n f∧∀k,SnapsB bs kb n f k→S k
theorem SetsIn.turned{S T:Nat→Prop}{w w':World}{v:Value}{n:Nat}{f:Nat→SetD}(h:SetsIn w S v n f)(t:Turned T w w')(hs:∀k,S k→¬T k):SetsIn w' S v n f:=by
 obtain⟨bs,kb,kv,h1,h2,h3⟩:=h
 exact⟨bs,kb,kv,h1.turned t (fun k hk=>hs k (h3 k hk)),h2,h3⟩
theorem SnapsIn.turned{S T:Nat→Prop}{w w':World}{v:Value}{n:Nat}{f:Nat→SnapD}(h:SnapsIn w S v n f)(t:Turned T w w')(hs:∀k,S k→¬T k):SnapsIn w' S v n f:=by
 obtain⟨bs,kb,kv,h1,h2,h3⟩:=h
 exact⟨bs,kb,kv,h1.turned t (fun k hk=>hs k (h3 k hk)),h2,h3⟩
theorem SetsIn.below{S:Nat→Prop}{w w':World}{v:Value}{n:Nat}{f:Nat→SetD}(h:SetsIn w S v n f)(t:Below w.heap.size w w'):SetsIn w' S v n f:=by
 obtain⟨bs,kb,kv,h1,h2,h3⟩:=h
 exact⟨bs,kb,kv,h1.below t,h2,h3⟩
theorem SnapsIn.below{S:Nat→Prop}{w w':World}{v:Value}{n:Nat}{f:Nat→SnapD}(h:SnapsIn w S v n f)(t:Below w.heap.size w w'):SnapsIn w' S v n f:=by
 obtain⟨bs,kb,kv,h1,h2,h3⟩:=h
 exact⟨bs,kb,kv,h1.below t,h2,h3⟩
theorem SetsIn.mono{S T:Nat→Prop}{w:World}{v:Value}{n:Nat}{f:Nat→SetD}(h:SetsIn w S v n f)(hs:∀k,S k→T k):SetsIn w T v n f:=by
 obtain⟨bs,kb,kv,h1,h2,h3⟩:=h
 exact⟨bs,kb,kv,h1,h2,fun k hk=>hs k (h3 k hk)⟩
theorem SnapsIn.mono{S T:Nat→Prop}{w:World}{v:Value}{n:Nat}{f:Nat→SnapD}(h:SnapsIn w S v n f)(hs:∀k,S k→T k):SnapsIn w T v n f:=by
 obtain⟨bs,kb,kv,h1,h2,h3⟩:=h
 exact⟨bs,kb,kv,h1,h2,fun k hk=>hs k (h3 k hk)⟩
theorem SetsIn.at{S:Nat→Prop}{w:World}{v:Value}{n:Nat}{f:Nat→SetD}(h:SetsIn w S v n f){lo hi:Nat}(hs:∀k,S k→lo≤k∧k<hi):SetsAt w lo hi v n f:=by
 obtain⟨bs,kb,kv,h1,h2,h3⟩:=h
 exact h1.at (fun k hk=>hs k (h3 k hk))
theorem SnapsIn.at{S:Nat→Prop}{w:World}{v:Value}{n:Nat}{f:Nat→SnapD}(h:SnapsIn w S v n f){lo hi:Nat}(hs:∀k,S k→lo≤k∧k<hi):SnapsAt w lo hi v n f:=by
 obtain⟨bs,kb,kv,h1,h2,h3⟩:=h
 exact h1.at (fun k hk=>hs k (h3 k hk))
theorem SetsIn.form{S:Nat→Prop}{w:World}{v:Value}{n:Nat}{f:Nat→SetD}(h:SetsIn w S v n f):∃a c,v = .slice a n c∧n≤c:=by
 obtain⟨bs,kb,kv,⟨_,a,c,hv,hc,_⟩,h2,h3⟩:=h
 exact⟨a,c,hv,hc⟩
theorem SnapsIn.form{S:Nat→Prop}{w:World}{v:Value}{n:Nat}{f:Nat→SnapD}(h:SnapsIn w S v n f):∃a c,v = .slice a n c∧n≤c:=by
 obtain⟨bs,kb,kv,⟨_,a,c,hv,hc,_⟩,h2,h3⟩:=h
 exact⟨a,c,hv,hc⟩
theorem PoolIn.form{w:World}{S:Nat→Prop}{v0 v1:Value}{p:PoolD}(h:PoolIn w S v0 v1 p):∃a c a' c',v0 = .slice a p.n c∧v1 = .slice a' p.hn c':=by
 obtain⟨bs,hb,kb,kv,⟨_,a,c,h1,_⟩,h2,⟨_,a',c',h3,_,_⟩,h4,h5⟩:=h
 exact⟨a,c,a',c',h1,h3⟩
structure WorldIn (w:World) (P Q R:Nat→Prop) (v0 v1 v2 v3:Value) (W:WorldD):Prop where
 pool:PoolIn w P v0 v1 W.pool
 sets:SetsIn w Q v2 W.sn W.sets
 snaps:SnapsIn w R v3 W.pn W.snaps
 pq:∀k,P k→¬Q k
 pr:∀k,P k→¬R k
 qr:∀k,Q k→¬R k
def WorldOwn(w:World)(lo hi:Nat)(v0 v1 v2 v3:Value)(W:WorldD):Prop:=∃P Q R,WorldIn w P Q R v0 v1 v2 v3 W∧∀k,P k∨Q k∨R k→lo≤k∧k<hi
theorem WorldOwn.at{w:World}{lo hi:Nat}{v0 v1 v2 v3:Value}{W:WorldD}(h:WorldOwn w lo hi v0 v1 v2 v3 W):WorldAt w lo hi v0 v1 v2 v3 W:=by
 obtain⟨P,Q,R,h,hl⟩:=h
 exact⟨h.pool.at (fun k hk=>hl k (Or.inl hk)),h.sets.at (fun k hk=>hl k (Or.inr (Or.inl hk))),h.snaps.at (fun k hk=>hl k (Or.inr (Or.inr hk)))⟩
theorem WorldIn.below{P Q R:Nat→Prop}{w w':World}{v0 v1 v2 v3:Value}{W:WorldD}(h:WorldIn w P Q R v0 v1 v2 v3 W)(t:Below w.heap.size w w'):WorldIn w' P Q R v0 v1 v2 v3 W:=
 ⟨h.pool.below t,h.sets.below t,h.snaps.below t,h.pq,h.pr,h.qr⟩
theorem WorldOwn.below{w w':World}{lo hi:Nat}{v0 v1 v2 v3:Value}{W:WorldD}(h:WorldOwn w lo hi v0 v1 v2 v3 W)(t:Below w.heap.size w w'):WorldOwn w' lo hi v0 v1 v2 v3 W:=by
 obtain⟨P,Q,R,h,hl⟩:=h
 exact⟨P,Q,R,h.below t,hl⟩
theorem WorldIn.turned{P Q R T:Nat→Prop}{w w':World}{v0 v1 v2 v3:Value}{W:WorldD}(h:WorldIn w P Q R v0 v1 v2 v3 W)(t:Turned T w w')(hs:∀k,P k∨Q k∨R k→¬T k):WorldIn w' P Q R v0 v1 v2 v3 W:=
 ⟨h.pool.turned t (fun k hk=>hs k (Or.inl hk)),h.sets.turned t (fun k hk=>hs k (Or.inr (Or.inl hk))),h.snaps.turned t (fun k hk=>hs k (Or.inr (Or.inr hk))),h.pq,h.pr,h.qr⟩
theorem WorldOwn.turned{S:Nat→Prop}{w w':World}{lo hi:Nat}{v0 v1 v2 v3:Value}{W:WorldD}(h:WorldOwn w lo hi v0 v1 v2 v3 W)(t:Turned S w w')(hs:∀k,S k→k<lo∨hi≤k):WorldOwn w' lo hi v0 v1 v2 v3 W:=by
 obtain⟨P,Q,R,h,hl⟩:=h
 exact⟨P,Q,R,h.turned t (fun k hk hx=>by have:=hl k hk; have:=hs k hx; omega),hl⟩
theorem WorldOwn.wide{w:World}{lo hi lo' hi':Nat}{v0 v1 v2 v3:Value}{W:WorldD}(h:WorldOwn w lo hi v0 v1 v2 v3 W)(h1:lo'≤lo)(h2:hi≤hi'):WorldOwn w lo' hi' v0 v1 v2 v3 W:=by
 obtain⟨P,Q,R,h,hl⟩:=h
 exact⟨P,Q,R,h,fun k hk=>by have:=hl k hk; omega⟩
theorem WorldOwn.form{w:World}{lo hi:Nat}{v0 v1 v2 v3:Value}{W:WorldD}(h:WorldOwn w lo hi v0 v1 v2 v3 W):∃a0 c0 a1 c1 a2 c2 a3 c3,v0 = .slice a0 W.pool.n c0∧v1 = .slice a1 W.pool.hn c1∧v2 = .slice a2 W.sn c2∧v3 = .slice a3 W.pn c3:=by
 obtain⟨P,Q,R,h,hl⟩:=h
 obtain⟨a0,c0,a1,c1,e0,e1⟩:=h.pool.form
 obtain⟨a2,c2,e2,-⟩:=h.sets.form
 obtain⟨a3,c3,e3,-⟩:=h.snaps.form
 exact⟨a0,c0,a1,c1,a2,c2,a3,c3,e0,e1,e2,e3⟩
theorem WorldAt.form{w:World}{lo hi:Nat}{v0 v1 v2 v3:Value}{W:WorldD}(h:WorldAt w lo hi v0 v1 v2 v3 W):∃a0 c0 a1 c1 a2 c2 a3 c3,v0 = .slice a0 W.pool.n c0∧v1 = .slice a1 W.pool.hn c1∧v2 = .slice a2 W.sn c2∧v3 = .slice a3 W.pn c3:=by
 obtain⟨a0,c0,a1,c1,e0,e1⟩:=h.pool.form
 obtain⟨-,a2,c2,e2,-⟩:=h.sets
 obtain⟨-,a3,c3,e3,-⟩:=h.snaps
 exact⟨a0,c0,a1,c1,a2,c2,a3,c3,e0,e1,e2,e3⟩
def NewWorld(W:WorldD)(w:World)(e:Ending)(w':World):Prop:=∃v0 v1 v2 v3,e = .returned (worldV v0 v1 v2 v3 W)∧WorldOwn w' w.heap.size w'.heap.size v0 v1 v2 v3 W∧Below w.heap.size w w'
structure StoreD where
 live:WorldD
 safe:WorldD
structure StoreAt (w:World) (lo hi:Nat) (v0 v1 v2 v3 u0 u1 u2 u3:Value) (S:StoreD):Prop where
 live:WorldAt w lo hi v0 v1 v2 v3 S.live
 safe:WorldAt w lo hi u0 u1 u2 u3 S.safe
theorem StoreAt.below{w w':World}{lo hi:Nat}{v0 v1 v2 v3 u0 u1 u2 u3:Value}{S:StoreD}(h:StoreAt w lo hi v0 v1 v2 v3 u0 u1 u2 u3 S)(t:Below w.heap.size w w'):StoreAt w' lo hi v0 v1 v2 v3 u0 u1 u2 u3 S:=⟨h.live.below t,h.safe.below t⟩
theorem SetsAt.wide{w:World}{lo hi lo' hi':Nat}{v:Value}{n:Nat}{f:Nat→SetD}(h:SetsAt w lo hi v n f)(h1:lo'≤lo)(h2:hi≤hi')(hp:∀{v n f g},PtrsAt w lo hi v n f g→PtrsAt w lo' hi' v n f g):SetsAt w lo' hi' v n f:=by
 obtain⟨m,a,c,hv,hc,hx⟩:=h
 refine⟨m,a,c,hv,hc,fun h0=>?_⟩
 obtain⟨b,off,ha,l1,l2,h3⟩:=hx h0
 refine⟨b,off,ha,by omega,by omega,fun i hi=>?_⟩
 obtain⟨vd,hs⟩:=h3 i hi
 exact⟨vd,hs.c0,hs.c1,hs.c2,hs.c3,hs.c4,hs.c5,hp hs.dead,hs.small⟩
theorem SnapsAt.wide{w:World}{lo hi lo' hi':Nat}{v:Value}{n:Nat}{f:Nat→SnapD}(h:SnapsAt w lo hi v n f)(h1:lo'≤lo)(h2:hi≤hi')(hp:∀{v n f g},PtrsAt w lo hi v n f g→PtrsAt w lo' hi' v n f g):SnapsAt w lo' hi' v n f:=by
 obtain⟨m,a,c,hv,hc,hx⟩:=h
 refine⟨m,a,c,hv,hc,fun h0=>?_⟩
 obtain⟨b,off,ha,l1,l2,h3⟩:=hx h0
 refine⟨b,off,ha,by omega,by omega,fun i hi=>?_⟩
 obtain⟨vd,hs⟩:=h3 i hi
 exact⟨vd,hs.c0,hs.c1,hs.c2,hs.c3,hs.c4,hs.c5,hs.c6,hs.c7,hp hs.dead,hs.small⟩
theorem PtrsAt.wide{w:World}{lo hi lo' hi':Nat}{v:Value}{n:Nat}{f g:Nat→Int}(h:PtrsAt w lo hi v n f g)(h1:lo'≤lo)(h2:hi≤hi'):PtrsAt w lo' hi' v n f g:=by
 obtain⟨m,a,c,hv,hc,hx⟩:=h
 refine⟨m,a,c,hv,hc,fun h0=>?_⟩
 obtain⟨b,off,ha,l1,l2,h3⟩:=hx h0
 exact⟨b,off,ha,by omega,by omega,h3⟩
theorem IntsAt.wide{w:World}{lo hi lo' hi':Nat}{v:Value}{n:Nat}{f:Nat→Int}(h:IntsAt w lo hi v n f)(h1:lo'≤lo)(h2:hi≤hi'):IntsAt w lo' hi' v n f:=by
 obtain⟨m,a,c,hv,hc,hx⟩:=h
 refine⟨m,a,c,hv,hc,fun h0=>?_⟩
 obtain⟨b,off,ha,l1,l2,h3⟩:=hx h0
 exact⟨b,off,ha,by omega,by omega,h3⟩
theorem SlotsAt.wide{w:World}{lo hi lo' hi':Nat}{v:Value}{n:Nat}{f:Nat→SlotD}(h:SlotsAt w lo hi v n f)(h1:lo'≤lo)(h2:hi≤hi'):SlotsAt w lo' hi' v n f:=by
 obtain⟨m,a,c,hv,hc,hx⟩:=h
 refine⟨m,a,c,hv,hc,fun h0=>?_⟩
 obtain⟨b,off,ha,l1,l2,h3⟩:=hx h0
 refine⟨b,off,ha,by omega,by omega,fun i hi=>?_⟩
 obtain⟨x0,x1,x2,c0,c1,c2,e0,hp,e2,hs⟩:=h3 i hi
 exact⟨x0,x1,x2,c0,c1,c2,e0,hp.wide h1 h2,e2,hs⟩
theorem WorldAt.wide{w:World}{lo hi lo' hi':Nat}{v0 v1 v2 v3:Value}{W:WorldD}(h:WorldAt w lo hi v0 v1 v2 v3 W)(h1:lo'≤lo)(h2:hi≤hi'):WorldAt w lo' hi' v0 v1 v2 v3 W:=
 ⟨⟨h.pool.1.wide h1 h2,h.pool.2.wide h1 h2⟩,h.sets.wide h1 h2 (fun hp=>hp.wide h1 h2),h.snaps.wide h1 h2 (fun hp=>hp.wide h1 h2)⟩
def StoreOwn(w:World)(lo hi:Nat)(v0 v1 v2 v3 u0 u1 u2 u3:Value)(S:StoreD):Prop:=∃l1 h1 l2 h2,WorldOwn w l1 h1 v0 v1 v2 v3 S.live∧WorldOwn w l2 h2 u0 u1 u2 u3 S.safe∧lo≤l1∧h1≤hi∧lo≤l2∧h2≤hi∧(h1≤l2∨h2≤l1)
theorem StoreOwn.at{w:World}{lo hi:Nat}{v0 v1 v2 v3 u0 u1 u2 u3:Value}{S:StoreD}(h:StoreOwn w lo hi v0 v1 v2 v3 u0 u1 u2 u3 S):StoreAt w lo hi v0 v1 v2 v3 u0 u1 u2 u3 S:=by
 obtain⟨l1,h1,l2,h2,a,b,c1,c2,c3,c4,_⟩:=h
 exact⟨a.at.wide c1 c2,b.at.wide c3 c4⟩
theorem StoreOwn.below{w w':World}{lo hi:Nat}{v0 v1 v2 v3 u0 u1 u2 u3:Value}{S:StoreD}(h:StoreOwn w lo hi v0 v1 v2 v3 u0 u1 u2 u3 S)(t:Below w.heap.size w w'):StoreOwn w' lo hi v0 v1 v2 v3 u0 u1 u2 u3 S:=by
 obtain⟨l1,h1,l2,h2,a,b,c⟩:=h
 exact⟨l1,h1,l2,h2,a.below t,b.below t,c⟩
theorem StoreOwn.turned{T:Nat→Prop}{w w':World}{lo hi:Nat}{v0 v1 v2 v3 u0 u1 u2 u3:Value}{S:StoreD}(h:StoreOwn w lo hi v0 v1 v2 v3 u0 u1 u2 u3 S)(t:Turned T w w')(hs:∀k,T k→k<lo∨hi≤k):StoreOwn w' lo hi v0 v1 v2 v3 u0 u1 u2 u3 S:=by
 obtain⟨l1,h1,l2,h2,a,b,c⟩:=h
 exact⟨l1,h1,l2,h2,a.turned t (fun k hk=>by have:=hs k hk; omega),b.turned t (fun k hk=>by have:=hs k hk; omega),c⟩
set_option maxRecDepth 20000 in
set_option maxHeartbeats 400000 in
theorem clonePtrs_any(v:Value)(n lo hi:Nat)(f g:Nat→Int)(w:World)(h1:PtrsAt w lo hi v n f g)(hn:n≤1048576) :
  Calls Tryz.prog 171 #[v] w fun e w'=>(∃v' kb,e = .returned v'∧PtrsOwn w' kb v' n f g∧(0<n→w.heap.size≤kb∧kb<w'.heap.size))∧Below w.heap.size w w':=by
 obtain⟨m1,a,c,rfl,mc,g1⟩:=h1
 have G1:Hid (0<n→∃b off,a=some ⟨b,off,none⟩∧lo≤b∧b<hi∧∀i,i<n→w.cell? ⟨b,off+i*2,none⟩=some (.int .i64 (f i))∧w.cell? ⟨b,off+i*2+1,none⟩=some (.int .i64 (g i))):=g1
 have Hm:Hid (n≤maxLen):=m1
 clear g1 m1
 have heq:=fun w=>Lib.run_eql_slice_nil (P:=Tryz.prog) w 62 61 a n c 0 0 (by kernel_rfl)
 cases a with
 | none=>
  have hn0:n=0:=by
   by_cases h:0<n
   ·obtain⟨b,off,ha,_⟩:=G1.out h; simp at ha
   ·omega
  subst hn0
  go_enter Tryz.func171,Tryz.ntmps171
  go_wp2
  go_ret
  exact⟨⟨_,0,rfl,⟨Nat.zero_le _,none,0,rfl,Nat.le_refl _,fun h=>absurd h (Nat.lt_irrefl _)⟩,fun h=>absurd h (Nat.lt_irrefl _)⟩,Below.refl _ _⟩
 | some ad=>
  obtain⟨i0,hi,hzz⟩:=Option.map_eq_some_iff.1 infoPtrT
  simp only [Prod.mk.injEq] at hzz
  obtain⟨hz,hs,hby⟩:=hzz
  have hsrc:∀(w':World),Below w.heap.size w w'→∀j u,(kc f g n)[j]?=some u→w'.cell? (ad.add j)=some u:=fun w' hb j u hj=>by
   by_cases h0:0<n
   ·obtain⟨b,off,ha,_,_,hc⟩:=G1.out h0
    simp only [Option.some.injEq] at ha
    subst ha
    have:=kc_cells hc j u hj
    have hadd:(⟨b,off,none⟩:Addr).add j=⟨b,off+j,none⟩:=by unfold Addr.add; split <;> simp_all
    rw [hadd] at this ⊢
    exact(hb.cell (lt_of_cell this)).trans this
   ·obtain rfl:n=0:=by omega
    simp [kc] at hj
  have Hsrc:Hid (∀(w':World),Below w.heap.size w w'→∀j u,(kc f g n)[j]?=some u→w'.cell? (ad.add j)=some u):=hsrc
  have HI:Hid (Tryz.prog.info? 61=some i0∧i0.zero=some (.agg #[.int .i64 0,.int .i64 0])∧i0.size=2∧i0.bytes=16):=⟨hi,hz,hs,hby⟩
  have hown0:(w.alloc (.cells #[] 61)).ownsRow w.heap.size 61 2 (.slice (some ⟨w.heap.size,0,none⟩) 0 0) 0 []:=World.ownsRow_made w #[] 0 (Nat.le_refl _) (Nat.zero_le _) (by simp)
  have Hown0:Hid ((w.alloc (.cells #[] 61)).ownsRow w.heap.size 61 2 (.slice (some ⟨w.heap.size,0,none⟩) 0 0) 0 []):=hown0
  clear hi hz hs hby hsrc hown0
  go_enter Tryz.func171,Tryz.ntmps171
  go_wp2_with (first
   | (at_builtin; refine wpList_append_own _ rfl _ _ 62 rfl w.heap.size 61 i0 (.agg #[.int .i64 0,.int .i64 0]) 2 16 (by kernel_rfl) HI.out.1 HI.out.2.1 HI.out.2.2.1 HI.out.2.2.2 rfl (by decide) _ _ _ rfl Hown0.out ad n c (kc f g n) rfl (kc_len f g n) ?c1 (kc_one f g n) ?c3 ?c4 ?c5 ?_))
  case c1=>exact Hsrc.out _ ((Below.refl _ _).alloc (Nat.le_refl _) _)
  case c3=>unfold maxLen; omega
  case c4=>omega
  case c5=>simp
  intro v' w1 hown' hgrow hnil
  have hb1:Below w.heap.size w w1:=((Below.refl _ _).alloc (Nat.le_refl _) _).grown hgrow (by simp) (fun q hq=>by have:=Hown0.out.lt q hq; omega)
  have hown2:w1.ownsRow w.heap.size 61 2 v' n (kc f g n):=by simpa using hown'
  obtain⟨kb,hp,hk⟩:=ptrs_of_owns Hm.out hown2
  have Hp:Hid (PtrsOwn w1 kb v' n f g∧(0<n→w.heap.size≤kb∧kb<w1.heap.size)):=⟨hp,hk⟩
  clear hp hk hown' hown2 hgrow hnil
  go_wp2
  go_ret
  exact⟨⟨v',kb,rfl,Hp.out.1,Hp.out.2⟩,hb1⟩
end Go.Proofs.YtmgeglgboadfiaaGreatDoor
