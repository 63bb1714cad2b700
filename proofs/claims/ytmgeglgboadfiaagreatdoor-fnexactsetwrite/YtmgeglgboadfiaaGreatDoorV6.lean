/- A part of the proof. -/
import Derived.Test.YtmgeglgboadfiaaGreatDoorV2
set_option linter.unusedVariables false
set_option maxRecDepth 20000
set_option maxHeartbeats 4000000
namespace Go.Proofs.YtmgeglgboadfiaaGreatDoor
open Go.RowKit
def zKO:qD:={name:=⟨#[]⟩,origin:=0,zRh:=0,rs:=0,rb:=0,dn:=0,ds:=fun _=>0,db:=fun _=>0}
structure zAG (w:World) (bs o kb:Nat) (kv:Value) (s:qD):Prop where
 c0:zW w bs o (.string s.name)
 c1:zW w bs (o+1) (.int .i64 s.origin)
 c2:zW w bs (o+2) (.int .i64 s.zRh)
 c3:zW w bs (o+3) (.int .i64 s.rs)
 c4:zW w bs (o+4) (.int .i64 s.rb)
 c5:zW w bs (o+5) kv
 zRl:zm w kb kv s.dn s.ds s.db
 zRn:s.name.size<=maxLen
 zRk:0<s.dn->kb≠bs
theorem zAG.zRf{S:Nat->Prop}{w w':World}{bs o kb:Nat}{kv:Value}{s:qD}(h:zAG w bs o kb kv s)(t:zF S w w')(h1:¬S bs)(h2:0<s.dn->¬S kb):zAG w' bs o kb kv s:=
 ⟨h.c0.zRf t h1,h.c1.zRf t h1,h.c2.zRf t h1,h.c3.zRf t h1,h.c4.zRf t h1,h.c5.zRf t h1,h.zRl.zRf t h2,h.zRn,h.zRk⟩
theorem zAG.zRX{w w':World}{bs o kb:Nat}{kv:Value}{s:qD}(h:zAG w bs o kb kv s)(t:Below w.heap.size w w'):zAG w' bs o kb kv s:=
 h.zRf (zF.zRa (S:=fun _=>False) t) (fun h=>h) (fun _ h=>h)
theorem zAG.cells{w:World}{bs o kb:Nat}{kv:Value}{s:qD}(h:zAG w bs o kb kv s){lo hi:Nat}(hb:0<s.dn->lo<=kb/\kb<hi):zBe w bs o lo hi kv s:=
 ⟨h.c0.1,h.c1.1,h.c2.1,h.c3.1,h.c4.1,h.c5.1,h.zRl.at hb,h.zRn⟩
theorem zAG.deadLt{w:World}{bs o kb:Nat}{kv:Value}{s:qD}(h:zAG w bs o kb kv s)(h0:0<s.dn):kb<w.heap.size:=by
 obtain⟨_,_,_,_,_,h4⟩:=h.zRl;obtain⟨o,_,h5⟩:=h4 h0;exact(h5 0 h0).1.lt
def yJ(w:World)(bs:Nat)(kb:Nat->Nat)(kv:Nat->Value)(v:Value)(n:Nat)(f:Nat->qD):Prop:=
 n<=maxLen/\∃a cap,v = .slice a n cap/\n<=cap/\(0<n->∃off,a=some ⟨bs,off,none⟩/\∀i,i<n->zAG w bs (off+i*6) (kb i) (kv i) (f i))
def zCN(bs:Nat)(kb:Nat->Nat)(n:Nat)(f:Nat->qD)(k:Nat):Prop:=(0<n/\k=bs)\/∃i,i<n/\0<(f i).dn/\k=kb i
def zBN(kb:Nat->Nat)(n:Nat)(f:Nat->qD):Prop:=∀i j,i<n->j<n->i≠j->0<(f i).dn->0<(f j).dn->kb i≠kb j
theorem yJ.lt{w:World}{bs:Nat}{kb:Nat->Nat}{kv:Nat->Value}{v:Value}{n:Nat}{f:Nat->qD}(h:yJ w bs kb kv v n f){k:Nat}(hk:zCN bs kb n f k):k<w.heap.size:=by
 obtain⟨_,a,aA,_,_,hc⟩:=h;rcases hk with⟨h0,rfl⟩ | ⟨i,hi,h0,rfl⟩
 ·obtain⟨off,_,h3⟩:=hc h0;exact(h3 0 h0).c0.lt
 ·obtain⟨off,_,h3⟩:=hc (by omega);exact(h3 i hi).deadLt h0
theorem yJ.zRf{S:Nat->Prop}{w w':World}{bs:Nat}{kb:Nat->Nat}{kv:Nat->Value}{v:Value}{n:Nat}{f:Nat->qD}(h:yJ w bs kb kv v n f)(t:zF S w w')(hs:∀k,zCN bs kb n f k->¬S k):yJ w' bs kb kv v n f:=by
 obtain⟨h0,a,aA,hv,bA,hc⟩:=h;refine⟨h0,a,aA,hv,bA,fun hn=>?_⟩;obtain⟨off,ha,h3⟩:=hc hn;exact⟨off,ha,fun i hi=>(h3 i hi).zRf t (hs _ (Or.inl ⟨hn,rfl⟩)) (fun h=>hs _ (Or.inr ⟨i,hi,h,rfl⟩))⟩
theorem yJ.zRX{w w':World}{bs:Nat}{kb:Nat->Nat}{kv:Nat->Value}{v:Value}{n:Nat}{f:Nat->qD}(h:yJ w bs kb kv v n f)(t:Below w.heap.size w w'):yJ w' bs kb kv v n f:=
 h.zRf (zF.zRa (S:=fun _=>False) t) (fun _ _ h=>h)
theorem yJ.at{w:World}{bs:Nat}{kb:Nat->Nat}{kv:Nat->Value}{v:Value}{n:Nat}{f:Nat->qD}(h:yJ w bs kb kv v n f){lo hi:Nat}(hb:∀k,zCN bs kb n f k->lo<=k/\k<hi):yW w lo hi v n f:=by
 obtain⟨h0,a,aA,hv,bA,hc⟩:=h;refine⟨h0,a,aA,hv,bA,fun hn=>?_⟩;obtain⟨off,ha,h3⟩:=hc hn;have hx:=hb _ (Or.inl ⟨hn,rfl⟩);exact⟨bs,off,ha,hx.1,hx.2,fun i hi=>⟨_,(h3 i hi).cells (fun h=>hb _ (Or.inr ⟨i,hi,h,rfl⟩))⟩⟩
structure zDz (wr:World) (bs n k:Nat) (f:Nat->qD) (kb:Nat->Nat) (kv:Nat->Value):Prop where
 rows:∀j,j<n->zAG wr bs (0+j*6) (kb j) (kv j) (if j<k then f j else zKO)
 zRk:zBN kb k f
 zRm:∀j,j<k->0<(f j).dn->bs<kb j/\kb j<wr.heap.size
theorem zDz.zRX{wr w':World}{bs n k:Nat}{f:Nat->qD}{kb:Nat->Nat}{kv:Nat->Value}(h:zDz wr bs n k f kb kv)(t:Below wr.heap.size wr w'):zDz w' bs n k f kb kv:=
 ⟨fun j hj=>(h.rows j hj).zRX t,h.zRk,fun j hj h0=>by have:=h.zRm j hj h0;have:=t.size;omega⟩
theorem zDz.next{wr w1:World}{bs n k b:Nat}{f:Nat->qD}{kb:Nat->Nat}{kv:Nat->Value}{v:Value}(h:zDz wr bs n k f kb kv)(hk:k<n)(dA:bs<wr.heap.size)(t:Below wr.heap.size wr w1)
  (hp:zm w1 b v (f k).dn (f k).ds (f k).db) (hb:wr.heap.size<=b) (cA:b<w1.heap.size) (hs:(f k).name.size<=maxLen) :
  zDz ((((((w1.setCell ⟨bs,0+k*6,none⟩ (.string (f k).name)).setCell ⟨bs,0+k*6+1,none⟩ (.int .i64 (f k).origin)).setCell ⟨bs,0+k*6+2,none⟩ (.int .i64 (f k).zRh)).setCell ⟨bs,0+k*6+3,none⟩ (.int .i64 (f k).rs)).setCell ⟨bs,0+k*6+4,none⟩ (.int .i64 (f k).rb)).setCell ⟨bs,0+k*6+5,none⟩ v) bs n (k+1) f (fun j=>if j=k then b else kb j) (fun j=>if j=k then v else kv j):=by
 have h':=h.zRX t;refine⟨fun j hj=>?_,fun i j hi hj bA h1 h2=>?_,fun j hj h0=>?_⟩
 ·have aA:=h'.rows j hj;by_cases e:j=k
  ·subst e;simp only[if_true];rw[if_pos (by omega)];refine⟨?_,?_,?_,?_,?_,?_,?_,hs,fun _=>by omega⟩
   ·exact(((((aA.c0.set _).zRY _ (Or.inr (by omega))).zRY _ (Or.inr (by omega))).zRY _ (Or.inr (by omega))).zRY _ (Or.inr (by omega))).zRY _ (Or.inr (by omega))
   ·exact(((((aA.c1.zRY _ (Or.inr (by omega))).set _).zRY _ (Or.inr (by omega))).zRY _ (Or.inr (by omega))).zRY _ (Or.inr (by omega))).zRY _ (Or.inr (by omega))
   ·exact(((((aA.c2.zRY _ (Or.inr (by omega))).zRY _ (Or.inr (by omega))).set _).zRY _ (Or.inr (by omega))).zRY _ (Or.inr (by omega))).zRY _ (Or.inr (by omega))
   ·exact(((((aA.c3.zRY _ (Or.inr (by omega))).zRY _ (Or.inr (by omega))).zRY _ (Or.inr (by omega))).set _).zRY _ (Or.inr (by omega))).zRY _ (Or.inr (by omega))
   ·exact(((((aA.c4.zRY _ (Or.inr (by omega))).zRY _ (Or.inr (by omega))).zRY _ (Or.inr (by omega))).zRY _ (Or.inr (by omega))).set _).zRY _ (Or.inr (by omega))
   ·exact(((((aA.c5.zRY _ (Or.inr (by omega))).zRY _ (Or.inr (by omega))).zRY _ (Or.inr (by omega))).zRY _ (Or.inr (by omega))).zRY _ (Or.inr (by omega))).set _
   ·exact(((((hp.put _ (by omega)).put _ (by omega)).put _ (by omega)).put _ (by omega)).put _ (by omega)).put _ (by omega)
  ·simp only[if_neg e];have es:(if j<k+1 then f j else zKO)=if j<k then f j else zKO:=by
    by_cases e2:j<k
    ·rw[if_pos e2,if_pos (by omega)]
    ·rw[if_neg e2,if_neg (by omega)]
   rw[es];refine⟨?_,?_,?_,?_,?_,?_,?_,aA.zRn,aA.zRk⟩
   ·exact(((((aA.c0.zRY _ (Or.inr (by omega))).zRY _ (Or.inr (by omega))).zRY _ (Or.inr (by omega))).zRY _ (Or.inr (by omega))).zRY _ (Or.inr (by omega))).zRY _ (Or.inr (by omega))
   ·exact(((((aA.c1.zRY _ (Or.inr (by omega))).zRY _ (Or.inr (by omega))).zRY _ (Or.inr (by omega))).zRY _ (Or.inr (by omega))).zRY _ (Or.inr (by omega))).zRY _ (Or.inr (by omega))
   ·exact(((((aA.c2.zRY _ (Or.inr (by omega))).zRY _ (Or.inr (by omega))).zRY _ (Or.inr (by omega))).zRY _ (Or.inr (by omega))).zRY _ (Or.inr (by omega))).zRY _ (Or.inr (by omega))
   ·exact(((((aA.c3.zRY _ (Or.inr (by omega))).zRY _ (Or.inr (by omega))).zRY _ (Or.inr (by omega))).zRY _ (Or.inr (by omega))).zRY _ (Or.inr (by omega))).zRY _ (Or.inr (by omega))
   ·exact(((((aA.c4.zRY _ (Or.inr (by omega))).zRY _ (Or.inr (by omega))).zRY _ (Or.inr (by omega))).zRY _ (Or.inr (by omega))).zRY _ (Or.inr (by omega))).zRY _ (Or.inr (by omega))
   ·exact(((((aA.c5.zRY _ (Or.inr (by omega))).zRY _ (Or.inr (by omega))).zRY _ (Or.inr (by omega))).zRY _ (Or.inr (by omega))).zRY _ (Or.inr (by omega))).zRY _ (Or.inr (by omega))
   ·refine(((((aA.zRl.zRf (zF.put _ _ _ _) ?_).zRf (zF.put _ _ _ _) ?_).zRf (zF.put _ _ _ _) ?_).zRf (zF.put _ _ _ _) ?_).zRf (zF.put _ _ _ _) ?_).zRf (zF.put _ _ _ _) ?_
    all_goals exact fun h0 hx=>aA.zRk h0 hx
 ·show(if i=k then b else kb i)≠(if j=k then b else kb j);by_cases e1:i=k
  ·by_cases e2:j=k
   ·omega
   ·rw[if_pos e1,if_neg e2];have:=h.zRm j (by omega) h2;omega
  ·by_cases e2:j=k
   ·rw[if_neg e1,if_pos e2];have:=h.zRm i (by omega) h1;omega
   ·rw[if_neg e1,if_neg e2];exact h.zRk i j (by omega) (by omega) bA h1 h2
 ·simp only[World.size_setCell];by_cases e:j=k
  ·rw[if_pos e];omega
  ·rw[if_neg e];have:=h'.zRm j (by omega) h0;omega
theorem zIL:(Tryz.prog.info? 67).map (fun i=>(i.zero,i.size,i.bytes))=some (some (.agg #[.string ⟨#[]⟩,.int .i64 0,.int .i64 0,.int .i64 0,.int .i64 0,.slice none 0 0]),6,72):=by kernel_rfl
theorem zMV{w:World}{bs n j:Nat}(hj:j<n)(aA:bs=w.heap.size):zAG (w.alloc (.cells (zA2 #[.string ⟨#[]⟩,.int .i64 0,.int .i64 0,.int .i64 0,.int .i64 0,.slice none 0 0] n) 67)) bs (0+j*6) 0 (.slice none 0 0) zKO:=by
 subst aA;have c0:=qk w #[.string ⟨#[]⟩,.int .i64 0,.int .i64 0,.int .i64 0,.int .i64 0,.slice none 0 0] n j 0 67 hj (by simp);have c1:=qk w #[.string ⟨#[]⟩,.int .i64 0,.int .i64 0,.int .i64 0,.int .i64 0,.slice none 0 0] n j 1 67 hj (by simp);have c2:=qk w #[.string ⟨#[]⟩,.int .i64 0,.int .i64 0,.int .i64 0,.int .i64 0,.slice none 0 0] n j 2 67 hj (by simp);have c3:=qk w #[.string ⟨#[]⟩,.int .i64 0,.int .i64 0,.int .i64 0,.int .i64 0,.slice none 0 0] n j 3 67 hj (by simp);have c4:=qk w #[.string ⟨#[]⟩,.int .i64 0,.int .i64 0,.int .i64 0,.int .i64 0,.slice none 0 0] n j 4 67 hj (by simp);have c5:=qk w #[.string ⟨#[]⟩,.int .i64 0,.int .i64 0,.int .i64 0,.int .i64 0,.slice none 0 0] n j 5 67 hj (by simp);refine⟨?_,?_,?_,?_,?_,?_,⟨Nat.zero_le _,none,0,rfl,Nat.le_refl _,fun h=>absurd h (Nat.lt_irrefl _)⟩,Nat.zero_le _,fun h=>absurd h (Nat.lt_irrefl _)⟩
 ·show zW _ _ _ (.string ⟨#[]⟩);simpa using c0
 ·show zW _ _ _ (.int .i64 0);simpa using c1
 ·show zW _ _ _ (.int .i64 0);simpa using c2
 ·show zW _ _ _ (.int .i64 0);simpa using c3
 ·show zW _ _ _ (.int .i64 0);simpa using c4
 ·show zW _ _ _ (.slice none 0 0);simpa using c5
def zHX:zl:={id:=0,name:=⟨#[]⟩,set:=⟨#[]⟩,zRh:=0,time:=0,rs:=0,rb:=0,dn:=0,ds:=fun _=>0,db:=fun _=>0}
structure zAJ (w:World) (bs o kb:Nat) (kv:Value) (s:zl):Prop where
 c0:zW w bs o (.int .i64 s.id)
 c1:zW w bs (o+1) (.string s.name)
 c2:zW w bs (o+2) (.string s.set)
 c3:zW w bs (o+3) (.int .i64 s.zRh)
 c4:zW w bs (o+4) (.int .i64 s.time)
 c5:zW w bs (o+5) (.int .i64 s.rs)
 c6:zW w bs (o+6) (.int .i64 s.rb)
 c7:zW w bs (o+7) kv
 zRl:zm w kb kv s.dn s.ds s.db
 zRn:s.name.size<=maxLen/\s.set.size<=maxLen
 zRk:0<s.dn->kb≠bs
theorem zAJ.zRf{S:Nat->Prop}{w w':World}{bs o kb:Nat}{kv:Value}{s:zl}(h:zAJ w bs o kb kv s)(t:zF S w w')(h1:¬S bs)(h2:0<s.dn->¬S kb):zAJ w' bs o kb kv s:=
 ⟨h.c0.zRf t h1,h.c1.zRf t h1,h.c2.zRf t h1,h.c3.zRf t h1,h.c4.zRf t h1,h.c5.zRf t h1,h.c6.zRf t h1,h.c7.zRf t h1,h.zRl.zRf t h2,h.zRn,h.zRk⟩
theorem zAJ.zRX{w w':World}{bs o kb:Nat}{kv:Value}{s:zl}(h:zAJ w bs o kb kv s)(t:Below w.heap.size w w'):zAJ w' bs o kb kv s:=
 h.zRf (zF.zRa (S:=fun _=>False) t) (fun h=>h) (fun _ h=>h)
theorem zAJ.cells{w:World}{bs o kb:Nat}{kv:Value}{s:zl}(h:zAJ w bs o kb kv s){lo hi:Nat}(hb:0<s.dn->lo<=kb/\kb<hi):zAo w bs o lo hi kv s:=
 ⟨h.c0.1,h.c1.1,h.c2.1,h.c3.1,h.c4.1,h.c5.1,h.c6.1,h.c7.1,h.zRl.at hb,h.zRn⟩
theorem zAJ.deadLt{w:World}{bs o kb:Nat}{kv:Value}{s:zl}(h:zAJ w bs o kb kv s)(h0:0<s.dn):kb<w.heap.size:=by
 obtain⟨_,_,_,_,_,h4⟩:=h.zRl;obtain⟨o,_,h5⟩:=h4 h0;exact(h5 0 h0).1.lt
def yS(w:World)(bs:Nat)(kb:Nat->Nat)(kv:Nat->Value)(v:Value)(n:Nat)(f:Nat->zl):Prop:=
 n<=maxLen/\∃a cap,v = .slice a n cap/\n<=cap/\(0<n->∃off,a=some ⟨bs,off,none⟩/\∀i,i<n->zAJ w bs (off+i*8) (kb i) (kv i) (f i))
def zCI(bs:Nat)(kb:Nat->Nat)(n:Nat)(f:Nat->zl)(k:Nat):Prop:=(0<n/\k=bs)\/∃i,i<n/\0<(f i).dn/\k=kb i
def zA7(kb:Nat->Nat)(n:Nat)(f:Nat->zl):Prop:=∀i j,i<n->j<n->i≠j->0<(f i).dn->0<(f j).dn->kb i≠kb j
theorem yS.lt{w:World}{bs:Nat}{kb:Nat->Nat}{kv:Nat->Value}{v:Value}{n:Nat}{f:Nat->zl}(h:yS w bs kb kv v n f){k:Nat}(hk:zCI bs kb n f k):k<w.heap.size:=by
 obtain⟨_,a,aA,_,_,hc⟩:=h;rcases hk with⟨h0,rfl⟩ | ⟨i,hi,h0,rfl⟩
 ·obtain⟨off,_,h3⟩:=hc h0;exact(h3 0 h0).c0.lt
 ·obtain⟨off,_,h3⟩:=hc (by omega);exact(h3 i hi).deadLt h0
theorem yS.zRf{S:Nat->Prop}{w w':World}{bs:Nat}{kb:Nat->Nat}{kv:Nat->Value}{v:Value}{n:Nat}{f:Nat->zl}(h:yS w bs kb kv v n f)(t:zF S w w')(hs:∀k,zCI bs kb n f k->¬S k):yS w' bs kb kv v n f:=by
 obtain⟨h0,a,aA,hv,bA,hc⟩:=h;refine⟨h0,a,aA,hv,bA,fun hn=>?_⟩;obtain⟨off,ha,h3⟩:=hc hn;exact⟨off,ha,fun i hi=>(h3 i hi).zRf t (hs _ (Or.inl ⟨hn,rfl⟩)) (fun h=>hs _ (Or.inr ⟨i,hi,h,rfl⟩))⟩
theorem yS.zRX{w w':World}{bs:Nat}{kb:Nat->Nat}{kv:Nat->Value}{v:Value}{n:Nat}{f:Nat->zl}(h:yS w bs kb kv v n f)(t:Below w.heap.size w w'):yS w' bs kb kv v n f:=
 h.zRf (zF.zRa (S:=fun _=>False) t) (fun _ _ h=>h)
theorem yS.at{w:World}{bs:Nat}{kb:Nat->Nat}{kv:Nat->Value}{v:Value}{n:Nat}{f:Nat->zl}(h:yS w bs kb kv v n f){lo hi:Nat}(hb:∀k,zCI bs kb n f k->lo<=k/\k<hi):qw w lo hi v n f:=by
 obtain⟨h0,a,aA,hv,bA,hc⟩:=h;refine⟨h0,a,aA,hv,bA,fun hn=>?_⟩;obtain⟨off,ha,h3⟩:=hc hn;have hx:=hb _ (Or.inl ⟨hn,rfl⟩);exact⟨bs,off,ha,hx.1,hx.2,fun i hi=>⟨_,(h3 i hi).cells (fun h=>hb _ (Or.inr ⟨i,hi,h,rfl⟩))⟩⟩
structure zCz (wr:World) (bs n k:Nat) (f:Nat->zl) (kb:Nat->Nat) (kv:Nat->Value):Prop where
 rows:∀j,j<n->zAJ wr bs (0+j*8) (kb j) (kv j) (if j<k then f j else zHX)
 zRk:zA7 kb k f
 zRm:∀j,j<k->0<(f j).dn->bs<kb j/\kb j<wr.heap.size
theorem zCz.zRX{wr w':World}{bs n k:Nat}{f:Nat->zl}{kb:Nat->Nat}{kv:Nat->Value}(h:zCz wr bs n k f kb kv)(t:Below wr.heap.size wr w'):zCz w' bs n k f kb kv:=
 ⟨fun j hj=>(h.rows j hj).zRX t,h.zRk,fun j hj h0=>by have:=h.zRm j hj h0;have:=t.size;omega⟩
theorem zCz.next{wr w1:World}{bs n k b:Nat}{f:Nat->zl}{kb:Nat->Nat}{kv:Nat->Value}{v:Value}(h:zCz wr bs n k f kb kv)(hk:k<n)(dA:bs<wr.heap.size)(t:Below wr.heap.size wr w1)
  (hp:zm w1 b v (f k).dn (f k).ds (f k).db) (hb:wr.heap.size<=b) (cA:b<w1.heap.size) (hs:(f k).name.size<=maxLen/\(f k).set.size<=maxLen) :
  zCz ((((((((w1.setCell ⟨bs,0+k*8,none⟩ (.int .i64 (f k).id)).setCell ⟨bs,0+k*8+1,none⟩ (.string (f k).name)).setCell ⟨bs,0+k*8+2,none⟩ (.string (f k).set)).setCell ⟨bs,0+k*8+3,none⟩ (.int .i64 (f k).zRh)).setCell ⟨bs,0+k*8+4,none⟩ (.int .i64 (f k).time)).setCell ⟨bs,0+k*8+5,none⟩ (.int .i64 (f k).rs)).setCell ⟨bs,0+k*8+6,none⟩ (.int .i64 (f k).rb)).setCell ⟨bs,0+k*8+7,none⟩ v) bs n (k+1) f (fun j=>if j=k then b else kb j) (fun j=>if j=k then v else kv j):=by
 have h':=h.zRX t;refine⟨fun j hj=>?_,fun i j hi hj bA h1 h2=>?_,fun j hj h0=>?_⟩
 ·have aA:=h'.rows j hj;by_cases e:j=k
  ·subst e;simp only[if_true];rw[if_pos (by omega)];refine⟨?_,?_,?_,?_,?_,?_,?_,?_,?_,hs,fun _=>by omega⟩
   ·exact(((((((aA.c0.set _).zRY _ (Or.inr (by omega))).zRY _ (Or.inr (by omega))).zRY _ (Or.inr (by omega))).zRY _ (Or.inr (by omega))).zRY _ (Or.inr (by omega))).zRY _ (Or.inr (by omega))).zRY _ (Or.inr (by omega))
   ·exact(((((((aA.c1.zRY _ (Or.inr (by omega))).set _).zRY _ (Or.inr (by omega))).zRY _ (Or.inr (by omega))).zRY _ (Or.inr (by omega))).zRY _ (Or.inr (by omega))).zRY _ (Or.inr (by omega))).zRY _ (Or.inr (by omega))
   ·exact(((((((aA.c2.zRY _ (Or.inr (by omega))).zRY _ (Or.inr (by omega))).set _).zRY _ (Or.inr (by omega))).zRY _ (Or.inr (by omega))).zRY _ (Or.inr (by omega))).zRY _ (Or.inr (by omega))).zRY _ (Or.inr (by omega))
   ·exact(((((((aA.c3.zRY _ (Or.inr (by omega))).zRY _ (Or.inr (by omega))).zRY _ (Or.inr (by omega))).set _).zRY _ (Or.inr (by omega))).zRY _ (Or.inr (by omega))).zRY _ (Or.inr (by omega))).zRY _ (Or.inr (by omega))
   ·exact(((((((aA.c4.zRY _ (Or.inr (by omega))).zRY _ (Or.inr (by omega))).zRY _ (Or.inr (by omega))).zRY _ (Or.inr (by omega))).set _).zRY _ (Or.inr (by omega))).zRY _ (Or.inr (by omega))).zRY _ (Or.inr (by omega))
   ·exact(((((((aA.c5.zRY _ (Or.inr (by omega))).zRY _ (Or.inr (by omega))).zRY _ (Or.inr (by omega))).zRY _ (Or.inr (by omega))).zRY _ (Or.inr (by omega))).set _).zRY _ (Or.inr (by omega))).zRY _ (Or.inr (by omega))
   ·exact(((((((aA.c6.zRY _ (Or.inr (by omega))).zRY _ (Or.inr (by omega))).zRY _ (Or.inr (by omega))).zRY _ (Or.inr (by omega))).zRY _ (Or.inr (by omega))).zRY _ (Or.inr (by omega))).set _).zRY _ (Or.inr (by omega))
   ·exact(((((((aA.c7.zRY _ (Or.inr (by omega))).zRY _ (Or.inr (by omega))).zRY _ (Or.inr (by omega))).zRY _ (Or.inr (by omega))).zRY _ (Or.inr (by omega))).zRY _ (Or.inr (by omega))).zRY _ (Or.inr (by omega))).set _
   ·exact(((((((hp.put _ (by omega)).put _ (by omega)).put _ (by omega)).put _ (by omega)).put _ (by omega)).put _ (by omega)).put _ (by omega)).put _ (by omega)
  ·simp only[if_neg e];have es:(if j<k+1 then f j else zHX)=if j<k then f j else zHX:=by
    by_cases e2:j<k
    ·rw[if_pos e2,if_pos (by omega)]
    ·rw[if_neg e2,if_neg (by omega)]
   rw[es];refine⟨?_,?_,?_,?_,?_,?_,?_,?_,?_,aA.zRn,aA.zRk⟩
   ·exact(((((((aA.c0.zRY _ (Or.inr (by omega))).zRY _ (Or.inr (by omega))).zRY _ (Or.inr (by omega))).zRY _ (Or.inr (by omega))).zRY _ (Or.inr (by omega))).zRY _ (Or.inr (by omega))).zRY _ (Or.inr (by omega))).zRY _ (Or.inr (by omega))
   ·exact(((((((aA.c1.zRY _ (Or.inr (by omega))).zRY _ (Or.inr (by omega))).zRY _ (Or.inr (by omega))).zRY _ (Or.inr (by omega))).zRY _ (Or.inr (by omega))).zRY _ (Or.inr (by omega))).zRY _ (Or.inr (by omega))).zRY _ (Or.inr (by omega))
   ·exact(((((((aA.c2.zRY _ (Or.inr (by omega))).zRY _ (Or.inr (by omega))).zRY _ (Or.inr (by omega))).zRY _ (Or.inr (by omega))).zRY _ (Or.inr (by omega))).zRY _ (Or.inr (by omega))).zRY _ (Or.inr (by omega))).zRY _ (Or.inr (by omega))
   ·exact(((((((aA.c3.zRY _ (Or.inr (by omega))).zRY _ (Or.inr (by omega))).zRY _ (Or.inr (by omega))).zRY _ (Or.inr (by omega))).zRY _ (Or.inr (by omega))).zRY _ (Or.inr (by omega))).zRY _ (Or.inr (by omega))).zRY _ (Or.inr (by omega))
   ·exact(((((((aA.c4.zRY _ (Or.inr (by omega))).zRY _ (Or.inr (by omega))).zRY _ (Or.inr (by omega))).zRY _ (Or.inr (by omega))).zRY _ (Or.inr (by omega))).zRY _ (Or.inr (by omega))).zRY _ (Or.inr (by omega))).zRY _ (Or.inr (by omega))
   ·exact(((((((aA.c5.zRY _ (Or.inr (by omega))).zRY _ (Or.inr (by omega))).zRY _ (Or.inr (by omega))).zRY _ (Or.inr (by omega))).zRY _ (Or.inr (by omega))).zRY _ (Or.inr (by omega))).zRY _ (Or.inr (by omega))).zRY _ (Or.inr (by omega))
   ·exact(((((((aA.c6.zRY _ (Or.inr (by omega))).zRY _ (Or.inr (by omega))).zRY _ (Or.inr (by omega))).zRY _ (Or.inr (by omega))).zRY _ (Or.inr (by omega))).zRY _ (Or.inr (by omega))).zRY _ (Or.inr (by omega))).zRY _ (Or.inr (by omega))
   ·exact(((((((aA.c7.zRY _ (Or.inr (by omega))).zRY _ (Or.inr (by omega))).zRY _ (Or.inr (by omega))).zRY _ (Or.inr (by omega))).zRY _ (Or.inr (by omega))).zRY _ (Or.inr (by omega))).zRY _ (Or.inr (by omega))).zRY _ (Or.inr (by omega))
   ·refine(((((((aA.zRl.zRf (zF.put _ _ _ _) ?_).zRf (zF.put _ _ _ _) ?_).zRf (zF.put _ _ _ _) ?_).zRf (zF.put _ _ _ _) ?_).zRf (zF.put _ _ _ _) ?_).zRf (zF.put _ _ _ _) ?_).zRf (zF.put _ _ _ _) ?_).zRf (zF.put _ _ _ _) ?_
    all_goals exact fun h0 hx=>aA.zRk h0 hx
 ·show(if i=k then b else kb i)≠(if j=k then b else kb j);by_cases e1:i=k
  ·by_cases e2:j=k
   ·omega
   ·rw[if_pos e1,if_neg e2];have:=h.zRm j (by omega) h2;omega
  ·by_cases e2:j=k
   ·rw[if_neg e1,if_pos e2];have:=h.zRm i (by omega) h1;omega
   ·rw[if_neg e1,if_neg e2];exact h.zRk i j (by omega) (by omega) bA h1 h2
 ·simp only[World.size_setCell];by_cases e:j=k
  ·rw[if_pos e];omega
  ·rw[if_neg e];have:=h'.zRm j (by omega) h0;omega
theorem zGm:(Tryz.prog.info? 99).map (fun i=>(i.zero,i.size,i.bytes))=some (some (.agg #[.int .i64 0,.string ⟨#[]⟩,.string ⟨#[]⟩,.int .i64 0,.int .i64 0,.int .i64 0,.int .i64 0,.slice none 0 0]),8,96):=by kernel_rfl
theorem zLb{w:World}{bs n j:Nat}(hj:j<n)(aA:bs=w.heap.size):zAJ (w.alloc (.cells (zA2 #[.int .i64 0,.string ⟨#[]⟩,.string ⟨#[]⟩,.int .i64 0,.int .i64 0,.int .i64 0,.int .i64 0,.slice none 0 0] n) 99)) bs (0+j*8) 0 (.slice none 0 0) zHX:=by
 subst aA;have c0:=qk w #[.int .i64 0,.string ⟨#[]⟩,.string ⟨#[]⟩,.int .i64 0,.int .i64 0,.int .i64 0,.int .i64 0,.slice none 0 0] n j 0 99 hj (by simp);have c1:=qk w #[.int .i64 0,.string ⟨#[]⟩,.string ⟨#[]⟩,.int .i64 0,.int .i64 0,.int .i64 0,.int .i64 0,.slice none 0 0] n j 1 99 hj (by simp);have c2:=qk w #[.int .i64 0,.string ⟨#[]⟩,.string ⟨#[]⟩,.int .i64 0,.int .i64 0,.int .i64 0,.int .i64 0,.slice none 0 0] n j 2 99 hj (by simp);have c3:=qk w #[.int .i64 0,.string ⟨#[]⟩,.string ⟨#[]⟩,.int .i64 0,.int .i64 0,.int .i64 0,.int .i64 0,.slice none 0 0] n j 3 99 hj (by simp);have c4:=qk w #[.int .i64 0,.string ⟨#[]⟩,.string ⟨#[]⟩,.int .i64 0,.int .i64 0,.int .i64 0,.int .i64 0,.slice none 0 0] n j 4 99 hj (by simp);have c5:=qk w #[.int .i64 0,.string ⟨#[]⟩,.string ⟨#[]⟩,.int .i64 0,.int .i64 0,.int .i64 0,.int .i64 0,.slice none 0 0] n j 5 99 hj (by simp);have c6:=qk w #[.int .i64 0,.string ⟨#[]⟩,.string ⟨#[]⟩,.int .i64 0,.int .i64 0,.int .i64 0,.int .i64 0,.slice none 0 0] n j 6 99 hj (by simp);have c7:=qk w #[.int .i64 0,.string ⟨#[]⟩,.string ⟨#[]⟩,.int .i64 0,.int .i64 0,.int .i64 0,.int .i64 0,.slice none 0 0] n j 7 99 hj (by simp);refine⟨?_,?_,?_,?_,?_,?_,?_,?_,⟨Nat.zero_le _,none,0,rfl,Nat.le_refl _,fun h=>absurd h (Nat.lt_irrefl _)⟩,⟨Nat.zero_le _,Nat.zero_le _⟩,fun h=>absurd h (Nat.lt_irrefl _)⟩
 ·show zW _ _ _ (.int .i64 0);simpa using c0
 ·show zW _ _ _ (.string ⟨#[]⟩);simpa using c1
 ·show zW _ _ _ (.string ⟨#[]⟩);simpa using c2
 ·show zW _ _ _ (.int .i64 0);simpa using c3
 ·show zW _ _ _ (.int .i64 0);simpa using c4
 ·show zW _ _ _ (.int .i64 0);simpa using c5
 ·show zW _ _ _ (.int .i64 0);simpa using c6
 ·show zW _ _ _ (.slice none 0 0);simpa using c7
def qW(w:World)(S:Nat->Prop)(v0 v1:Value)(p:zI):Prop:=
 ∃(bs hb:Nat) (kb:Nat->Nat) (kv:Nat->Value),qU w bs kb kv v0 p.n p.s/\yP kb p.n p.s/\qf w hb v1 p.hn p.h/\(0<p.hn->¬yi bs kb p.n p.s hb)/\
  ∀k,yi bs kb p.n p.s k\/(0<p.hn/\k=hb)->S k
theorem zy.isIn{w:World}{lo hi:Nat}{S:Nat->Prop}{v0 v1:Value}{p:zI}(h:zy w lo hi v0 v1 p)(hS:∀k,lo<=k->k<hi->S k):qW w S v0 v1 p:=by
 obtain⟨bs,hb,kb,kv,h1,h2,h3,h4,h5⟩:=h;exact⟨bs,hb,kb,kv,h1,h2,h3,h4,fun k hk=>hS k (h5 k hk).1 (h5 k hk).2⟩
theorem qW.own{w:World}{lo hi:Nat}{S:Nat->Prop}{v0 v1:Value}{p:zI}(h:qW w S v0 v1 p)(hS:∀k,S k->lo<=k/\k<hi):zy w lo hi v0 v1 p:=by
 obtain⟨bs,hb,kb,kv,h1,h2,h3,h4,h5⟩:=h;exact⟨bs,hb,kb,kv,h1,h2,h3,h4,fun k hk=>hS k (h5 k hk)⟩
theorem qW.mono{w:World}{S T:Nat->Prop}{v0 v1:Value}{p:zI}(h:qW w S v0 v1 p)(hS:∀k,S k->T k):qW w T v0 v1 p:=by
 obtain⟨bs,hb,kb,kv,h1,h2,h3,h4,h5⟩:=h;exact⟨bs,hb,kb,kv,h1,h2,h3,h4,fun k hk=>hS k (h5 k hk)⟩
theorem qW.zRX{w w':World}{S:Nat->Prop}{v0 v1:Value}{p:zI}(h:qW w S v0 v1 p)(t:Below w.heap.size w w'):qW w' S v0 v1 p:=by
 obtain⟨bs,hb,kb,kv,h1,h2,h3,h4,h5⟩:=h;exact⟨bs,hb,kb,kv,h1.zRX t,h2,h3.zRX t,h4,h5⟩
theorem qW.zRf{S T:Nat->Prop}{w w':World}{v0 v1:Value}{p:zI}(h:qW w S v0 v1 p)(t:zF T w w')(hs:∀k,S k->¬T k):qW w' S v0 v1 p:=by
 obtain⟨bs,hb,kb,kv,h1,h2,h3,h4,h5⟩:=h;have out:∀k,yi bs kb p.n p.s k\/(0<p.hn/\k=hb)->¬T k:=fun k hk=>hs k (h5 k hk)
 exact⟨bs,hb,kb,kv,h1.zRf t (fun h0=>out _ (Or.inl (Or.inl ⟨h0,rfl⟩))) (fun i hi h=>out _ (Or.inl (Or.inr ⟨i,hi,h,rfl⟩))),h2,h3.zRf t (fun h0=>out _ (Or.inr ⟨h0,rfl⟩)),h4,h5⟩
theorem qW.at{w:World}{S:Nat->Prop}{lo hi:Nat}{v0 v1:Value}{p:zI}(h:qW w S v0 v1 p)(hS:∀k,S k->lo<=k/\k<hi):zu w lo hi v0 v1 p:=(h.own hS).at
def zBU(w:World)(S:Nat->Prop)(v:Value)(n:Nat)(f:Nat->qD):Prop:=∃(bs:Nat) (kb:Nat->Nat) (kv:Nat->Value),yJ w bs kb kv v n f/\zBN kb n f/\∀k,zCN bs kb n f k->S k
def zAv(w:World)(S:Nat->Prop)(v:Value)(n:Nat)(f:Nat->zl):Prop:=∃(bs:Nat) (kb:Nat->Nat) (kv:Nat->Value),yS w bs kb kv v n f/\zA7 kb n f/\∀k,zCI bs kb n f k->S k
theorem zBU.zRf{S T:Nat->Prop}{w w':World}{v:Value}{n:Nat}{f:Nat->qD}(h:zBU w S v n f)(t:zF T w w')(hs:∀k,S k->¬T k):zBU w' S v n f:=by
 obtain⟨bs,kb,kv,h1,h2,h3⟩:=h;exact⟨bs,kb,kv,h1.zRf t (fun k hk=>hs k (h3 k hk)),h2,h3⟩
theorem zAv.zRf{S T:Nat->Prop}{w w':World}{v:Value}{n:Nat}{f:Nat->zl}(h:zAv w S v n f)(t:zF T w w')(hs:∀k,S k->¬T k):zAv w' S v n f:=by
 obtain⟨bs,kb,kv,h1,h2,h3⟩:=h;exact⟨bs,kb,kv,h1.zRf t (fun k hk=>hs k (h3 k hk)),h2,h3⟩
theorem zBU.zRX{S:Nat->Prop}{w w':World}{v:Value}{n:Nat}{f:Nat->qD}(h:zBU w S v n f)(t:Below w.heap.size w w'):zBU w' S v n f:=by
 obtain⟨bs,kb,kv,h1,h2,h3⟩:=h;exact⟨bs,kb,kv,h1.zRX t,h2,h3⟩
theorem zAv.zRX{S:Nat->Prop}{w w':World}{v:Value}{n:Nat}{f:Nat->zl}(h:zAv w S v n f)(t:Below w.heap.size w w'):zAv w' S v n f:=by
 obtain⟨bs,kb,kv,h1,h2,h3⟩:=h;exact⟨bs,kb,kv,h1.zRX t,h2,h3⟩
theorem zBU.at{S:Nat->Prop}{w:World}{v:Value}{n:Nat}{f:Nat->qD}(h:zBU w S v n f){lo hi:Nat}(hs:∀k,S k->lo<=k/\k<hi):yW w lo hi v n f:=by
 obtain⟨bs,kb,kv,h1,h2,h3⟩:=h;exact h1.at (fun k hk=>hs k (h3 k hk))
theorem zAv.at{S:Nat->Prop}{w:World}{v:Value}{n:Nat}{f:Nat->zl}(h:zAv w S v n f){lo hi:Nat}(hs:∀k,S k->lo<=k/\k<hi):qw w lo hi v n f:=by
 obtain⟨bs,kb,kv,h1,h2,h3⟩:=h;exact h1.at (fun k hk=>hs k (h3 k hk))
theorem zBU.form{S:Nat->Prop}{w:World}{v:Value}{n:Nat}{f:Nat->qD}(h:zBU w S v n f):∃a c,v = .slice a n c/\n<=c:=by
 obtain⟨bs,kb,kv,⟨_,a,c,hv,hc,_⟩,h2,h3⟩:=h;exact⟨a,c,hv,hc⟩
theorem zAv.form{S:Nat->Prop}{w:World}{v:Value}{n:Nat}{f:Nat->zl}(h:zAv w S v n f):∃a c,v = .slice a n c/\n<=c:=by
 obtain⟨bs,kb,kv,⟨_,a,c,hv,hc,_⟩,h2,h3⟩:=h;exact⟨a,c,hv,hc⟩
theorem qW.form{w:World}{S:Nat->Prop}{v0 v1:Value}{p:zI}(h:qW w S v0 v1 p):∃a c a' c',v0 = .slice a p.n c/\v1 = .slice a' p.hn c':=by
 obtain⟨bs,hb,kb,kv,⟨_,a,c,h1,_⟩,h2,⟨_,a',c',h3,_,_⟩,h4,h5⟩:=h;exact⟨a,c,a',c',h1,h3⟩
structure zCR (w:World) (P Q R:Nat->Prop) (v0 v1 v2 v3:Value) (W:zH):Prop where
 zRd:qW w P v0 v1 W.zRd
 zRg:zBU w Q v2 W.sn W.zRg
 zRe:zAv w R v3 W.pn W.zRe
 pq:∀k,P k->¬Q k
 pr:∀k,P k->¬R k
 qr:∀k,Q k->¬R k
def qL(w:World)(lo hi:Nat)(v0 v1 v2 v3:Value)(W:zH):Prop:=∃P Q R,zCR w P Q R v0 v1 v2 v3 W/\∀k,P k\/Q k\/R k->lo<=k/\k<hi
theorem qL.at{w:World}{lo hi:Nat}{v0 v1 v2 v3:Value}{W:zH}(h:qL w lo hi v0 v1 v2 v3 W):zk w lo hi v0 v1 v2 v3 W:=by
 obtain⟨P,Q,R,h,hl⟩:=h;exact⟨h.zRd.at (fun k hk=>hl k (Or.inl hk)),h.zRg.at (fun k hk=>hl k (Or.inr (Or.inl hk))),h.zRe.at (fun k hk=>hl k (Or.inr (Or.inr hk)))⟩
theorem zCR.zRX{P Q R:Nat->Prop}{w w':World}{v0 v1 v2 v3:Value}{W:zH}(h:zCR w P Q R v0 v1 v2 v3 W)(t:Below w.heap.size w w'):zCR w' P Q R v0 v1 v2 v3 W:=
 ⟨h.zRd.zRX t,h.zRg.zRX t,h.zRe.zRX t,h.pq,h.pr,h.qr⟩
theorem qL.zRX{w w':World}{lo hi:Nat}{v0 v1 v2 v3:Value}{W:zH}(h:qL w lo hi v0 v1 v2 v3 W)(t:Below w.heap.size w w'):qL w' lo hi v0 v1 v2 v3 W:=by
 obtain⟨P,Q,R,h,hl⟩:=h;exact⟨P,Q,R,h.zRX t,hl⟩
theorem zCR.zRf{P Q R T:Nat->Prop}{w w':World}{v0 v1 v2 v3:Value}{W:zH}(h:zCR w P Q R v0 v1 v2 v3 W)(t:zF T w w')(hs:∀k,P k\/Q k\/R k->¬T k):zCR w' P Q R v0 v1 v2 v3 W:=
 ⟨h.zRd.zRf t (fun k hk=>hs k (Or.inl hk)),h.zRg.zRf t (fun k hk=>hs k (Or.inr (Or.inl hk))),h.zRe.zRf t (fun k hk=>hs k (Or.inr (Or.inr hk))),h.pq,h.pr,h.qr⟩
theorem qL.zRf{S:Nat->Prop}{w w':World}{lo hi:Nat}{v0 v1 v2 v3:Value}{W:zH}(h:qL w lo hi v0 v1 v2 v3 W)(t:zF S w w')(hs:∀k,S k->k<lo\/hi<=k):qL w' lo hi v0 v1 v2 v3 W:=by
 obtain⟨P,Q,R,h,hl⟩:=h;exact⟨P,Q,R,h.zRf t (fun k hk hx=>by have:=hl k hk;have:=hs k hx;omega),hl⟩
theorem qL.zRc{w:World}{lo hi lo' hi':Nat}{v0 v1 v2 v3:Value}{W:zH}(h:qL w lo hi v0 v1 v2 v3 W)(h1:lo'<=lo)(h2:hi<=hi'):qL w lo' hi' v0 v1 v2 v3 W:=by
 obtain⟨P,Q,R,h,hl⟩:=h;exact⟨P,Q,R,h,fun k hk=>by have:=hl k hk;omega⟩
theorem qL.form{w:World}{lo hi:Nat}{v0 v1 v2 v3:Value}{W:zH}(h:qL w lo hi v0 v1 v2 v3 W):∃a0 c0 a1 c1 a2 c2 a3 c3,v0 = .slice a0 W.zRd.n c0/\v1 = .slice a1 W.zRd.hn c1/\v2 = .slice a2 W.sn c2/\v3 = .slice a3 W.pn c3:=by
 obtain⟨P,Q,R,h,hl⟩:=h;obtain⟨a0,c0,a1,c1,e0,e1⟩:=h.zRd.form;obtain⟨a2,c2,e2,-⟩:=h.zRg.form;obtain⟨a3,c3,e3,-⟩:=h.zRe.form;exact⟨a0,c0,a1,c1,a2,c2,a3,c3,e0,e1,e2,e3⟩
theorem zk.form{w:World}{lo hi:Nat}{v0 v1 v2 v3:Value}{W:zH}(h:zk w lo hi v0 v1 v2 v3 W):∃a0 c0 a1 c1 a2 c2 a3 c3,v0 = .slice a0 W.zRd.n c0/\v1 = .slice a1 W.zRd.hn c1/\v2 = .slice a2 W.sn c2/\v3 = .slice a3 W.pn c3:=by
 obtain⟨a0,c0,a1,c1,e0,e1⟩:=h.zRd.form;obtain⟨-,a2,c2,e2,-⟩:=h.zRg;obtain⟨-,a3,c3,e3,-⟩:=h.zRe;exact⟨a0,c0,a1,c1,a2,c2,a3,c3,e0,e1,e2,e3⟩
def zPJ(W:zH)(w:World)(e:Ending)(w':World):Prop:=∃v0 v1 v2 v3,e = .returned (zz v0 v1 v2 v3 W)/\qL w' w.heap.size w'.heap.size v0 v1 v2 v3 W/\Below w.heap.size w w'
theorem yW.zRc{w:World}{lo hi lo' hi':Nat}{v:Value}{n:Nat}{f:Nat->qD}(h:yW w lo hi v n f)(h1:lo'<=lo)(h2:hi<=hi')(hp:∀{v n f g},zU w lo hi v n f g->zU w lo' hi' v n f g):yW w lo' hi' v n f:=by
 obtain⟨m,a,c,hv,hc,hx⟩:=h;refine⟨m,a,c,hv,hc,fun h0=>?_⟩;obtain⟨b,off,ha,l1,l2,h3⟩:=hx h0;refine⟨b,off,ha,by omega,by omega,fun i hi=>?_⟩;obtain⟨vd,hs⟩:=h3 i hi;exact⟨vd,hs.c0,hs.c1,hs.c2,hs.c3,hs.c4,hs.c5,hp hs.zRl,hs.zRn⟩
theorem qw.zRc{w:World}{lo hi lo' hi':Nat}{v:Value}{n:Nat}{f:Nat->zl}(h:qw w lo hi v n f)(h1:lo'<=lo)(h2:hi<=hi')(hp:∀{v n f g},zU w lo hi v n f g->zU w lo' hi' v n f g):qw w lo' hi' v n f:=by
 obtain⟨m,a,c,hv,hc,hx⟩:=h;refine⟨m,a,c,hv,hc,fun h0=>?_⟩;obtain⟨b,off,ha,l1,l2,h3⟩:=hx h0;refine⟨b,off,ha,by omega,by omega,fun i hi=>?_⟩;obtain⟨vd,hs⟩:=h3 i hi;exact⟨vd,hs.c0,hs.c1,hs.c2,hs.c3,hs.c4,hs.c5,hs.c6,hs.c7,hp hs.zRl,hs.zRn⟩
theorem qA.zRc{w:World}{lo hi lo' hi':Nat}{v:Value}{n:Nat}{f:Nat->zL}(h:qA w lo hi v n f)(h1:lo'<=lo)(h2:hi<=hi'):qA w lo' hi' v n f:=by
 obtain⟨m,a,c,hv,hc,hx⟩:=h;refine⟨m,a,c,hv,hc,fun h0=>?_⟩;obtain⟨b,off,ha,l1,l2,h3⟩:=hx h0;refine⟨b,off,ha,by omega,by omega,fun i hi=>?_⟩;obtain⟨x0,x1,x2,c0,c1,c2,e0,hp,e2,hs⟩:=h3 i hi;exact⟨x0,x1,x2,c0,c1,c2,e0,hp.zRc h1 h2,e2,hs⟩
theorem zk.zRc{w:World}{lo hi lo' hi':Nat}{v0 v1 v2 v3:Value}{W:zH}(h:zk w lo hi v0 v1 v2 v3 W)(h1:lo'<=lo)(h2:hi<=hi'):zk w lo' hi' v0 v1 v2 v3 W:=
 ⟨⟨h.zRd.1.zRc h1 h2,h.zRd.2.zRc h1 h2⟩,h.zRg.zRc h1 h2 (fun hp=>hp.zRc h1 h2),h.zRe.zRc h1 h2 (fun hp=>hp.zRc h1 h2)⟩
theorem zI9(v:Value)(n lo hi:Nat)(f g:Nat->Int)(w:World)(h1:zU w lo hi v n f g)(hn:n<=1048576) :
  Calls Tryz.prog 171 #[v] w fun e w'=>(∃v' kb,e = .returned v'/\zm w' kb v' n f g/\(0<n->w.heap.size<=kb/\kb<w'.heap.size))/\Below w.heap.size w w':=by
 obtain⟨m1,a,c,rfl,mc,g1⟩:=h1;have G1:Hid (0<n->∃b off,a=some ⟨b,off,none⟩/\lo<=b/\b<hi/\∀i,i<n->w.cell? ⟨b,off+i*2,none⟩=some (.int .i64 (f i))/\w.cell? ⟨b,off+i*2+1,none⟩=some (.int .i64 (g i))):=g1;have Hm:Hid (n<=maxLen):=m1;clear g1 m1;have oA:=fun w=>Lib.run_eql_slice_nil (P:=Tryz.prog) w 62 61 a n c 0 0 (by kernel_rfl)
 cases a with
 | none=>
  have nA:n=0:=by
   by_cases h:0<n
   ·obtain⟨b,off,ha,_⟩:=G1.out h;simp at ha
   ·omega
  subst nA;go_enter Tryz.func171,Tryz.ntmps171;go_wp2;go_ret;exact⟨⟨_,0,rfl,⟨Nat.zero_le _,none,0,rfl,Nat.le_refl _,fun h=>absurd h (Nat.lt_irrefl _)⟩,fun h=>absurd h (Nat.lt_irrefl _)⟩,Below.refl _ _⟩
 | some ad=>
  obtain⟨i0,hi,lA⟩:=Option.map_eq_some_iff.1 zCj;simp only[Prod.mk.injEq]at lA;obtain⟨hz,hs,kA⟩:=lA;have fA:∀(w':World),Below w.heap.size w w'->∀j u,(kc f g n)[j]?=some u->w'.cell? (ad.add j)=some u:=fun w' hb j u hj=>by
   by_cases h0:0<n
   ·obtain⟨b,off,ha,_,_,hc⟩:=G1.out h0;simp only[Option.some.injEq]at ha;subst ha;have:=zFs hc j u hj;have jA:(⟨b,off,none⟩:Addr).add j=⟨b,off+j,none⟩:=(by unfold Addr.add;split<;>simp_all);rw[jA]at this ⊢;exact(hb.cell (zD this)).trans this
   ·obtain rfl:n=0:=(by omega);simp[kc]at hj
  have gA:Hid (∀(w':World),Below w.heap.size w w'->∀j u,(kc f g n)[j]?=some u->w'.cell? (ad.add j)=some u):=fA;have HI:Hid (Tryz.prog.info? 61=some i0/\i0.zero=some (.agg #[.int .i64 0,.int .i64 0])/\i0.size=2/\i0.bytes=16):=⟨hi,hz,hs,kA⟩;have aA:(w.alloc (.cells #[] 61)).ownsRow w.heap.size 61 2 (.slice (some ⟨w.heap.size,0,none⟩) 0 0) 0 []:=World.ownsRow_made w #[] 0 (Nat.le_refl _) (Nat.zero_le _) (by simp);have eA:Hid ((w.alloc (.cells #[] 61)).ownsRow w.heap.size 61 2 (.slice (some ⟨w.heap.size,0,none⟩) 0 0) 0 []):=aA;clear hi hz hs kA fA aA;go_enter Tryz.func171,Tryz.ntmps171;go_wp2_with (first
   | (at_builtin;refine wpList_append_own _ rfl _ _ 62 rfl w.heap.size 61 i0 (.agg #[.int .i64 0,.int .i64 0]) 2 16 (by kernel_rfl) HI.out.1 HI.out.2.1 HI.out.2.2.1 HI.out.2.2.2 rfl (by decide) _ _ _ rfl eA.out ad n c (kc f g n) rfl (zEZ f g n) ?c1 (zJ3 f g n) ?c3 ?c4 ?c5 ?_))
  case c1=>exact gA.out _ ((Below.refl _ _).alloc (Nat.le_refl _) _)
  case c3=>unfold maxLen;omega
  case c4=>omega
  case c5=>simp
  intro v' w1 cA dA iA;have mA:Below w.heap.size w w1:=((Below.refl _ _).alloc (Nat.le_refl _) _).grown dA (by simp) (fun q hq=>by have:=eA.out.lt q hq;omega);have bA:w1.ownsRow w.heap.size 61 2 v' n (kc f g n):=(by simpa using cA);obtain⟨kb,hp,hk⟩:=zCQ Hm.out bA;have Hp:Hid (zm w1 kb v' n f g/\(0<n->w.heap.size<=kb/\kb<w1.heap.size)):=⟨hp,hk⟩;clear hp hk cA bA dA iA;go_wp2;go_ret;exact⟨⟨v',kb,rfl,Hp.out.1,Hp.out.2⟩,mA⟩
theorem zIr(v0 v1 v2:Value)(lo hi:Nat)(s:zL)(w:World)(h1:qH w lo hi v0 v1 v2 s)(hn:s.kn<=1048576) :
  Calls Tryz.prog 219 #[.agg #[v0,v1,v2]] w (zNg s w):=by
 obtain⟨rfl,p1,rfl,m1⟩:=h1;have q1:=p1;obtain⟨_,a,c,rfl,_⟩:=p1;go_enter Tryz.func219,Tryz.ntmps219;go_wp2_with fail;have eA:=zC w (.cells #[.int .i64 s.zRi,.slice a s.kn c,.string s.data] 127);have bA:=zA eA (zC _ (.cells #[.int .i64 0,.slice none 0 0,.string ⟨#[]⟩] 127));refine(zI9 _ s.kn lo hi _ _ _ (q1.zRX bA) hn).mono ?_;rintro e w1 ⟨⟨kv,kb,rfl,hp,hk⟩,aA⟩;have HB:Hid (yR w1 w.heap.size (.int .i64 s.zRi) (.slice a s.kn c) (.string s.data)):=((yR.zRZ w _ _ _ _).zRX (zC _ _)).zRX aA;have HR:Hid (yR w1 (w.heap.size+1) (.int .i64 0) (.slice none 0 0) (.string ⟨#[]⟩)):=by
  have:=((yR.zRZ (w.alloc (.cells #[.int .i64 s.zRi,.slice a s.kn c,.string s.data] 127)) (.int .i64 0) (.slice none 0 0) (.string ⟨#[]⟩) 127).zRX aA);rw[World.size_alloc]at this;exact this
 have fA:=zA bA aA;rw[World.size_alloc,World.size_alloc]at hk;have Hp:Hid (zm w1 kb kv s.kn s.ks s.kb/\(0<s.kn->w.heap.size+1+1<=kb/\kb<w1.heap.size)):=⟨hp,hk⟩;obtain⟨_,ka,cA,rfl,_⟩:=hp;clear eA bA aA hk;obtain⟨⟨x0,x1⟩,⟨x2,x3⟩,⟨x4,x5⟩⟩:=HB.out;obtain⟨⟨y0,y1⟩,⟨y2,y3⟩,⟨y4,y5⟩⟩:=HR.out;go_wp2;have dA:=(HR.out.zRY (b':=w.heap.size) (o':=1) (.slice ka s.kn cA) (by omega)).put (.int .i64 s.zRi) (.slice ka s.kn cA) (.string s.data);refine bodyPost_ret (v:=.agg #[.int .i64 s.zRi,.slice ka s.kn cA,.string s.data]) (by simp[results,Tryz.results219,go_sem,dA.1.1,dA.2.1.1,dA.2.2.1]) rfl ⟨_,kb,rfl,?_,?_,?_⟩
 ·have hk:=Hp.out.2;refine(((Hp.out.1.zRf (zF.put _ _ _ _) ?_).zRf (zF.put _ _ _ _) ?_).zRf (zF.put _ _ _ _) ?_).zRf (zF.put _ _ _ _) ?_
  all_goals exact fun h0 e=>by have:=hk h0;omega
 ·intro h0;have:=Hp.out.2 h0;simp only[World.size_setCell];omega
 ·exact(((fA.setCell (by show _<=w.heap.size;omega) _).setCell (by show _<=w.heap.size+1;omega) _).setCell (by show _<=w.heap.size+1;omega) _).setCell (by show _<=w.heap.size+1;omega) _
theorem zMD(v0 v1 v2:Value)(lo hi:Nat)(s:zL)(w:World)(h1:qH w lo hi v0 v1 v2 s)(hn:s.kn<=1048576) :
  Calls Tryz.prog 146 #[.agg #[v0,v1,v2]] w (zNg s w):=by
 obtain⟨rfl,⟨m1,a,c,rfl,mc,g1⟩,rfl,m2⟩:=h1;have G1:Hid (0<s.kn->∃b off,a=some ⟨b,off,none⟩/\lo<=b/\b<hi/\∀i,i<s.kn->w.cell? ⟨b,off+i*2,none⟩=some (.int .i64 (s.ks i))/\w.cell? ⟨b,off+i*2+1,none⟩=some (.int .i64 (s.kb i))):=g1;have Hm:Hid (s.kn<=maxLen):=m1;clear g1 m1;obtain⟨i0,hi',aB⟩:=Option.map_eq_some_iff.1 zCj;simp only[Prod.mk.injEq]at aB;obtain⟨hz,hs,vA⟩:=aB;have HI:Hid (Tryz.prog.info? 61=some i0/\i0.zero=some (.agg #[.int .i64 0,.int .i64 0])/\i0.size=2/\i0.bytes=16):=⟨hi',hz,hs,vA⟩;clear hi' hz hs vA;have tA:=zC w (.cells #[.int .i64 s.zRi,.slice a s.kn c,.string s.data] 127);have rA:=zA tA (zC _ (.cells #[.int .i64 0,.slice none 0 0,.string ⟨#[]⟩] 127));have sA:=zA rA (zC _ (.cells #[] 61));have lA:Hid (Below w.heap.size w (((w.alloc (.cells #[.int .i64 s.zRi,.slice a s.kn c,.string s.data] 127)).alloc (.cells #[.int .i64 0,.slice none 0 0,.string ⟨#[]⟩] 127)).alloc (.cells #[] 61))):=sA;have cA:=World.ownsRow_made (base:=w.heap.size+1+1) (e:=61) (size:=2) ((w.alloc (.cells #[.int .i64 s.zRi,.slice a s.kn c,.string s.data] 127)).alloc (.cells #[.int .i64 0,.slice none 0 0,.string ⟨#[]⟩] 127)) #[] 0 (by simp) (Nat.zero_le _) (by simp);rw[World.size_alloc,World.size_alloc]at cA;have aA:Hid ((((w.alloc (.cells #[.int .i64 s.zRi,.slice a s.kn c,.string s.data] 127)).alloc (.cells #[.int .i64 0,.slice none 0 0,.string ⟨#[]⟩] 127)).alloc (.cells #[] 61)).ownsRow (w.heap.size+1+1) 61 2 (.slice (some ⟨w.heap.size+1+1,0,none⟩) 0 0) 0 []):=cA;have jA:Hid (yR (((w.alloc (.cells #[.int .i64 s.zRi,.slice a s.kn c,.string s.data] 127)).alloc (.cells #[.int .i64 0,.slice none 0 0,.string ⟨#[]⟩] 127)).alloc (.cells #[] 61)) w.heap.size (.int .i64 s.zRi) (.slice a s.kn c) (.string s.data)):=((yR.zRZ w _ _ _ _).zRX (zC _ _)).zRX (zC _ _);have iA:Hid (yR (((w.alloc (.cells #[.int .i64 s.zRi,.slice a s.kn c,.string s.data] 127)).alloc (.cells #[.int .i64 0,.slice none 0 0,.string ⟨#[]⟩] 127)).alloc (.cells #[] 61)) (w.heap.size+1) (.int .i64 0) (.slice none 0 0) (.string ⟨#[]⟩)):=by
  have:=((yR.zRZ (w.alloc (.cells #[.int .i64 s.zRi,.slice a s.kn c,.string s.data] 127)) (.int .i64 0) (.slice none 0 0) (.string ⟨#[]⟩) 127).zRX (zC _ (.cells #[] 61)));rw[World.size_alloc]at this;exact this
 clear tA rA sA cA;go_enter Tryz.func146,Tryz.ntmps146;cases a with
 | none=>
  have cB:s.kn=0:=by
   by_cases h:0<s.kn
   ·obtain⟨b,off,ha,_⟩:=G1.out h;simp at ha
   ·omega
  have gA:Hid (s.kn=0):=cB;clear cB;go_wp2_with (first
   | (at_builtin;refine zFq rfl _ _ 62 rfl (w.heap.size+1+1) 61 i0 2 c s.kn (by kernel_rfl) HI.out.1 (.slice (some ⟨w.heap.size+1+1,0,none⟩) 0 0) 0 [] rfl ?c0 gA.out rfl ?_))
  case c0=>exact aA.out
  refine bodyPost_ret (v:=.agg #[.int .i64 s.zRi,.slice (some ⟨w.heap.size+1+1,0,none⟩) 0 0,.string s.data]) (by simp[results,Tryz.results146,go_sem]) rfl ⟨_,0,rfl,?_,?_,?_⟩
  ·exact⟨Hm.out,_,0,by rw[gA.out],by rw[gA.out];exact Nat.le_refl _,fun h=>absurd h (by rw[gA.out];exact Nat.lt_irrefl _)⟩
  ·exact fun h=>absurd h (by rw[gA.out];exact Nat.lt_irrefl _)
  ·exact zA (zA (zC _ _) (zC _ _)) (zC _ _)
 | some ad=>
  have mA:Hid (∀(w':World),Below w.heap.size w w'->∀j u,(kc s.ks s.kb s.kn)[j]?=some u->w'.cell? (ad.add j)=some u):=fun w' hb j u hj=>by
   by_cases h0:0<s.kn
   ·obtain⟨b,off,ha,_,_,hc⟩:=G1.out h0;simp only[Option.some.injEq]at ha;subst ha;have:=zFs hc j u hj;have nA:(⟨b,off,none⟩:Addr).add j=⟨b,off+j,none⟩:=(by unfold Addr.add;split<;>simp_all);rw[nA]at this ⊢;exact(hb.cell (zD this)).trans this
   ·have eB:s.kn=0:=(by omega);rw[eB]at hj;simp[kc]at hj
  go_wp2_with (first
   | (at_builtin;refine wpList_append_own _ rfl _ _ 62 rfl (w.heap.size+1+1) 61 i0 (.agg #[.int .i64 0,.int .i64 0]) 2 16 (by kernel_rfl) HI.out.1 HI.out.2.1 HI.out.2.2.1 HI.out.2.2.2 rfl (by decide) _ 0 [] rfl ?c0 ad s.kn c (kc s.ks s.kb s.kn) rfl (zEZ _ _ _) ?c1 (zJ3 _ _ _) ?c3 ?c4 ?c5 ?_))
  case c0=>exact aA.out
  case c1=>exact mA.out _ lA.out
  case c3=>unfold maxLen;omega
  case c4=>omega
  case c5=>simp
  intro v' w1 dA bA pA;have eA:w1.ownsRow (w.heap.size+1+1) 61 2 v' s.kn (kc s.ks s.kb s.kn):=(by simpa using dA);have fB:Below w.heap.size w w1:=lA.out.grown bA (by simp;omega) (fun q hq=>by have:=aA.out.lt q hq;omega);have fA:∀b,b<w.heap.size+1+1->∀o x,zW (((w.alloc (.cells #[.int .i64 s.zRi,.slice (some ad) s.kn c,.string s.data] 127)).alloc (.cells #[.int .i64 0,.slice none 0 0,.string ⟨#[]⟩] 127)).alloc (.cells #[] 61)) b o x->zW w1 b o x:=fun b hb o x hx=>by
   have e:=zLO bA aA.out hb hx.lt;exact⟨(World.cell?_of_block (a:=⟨b,o,none⟩) e).trans hx.1,(World.frozen?_of_block (a:=⟨b,o,none⟩) e).trans hx.2⟩
  have dB:Hid (yR w1 w.heap.size (.int .i64 s.zRi) (.slice (some ad) s.kn c) (.string s.data)):=⟨fA _ (by omega) _ _ jA.out.1,fA _ (by omega) _ _ jA.out.2.1,fA _ (by omega) _ _ jA.out.2.2⟩;have bB:Hid (yR w1 (w.heap.size+1) (.int .i64 0) (.slice none 0 0) (.string ⟨#[]⟩)):=⟨fA _ (by omega) _ _ iA.out.1,fA _ (by omega) _ _ iA.out.2.1,fA _ (by omega) _ _ iA.out.2.2⟩;obtain⟨kb,hp,hk⟩:=zCQ Hm.out eA;have Hp:Hid (zm w1 kb v' s.kn s.ks s.kb/\(0<s.kn->w.heap.size+1+1<=kb/\kb<w1.heap.size)):=⟨hp,hk⟩;obtain⟨_,ka,oA,rfl,_⟩:=hp;clear hk dA eA bA pA fA jA iA aA lA;obtain⟨⟨x0,x1⟩,⟨x2,x3⟩,⟨x4,x5⟩⟩:=dB.out;obtain⟨⟨y0,y1⟩,⟨y2,y3⟩,⟨y4,y5⟩⟩:=bB.out;go_wp2;have kA:=(bB.out.zRY (b':=w.heap.size) (o':=1) (.slice ka s.kn oA) (by omega)).put (.int .i64 s.zRi) (.slice ka s.kn oA) (.string s.data);refine bodyPost_ret (v:=.agg #[.int .i64 s.zRi,.slice ka s.kn oA,.string s.data]) (by simp[results,Tryz.results146,go_sem,kA.1.1,kA.2.1.1,kA.2.2.1]) rfl ⟨_,kb,rfl,?_,?_,?_⟩
  ·have hk:=Hp.out.2;refine(((Hp.out.1.zRf (zF.put _ _ _ _) ?_).zRf (zF.put _ _ _ _) ?_).zRf (zF.put _ _ _ _) ?_).zRf (zF.put _ _ _ _) ?_
   all_goals exact fun h0 e=>by have:=hk h0;omega
  ·intro h0;have:=Hp.out.2 h0;simp only[World.size_setCell];omega
  ·exact(((fB.setCell (by show _<=w.heap.size;omega) _).setCell (by show _<=w.heap.size+1;omega) _).setCell (by show _<=w.heap.size+1;omega) _).setCell (by show _<=w.heap.size+1;omega) _
theorem zIl(a:Option Addr)(n c:Nat)(xs:List Value)(w:World)(hl:xs.length=n*1)(fA:∀u∈xs,u.oneCell'=true)(hn:n<=1048576)
    (hc:0<n->∃b off,a=some ⟨b,off,none⟩/\∀j u,xs[j]?=some u->w.cell? ⟨b,off+j,none⟩=some u) :
    Calls Tryz.prog 211 #[.slice a n c] w fun e w'=>∃v',e = .returned v'/\w'.ownsRow w.heap.size 2 1 v' n xs/\Below w.heap.size w w'/\(n=0->∃a,v' = .slice a 0 0):=by
  have Hc:Hid (0<n->∃b off,a=some ⟨b,off,none⟩/\∀j u,xs[j]?=some u->w.cell? ⟨b,off+j,none⟩=some u):=hc;have Hl:Hid (xs.length=n*1/\∀u∈xs,u.oneCell'=true):=⟨hl,fA⟩;clear hc hl fA;have pA:=fun w=>Lib.run_eql_slice_nil (P:=Tryz.prog) w 23 2 a n c 0 0 (by kernel_rfl)
  cases a with
  | none=>
    have oA:n=0:=by
      by_cases h:0<n
      · obtain⟨b,off,ha,_⟩:=Hc.out h;simp at ha
      · omega
    subst oA;have nA:xs = []:=List.eq_nil_of_length_eq_zero (by simpa using Hl.out.1);subst nA;go_enter Tryz.func211,Tryz.ntmps211;go_wp2;go_ret;exact⟨_,rfl,World.ownsRow_nil _ _ _ _,Below.refl _ _,fun _=>⟨_,rfl⟩⟩
  | some ad=>
    obtain⟨i0,hi,lA⟩:=Option.map_eq_some_iff.1 zDQ;simp only[Prod.mk.injEq]at lA;obtain⟨hz,hs,kA⟩:=lA;have HI:Hid (Tryz.prog.info? 2=some i0/\i0.zero=some (.int .i64 0)/\i0.size=1/\i0.bytes=8):=⟨hi,hz,hs,kA⟩;have dA:Hid ((w.alloc (.cells #[] 2)).ownsRow w.heap.size 2 1 (.slice (some ⟨w.heap.size,0,none⟩) 0 0) 0 []):=World.ownsRow_made w #[] 0 (Nat.le_refl _) (Nat.zero_le _) (by simp);clear hi hz hs kA;go_enter Tryz.func211,Tryz.ntmps211;go_wp2_with (first
      | (at_builtin;refine qJ rfl _ _ 23 rfl w.heap.size 2 i0 (.int .i64 0) 1 8 (by kernel_rfl) HI.out.1 HI.out.2.1 HI.out.2.2.1 HI.out.2.2.2 rfl (by decide) _ _ _ rfl dA.out (some ad) n c xs rfl Hl.out.1 Hl.out.2 ?c1 ?c3 ?c4 ?c5 ?_))
    case c1=>
      intro h0;obtain⟨b,off,ha,eA⟩:=Hc.out h0;exact⟨b,off,ha,fun j u hj=>(((Below.refl _ _).alloc (Nat.le_refl _) _).cell (zD (eA j u hj))).trans (eA j u hj)⟩
    case c3=>unfold maxLen;omega
    case c4=>omega
    case c5=>simp
    intro v' w1 bA cA iA;have mA:Below w.heap.size w w1:=((Below.refl _ _).alloc (Nat.le_refl _) _).grown cA (by simp) (fun q hq=>by have:=dA.out.lt q hq;omega);have aA:w1.ownsRow w.heap.size 2 1 v' n xs:=(by simpa using bA);have gA:Hid (w1.ownsRow w.heap.size 2 1 v' n xs):=aA;have jA:Hid (n=0->v' = .slice (some ⟨w.heap.size,0,none⟩) 0 0):=iA;clear bA aA cA iA;go_wp2;go_ret;exact⟨v',rfl,gA.out,mA,fun e=>⟨_,jA.out e⟩⟩
theorem zHj(a:Option Addr)(n c:Nat)(xs:List Value)(w:World)(hl:xs.length=n*3)(fA:∀u∈xs,u.oneCell'=true)(hn:n<=1048576)
    (hc:0<n->∃b off,a=some ⟨b,off,none⟩/\∀j u,xs[j]?=some u->w.cell? ⟨b,off+j,none⟩=some u) :
    Calls Tryz.prog 218 #[.slice a n c] w fun e w'=>∃v',e = .returned v'/\w'.ownsRow w.heap.size 127 3 v' n xs/\Below w.heap.size w w'/\(n=0->∃a,v' = .slice a 0 0):=by
  have Hc:Hid (0<n->∃b off,a=some ⟨b,off,none⟩/\∀j u,xs[j]?=some u->w.cell? ⟨b,off+j,none⟩=some u):=hc;have Hl:Hid (xs.length=n*3/\∀u∈xs,u.oneCell'=true):=⟨hl,fA⟩;clear hc hl fA;have pA:=fun w=>Lib.run_eql_slice_nil (P:=Tryz.prog) w 31 127 a n c 0 0 (by kernel_rfl)
  cases a with
  | none=>
    have oA:n=0:=by
      by_cases h:0<n
      · obtain⟨b,off,ha,_⟩:=Hc.out h;simp at ha
      · omega
    subst oA;have nA:xs = []:=List.eq_nil_of_length_eq_zero (by simpa using Hl.out.1);subst nA;go_enter Tryz.func218,Tryz.ntmps218;go_wp2;go_ret;exact⟨_,rfl,World.ownsRow_nil _ _ _ _,Below.refl _ _,fun _=>⟨_,rfl⟩⟩
  | some ad=>
    obtain⟨i0,hi,lA⟩:=Option.map_eq_some_iff.1 zEq;simp only[Prod.mk.injEq]at lA;obtain⟨hz,hs,kA⟩:=lA;have HI:Hid (Tryz.prog.info? 127=some i0/\i0.zero=some (.agg #[.int .i64 0,.slice none 0 0,.string ⟨#[]⟩])/\i0.size=3/\i0.bytes=48):=⟨hi,hz,hs,kA⟩;have dA:Hid ((w.alloc (.cells #[] 127)).ownsRow w.heap.size 127 3 (.slice (some ⟨w.heap.size,0,none⟩) 0 0) 0 []):=World.ownsRow_made w #[] 0 (Nat.le_refl _) (Nat.zero_le _) (by simp);clear hi hz hs kA;go_enter Tryz.func218,Tryz.ntmps218;go_wp2_with (first
      | (at_builtin;refine qJ rfl _ _ 31 rfl w.heap.size 127 i0 (.agg #[.int .i64 0,.slice none 0 0,.string ⟨#[]⟩]) 3 48 (by kernel_rfl) HI.out.1 HI.out.2.1 HI.out.2.2.1 HI.out.2.2.2 rfl (by decide) _ _ _ rfl dA.out (some ad) n c xs rfl Hl.out.1 Hl.out.2 ?c1 ?c3 ?c4 ?c5 ?_))
    case c1=>
      intro h0;obtain⟨b,off,ha,eA⟩:=Hc.out h0;exact⟨b,off,ha,fun j u hj=>(((Below.refl _ _).alloc (Nat.le_refl _) _).cell (zD (eA j u hj))).trans (eA j u hj)⟩
    case c3=>unfold maxLen;omega
    case c4=>omega
    case c5=>simp
    intro v' w1 bA cA iA;have mA:Below w.heap.size w w1:=((Below.refl _ _).alloc (Nat.le_refl _) _).grown cA (by simp) (fun q hq=>by have:=dA.out.lt q hq;omega);have aA:w1.ownsRow w.heap.size 127 3 v' n xs:=(by simpa using bA);have gA:Hid (w1.ownsRow w.heap.size 127 3 v' n xs):=aA;have jA:Hid (n=0->v' = .slice (some ⟨w.heap.size,0,none⟩) 0 0):=iA;clear bA aA cA iA;go_wp2;go_ret;exact⟨v',rfl,gA.out,mA,fun e=>⟨_,jA.out e⟩⟩
theorem zI5(v0 v1:Value)(lo hi:Nat)(p:zI)(w:World)(h1:zu w lo hi v0 v1 p)(hn:qC p<=1048576):Calls Tryz.prog 82 #[.agg #[v0,v1]] w (zPs p w):=by
  have Hp:=zT h1;obtain⟨⟨m1,a,c,rfl,mc,g1⟩,⟨m2,a',c',rfl,eD,g2⟩⟩:=h1;have Hm:=zT (And.intro m1 m2);clear g1 g2 m1 m2;unfold qC at hn;have Hn:Hid (∀j,j<p.n->(p.s j).kn<=1048576):=fun j hj=>by have h2:=zFx p.s hj;unfold zAN at h2;omega
  have cD:p.n<=1048576:=(by omega);have iD:p.hn<=1048576:=(by omega);clear hn;obtain⟨i0,vB,fB⟩:=Option.map_eq_some_iff.1 zDQ;simp only[Prod.mk.injEq]at fB;have HI:=zT (And.intro vB fB);obtain⟨i1,pB,lA⟩:=Option.map_eq_some_iff.1 zEq;simp only[Prod.mk.injEq]at lA;have sA:=zT (And.intro pB lA);clear vB fB pB lA;have rB:=zC w (.cells #[.slice a p.n c,.slice a' p.hn c'] 33);have nB:=zA rB (zC _ (.cells #[.slice none 0 0,.slice none 0 0] 33));have aB:=zT (zA nB (zC _ (.cells #[] 2)));have eA:=World.ownsRow_made (base:=w.heap.size+1+1) (e:=2) (size:=1) ((w.alloc (.cells #[.slice a p.n c,.slice a' p.hn c'] 33)).alloc (.cells #[.slice none 0 0,.slice none 0 0] 33)) #[] 0 (by simp) (Nat.zero_le _) (by simp);rw[World.size_alloc,World.size_alloc]at eA;have cA:=zT eA;have sB:=zT (((zc.zRZ w (.slice a p.n c) (.slice a' p.hn c') 33).zRX (zC _ (.cells #[.slice none 0 0,.slice none 0 0] 33))).zRX (zC _ (.cells #[] 2)));have dB:=(zc.zRZ (w.alloc (.cells #[.slice a p.n c,.slice a' p.hn c'] 33)) (.slice none 0 0) (.slice none 0 0) 33).zRX (zC _ (.cells #[] 2));rw[World.size_alloc]at dB;have oB:=zT dB;clear rB nB eA dB;go_enter Tryz.func82,Tryz.ntmps82;go_wp2_with (first
    | (at_builtin;refine qJ rfl _ _ 23 rfl (w.heap.size+1+1) 2 i0 (.int .i64 0) 1 8 (by kernel_rfl) HI.out.1 HI.out.2.1 HI.out.2.2.1 HI.out.2.2.2 rfl (by decide) (.slice (some ⟨w.heap.size+1+1,0,none⟩) 0 0) 0 [] rfl ?c0 a' p.hn c' (ic p.h p.hn) rfl (zBu _ _) (zPG _ _) ?c1 ?c3 ?c4 ?c5 ?_))
  case c0=>exact cA.out
  case c1=>exact zKn Hp.out.2 rfl aB.out
  case c3=>unfold maxLen;omega
  case c4=>omega
  case c5=>simp
  intro v' w1 gA dA jA;have fA:w1.ownsRow (w.heap.size+1+1) 2 1 v' p.hn (ic p.h p.hn):=(by simpa using gA);obtain⟨ha,hc,rfl,_⟩:=zY fA;have gC:Hid (p.hn=0->∃a,Value.slice ha p.hn hc = .slice a 0 0):=fun e=>⟨_,jA e⟩
  clear jA;have oA:=zT fA;have cC:=zT (sB.out.grown dA cA.out (by omega));have oC:=zT (oB.out.grown dA cA.out (by omega));have nC:Below w.heap.size w w1:=aB.out.grown dA (by simp;omega) (fun q hq=>by have:=cA.out.lt q hq;omega);have vC:w.heap.size+3<=w1.heap.size:=(by have:=dA.size;simp at this;omega);clear gA fA dA sB oB cA aB;have cB:=zT (And.intro ((cC.out.zRX (zC w1 (.cells #[.slice none 0 0,.slice ha p.hn hc] 33)))) (And.intro (zc.zRZ w1 (.slice none 0 0) (.slice ha p.hn hc) 33) (zC w1 (.cells #[.slice none 0 0,.slice ha p.hn hc] 33))));go_wp2
  go_loopw [4] (fun i wr=>∃(k:Nat) (va:Option Addr) (vc:Nat) (kb:Nat->Nat) (kv:Nat->Value),k<=p.n/\i = .int .i64 k/\zc wr w.heap.size (.slice a p.n c) (.slice a' p.hn c')/\zc wr w1.heap.size (.slice va k vc) (.slice ha p.hn hc)/\zE4 wr (w1.heap.size+1) k p.s kb kv (.slice va k vc)/\Below w1.heap.size w1 wr/\w1.heap.size+1<=wr.heap.size) (fun i _=>p.n - (intOf i).toNat)
  case atStart=>exact⟨0,none,0,_,_,Nat.zero_le _,rfl,cB.out.1,cB.out.2.1,zE4.nil _ _ _,cB.out.2.2,by simp⟩
  case round=>
    obtain⟨k,va,vc,kb,kv,hk,rfl,hx,ho,hl,vA,jC⟩:=hrel;have Hx:=zT hx;have Ho:=zT ho;have Hl:=zT hl;have jB:=zA nC vA;clear hx ho hl;by_cases gB:k<p.n
    · have lC:(k:Int)<(p.n:Int):=by omega
      obtain⟨b,off,ka,kc,rfl,hs⟩:=(Hp.out.1.zRX jB).cells gB;have Hs:=zT hs;obtain⟨q0,q1,q2,_⟩:=hs;obtain⟨⟨x0,x1⟩,⟨x2,x3⟩⟩:=Hx.out;obtain⟨⟨y0,y1⟩,⟨y2,y3⟩⟩:=Ho.out;have aD:b<w.heap.size:=by
        obtain⟨b',eC,_,_,he,kC⟩:=Hp.out.1.cells gB;simp only[Option.some.injEq,Addr.mk.injEq,and_true]at he;rw[he.1];exact zD kC.c0
      have n0:w1.heap.size≠w.heap.size:=(by omega);have n1:w1.heap.size≠b:=(by omega);go_wp2_with fail
      go_region_law
        (first
          | (refine step_append_lies _ rfl (.tmp 18) (.tmp 25) 31 rfl (w1.heap.size+1) 127 i1 (.agg #[.int .i64 0,.slice none 0 0,.string ⟨#[]⟩]) 3 48 (by kernel_rfl) sA.out.1 sA.out.2.1 sA.out.2.2.1 sA.out.2.2.2 rfl (by decide) (.slice va k vc) k (sc p.s kv k) (by simp[Act.eval]) ?_ ⟨w2.heap.size,0,none⟩ 1 1 [.int .i64 (p.s k).zRi,.slice na (p.s k).kn nc,.string (p.s k).data] (by simp[Act.eval]) rfl ?_ ?_ (by decide) ?_ ?_ ?_ _ rfl ?_
             exact((Hl.out.zRX aA).zRX (zC w2 _)).row;exact zQi _ _ _ _ _;exact zRG _ _ _ _ _
             (unfold maxLen;omega)
             omega
             (have:=aA.size;rw[World.size_alloc];omega)
             intro g rC w3 iA bA rA iB;have tA:=(Hl.out.zRX aA).zRX (zC w2 (.cells #[.int .i64 (p.s k).zRi,.slice na (p.s k).kn nc,.string (p.s k).data] 127));have t3:=zCL bA;have nA:∀b,b<w1.heap.size+1->¬(Value.slice va k vc).ownBlock=some b:=fun b hb e=>by have:=tA.row.lt b e;omega
             have tB:=((Hx.out.zRX aA).zRX (zC w2 (.cells #[.int .i64 (p.s k).zRi,.slice na (p.s k).kn nc,.string (p.s k).data] 127))).zRf t3 (nA _ (by omega));have mB:=((Ho.out.zRX aA).zRX (zC w2 (.cells #[.int .i64 (p.s k).zRi,.slice na (p.s k).kn nc,.string (p.s k).data] 127))).zRf t3 (nA _ (by omega));have kA:=(Hs.out.zRX aA).zRX (zC w2 (.cells #[.int .i64 (p.s k).zRi,.slice na (p.s k).kn nc,.string (p.s k).data] 127));have z5:=(t3.cell (zD kA.c0) (nA _ (by omega))).trans kA.c0;have z6:=(t3.cell (zD kA.c1) (nA _ (by omega))).trans kA.c1;have z7:=(t3.cell (zD kA.c2) (nA _ (by omega))).trans kA.c2;have mC:=zT tB;have lB:=zT mB;obtain⟨⟨z8,z9⟩,⟨sC,gD⟩⟩:=tB;obtain⟨⟨jD,fD⟩,⟨tC,bD⟩⟩:=mB;have iC:=zT (tA.next (bB.zRX (zC w2 _)) (zMm Hl.out jC (fun h0=>by have:=pA h0;rw[World.size_alloc];exact⟨this.1,by omega⟩)) Hs.out.slot.2.2.2 iA bA rA);have fC:Below w1.heap.size w1 w3:=(zA (zA vA aA) (zC w2 _)).grown bA (by have:=aA.size;rw[World.size_alloc];omega) (fun q hq=>by have:=tA.row.lt q hq;omega);have dC:w1.heap.size+1<=w3.heap.size:=(by have:=bA.size;have:=aA.size;rw[World.size_alloc]at *;omega);clear tA t3 nA kA iA bA rA iB bB pA)
          | (go_simp;go_at_call 146;refine(zMD _ _ _ lo hi (p.s k) _ ?_ (Hn.out k gB)).mono ?_;(first | exact Hs.out.slot | exact Hs.out.slot.zRX (Below.refl _ _).drew);rintro e w2 ⟨nv,nb,rfl,bB,pA,kB⟩;obtain⟨_,na,nc,rfl,_⟩:=id bB;have aA:Below wr.heap.size wr w2:=(by first | exact kB | exact zK kB);have dD:=((Ho.out.zRX aA).zRX (zC w2 (.cells #[.int .i64 (p.s k).zRi,.slice na (p.s k).kn nc,.string (p.s k).data] 127))).1.1;have z0:=(Hx.out.zRX aA).1.1;have z1:=(Ho.out.zRX aA).1.1;have z2:=(Hs.out.zRX aA).c0;have z3:=(Hs.out.zRX aA).c1;have z4:=(Hs.out.zRX aA).c2))
      all_goals
        go_wp2;go_roundw
        case rel=>exact⟨k+1,some ⟨g,0,none⟩,rC,_,_,by omega,by go_num,mC.out.zRY _ (by omega),⟨lB.out.1.set _,lB.out.2.zRY _ (Or.inr (by omega))⟩,iC.out.put (by omega) _,fC.setCell (Nat.le_refl _) _,by rw[World.size_setCell];exact dC⟩
        case measure=>simp[intOf];omega
    · obtain rfl:k=p.n:=by omega
      obtain⟨⟨x0,x1⟩,⟨x2,x3⟩⟩:=Hx.out;obtain⟨⟨y0,y1⟩,⟨y2,y3⟩⟩:=Ho.out;have aC:=zT (oC.out.zRX vA);obtain⟨⟨u0,u1⟩,⟨u2,u3⟩⟩:=aC.out;go_wp2;have bC:=aC.out.put (.slice va p.n vc) (.slice ha p.hn hc);have t:=(zF.put wr (w.heap.size+1) 0 (.slice va p.n vc)).trans (zF.put _ (w.heap.size+1) 1 (.slice ha p.hn hc));have hz:=t.size;obtain⟨bs,pC,mA⟩:=Hl.out.own Hm.out.1;have eB:=oA.out.kept (zBf vA none) (by cases hv:(Value.slice ha p.hn hc).ownBlock<;>simp);refine bodyPost_ret (v:=.agg #[.slice va p.n vc,.slice ha p.hn hc]) (by simp[results,Tryz.results82,go_sem,bC.1.1,bC.2.1]) rfl ⟨_,_,w1.heap.size+1,bs,kb,kv,rfl,?_,Hl.out.zRk,?_,?_,?_,by omega,by omega,?_,gC.out⟩
      · exact pC.zRf t (fun h0 e=>by have:=mA bs (Or.inl ⟨h0,rfl⟩);omega) (fun i hi h0 e=>by have:=mA _ (Or.inr ⟨i,hi,h0,rfl⟩);omega)
      · intro k hk
        have:=mA k hk;omega
      · exact zEJ (ownsRow_setCell_below (ownsRow_setCell_below eB (by show w.heap.size+1<_;omega) _) (by show w.heap.size+1<_;omega) _) (by omega)
      · intro k hk
        have:=oA.out.lt k hk;omega
      · exact(jB.setCell (by show _<=w.heap.size+1;omega) _).setCell (by show _<=w.heap.size+1;omega) _
theorem zHC(v0 v1:Value)(lo hi:Nat)(p:zI)(w:World)(h1:zu w lo hi v0 v1 p)(hn:qC p<=1048576):Calls Tryz.prog 82 #[.agg #[v0,v1]] w (zHZ p w):=by
  refine(zI5 v0 v1 lo hi p w h1 hn).mono ?_;rintro e w' ⟨u0,u1,M,bs,kb,kv,rfl,g1,g2,g3,g4,g5,g6,g7,g8,g9⟩;exact⟨u0,u1,rfl,zJk g1 g2 g3 h1.2.1 g4 (fun k hk=>⟨(g5 k hk).1,Or.inl (g5 k hk).2⟩) g6 g9,g8⟩
def zDg(w:World)(b:Nat)(v0 v1 v2 v3 v4:Value):Prop:=zW w b 0 v0/\zW w b 1 v1/\zW w b 2 v2/\zW w b 3 v3/\zW w b 4 v4
theorem zDg.zRX{w w':World}{b:Nat}{v0 v1 v2 v3 v4:Value}(h:zDg w b v0 v1 v2 v3 v4)(t:Below w.heap.size w w'):zDg w' b v0 v1 v2 v3 v4:=⟨h.1.zRX t,h.2.1.zRX t,h.2.2.1.zRX t,h.2.2.2.1.zRX t,h.2.2.2.2.zRX t⟩
theorem zDg.zRf{S:Nat->Prop}{w w':World}{b:Nat}{v0 v1 v2 v3 v4:Value}(h:zDg w b v0 v1 v2 v3 v4)(t:zF S w w')(hs:¬S b):zDg w' b v0 v1 v2 v3 v4:=⟨h.1.zRf t hs,h.2.1.zRf t hs,h.2.2.1.zRf t hs,h.2.2.2.1.zRf t hs,h.2.2.2.2.zRf t hs⟩
theorem zDg.zRZ(w:World)(v0 v1 v2 v3 v4:Value)(t:TypeId):zDg (w.alloc (.cells #[v0,v1,v2,v3,v4] t)) w.heap.size v0 v1 v2 v3 v4:=by
 have hb:(w.alloc (.cells #[v0,v1,v2,v3,v4] t)).heap[w.heap.size]?=some (.cells #[v0,v1,v2,v3,v4] t):=heap_alloc_new _ _;exact⟨zJ hb rfl,zJ hb rfl,zJ hb rfl,zJ hb rfl,zJ hb rfl⟩
abbrev put5(w:World)(b:Nat)(u0 u1 u2 u3 u4:Value):World:=((((w.setCell ⟨b,0,none⟩ u0).setCell ⟨b,1,none⟩ u1).setCell ⟨b,2,none⟩ u2).setCell ⟨b,3,none⟩ u3).setCell ⟨b,4,none⟩ u4
theorem zDg.put{w:World}{b:Nat}{v0 v1 v2 v3 v4:Value}(h:zDg w b v0 v1 v2 v3 v4)(u0 u1 u2 u3 u4:Value):zDg (put5 w b u0 u1 u2 u3 u4) b u0 u1 u2 u3 u4:=by
 obtain⟨h0,h1,h2,h3,h4⟩:=h;refine⟨?_,?_,?_,?_,?_⟩
 ·exact((((h0.set _).zRY _ (Or.inr (by omega))).zRY _ (Or.inr (by omega))).zRY _ (Or.inr (by omega))).zRY _ (Or.inr (by omega))
 ·exact((((h1.zRY _ (Or.inr (by omega))).set _).zRY _ (Or.inr (by omega))).zRY _ (Or.inr (by omega))).zRY _ (Or.inr (by omega))
 ·exact((((h2.zRY _ (Or.inr (by omega))).zRY _ (Or.inr (by omega))).set _).zRY _ (Or.inr (by omega))).zRY _ (Or.inr (by omega))
 ·exact((((h3.zRY _ (Or.inr (by omega))).zRY _ (Or.inr (by omega))).zRY _ (Or.inr (by omega))).set _).zRY _ (Or.inr (by omega))
 ·exact((((h4.zRY _ (Or.inr (by omega))).zRY _ (Or.inr (by omega))).zRY _ (Or.inr (by omega))).zRY _ (Or.inr (by omega))).set _
theorem zF.put5(w:World)(b:Nat)(u0 u1 u2 u3 u4:Value):zF (fun k=>k=b) w (put5 w b u0 u1 u2 u3 u4):=
 ((((zF.put w b 0 u0).trans (zF.put _ b 1 u1)).trans (zF.put _ b 2 u2)).trans (zF.put _ b 3 u3)).trans (zF.put _ b 4 u4)
structure zD0 where
 zRd:zI
 ps:Int
 pb:Int
 code:Int
def zM1(o:zD0)(w:World)(e:Ending)(w':World):Prop:=∃v0 v1,e = .returned (.agg #[v0,v1,.int .i64 o.ps,.int .i64 o.pb,.int .i64 o.code])/\zy w' w.heap.size w'.heap.size v0 v1 o.zRd/\Below w.heap.size w w'
theorem zH9{w:World}{lo hi:Nat}:zy w lo hi (.slice none 0 0) (.slice none 0 0) (zEV 0):=
 zPV (g:=0) (Nat.zero_le _) ⟨none,0,rfl,Nat.le_refl _,fun h=>absurd h (Nat.lt_irrefl _)⟩ (fun i h=>absurd h (Nat.not_lt_zero _))
def noW:zH:={zRd:=zEV 0,time:=0,next:=0,sn:=0,zRg:=fun _=>⟨⟨#[]⟩,0,0,0,0,0,fun _=>0,fun _=>0⟩,pn:=0,zRe:=fun _=>⟨0,⟨#[]⟩,⟨#[]⟩,0,0,0,0,0,fun _=>0,fun _=>0⟩}
theorem zDv{w:World}{lo hi:Nat}:qL w lo hi (.slice none 0 0) (.slice none 0 0) (.slice none 0 0) (.slice none 0 0) noW:=by
 refine⟨fun k=>lo<=k/\k<hi,fun _=>False,fun _=>False,⟨(zH9 (lo:=lo) (hi:=hi)).isIn (fun k h1 h2=>⟨h1,h2⟩),?_,?_,fun _ _ h=>h,fun _ _ h=>h,fun _ h=>h.elim⟩,fun k hk=>?_⟩
 ·exact⟨0,fun _=>0,fun _=>.slice none 0 0,⟨Nat.zero_le _,none,0,rfl,Nat.le_refl _,fun h=>absurd h (Nat.lt_irrefl _)⟩,fun i j hi=>absurd hi (Nat.not_lt_zero _),fun k hk=>by
   rcases hk with⟨h,_⟩ | ⟨i,h,_⟩
   ·exact absurd h (Nat.lt_irrefl _)
   ·exact absurd h (Nat.not_lt_zero _)⟩
 ·exact⟨0,fun _=>0,fun _=>.slice none 0 0,⟨Nat.zero_le _,none,0,rfl,Nat.le_refl _,fun h=>absurd h (Nat.lt_irrefl _)⟩,fun i j hi=>absurd hi (Nat.not_lt_zero _),fun k hk=>by
   rcases hk with⟨h,_⟩ | ⟨i,h,_⟩
   ·exact absurd h (Nat.lt_irrefl _)
   ·exact absurd h (Nat.not_lt_zero _)⟩
 ·rcases hk with h | h | h
  ·exact h
  ·exact h.elim
  ·exact h.elim
def yj(w:World)(b:Nat)(v0 v1 v2 v3 v4 v5 v6 v7 v8:Value):Prop:=zW w b 0 v0/\zW w b 1 v1/\zW w b 2 v2/\zW w b 3 v3/\zW w b 4 v4/\zW w b 5 v5/\zW w b 6 v6/\zW w b 7 v7/\zW w b 8 v8
theorem yj.zRX{w w':World}{b:Nat}{v0 v1 v2 v3 v4 v5 v6 v7 v8:Value}(h:yj w b v0 v1 v2 v3 v4 v5 v6 v7 v8)(t:Below w.heap.size w w'):yj w' b v0 v1 v2 v3 v4 v5 v6 v7 v8:=⟨h.1.zRX t,h.2.1.zRX t,h.2.2.1.zRX t,h.2.2.2.1.zRX t,h.2.2.2.2.1.zRX t,h.2.2.2.2.2.1.zRX t,h.2.2.2.2.2.2.1.zRX t,h.2.2.2.2.2.2.2.1.zRX t,h.2.2.2.2.2.2.2.2.zRX t⟩
theorem yj.zRf{S:Nat->Prop}{w w':World}{b:Nat}{v0 v1 v2 v3 v4 v5 v6 v7 v8:Value}(h:yj w b v0 v1 v2 v3 v4 v5 v6 v7 v8)(t:zF S w w')(hs:¬S b):yj w' b v0 v1 v2 v3 v4 v5 v6 v7 v8:=⟨h.1.zRf t hs,h.2.1.zRf t hs,h.2.2.1.zRf t hs,h.2.2.2.1.zRf t hs,h.2.2.2.2.1.zRf t hs,h.2.2.2.2.2.1.zRf t hs,h.2.2.2.2.2.2.1.zRf t hs,h.2.2.2.2.2.2.2.1.zRf t hs,h.2.2.2.2.2.2.2.2.zRf t hs⟩
theorem yj.zRZ(w:World)(v0 v1 v2 v3 v4 v5 v6 v7 v8:Value)(t:TypeId):yj (w.alloc (.cells #[v0,v1,v2,v3,v4,v5,v6,v7,v8] t)) w.heap.size v0 v1 v2 v3 v4 v5 v6 v7 v8:=by
 have hb:(w.alloc (.cells #[v0,v1,v2,v3,v4,v5,v6,v7,v8] t)).heap[w.heap.size]?=some (.cells #[v0,v1,v2,v3,v4,v5,v6,v7,v8] t):=heap_alloc_new _ _;exact⟨zJ hb rfl,zJ hb rfl,zJ hb rfl,zJ hb rfl,zJ hb rfl,zJ hb rfl,zJ hb rfl,zJ hb rfl,zJ hb rfl⟩
abbrev put9(w:World)(b:Nat)(u0 u1 u2 u3 u4 u5 u6 u7 u8:Value):World:=((((((((w.setCell ⟨b,0,none⟩ u0).setCell ⟨b,1,none⟩ u1).setCell ⟨b,2,none⟩ u2).setCell ⟨b,3,none⟩ u3).setCell ⟨b,4,none⟩ u4).setCell ⟨b,5,none⟩ u5).setCell ⟨b,6,none⟩ u6).setCell ⟨b,7,none⟩ u7).setCell ⟨b,8,none⟩ u8
theorem yj.put{w:World}{b:Nat}{v0 v1 v2 v3 v4 v5 v6 v7 v8:Value}(h:yj w b v0 v1 v2 v3 v4 v5 v6 v7 v8)(u0 u1 u2 u3 u4 u5 u6 u7 u8:Value):yj (put9 w b u0 u1 u2 u3 u4 u5 u6 u7 u8) b u0 u1 u2 u3 u4 u5 u6 u7 u8:=by
 obtain⟨h0,h1,h2,h3,h4,h5,h6,h7,h8⟩:=h;exact⟨(((((((((h0.set _).zRY _ (Or.inr (by omega))).zRY _ (Or.inr (by omega))).zRY _ (Or.inr (by omega))).zRY _ (Or.inr (by omega))).zRY _ (Or.inr (by omega))).zRY _ (Or.inr (by omega))).zRY _ (Or.inr (by omega))).zRY _ (Or.inr (by omega))),
  (((((((((h1.zRY _ (Or.inr (by omega))).set _).zRY _ (Or.inr (by omega))).zRY _ (Or.inr (by omega))).zRY _ (Or.inr (by omega))).zRY _ (Or.inr (by omega))).zRY _ (Or.inr (by omega))).zRY _ (Or.inr (by omega))).zRY _ (Or.inr (by omega))),
  (((((((((h2.zRY _ (Or.inr (by omega))).zRY _ (Or.inr (by omega))).set _).zRY _ (Or.inr (by omega))).zRY _ (Or.inr (by omega))).zRY _ (Or.inr (by omega))).zRY _ (Or.inr (by omega))).zRY _ (Or.inr (by omega))).zRY _ (Or.inr (by omega))),
  (((((((((h3.zRY _ (Or.inr (by omega))).zRY _ (Or.inr (by omega))).zRY _ (Or.inr (by omega))).set _).zRY _ (Or.inr (by omega))).zRY _ (Or.inr (by omega))).zRY _ (Or.inr (by omega))).zRY _ (Or.inr (by omega))).zRY _ (Or.inr (by omega))),
  (((((((((h4.zRY _ (Or.inr (by omega))).zRY _ (Or.inr (by omega))).zRY _ (Or.inr (by omega))).zRY _ (Or.inr (by omega))).set _).zRY _ (Or.inr (by omega))).zRY _ (Or.inr (by omega))).zRY _ (Or.inr (by omega))).zRY _ (Or.inr (by omega))),
  (((((((((h5.zRY _ (Or.inr (by omega))).zRY _ (Or.inr (by omega))).zRY _ (Or.inr (by omega))).zRY _ (Or.inr (by omega))).zRY _ (Or.inr (by omega))).set _).zRY _ (Or.inr (by omega))).zRY _ (Or.inr (by omega))).zRY _ (Or.inr (by omega))),
  (((((((((h6.zRY _ (Or.inr (by omega))).zRY _ (Or.inr (by omega))).zRY _ (Or.inr (by omega))).zRY _ (Or.inr (by omega))).zRY _ (Or.inr (by omega))).zRY _ (Or.inr (by omega))).set _).zRY _ (Or.inr (by omega))).zRY _ (Or.inr (by omega))),
  (((((((((h7.zRY _ (Or.inr (by omega))).zRY _ (Or.inr (by omega))).zRY _ (Or.inr (by omega))).zRY _ (Or.inr (by omega))).zRY _ (Or.inr (by omega))).zRY _ (Or.inr (by omega))).zRY _ (Or.inr (by omega))).set _).zRY _ (Or.inr (by omega))),
  (((((((((h8.zRY _ (Or.inr (by omega))).zRY _ (Or.inr (by omega))).zRY _ (Or.inr (by omega))).zRY _ (Or.inr (by omega))).zRY _ (Or.inr (by omega))).zRY _ (Or.inr (by omega))).zRY _ (Or.inr (by omega))).zRY _ (Or.inr (by omega))).set _)⟩
theorem zF.put9(w:World)(b:Nat)(u0 u1 u2 u3 u4 u5 u6 u7 u8:Value):zF (fun k=>k=b) w (put9 w b u0 u1 u2 u3 u4 u5 u6 u7 u8):=((((((((zF.put w b 0 u0).trans (zF.put _ b 1 u1)).trans (zF.put _ b 2 u2)).trans (zF.put _ b 3 u3)).trans (zF.put _ b 4 u4)).trans (zF.put _ b 5 u5)).trans (zF.put _ b 6 u6)).trans (zF.put _ b 7 u7)).trans (zF.put _ b 8 u8)
structure zB9 where
 world:zH
 id:Int
 zRp:Int
 code:Int
abbrev zIA(v0 v1 v2 v3:Value)(o:zB9):Value:=.agg #[v0,v1,.int .i64 o.world.time,.int .i64 o.world.next,v2,v3,.int .i64 o.id,.int .i64 o.zRp,.int .i64 o.code]
def zB0(o:zB9)(w:World)(e:Ending)(w':World):Prop:=∃v0 v1 v2 v3,e = .returned (zIA v0 v1 v2 v3 o)/\qL w' w.heap.size w'.heap.size v0 v1 v2 v3 o.world/\Below w.heap.size w w'
theorem yj.six{w:World}{b:Nat}{v0 v1 v2 v3 v4 v5 v6 v7 v8:Value}(h:yj w b v0 v1 v2 v3 v4 v5 v6 v7 v8)(u0 u1 u2 u3 u4 u5:Value):yj (put6 w b u0 u1 u2 u3 u4 u5) b u0 u1 u2 u3 u4 u5 v6 v7 v8:=by
 obtain⟨h0,h1,h2,h3,h4,h5,h6,h7,h8⟩:=h;exact⟨((((((h0.set _).zRY _ (Or.inr (by omega))).zRY _ (Or.inr (by omega))).zRY _ (Or.inr (by omega))).zRY _ (Or.inr (by omega))).zRY _ (Or.inr (by omega))),((((((h1.zRY _ (Or.inr (by omega))).set _).zRY _ (Or.inr (by omega))).zRY _ (Or.inr (by omega))).zRY _ (Or.inr (by omega))).zRY _ (Or.inr (by omega))),((((((h2.zRY _ (Or.inr (by omega))).zRY _ (Or.inr (by omega))).set _).zRY _ (Or.inr (by omega))).zRY _ (Or.inr (by omega))).zRY _ (Or.inr (by omega))),((((((h3.zRY _ (Or.inr (by omega))).zRY _ (Or.inr (by omega))).zRY _ (Or.inr (by omega))).set _).zRY _ (Or.inr (by omega))).zRY _ (Or.inr (by omega))),((((((h4.zRY _ (Or.inr (by omega))).zRY _ (Or.inr (by omega))).zRY _ (Or.inr (by omega))).zRY _ (Or.inr (by omega))).set _).zRY _ (Or.inr (by omega))),((((((h5.zRY _ (Or.inr (by omega))).zRY _ (Or.inr (by omega))).zRY _ (Or.inr (by omega))).zRY _ (Or.inr (by omega))).zRY _ (Or.inr (by omega))).set _),((((((h6.zRY _ (Or.inr (by omega))).zRY _ (Or.inr (by omega))).zRY _ (Or.inr (by omega))).zRY _ (Or.inr (by omega))).zRY _ (Or.inr (by omega))).zRY _ (Or.inr (by omega))),((((((h7.zRY _ (Or.inr (by omega))).zRY _ (Or.inr (by omega))).zRY _ (Or.inr (by omega))).zRY _ (Or.inr (by omega))).zRY _ (Or.inr (by omega))).zRY _ (Or.inr (by omega))),((((((h8.zRY _ (Or.inr (by omega))).zRY _ (Or.inr (by omega))).zRY _ (Or.inr (by omega))).zRY _ (Or.inr (by omega))).zRY _ (Or.inr (by omega))).zRY _ (Or.inr (by omega)))⟩
theorem zW.under{w w':World}{B b o:Nat}{v:Value}(h:zW w b o v)(t:Below B w w')(hb:b<B):zW w' b o v:=⟨(t.cell (p:=⟨b,o,none⟩) hb).trans h.1,(t.frozen (p:=⟨b,o,none⟩) hb).trans h.2⟩
def zBz(c:Int):zB9:=⟨noW,0,0,c⟩
def zMe(r:Option Nat)(o:zB9):zB9:=match r with
 | some i=>zBz (zBb i)
 | none=>o
def zNd(f:Nat->qD)(cv:Nat->Value)(i r:Nat):Value:=
 match r with
 | 0=>.string (f i).name
 | 1=>.int .i64 (f i).origin
 | 2=>.int .i64 (f i).zRh
 | 3=>.int .i64 (f i).rs
 | 4=>.int .i64 (f i).rb
 | _=>cv i
def zC8(f:Nat->qD)(cv:Nat->Value)(n:Nat):List Value:=(List.range (n*6)).map fun j=>zNd f cv (j / 6) (j % 6)
theorem zDb(f:Nat->qD)(cv:Nat->Value)(n:Nat):(zC8 f cv n).length=n*6:=by simp[zC8]
theorem zCy(f:Nat->qD)(cv:Nat->Value)(n:Nat){i r:Nat}(hi:i<n)(hr:r<6):(zC8 f cv n)[i*6+r]?=some (zNd f cv i r):=by
 have h:i*6+r<n*6:=by omega
 have h1:(i*6+r) / 6=i:=by omega
 have h2:(i*6+r) % 6=r:=by omega
 simp[zC8,h,h1,h2]
theorem zEw(f:Nat->qD)(cv:Nat->Value)(n:Nat)(h:∀i,i<n->(cv i).oneCell'=true):∀u∈zC8 f cv n,u.oneCell'=true:=by
 intro u hu;unfold zC8 at hu;obtain⟨j,hj,rfl⟩:=List.mem_map.1 hu;have aA:=List.mem_range.1 hj;have hi:j / 6<n:=by omega
 have hr:j % 6<6:=by omega
 generalize j % 6=r at hr ⊢;rcases r with _ | _ | _ | _ | _ | _<;>first | rfl | exact h _ hi
def zAs(w:World)(b o:Nat)(s:qD)(vd:Value):Prop:=zW w b o (.string s.name)/\zW w b (o+1) (.int .i64 s.origin)/\zW w b (o+2) (.int .i64 s.zRh)/\zW w b (o+3) (.int .i64 s.rs)/\zW w b (o+4) (.int .i64 s.rb)/\zW w b (o+5) vd
theorem zAs.zRf{S:Nat->Prop}{w w':World}{b o:Nat}{s:qD}{vd:Value}(h:zAs w b o s vd)(t:zF S w w')(hs:¬S b):zAs w' b o s vd:=by
 obtain⟨h0,h1,h2,h3,h4,h5⟩:=h;exact⟨h0.zRf t hs,h1.zRf t hs,h2.zRf t hs,h3.zRf t hs,h4.zRf t hs,h5.zRf t hs⟩
theorem zAs.zRX{w w':World}{b o:Nat}{s:qD}{vd:Value}(h:zAs w b o s vd)(t:Below w.heap.size w w'):zAs w' b o s vd:=
 h.zRf (zF.zRa (S:=fun _=>False) t) (fun h=>h)
theorem zAs.set{w:World}{b o:Nat}{s:qD}{vd:Value}(h:zAs w b o s vd)(u:Value):zAs (w.setCell ⟨b,o+5,none⟩ u) b o s u:=by
 obtain⟨h0,h1,h2,h3,h4,h5⟩:=h;exact⟨h0.zRY _ (Or.inr (by omega)),h1.zRY _ (Or.inr (by omega)),h2.zRY _ (Or.inr (by omega)),h3.zRY _ (Or.inr (by omega)),h4.zRY _ (Or.inr (by omega)),h5.set _⟩
theorem zAs.zRY{w:World}{b o o':Nat}{s:qD}{vd:Value}(h:zAs w b o s vd)(u:Value)(aA:∀r,r<6->o'≠o+r):zAs (w.setCell ⟨b,o',none⟩ u) b o s vd:=by
 obtain⟨h0,h1,h2,h3,h4,h5⟩:=h;exact⟨h0.zRY _ (Or.inr (aA 0 (by omega))),h1.zRY _ (Or.inr (aA 1 (by omega))),h2.zRY _ (Or.inr (aA 2 (by omega))),h3.zRY _ (Or.inr (aA 3 (by omega))),h4.zRY _ (Or.inr (aA 4 (by omega))),h5.zRY _ (Or.inr (aA 5 (by omega)))⟩
structure yD (wr:World) (bs L n k:Nat) (f:Nat->qD) (kb:Nat->Nat) (kv cv:Nat->Value):Prop where
 zRq:∀j,j<n->zAs wr bs (j*6) (f j) (if j<k then kv j else cv j)
 zRl:∀j,j<k->zm wr (kb j) (kv j) (f j).dn (f j).ds (f j).db
 zRm:∀j,j<k->0<(f j).dn->L<=kb j/\kb j<wr.heap.size
 zRk:zBN kb k f
 lt:0<n->bs<L
theorem yD.zRX{wr w':World}{bs L n k:Nat}{f:Nat->qD}{kb:Nat->Nat}{kv cv:Nat->Value}(h:yD wr bs L n k f kb kv cv)(t:Below wr.heap.size wr w'):yD w' bs L n k f kb kv cv:=
 ⟨fun j hj=>(h.zRq j hj).zRX t,fun j hj=>(h.zRl j hj).zRX t,fun j hj h0=>by have:=h.zRm j hj h0;have:=t.size;omega,h.zRk,h.lt⟩
theorem yD.zRf{S:Nat->Prop}{wr w':World}{bs L n k:Nat}{f:Nat->qD}{kb:Nat->Nat}{kv cv:Nat->Value}(h:yD wr bs L n k f kb kv cv)(t:zF S wr w')(hs:∀q,S q->(0<n->q≠bs)/\q<L)(hk:k<=n):yD w' bs L n k f kb kv cv:=
 ⟨fun j hj=>(h.zRq j hj).zRf t (fun e=>(hs _ e).1 (by omega) rfl),fun j hj=>(h.zRl j hj).zRf t (fun h0 e=>by have:=h.zRm j hj h0;have:=(hs _ e).2;omega),fun j hj h0=>by have:=h.zRm j hj h0;have:=t.size;omega,h.zRk,h.lt⟩
theorem yD.next{wr w1:World}{bs L n k b:Nat}{f:Nat->qD}{kb:Nat->Nat}{kv cv:Nat->Value}{v:Value}(h:yD wr bs L n k f kb kv cv)(hk:k<n)(hL:L<=wr.heap.size)(t:Below wr.heap.size wr w1)
  (hp:zm w1 b v (f k).dn (f k).ds (f k).db) (hb:0<(f k).dn->wr.heap.size<=b/\b<w1.heap.size) :
  yD (w1.setCell ⟨bs,k*6+5,none⟩ v) bs L n (k+1) f (fun j=>if j=k then b else kb j) (fun j=>if j=k then v else kv j) cv:=by
 have h':=h.zRX t;have bA:=h.lt (by omega);refine⟨fun j hj=>?_,fun j hj=>?_,fun j hj h0=>?_,fun i j hi hj aA h1 h2=>?_,h.lt⟩
 ·have hh:=h'.zRq j hj;by_cases e:j=k
  ·subst e;rw[if_pos (by omega),if_pos rfl];exact hh.set v
  ·rw[if_neg e];have es:(if j<k+1 then kv j else cv j)=if j<k then kv j else cv j:=by
    by_cases e2:j<k
    ·rw[if_pos e2,if_pos (by omega)]
    ·rw[if_neg e2,if_neg (by omega)]
   rw[es];exact hh.zRY v (fun r hr=>by omega)
 ·by_cases e:j=k
  ·subst e;simp only[if_true];exact hp.zRf (zF.put _ _ _ _) (fun h0 hx=>by have:=hb h0;omega)
  ·simp only[if_neg e];exact(h'.zRl j (by omega)).zRf (zF.put _ _ _ _) (fun h0 hx=>by have:=h'.zRm j (by omega) h0;omega)
 ·simp only[World.size_setCell];by_cases e:j=k
  ·subst e;rw[if_pos rfl];have:=hb h0;omega
  ·rw[if_neg e];have:=h'.zRm j (by omega) h0;omega
 ·show(if i=k then b else kb i)≠(if j=k then b else kb j);by_cases e1:i=k
  ·by_cases e2:j=k
   ·omega
   ·rw[if_pos e1,if_neg e2];subst e1;have:=hb h1;have:=h.zRm j (by omega) h2;omega
  ·by_cases e2:j=k
   ·rw[if_neg e1,if_pos e2];subst e2;have:=hb h2;have:=h.zRm i (by omega) h1;omega
   ·rw[if_neg e1,if_neg e2];exact h.zRk i j (by omega) (by omega) aA h1 h2
theorem yD.own{wr:World}{bs L n c:Nat}{f:Nat->qD}{kb:Nat->Nat}{kv cv:Nat->Value}{a:Option Addr}(h:yD wr bs L n n f kb kv cv)(hm:n<=maxLen)(ha:0<n->a=some ⟨bs,0,none⟩)(hc:n<=c)(hs:∀i,i<n->(f i).name.size<=maxLen):yJ wr bs kb kv (.slice a n c) n f:=
 ⟨hm,a,c,rfl,hc,fun h0=>⟨0,ha h0,fun i hi=>by
  obtain⟨h0,h1,h2,h3,h4,h5⟩:=h.zRq i hi;rw[if_pos hi]at h5;rw[Nat.zero_add];exact⟨h0,h1,h2,h3,h4,h5,h.zRl i hi,hs i hi,fun hk e=>by have:=h.zRm i hi hk;have:=h.lt (by omega);omega⟩⟩⟩
theorem yD.turned0{S:Nat->Prop}{wr w':World}{bs L n:Nat}{f:Nat->qD}{kb:Nat->Nat}{kv cv:Nat->Value}(h:yD wr bs L n 0 f kb kv cv)(t:zF S wr w')(hs:∀q,S q->0<n->q≠bs):yD w' bs L n 0 f kb kv cv:=
 ⟨fun j hj=>(h.zRq j hj).zRf t (fun e=>hs _ e (by omega) rfl),fun j hj=>absurd hj (Nat.not_lt_zero _),fun j hj=>absurd hj (Nat.not_lt_zero _),h.zRk,h.lt⟩
theorem yD.weak{wr:World}{bs L L' n:Nat}{f:Nat->qD}{kb:Nat->Nat}{kv cv:Nat->Value}(h:yD wr bs L n 0 f kb kv cv)(hL:L<=L'):yD wr bs L' n 0 f kb kv cv:=
 ⟨h.zRq,h.zRl,fun j hj=>absurd hj (Nat.not_lt_zero _),h.zRk,fun h0=>Nat.lt_of_lt_of_le (h.lt h0) hL⟩
theorem yW.values{w:World}{lo hi:Nat}{a:Option Addr}{n c:Nat}{f:Nat->qD}(h:yW w lo hi (.slice a n c) n f) :
  ∃cv:Nat->Value,(∀i,i<n->zU w lo hi (cv i) (f i).dn (f i).ds (f i).db/\(f i).name.size<=maxLen)/\
   (0<n->∃b off,a=some ⟨b,off,none⟩/\∀j u,(zC8 f cv n)[j]?=some u->w.cell? ⟨b,off+j,none⟩=some u):=by
 obtain⟨_,a0,c0,h0,_,g⟩:=h;simp only[Value.slice.injEq,true_and]at h0;obtain⟨rfl,rfl⟩:=h0;by_cases hn:0<n
 ·obtain⟨b,off,ha,cA,eA,hc⟩:=g hn;have bA:∀i,∃x,i<n->zBe w b (off+i*6) lo hi x (f i):=fun i=>by
   by_cases hi:i<n
   ·obtain⟨vd,hs⟩:=hc i hi;exact⟨vd,fun _=>hs⟩
   ·exact⟨.slice none 0 0,fun h=>absurd h hi⟩
  obtain⟨cv,aA⟩:=Classical.axiomOfChoice bA;refine⟨cv,fun i hi=>⟨(aA i hi).zRl,(aA i hi).zRn⟩,fun _=>⟨b,off,ha,fun j u hj=>?_⟩⟩;have dA:j<n*6:=by
   have:=(List.getElem?_eq_some_iff.1 hj).1
   rwa [zDb]at this
  have hs:=aA (j / 6) (by omega);have e:=zCy f cv n (i:=j / 6) (r:=j % 6) (by omega) (by omega);rw[show j / 6*6+j % 6=j by omega,hj]at e;have hr:j % 6<6:=(by omega);have ho:off+j=off+j / 6*6+j % 6:=(by omega);rw[ho];generalize j % 6=r at hr e ⊢;generalize j / 6=q at hs e ⊢;rcases r with _ | _ | _ | _ | _ | _ | r
  ·cases e;exact hs.c0
  ·cases e;exact hs.c1
  ·cases e;exact hs.c2
  ·cases e;exact hs.c3
  ·cases e;exact hs.c4
  ·cases e;exact hs.c5
  ·omega
 ·exact⟨fun _=>.slice none 0 0,fun i hi=>absurd hi (by omega),fun h=>absurd h hn⟩
theorem zB4{w1:World}{base n:Nat}{v:Value}{f:Nat->qD}{cv:Nat->Value}(bA:w1.ownsRow base 67 6 v n (zC8 f cv n))(L:Nat)(hL:w1.heap.size<=L):∃bs a c,v = .slice a n c/\n<=c/\(0<n->a=some ⟨bs,0,none⟩/\base<=bs/\bs<w1.heap.size)/\yD w1 bs L n 0 f (fun _=>0) cv cv:=by
 obtain⟨a1,c1,rfl,cA⟩:=zY bA;by_cases h0:0<n
 ·obtain⟨g,fA,hv,_,eA,dA,aA⟩:=qZ bA h0;simp only[Value.slice.injEq,true_and]at hv;obtain⟨rfl,rfl⟩:=hv;refine⟨g,_,_,rfl,cA,fun _=>⟨rfl,eA,dA⟩,fun j hj=>?_,fun j hj=>absurd hj (Nat.not_lt_zero _),fun j hj=>absurd hj (Nat.not_lt_zero _),fun i j hi=>absurd hi (Nat.not_lt_zero _),fun _=>by omega⟩;rw[if_neg (Nat.not_lt_zero _)];exact⟨aA _ _ (zCy f cv n hj (r:=0) (by omega)),aA _ _ (zCy f cv n hj (r:=1) (by omega)),aA _ _ (zCy f cv n hj (r:=2) (by omega)),aA _ _ (zCy f cv n hj (r:=3) (by omega)),aA _ _ (zCy f cv n hj (r:=4) (by omega)),aA _ _ (zCy f cv n hj (r:=5) (by omega))⟩
 ·exact⟨0,_,_,rfl,cA,fun h=>absurd h h0,fun j hj=>absurd hj (by omega),fun j hj=>absurd hj (Nat.not_lt_zero _),fun j hj=>absurd hj (Nat.not_lt_zero _),fun i j hi=>absurd hi (Nat.not_lt_zero _),fun h=>absurd h h0⟩
def zLB(f:Nat->zl)(cv:Nat->Value)(i r:Nat):Value:=
 match r with
 | 0=>.int .i64 (f i).id
 | 1=>.string (f i).name
 | 2=>.string (f i).set
 | 3=>.int .i64 (f i).zRh
 | 4=>.int .i64 (f i).time
 | 5=>.int .i64 (f i).rs
 | 6=>.int .i64 (f i).rb
 | _=>cv i
def zBC(f:Nat->zl)(cv:Nat->Value)(n:Nat):List Value:=(List.range (n*8)).map fun j=>zLB f cv (j / 8) (j % 8)
theorem zBl(f:Nat->zl)(cv:Nat->Value)(n:Nat):(zBC f cv n).length=n*8:=by simp[zBC]
theorem zAw(f:Nat->zl)(cv:Nat->Value)(n:Nat){i r:Nat}(hi:i<n)(hr:r<8):(zBC f cv n)[i*8+r]?=some (zLB f cv i r):=by
 have h:i*8+r<n*8:=by omega
 have h1:(i*8+r) / 8=i:=by omega
 have h2:(i*8+r) % 8=r:=by omega
 simp[zBC,h,h1,h2]
theorem zCm(f:Nat->zl)(cv:Nat->Value)(n:Nat)(h:∀i,i<n->(cv i).oneCell'=true):∀u∈zBC f cv n,u.oneCell'=true:=by
 intro u hu;unfold zBC at hu;obtain⟨j,hj,rfl⟩:=List.mem_map.1 hu;have aA:=List.mem_range.1 hj;have hi:j / 8<n:=by omega
 have hr:j % 8<8:=by omega
 generalize j % 8=r at hr ⊢;rcases r with _ | _ | _ | _ | _ | _ | _ | _<;>first | rfl | exact h _ hi
def zAP(w:World)(b o:Nat)(s:zl)(vd:Value):Prop:=zW w b o (.int .i64 s.id)/\zW w b (o+1) (.string s.name)/\zW w b (o+2) (.string s.set)/\zW w b (o+3) (.int .i64 s.zRh)/\zW w b (o+4) (.int .i64 s.time)/\zW w b (o+5) (.int .i64 s.rs)/\zW w b (o+6) (.int .i64 s.rb)/\zW w b (o+7) vd
theorem zAP.zRf{S:Nat->Prop}{w w':World}{b o:Nat}{s:zl}{vd:Value}(h:zAP w b o s vd)(t:zF S w w')(hs:¬S b):zAP w' b o s vd:=by
 obtain⟨h0,h1,h2,h3,h4,h5,h6,h7⟩:=h;exact⟨h0.zRf t hs,h1.zRf t hs,h2.zRf t hs,h3.zRf t hs,h4.zRf t hs,h5.zRf t hs,h6.zRf t hs,h7.zRf t hs⟩
theorem zAP.zRX{w w':World}{b o:Nat}{s:zl}{vd:Value}(h:zAP w b o s vd)(t:Below w.heap.size w w'):zAP w' b o s vd:=
 h.zRf (zF.zRa (S:=fun _=>False) t) (fun h=>h)
theorem zAP.set{w:World}{b o:Nat}{s:zl}{vd:Value}(h:zAP w b o s vd)(u:Value):zAP (w.setCell ⟨b,o+7,none⟩ u) b o s u:=by
 obtain⟨h0,h1,h2,h3,h4,h5,h6,h7⟩:=h;exact⟨h0.zRY _ (Or.inr (by omega)),h1.zRY _ (Or.inr (by omega)),h2.zRY _ (Or.inr (by omega)),h3.zRY _ (Or.inr (by omega)),h4.zRY _ (Or.inr (by omega)),h5.zRY _ (Or.inr (by omega)),h6.zRY _ (Or.inr (by omega)),h7.set _⟩
theorem zAP.zRY{w:World}{b o o':Nat}{s:zl}{vd:Value}(h:zAP w b o s vd)(u:Value)(aA:∀r,r<8->o'≠o+r):zAP (w.setCell ⟨b,o',none⟩ u) b o s vd:=by
 obtain⟨h0,h1,h2,h3,h4,h5,h6,h7⟩:=h;exact⟨h0.zRY _ (Or.inr (aA 0 (by omega))),h1.zRY _ (Or.inr (aA 1 (by omega))),h2.zRY _ (Or.inr (aA 2 (by omega))),h3.zRY _ (Or.inr (aA 3 (by omega))),h4.zRY _ (Or.inr (aA 4 (by omega))),h5.zRY _ (Or.inr (aA 5 (by omega))),h6.zRY _ (Or.inr (aA 6 (by omega))),h7.zRY _ (Or.inr (aA 7 (by omega)))⟩
structure qb (wr:World) (bs L n k:Nat) (f:Nat->zl) (kb:Nat->Nat) (kv cv:Nat->Value):Prop where
 zRq:∀j,j<n->zAP wr bs (j*8) (f j) (if j<k then kv j else cv j)
 zRl:∀j,j<k->zm wr (kb j) (kv j) (f j).dn (f j).ds (f j).db
 zRm:∀j,j<k->0<(f j).dn->L<=kb j/\kb j<wr.heap.size
 zRk:zA7 kb k f
 lt:0<n->bs<L
theorem qb.zRX{wr w':World}{bs L n k:Nat}{f:Nat->zl}{kb:Nat->Nat}{kv cv:Nat->Value}(h:qb wr bs L n k f kb kv cv)(t:Below wr.heap.size wr w'):qb w' bs L n k f kb kv cv:=
 ⟨fun j hj=>(h.zRq j hj).zRX t,fun j hj=>(h.zRl j hj).zRX t,fun j hj h0=>by have:=h.zRm j hj h0;have:=t.size;omega,h.zRk,h.lt⟩
theorem qb.zRf{S:Nat->Prop}{wr w':World}{bs L n k:Nat}{f:Nat->zl}{kb:Nat->Nat}{kv cv:Nat->Value}(h:qb wr bs L n k f kb kv cv)(t:zF S wr w')(hs:∀q,S q->(0<n->q≠bs)/\q<L)(hk:k<=n):qb w' bs L n k f kb kv cv:=
 ⟨fun j hj=>(h.zRq j hj).zRf t (fun e=>(hs _ e).1 (by omega) rfl),fun j hj=>(h.zRl j hj).zRf t (fun h0 e=>by have:=h.zRm j hj h0;have:=(hs _ e).2;omega),fun j hj h0=>by have:=h.zRm j hj h0;have:=t.size;omega,h.zRk,h.lt⟩
theorem qb.next{wr w1:World}{bs L n k b:Nat}{f:Nat->zl}{kb:Nat->Nat}{kv cv:Nat->Value}{v:Value}(h:qb wr bs L n k f kb kv cv)(hk:k<n)(hL:L<=wr.heap.size)(t:Below wr.heap.size wr w1)
  (hp:zm w1 b v (f k).dn (f k).ds (f k).db) (hb:0<(f k).dn->wr.heap.size<=b/\b<w1.heap.size) :
  qb (w1.setCell ⟨bs,k*8+7,none⟩ v) bs L n (k+1) f (fun j=>if j=k then b else kb j) (fun j=>if j=k then v else kv j) cv:=by
 have h':=h.zRX t;have bA:=h.lt (by omega);refine⟨fun j hj=>?_,fun j hj=>?_,fun j hj h0=>?_,fun i j hi hj aA h1 h2=>?_,h.lt⟩
 ·have hh:=h'.zRq j hj;by_cases e:j=k
  ·subst e;rw[if_pos (by omega),if_pos rfl];exact hh.set v
  ·rw[if_neg e];have es:(if j<k+1 then kv j else cv j)=if j<k then kv j else cv j:=by
    by_cases e2:j<k
    ·rw[if_pos e2,if_pos (by omega)]
    ·rw[if_neg e2,if_neg (by omega)]
   rw[es];exact hh.zRY v (fun r hr=>by omega)
 ·by_cases e:j=k
  ·subst e;simp only[if_true];exact hp.zRf (zF.put _ _ _ _) (fun h0 hx=>by have:=hb h0;omega)
  ·simp only[if_neg e];exact(h'.zRl j (by omega)).zRf (zF.put _ _ _ _) (fun h0 hx=>by have:=h'.zRm j (by omega) h0;omega)
 ·simp only[World.size_setCell];by_cases e:j=k
  ·subst e;rw[if_pos rfl];have:=hb h0;omega
  ·rw[if_neg e];have:=h'.zRm j (by omega) h0;omega
 ·show(if i=k then b else kb i)≠(if j=k then b else kb j);by_cases e1:i=k
  ·by_cases e2:j=k
   ·omega
   ·rw[if_pos e1,if_neg e2];subst e1;have:=hb h1;have:=h.zRm j (by omega) h2;omega
  ·by_cases e2:j=k
   ·rw[if_neg e1,if_pos e2];subst e2;have:=hb h2;have:=h.zRm i (by omega) h1;omega
   ·rw[if_neg e1,if_neg e2];exact h.zRk i j (by omega) (by omega) aA h1 h2
theorem qb.own{wr:World}{bs L n c:Nat}{f:Nat->zl}{kb:Nat->Nat}{kv cv:Nat->Value}{a:Option Addr}(h:qb wr bs L n n f kb kv cv)(hm:n<=maxLen)(ha:0<n->a=some ⟨bs,0,none⟩)(hc:n<=c)(hs:∀i,i<n->((f i).name.size<=maxLen/\(f i).set.size<=maxLen)):yS wr bs kb kv (.slice a n c) n f:=
 ⟨hm,a,c,rfl,hc,fun h0=>⟨0,ha h0,fun i hi=>by
  obtain⟨h0,h1,h2,h3,h4,h5,h6,h7⟩:=h.zRq i hi;rw[if_pos hi]at h7;rw[Nat.zero_add];exact⟨h0,h1,h2,h3,h4,h5,h6,h7,h.zRl i hi,hs i hi,fun hk e=>by have:=h.zRm i hi hk;have:=h.lt (by omega);omega⟩⟩⟩
theorem qb.turned0{S:Nat->Prop}{wr w':World}{bs L n:Nat}{f:Nat->zl}{kb:Nat->Nat}{kv cv:Nat->Value}(h:qb wr bs L n 0 f kb kv cv)(t:zF S wr w')(hs:∀q,S q->0<n->q≠bs):qb w' bs L n 0 f kb kv cv:=
 ⟨fun j hj=>(h.zRq j hj).zRf t (fun e=>hs _ e (by omega) rfl),fun j hj=>absurd hj (Nat.not_lt_zero _),fun j hj=>absurd hj (Nat.not_lt_zero _),h.zRk,h.lt⟩
theorem qb.weak{wr:World}{bs L L' n:Nat}{f:Nat->zl}{kb:Nat->Nat}{kv cv:Nat->Value}(h:qb wr bs L n 0 f kb kv cv)(hL:L<=L'):qb wr bs L' n 0 f kb kv cv:=
 ⟨h.zRq,h.zRl,fun j hj=>absurd hj (Nat.not_lt_zero _),h.zRk,fun h0=>Nat.lt_of_lt_of_le (h.lt h0) hL⟩
theorem qw.values{w:World}{lo hi:Nat}{a:Option Addr}{n c:Nat}{f:Nat->zl}(h:qw w lo hi (.slice a n c) n f) :
  ∃cv:Nat->Value,(∀i,i<n->zU w lo hi (cv i) (f i).dn (f i).ds (f i).db/\((f i).name.size<=maxLen/\(f i).set.size<=maxLen))/\
   (0<n->∃b off,a=some ⟨b,off,none⟩/\∀j u,(zBC f cv n)[j]?=some u->w.cell? ⟨b,off+j,none⟩=some u):=by
 obtain⟨_,a0,c0,h0,_,g⟩:=h;simp only[Value.slice.injEq,true_and]at h0;obtain⟨rfl,rfl⟩:=h0;by_cases hn:0<n
 ·obtain⟨b,off,ha,cA,eA,hc⟩:=g hn;have bA:∀i,∃x,i<n->zAo w b (off+i*8) lo hi x (f i):=fun i=>by
   by_cases hi:i<n
   ·obtain⟨vd,hs⟩:=hc i hi;exact⟨vd,fun _=>hs⟩
   ·exact⟨.slice none 0 0,fun h=>absurd h hi⟩
  obtain⟨cv,aA⟩:=Classical.axiomOfChoice bA;refine⟨cv,fun i hi=>⟨(aA i hi).zRl,(aA i hi).zRn⟩,fun _=>⟨b,off,ha,fun j u hj=>?_⟩⟩;have dA:j<n*8:=by
   have:=(List.getElem?_eq_some_iff.1 hj).1
   rwa [zBl]at this
  have hs:=aA (j / 8) (by omega);have e:=zAw f cv n (i:=j / 8) (r:=j % 8) (by omega) (by omega);rw[show j / 8*8+j % 8=j by omega,hj]at e;have hr:j % 8<8:=(by omega);have ho:off+j=off+j / 8*8+j % 8:=(by omega);rw[ho];generalize j % 8=r at hr e ⊢;generalize j / 8=q at hs e ⊢;rcases r with _ | _ | _ | _ | _ | _ | _ | _ | r
  ·cases e;exact hs.c0
  ·cases e;exact hs.c1
  ·cases e;exact hs.c2
  ·cases e;exact hs.c3
  ·cases e;exact hs.c4
  ·cases e;exact hs.c5
  ·cases e;exact hs.c6
  ·cases e;exact hs.c7
  ·omega
 ·exact⟨fun _=>.slice none 0 0,fun i hi=>absurd hi (by omega),fun h=>absurd h hn⟩
theorem zAh{w1:World}{base n:Nat}{v:Value}{f:Nat->zl}{cv:Nat->Value}(bA:w1.ownsRow base 99 8 v n (zBC f cv n))(L:Nat)(hL:w1.heap.size<=L):∃bs a c,v = .slice a n c/\n<=c/\(0<n->a=some ⟨bs,0,none⟩/\base<=bs/\bs<w1.heap.size)/\qb w1 bs L n 0 f (fun _=>0) cv cv:=by
 obtain⟨a1,c1,rfl,cA⟩:=zY bA;by_cases h0:0<n
 ·obtain⟨g,fA,hv,_,eA,dA,aA⟩:=qZ bA h0;simp only[Value.slice.injEq,true_and]at hv;obtain⟨rfl,rfl⟩:=hv;refine⟨g,_,_,rfl,cA,fun _=>⟨rfl,eA,dA⟩,fun j hj=>?_,fun j hj=>absurd hj (Nat.not_lt_zero _),fun j hj=>absurd hj (Nat.not_lt_zero _),fun i j hi=>absurd hi (Nat.not_lt_zero _),fun _=>by omega⟩;rw[if_neg (Nat.not_lt_zero _)];exact⟨aA _ _ (zAw f cv n hj (r:=0) (by omega)),aA _ _ (zAw f cv n hj (r:=1) (by omega)),aA _ _ (zAw f cv n hj (r:=2) (by omega)),aA _ _ (zAw f cv n hj (r:=3) (by omega)),aA _ _ (zAw f cv n hj (r:=4) (by omega)),aA _ _ (zAw f cv n hj (r:=5) (by omega)),aA _ _ (zAw f cv n hj (r:=6) (by omega)),aA _ _ (zAw f cv n hj (r:=7) (by omega))⟩
 ·exact⟨0,_,_,rfl,cA,fun h=>absurd h h0,fun j hj=>absurd hj (by omega),fun j hj=>absurd hj (Nat.not_lt_zero _),fun j hj=>absurd hj (Nat.not_lt_zero _),fun i j hi=>absurd hi (Nat.not_lt_zero _),fun h=>absurd h h0⟩
def zDj(W:zH):Prop:=(∀i,i<W.sn->(W.zRg i).dn<=1048576)/\∀i,i<W.pn->(W.zRe i).dn<=1048576
theorem zP7{w:World}{b off n:Nat}{f:Nat->zL}{cv:Nat->Value}(h:∀i,i<n->w.cell? ⟨b,off+i*3,none⟩=some (.int .i64 (f i).zRi)/\w.cell? ⟨b,off+i*3+1,none⟩=some (cv i)/\w.cell? ⟨b,off+i*3+2,none⟩=some (.string (f i).data)) :
  ∀j u,(sc f cv n)[j]?=some u->w.cell? ⟨b,off+j,none⟩=some u:=by
 intro j u hj;have aA:j<n*3:=by
  have:=(List.getElem?_eq_some_iff.1 hj).1
  rwa [zDr]at this
 obtain⟨c0,c1,c2⟩:=h (j / 3) (by omega);have e:=zEX f cv n (j / 3) (j % 3) (by omega) (by omega);rw[show j / 3*3+j % 3=j by omega,hj]at e;rcases(by omega:j % 3=0\/j % 3=1\/j % 3=2)with hm | hm | hm
 ·rw[hm]at e;simp at e;subst e;rw[show off+j=off+j / 3*3 by omega];exact c0
 ·rw[hm]at e;simp at e;subst e;rw[show off+j=off+j / 3*3+1 by omega];exact c1
 ·rw[hm]at e;simp at e;subst e;rw[show off+j=off+j / 3*3+2 by omega];exact c2
theorem qA.values{w:World}{lo hi:Nat}{a:Option Addr}{n c:Nat}{f:Nat->zL}(h:qA w lo hi (.slice a n c) n f) :
  ∃cv:Nat->Value,(∀i,i<n->qH w lo hi (.int .i64 (f i).zRi) (cv i) (.string (f i).data) (f i))/\
   (0<n->∃b off,a=some ⟨b,off,none⟩/\lo<=b/\b<hi/\∀j u,(sc f cv n)[j]?=some u->w.cell? ⟨b,off+j,none⟩=some u):=by
 obtain⟨_,a0,c0,h0,_,g⟩:=h;simp only[Value.slice.injEq,true_and]at h0;obtain⟨rfl,rfl⟩:=h0;by_cases hn:0<n
 ·obtain⟨b,off,ha,bA,eA,hc⟩:=g hn;have dA:∀i,∃x,i<n->(w.cell? ⟨b,off+i*3,none⟩=some (.int .i64 (f i).zRi)/\w.cell? ⟨b,off+i*3+1,none⟩=some x/\w.cell? ⟨b,off+i*3+2,none⟩=some (.string (f i).data))/\qH w lo hi (.int .i64 (f i).zRi) x (.string (f i).data) (f i):=fun i=>by
   by_cases hi:i<n
   ·obtain⟨v0,v1,v2,q0,q1,q2,hs⟩:=hc i hi;have cA:=hs;obtain⟨rfl,_,rfl,_⟩:=cA;exact⟨v1,fun _=>⟨⟨q0,q1,q2⟩,hs⟩⟩
   ·exact⟨.slice none 0 0,fun h=>absurd h hi⟩
  obtain⟨cv,aA⟩:=Classical.axiomOfChoice dA;exact⟨cv,fun i hi=>(aA i hi).2,fun _=>⟨b,off,ha,bA,eA,zP7 fun i hi=>(aA i hi).1⟩⟩
 ·exact⟨fun _=>.slice none 0 0,fun i hi=>absurd hi (by omega),fun h=>absurd h hn⟩
theorem qH.form{w:World}{lo hi:Nat}{v0 v1 v2:Value}{s:zL}(h:qH w lo hi v0 v1 v2 s):∃ka kc,v1 = .slice ka s.kn kc:=by
 obtain⟨_,⟨_,ka,kc,h,_⟩,_⟩:=h;exact⟨ka,kc,h⟩
structure zI8 (wr:World) (bs n k:Nat) (f:Nat->zL) (kb:Nat->Nat) (kv cv:Nat->Value):Prop where
 cells:∀j,j<n->zW wr bs (j*3) (.int .i64 (f j).zRi)/\zW wr bs (j*3+1) (if j<k then kv j else cv j)/\zW wr bs (j*3+2) (.string (f j).data)
 kids:∀j,j<k->zm wr (kb j) (kv j) (f j).kn (f j).ks (f j).kb
 zRm:∀j,j<k->0<(f j).kn->bs<kb j/\kb j<wr.heap.size
 zRk:yP kb k f
theorem zI8.zRX{wr w':World}{bs n k:Nat}{f:Nat->zL}{kb:Nat->Nat}{kv cv:Nat->Value}(h:zI8 wr bs n k f kb kv cv)(t:Below wr.heap.size wr w'):zI8 w' bs n k f kb kv cv:=
 ⟨fun j hj=>⟨(h.cells j hj).1.zRX t,(h.cells j hj).2.1.zRX t,(h.cells j hj).2.2.zRX t⟩,fun j hj=>(h.kids j hj).zRX t,fun j hj h0=>by have:=h.zRm j hj h0;have:=t.size;omega,h.zRk⟩
theorem zI8.next{wr w1:World}{bs n k b:Nat}{f:Nat->zL}{kb:Nat->Nat}{kv cv:Nat->Value}{v:Value}(h:zI8 wr bs n k f kb kv cv)(hk:k<n)(bA:bs<wr.heap.size)(t:Below wr.heap.size wr w1)
  (hp:zm w1 b v (f k).kn (f k).ks (f k).kb) (hb:0<(f k).kn->wr.heap.size<=b/\b<w1.heap.size) :
  zI8 (((w1.setCell ⟨bs,k*3,none⟩ (.int .i64 (f k).zRi)).setCell ⟨bs,k*3+1,none⟩ v).setCell ⟨bs,k*3+2,none⟩ (.string (f k).data)) bs n (k+1) f (fun j=>if j=k then b else kb j) (fun j=>if j=k then v else kv j) cv:=by
 have h':=h.zRX t;refine⟨fun j hj=>?_,fun j hj=>?_,fun j hj h0=>?_,fun i j hi hj aA h1 h2=>?_⟩
 ·obtain⟨c0,c1,c2⟩:=h'.cells j hj;by_cases e:j=k
  ·subst e;rw[if_pos (by omega),if_pos rfl];exact⟨((c0.set _).zRY _ (Or.inr (by omega))).zRY _ (Or.inr (by omega)),((c1.zRY _ (Or.inr (by omega))).set _).zRY _ (Or.inr (by omega)),((c2.zRY _ (Or.inr (by omega))).zRY _ (Or.inr (by omega))).set _⟩
  ·rw[if_neg e];have es:(if j<k+1 then kv j else cv j)=if j<k then kv j else cv j:=by
    by_cases e2:j<k
    ·rw[if_pos e2,if_pos (by omega)]
    ·rw[if_neg e2,if_neg (by omega)]
   rw[es];exact⟨((c0.zRY _ (Or.inr (by omega))).zRY _ (Or.inr (by omega))).zRY _ (Or.inr (by omega)),((c1.zRY _ (Or.inr (by omega))).zRY _ (Or.inr (by omega))).zRY _ (Or.inr (by omega)),((c2.zRY _ (Or.inr (by omega))).zRY _ (Or.inr (by omega))).zRY _ (Or.inr (by omega))⟩
 ·by_cases e:j=k
  ·subst e;simp only[if_true];refine((hp.zRf (zF.put _ _ _ _) ?_).zRf (zF.put _ _ _ _) ?_).zRf (zF.put _ _ _ _) ?_
   all_goals exact fun h0 hx=>by have:=hb h0;omega
  ·simp only[if_neg e];refine(((h'.kids j (by omega)).zRf (zF.put _ _ _ _) ?_).zRf (zF.put _ _ _ _) ?_).zRf (zF.put _ _ _ _) ?_
   all_goals exact fun h0 hx=>by have:=h'.zRm j (by omega) h0;omega
 ·simp only[World.size_setCell];by_cases e:j=k
  ·subst e;rw[if_pos rfl];have:=hb h0;omega
  ·rw[if_neg e];have:=h'.zRm j (by omega) h0;omega
 ·show(if i=k then b else kb i)≠(if j=k then b else kb j);by_cases e1:i=k
  ·by_cases e2:j=k
   ·omega
   ·rw[if_pos e1,if_neg e2];subst e1;have:=hb h1;have:=h.zRm j (by omega) h2;omega
  ·by_cases e2:j=k
   ·rw[if_neg e1,if_pos e2];subst e2;have:=hb h2;have:=h.zRm i (by omega) h1;omega
   ·rw[if_neg e1,if_neg e2];exact h.zRk i j (by omega) (by omega) aA h1 h2
theorem zI8.own{wr:World}{bs n:Nat}{f:Nat->zL}{kb:Nat->Nat}{kv cv:Nat->Value}{a:Option Addr}{c:Nat}(h:zI8 wr bs n n f kb kv cv)(hm:n<=maxLen)(ha:0<n->a=some ⟨bs,0,none⟩)(hc:n<=c)(hs:∀j,j<n->(f j).data.size<=maxLen):qU wr bs kb kv (.slice a n c) n f:=
 ⟨hm,a,c,rfl,hc,fun h0=>⟨0,ha h0,fun i hi=>by
  obtain⟨c0,c1,c2⟩:=h.cells i hi;rw[if_pos hi]at c1;rw[Nat.zero_add];exact⟨c0,c1,c2,h.kids i hi,hs i hi,fun hk e=>by have:=h.zRm i hi hk;omega⟩⟩⟩
theorem zEa(v:Value)(n lo hi:Nat)(f:Nat->zL)(w:World)(h1:qA w lo hi v n f)(hn:n<=1048576)(hk:∀j,j<n->(f j).kn<=1048576) :
  Calls Tryz.prog 193 #[v] w fun e w'=>∃v' bs kb kv,e = .returned v'/\qU w' bs kb kv v' n f/\yP kb n f/\(∀k,yi bs kb n f k->w.heap.size<=k/\k<w'.heap.size)/\Below w.heap.size w w':=by
 have Hm:=zT h1.1;have q1:=h1;obtain⟨_,a,c,rfl,_,_⟩:=h1;obtain⟨cv,bA,kA⟩:=q1.values;have rA:=zT bA;have Hk:=zT hk;have cA:0<n->∃b off,a=some ⟨b,off,none⟩/\∀j u,(sc f cv n)[j]?=some u->w.cell? ⟨b,off+j,none⟩=some u:=fun h0=>by
  obtain⟨b,off,h2,_,_,h3⟩:=kA h0;exact⟨b,off,h2,h3⟩
 have mA:=zPf f cv n (fun i hi=>by obtain⟨ka,kc,e⟩:=(bA i hi).form;rw[e];rfl);clear bA hk q1 kA;go_enter Tryz.func193,Tryz.ntmps193;go_wp2_with fail;refine(zHj a n c (sc f cv n) w (zDr _ _ _) mA hn cA).mono ?_;rintro e w1 ⟨v',rfl,eA,dB,_⟩;obtain⟨a1,c1,rfl,bB⟩:=zY eA;clear mA cA;have oA:∃bs,(0<n->a1=some ⟨bs,0,none⟩/\w.heap.size<=bs/\bs<w1.heap.size)/\zI8 w1 bs n 0 f (fun _=>0) cv cv:=by
  by_cases h0:0<n
  ·obtain⟨g,gB,hv,_,jA,tA,aA⟩:=qZ eA h0;simp only[Value.slice.injEq,true_and]at hv;obtain⟨rfl,rfl⟩:=hv;refine⟨g,fun _=>⟨rfl,jA,tA⟩,fun j hj=>⟨?_,?_,?_⟩,fun j hj=>absurd hj (Nat.not_lt_zero _),fun j hj=>absurd hj (Nat.not_lt_zero _),fun i j hi=>absurd hi (Nat.not_lt_zero _)⟩
   ·have:=aA (j*3+0) _ (zEX f cv n j 0 hj (by omega));simpa using this
   ·have:=aA (j*3+1) _ (zEX f cv n j 1 hj (by omega));simpa using this
   ·have:=aA (j*3+2) _ (zEX f cv n j 2 hj (by omega));simpa using this
  ·exact⟨0,fun h=>absurd h h0,fun j hj=>absurd hj (by omega),fun j hj=>absurd hj (Nat.not_lt_zero _),fun j hj=>absurd hj (Nat.not_lt_zero _),fun i j hi=>absurd hi (Nat.not_lt_zero _)⟩
 obtain⟨bs,oA,dA⟩:=oA;have nA:=zT oA;have lA:=zT dA;clear eA oA dA;go_wp2
 go_loopw [4,5,10] (fun _ _ i wr=>∃(k:Nat) (kb:Nat->Nat) (kv:Nat->Value),k<=n/\i = .int .i64 k/\zI8 wr bs n k f kb kv cv/\Below w.heap.size w wr/\w1.heap.size<=wr.heap.size) (fun _ _ i _=>n - (intOf i).toNat)
 case atStart=>exact⟨0,_,_,Nat.zero_le _,rfl,lA.out,dB,Nat.le_refl _⟩
 case round=>
  obtain⟨k,kb,kv,hk,rfl,hh,hb,hz⟩:=hrel;have Hh:=zT hh;clear hh;by_cases fA:k<n
  ·have cB:(k:Int)<(n:Int):=(by omega);obtain⟨rfl,jA,tA⟩:=nA.out (by omega);obtain⟨ka,kc,bA⟩:=(rA.out k fA).form;have aB:Hid (qH wr lo hi (.int .i64 (f k).zRi) (.slice ka (f k).kn kc) (.string (f k).data) (f k)):=by
    have:=(rA.out k fA).zRX hb;rw[bA]at this;exact this
   obtain⟨⟨q0,r0⟩,q1,⟨q2,r2⟩⟩:=Hh.out.cells k fA;rw[if_neg (by omega),bA]at q1;obtain⟨q1,r1⟩:=q1;go_wp2_with fail;have ha:=zC wr (.cells #[.int .i64 (f k).zRi,.slice ka (f k).kn kc,.string (f k).data] 127);refine(zIr _ _ _ lo hi (f k) _ (aB.out.zRX ha) (Hk.out k fA)).mono ?_;rintro e w2 ⟨nv,nb,rfl,pA,gA,sA⟩;obtain⟨_,na,nc,rfl,_⟩:=id pA;have iA:=zA ha sA;have vA:=zT (Hh.out.next fA (by omega) iA pA (fun h0=>by have:=gA h0;rw[World.size_alloc]at this;omega));have eB:=zA hb iA;have fB:=iA.size;clear q0 q1 q2 r0 r1 r2;obtain⟨⟨q0,r0⟩,q1,⟨q2,r2⟩⟩:=(Hh.out.zRX iA).cells k fA;rw[if_neg (by omega),bA]at q1;obtain⟨q1,r1⟩:=q1;clear pA gA sA ha iA bA;go_wp2;go_roundw
   case rel=>exact⟨k+1,_,_,by omega,by go_num,vA.out,((eB.setCell jA _).setCell jA _).setCell jA _,by simp only[World.size_setCell];omega⟩
   case measure=>simp[intOf];omega
  ·obtain rfl:k=n:=(by omega);go_wp2;go_ret;refine⟨_,bs,kb,kv,rfl,Hh.out.own Hm.out (fun h0=>(nA.out h0).1) bB (fun j hj=>(rA.out j hj).2.2.2),Hh.out.zRk,fun j hj=>?_,hb⟩;rcases hj with⟨h0,rfl⟩ | ⟨i,hi,h0,rfl⟩
   ·have:=nA.out h0;omega
   ·have:=nA.out (by omega);have:=Hh.out.zRm i hi h0;omega
theorem zB3(v0 v1:Value)(lo hi:Nat)(p:zI)(w:World)(h1:zu w lo hi v0 v1 p)(hn:qC p<=1048576):Calls Tryz.prog 168 #[.agg #[v0,v1]] w (zHZ p w):=by
 have Hp:=zT h1;obtain⟨⟨m1,a,c,rfl,mc,g1⟩,⟨m2,a',c',rfl,gB,g2⟩⟩:=h1;have Hm:=zT (And.intro m1 m2);clear g1 g2 m1 m2;unfold qC at hn;have Hn:Hid (∀j,j<p.n->(p.s j).kn<=1048576):=fun j hj=>by have h2:=zFx p.s hj;unfold zAN at h2;omega
 have bB:p.n<=1048576:=by omega
 have cB:p.hn<=1048576:=by omega
 clear hn;have oA:=zC w (.cells #[.slice a p.n c,.slice a' p.hn c'] 33);have gA:=zA oA (zC _ (.cells #[.slice none 0 0,.slice none 0 0] 33));have HB:=zT ((zc.zRZ w (.slice a p.n c) (.slice a' p.hn c') 33).zRX (zC _ (.cells #[.slice none 0 0,.slice none 0 0] 33)));have lA:=zc.zRZ (w.alloc (.cells #[.slice a p.n c,.slice a' p.hn c'] 33)) (.slice none 0 0) (.slice none 0 0) 33;rw[World.size_alloc]at lA;have HR:=zT lA;clear oA lA;go_enter Tryz.func168,Tryz.ntmps168;go_wp2_with fail;generalize hW:(w.alloc (.cells #[.slice a p.n c,.slice a' p.hn c'] 33)).alloc (.cells #[.slice none 0 0,.slice none 0 0] 33)=W at HB HR gA ⊢;have hz:W.heap.size=w.heap.size+2:=by rw[<-hW,World.size_alloc,World.size_alloc]
 clear hW;obtain⟨⟨x0,x1⟩,⟨x2,x3⟩⟩:=HB.out;obtain⟨⟨y0,y1⟩,⟨y2,y3⟩⟩:=HR.out;go_region_held3 (fun w'=>w'.cell? ⟨w.heap.size,0,none⟩=some (.slice a p.n c)/\w'.cell? ⟨w.heap.size,1,none⟩=some (.slice a' p.hn c')) (go_keep)
  (first
   | (go_at_call 193;refine(zEa _ p.n lo hi p.s _ ?_ bB Hn.out).mono ?_;(exact Hp.out.1.zRX gA.drew);rintro e w1 ⟨v',bs,kb,kv,rfl,ho,mA,nA,pA⟩;obtain⟨_,sa,kA,rfl,_⟩:=id ho;have bA:=zK pA;obtain⟨⟨z0,z1⟩,⟨z2,z3⟩⟩:=HB.out.zRX bA)
   | (go_at_call 211;refine(zIl _ _ _ (ic p.h p.hn) _ (zBu _ _) (zPG _ _) cB ?_).mono ?_;(exact zKn Hp.out.2 rfl (zA gA bA));rintro e w2 ⟨v',rfl,dA,jA,aB⟩;obtain⟨ia,iA,rfl,_⟩:=zY dA;have aA:=zA bA jA;obtain⟨⟨z4,z5⟩,⟨z6,z7⟩⟩:=HB.out.zRX aA;have sA:=zT (HR.out.zRX aA);obtain⟨⟨z8,z9⟩,⟨dB,iB⟩⟩:=HR.out.zRX aA))
 obtain⟨hb,fA,eA⟩:=zJ0 Hm.out.2 dA aB;have fB:W.heap.size<=w1.heap.size:=bA.size;have eB:w1.heap.size<=w2.heap.size:=jA.size;have cA:∀k,yi bs kb p.n p.s k->W.heap.size<=k/\k<w1.heap.size:=nA;have vA:Hid (zy w2 (w.heap.size+2) w2.heap.size (.slice sa p.n kA) (.slice ia p.hn iA) p):=by
  refine⟨bs,hb,kb,kv,ho.zRX jA,mA,fA,fun h0 hx=>?_,fun k hk=>?_⟩
  ·have:=cA _ hx;have:=eA h0;omega
  ·rcases hk with hk | ⟨h0,rfl⟩
   ·have:=cA _ hk;omega
   ·have:=eA h0;omega
 have tA:=zA gA aA;clear fA eA nA cA ho mA dA pA bA jA aA;go_wp2;have rA:=sA.out.put (.slice sa p.n kA) (.slice ia p.hn iA);refine bodyPost_ret (v:=.agg #[.slice sa p.n kA,.slice ia p.hn iA]) (by simp[results,Tryz.results168,go_sem,rA.1.1,rA.2.1]) rfl ⟨_,_,rfl,?_,?_⟩
 ·have t:=(zF.put w2 (w.heap.size+1) 0 (.slice sa p.n kA)).trans (zF.put _ (w.heap.size+1) 1 (.slice ia p.hn iA));have hz:=t.size;exact(vA.out.zRf t (fun k hk=>by omega)).zRc (by omega) hz
 ·exact(tA.setCell (by show _<=w.heap.size+1;omega) _).setCell (by show _<=w.heap.size+1;omega) _
def yg(w:World)(e:TypeId)(s:Nat)(v:Value)(n:Nat):Prop:=
 (n=0/\∃a,v = .slice a 0 0)\/(0<n/\∃g cap cur,v = .slice (some ⟨g,0,none⟩) n cap/\w.heap[g]?=some (.cells cur e (0,0))/\n<=cap/\cap<=maxLen/\cur.size=cap*s)
theorem qq{w:World}{base:Nat}{e:TypeId}{s:Nat}{v:Value}{n:Nat}{xs:List Value}(h:w.ownsRow base e s v n xs)(hz:n=0->∃a,v = .slice a 0 0):yg w e s v n:=by
 rcases Nat.eq_zero_or_pos n with h0 | h0
 ·exact Or.inl ⟨h0,hz h0⟩
 ·rcases h.2 with h | ⟨g,aA,bA,hv,_,hg,h1,h2,h3,_⟩
  ·omega
  ·exact Or.inr ⟨h0,g,aA,bA,hv,hg,h1,h2,h3⟩
theorem yg.zRX{w w':World}{e:TypeId}{s:Nat}{v:Value}{n:Nat}(h:yg w e s v n)(t:Below w.heap.size w w'):yg w' e s v n:=by
 rcases h with h | ⟨h0,g,aA,bA,hv,hg,h1⟩
 ·exact Or.inl h
 ·exact Or.inr ⟨h0,g,aA,bA,hv,(t.block g (Array.getElem?_eq_some_iff.1 hg).1).trans hg,h1⟩
theorem yg.kept{w w':World}{row:Option Nat}{e:TypeId}{s:Nat}{v:Value}{n:Nat}(h:yg w e s v n)(hg:w.grownBy w' row)(cA:0<n->v.ownBlock≠row):yg w' e s v n:=by
 rcases h with h | ⟨h0,g,aA,bA,hv,hb,h1⟩
 ·exact Or.inl h
 ·exact Or.inr ⟨h0,g,aA,bA,hv,(hg.block g (Array.getElem?_eq_some_iff.1 hb).1 (fun e=>cA h0 (by rw[hv];exact e))).trans hb,h1⟩
theorem zJE{w:World}{g:Nat}{bA:Array Value}{e:TypeId}(h:w.heap[g]?=some (.cells bA e (0,0)))(a:Addr)(u:Value):∃aA,(w.setCell a u).heap[g]?=some (.cells aA e (0,0))/\aA.size=bA.size:=by
 by_cases hg:a.block=g
 ·subst hg;unfold World.setCell;simp only[Array.getElem?_modify,h,if_true,Option.map_some];refine⟨_,rfl,?_⟩;split<;>simp
 ·refine⟨bA,?_,rfl⟩;unfold World.setCell;simp only[Array.getElem?_modify,hg,if_false,h]
theorem yg.set{w:World}{e:TypeId}{s:Nat}{v:Value}{n:Nat}(h:yg w e s v n)(a:Addr)(u:Value):yg (w.setCell a u) e s v n:=by
 rcases h with h | ⟨h0,g,cA,dA,hv,hg,h1,h2,h3⟩
 ·exact Or.inl h
 ·obtain⟨aA,bA,hs⟩:=zJE hg a u;exact Or.inr ⟨h0,g,cA,aA,hv,bA,h1,h2,by rw[hs];exact h3⟩
theorem yg.owns{w:World}{e:TypeId}{s:Nat}{v:Value}{n base:Nat}{xs:List Value}(h:yg w e s v n)(h0:0<n)(hl:xs.length=n*s)(hb:∀g,v.ownBlock=some g->base<=g)
  (hc:∀g,v.ownBlock=some g->∀j u,xs[j]?=some u->w.cell? ⟨g,j,none⟩=some u):w.ownsRow base e s v n xs:=by
 refine⟨hl,?_⟩;rcases h with h | ⟨_,g,bA,aA,hv,hg,h1,h2,h3⟩
 ·omega
 ·refine Or.inr ⟨g,bA,aA,hv,hb g (by rw[hv];rfl),hg,h1,h2,h3,?_⟩;have cA:n*s<=aA.size:=(by rw[h3];exact Nat.mul_le_mul_right s h1);refine List.ext_getElem? fun j=>?_
  rw[List.getElem?_take];by_cases hj:j<n*s
  ·rw[if_pos hj];have hx:j<xs.length:=(by omega);have h4:=hc g (by rw[hv];rfl) j xs[j] (by rw[List.getElem?_eq_getElem hx]);have h5:w.cell? ⟨g,j,none⟩=aA[j]?:=by
    simp[World.cell?,hg]
   rw[h5]at h4;rw[List.getElem?_eq_getElem hx,<-h4,Array.getElem?_toList]
  ·rw[if_neg hj,List.getElem?_eq_none (by omega)]
theorem zEA{P:Program}{w:World}(t ty e:TypeId)(i:TypeInfo)(a:Option Addr)(ad:Addr)(m c:Nat)(ht:P.underlying t=some (.slice e))(hi:P.info? e=some i)(hm:0<m)(hb:m*i.bytes<=140737488355328) :
  (Builtin.append_ #[t,t] ty #[.slice a 0 0,.slice (some ad) m c]).run P w=(Builtin.append_ #[t,t] ty #[.slice none 0 0,.slice (some ad) m c]).run P w:=by
 cases a with
 | none=>rfl
 | some a=>
  have h1:¬m=0:=(by omega);have h2:Builtin.nextslicecap m 0=m:=(by unfold Builtin.nextslicecap;simp[hm]);have h3:¬(281474976710656:Nat)<m*i.bytes:=(by omega);have h4:∀w:World,(loadCells a 0).run P w = .ok #[] w:=fun w=>by first | rfl | simp[loadCells] | simp[loadCells,loadCellsFrom]
  simp[Builtin.append_,run_underlying ht,sizeOf,typeInfo,hi,Builtin.lenOf,Builtin.firstCells,h1,h2,h3,h4]
theorem yg.append{P:Program}{w:World}(t ty e:TypeId)(i:TypeInfo)(z:Value)(s bytes base:Nat)(ht:P.underlying t=some (.slice e))(hi:P.info? e=some i)(hz:i.zero=some z)(dA:i.size=s)(gA:i.bytes=bytes)(kA:z.cells.size=s)(jA:0<s)
  {v:Value} {n:Nat} {xs:List Value} (h:yg w e s v n) (hl:xs.length=n*s) (hb:0<n->∀g,v.ownBlock=some g->base<=g) (hc:0<n->∀g,v.ownBlock=some g->∀j u,xs[j]?=some u->w.cell? ⟨g,j,none⟩=some u)
  (ad:Addr) (m c:Nat) (bA:List Value) (iA:bA.length=m*s) (cA:∀j u,bA[j]?=some u->w.cell? (ad.add j)=some u) (h1:∀u∈bA,u.oneCell'=true) (hm:0<m) (lA:n+m<=maxLen) (aA:(n+m)*bytes<=140737488355328) (eA:base<=w.heap.size) :
  ∃g fA w' row,(Builtin.append_ #[t,t] ty #[v,.slice (some ad) m c]).run P w = .ok (.slice (some ⟨g,0,none⟩) (n+m) fA) w'/\w'.ownsRow base e s (.slice (some ⟨g,0,none⟩) (n+m) fA) (n+m) (xs ++ bA)/\w.grownBy w' row/\(row=none\/(0<n/\row=v.ownBlock))/\((0<n/\v.ownBlock=some g)\/g=w.heap.size)/\g<w'.heap.size:=by
 rcases Nat.eq_zero_or_pos n with h0 | h0
 ·rcases h with⟨_,a,rfl⟩ | ⟨hp,_⟩
  ·subst h0;obtain rfl:xs = []:=List.eq_nil_of_length_eq_zero (by omega);obtain⟨g,fA,w',hr,h2,h3,h4,h5⟩:=run_append_lies (P:=P) w t ty base e i z s bytes ht hi hz dA gA kA jA (.slice none 0 0) 0 [] ⟨by simp,Or.inl ⟨rfl,rfl⟩⟩ ad m c bA iA cA h1 hm lA aA eA w.heap.size rfl;refine⟨g,fA,w',none,?_,h2,h3,Or.inl rfl,Or.inr ?_,h5⟩
   ·rw[zEA t ty e i a ad m c ht hi hm (by rw[gA];simpa using aA)];exact hr
   ·rcases h4 with h4 | h4
    ·cases h4
    ·exact h4
  ·omega
 ·obtain⟨g,fA,w',hr,h2,h3,h4,h5⟩:=run_append_lies (P:=P) w t ty base e i z s bytes ht hi hz dA gA kA jA v n xs (h.owns h0 hl (hb h0) (hc h0)) ad m c bA iA cA h1 hm lA aA eA w.heap.size rfl;exact⟨g,fA,w',v.ownBlock,hr,h2,h3,Or.inr ⟨h0,rfl⟩,h4.imp (fun h=>⟨h0,h⟩) id,h5⟩
theorem zEd(v:Value)(n lo hi:Nat)(f g:Nat->Int)(w:World)(h1:zU w lo hi v n f g)(hn:n<=1048576) :
  Calls Tryz.prog 171 #[v] w fun e w'=>(∃v' kb,e = .returned v'/\yg w' 61 2 v' n/\zm w' kb v' n f g/\(0<n->w.heap.size<=kb/\kb<w'.heap.size))/\Below w.heap.size w w':=by
 obtain⟨m1,a,c,rfl,mc,g1⟩:=h1;have G1:Hid (0<n->∃b off,a=some ⟨b,off,none⟩/\lo<=b/\b<hi/\∀i,i<n->w.cell? ⟨b,off+i*2,none⟩=some (.int .i64 (f i))/\w.cell? ⟨b,off+i*2+1,none⟩=some (.int .i64 (g i))):=g1;have Hm:Hid (n<=maxLen):=m1;clear g1 m1;have pA:=fun w=>Lib.run_eql_slice_nil (P:=Tryz.prog) w 62 61 a n c 0 0 (by kernel_rfl)
 cases a with
 | none=>
  have oA:n=0:=by
   by_cases h:0<n
   ·obtain⟨b,off,ha,_⟩:=G1.out h;simp at ha
   ·omega
  subst oA;go_enter Tryz.func171,Tryz.ntmps171;go_wp2;go_ret;exact⟨⟨_,0,rfl,Or.inl ⟨rfl,_,rfl⟩,⟨Nat.zero_le _,none,0,rfl,Nat.le_refl _,fun h=>absurd h (Nat.lt_irrefl _)⟩,fun h=>absurd h (Nat.lt_irrefl _)⟩,Below.refl _ _⟩
 | some ad=>
  obtain⟨i0,hi,lA⟩:=Option.map_eq_some_iff.1 zCj;simp only[Prod.mk.injEq]at lA;obtain⟨hz,hs,kA⟩:=lA;have gA:∀(w':World),Below w.heap.size w w'->∀j u,(kc f g n)[j]?=some u->w'.cell? (ad.add j)=some u:=fun w' hb j u hj=>by
   by_cases h0:0<n
   ·obtain⟨b,off,ha,_,_,hc⟩:=G1.out h0;simp only[Option.some.injEq]at ha;subst ha;have:=zFs hc j u hj;have fA:(⟨b,off,none⟩:Addr).add j=⟨b,off+j,none⟩:=(by unfold Addr.add;split<;>simp_all);rw[fA]at this ⊢;exact(hb.cell (zD this)).trans this
   ·obtain rfl:n=0:=(by omega);simp[kc]at hj
  have jA:Hid (∀(w':World),Below w.heap.size w w'->∀j u,(kc f g n)[j]?=some u->w'.cell? (ad.add j)=some u):=gA;have HI:Hid (Tryz.prog.info? 61=some i0/\i0.zero=some (.agg #[.int .i64 0,.int .i64 0])/\i0.size=2/\i0.bytes=16):=⟨hi,hz,hs,kA⟩;have bA:(w.alloc (.cells #[] 61)).ownsRow w.heap.size 61 2 (.slice (some ⟨w.heap.size,0,none⟩) 0 0) 0 []:=World.ownsRow_made w #[] 0 (Nat.le_refl _) (Nat.zero_le _) (by simp);have eA:Hid ((w.alloc (.cells #[] 61)).ownsRow w.heap.size 61 2 (.slice (some ⟨w.heap.size,0,none⟩) 0 0) 0 []):=bA;clear hi hz hs kA gA bA;go_enter Tryz.func171,Tryz.ntmps171;go_wp2_with (first
   | (at_builtin;refine qJ rfl _ _ 62 rfl w.heap.size 61 i0 (.agg #[.int .i64 0,.int .i64 0]) 2 16 (by kernel_rfl) HI.out.1 HI.out.2.1 HI.out.2.2.1 HI.out.2.2.2 rfl (by decide) _ _ _ rfl eA.out (some ad) n c (kc f g n) rfl (zEZ f g n) (zJ3 f g n) ?c1 ?c3 ?c4 ?c5 ?_))
  case c1=>
   intro h0;obtain⟨b,off,ha,_,_,_⟩:=G1.out h0;simp only[Option.some.injEq]at ha;refine⟨b,off,by rw[ha],fun j u hj=>?_⟩;have:=jA.out _ ((Below.refl _ _).alloc (Nat.le_refl _) (.cells #[] 61)) j u hj;have fA:(⟨b,off,none⟩:Addr).add j=⟨b,off+j,none⟩:=(by unfold Addr.add;split<;>simp_all);rw[ha,fA]at this;exact this
  case c3=>unfold maxLen;omega
  case c4=>omega
  case c5=>simp
  intro v' w1 cA dA iA;have mA:Below w.heap.size w w1:=((Below.refl _ _).alloc (Nat.le_refl _) _).grown dA (by simp) (fun q hq=>by have:=eA.out.lt q hq;omega);have aA:w1.ownsRow w.heap.size 61 2 v' n (kc f g n):=(by simpa using cA);obtain⟨kb,hp,hk⟩:=zCQ Hm.out aA;have nA:Hid (yg w1 61 2 v' n):=qq aA (fun h0=>⟨_,iA h0⟩);have Hp:Hid (zm w1 kb v' n f g/\(0<n->w.heap.size<=kb/\kb<w1.heap.size)):=⟨hp,hk⟩;clear hp hk cA aA dA iA;go_wp2;go_ret;exact⟨⟨v',kb,rfl,nA.out,Hp.out.1,Hp.out.2⟩,mA⟩
def zC4(w:World)(b:Nat)(v0 v1 v2 v3 v4 v5 v6 v7:Value):Prop:=zW w b 0 v0/\zW w b 1 v1/\zW w b 2 v2/\zW w b 3 v3/\zW w b 4 v4/\zW w b 5 v5/\zW w b 6 v6/\zW w b 7 v7
theorem zC4.zRX{w w':World}{b:Nat}{v0 v1 v2 v3 v4 v5 v6 v7:Value}(h:zC4 w b v0 v1 v2 v3 v4 v5 v6 v7)(t:Below w.heap.size w w'):zC4 w' b v0 v1 v2 v3 v4 v5 v6 v7:=⟨h.1.zRX t,h.2.1.zRX t,h.2.2.1.zRX t,h.2.2.2.1.zRX t,h.2.2.2.2.1.zRX t,h.2.2.2.2.2.1.zRX t,h.2.2.2.2.2.2.1.zRX t,h.2.2.2.2.2.2.2.zRX t⟩
theorem zC4.zRZ(w:World)(v0 v1 v2 v3 v4 v5 v6 v7:Value)(t:TypeId):zC4 (w.alloc (.cells #[v0,v1,v2,v3,v4,v5,v6,v7] t)) w.heap.size v0 v1 v2 v3 v4 v5 v6 v7:=by
 have hb:(w.alloc (.cells #[v0,v1,v2,v3,v4,v5,v6,v7] t)).heap[w.heap.size]?=some (.cells #[v0,v1,v2,v3,v4,v5,v6,v7] t):=heap_alloc_new _ _;exact⟨zJ hb rfl,zJ hb rfl,zJ hb rfl,zJ hb rfl,zJ hb rfl,zJ hb rfl,zJ hb rfl,zJ hb rfl⟩
abbrev zRI(w:World)(b:Nat)(u0 u1 u2 u3 u4 u5 u6 u7:Value):World:=(((((((w.setCell ⟨b,0,none⟩ u0).setCell ⟨b,1,none⟩ u1).setCell ⟨b,2,none⟩ u2).setCell ⟨b,3,none⟩ u3).setCell ⟨b,4,none⟩ u4).setCell ⟨b,5,none⟩ u5).setCell ⟨b,6,none⟩ u6).setCell ⟨b,7,none⟩ u7
theorem zC4.put{w:World}{b:Nat}{v0 v1 v2 v3 v4 v5 v6 v7:Value}(h:zC4 w b v0 v1 v2 v3 v4 v5 v6 v7)(u0 u1 u2 u3 u4 u5 u6 u7:Value):zC4 (zRI w b u0 u1 u2 u3 u4 u5 u6 u7) b u0 u1 u2 u3 u4 u5 u6 u7:=by
 obtain⟨h0,h1,h2,h3,h4,h5,h6,h7⟩:=h;refine⟨?_,?_,?_,?_,?_,?_,?_,?_⟩
 ·exact(((((((h0.set _).zRY _ (Or.inr (by omega))).zRY _ (Or.inr (by omega))).zRY _ (Or.inr (by omega))).zRY _ (Or.inr (by omega))).zRY _ (Or.inr (by omega))).zRY _ (Or.inr (by omega))).zRY _ (Or.inr (by omega))
 ·exact(((((((h1.zRY _ (Or.inr (by omega))).set _).zRY _ (Or.inr (by omega))).zRY _ (Or.inr (by omega))).zRY _ (Or.inr (by omega))).zRY _ (Or.inr (by omega))).zRY _ (Or.inr (by omega))).zRY _ (Or.inr (by omega))
 ·exact(((((((h2.zRY _ (Or.inr (by omega))).zRY _ (Or.inr (by omega))).set _).zRY _ (Or.inr (by omega))).zRY _ (Or.inr (by omega))).zRY _ (Or.inr (by omega))).zRY _ (Or.inr (by omega))).zRY _ (Or.inr (by omega))
 ·exact(((((((h3.zRY _ (Or.inr (by omega))).zRY _ (Or.inr (by omega))).zRY _ (Or.inr (by omega))).set _).zRY _ (Or.inr (by omega))).zRY _ (Or.inr (by omega))).zRY _ (Or.inr (by omega))).zRY _ (Or.inr (by omega))
 ·exact(((((((h4.zRY _ (Or.inr (by omega))).zRY _ (Or.inr (by omega))).zRY _ (Or.inr (by omega))).zRY _ (Or.inr (by omega))).set _).zRY _ (Or.inr (by omega))).zRY _ (Or.inr (by omega))).zRY _ (Or.inr (by omega))
 ·exact(((((((h5.zRY _ (Or.inr (by omega))).zRY _ (Or.inr (by omega))).zRY _ (Or.inr (by omega))).zRY _ (Or.inr (by omega))).zRY _ (Or.inr (by omega))).set _).zRY _ (Or.inr (by omega))).zRY _ (Or.inr (by omega))
 ·exact(((((((h6.zRY _ (Or.inr (by omega))).zRY _ (Or.inr (by omega))).zRY _ (Or.inr (by omega))).zRY _ (Or.inr (by omega))).zRY _ (Or.inr (by omega))).zRY _ (Or.inr (by omega))).set _).zRY _ (Or.inr (by omega))
 ·exact(((((((h7.zRY _ (Or.inr (by omega))).zRY _ (Or.inr (by omega))).zRY _ (Or.inr (by omega))).zRY _ (Or.inr (by omega))).zRY _ (Or.inr (by omega))).zRY _ (Or.inr (by omega))).zRY _ (Or.inr (by omega))).set _
theorem zC4.off8{w:World}{b:Nat}{v0 v1 v2 v3 v4 v5 v6 v7:Value}(h:zC4 w b v0 v1 v2 v3 v4 v5 v6 v7){b':Nat}(o:Nat)(u:Value)(o':Nat)(u':Value)(aA:b'≠b):zC4 ((w.setCell ⟨b',o,none⟩ u).setCell ⟨b',o',none⟩ u') b v0 v1 v2 v3 v4 v5 v6 v7:=by
 obtain⟨h0,h1,h2,h3,h4,h5,h6,h7⟩:=h;have hc:∀{j:Nat} {v:Value},zW w b j v->zW ((w.setCell ⟨b',o,none⟩ u).setCell ⟨b',o',none⟩ u') b j v:=fun hc=>(hc.zRY _ (Or.inl aA)).zRY _ (Or.inl aA)
 exact⟨hc h0,hc h1,hc h2,hc h3,hc h4,hc h5,hc h6,hc h7⟩
theorem zC4.mid8{w:World}{b:Nat}{v0 v1 v2 v3 v4 v5 v6 v7:Value}(h:zC4 w b v0 v1 v2 v3 v4 v5 v6 v7)(u u':Value):zC4 ((w.setCell ⟨b,5,none⟩ u).setCell ⟨b,6,none⟩ u') b v0 v1 v2 v3 v4 u u' v7:=by
 obtain⟨h0,h1,h2,h3,h4,h5,h6,h7⟩:=h;exact⟨(h0.zRY _ (Or.inr (by omega))).zRY _ (Or.inr (by omega)),(h1.zRY _ (Or.inr (by omega))).zRY _ (Or.inr (by omega)),(h2.zRY _ (Or.inr (by omega))).zRY _ (Or.inr (by omega)),(h3.zRY _ (Or.inr (by omega))).zRY _ (Or.inr (by omega)),(h4.zRY _ (Or.inr (by omega))).zRY _ (Or.inr (by omega)),(h5.set _).zRY _ (Or.inr (by omega)),(h6.zRY _ (Or.inr (by omega))).set _,(h7.zRY _ (Or.inr (by omega))).zRY _ (Or.inr (by omega))⟩
def zAf(w:World)(S:Nat->Prop)(v:Value)(n:Nat)(f:Nat->qD):Prop:=∃(bs:Nat) (kb:Nat->Nat) (kv:Nat->Value),yJ w bs kb kv v n f/\zBN kb n f/\(∀k,zCN bs kb n f k->S k)/\yg w 67 6 v n/\∀i,i<n->yg w 61 2 (kv i) (f i).dn
def yz(w:World)(S:Nat->Prop)(v:Value)(n:Nat)(f:Nat->zl):Prop:=∃(bs:Nat) (kb:Nat->Nat) (kv:Nat->Value),yS w bs kb kv v n f/\zA7 kb n f/\(∀k,zCI bs kb n f k->S k)/\yg w 99 8 v n/\∀i,i<n->yg w 61 2 (kv i) (f i).dn
theorem zAf.isIn{w:World}{S:Nat->Prop}{v:Value}{n:Nat}{f:Nat->qD}(h:zAf w S v n f):zBU w S v n f:=by
 obtain⟨bs,kb,kv,h1,h2,h3,_⟩:=h;exact⟨bs,kb,kv,h1,h2,h3⟩
theorem yz.isIn{w:World}{S:Nat->Prop}{v:Value}{n:Nat}{f:Nat->zl}(h:yz w S v n f):zAv w S v n f:=by
 obtain⟨bs,kb,kv,h1,h2,h3,_⟩:=h;exact⟨bs,kb,kv,h1,h2,h3⟩
theorem zAf.zRX{w w':World}{S:Nat->Prop}{v:Value}{n:Nat}{f:Nat->qD}(h:zAf w S v n f)(t:Below w.heap.size w w'):zAf w' S v n f:=by
 obtain⟨bs,kb,kv,h1,h2,h3,h4,h5⟩:=h;exact⟨bs,kb,kv,h1.zRX t,h2,h3,h4.zRX t,fun i hi=>(h5 i hi).zRX t⟩
theorem yz.zRX{w w':World}{S:Nat->Prop}{v:Value}{n:Nat}{f:Nat->zl}(h:yz w S v n f)(t:Below w.heap.size w w'):yz w' S v n f:=by
 obtain⟨bs,kb,kv,h1,h2,h3,h4,h5⟩:=h;exact⟨bs,kb,kv,h1.zRX t,h2,h3,h4.zRX t,fun i hi=>(h5 i hi).zRX t⟩
theorem zAf.set{w:World}{S:Nat->Prop}{v:Value}{n:Nat}{f:Nat->qD}(h:zAf w S v n f)(b o:Nat)(u:Value)(hb:¬S b):zAf (w.setCell ⟨b,o,none⟩ u) S v n f:=by
 obtain⟨bs,kb,kv,h1,h2,h3,h4,h5⟩:=h;exact⟨bs,kb,kv,h1.zRf (zF.put w b o u) (fun k hk e=>hb (e▸h3 k hk)),h2,h3,h4.set _ _,fun i hi=>(h5 i hi).set _ _⟩
theorem yz.set{w:World}{S:Nat->Prop}{v:Value}{n:Nat}{f:Nat->zl}(h:yz w S v n f)(b o:Nat)(u:Value)(hb:¬S b):yz (w.setCell ⟨b,o,none⟩ u) S v n f:=by
 obtain⟨bs,kb,kv,h1,h2,h3,h4,h5⟩:=h;exact⟨bs,kb,kv,h1.zRf (zF.put w b o u) (fun k hk e=>hb (e▸h3 k hk)),h2,h3,h4.set _ _,fun i hi=>(h5 i hi).set _ _⟩
theorem zAf.put6{w:World}{S:Nat->Prop}{v:Value}{n:Nat}{f:Nat->qD}(h:zAf w S v n f)(b:Nat)(u0 u1 u2 u3 u4 u5:Value)(hb:¬S b):zAf (put6 w b u0 u1 u2 u3 u4 u5) S v n f:=(((((h.set b 0 u0 hb).set b 1 u1 hb).set b 2 u2 hb).set b 3 u3 hb).set b 4 u4 hb).set b 5 u5 hb
theorem yz.put6{w:World}{S:Nat->Prop}{v:Value}{n:Nat}{f:Nat->zl}(h:yz w S v n f)(b:Nat)(u0 u1 u2 u3 u4 u5:Value)(hb:¬S b):yz (put6 w b u0 u1 u2 u3 u4 u5) S v n f:=(((((h.set b 0 u0 hb).set b 1 u1 hb).set b 2 u2 hb).set b 3 u3 hb).set b 4 u4 hb).set b 5 u5 hb
structure zBS (w:World) (P Q R:Nat->Prop) (v0 v1 v2 v3:Value) (W:zH):Prop where
 zRd:qW w P v0 v1 W.zRd
 zRg:zAf w Q v2 W.sn W.zRg
 zRe:yz w R v3 W.pn W.zRe
 pq:∀k,P k->¬Q k
 pr:∀k,P k->¬R k
 qr:∀k,Q k->¬R k
def qP(w:World)(lo hi:Nat)(v0 v1 v2 v3:Value)(W:zH):Prop:=∃P Q R,zBS w P Q R v0 v1 v2 v3 W/\∀k,P k\/Q k\/R k->lo<=k/\k<hi
theorem zBS.isIn{w:World}{P Q R:Nat->Prop}{v0 v1 v2 v3:Value}{W:zH}(h:zBS w P Q R v0 v1 v2 v3 W):zCR w P Q R v0 v1 v2 v3 W:=⟨h.zRd,h.zRg.isIn,h.zRe.isIn,h.pq,h.pr,h.qr⟩
theorem qP.own{w:World}{lo hi:Nat}{v0 v1 v2 v3:Value}{W:zH}(h:qP w lo hi v0 v1 v2 v3 W):qL w lo hi v0 v1 v2 v3 W:=by
 obtain⟨P,Q,R,h,hl⟩:=h;exact⟨P,Q,R,h.isIn,hl⟩
theorem zBS.zRX{w w':World}{P Q R:Nat->Prop}{v0 v1 v2 v3:Value}{W:zH}(h:zBS w P Q R v0 v1 v2 v3 W)(t:Below w.heap.size w w'):zBS w' P Q R v0 v1 v2 v3 W:=⟨h.zRd.zRX t,h.zRg.zRX t,h.zRe.zRX t,h.pq,h.pr,h.qr⟩
theorem qP.zRX{w w':World}{lo hi:Nat}{v0 v1 v2 v3:Value}{W:zH}(h:qP w lo hi v0 v1 v2 v3 W)(t:Below w.heap.size w w'):qP w' lo hi v0 v1 v2 v3 W:=by
 obtain⟨P,Q,R,h,hl⟩:=h;exact⟨P,Q,R,h.zRX t,hl⟩
theorem zBS.set{w:World}{P Q R:Nat->Prop}{v0 v1 v2 v3:Value}{W:zH}(h:zBS w P Q R v0 v1 v2 v3 W)(b o:Nat)(u:Value)(hb:¬(P b\/Q b\/R b)):zBS (w.setCell ⟨b,o,none⟩ u) P Q R v0 v1 v2 v3 W:=
 ⟨h.zRd.zRf (zF.put w b o u) (fun k hk e=>hb (Or.inl (e▸hk))),h.zRg.set b o u (fun h=>hb (Or.inr (Or.inl h))),h.zRe.set b o u (fun h=>hb (Or.inr (Or.inr h))),h.pq,h.pr,h.qr⟩
theorem qP.set{w:World}{lo hi:Nat}{v0 v1 v2 v3:Value}{W:zH}(h:qP w lo hi v0 v1 v2 v3 W)(b o:Nat)(u:Value)(hb:b<lo\/hi<=b):qP (w.setCell ⟨b,o,none⟩ u) lo hi v0 v1 v2 v3 W:=by
 obtain⟨P,Q,R,h,hl⟩:=h;exact⟨P,Q,R,h.set b o u (fun hk=>by have:=hl b hk;omega),hl⟩
theorem qP.put6{w:World}{lo hi:Nat}{v0 v1 v2 v3:Value}{W:zH}(h:qP w lo hi v0 v1 v2 v3 W)(b:Nat)(u0 u1 u2 u3 u4 u5:Value)(hb:b<lo\/hi<=b):qP (put6 w b u0 u1 u2 u3 u4 u5) lo hi v0 v1 v2 v3 W:=(((((h.set b 0 u0 hb).set b 1 u1 hb).set b 2 u2 hb).set b 3 u3 hb).set b 4 u4 hb).set b 5 u5 hb
theorem qP.form{w:World}{lo hi:Nat}{v0 v1 v2 v3:Value}{W:zH}(h:qP w lo hi v0 v1 v2 v3 W):∃a0 c0 a1 c1 a2 c2 a3 c3,v0 = .slice a0 W.zRd.n c0/\v1 = .slice a1 W.zRd.hn c1/\v2 = .slice a2 W.sn c2/\v3 = .slice a3 W.pn c3:=h.own.form
theorem qP.zRc{w:World}{lo hi lo' hi':Nat}{v0 v1 v2 v3:Value}{W:zH}(h:qP w lo hi v0 v1 v2 v3 W)(h1:lo'<=lo)(h2:hi<=hi'):qP w lo' hi' v0 v1 v2 v3 W:=by
 obtain⟨P,Q,R,h,hl⟩:=h;exact⟨P,Q,R,h,fun k hk=>by have:=hl k hk;omega⟩
def zJx(W:zH)(w:World)(e:Ending)(w':World):Prop:=∃v0 v1 v2 v3,e = .returned (zz v0 v1 v2 v3 W)/\qP w' w.heap.size w'.heap.size v0 v1 v2 v3 W/\Below w.heap.size w w'
end Go.Proofs.YtmgeglgboadfiaaGreatDoor
