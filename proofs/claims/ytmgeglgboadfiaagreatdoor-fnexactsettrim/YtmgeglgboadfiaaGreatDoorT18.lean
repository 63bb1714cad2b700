/- Rows of sets and of snapshots that a call owns (no law is proved here). -/
import Derived.Test.YtmgeglgboadfiaaGreatDoorT3
import Derived.Test.YtmgeglgboadfiaaGreatDoorT6
set_option linter.unusedVariables false
set_option maxRecDepth 20000
set_option maxHeartbeats 4000000
namespace Go.Proofs.YtmgeglgboadfiaaGreatDoor
open Go.RowKit
def zKq:qC:={name:=⟨#[]⟩,origin:=0,zRT:=0,rs:=0,rb:=0,dn:=0,ds:=fun _=>0,db:=fun _=>0}
structure zAE(w:World)(bs o kb:Nat)(kv:Value)(s:qC):Prop where
 c0:zX w bs o(.string s.name)
 c1:zX w bs(o+1)(.int .i64 s.origin)
 c2:zX w bs(o+2)(.int .i64 s.zRT)
 c3:zX w bs(o+3)(.int .i64 s.rs)
 c4:zX w bs(o+4)(.int .i64 s.rb)
 c5:zX w bs(o+5) kv
 zRX:zj w kb kv s.dn s.ds s.db
 zRZ:s.name.size<=maxLen
 zRW:0<s.dn->kb≠bs
theorem zAE.zRR{S:Nat->Prop}{w w':World}{bs o kb:Nat}{kv:Value}{s:qC}(h:zAE w bs o kb kv s)(t:zF S w w')(h1:¬S bs)(h2:0<s.dn->¬S kb):zAE w' bs o kb kv s:=
 ⟨h.c0.zRR t h1,h.c1.zRR t h1,h.c2.zRR t h1,h.c3.zRR t h1,h.c4.zRR t h1,h.c5.zRR t h1,h.zRX.zRR t h2,h.zRZ,h.zRW⟩
theorem zAE.zRJ{w w':World}{bs o kb:Nat}{kv:Value}{s:qC}(h:zAE w bs o kb kv s)(t:Below w.heap.size w w'):zAE w' bs o kb kv s:=
 h.zRR(zF.zRM(S:=fun _=>False) t)(fun h=>h)(fun _ h=>h)
theorem zAE.cells{w:World}{bs o kb:Nat}{kv:Value}{s:qC}(h:zAE w bs o kb kv s){lo hi:Nat}(hb:0<s.dn->lo<=kb/\kb<hi):zBP w bs o lo hi kv s:=
 ⟨h.c0.1,h.c1.1,h.c2.1,h.c3.1,h.c4.1,h.c5.1,h.zRX.at hb,h.zRZ⟩
theorem zAE.deadLt{w:World}{bs o kb:Nat}{kv:Value}{s:qC}(h:zAE w bs o kb kv s)(h0:0<s.dn):kb<w.heap.size:=by
 obtain⟨_,_,_,_,_,h4⟩:=h.zRX;obtain⟨o,_,h5⟩:=h4 h0;exact(h5 0 h0).1.lt
def yN(w:World)(bs:Nat)(kb:Nat->Nat)(kv:Nat->Value)(v:Value)(n:Nat)(f:Nat->qC):Prop:=
 n<=maxLen/\∃a cap,v = .slice a n cap/\n<=cap/\(0<n->∃off,a=some ⟨bs,off,none⟩/\∀i,i<n->zAE w bs(off+i*6)(kb i)(kv i)(f i))
def zCA(bs:Nat)(kb:Nat->Nat)(n:Nat)(f:Nat->qC)(k:Nat):Prop:=(0<n/\k=bs)\/∃i,i<n/\0<(f i).dn/\k=kb i
def zBJ(kb:Nat->Nat)(n:Nat)(f:Nat->qC):Prop:=∀i j,i<n->j<n->i≠j->0<(f i).dn->0<(f j).dn->kb i≠kb j
theorem yN.lt{w:World}{bs:Nat}{kb:Nat->Nat}{kv:Nat->Value}{v:Value}{n:Nat}{f:Nat->qC}(h:yN w bs kb kv v n f){k:Nat}(hk:zCA bs kb n f k):k<w.heap.size:=by
 obtain⟨_,a,cap,_,_,hc⟩:=h;rcases hk with⟨h0,rfl⟩ | ⟨i,hi,h0,rfl⟩
 ·obtain⟨off,_,h3⟩:=hc h0;exact(h3 0 h0).c0.lt
 ·obtain⟨off,_,h3⟩:=hc(by omega);exact(h3 i hi).deadLt h0
theorem yN.zRR{S:Nat->Prop}{w w':World}{bs:Nat}{kb:Nat->Nat}{kv:Nat->Value}{v:Value}{n:Nat}{f:Nat->qC}(h:yN w bs kb kv v n f)(t:zF S w w')(hs:∀k,zCA bs kb n f k->¬S k):yN w' bs kb kv v n f:=by
 obtain⟨h0,a,cap,hv,hcc,hc⟩:=h;refine⟨h0,a,cap,hv,hcc,fun hn=>?_⟩;obtain⟨off,ha,h3⟩:=hc hn;exact⟨off,ha,fun i hi=>(h3 i hi).zRR t(hs _(Or.inl ⟨hn,rfl⟩))(fun h=>hs _(Or.inr ⟨i,hi,h,rfl⟩))⟩
theorem yN.zRJ{w w':World}{bs:Nat}{kb:Nat->Nat}{kv:Nat->Value}{v:Value}{n:Nat}{f:Nat->qC}(h:yN w bs kb kv v n f)(t:Below w.heap.size w w'):yN w' bs kb kv v n f:=
 h.zRR(zF.zRM(S:=fun _=>False) t)(fun _ _ h=>h)
theorem yN.at{w:World}{bs:Nat}{kb:Nat->Nat}{kv:Nat->Value}{v:Value}{n:Nat}{f:Nat->qC}(h:yN w bs kb kv v n f){lo hi:Nat}(hb:∀k,zCA bs kb n f k->lo<=k/\k<hi):yZ w lo hi v n f:=by
 obtain⟨h0,a,cap,hv,hcc,hc⟩:=h;refine⟨h0,a,cap,hv,hcc,fun hn=>?_⟩;obtain⟨off,ha,h3⟩:=hc hn;have hx:=hb _(Or.inl ⟨hn,rfl⟩);exact⟨bs,off,ha,hx.1,hx.2,fun i hi=>⟨_,(h3 i hi).cells(fun h=>hb _(Or.inr ⟨i,hi,h,rfl⟩))⟩⟩
structure zDp(wr:World)(bs n k:Nat)(f:Nat->qC)(kb:Nat->Nat)(kv:Nat->Value):Prop where
 rows:∀j,j<n->zAE wr bs(0+j*6)(kb j)(kv j)(if j<k then f j else zKq)
 zRW:zBJ kb k f
 zRY:∀j,j<k->0<(f j).dn->bs<kb j/\kb j<wr.heap.size
theorem zDp.zRJ{wr w':World}{bs n k:Nat}{f:Nat->qC}{kb:Nat->Nat}{kv:Nat->Value}(h:zDp wr bs n k f kb kv)(t:Below wr.heap.size wr w'):zDp w' bs n k f kb kv:=
 ⟨fun j hj=>(h.rows j hj).zRJ t,h.zRW,fun j hj h0=>by have:=h.zRY j hj h0;have:=t.size;omega⟩
theorem zDp.next{wr w1:World}{bs n k b:Nat}{f:Nat->qC}{kb:Nat->Nat}{kv:Nat->Value}{v:Value}(h:zDp wr bs n k f kb kv)(hk:k<n)(dA:bs<wr.heap.size)(t:Below wr.heap.size wr w1)
  (hp:zj w1 b v(f k).dn(f k).ds(f k).db)(hb:wr.heap.size<=b)(cA:b<w1.heap.size)(hs:(f k).name.size<=maxLen) :
  zDp((((((w1.setCell ⟨bs,0+k*6,none⟩(.string(f k).name)).setCell ⟨bs,0+k*6+1,none⟩(.int .i64(f k).origin)).setCell ⟨bs,0+k*6+2,none⟩(.int .i64(f k).zRT)).setCell ⟨bs,0+k*6+3,none⟩(.int .i64(f k).rs)).setCell ⟨bs,0+k*6+4,none⟩(.int .i64(f k).rb)).setCell ⟨bs,0+k*6+5,none⟩ v) bs n(k+1) f(fun j=>if j=k then b else kb j)(fun j=>if j=k then v else kv j):=by
 have h':=h.zRJ t;refine⟨fun j hj=>?_,fun i j hi hj bA h1 h2=>?_,fun j hj h0=>?_⟩
 ·have aA:=h'.rows j hj;by_cases e:j=k
  ·subst e;simp only [if_true];rw [if_pos(by omega)];refine⟨?_,?_,?_,?_,?_,?_,?_,hs,fun _=>by omega⟩
   ·exact(((((aA.c0.set _).zRK _(Or.inr(by omega))).zRK _(Or.inr(by omega))).zRK _(Or.inr(by omega))).zRK _(Or.inr(by omega))).zRK _(Or.inr(by omega))
   ·exact(((((aA.c1.zRK _(Or.inr(by omega))).set _).zRK _(Or.inr(by omega))).zRK _(Or.inr(by omega))).zRK _(Or.inr(by omega))).zRK _(Or.inr(by omega))
   ·exact(((((aA.c2.zRK _(Or.inr(by omega))).zRK _(Or.inr(by omega))).set _).zRK _(Or.inr(by omega))).zRK _(Or.inr(by omega))).zRK _(Or.inr(by omega))
   ·exact(((((aA.c3.zRK _(Or.inr(by omega))).zRK _(Or.inr(by omega))).zRK _(Or.inr(by omega))).set _).zRK _(Or.inr(by omega))).zRK _(Or.inr(by omega))
   ·exact(((((aA.c4.zRK _(Or.inr(by omega))).zRK _(Or.inr(by omega))).zRK _(Or.inr(by omega))).zRK _(Or.inr(by omega))).set _).zRK _(Or.inr(by omega))
   ·exact(((((aA.c5.zRK _(Or.inr(by omega))).zRK _(Or.inr(by omega))).zRK _(Or.inr(by omega))).zRK _(Or.inr(by omega))).zRK _(Or.inr(by omega))).set _
   ·exact(((((hp.put _(by omega)).put _(by omega)).put _(by omega)).put _(by omega)).put _(by omega)).put _(by omega)
  ·simp only [if_neg e];have es:(if j<k+1 then f j else zKq)=if j<k then f j else zKq:=by
    by_cases e2:j<k
    ·rw [if_pos e2,if_pos(by omega)]
    ·rw [if_neg e2,if_neg(by omega)]
   rw [es];refine⟨?_,?_,?_,?_,?_,?_,?_,aA.zRZ,aA.zRW⟩
   ·exact(((((aA.c0.zRK _(Or.inr(by omega))).zRK _(Or.inr(by omega))).zRK _(Or.inr(by omega))).zRK _(Or.inr(by omega))).zRK _(Or.inr(by omega))).zRK _(Or.inr(by omega))
   ·exact(((((aA.c1.zRK _(Or.inr(by omega))).zRK _(Or.inr(by omega))).zRK _(Or.inr(by omega))).zRK _(Or.inr(by omega))).zRK _(Or.inr(by omega))).zRK _(Or.inr(by omega))
   ·exact(((((aA.c2.zRK _(Or.inr(by omega))).zRK _(Or.inr(by omega))).zRK _(Or.inr(by omega))).zRK _(Or.inr(by omega))).zRK _(Or.inr(by omega))).zRK _(Or.inr(by omega))
   ·exact(((((aA.c3.zRK _(Or.inr(by omega))).zRK _(Or.inr(by omega))).zRK _(Or.inr(by omega))).zRK _(Or.inr(by omega))).zRK _(Or.inr(by omega))).zRK _(Or.inr(by omega))
   ·exact(((((aA.c4.zRK _(Or.inr(by omega))).zRK _(Or.inr(by omega))).zRK _(Or.inr(by omega))).zRK _(Or.inr(by omega))).zRK _(Or.inr(by omega))).zRK _(Or.inr(by omega))
   ·exact(((((aA.c5.zRK _(Or.inr(by omega))).zRK _(Or.inr(by omega))).zRK _(Or.inr(by omega))).zRK _(Or.inr(by omega))).zRK _(Or.inr(by omega))).zRK _(Or.inr(by omega))
   ·refine(((((aA.zRX.zRR(zF.put _ _ _ _) ?_).zRR(zF.put _ _ _ _) ?_).zRR(zF.put _ _ _ _) ?_).zRR(zF.put _ _ _ _) ?_).zRR(zF.put _ _ _ _) ?_).zRR(zF.put _ _ _ _) ?_
    all_goals exact fun h0 hx=>aA.zRW h0 hx
 ·show(if i=k then b else kb i)≠(if j=k then b else kb j);by_cases e1:i=k
  ·by_cases e2:j=k
   ·omega
   ·rw [if_pos e1,if_neg e2];have:=h.zRY j(by omega) h2;omega
  ·by_cases e2:j=k
   ·rw [if_neg e1,if_pos e2];have:=h.zRY i(by omega) h1;omega
   ·rw [if_neg e1,if_neg e2];exact h.zRW i j(by omega)(by omega) bA h1 h2
 ·simp only [World.size_setCell];by_cases e:j=k
  ·rw [if_pos e];omega
  ·rw [if_neg e];have:=h'.zRY j(by omega) h0;omega
theorem zHo:(Tryz.prog.info? 67).map(fun i=>(i.zero,i.size,i.bytes))=some(some(.agg #[.string ⟨#[]⟩,.int .i64 0,.int .i64 0,.int .i64 0,.int .i64 0,.slice none 0 0]),6,72):=by kernel_rfl
theorem zMa{w:World}{bs n j:Nat}(hj:j<n)(aA:bs=w.heap.size):zAE(w.alloc(.cells(zA0 #[.string ⟨#[]⟩,.int .i64 0,.int .i64 0,.int .i64 0,.int .i64 0,.slice none 0 0] n) 67)) bs(0+j*6) 0(.slice none 0 0) zKq:=by
 subst aA;have c0:=qu w #[.string ⟨#[]⟩,.int .i64 0,.int .i64 0,.int .i64 0,.int .i64 0,.slice none 0 0] n j 0 67 hj(by simp);have c1:=qu w #[.string ⟨#[]⟩,.int .i64 0,.int .i64 0,.int .i64 0,.int .i64 0,.slice none 0 0] n j 1 67 hj(by simp);have c2:=qu w #[.string ⟨#[]⟩,.int .i64 0,.int .i64 0,.int .i64 0,.int .i64 0,.slice none 0 0] n j 2 67 hj(by simp);have c3:=qu w #[.string ⟨#[]⟩,.int .i64 0,.int .i64 0,.int .i64 0,.int .i64 0,.slice none 0 0] n j 3 67 hj(by simp);have c4:=qu w #[.string ⟨#[]⟩,.int .i64 0,.int .i64 0,.int .i64 0,.int .i64 0,.slice none 0 0] n j 4 67 hj(by simp);have c5:=qu w #[.string ⟨#[]⟩,.int .i64 0,.int .i64 0,.int .i64 0,.int .i64 0,.slice none 0 0] n j 5 67 hj(by simp);refine⟨?_,?_,?_,?_,?_,?_,⟨Nat.zero_le _,none,0,rfl,Nat.le_refl _,fun h=>absurd h(Nat.lt_irrefl _)⟩,Nat.zero_le _,fun h=>absurd h(Nat.lt_irrefl _)⟩
 ·show zX _ _ _(.string ⟨#[]⟩);simpa using c0
 ·show zX _ _ _(.int .i64 0);simpa using c1
 ·show zX _ _ _(.int .i64 0);simpa using c2
 ·show zX _ _ _(.int .i64 0);simpa using c3
 ·show zX _ _ _(.int .i64 0);simpa using c4
 ·show zX _ _ _(.slice none 0 0);simpa using c5
def zHI:zm:={id:=0,name:=⟨#[]⟩,set:=⟨#[]⟩,zRT:=0,time:=0,rs:=0,rb:=0,dn:=0,ds:=fun _=>0,db:=fun _=>0}
structure zAG(w:World)(bs o kb:Nat)(kv:Value)(s:zm):Prop where
 c0:zX w bs o(.int .i64 s.id)
 c1:zX w bs(o+1)(.string s.name)
 c2:zX w bs(o+2)(.string s.set)
 c3:zX w bs(o+3)(.int .i64 s.zRT)
 c4:zX w bs(o+4)(.int .i64 s.time)
 c5:zX w bs(o+5)(.int .i64 s.rs)
 c6:zX w bs(o+6)(.int .i64 s.rb)
 c7:zX w bs(o+7) kv
 zRX:zj w kb kv s.dn s.ds s.db
 zRZ:s.name.size<=maxLen/\s.set.size<=maxLen
 zRW:0<s.dn->kb≠bs
theorem zAG.zRR{S:Nat->Prop}{w w':World}{bs o kb:Nat}{kv:Value}{s:zm}(h:zAG w bs o kb kv s)(t:zF S w w')(h1:¬S bs)(h2:0<s.dn->¬S kb):zAG w' bs o kb kv s:=
 ⟨h.c0.zRR t h1,h.c1.zRR t h1,h.c2.zRR t h1,h.c3.zRR t h1,h.c4.zRR t h1,h.c5.zRR t h1,h.c6.zRR t h1,h.c7.zRR t h1,h.zRX.zRR t h2,h.zRZ,h.zRW⟩
theorem zAG.zRJ{w w':World}{bs o kb:Nat}{kv:Value}{s:zm}(h:zAG w bs o kb kv s)(t:Below w.heap.size w w'):zAG w' bs o kb kv s:=
 h.zRR(zF.zRM(S:=fun _=>False) t)(fun h=>h)(fun _ h=>h)
theorem zAG.cells{w:World}{bs o kb:Nat}{kv:Value}{s:zm}(h:zAG w bs o kb kv s){lo hi:Nat}(hb:0<s.dn->lo<=kb/\kb<hi):zAk w bs o lo hi kv s:=
 ⟨h.c0.1,h.c1.1,h.c2.1,h.c3.1,h.c4.1,h.c5.1,h.c6.1,h.c7.1,h.zRX.at hb,h.zRZ⟩
theorem zAG.deadLt{w:World}{bs o kb:Nat}{kv:Value}{s:zm}(h:zAG w bs o kb kv s)(h0:0<s.dn):kb<w.heap.size:=by
 obtain⟨_,_,_,_,_,h4⟩:=h.zRX;obtain⟨o,_,h5⟩:=h4 h0;exact(h5 0 h0).1.lt
def yU(w:World)(bs:Nat)(kb:Nat->Nat)(kv:Nat->Value)(v:Value)(n:Nat)(f:Nat->zm):Prop:=
 n<=maxLen/\∃a cap,v = .slice a n cap/\n<=cap/\(0<n->∃off,a=some ⟨bs,off,none⟩/\∀i,i<n->zAG w bs(off+i*8)(kb i)(kv i)(f i))
def zB6(bs:Nat)(kb:Nat->Nat)(n:Nat)(f:Nat->zm)(k:Nat):Prop:=(0<n/\k=bs)\/∃i,i<n/\0<(f i).dn/\k=kb i
def zA6(kb:Nat->Nat)(n:Nat)(f:Nat->zm):Prop:=∀i j,i<n->j<n->i≠j->0<(f i).dn->0<(f j).dn->kb i≠kb j
theorem yU.lt{w:World}{bs:Nat}{kb:Nat->Nat}{kv:Nat->Value}{v:Value}{n:Nat}{f:Nat->zm}(h:yU w bs kb kv v n f){k:Nat}(hk:zB6 bs kb n f k):k<w.heap.size:=by
 obtain⟨_,a,cap,_,_,hc⟩:=h;rcases hk with⟨h0,rfl⟩ | ⟨i,hi,h0,rfl⟩
 ·obtain⟨off,_,h3⟩:=hc h0;exact(h3 0 h0).c0.lt
 ·obtain⟨off,_,h3⟩:=hc(by omega);exact(h3 i hi).deadLt h0
theorem yU.zRR{S:Nat->Prop}{w w':World}{bs:Nat}{kb:Nat->Nat}{kv:Nat->Value}{v:Value}{n:Nat}{f:Nat->zm}(h:yU w bs kb kv v n f)(t:zF S w w')(hs:∀k,zB6 bs kb n f k->¬S k):yU w' bs kb kv v n f:=by
 obtain⟨h0,a,cap,hv,hcc,hc⟩:=h;refine⟨h0,a,cap,hv,hcc,fun hn=>?_⟩;obtain⟨off,ha,h3⟩:=hc hn;exact⟨off,ha,fun i hi=>(h3 i hi).zRR t(hs _(Or.inl ⟨hn,rfl⟩))(fun h=>hs _(Or.inr ⟨i,hi,h,rfl⟩))⟩
theorem yU.zRJ{w w':World}{bs:Nat}{kb:Nat->Nat}{kv:Nat->Value}{v:Value}{n:Nat}{f:Nat->zm}(h:yU w bs kb kv v n f)(t:Below w.heap.size w w'):yU w' bs kb kv v n f:=
 h.zRR(zF.zRM(S:=fun _=>False) t)(fun _ _ h=>h)
theorem yU.at{w:World}{bs:Nat}{kb:Nat->Nat}{kv:Nat->Value}{v:Value}{n:Nat}{f:Nat->zm}(h:yU w bs kb kv v n f){lo hi:Nat}(hb:∀k,zB6 bs kb n f k->lo<=k/\k<hi):qz w lo hi v n f:=by
 obtain⟨h0,a,cap,hv,hcc,hc⟩:=h;refine⟨h0,a,cap,hv,hcc,fun hn=>?_⟩;obtain⟨off,ha,h3⟩:=hc hn;have hx:=hb _(Or.inl ⟨hn,rfl⟩);exact⟨bs,off,ha,hx.1,hx.2,fun i hi=>⟨_,(h3 i hi).cells(fun h=>hb _(Or.inr ⟨i,hi,h,rfl⟩))⟩⟩
structure zCg(wr:World)(bs n k:Nat)(f:Nat->zm)(kb:Nat->Nat)(kv:Nat->Value):Prop where
 rows:∀j,j<n->zAG wr bs(0+j*8)(kb j)(kv j)(if j<k then f j else zHI)
 zRW:zA6 kb k f
 zRY:∀j,j<k->0<(f j).dn->bs<kb j/\kb j<wr.heap.size
theorem zCg.zRJ{wr w':World}{bs n k:Nat}{f:Nat->zm}{kb:Nat->Nat}{kv:Nat->Value}(h:zCg wr bs n k f kb kv)(t:Below wr.heap.size wr w'):zCg w' bs n k f kb kv:=
 ⟨fun j hj=>(h.rows j hj).zRJ t,h.zRW,fun j hj h0=>by have:=h.zRY j hj h0;have:=t.size;omega⟩
theorem zCg.next{wr w1:World}{bs n k b:Nat}{f:Nat->zm}{kb:Nat->Nat}{kv:Nat->Value}{v:Value}(h:zCg wr bs n k f kb kv)(hk:k<n)(dA:bs<wr.heap.size)(t:Below wr.heap.size wr w1)
  (hp:zj w1 b v(f k).dn(f k).ds(f k).db)(hb:wr.heap.size<=b)(cA:b<w1.heap.size)(hs:(f k).name.size<=maxLen/\(f k).set.size<=maxLen) :
  zCg((((((((w1.setCell ⟨bs,0+k*8,none⟩(.int .i64(f k).id)).setCell ⟨bs,0+k*8+1,none⟩(.string(f k).name)).setCell ⟨bs,0+k*8+2,none⟩(.string(f k).set)).setCell ⟨bs,0+k*8+3,none⟩(.int .i64(f k).zRT)).setCell ⟨bs,0+k*8+4,none⟩(.int .i64(f k).time)).setCell ⟨bs,0+k*8+5,none⟩(.int .i64(f k).rs)).setCell ⟨bs,0+k*8+6,none⟩(.int .i64(f k).rb)).setCell ⟨bs,0+k*8+7,none⟩ v) bs n(k+1) f(fun j=>if j=k then b else kb j)(fun j=>if j=k then v else kv j):=by
 have h':=h.zRJ t;refine⟨fun j hj=>?_,fun i j hi hj bA h1 h2=>?_,fun j hj h0=>?_⟩
 ·have aA:=h'.rows j hj;by_cases e:j=k
  ·subst e;simp only [if_true];rw [if_pos(by omega)];refine⟨?_,?_,?_,?_,?_,?_,?_,?_,?_,hs,fun _=>by omega⟩
   ·exact(((((((aA.c0.set _).zRK _(Or.inr(by omega))).zRK _(Or.inr(by omega))).zRK _(Or.inr(by omega))).zRK _(Or.inr(by omega))).zRK _(Or.inr(by omega))).zRK _(Or.inr(by omega))).zRK _(Or.inr(by omega))
   ·exact(((((((aA.c1.zRK _(Or.inr(by omega))).set _).zRK _(Or.inr(by omega))).zRK _(Or.inr(by omega))).zRK _(Or.inr(by omega))).zRK _(Or.inr(by omega))).zRK _(Or.inr(by omega))).zRK _(Or.inr(by omega))
   ·exact(((((((aA.c2.zRK _(Or.inr(by omega))).zRK _(Or.inr(by omega))).set _).zRK _(Or.inr(by omega))).zRK _(Or.inr(by omega))).zRK _(Or.inr(by omega))).zRK _(Or.inr(by omega))).zRK _(Or.inr(by omega))
   ·exact(((((((aA.c3.zRK _(Or.inr(by omega))).zRK _(Or.inr(by omega))).zRK _(Or.inr(by omega))).set _).zRK _(Or.inr(by omega))).zRK _(Or.inr(by omega))).zRK _(Or.inr(by omega))).zRK _(Or.inr(by omega))
   ·exact(((((((aA.c4.zRK _(Or.inr(by omega))).zRK _(Or.inr(by omega))).zRK _(Or.inr(by omega))).zRK _(Or.inr(by omega))).set _).zRK _(Or.inr(by omega))).zRK _(Or.inr(by omega))).zRK _(Or.inr(by omega))
   ·exact(((((((aA.c5.zRK _(Or.inr(by omega))).zRK _(Or.inr(by omega))).zRK _(Or.inr(by omega))).zRK _(Or.inr(by omega))).zRK _(Or.inr(by omega))).set _).zRK _(Or.inr(by omega))).zRK _(Or.inr(by omega))
   ·exact(((((((aA.c6.zRK _(Or.inr(by omega))).zRK _(Or.inr(by omega))).zRK _(Or.inr(by omega))).zRK _(Or.inr(by omega))).zRK _(Or.inr(by omega))).zRK _(Or.inr(by omega))).set _).zRK _(Or.inr(by omega))
   ·exact(((((((aA.c7.zRK _(Or.inr(by omega))).zRK _(Or.inr(by omega))).zRK _(Or.inr(by omega))).zRK _(Or.inr(by omega))).zRK _(Or.inr(by omega))).zRK _(Or.inr(by omega))).zRK _(Or.inr(by omega))).set _
   ·exact(((((((hp.put _(by omega)).put _(by omega)).put _(by omega)).put _(by omega)).put _(by omega)).put _(by omega)).put _(by omega)).put _(by omega)
  ·simp only [if_neg e];have es:(if j<k+1 then f j else zHI)=if j<k then f j else zHI:=by
    by_cases e2:j<k
    ·rw [if_pos e2,if_pos(by omega)]
    ·rw [if_neg e2,if_neg(by omega)]
   rw [es];refine⟨?_,?_,?_,?_,?_,?_,?_,?_,?_,aA.zRZ,aA.zRW⟩
   ·exact(((((((aA.c0.zRK _(Or.inr(by omega))).zRK _(Or.inr(by omega))).zRK _(Or.inr(by omega))).zRK _(Or.inr(by omega))).zRK _(Or.inr(by omega))).zRK _(Or.inr(by omega))).zRK _(Or.inr(by omega))).zRK _(Or.inr(by omega))
   ·exact(((((((aA.c1.zRK _(Or.inr(by omega))).zRK _(Or.inr(by omega))).zRK _(Or.inr(by omega))).zRK _(Or.inr(by omega))).zRK _(Or.inr(by omega))).zRK _(Or.inr(by omega))).zRK _(Or.inr(by omega))).zRK _(Or.inr(by omega))
   ·exact(((((((aA.c2.zRK _(Or.inr(by omega))).zRK _(Or.inr(by omega))).zRK _(Or.inr(by omega))).zRK _(Or.inr(by omega))).zRK _(Or.inr(by omega))).zRK _(Or.inr(by omega))).zRK _(Or.inr(by omega))).zRK _(Or.inr(by omega))
   ·exact(((((((aA.c3.zRK _(Or.inr(by omega))).zRK _(Or.inr(by omega))).zRK _(Or.inr(by omega))).zRK _(Or.inr(by omega))).zRK _(Or.inr(by omega))).zRK _(Or.inr(by omega))).zRK _(Or.inr(by omega))).zRK _(Or.inr(by omega))
   ·exact(((((((aA.c4.zRK _(Or.inr(by omega))).zRK _(Or.inr(by omega))).zRK _(Or.inr(by omega))).zRK _(Or.inr(by omega))).zRK _(Or.inr(by omega))).zRK _(Or.inr(by omega))).zRK _(Or.inr(by omega))).zRK _(Or.inr(by omega))
   ·exact(((((((aA.c5.zRK _(Or.inr(by omega))).zRK _(Or.inr(by omega))).zRK _(Or.inr(by omega))).zRK _(Or.inr(by omega))).zRK _(Or.inr(by omega))).zRK _(Or.inr(by omega))).zRK _(Or.inr(by omega))).zRK _(Or.inr(by omega))
   ·exact(((((((aA.c6.zRK _(Or.inr(by omega))).zRK _(Or.inr(by omega))).zRK _(Or.inr(by omega))).zRK _(Or.inr(by omega))).zRK _(Or.inr(by omega))).zRK _(Or.inr(by omega))).zRK _(Or.inr(by omega))).zRK _(Or.inr(by omega))
   ·exact(((((((aA.c7.zRK _(Or.inr(by omega))).zRK _(Or.inr(by omega))).zRK _(Or.inr(by omega))).zRK _(Or.inr(by omega))).zRK _(Or.inr(by omega))).zRK _(Or.inr(by omega))).zRK _(Or.inr(by omega))).zRK _(Or.inr(by omega))
   ·refine(((((((aA.zRX.zRR(zF.put _ _ _ _) ?_).zRR(zF.put _ _ _ _) ?_).zRR(zF.put _ _ _ _) ?_).zRR(zF.put _ _ _ _) ?_).zRR(zF.put _ _ _ _) ?_).zRR(zF.put _ _ _ _) ?_).zRR(zF.put _ _ _ _) ?_).zRR(zF.put _ _ _ _) ?_
    all_goals exact fun h0 hx=>aA.zRW h0 hx
 ·show(if i=k then b else kb i)≠(if j=k then b else kb j);by_cases e1:i=k
  ·by_cases e2:j=k
   ·omega
   ·rw [if_pos e1,if_neg e2];have:=h.zRY j(by omega) h2;omega
  ·by_cases e2:j=k
   ·rw [if_neg e1,if_pos e2];have:=h.zRY i(by omega) h1;omega
   ·rw [if_neg e1,if_neg e2];exact h.zRW i j(by omega)(by omega) bA h1 h2
 ·simp only [World.size_setCell];by_cases e:j=k
  ·rw [if_pos e];omega
  ·rw [if_neg e];have:=h'.zRY j(by omega) h0;omega
theorem zGh:(Tryz.prog.info? 99).map(fun i=>(i.zero,i.size,i.bytes))=some(some(.agg #[.int .i64 0,.string ⟨#[]⟩,.string ⟨#[]⟩,.int .i64 0,.int .i64 0,.int .i64 0,.int .i64 0,.slice none 0 0]),8,96):=by kernel_rfl
theorem zLf{w:World}{bs n j:Nat}(hj:j<n)(aA:bs=w.heap.size):zAG(w.alloc(.cells(zA0 #[.int .i64 0,.string ⟨#[]⟩,.string ⟨#[]⟩,.int .i64 0,.int .i64 0,.int .i64 0,.int .i64 0,.slice none 0 0] n) 99)) bs(0+j*8) 0(.slice none 0 0) zHI:=by
 subst aA;have c0:=qu w #[.int .i64 0,.string ⟨#[]⟩,.string ⟨#[]⟩,.int .i64 0,.int .i64 0,.int .i64 0,.int .i64 0,.slice none 0 0] n j 0 99 hj(by simp);have c1:=qu w #[.int .i64 0,.string ⟨#[]⟩,.string ⟨#[]⟩,.int .i64 0,.int .i64 0,.int .i64 0,.int .i64 0,.slice none 0 0] n j 1 99 hj(by simp);have c2:=qu w #[.int .i64 0,.string ⟨#[]⟩,.string ⟨#[]⟩,.int .i64 0,.int .i64 0,.int .i64 0,.int .i64 0,.slice none 0 0] n j 2 99 hj(by simp);have c3:=qu w #[.int .i64 0,.string ⟨#[]⟩,.string ⟨#[]⟩,.int .i64 0,.int .i64 0,.int .i64 0,.int .i64 0,.slice none 0 0] n j 3 99 hj(by simp);have c4:=qu w #[.int .i64 0,.string ⟨#[]⟩,.string ⟨#[]⟩,.int .i64 0,.int .i64 0,.int .i64 0,.int .i64 0,.slice none 0 0] n j 4 99 hj(by simp);have c5:=qu w #[.int .i64 0,.string ⟨#[]⟩,.string ⟨#[]⟩,.int .i64 0,.int .i64 0,.int .i64 0,.int .i64 0,.slice none 0 0] n j 5 99 hj(by simp);have c6:=qu w #[.int .i64 0,.string ⟨#[]⟩,.string ⟨#[]⟩,.int .i64 0,.int .i64 0,.int .i64 0,.int .i64 0,.slice none 0 0] n j 6 99 hj(by simp);have c7:=qu w #[.int .i64 0,.string ⟨#[]⟩,.string ⟨#[]⟩,.int .i64 0,.int .i64 0,.int .i64 0,.int .i64 0,.slice none 0 0] n j 7 99 hj(by simp);refine⟨?_,?_,?_,?_,?_,?_,?_,?_,⟨Nat.zero_le _,none,0,rfl,Nat.le_refl _,fun h=>absurd h(Nat.lt_irrefl _)⟩,⟨Nat.zero_le _,Nat.zero_le _⟩,fun h=>absurd h(Nat.lt_irrefl _)⟩
 ·show zX _ _ _(.int .i64 0);simpa using c0
 ·show zX _ _ _(.string ⟨#[]⟩);simpa using c1
 ·show zX _ _ _(.string ⟨#[]⟩);simpa using c2
 ·show zX _ _ _(.int .i64 0);simpa using c3
 ·show zX _ _ _(.int .i64 0);simpa using c4
 ·show zX _ _ _(.int .i64 0);simpa using c5
 ·show zX _ _ _(.int .i64 0);simpa using c6
 ·show zX _ _ _(.slice none 0 0);simpa using c7
def qZ(w:World)(S:Nat->Prop)(v0 v1:Value)(p:zJ):Prop:=
 ∃(bs hb:Nat)(kb:Nat->Nat)(kv:Nat->Value),qW w bs kb kv v0 p.n p.s/\yS kb p.n p.s/\qj w hb v1 p.hn p.h/\(0<p.hn->¬yk bs kb p.n p.s hb)/\
  ∀k,yk bs kb p.n p.s k\/(0<p.hn/\k=hb)->S k
theorem zt.isIn{w:World}{lo hi:Nat}{S:Nat->Prop}{v0 v1:Value}{p:zJ}(h:zt w lo hi v0 v1 p)(hS:∀k,lo<=k->k<hi->S k):qZ w S v0 v1 p:=by
 obtain⟨bs,hb,kb,kv,h1,h2,h3,h4,h5⟩:=h;exact⟨bs,hb,kb,kv,h1,h2,h3,h4,fun k hk=>hS k(h5 k hk).1(h5 k hk).2⟩
theorem qZ.own{w:World}{lo hi:Nat}{S:Nat->Prop}{v0 v1:Value}{p:zJ}(h:qZ w S v0 v1 p)(hS:∀k,S k->lo<=k/\k<hi):zt w lo hi v0 v1 p:=by
 obtain⟨bs,hb,kb,kv,h1,h2,h3,h4,h5⟩:=h;exact⟨bs,hb,kb,kv,h1,h2,h3,h4,fun k hk=>hS k(h5 k hk)⟩
theorem qZ.mono{w:World}{S T:Nat->Prop}{v0 v1:Value}{p:zJ}(h:qZ w S v0 v1 p)(hS:∀k,S k->T k):qZ w T v0 v1 p:=by
 obtain⟨bs,hb,kb,kv,h1,h2,h3,h4,h5⟩:=h;exact⟨bs,hb,kb,kv,h1,h2,h3,h4,fun k hk=>hS k(h5 k hk)⟩
theorem qZ.zRJ{w w':World}{S:Nat->Prop}{v0 v1:Value}{p:zJ}(h:qZ w S v0 v1 p)(t:Below w.heap.size w w'):qZ w' S v0 v1 p:=by
 obtain⟨bs,hb,kb,kv,h1,h2,h3,h4,h5⟩:=h;exact⟨bs,hb,kb,kv,h1.zRJ t,h2,h3.zRJ t,h4,h5⟩
theorem qZ.zRR{S T:Nat->Prop}{w w':World}{v0 v1:Value}{p:zJ}(h:qZ w S v0 v1 p)(t:zF T w w')(hs:∀k,S k->¬T k):qZ w' S v0 v1 p:=by
 obtain⟨bs,hb,kb,kv,h1,h2,h3,h4,h5⟩:=h;have out:∀k,yk bs kb p.n p.s k\/(0<p.hn/\k=hb)->¬T k:=fun k hk=>hs k(h5 k hk)
 exact⟨bs,hb,kb,kv,h1.zRR t(fun h0=>out _(Or.inl(Or.inl ⟨h0,rfl⟩)))(fun i hi h=>out _(Or.inl(Or.inr ⟨i,hi,h,rfl⟩))),h2,h3.zRR t(fun h0=>out _(Or.inr ⟨h0,rfl⟩)),h4,h5⟩
theorem qZ.at{w:World}{S:Nat->Prop}{lo hi:Nat}{v0 v1:Value}{p:zJ}(h:qZ w S v0 v1 p)(hS:∀k,S k->lo<=k/\k<hi):zy w lo hi v0 v1 p:=(h.own hS).at
def zBX(w:World)(S:Nat->Prop)(v:Value)(n:Nat)(f:Nat->qC):Prop:=∃(bs:Nat)(kb:Nat->Nat)(kv:Nat->Value),yN w bs kb kv v n f/\zBJ kb n f/\∀k,zCA bs kb n f k->S k
def zAp(w:World)(S:Nat->Prop)(v:Value)(n:Nat)(f:Nat->zm):Prop:=∃(bs:Nat)(kb:Nat->Nat)(kv:Nat->Value),yU w bs kb kv v n f/\zA6 kb n f/\∀k,zB6 bs kb n f k->S k
theorem zBX.zRR{S T:Nat->Prop}{w w':World}{v:Value}{n:Nat}{f:Nat->qC}(h:zBX w S v n f)(t:zF T w w')(hs:∀k,S k->¬T k):zBX w' S v n f:=by
 obtain⟨bs,kb,kv,h1,h2,h3⟩:=h;exact⟨bs,kb,kv,h1.zRR t(fun k hk=>hs k(h3 k hk)),h2,h3⟩
theorem zAp.zRR{S T:Nat->Prop}{w w':World}{v:Value}{n:Nat}{f:Nat->zm}(h:zAp w S v n f)(t:zF T w w')(hs:∀k,S k->¬T k):zAp w' S v n f:=by
 obtain⟨bs,kb,kv,h1,h2,h3⟩:=h;exact⟨bs,kb,kv,h1.zRR t(fun k hk=>hs k(h3 k hk)),h2,h3⟩
theorem zBX.zRJ{S:Nat->Prop}{w w':World}{v:Value}{n:Nat}{f:Nat->qC}(h:zBX w S v n f)(t:Below w.heap.size w w'):zBX w' S v n f:=by
 obtain⟨bs,kb,kv,h1,h2,h3⟩:=h;exact⟨bs,kb,kv,h1.zRJ t,h2,h3⟩
theorem zAp.zRJ{S:Nat->Prop}{w w':World}{v:Value}{n:Nat}{f:Nat->zm}(h:zAp w S v n f)(t:Below w.heap.size w w'):zAp w' S v n f:=by
 obtain⟨bs,kb,kv,h1,h2,h3⟩:=h;exact⟨bs,kb,kv,h1.zRJ t,h2,h3⟩
theorem zBX.at{S:Nat->Prop}{w:World}{v:Value}{n:Nat}{f:Nat->qC}(h:zBX w S v n f){lo hi:Nat}(hs:∀k,S k->lo<=k/\k<hi):yZ w lo hi v n f:=by
 obtain⟨bs,kb,kv,h1,h2,h3⟩:=h;exact h1.at(fun k hk=>hs k(h3 k hk))
theorem zAp.at{S:Nat->Prop}{w:World}{v:Value}{n:Nat}{f:Nat->zm}(h:zAp w S v n f){lo hi:Nat}(hs:∀k,S k->lo<=k/\k<hi):qz w lo hi v n f:=by
 obtain⟨bs,kb,kv,h1,h2,h3⟩:=h;exact h1.at(fun k hk=>hs k(h3 k hk))
theorem zBX.form{S:Nat->Prop}{w:World}{v:Value}{n:Nat}{f:Nat->qC}(h:zBX w S v n f):∃a c,v = .slice a n c/\n<=c:=by
 obtain⟨bs,kb,kv,⟨_,a,c,hv,hc,_⟩,h2,h3⟩:=h;exact⟨a,c,hv,hc⟩
theorem zAp.form{S:Nat->Prop}{w:World}{v:Value}{n:Nat}{f:Nat->zm}(h:zAp w S v n f):∃a c,v = .slice a n c/\n<=c:=by
 obtain⟨bs,kb,kv,⟨_,a,c,hv,hc,_⟩,h2,h3⟩:=h;exact⟨a,c,hv,hc⟩
theorem qZ.form{w:World}{S:Nat->Prop}{v0 v1:Value}{p:zJ}(h:qZ w S v0 v1 p):∃a c a' c',v0 = .slice a p.n c/\v1 = .slice a' p.hn c':=by
 obtain⟨bs,hb,kb,kv,⟨_,a,c,h1,_⟩,h2,⟨_,a',c',h3,_,_⟩,h4,h5⟩:=h;exact⟨a,c,a',c',h1,h3⟩
structure zCI(w:World)(P Q R:Nat->Prop)(v0 v1 v2 v3:Value)(W:zH):Prop where
 zRQ:qZ w P v0 v1 W.zRQ
 zRS:zBX w Q v2 W.sn W.zRS
 zRP:zAp w R v3 W.pn W.zRP
 pq:∀k,P k->¬Q k
 pr:∀k,P k->¬R k
 qr:∀k,Q k->¬R k
def qO(w:World)(lo hi:Nat)(v0 v1 v2 v3:Value)(W:zH):Prop:=∃P Q R,zCI w P Q R v0 v1 v2 v3 W/\∀k,P k\/Q k\/R k->lo<=k/\k<hi
theorem qO.at{w:World}{lo hi:Nat}{v0 v1 v2 v3:Value}{W:zH}(h:qO w lo hi v0 v1 v2 v3 W):zl w lo hi v0 v1 v2 v3 W:=by
 obtain⟨P,Q,R,h,hl⟩:=h;exact⟨h.zRQ.at(fun k hk=>hl k(Or.inl hk)),h.zRS.at(fun k hk=>hl k(Or.inr(Or.inl hk))),h.zRP.at(fun k hk=>hl k(Or.inr(Or.inr hk)))⟩
theorem zCI.zRJ{P Q R:Nat->Prop}{w w':World}{v0 v1 v2 v3:Value}{W:zH}(h:zCI w P Q R v0 v1 v2 v3 W)(t:Below w.heap.size w w'):zCI w' P Q R v0 v1 v2 v3 W:=
 ⟨h.zRQ.zRJ t,h.zRS.zRJ t,h.zRP.zRJ t,h.pq,h.pr,h.qr⟩
theorem qO.zRJ{w w':World}{lo hi:Nat}{v0 v1 v2 v3:Value}{W:zH}(h:qO w lo hi v0 v1 v2 v3 W)(t:Below w.heap.size w w'):qO w' lo hi v0 v1 v2 v3 W:=by
 obtain⟨P,Q,R,h,hl⟩:=h;exact⟨P,Q,R,h.zRJ t,hl⟩
theorem zCI.zRR{P Q R T:Nat->Prop}{w w':World}{v0 v1 v2 v3:Value}{W:zH}(h:zCI w P Q R v0 v1 v2 v3 W)(t:zF T w w')(hs:∀k,P k\/Q k\/R k->¬T k):zCI w' P Q R v0 v1 v2 v3 W:=
 ⟨h.zRQ.zRR t(fun k hk=>hs k(Or.inl hk)),h.zRS.zRR t(fun k hk=>hs k(Or.inr(Or.inl hk))),h.zRP.zRR t(fun k hk=>hs k(Or.inr(Or.inr hk))),h.pq,h.pr,h.qr⟩
theorem qO.zRR{S:Nat->Prop}{w w':World}{lo hi:Nat}{v0 v1 v2 v3:Value}{W:zH}(h:qO w lo hi v0 v1 v2 v3 W)(t:zF S w w')(hs:∀k,S k->k<lo\/hi<=k):qO w' lo hi v0 v1 v2 v3 W:=by
 obtain⟨P,Q,R,h,hl⟩:=h;exact⟨P,Q,R,h.zRR t(fun k hk hx=>by have:=hl k hk;have:=hs k hx;omega),hl⟩
theorem qO.zRO{w:World}{lo hi lo' hi':Nat}{v0 v1 v2 v3:Value}{W:zH}(h:qO w lo hi v0 v1 v2 v3 W)(h1:lo'<=lo)(h2:hi<=hi'):qO w lo' hi' v0 v1 v2 v3 W:=by
 obtain⟨P,Q,R,h,hl⟩:=h;exact⟨P,Q,R,h,fun k hk=>by have:=hl k hk;omega⟩
theorem qO.form{w:World}{lo hi:Nat}{v0 v1 v2 v3:Value}{W:zH}(h:qO w lo hi v0 v1 v2 v3 W):∃a0 c0 a1 c1 a2 c2 a3 c3,v0 = .slice a0 W.zRQ.n c0/\v1 = .slice a1 W.zRQ.hn c1/\v2 = .slice a2 W.sn c2/\v3 = .slice a3 W.pn c3:=by
 obtain⟨P,Q,R,h,hl⟩:=h;obtain⟨a0,c0,a1,c1,e0,e1⟩:=h.zRQ.form;obtain⟨a2,c2,e2,-⟩:=h.zRS.form;obtain⟨a3,c3,e3,-⟩:=h.zRP.form;exact⟨a0,c0,a1,c1,a2,c2,a3,c3,e0,e1,e2,e3⟩
theorem zl.form{w:World}{lo hi:Nat}{v0 v1 v2 v3:Value}{W:zH}(h:zl w lo hi v0 v1 v2 v3 W):∃a0 c0 a1 c1 a2 c2 a3 c3,v0 = .slice a0 W.zRQ.n c0/\v1 = .slice a1 W.zRQ.hn c1/\v2 = .slice a2 W.sn c2/\v3 = .slice a3 W.pn c3:=by
 obtain⟨a0,c0,a1,c1,e0,e1⟩:=h.zRQ.form;obtain⟨-,a2,c2,e2,-⟩:=h.zRS;obtain⟨-,a3,c3,e3,-⟩:=h.zRP;exact⟨a0,c0,a1,c1,a2,c2,a3,c3,e0,e1,e2,e3⟩
def zPG(W:zH)(w:World)(e:Ending)(w':World):Prop:=∃v0 v1 v2 v3,e = .returned(zz v0 v1 v2 v3 W)/\qO w' w.heap.size w'.heap.size v0 v1 v2 v3 W/\Below w.heap.size w w'
theorem yZ.zRO{w:World}{lo hi lo' hi':Nat}{v:Value}{n:Nat}{f:Nat->qC}(h:yZ w lo hi v n f)(h1:lo'<=lo)(h2:hi<=hi')(hp:∀{v n f g},zR w lo hi v n f g->zR w lo' hi' v n f g):yZ w lo' hi' v n f:=by
 obtain⟨m,a,c,hv,hc,hx⟩:=h;refine⟨m,a,c,hv,hc,fun h0=>?_⟩;obtain⟨b,off,ha,l1,l2,h3⟩:=hx h0;refine⟨b,off,ha,by omega,by omega,fun i hi=>?_⟩;obtain⟨vd,hs⟩:=h3 i hi;exact⟨vd,hs.c0,hs.c1,hs.c2,hs.c3,hs.c4,hs.c5,hp hs.zRX,hs.zRZ⟩
theorem qz.zRO{w:World}{lo hi lo' hi':Nat}{v:Value}{n:Nat}{f:Nat->zm}(h:qz w lo hi v n f)(h1:lo'<=lo)(h2:hi<=hi')(hp:∀{v n f g},zR w lo hi v n f g->zR w lo' hi' v n f g):qz w lo' hi' v n f:=by
 obtain⟨m,a,c,hv,hc,hx⟩:=h;refine⟨m,a,c,hv,hc,fun h0=>?_⟩;obtain⟨b,off,ha,l1,l2,h3⟩:=hx h0;refine⟨b,off,ha,by omega,by omega,fun i hi=>?_⟩;obtain⟨vd,hs⟩:=h3 i hi;exact⟨vd,hs.c0,hs.c1,hs.c2,hs.c3,hs.c4,hs.c5,hs.c6,hs.c7,hp hs.zRX,hs.zRZ⟩
theorem zR.zRO{w:World}{lo hi lo' hi':Nat}{v:Value}{n:Nat}{f g:Nat->Int}(h:zR w lo hi v n f g)(h1:lo'<=lo)(h2:hi<=hi'):zR w lo' hi' v n f g:=by
 obtain⟨m,a,c,hv,hc,hx⟩:=h;refine⟨m,a,c,hv,hc,fun h0=>?_⟩;obtain⟨b,off,ha,l1,l2,h3⟩:=hx h0;exact⟨b,off,ha,by omega,by omega,h3⟩
theorem qT.zRO{w:World}{lo hi lo' hi':Nat}{v:Value}{n:Nat}{f:Nat->Int}(h:qT w lo hi v n f)(h1:lo'<=lo)(h2:hi<=hi'):qT w lo' hi' v n f:=by
 obtain⟨m,a,c,hv,hc,hx⟩:=h;refine⟨m,a,c,hv,hc,fun h0=>?_⟩;obtain⟨b,off,ha,l1,l2,h3⟩:=hx h0;exact⟨b,off,ha,by omega,by omega,h3⟩
theorem qA.zRO{w:World}{lo hi lo' hi':Nat}{v:Value}{n:Nat}{f:Nat->zL}(h:qA w lo hi v n f)(h1:lo'<=lo)(h2:hi<=hi'):qA w lo' hi' v n f:=by
 obtain⟨m,a,c,hv,hc,hx⟩:=h;refine⟨m,a,c,hv,hc,fun h0=>?_⟩;obtain⟨b,off,ha,l1,l2,h3⟩:=hx h0;refine⟨b,off,ha,by omega,by omega,fun i hi=>?_⟩;obtain⟨x0,x1,x2,c0,c1,c2,e0,hp,e2,hs⟩:=h3 i hi;exact⟨x0,x1,x2,c0,c1,c2,e0,hp.zRO h1 h2,e2,hs⟩
theorem zl.zRO{w:World}{lo hi lo' hi':Nat}{v0 v1 v2 v3:Value}{W:zH}(h:zl w lo hi v0 v1 v2 v3 W)(h1:lo'<=lo)(h2:hi<=hi'):zl w lo' hi' v0 v1 v2 v3 W:=
 ⟨⟨h.zRQ.1.zRO h1 h2,h.zRQ.2.zRO h1 h2⟩,h.zRS.zRO h1 h2(fun hp=>hp.zRO h1 h2),h.zRP.zRO h1 h2(fun hp=>hp.zRO h1 h2)⟩
theorem zI2(v:Value)(n lo hi:Nat)(f g:Nat->Int)(w:World)(h1:zR w lo hi v n f g)(hn:n<=1048576) :
  Calls Tryz.prog 171 #[v] w fun e w'=>(∃v' kb,e = .returned v'/\zj w' kb v' n f g/\(0<n->w.heap.size<=kb/\kb<w'.heap.size))/\Below w.heap.size w w':=by
 obtain⟨m1,a,c,rfl,mc,g1⟩:=h1;have G1:Hid(0<n->∃b off,a=some ⟨b,off,none⟩/\lo<=b/\b<hi/\∀i,i<n->w.cell? ⟨b,off+i*2,none⟩=some(.int .i64(f i))/\w.cell? ⟨b,off+i*2+1,none⟩=some(.int .i64(g i))):=g1;have Hm:Hid(n<=maxLen):=m1;clear g1 m1;have mA:=fun w=>Lib.run_eql_slice_nil(P:=Tryz.prog) w 62 61 a n c 0 0(by kernel_rfl)
 cases a with
 |none=>
  have lA:n=0:=by
   by_cases h:0<n
   ·obtain⟨b,off,ha,_⟩:=G1.out h;simp at ha
   ·omega
  subst lA;go_enter Tryz.func171,Tryz.ntmps171;go_wp2;go_ret;exact⟨⟨_,0,rfl,⟨Nat.zero_le _,none,0,rfl,Nat.le_refl _,fun h=>absurd h(Nat.lt_irrefl _)⟩,fun h=>absurd h(Nat.lt_irrefl _)⟩,Below.refl _ _⟩
 |some ad=>
  obtain⟨i0,hi,hzz⟩:=Option.map_eq_some_iff.1 zCR;simp only [Prod.mk.injEq] at hzz;obtain⟨hz,hs,hby⟩:=hzz;have fA:∀(w':World),Below w.heap.size w w'->∀j u,(kc f g n)[j]?=some u->w'.cell?(ad.add j)=some u:=fun w' hb j u hj=>by
   by_cases h0:0<n
   ·obtain⟨b,off,ha,_,_,hc⟩:=G1.out h0;simp only [Option.some.injEq] at ha;subst ha;have:=zFu hc j u hj;have iA:(⟨b,off,none⟩:Addr).add j=⟨b,off+j,none⟩:=(by unfold Addr.add;split<;>simp_all);rw [iA] at this ⊢;exact(hb.cell(zD this)).trans this
   ·obtain rfl:n=0:=(by omega);simp [kc] at hj
  have gA:Hid(∀(w':World),Below w.heap.size w w'->∀j u,(kc f g n)[j]?=some u->w'.cell?(ad.add j)=some u):=fA;have HI:Hid(Tryz.prog.info? 61=some i0/\i0.zero=some(.agg #[.int .i64 0,.int .i64 0])/\i0.size=2/\i0.bytes=16):=⟨hi,hz,hs,hby⟩;have bA:(w.alloc(.cells #[] 61)).ownsRow w.heap.size 61 2(.slice(some ⟨w.heap.size,0,none⟩) 0 0) 0 []:=World.ownsRow_made w #[] 0(Nat.le_refl _)(Nat.zero_le _)(by simp);have dA:Hid((w.alloc(.cells #[] 61)).ownsRow w.heap.size 61 2(.slice(some ⟨w.heap.size,0,none⟩) 0 0) 0 []):=bA;clear hi hz hs hby fA bA;go_enter Tryz.func171,Tryz.ntmps171;go_wp2_with(first
   |(at_builtin;refine wpList_append_own _ rfl _ _ 62 rfl w.heap.size 61 i0(.agg #[.int .i64 0,.int .i64 0]) 2 16(by kernel_rfl) HI.out.1 HI.out.2.1 HI.out.2.2.1 HI.out.2.2.2 rfl(by decide) _ _ _ rfl dA.out ad n c(kc f g n) rfl(zEH f g n) ?c1(zKF f g n) ?c3 ?c4 ?c5 ?_))
  case c1=>exact gA.out _((Below.refl _ _).alloc(Nat.le_refl _) _)
  case c3=>unfold maxLen;omega
  case c4=>omega
  case c5=>simp
  intro v' w1 cA aA jA;have kA:Below w.heap.size w w1:=((Below.refl _ _).alloc(Nat.le_refl _) _).grown aA(by simp)(fun q hq=>by have:=dA.out.lt q hq;omega);have eA:w1.ownsRow w.heap.size 61 2 v' n(kc f g n):=(by simpa using cA);obtain⟨kb,hp,hk⟩:=zCG Hm.out eA;have Hp:Hid(zj w1 kb v' n f g/\(0<n->w.heap.size<=kb/\kb<w1.heap.size)):=⟨hp,hk⟩;clear hp hk cA eA aA jA;go_wp2;go_ret;exact⟨⟨v',kb,rfl,Hp.out.1,Hp.out.2⟩,kA⟩
end Go.Proofs.YtmgeglgboadfiaaGreatDoor
