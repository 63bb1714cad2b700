/- A part of the proof. -/
import Derived.WalkKit
import Derived.WalkSpells
import Derived.WalkLawsBesides
import Derived.Scope
import Derived.WalkMore
import Derived.Test.YtgabgheflgjgiaaGreatDoorProg
import GoSem.ClaimJoined
import GoSem.ClaimMapViews
import Derived.JoinedTies
import Derived.KernelRfl
import Derived.RowKit
import Derived.Deep.OwnRows
import Derived.Deep.AppendLies
import Derived.Deep.WholeRow
set_option linter.unusedVariables false
set_option maxRecDepth 20000
set_option maxHeartbeats 4000000
namespace Go.Proofs.YtgabgheflgjgiaaGreatDoor
open Go.RowKit
def zK(P:Prop)(e:Ending):Prop:=∃b:Bool,e = .returned (.bool b)/\(b=true↔P)
theorem zK.yes{P:Prop}(h:P):zK P (.returned (.bool true)):=⟨true,rfl,by simp[h]⟩
theorem zK.no{P:Prop}(h:¬P):zK P (.returned (.bool false)):=⟨false,rfl,by simp[h]⟩
theorem qE{n k:Nat}{P:Nat->Prop}(hk:k<n)(h:∀i,i<k->P i)(hp:P k):∀i,i<k+1->P i:=fun i hi=>by
 by_cases e:i=k
 ·subst e;exact hp
 ·exact h i (by omega)
theorem zV{B:Nat}{w w':World}(h:Below B w w')(n:Nat):Below B w (w'.drewN n):=⟨h.os,h.tape,h.output,h.size,h.block⟩
theorem zDJ{s t:ByteArray}(h:s=t):(s.toList == t.toList)=true:=by simp[h]
theorem zBK{s t:ByteArray}(h:¬s=t):(s.toList == t.toList)=false:=by
 rw[beq_eq_false_iff_ne];intro e;rw[Go.ByteArray.toList_eq,Go.ByteArray.toList_eq]at e;apply h;cases s;cases t;simp only[ByteArray.mk.injEq]at *;exact Array.toList_inj.1 e
theorem zJ{w w1:World}(h:Below w.drew.heap.size w.drew w1):Below w.heap.size w w1:=⟨h.os,h.tape,h.output,h.size,h.block⟩
theorem yw{w wr w1:World}(hb:Below w.heap.size w wr)(h1:Below wr.drew.heap.size wr.drew w1):Below w.heap.size w w1:=
 hb.drew.trans (h1.mono hb.size)
theorem zA{w wr w1:World}(hb:Below w.heap.size w wr)(h1:Below wr.heap.size wr w1):Below w.heap.size w w1:=
 hb.trans (h1.mono hb.size)
structure zO where
 zO1:Int
 kn:Nat
 ks:Nat->Int
 kb:Nat->Int
 data:ByteArray
structure zI where
 n:Nat
 s:Nat->zO
 hn:Nat
 h:Nat->Int
def zGU(a b c d:Int):Prop:=a=c/\b=d
def zMB(n n':Nat)(f g f' g':Nat->Int):Prop:=n=n'/\∀i,i<n->f i=f' i/\g i=g' i
def zER(s t:zO):Prop:=s.zO1=t.zO1/\zMB s.kn t.kn s.ks s.kb t.ks t.kb/\s.data=t.data
theorem zER.symm{s t:zO}(h:zER s t):zER t s:=
 ⟨h.1.symm,⟨h.2.1.1.symm,fun i hi=>⟨(h.2.1.2 i (h.2.1.1▸hi)).1.symm,(h.2.1.2 i (h.2.1.1▸hi)).2.symm⟩⟩,h.2.2.symm⟩
theorem zD{w:World}{b o:Nat}{v:Value}(h:w.cell? ⟨b,o,none⟩=some v):b<w.heap.size:=by
 simp only[World.cell?]at h;by_cases hb:b<w.heap.size
 ·exact hb
 ·rw[Array.getElem?_eq_none (by omega)]at h;simp at h
def zAb(w:World)(lo hi:Nat)(v:Value)(n:Nat)(f:Nat->Int):Prop:=
 n<=maxLen/\∃a cap,v = .slice a n cap/\n<=cap/\(0<n->∃b off,a=some ⟨b,off,none⟩/\lo<=b/\b<hi/\∀i,i<n->w.cell? ⟨b,off+i,none⟩=some (.int .i64 (f i)))
def zp(w:World)(lo hi:Nat)(v:Value)(n:Nat)(fs fb:Nat->Int):Prop:=
 n<=maxLen/\∃a cap,v = .slice a n cap/\n<=cap/\(0<n->∃b off,a=some ⟨b,off,none⟩/\lo<=b/\b<hi/\∀i,i<n->w.cell? ⟨b,off+i*2,none⟩=some (.int .i64 (fs i))/\w.cell? ⟨b,off+i*2+1,none⟩=some (.int .i64 (fb i)))
def zBQ(w:World)(lo hi:Nat)(v0 v1 v2:Value)(s:zO):Prop:=
 v0 = .int .i64 s.zO1/\zp w lo hi v1 s.kn s.ks s.kb/\v2 = .string s.data/\s.data.size<=maxLen
def zBe(w:World)(lo hi:Nat)(v:Value)(n:Nat)(f:Nat->zO):Prop:=
 n<=maxLen/\∃a cap,v = .slice a n cap/\n<=cap/\(0<n->∃b off,a=some ⟨b,off,none⟩/\lo<=b/\b<hi/\∀i,i<n->∃v0 v1 v2,w.cell? ⟨b,off+i*3,none⟩=some v0/\w.cell? ⟨b,off+i*3+1,none⟩=some v1/\w.cell? ⟨b,off+i*3+2,none⟩=some v2/\zBQ w lo hi v0 v1 v2 (f i))
def qm(w:World)(lo hi:Nat)(v0 v1:Value)(p:zI):Prop:=zBe w lo hi v0 p.n p.s/\zAb w lo hi v1 p.hn p.h
theorem zAb.zOp{w w':World}{lo hi:Nat}{v:Value}{n:Nat}{f:Nat->Int}(h:zAb w lo hi v n f)(s:Below w.heap.size w w'):zAb w' lo hi v n f:=by
 obtain⟨h0,a,cap,hv,aA,hc⟩:=h;refine⟨h0,a,cap,hv,aA,fun hn=>?_⟩;obtain⟨b,off,ha,h1,h2,h3⟩:=hc hn;exact⟨b,off,ha,h1,h2,fun i hi=>(s.cell (zD (h3 i hi))).trans (h3 i hi)⟩
theorem zp.zOp{w w':World}{lo hi:Nat}{v:Value}{n:Nat}{f g:Nat->Int}(h:zp w lo hi v n f g)(s:Below w.heap.size w w'):zp w' lo hi v n f g:=by
 obtain⟨h0,a,cap,hv,aA,hc⟩:=h;refine⟨h0,a,cap,hv,aA,fun hn=>?_⟩;obtain⟨b,off,ha,h1,h2,h3⟩:=hc hn;exact⟨b,off,ha,h1,h2,fun i hi=>⟨(s.cell (zD (h3 i hi).1)).trans (h3 i hi).1,(s.cell (zD (h3 i hi).2)).trans (h3 i hi).2⟩⟩
theorem zBQ.zOp{w w':World}{lo hi:Nat}{v0 v1 v2:Value}{t:zO}(h:zBQ w lo hi v0 v1 v2 t)(s:Below w.heap.size w w'):zBQ w' lo hi v0 v1 v2 t:=
 ⟨h.1,h.2.1.zOp s,h.2.2⟩
theorem zBe.zOp{w w':World}{lo hi:Nat}{v:Value}{n:Nat}{f:Nat->zO}(h:zBe w lo hi v n f)(s:Below w.heap.size w w'):zBe w' lo hi v n f:=by
 obtain⟨h0,a,cap,hv,aA,hc⟩:=h;refine⟨h0,a,cap,hv,aA,fun hn=>?_⟩;obtain⟨b,off,ha,h1,h2,h3⟩:=hc hn;refine⟨b,off,ha,h1,h2,fun i hi=>?_⟩;obtain⟨v0,v1,v2,c0,c1,c2,hs⟩:=h3 i hi;exact⟨v0,v1,v2,(s.cell (zD c0)).trans c0,(s.cell (zD c1)).trans c1,(s.cell (zD c2)).trans c2,hs.zOp s⟩
theorem qm.zOp{w w':World}{lo hi:Nat}{v0 v1:Value}{p:zI}(h:qm w lo hi v0 v1 p)(s:Below w.heap.size w w'):qm w' lo hi v0 v1 p:=⟨h.1.zOp s,h.2.zOp s⟩
structure zE (S:Nat->Prop) (w w':World):Prop where
 os:w'.os=w.os
 tape:w'.tape=w.tape
 output:w'.output=w.output
 size:w.heap.size<=w'.heap.size
 block:∀k,k<w.heap.size->¬S k->w'.heap[k]?=w.heap[k]?
theorem zE.refl(S:Nat->Prop)(w:World):zE S w w:=⟨rfl,rfl,rfl,Nat.le_refl _,fun _ _ _=>rfl⟩
theorem zE.trans{S:Nat->Prop}{a b c:World}(h:zE S a b)(k:zE S b c):zE S a c:=
 ⟨k.os.trans h.os,k.tape.trans h.tape,k.output.trans h.output,Nat.le_trans h.size k.size,fun i hi hs=>(k.block i (Nat.lt_of_lt_of_le hi h.size) hs).trans (h.block i hi hs)⟩
theorem zE.mono{S T:Nat->Prop}{a b:World}(h:zE S a b)(aA:∀k,S k->T k):zE T a b:=
 ⟨h.os,h.tape,h.output,h.size,fun i hi hs=>h.block i hi (fun x=>hs (aA i x))⟩
theorem zE.zOs{S:Nat->Prop}{w w':World}(h:Below w.heap.size w w'):zE S w w':=⟨h.os,h.tape,h.output,h.size,fun k hk _=>h.block k hk⟩
theorem zE.zOp{S:Nat->Prop}{w w':World}(h:zE S w w'){B:Nat}(hB:B<=w.heap.size)(hs:∀k,S k->B<=k):Below B w w':=
 ⟨h.os,h.tape,h.output,h.size,fun k hk=>h.block k (by omega) (fun x=>by have:=hs k x;omega)⟩
theorem zE.setCell{S:Nat->Prop}{w w':World}(h:zE S w w'){p:Addr}(hp:S p.block)(u:Value):zE S w (w'.setCell p u):=
 h.trans ⟨rfl,rfl,rfl,by simp,fun k _ hs=>Below.heap_setCell _ _ _ _ (fun e=>hs (e▸hp))⟩
theorem zE.put(w:World)(b o:Nat)(u:Value):zE (fun k=>k=b) w (w.setCell ⟨b,o,none⟩ u):=
 (zE.refl (fun k=>k=b) w).setCell (p:=⟨b,o,none⟩) rfl u
theorem zE.cell{S:Nat->Prop}{w w':World}(h:zE S w w'){b o:Nat}(hb:b<w.heap.size)(hs:¬S b):w'.cell? ⟨b,o,none⟩=w.cell? ⟨b,o,none⟩:=
 World.cell?_of_block (w:=w) (h.block b hb hs)
theorem zE.frozen{S:Nat->Prop}{w w':World}(h:zE S w w'){b o:Nat}(hb:b<w.heap.size)(hs:¬S b):w'.frozen? ⟨b,o,none⟩=w.frozen? ⟨b,o,none⟩:=
 World.frozen?_of_block (w:=w) (h.block b hb hs)
def zT(w:World)(b o:Nat)(v:Value):Prop:=w.cell? ⟨b,o,none⟩=some v/\w.frozen? ⟨b,o,none⟩=false
theorem zT.lt{w:World}{b o:Nat}{v:Value}(h:zT w b o v):b<w.heap.size:=zD h.1
theorem zT.zOr{S:Nat->Prop}{w w':World}{b o:Nat}{v:Value}(h:zT w b o v)(t:zE S w w')(hs:¬S b):zT w' b o v:=
 ⟨(t.cell h.lt hs).trans h.1,(t.frozen h.lt hs).trans h.2⟩
theorem zT.zOp{w w':World}{b o:Nat}{v:Value}(h:zT w b o v)(t:Below w.heap.size w w'):zT w' b o v:=
 ⟨(t.cell h.lt).trans h.1,(t.frozen h.lt).trans h.2⟩
theorem zT.set{w:World}{b o:Nat}{v:Value}(h:zT w b o v)(u:Value):zT (w.setCell ⟨b,o,none⟩ u) b o u:=
 ⟨World.cell?_setCell_same' _ _ _ (by rw[h.1];rfl),by rw[World.frozen?_setCell];exact h.2⟩
theorem zT.zOq{w:World}{b o:Nat}{v:Value}(h:zT w b o v){b' o':Nat}(u:Value)(aA:b'≠b\/o'≠o):zT (w.setCell ⟨b',o',none⟩ u) b o v:=by
 refine⟨?_,by rw[World.frozen?_setCell];exact h.2⟩;rw[World.cell?_setCell_other]
 ·exact h.1
 ·intro e;simp only[Addr.mk.injEq]at e;rcases aA with h | h
  ·exact h e.1
  ·exact h e.2.1
def zOn(w:World)(b:Nat)(a:Option Addr)(n cap:Nat):Prop:=n<cap->0<n/\a=some ⟨b,0,none⟩/\cap<=maxLen/\∃cur,w.heap[b]?=some (.cells cur 2 (0,0))/\cur.size=cap
def yy(w:World)(b:Nat)(v:Value)(n:Nat)(f:Nat->Int):Prop:=
 n<=maxLen/\∃a cap,v = .slice a n cap/\n<=cap/\(0<n->∃off,a=some ⟨b,off,none⟩/\∀i,i<n->zT w b (off+i) (.int .i64 (f i)))/\zOn w b a n cap
def ze(w:World)(b:Nat)(v:Value)(n:Nat)(fs fb:Nat->Int):Prop:=
 n<=maxLen/\∃a cap,v = .slice a n cap/\n<=cap/\(0<n->∃off,a=some ⟨b,off,none⟩/\∀i,i<n->zT w b (off+i*2) (.int .i64 (fs i))/\zT w b (off+i*2+1) (.int .i64 (fb i)))
theorem yy.at{w:World}{b:Nat}{v:Value}{n:Nat}{f:Nat->Int}(h:yy w b v n f){lo hi:Nat}(hb:0<n->lo<=b/\b<hi):zAb w lo hi v n f:=by
 obtain⟨h0,a,cap,hv,aA,hc,hr⟩:=h;refine⟨h0,a,cap,hv,aA,fun hn=>?_⟩;obtain⟨off,ha,h3⟩:=hc hn;exact⟨b,off,ha,(hb hn).1,(hb hn).2,fun i hi=>(h3 i hi).1⟩
theorem ze.at{w:World}{b:Nat}{v:Value}{n:Nat}{f g:Nat->Int}(h:ze w b v n f g){lo hi:Nat}(hb:0<n->lo<=b/\b<hi):zp w lo hi v n f g:=by
 obtain⟨h0,a,cap,hv,aA,hc⟩:=h;refine⟨h0,a,cap,hv,aA,fun hn=>?_⟩;obtain⟨off,ha,h3⟩:=hc hn;exact⟨b,off,ha,(hb hn).1,(hb hn).2,fun i hi=>⟨(h3 i hi).1.1,(h3 i hi).2.1⟩⟩
theorem yy.zOr{S:Nat->Prop}{w w':World}{b:Nat}{v:Value}{n:Nat}{f:Nat->Int}(h:yy w b v n f)(t:zE S w w')(hs:0<n->¬S b):yy w' b v n f:=by
 obtain⟨h0,a,cap,hv,bA,hc,hr⟩:=h;refine⟨h0,a,cap,hv,bA,fun hn=>?_,fun cA=>?_⟩;rotate_left
 ·obtain⟨r0,r1,r2,aA,r3,r4⟩:=hr cA;exact⟨r0,r1,r2,aA,(t.block b (Array.getElem?_eq_some_iff.1 r3).1 (hs r0)).trans r3,r4⟩
 obtain⟨off,ha,h3⟩:=hc hn;exact⟨off,ha,fun i hi=>(h3 i hi).zOr t (hs hn)⟩
theorem ze.zOr{S:Nat->Prop}{w w':World}{b:Nat}{v:Value}{n:Nat}{f g:Nat->Int}(h:ze w b v n f g)(t:zE S w w')(hs:0<n->¬S b):ze w' b v n f g:=by
 obtain⟨h0,a,cap,hv,aA,hc⟩:=h;refine⟨h0,a,cap,hv,aA,fun hn=>?_⟩;obtain⟨off,ha,h3⟩:=hc hn;exact⟨off,ha,fun i hi=>⟨(h3 i hi).1.zOr t (hs hn),(h3 i hi).2.zOr t (hs hn)⟩⟩
theorem ze.zOp{w w':World}{b:Nat}{v:Value}{n:Nat}{f g:Nat->Int}(h:ze w b v n f g)(t:Below w.heap.size w w'):ze w' b v n f g:=
 h.zOr (zE.zOs (S:=fun _=>False) t) (fun _ h=>h)
theorem yy.zOp{w w':World}{b:Nat}{v:Value}{n:Nat}{f:Nat->Int}(h:yy w b v n f)(t:Below w.heap.size w w'):yy w' b v n f:=
 h.zOr (zE.zOs (S:=fun _=>False) t) (fun _ h=>h)
structure zBt (w:World) (bs o kb:Nat) (kv:Value) (s:zO):Prop where
 zO1:zT w bs o (.int .i64 s.zO1)
 kidsv:zT w bs (o+1) kv
 data:zT w bs (o+2) (.string s.data)
 kids:ze w kb kv s.kn s.ks s.kb
 zO6:s.data.size<=maxLen
 zO4:0<s.kn->kb≠bs
theorem zBt.zOr{S:Nat->Prop}{w w':World}{bs o kb:Nat}{kv:Value}{s:zO}(h:zBt w bs o kb kv s)(t:zE S w w')(h1:¬S bs)(h2:0<s.kn->¬S kb):zBt w' bs o kb kv s:=
 ⟨h.zO1.zOr t h1,h.kidsv.zOr t h1,h.data.zOr t h1,h.kids.zOr t h2,h.zO6,h.zO4⟩
theorem zBt.zOp{w w':World}{bs o kb:Nat}{kv:Value}{s:zO}(h:zBt w bs o kb kv s)(t:Below w.heap.size w w'):zBt w' bs o kb kv s:=
 h.zOr (zE.zOs (S:=fun _=>False) t) (fun h=>h) (fun _ h=>h)
theorem zBt.at{w:World}{bs o kb:Nat}{kv:Value}{s:zO}(h:zBt w bs o kb kv s){lo hi:Nat}(hb:0<s.kn->lo<=kb/\kb<hi):zBQ w lo hi (.int .i64 s.zO1) kv (.string s.data) s:=
 ⟨rfl,h.kids.at hb,rfl,h.zO6⟩
def zAC(w:World)(bs:Nat)(kb:Nat->Nat)(kv:Nat->Value)(v:Value)(n:Nat)(f:Nat->zO):Prop:=
 n<=maxLen/\∃a cap,v = .slice a n cap/\n<=cap/\(0<n->∃off,a=some ⟨bs,off,none⟩/\∀i,i<n->zBt w bs (off+i*3) (kb i) (kv i) (f i))
def zCp(kb:Nat->Nat)(n:Nat)(f:Nat->zO):Prop:=∀i j,i<n->j<n->i≠j->0<(f i).kn->0<(f j).kn->kb i≠kb j
def zNT(lo hi bs:Nat)(kb:Nat->Nat)(n:Nat)(f:Nat->zO):Prop:=0<n->(lo<=bs/\bs<hi)/\∀i,i<n->0<(f i).kn->lo<=kb i/\kb i<hi
theorem zAC.at{w:World}{bs:Nat}{kb:Nat->Nat}{kv:Nat->Value}{v:Value}{n:Nat}{f:Nat->zO}(h:zAC w bs kb kv v n f){lo hi:Nat}(hb:zNT lo hi bs kb n f):zBe w lo hi v n f:=by
 obtain⟨h0,a,cap,hv,aA,hc⟩:=h;refine⟨h0,a,cap,hv,aA,fun hn=>?_⟩;obtain⟨off,ha,h3⟩:=hc hn;refine⟨bs,off,ha,(hb hn).1.1,(hb hn).1.2,fun i hi=>?_⟩;exact⟨_,_,_,(h3 i hi).zO1.1,(h3 i hi).kidsv.1,(h3 i hi).data.1,(h3 i hi).at ((hb hn).2 i hi)⟩
theorem zAC.zOp{w w':World}{bs:Nat}{kb:Nat->Nat}{kv:Nat->Value}{v:Value}{n:Nat}{f:Nat->zO}(h:zAC w bs kb kv v n f)(t:Below w.heap.size w w'):zAC w' bs kb kv v n f:=by
 obtain⟨h0,a,cap,hv,aA,hc⟩:=h;refine⟨h0,a,cap,hv,aA,fun hn=>?_⟩;obtain⟨off,ha,h3⟩:=hc hn;exact⟨off,ha,fun i hi=>(h3 i hi).zOp t⟩
theorem zAC.zOr{S:Nat->Prop}{w w':World}{bs:Nat}{kb:Nat->Nat}{kv:Nat->Value}{v:Value}{n:Nat}{f:Nat->zO}(h:zAC w bs kb kv v n f)(t:zE S w w')
  (h1:0<n->¬S bs) (h2:∀i,i<n->0<(f i).kn->¬S (kb i)):zAC w' bs kb kv v n f:=by
 obtain⟨h0,a,cap,hv,aA,hc⟩:=h;refine⟨h0,a,cap,hv,aA,fun hn=>?_⟩;obtain⟨off,ha,h3⟩:=hc hn;exact⟨off,ha,fun i hi=>(h3 i hi).zOr t (h1 hn) (h2 i hi)⟩
def zk(w:World)(b:Nat)(v0 v1:Value):Prop:=zT w b 0 v0/\zT w b 1 v1
theorem zk.zOp{w w':World}{b:Nat}{v0 v1:Value}(h:zk w b v0 v1)(t:Below w.heap.size w w'):zk w' b v0 v1:=⟨h.1.zOp t,h.2.zOp t⟩
theorem zk.zOr{S:Nat->Prop}{w w':World}{b:Nat}{v0 v1:Value}(h:zk w b v0 v1)(t:zE S w w')(hs:¬S b):zk w' b v0 v1:=⟨h.1.zOr t hs,h.2.zOr t hs⟩
theorem zk.zOt(w:World)(v0 v1:Value)(t:TypeId):zk (w.alloc (.cells #[v0,v1] t)) w.heap.size v0 v1:=
 ⟨⟨by rw[World.cell?_alloc_at (hn:=rfl)];rfl,by rw[World.frozen?_alloc_at (hn:=rfl)]⟩,⟨by rw[World.cell?_alloc_at (hn:=rfl)];rfl,by rw[World.frozen?_alloc_at (hn:=rfl)]⟩⟩
def qP(w:World)(b:Nat)(v0 v1 v2:Value):Prop:=zT w b 0 v0/\zT w b 1 v1/\zT w b 2 v2
theorem qP.zOp{w w':World}{b:Nat}{v0 v1 v2:Value}(h:qP w b v0 v1 v2)(t:Below w.heap.size w w'):qP w' b v0 v1 v2:=⟨h.1.zOp t,h.2.1.zOp t,h.2.2.zOp t⟩
theorem qP.zOr{S:Nat->Prop}{w w':World}{b:Nat}{v0 v1 v2:Value}(h:qP w b v0 v1 v2)(t:zE S w w')(hs:¬S b):qP w' b v0 v1 v2:=⟨h.1.zOr t hs,h.2.1.zOr t hs,h.2.2.zOr t hs⟩
theorem qP.zOt(w:World)(v0 v1 v2:Value)(t:TypeId):qP (w.alloc (.cells #[v0,v1,v2] t)) w.heap.size v0 v1 v2:=
 ⟨⟨by rw[World.cell?_alloc_at (hn:=rfl)];rfl,by rw[World.frozen?_alloc_at (hn:=rfl)]⟩,⟨by rw[World.cell?_alloc_at (hn:=rfl)];rfl,by rw[World.frozen?_alloc_at (hn:=rfl)]⟩,⟨by rw[World.cell?_alloc_at (hn:=rfl)];rfl,by rw[World.frozen?_alloc_at (hn:=rfl)]⟩⟩
theorem qP.put{w:World}{b:Nat}{v0 v1 v2:Value}(h:qP w b v0 v1 v2)(u0 u1 u2:Value):qP (((w.setCell ⟨b,0,none⟩ u0).setCell ⟨b,1,none⟩ u1).setCell ⟨b,2,none⟩ u2) b u0 u1 u2:=
 ⟨((h.1.set u0).zOq _ (Or.inr (by omega))).zOq _ (Or.inr (by omega)),((h.2.1.zOq _ (Or.inr (by omega))).set u1).zOq _ (Or.inr (by omega)),((h.2.2.zOq _ (Or.inr (by omega))).zOq _ (Or.inr (by omega))).set u2⟩
theorem zk.put{w:World}{b:Nat}{v0 v1:Value}(h:zk w b v0 v1)(u0 u1:Value):zk ((w.setCell ⟨b,0,none⟩ u0).setCell ⟨b,1,none⟩ u1) b u0 u1:=
 ⟨(h.1.set u0).zOq _ (Or.inr (by omega)),(h.2.zOq _ (Or.inr (by omega))).set u1⟩
theorem qP.zOq{w:World}{b:Nat}{v0 v1 v2:Value}(h:qP w b v0 v1 v2){b' o':Nat}(u:Value)(aA:b'≠b):qP (w.setCell ⟨b',o',none⟩ u) b v0 v1 v2:=
 ⟨h.1.zOq u (Or.inl aA),h.2.1.zOq u (Or.inl aA),h.2.2.zOq u (Or.inl aA)⟩
theorem zk.zOq{w:World}{b:Nat}{v0 v1:Value}(h:zk w b v0 v1){b' o':Nat}(u:Value)(aA:b'≠b):zk (w.setCell ⟨b',o',none⟩ u) b v0 v1:=
 ⟨h.1.zOq u (Or.inl aA),h.2.zOq u (Or.inl aA)⟩
theorem zC(w:World)(o:Obj):Below w.heap.size w (w.alloc o):=(Below.refl _ _).alloc (Nat.le_refl _) o
theorem zL{w:World}{b i:Nat}{cs:Array Value}{t:TypeId}{v:Value}(h:w.heap[b]?=some (.cells cs t))(hi:cs[i]?=some v):zT w b i v:=by
 refine⟨?_,?_⟩
 ·simp[World.cell?,h,hi]
 ·simp[World.frozen?,h]
theorem zF8{w:World}{b o:Nat}{cs:Array Value}{t:TypeId}(v:Value)(h:w.heap[b]?=some (.cells cs t)):(w.setCell ⟨b,o,none⟩ v).heap[b]?=some (.cells (cs.setIfInBounds o v) t):=by
 simp[World.setCell,Array.getElem?_modify,h]
theorem zX{w:World}{base e size:Nat}{v:Value}{n:Nat}{xs:List Value}(h:w.ownsRow base e size v n xs):∃a cap,v = .slice a n cap/\n<=cap:=by
 obtain⟨_,⟨h,rfl⟩ | ⟨g,cap,bA,hv,_,_,aA,_⟩⟩:=h
 ·exact⟨none,0,h,Nat.le_refl _⟩
 ·exact⟨_,cap,hv,aA⟩
theorem qp{w:World}{base e size:Nat}{v:Value}{n:Nat}{xs:List Value}(h:w.ownsRow base e size v n xs)(hn:0<n) :
  ∃g cap,v = .slice (some ⟨g,0,none⟩) n cap/\n<=cap/\base<=g/\g<w.heap.size/\∀j u,xs[j]?=some u->zT w g j u:=by
 obtain⟨_,⟨h,rfl⟩ | ⟨g,cap,bA,hv,hb,hg,h1,h2,h3,h4⟩⟩:=h
 ·omega
 ·refine⟨g,cap,hv,h1,hb,?_,fun j u hj=>?_⟩
  ·by_cases cA:g<w.heap.size
   ·exact cA
   ·rw[Array.getElem?_eq_none (by omega)]at hg;simp at hg
  ·refine⟨?_,?_⟩
   ·simp only[World.cell?,hg];have aA:(bA.toList.take (n*size))[j]?=some u:=(by rw[h4];exact hj);rw[List.getElem?_take]at aA;split at aA
    ·simpa using aA
    ·simp at aA
   ·simp only[World.frozen?,hg];simp
theorem zDd{w w1:World}{v:Value}{b base e size n:Nat}{xs:List Value}(hg:w.grownBy w1 v.ownBlock)(aA:w.ownsRow base e size v n xs)(hb:b<base)(bA:b<w.heap.size):w1.heap[b]?=w.heap[b]?:=
 hg.block b bA (fun e=>by have:=aA.lt b e.symm;omega)
def hop(J:Nat->Act->World->Prop)(Q:Exit->Act->World->Prop):Exit->Act->World->Prop
 | .goto l,a,w=>J l a w
 | e,a,w=>Q e a w
def JU(P:Program)(c:Code)(Q:Exit->Act->World->Prop):Nat->Nat->Act->World->Prop
 | 0,_,_,_=>False
 | n+1,l,a,w=>∃zO8,findLabel c l=some zO8/\zO8.wp P (hop (JU P c Q n) Q) a w
theorem zHi{P:Program}{a:Act}{w:World}{Q:Exit->Act->World->Prop}{c:Code}(n:Nat)(first:c.wp P (hop (JU P c Q n) Q) a w):(Code.scope c).wp P Q a w:=by
 intro b k cs;have key:∀n l zO8 a w,findLabel c l=some zO8->zO8.wp P (hop (JU P c Q n) Q) a w->∃e a' w',Q e a' w'/\Arrives P (lone (b.at a (.code zO8 :: .inScope c :: k)) cs w) b k cs e a' w':=by
  intro n
  induction n with
  | zero=>
   intro l zO8 a w hf hw;obtain⟨e,a₁,w₁,hq,aA⟩:=hw b (.inScope c :: k) cs;cases e with
   | normal=>exact⟨.normal,a₁,w₁,hq,Steps.trans aA (.one step_inScope)⟩
   | exit id=>exact⟨.exit id,a₁,w₁,hq,fun k' hk=>aA k' (by simp[exitTo,hk])⟩
   | goto l'=>exact False.elim hq
   | ret=>exact⟨_,a₁,w₁,hq,aA⟩
   | panic ch=>exact⟨_,a₁,w₁,hq,aA⟩
   | outgrown=>exact⟨_,a₁,w₁,hq,aA⟩
  | succ n ih=>
   intro l zO8 a w hf hw;obtain⟨e,a₁,w₁,hq,aA⟩:=hw b (.inScope c :: k) cs;cases e with
   | normal=>exact⟨.normal,a₁,w₁,hq,Steps.trans aA (.one step_inScope)⟩
   | exit id=>exact⟨.exit id,a₁,w₁,hq,fun k' hk=>aA k' (by simp[exitTo,hk])⟩
   | goto l'=>
    obtain⟨bA,dA,fA⟩:=hq;obtain⟨e₂,a₂,w₂,eA,cA⟩:=ih l' bA a₁ w₁ dA fA;have hg:gotoIn l' (.inScope c :: k)=some (.code bA :: .inScope c :: k):=(by simp[gotoIn,dA]);exact⟨e₂,a₂,w₂,eA,.of_steps (aA _ hg) cA⟩
   | ret=>exact⟨_,a₁,w₁,hq,aA⟩
   | panic ch=>exact⟨_,a₁,w₁,hq,aA⟩
   | outgrown=>exact⟨_,a₁,w₁,hq,aA⟩
 obtain⟨e,a₁,w₁,hq,aA⟩:=first b (.inScope c :: k) cs
 cases e with
 | normal=>exact⟨.normal,a₁,w₁,hq,.head step_scope (Steps.trans aA (.one step_inScope))⟩
 | exit id=>exact⟨.exit id,a₁,w₁,hq,fun k' hk=>.head step_scope (aA k' (by simp[exitTo,hk]))⟩
 | goto l'=>
  match n,hq with
  | n+1,hq=>
   obtain⟨bA,dA,fA⟩:=hq;obtain⟨e₂,a₂,w₂,eA,cA⟩:=key n l' bA a₁ w₁ dA fA;have hg:gotoIn l' (.inScope c :: k)=some (.code bA :: .inScope c :: k):=(by simp[gotoIn,dA]);exact⟨e₂,a₂,w₂,eA,.of_steps (.head step_scope (aA _ hg)) cA⟩
 | ret=>exact⟨_,a₁,w₁,hq,.of_steps (.one step_scope) aA⟩
 | panic ch=>exact⟨_,a₁,w₁,hq,.of_steps (.one step_scope) aA⟩
 | outgrown=>exact⟨_,a₁,w₁,hq,.of_steps (.one step_scope) aA⟩
theorem zHu{J J':Nat->Act->World->Prop}{Q:Exit->Act->World->Prop}(h:∀l a w,J l a w->J' l a w):∀{e:Exit} {a:Act} {w:World},hop J Q e a w->hop J' Q e a w
 | .goto l,a,w,he=>h l a w he
 | .normal,_,_,he=>he
 | .exit _,_,_,he=>he
 | .ret,_,_,he=>he
 | .panic _,_,_,he=>he
 | .outgrown,_,_,he=>he
theorem zHj{P:Program}{a:Act}{w:World}{Q:Exit->Act->World->Prop}{c:Code}(R:Nat->Nat->Act->World->Prop)(n:Nat)(zero:∀l a w,¬R 0 l a w)
  (step:∀n l a w,R (n+1) l a w->∃zO8,findLabel c l=some (Code.skip.seq zO8)/\zO8.wp P (hop (R n) Q) a w)
  (first:(∀l a w zO8,findLabel c l=some (Code.skip.seq zO8)->R (n+1) l a w->zO8.wp P (hop (R n) Q) a w)->c.wp P (hop (R n) Q) a w):(Code.scope c).wp P Q a w:=by
 have key:∀n l a w,R n l a w->JU P c Q n l a w:=by
  intro n
  induction n with
  | zero=>intro l a w h;exact absurd h (zero l a w)
  | succ n ih=>
   intro l a w h;obtain⟨zO8,hf,hw⟩:=step n l a w h;exact⟨_,hf,Code.wp_mono (fun e a w he=>zHu ih he) (wp_seq (wp_skip hw))⟩
 refine zHi n (Code.wp_mono (fun e a w he=>zHu (key n) he) (first ?_));intro l a w zO8 hf hR;obtain⟨bA,aA,hw⟩:=step n l a w hR;rw[hf]at aA;simp only[Option.some.injEq,Code.seq.injEq,true_and]at aA;rw[aA];exact hw
def zBS(bs:Nat)(kb:Nat->Nat)(n:Nat)(f:Nat->zO)(k:Nat):Prop:=(0<n/\k=bs)\/∃i,i<n/\0<(f i).kn/\k=kb i
def zh(w:World)(lo hi:Nat)(v0 v1:Value)(p:zI):Prop:=
 ∃(bs hb:Nat) (kb:Nat->Nat) (kv:Nat->Value),zAC w bs kb kv v0 p.n p.s/\zCp kb p.n p.s/\yy w hb v1 p.hn p.h/\(0<p.hn->¬zBS bs kb p.n p.s hb)/\
  ∀k,zBS bs kb p.n p.s k\/(0<p.hn/\k=hb)->lo<=k/\k<hi
theorem zh.at{w:World}{lo hi:Nat}{v0 v1:Value}{p:zI}(h:zh w lo hi v0 v1 p):qm w lo hi v0 v1 p:=by
 obtain⟨bs,hb,kb,kv,h1,h2,h3,h4,h5⟩:=h;exact⟨h1.at fun h0=>⟨h5 _ (Or.inl (Or.inl ⟨h0,rfl⟩)),fun i hi h=>h5 _ (Or.inl (Or.inr ⟨i,hi,h,rfl⟩))⟩,h3.at fun h0=>h5 _ (Or.inr ⟨h0,rfl⟩)⟩
theorem zh.zOp{w w':World}{lo hi:Nat}{v0 v1:Value}{p:zI}(h:zh w lo hi v0 v1 p)(t:Below w.heap.size w w'):zh w' lo hi v0 v1 p:=by
 obtain⟨bs,hb,kb,kv,h1,h2,h3,h4,h5⟩:=h;exact⟨bs,hb,kb,kv,h1.zOp t,h2,h3.zOp t,h4,h5⟩
theorem zh.zOr{S:Nat->Prop}{w w':World}{lo hi:Nat}{v0 v1:Value}{p:zI}(h:zh w lo hi v0 v1 p)(t:zE S w w')(hs:∀k,S k->k<lo\/hi<=k):zh w' lo hi v0 v1 p:=by
 obtain⟨bs,hb,kb,kv,h1,h2,h3,h4,h5⟩:=h;have out:∀k,zBS bs kb p.n p.s k\/(0<p.hn/\k=hb)->¬S k:=fun k hk hx=>by
  have a:=h5 k hk;have b:=hs k hx;omega
 exact⟨bs,hb,kb,kv,h1.zOr t (fun h0=>out _ (Or.inl (Or.inl ⟨h0,rfl⟩))) (fun i hi h=>out _ (Or.inl (Or.inr ⟨i,hi,h,rfl⟩))),h2,h3.zOr t (fun h0=>out _ (Or.inr ⟨h0,rfl⟩)),h4,h5⟩
theorem zAb.zOu{w:World}{lo hi bA aA:Nat}{v:Value}{n:Nat}{f:Nat->Int}(h:zAb w lo hi v n f)(h1:bA<=lo)(h2:hi<=aA):zAb w bA aA v n f:=by
 obtain⟨h0,a,cap,hv,cA,hc⟩:=h;refine⟨h0,a,cap,hv,cA,fun hn=>?_⟩;obtain⟨b,off,ha,g1,g2,g3⟩:=hc hn;exact⟨b,off,ha,by omega,by omega,g3⟩
theorem zp.zOu{w:World}{lo hi bA aA:Nat}{v:Value}{n:Nat}{f g:Nat->Int}(h:zp w lo hi v n f g)(h1:bA<=lo)(h2:hi<=aA):zp w bA aA v n f g:=by
 obtain⟨h0,a,cap,hv,cA,hc⟩:=h;refine⟨h0,a,cap,hv,cA,fun hn=>?_⟩;obtain⟨b,off,ha,g1,g2,g3⟩:=hc hn;exact⟨b,off,ha,by omega,by omega,g3⟩
theorem zh.zOu{w:World}{lo hi bA aA:Nat}{v0 v1:Value}{p:zI}(h:zh w lo hi v0 v1 p)(h1:bA<=lo)(h2:hi<=aA):zh w bA aA v0 v1 p:=by
 obtain⟨bs,hb,kb,kv,g1,g2,g3,g4,g5⟩:=h;exact⟨bs,hb,kb,kv,g1,g2,g3,g4,fun k hk=>by have:=g5 k hk;omega⟩
theorem zh.form{w:World}{lo hi:Nat}{v0 v1:Value}{p:zI}(h:zh w lo hi v0 v1 p):∃a c a' c',v0 = .slice a p.n c/\v1 = .slice a' p.hn c':=by
 obtain⟨bs,hb,kb,kv,⟨_,a,c,h1,_⟩,h2,⟨_,a',c',h3,_,_⟩,h4,h5⟩:=h;exact⟨a,c,a',c',h1,h3⟩
theorem qm.form{w:World}{lo hi:Nat}{v0 v1:Value}{p:zI}(h:qm w lo hi v0 v1 p):∃a c a' c',v0 = .slice a p.n c/\v1 = .slice a' p.hn c':=by
 obtain⟨⟨_,a,c,h1,_⟩,⟨_,a',c',h3,_⟩⟩:=h;exact⟨a,c,a',c',h1,h3⟩
def zIQ(p:zI)(w:World)(e:Ending)(w':World):Prop:=∃v0 v1,e = .returned (.agg #[v0,v1])/\zh w' w.heap.size w'.heap.size v0 v1 p/\Below w.heap.size w w'
def zDN:zO:={zO1:=0,kn:=0,ks:=fun _=>0,kb:=fun _=>0,data:=⟨#[]⟩}
def zBn(n:Nat):zI:={n:=n,s:=fun _=>zDN,hn:=0,h:=fun _=>0}
theorem zJk{bs:Nat}{kb:Nat->Nat}{n k:Nat}:zBS bs kb n (fun _=>zDN) k↔0<n/\k=bs:=by
 constructor
 ·rintro(h | ⟨i,_,h0,_⟩)
  ·exact h
  ·exact absurd h0 (by simp[zDN])
 ·exact Or.inl
theorem zE2{w:World}{lo hi g n:Nat}{v0:Value}(hn:n<=maxLen)(hv:∃a cap,v0 = .slice a n cap/\n<=cap/\(0<n->a=some ⟨g,0,none⟩/\lo<=g/\g<hi))
  (hc:∀i,i<n->zT w g (0+i*3) (.int .i64 0)/\zT w g (0+i*3+1) (.slice none 0 0)/\zT w g (0+i*3+2) (.string ⟨#[]⟩)) :
  zh w lo hi v0 (.slice none 0 0) (zBn n):=by
 obtain⟨a,cap,rfl,aA,ha⟩:=hv;refine⟨g,0,fun _=>0,fun _=>.slice none 0 0,⟨hn,a,cap,rfl,aA,fun h0=>⟨0,(ha h0).1,fun i hi=>?_⟩⟩,fun i j _ _ _ h0 _=>absurd h0 (by simp[zBn,zDN]),⟨Nat.zero_le _,none,0,rfl,Nat.le_refl _,fun h=>absurd h (Nat.lt_irrefl _),fun h=>absurd h (Nat.lt_irrefl _)⟩,fun h=>absurd h (Nat.lt_irrefl _),?_⟩
 ·exact⟨(hc i hi).1,(hc i hi).2.1,(hc i hi).2.2,⟨Nat.zero_le _,none,0,rfl,Nat.le_refl _,fun h=>absurd h (Nat.lt_irrefl _)⟩,Nat.zero_le _,fun h=>absurd h (Nat.lt_irrefl _)⟩
 ·rintro k (h | h)
  ·obtain⟨h0,rfl⟩:=zJk.1 h;exact(ha h0).2
  ·exact absurd h.1 (Nat.lt_irrefl _)
def zAn(s:zO):Nat:=s.kn+s.data.size
def zAo(f:Nat->zO):Nat->Nat
 | 0=>0
 | k+1=>zAo f k+zAn (f k)
def qA(p:zI):Nat:=p.n+zAo p.s p.n+p.hn
theorem zJj(f:Nat->zO){j n:Nat}(h:j<n):zAn (f j)<=zAo f n:=by
 induction n with
 | zero=>omega
 | succ n ih=>
  show _<=zAo f n+zAn (f n);by_cases e:j=n
  ·subst e;omega
  ·have:=ih (by omega);omega
theorem zHv:(Tryz.prog.info? 2).map (fun i=>(i.zero,i.size,i.bytes))=some (some (.int .i64 0),1,8):=by kernel_rfl
theorem zNc:(Tryz.prog.info? 99).map (fun i=>(i.zero,i.size,i.bytes))=some (some (.agg #[.int .i64 0,.int .i64 0]),2,16):=by kernel_rfl
theorem zLQ:(Tryz.prog.info? 128).map (fun i=>(i.zero,i.size,i.bytes))=some (some (.agg #[.int .i64 0,.slice none 0 0,.string ⟨#[]⟩]),3,48):=by kernel_rfl
def zDO(zs:Array Value)(n:Nat):Array Value:=madeCells zs (n*zs.size)
theorem zNL(zs:Array Value)(n i r:Nat)(hi:i<n)(hr:r<zs.size):(zDO zs n)[i*zs.size+r]?=some (zs[r]!):=by
 unfold zDO madeCells;have h1:i*zs.size+r<n*zs.size:=by
  have:(i+1)*zs.size<=n*zs.size:=Nat.mul_le_mul_right _ hi;rw[Nat.add_mul]at this;omega
 have h2:(i*zs.size+r) % zs.size=r:=by rw[Nat.mul_comm,Nat.mul_add_mod];exact Nat.mod_eq_of_lt hr
 simp only[Array.getElem?_map,Array.getElem?_range,h1,if_true,Option.map_some,h2]
theorem zGr(t e:TypeId)(z:Value)(size bytes:Nat)(ht:Tryz.prog.underlying t=some (.slice e))(aA:(Tryz.prog.info? e).map (fun i=>(i.zero,i.size,i.bytes))=some (some z,size,bytes))(hs:z.cells.size=size)
  (n:Nat) (hn:n<=1048576) (hb:bytes<=1000) (w:World):(Instr.makeSlice t (.int .i64 (n:Int)) (.int .i64 (n:Int))).run Tryz.prog w = .ok (.slice (some ⟨w.heap.size,0,none⟩) n n) (w.alloc (.cells (zDO z.cells n) e)):=by
 obtain⟨i,hi,bA⟩:=Option.map_eq_some_iff.1 aA;simp only[Prod.mk.injEq]at bA;obtain⟨hz,eA,cA⟩:=bA;have dA:(bytes:Int)*(n:Int)<=281474976710656:=by
  have h:bytes*n<=1000*1048576:=Nat.mul_le_mul hb hn;have h2:((bytes*n:Nat):Int)<=((1000*1048576:Nat):Int):=Int.ofNat_le.2 h;rw[Int.natCast_mul]at h2;omega
 have hr:=run_make (P:=Tryz.prog) w t e i z ht hi hz .i64 .i64 n n (by omega) (Int.le_refl _) (by rw[cA];exact dA) (by omega);rw[eA,<-hs]at hr;simp only[Int.toNat_natCast]at hr;exact hr
theorem zMs(w:World)(zs:Array Value)(n i r:Nat)(t:TypeId)(hi:i<n)(hr:r<zs.size):zT (w.alloc (.cells (zDO zs n) t)) w.heap.size (i*zs.size+r) (zs[r]!):=
 ⟨by rw[World.cell?_alloc_at (hn:=rfl)];exact zNL zs n i r hi hr,by rw[World.frozen?_alloc_at (hn:=rfl)]⟩
theorem zG{P:Prop}(h:P):Hid P:=h
theorem zD1{w w':World}{base e size:Nat}{v:Value}{n:Nat}{xs:List Value}(h:w.ownsRow base e size v n xs)(t:Below w.heap.size w w'):w'.ownsRow base e size v n xs:=by
 obtain⟨h1,h2⟩:=h;refine⟨h1,h2.imp id ?_⟩;rintro⟨g,cap,aA,hv,hb,hg,h3⟩;exact⟨g,cap,aA,hv,hb,(t.block g (Array.getElem?_eq_some_iff.1 hg).1).trans hg,h3⟩
theorem zEx:(Tryz.prog.info? 9).map (fun i=>(i.zero,i.size,i.bytes))=some (some (.string ⟨#[]⟩),1,16):=by kernel_rfl
theorem zIW{s:ByteArray}{v:Value}{st p:Nat}(a:Act)(h:a = {tmps:=#[.string s,a.tmps.getD 1 undef,.slice none 0 0,v,.int .i64 (st:Int),.int .i64 (p:Int),a.tmps.getD 6 undef,a.tmps.getD 7 undef,a.tmps.getD 8 undef,a.tmps.getD 9 undef,a.tmps.getD 10 undef,a.tmps.getD 11 undef,a.tmps.getD 12 undef,a.tmps.getD 13 undef,a.tmps.getD 14 undef,a.tmps.getD 15 undef,a.tmps.getD 16 undef,a.tmps.getD 17 undef,a.tmps.getD 18 undef,a.tmps.getD 19 undef,a.tmps.getD 20 undef,a.tmps.getD 21 undef,a.tmps.getD 22 undef,a.tmps.getD 23 undef,a.tmps.getD 24 undef,a.tmps.getD 25 undef,a.tmps.getD 26 undef,a.tmps.getD 27 undef,a.tmps.getD 28 undef,a.tmps.getD 29 undef,a.tmps.getD 30 undef,a.tmps.getD 31 undef,a.tmps.getD 32 undef],defers:=[]}):∃j:Nat->Value,a = {tmps:=#[.string s,j 1,.slice none 0 0,v,.int .i64 (st:Int),.int .i64 (p:Int),j 6,j 7,j 8,j 9,j 10,j 11,j 12,j 13,j 14,j 15,j 16,j 17,j 18,j 19,j 20,j 21,j 22,j 23,j 24,j 25,j 26,j 27,j 28,j 29,j 30,j 31,j 32],defers:=[]}:=⟨fun i=>a.tmps.getD i undef,h⟩
def yH:Nat->ByteArray
 | 0=>⟨#[110,101,119,32,78,65,77,69]⟩
 | 1=>⟨#[119,114,105,116,101,32,78,65,77,69,32,78,32,87,79,82,68]⟩
 | 2=>⟨#[116,114,105,109,32,78,65,77,69,32,78]⟩
 | 3=>⟨#[115,110,97,112,32,78,65,77,69,32,87,79,82,68]⟩
 | 4=>⟨#[99,108,111,110,101,32,78,32,78,65,77,69]⟩
 | 5=>⟨#[100,114,111,112,32,78]⟩
 | 6=>⟨#[100,101,115,116,114,111,121,32,78,65,77,69]⟩
 | 7=>⟨#[98,97,99,107,32,78,65,77,69]⟩
 | 8=>⟨#[112,114,111,109,111,116,101,32,78,65,77,69]⟩
 | 9=>⟨#[114,101,97,100,32,78,65,77,69,32,78]⟩
 | 10=>⟨#[102,114,101,101]⟩
 | 11=>⟨#[115,121,110,99]⟩
 | _=>⟨#[99,114,97,115,104]⟩
def zEE:Nat->Nat
 | 0=>67
 | 1=>70
 | 2=>73
 | 3=>75
 | 4=>78
 | 5=>80
 | 6=>83
 | 7=>85
 | 8=>87
 | 9=>89
 | 10=>91
 | 11=>94
 | _=>97
theorem zLM(w:World):Calls Tryz.prog 37 #[] w fun e w'=>∃g,e = .returned (.slice (some ⟨g,0,none⟩) 13 13)/\(∀i,i<13->w'.cell? ⟨g,i*2,none⟩=some (.string (yH i))/\w'.cell? ⟨g,i*2+1,none⟩=some (.func (.func (zEE i)) #[] #[]))/\Below w.heap.size w w':=by
 have hb:=zC w (.cells #[.string ⟨#[110,101,119,32,78,65,77,69]⟩,.func (.func 67) #[] #[],.string ⟨#[119,114,105,116,101,32,78,65,77,69,32,78,32,87,79,82,68]⟩,.func (.func 70) #[] #[],.string ⟨#[116,114,105,109,32,78,65,77,69,32,78]⟩,.func (.func 73) #[] #[],.string ⟨#[115,110,97,112,32,78,65,77,69,32,87,79,82,68]⟩,.func (.func 75) #[] #[],.string ⟨#[99,108,111,110,101,32,78,32,78,65,77,69]⟩,.func (.func 78) #[] #[],.string ⟨#[100,114,111,112,32,78]⟩,.func (.func 80) #[] #[],.string ⟨#[100,101,115,116,114,111,121,32,78,65,77,69]⟩,.func (.func 83) #[] #[],.string ⟨#[98,97,99,107,32,78,65,77,69]⟩,.func (.func 85) #[] #[],.string ⟨#[112,114,111,109,111,116,101,32,78,65,77,69]⟩,.func (.func 87) #[] #[],.string ⟨#[114,101,97,100,32,78,65,77,69,32,78]⟩,.func (.func 89) #[] #[],.string ⟨#[102,114,101,101]⟩,.func (.func 91) #[] #[],.string ⟨#[115,121,110,99]⟩,.func (.func 94) #[] #[],.string ⟨#[99,114,97,115,104]⟩,.func (.func 97) #[] #[]] 56);have hc:∀i,i<13->(w.alloc (.cells #[.string ⟨#[110,101,119,32,78,65,77,69]⟩,.func (.func 67) #[] #[],.string ⟨#[119,114,105,116,101,32,78,65,77,69,32,78,32,87,79,82,68]⟩,.func (.func 70) #[] #[],.string ⟨#[116,114,105,109,32,78,65,77,69,32,78]⟩,.func (.func 73) #[] #[],.string ⟨#[115,110,97,112,32,78,65,77,69,32,87,79,82,68]⟩,.func (.func 75) #[] #[],.string ⟨#[99,108,111,110,101,32,78,32,78,65,77,69]⟩,.func (.func 78) #[] #[],.string ⟨#[100,114,111,112,32,78]⟩,.func (.func 80) #[] #[],.string ⟨#[100,101,115,116,114,111,121,32,78,65,77,69]⟩,.func (.func 83) #[] #[],.string ⟨#[98,97,99,107,32,78,65,77,69]⟩,.func (.func 85) #[] #[],.string ⟨#[112,114,111,109,111,116,101,32,78,65,77,69]⟩,.func (.func 87) #[] #[],.string ⟨#[114,101,97,100,32,78,65,77,69,32,78]⟩,.func (.func 89) #[] #[],.string ⟨#[102,114,101,101]⟩,.func (.func 91) #[] #[],.string ⟨#[115,121,110,99]⟩,.func (.func 94) #[] #[],.string ⟨#[99,114,97,115,104]⟩,.func (.func 97) #[] #[]] 56)).cell? ⟨w.heap.size,i*2,none⟩=some (.string (yH i))/\(w.alloc (.cells #[.string ⟨#[110,101,119,32,78,65,77,69]⟩,.func (.func 67) #[] #[],.string ⟨#[119,114,105,116,101,32,78,65,77,69,32,78,32,87,79,82,68]⟩,.func (.func 70) #[] #[],.string ⟨#[116,114,105,109,32,78,65,77,69,32,78]⟩,.func (.func 73) #[] #[],.string ⟨#[115,110,97,112,32,78,65,77,69,32,87,79,82,68]⟩,.func (.func 75) #[] #[],.string ⟨#[99,108,111,110,101,32,78,32,78,65,77,69]⟩,.func (.func 78) #[] #[],.string ⟨#[100,114,111,112,32,78]⟩,.func (.func 80) #[] #[],.string ⟨#[100,101,115,116,114,111,121,32,78,65,77,69]⟩,.func (.func 83) #[] #[],.string ⟨#[98,97,99,107,32,78,65,77,69]⟩,.func (.func 85) #[] #[],.string ⟨#[112,114,111,109,111,116,101,32,78,65,77,69]⟩,.func (.func 87) #[] #[],.string ⟨#[114,101,97,100,32,78,65,77,69,32,78]⟩,.func (.func 89) #[] #[],.string ⟨#[102,114,101,101]⟩,.func (.func 91) #[] #[],.string ⟨#[115,121,110,99]⟩,.func (.func 94) #[] #[],.string ⟨#[99,114,97,115,104]⟩,.func (.func 97) #[] #[]] 56)).cell? ⟨w.heap.size,i*2+1,none⟩=some (.func (.func (zEE i)) #[] #[]):=fun i hi=>by
  rcases(by omega:i=0\/i=1\/i=2\/i=3\/i=4\/i=5\/i=6\/i=7\/i=8\/i=9\/i=10\/i=11\/i=12)with rfl | rfl | rfl | rfl | rfl | rfl | rfl | rfl | rfl | rfl | rfl | rfl | rfl
  all_goals exact⟨World.cell?_alloc_at _ _ _ _ rfl,World.cell?_alloc_at _ _ _ _ rfl⟩
 have Hc:=zG hc;clear hc;go_enter Tryz.func37,Tryz.ntmps37;go_wp2;go_ret;exact⟨_,rfl,Hc.out,hb⟩
end Go.Proofs.YtgabgheflgjgiaaGreatDoor
