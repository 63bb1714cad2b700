/- A part of the proof. -/
import Derived.WalkKit
import Derived.WalkSpells
import Derived.WalkLawsBesides
import Derived.Test.YtmgeglgboadfiaaGreatDoorProg
import GoSem.ClaimJoined
import GoSem.ClaimMapViews
import Derived.JoinedTies
import Derived.KernelRfl
import Derived.RowKit
import Derived.Deep.OwnRows
import Derived.LaidEql
import Derived.Stop.Asserts
import Derived.RowKitTokens
import Derived.ProofKit
import Derived.Deep.RegionHeld3
import Derived.Deep.QuietTactic
import Derived.BigQuiet
set_option linter.unusedVariables false
set_option maxRecDepth 20000
set_option maxHeartbeats 4000000
namespace Go.Proofs.YtmgeglgboadfiaaGreatDoor
open Go.RowKit
def zG(P:Prop)(e:Ending):Prop:=∃b:Bool,e = .returned (.bool b)/\(b=true↔P)
theorem zG.yes{P:Prop}(h:P):zG P (.returned (.bool true)):=⟨true,rfl,by simp[h]⟩
theorem zG.no{P:Prop}(h:¬P):zG P (.returned (.bool false)):=⟨false,rfl,by simp[h]⟩
theorem zr{n k:Nat}{P:Nat->Prop}(hk:k<n)(h:∀i,i<k->P i)(hp:P k):∀i,i<k+1->P i:=fun i hi=>by
 by_cases e:i=k
 ·subst e;exact hp
 ·exact h i (by omega)
theorem zh{B:Nat}{w w':World}(h:Below B w w')(n:Nat):Below B w (w'.drewN n):=⟨h.os,h.tape,h.output,h.size,h.block⟩
theorem zCS{s t:ByteArray}(h:s=t):(s.toList == t.toList)=true:=by simp[h]
theorem zEY{s t:ByteArray}(h:¬s=t):(s.toList == t.toList)=false:=by
 rw[beq_eq_false_iff_ne];intro e;rw[Go.ByteArray.toList_eq,Go.ByteArray.toList_eq]at e;apply h;cases s;cases t;simp only[ByteArray.mk.injEq]at *;exact Array.toList_inj.1 e
theorem zI{w w1:World}(h:Below w.drew.heap.size w.drew w1):Below w.heap.size w w1:=⟨h.os,h.tape,h.output,h.size,h.block⟩
theorem qZ{w wr w1:World}(hb:Below w.heap.size w wr)(h1:Below wr.drew.heap.size wr.drew w1):Below w.heap.size w w1:=
 hb.drew.trans (h1.mono hb.size)
theorem zA{w wr w1:World}(hb:Below w.heap.size w wr)(h1:Below wr.heap.size wr w1):Below w.heap.size w w1:=
 hb.trans (h1.mono hb.size)
structure zO where
 zPI:Int
 kn:Nat
 ks:Nat->Int
 kb:Nat->Int
 data:ByteArray
structure zN where
 n:Nat
 s:Nat->zO
 hn:Nat
 h:Nat->Int
def zBd(a b c d:Int):Prop:=a=c/\b=d
def zKi(n n':Nat)(f f':Nat->Int):Prop:=n=n'/\∀i,i<n->f i=f' i
def zKk(n n':Nat)(f g f' g':Nat->Int):Prop:=n=n'/\∀i,i<n->f i=f' i/\g i=g' i
def zDK(s t:zO):Prop:=s.zPI=t.zPI/\zKk s.kn t.kn s.ks s.kb t.ks t.kb/\s.data=t.data
def zIg(n n':Nat)(f f':Nat->zO):Prop:=n=n'/\∀i,i<n->zDK (f i) (f' i)
def zId(p q:zN):Prop:=zIg p.n q.n p.s q.s/\zKi p.hn q.hn p.h q.h
theorem zDK.refl(s:zO):zDK s s:=⟨rfl,⟨rfl,fun _ _=>⟨rfl,rfl⟩⟩,rfl⟩
theorem zId.refl(p:zN):zId p p:=⟨⟨rfl,fun _ _=>zDK.refl _⟩,⟨rfl,fun _ _=>rfl⟩⟩
theorem zD{w:World}{b o:Nat}{v:Value}(h:w.cell? ⟨b,o,none⟩=some v):b<w.heap.size:=by
 simp only[World.cell?]at h;by_cases hb:b<w.heap.size
 ·exact hb
 ·rw[Array.getElem?_eq_none (by omega)]at h;simp at h
def qs(w:World)(lo hi:Nat)(v:Value)(n:Nat)(f:Nat->Int):Prop:=
 n<=maxLen/\∃a cap,v = .slice a n cap/\n<=cap/\(0<n->∃b off,a=some ⟨b,off,none⟩/\lo<=b/\b<hi/\∀i,i<n->w.cell? ⟨b,off+i,none⟩=some (.int .i64 (f i)))
def zR(w:World)(lo hi:Nat)(v:Value)(n:Nat)(fs fb:Nat->Int):Prop:=
 n<=maxLen/\∃a cap,v = .slice a n cap/\n<=cap/\(0<n->∃b off,a=some ⟨b,off,none⟩/\lo<=b/\b<hi/\∀i,i<n->w.cell? ⟨b,off+i*2,none⟩=some (.int .i64 (fs i))/\w.cell? ⟨b,off+i*2+1,none⟩=some (.int .i64 (fb i)))
def qT(w:World)(lo hi:Nat)(v0 v1 v2:Value)(s:zO):Prop:=
 v0 = .int .i64 s.zPI/\zR w lo hi v1 s.kn s.ks s.kb/\v2 = .string s.data/\s.data.size<=maxLen
def qG(w:World)(lo hi:Nat)(v:Value)(n:Nat)(f:Nat->zO):Prop:=
 n<=maxLen/\∃a cap,v = .slice a n cap/\n<=cap/\(0<n->∃b off,a=some ⟨b,off,none⟩/\lo<=b/\b<hi/\∀i,i<n->∃v0 v1 v2,w.cell? ⟨b,off+i*3,none⟩=some v0/\w.cell? ⟨b,off+i*3+1,none⟩=some v1/\w.cell? ⟨b,off+i*3+2,none⟩=some v2/\qT w lo hi v0 v1 v2 (f i))
def qS(w:World)(lo hi:Nat)(v0 v1:Value)(p:zN):Prop:=qG w lo hi v0 p.n p.s/\qs w lo hi v1 p.hn p.h
theorem qs.zO9{w w':World}{lo hi:Nat}{v:Value}{n:Nat}{f:Nat->Int}(h:qs w lo hi v n f)(s:Below w.heap.size w w'):qs w' lo hi v n f:=by
 obtain⟨h0,a,cap,hv,aA,hc⟩:=h;refine⟨h0,a,cap,hv,aA,fun hn=>?_⟩;obtain⟨b,off,ha,h1,h2,h3⟩:=hc hn;exact⟨b,off,ha,h1,h2,fun i hi=>(s.cell (zD (h3 i hi))).trans (h3 i hi)⟩
theorem zR.zO9{w w':World}{lo hi:Nat}{v:Value}{n:Nat}{f g:Nat->Int}(h:zR w lo hi v n f g)(s:Below w.heap.size w w'):zR w' lo hi v n f g:=by
 obtain⟨h0,a,cap,hv,aA,hc⟩:=h;refine⟨h0,a,cap,hv,aA,fun hn=>?_⟩;obtain⟨b,off,ha,h1,h2,h3⟩:=hc hn;exact⟨b,off,ha,h1,h2,fun i hi=>⟨(s.cell (zD (h3 i hi).1)).trans (h3 i hi).1,(s.cell (zD (h3 i hi).2)).trans (h3 i hi).2⟩⟩
theorem qT.zO9{w w':World}{lo hi:Nat}{v0 v1 v2:Value}{t:zO}(h:qT w lo hi v0 v1 v2 t)(s:Below w.heap.size w w'):qT w' lo hi v0 v1 v2 t:=
 ⟨h.1,h.2.1.zO9 s,h.2.2⟩
theorem qG.zO9{w w':World}{lo hi:Nat}{v:Value}{n:Nat}{f:Nat->zO}(h:qG w lo hi v n f)(s:Below w.heap.size w w'):qG w' lo hi v n f:=by
 obtain⟨h0,a,cap,hv,aA,hc⟩:=h;refine⟨h0,a,cap,hv,aA,fun hn=>?_⟩;obtain⟨b,off,ha,h1,h2,h3⟩:=hc hn;refine⟨b,off,ha,h1,h2,fun i hi=>?_⟩;obtain⟨v0,v1,v2,c0,c1,c2,hs⟩:=h3 i hi;exact⟨v0,v1,v2,(s.cell (zD c0)).trans c0,(s.cell (zD c1)).trans c1,(s.cell (zD c2)).trans c2,hs.zO9 s⟩
theorem qS.zO9{w w':World}{lo hi:Nat}{v0 v1:Value}{p:zN}(h:qS w lo hi v0 v1 p)(s:Below w.heap.size w w'):qS w' lo hi v0 v1 p:=⟨h.1.zO9 s,h.2.zO9 s⟩
structure zF (S:Nat->Prop) (w w':World):Prop where
 os:w'.os=w.os
 tape:w'.tape=w.tape
 output:w'.output=w.output
 size:w.heap.size<=w'.heap.size
 block:∀k,k<w.heap.size->¬S k->w'.heap[k]?=w.heap[k]?
theorem zF.refl(S:Nat->Prop)(w:World):zF S w w:=⟨rfl,rfl,rfl,Nat.le_refl _,fun _ _ _=>rfl⟩
theorem zF.trans{S:Nat->Prop}{a b c:World}(h:zF S a b)(k:zF S b c):zF S a c:=
 ⟨k.os.trans h.os,k.tape.trans h.tape,k.output.trans h.output,Nat.le_trans h.size k.size,fun i hi hs=>(k.block i (Nat.lt_of_lt_of_le hi h.size) hs).trans (h.block i hi hs)⟩
theorem zF.mono{S T:Nat->Prop}{a b:World}(h:zF S a b)(aA:∀k,S k->T k):zF T a b:=
 ⟨h.os,h.tape,h.output,h.size,fun i hi hs=>h.block i hi (fun x=>hs (aA i x))⟩
theorem zF.zPB{S:Nat->Prop}{w w':World}(h:Below w.heap.size w w'):zF S w w':=⟨h.os,h.tape,h.output,h.size,fun k hk _=>h.block k hk⟩
theorem zF.zO9{S:Nat->Prop}{w w':World}(h:zF S w w'){B:Nat}(hB:B<=w.heap.size)(hs:∀k,S k->B<=k):Below B w w':=
 ⟨h.os,h.tape,h.output,h.size,fun k hk=>h.block k (by omega) (fun x=>by have:=hs k x;omega)⟩
theorem zF.setCell{S:Nat->Prop}{w w':World}(h:zF S w w'){p:Addr}(hp:S p.block)(u:Value):zF S w (w'.setCell p u):=
 h.trans ⟨rfl,rfl,rfl,by simp,fun k _ hs=>Below.heap_setCell _ _ _ _ (fun e=>hs (e▸hp))⟩
theorem zF.put(w:World)(b o:Nat)(u:Value):zF (fun k=>k=b) w (w.setCell ⟨b,o,none⟩ u):=
 (zF.refl (fun k=>k=b) w).setCell (p:=⟨b,o,none⟩) rfl u
theorem zF.cell{S:Nat->Prop}{w w':World}(h:zF S w w'){b o:Nat}(hb:b<w.heap.size)(hs:¬S b):w'.cell? ⟨b,o,none⟩=w.cell? ⟨b,o,none⟩:=
 World.cell?_of_block (w:=w) (h.block b hb hs)
theorem zF.frozen{S:Nat->Prop}{w w':World}(h:zF S w w'){b o:Nat}(hb:b<w.heap.size)(hs:¬S b):w'.frozen? ⟨b,o,none⟩=w.frozen? ⟨b,o,none⟩:=
 World.frozen?_of_block (w:=w) (h.block b hb hs)
def zQ(w:World)(b o:Nat)(v:Value):Prop:=w.cell? ⟨b,o,none⟩=some v/\w.frozen? ⟨b,o,none⟩=false
theorem zQ.lt{w:World}{b o:Nat}{v:Value}(h:zQ w b o v):b<w.heap.size:=zD h.1
theorem zQ.zPF{S:Nat->Prop}{w w':World}{b o:Nat}{v:Value}(h:zQ w b o v)(t:zF S w w')(hs:¬S b):zQ w' b o v:=
 ⟨(t.cell h.lt hs).trans h.1,(t.frozen h.lt hs).trans h.2⟩
theorem zQ.zO9{w w':World}{b o:Nat}{v:Value}(h:zQ w b o v)(t:Below w.heap.size w w'):zQ w' b o v:=
 ⟨(t.cell h.lt).trans h.1,(t.frozen h.lt).trans h.2⟩
theorem zQ.set{w:World}{b o:Nat}{v:Value}(h:zQ w b o v)(u:Value):zQ (w.setCell ⟨b,o,none⟩ u) b o u:=
 ⟨World.cell?_setCell_same' _ _ _ (by rw[h.1];rfl),by rw[World.frozen?_setCell];exact h.2⟩
theorem zQ.zPA{w:World}{b o:Nat}{v:Value}(h:zQ w b o v){b' o':Nat}(u:Value)(aA:b'≠b\/o'≠o):zQ (w.setCell ⟨b',o',none⟩ u) b o v:=by
 refine⟨?_,by rw[World.frozen?_setCell];exact h.2⟩;rw[World.cell?_setCell_other]
 ·exact h.1
 ·intro e;simp only[Addr.mk.injEq]at e;rcases aA with h | h
  ·exact h e.1
  ·exact h e.2.1
def zOY(w:World)(b:Nat)(a:Option Addr)(n cap:Nat):Prop:=n<cap->0<n/\a=some ⟨b,0,none⟩/\cap<=maxLen/\∃cur,w.heap[b]?=some (.cells cur 2 (0,0))/\cur.size=cap
def qd(w:World)(b:Nat)(v:Value)(n:Nat)(f:Nat->Int):Prop:=
 n<=maxLen/\∃a cap,v = .slice a n cap/\n<=cap/\(0<n->∃off,a=some ⟨b,off,none⟩/\∀i,i<n->zQ w b (off+i) (.int .i64 (f i)))/\zOY w b a n cap
def zj(w:World)(b:Nat)(v:Value)(n:Nat)(fs fb:Nat->Int):Prop:=
 n<=maxLen/\∃a cap,v = .slice a n cap/\n<=cap/\(0<n->∃off,a=some ⟨b,off,none⟩/\∀i,i<n->zQ w b (off+i*2) (.int .i64 (fs i))/\zQ w b (off+i*2+1) (.int .i64 (fb i)))
theorem qd.at{w:World}{b:Nat}{v:Value}{n:Nat}{f:Nat->Int}(h:qd w b v n f){lo hi:Nat}(hb:0<n->lo<=b/\b<hi):qs w lo hi v n f:=by
 obtain⟨h0,a,cap,hv,aA,hc,hr⟩:=h;refine⟨h0,a,cap,hv,aA,fun hn=>?_⟩;obtain⟨off,ha,h3⟩:=hc hn;exact⟨b,off,ha,(hb hn).1,(hb hn).2,fun i hi=>(h3 i hi).1⟩
theorem zj.at{w:World}{b:Nat}{v:Value}{n:Nat}{f g:Nat->Int}(h:zj w b v n f g){lo hi:Nat}(hb:0<n->lo<=b/\b<hi):zR w lo hi v n f g:=by
 obtain⟨h0,a,cap,hv,aA,hc⟩:=h;refine⟨h0,a,cap,hv,aA,fun hn=>?_⟩;obtain⟨off,ha,h3⟩:=hc hn;exact⟨b,off,ha,(hb hn).1,(hb hn).2,fun i hi=>⟨(h3 i hi).1.1,(h3 i hi).2.1⟩⟩
theorem qd.zPF{S:Nat->Prop}{w w':World}{b:Nat}{v:Value}{n:Nat}{f:Nat->Int}(h:qd w b v n f)(t:zF S w w')(hs:0<n->¬S b):qd w' b v n f:=by
 obtain⟨h0,a,cap,hv,bA,hc,hr⟩:=h;refine⟨h0,a,cap,hv,bA,fun hn=>?_,fun cA=>?_⟩;rotate_left
 ·obtain⟨r0,r1,r2,aA,r3,r4⟩:=hr cA;exact⟨r0,r1,r2,aA,(t.block b (Array.getElem?_eq_some_iff.1 r3).1 (hs r0)).trans r3,r4⟩
 obtain⟨off,ha,h3⟩:=hc hn;exact⟨off,ha,fun i hi=>(h3 i hi).zPF t (hs hn)⟩
theorem zj.zPF{S:Nat->Prop}{w w':World}{b:Nat}{v:Value}{n:Nat}{f g:Nat->Int}(h:zj w b v n f g)(t:zF S w w')(hs:0<n->¬S b):zj w' b v n f g:=by
 obtain⟨h0,a,cap,hv,aA,hc⟩:=h;refine⟨h0,a,cap,hv,aA,fun hn=>?_⟩;obtain⟨off,ha,h3⟩:=hc hn;exact⟨off,ha,fun i hi=>⟨(h3 i hi).1.zPF t (hs hn),(h3 i hi).2.zPF t (hs hn)⟩⟩
theorem zj.zO9{w w':World}{b:Nat}{v:Value}{n:Nat}{f g:Nat->Int}(h:zj w b v n f g)(t:Below w.heap.size w w'):zj w' b v n f g:=
 h.zPF (zF.zPB (S:=fun _=>False) t) (fun _ h=>h)
theorem qd.zO9{w w':World}{b:Nat}{v:Value}{n:Nat}{f:Nat->Int}(h:qd w b v n f)(t:Below w.heap.size w w'):qd w' b v n f:=
 h.zPF (zF.zPB (S:=fun _=>False) t) (fun _ h=>h)
structure yf (w:World) (bs o kb:Nat) (kv:Value) (s:zO):Prop where
 zPI:zQ w bs o (.int .i64 s.zPI)
 kidsv:zQ w bs (o+1) kv
 data:zQ w bs (o+2) (.string s.data)
 kids:zj w kb kv s.kn s.ks s.kb
 zPN:s.data.size<=maxLen
 zPJ:0<s.kn->kb≠bs
theorem yf.zPF{S:Nat->Prop}{w w':World}{bs o kb:Nat}{kv:Value}{s:zO}(h:yf w bs o kb kv s)(t:zF S w w')(h1:¬S bs)(h2:0<s.kn->¬S kb):yf w' bs o kb kv s:=
 ⟨h.zPI.zPF t h1,h.kidsv.zPF t h1,h.data.zPF t h1,h.kids.zPF t h2,h.zPN,h.zPJ⟩
theorem yf.zO9{w w':World}{bs o kb:Nat}{kv:Value}{s:zO}(h:yf w bs o kb kv s)(t:Below w.heap.size w w'):yf w' bs o kb kv s:=
 h.zPF (zF.zPB (S:=fun _=>False) t) (fun h=>h) (fun _ h=>h)
theorem yf.at{w:World}{bs o kb:Nat}{kv:Value}{s:zO}(h:yf w bs o kb kv s){lo hi:Nat}(hb:0<s.kn->lo<=kb/\kb<hi):qT w lo hi (.int .i64 s.zPI) kv (.string s.data) s:=
 ⟨rfl,h.kids.at hb,rfl,h.zPN⟩
def qO(w:World)(bs:Nat)(kb:Nat->Nat)(kv:Nat->Value)(v:Value)(n:Nat)(f:Nat->zO):Prop:=
 n<=maxLen/\∃a cap,v = .slice a n cap/\n<=cap/\(0<n->∃off,a=some ⟨bs,off,none⟩/\∀i,i<n->yf w bs (off+i*3) (kb i) (kv i) (f i))
def yJ(kb:Nat->Nat)(n:Nat)(f:Nat->zO):Prop:=∀i j,i<n->j<n->i≠j->0<(f i).kn->0<(f j).kn->kb i≠kb j
def zNw(lo hi bs:Nat)(kb:Nat->Nat)(n:Nat)(f:Nat->zO):Prop:=0<n->(lo<=bs/\bs<hi)/\∀i,i<n->0<(f i).kn->lo<=kb i/\kb i<hi
theorem qO.at{w:World}{bs:Nat}{kb:Nat->Nat}{kv:Nat->Value}{v:Value}{n:Nat}{f:Nat->zO}(h:qO w bs kb kv v n f){lo hi:Nat}(hb:zNw lo hi bs kb n f):qG w lo hi v n f:=by
 obtain⟨h0,a,cap,hv,aA,hc⟩:=h;refine⟨h0,a,cap,hv,aA,fun hn=>?_⟩;obtain⟨off,ha,h3⟩:=hc hn;refine⟨bs,off,ha,(hb hn).1.1,(hb hn).1.2,fun i hi=>?_⟩;exact⟨_,_,_,(h3 i hi).zPI.1,(h3 i hi).kidsv.1,(h3 i hi).data.1,(h3 i hi).at ((hb hn).2 i hi)⟩
theorem qO.zO9{w w':World}{bs:Nat}{kb:Nat->Nat}{kv:Nat->Value}{v:Value}{n:Nat}{f:Nat->zO}(h:qO w bs kb kv v n f)(t:Below w.heap.size w w'):qO w' bs kb kv v n f:=by
 obtain⟨h0,a,cap,hv,aA,hc⟩:=h;refine⟨h0,a,cap,hv,aA,fun hn=>?_⟩;obtain⟨off,ha,h3⟩:=hc hn;exact⟨off,ha,fun i hi=>(h3 i hi).zO9 t⟩
theorem qO.zPF{S:Nat->Prop}{w w':World}{bs:Nat}{kb:Nat->Nat}{kv:Nat->Value}{v:Value}{n:Nat}{f:Nat->zO}(h:qO w bs kb kv v n f)(t:zF S w w')
  (h1:0<n->¬S bs) (h2:∀i,i<n->0<(f i).kn->¬S (kb i)):qO w' bs kb kv v n f:=by
 obtain⟨h0,a,cap,hv,aA,hc⟩:=h;refine⟨h0,a,cap,hv,aA,fun hn=>?_⟩;obtain⟨off,ha,h3⟩:=hc hn;exact⟨off,ha,fun i hi=>(h3 i hi).zPF t (h1 hn) (h2 i hi)⟩
def zp(w:World)(b:Nat)(v0 v1:Value):Prop:=zQ w b 0 v0/\zQ w b 1 v1
theorem zp.zO9{w w':World}{b:Nat}{v0 v1:Value}(h:zp w b v0 v1)(t:Below w.heap.size w w'):zp w' b v0 v1:=⟨h.1.zO9 t,h.2.zO9 t⟩
theorem zp.zPF{S:Nat->Prop}{w w':World}{b:Nat}{v0 v1:Value}(h:zp w b v0 v1)(t:zF S w w')(hs:¬S b):zp w' b v0 v1:=⟨h.1.zPF t hs,h.2.zPF t hs⟩
theorem zp.new(w:World)(v0 v1:Value)(t:TypeId):zp (w.alloc (.cells #[v0,v1] t)) w.heap.size v0 v1:=
 ⟨⟨by rw[World.cell?_alloc_at (hn:=rfl)];rfl,by rw[World.frozen?_alloc_at (hn:=rfl)]⟩,⟨by rw[World.cell?_alloc_at (hn:=rfl)];rfl,by rw[World.frozen?_alloc_at (hn:=rfl)]⟩⟩
def yX(w:World)(b:Nat)(v0 v1 v2:Value):Prop:=zQ w b 0 v0/\zQ w b 1 v1/\zQ w b 2 v2
theorem yX.zO9{w w':World}{b:Nat}{v0 v1 v2:Value}(h:yX w b v0 v1 v2)(t:Below w.heap.size w w'):yX w' b v0 v1 v2:=⟨h.1.zO9 t,h.2.1.zO9 t,h.2.2.zO9 t⟩
theorem yX.new(w:World)(v0 v1 v2:Value)(t:TypeId):yX (w.alloc (.cells #[v0,v1,v2] t)) w.heap.size v0 v1 v2:=
 ⟨⟨by rw[World.cell?_alloc_at (hn:=rfl)];rfl,by rw[World.frozen?_alloc_at (hn:=rfl)]⟩,⟨by rw[World.cell?_alloc_at (hn:=rfl)];rfl,by rw[World.frozen?_alloc_at (hn:=rfl)]⟩,⟨by rw[World.cell?_alloc_at (hn:=rfl)];rfl,by rw[World.frozen?_alloc_at (hn:=rfl)]⟩⟩
theorem yX.put{w:World}{b:Nat}{v0 v1 v2:Value}(h:yX w b v0 v1 v2)(u0 u1 u2:Value):yX (((w.setCell ⟨b,0,none⟩ u0).setCell ⟨b,1,none⟩ u1).setCell ⟨b,2,none⟩ u2) b u0 u1 u2:=
 ⟨((h.1.set u0).zPA _ (Or.inr (by omega))).zPA _ (Or.inr (by omega)),((h.2.1.zPA _ (Or.inr (by omega))).set u1).zPA _ (Or.inr (by omega)),((h.2.2.zPA _ (Or.inr (by omega))).zPA _ (Or.inr (by omega))).set u2⟩
theorem zp.put{w:World}{b:Nat}{v0 v1:Value}(h:zp w b v0 v1)(u0 u1:Value):zp ((w.setCell ⟨b,0,none⟩ u0).setCell ⟨b,1,none⟩ u1) b u0 u1:=
 ⟨(h.1.set u0).zPA _ (Or.inr (by omega)),(h.2.zPA _ (Or.inr (by omega))).set u1⟩
theorem yX.zPA{w:World}{b:Nat}{v0 v1 v2:Value}(h:yX w b v0 v1 v2){b' o':Nat}(u:Value)(aA:b'≠b):yX (w.setCell ⟨b',o',none⟩ u) b v0 v1 v2:=
 ⟨h.1.zPA u (Or.inl aA),h.2.1.zPA u (Or.inl aA),h.2.2.zPA u (Or.inl aA)⟩
theorem zp.zPA{w:World}{b:Nat}{v0 v1:Value}(h:zp w b v0 v1){b' o':Nat}(u:Value)(aA:b'≠b):zp (w.setCell ⟨b',o',none⟩ u) b v0 v1:=
 ⟨h.1.zPA u (Or.inl aA),h.2.zPA u (Or.inl aA)⟩
theorem zj.put{w:World}{b:Nat}{v:Value}{n:Nat}{f g:Nat->Int}(h:zj w b v n f g){b' o':Nat}(u:Value)(aA:b'≠b):zj (w.setCell ⟨b',o',none⟩ u) b v n f g:=
 h.zPF (zF.put w b' o' u) (fun _ e=>aA e.symm)
theorem qd.put{w:World}{b:Nat}{v:Value}{n:Nat}{f:Nat->Int}(h:qd w b v n f){b' o':Nat}(u:Value)(aA:b'≠b):qd (w.setCell ⟨b',o',none⟩ u) b v n f:=
 h.zPF (zF.put w b' o' u) (fun _ e=>aA e.symm)
theorem zC(w:World)(o:Obj):Below w.heap.size w (w.alloc o):=(Below.refl _ _).alloc (Nat.le_refl _) o
theorem zH{w:World}{b i:Nat}{cs:Array Value}{t:TypeId}{v:Value}(h:w.heap[b]?=some (.cells cs t))(hi:cs[i]?=some v):zQ w b i v:=by
 refine⟨?_,?_⟩
 ·simp[World.cell?,h,hi]
 ·simp[World.frozen?,h]
theorem zBY{w:World}{b o:Nat}{cs:Array Value}{t:TypeId}(v:Value)(h:w.heap[b]?=some (.cells cs t)):(w.setCell ⟨b,o,none⟩ v).heap[b]?=some (.cells (cs.setIfInBounds o v) t):=by
 simp[World.setCell,Array.getElem?_modify,h]
theorem za{w:World}{base e size:Nat}{v:Value}{n:Nat}{xs:List Value}(h:w.ownsRow base e size v n xs):∃a cap,v = .slice a n cap/\n<=cap:=by
 obtain⟨_,⟨h,rfl⟩ | ⟨g,cap,bA,hv,_,_,aA,_⟩⟩:=h
 ·exact⟨none,0,h,Nat.le_refl _⟩
 ·exact⟨_,cap,hv,aA⟩
theorem yK{w:World}{base e size:Nat}{v:Value}{n:Nat}{xs:List Value}(h:w.ownsRow base e size v n xs)(hn:0<n) :
  ∃g cap,v = .slice (some ⟨g,0,none⟩) n cap/\n<=cap/\base<=g/\g<w.heap.size/\∀j u,xs[j]?=some u->zQ w g j u:=by
 obtain⟨_,⟨h,rfl⟩ | ⟨g,cap,bA,hv,hb,hg,h1,h2,h3,h4⟩⟩:=h
 ·omega
 ·refine⟨g,cap,hv,h1,hb,?_,fun j u hj=>?_⟩
  ·by_cases cA:g<w.heap.size
   ·exact cA
   ·rw[Array.getElem?_eq_none (by omega)]at hg;simp at hg
  ·refine⟨?_,?_⟩
   ·simp only[World.cell?,hg];have aA:(bA.toList.take (n*size))[j]?=some u:=(by rw[h4];exact hj);rw[List.getElem?_take]at aA;split at aA
    ·simpa using aA
    ·simp at aA
   ·simp only[World.frozen?,hg];simp
theorem zJp{w w1:World}{v:Value}{b base e size n:Nat}{xs:List Value}(hg:w.grownBy w1 v.ownBlock)(aA:w.ownsRow base e size v n xs)(hb:b<base)(bA:b<w.heap.size):w1.heap[b]?=w.heap[b]?:=
 hg.block b bA (fun e=>by have:=aA.lt b e.symm;omega)
def yV(bs:Nat)(kb:Nat->Nat)(n:Nat)(f:Nat->zO)(k:Nat):Prop:=(0<n/\k=bs)\/∃i,i<n/\0<(f i).kn/\k=kb i
theorem qO.lt{w:World}{bs:Nat}{kb:Nat->Nat}{kv:Nat->Value}{v:Value}{n:Nat}{f:Nat->zO}(h:qO w bs kb kv v n f){k:Nat}(hk:yV bs kb n f k):k<w.heap.size:=by
 obtain⟨_,a,cap,_,_,hc⟩:=h;rcases hk with⟨h0,rfl⟩ | ⟨i,hi,h0,rfl⟩
 ·obtain⟨off,_,h3⟩:=hc h0;exact(h3 0 h0).zPI.lt
 ·obtain⟨off,_,h3⟩:=hc (by omega);obtain⟨_,_,_,_,_,h4⟩:=(h3 i hi).kids;obtain⟨o,_,h5⟩:=h4 h0;exact(h5 0 h0).1.lt
def qF(w:World)(lo hi:Nat)(v0 v1:Value)(p:zN):Prop:=
 ∃(bs hb:Nat) (kb:Nat->Nat) (kv:Nat->Value),qO w bs kb kv v0 p.n p.s/\yJ kb p.n p.s/\qd w hb v1 p.hn p.h/\(0<p.hn->¬yV bs kb p.n p.s hb)/\
  ∀k,yV bs kb p.n p.s k\/(0<p.hn/\k=hb)->lo<=k/\k<hi
theorem qF.at{w:World}{lo hi:Nat}{v0 v1:Value}{p:zN}(h:qF w lo hi v0 v1 p):qS w lo hi v0 v1 p:=by
 obtain⟨bs,hb,kb,kv,h1,h2,h3,h4,h5⟩:=h;exact⟨h1.at fun h0=>⟨h5 _ (Or.inl (Or.inl ⟨h0,rfl⟩)),fun i hi h=>h5 _ (Or.inl (Or.inr ⟨i,hi,h,rfl⟩))⟩,h3.at fun h0=>h5 _ (Or.inr ⟨h0,rfl⟩)⟩
theorem qF.zO9{w w':World}{lo hi:Nat}{v0 v1:Value}{p:zN}(h:qF w lo hi v0 v1 p)(t:Below w.heap.size w w'):qF w' lo hi v0 v1 p:=by
 obtain⟨bs,hb,kb,kv,h1,h2,h3,h4,h5⟩:=h;exact⟨bs,hb,kb,kv,h1.zO9 t,h2,h3.zO9 t,h4,h5⟩
theorem qF.zPF{S:Nat->Prop}{w w':World}{lo hi:Nat}{v0 v1:Value}{p:zN}(h:qF w lo hi v0 v1 p)(t:zF S w w')(hs:∀k,S k->k<lo\/hi<=k):qF w' lo hi v0 v1 p:=by
 obtain⟨bs,hb,kb,kv,h1,h2,h3,h4,h5⟩:=h;have out:∀k,yV bs kb p.n p.s k\/(0<p.hn/\k=hb)->¬S k:=fun k hk hx=>by
  have a:=h5 k hk;have b:=hs k hx;omega
 exact⟨bs,hb,kb,kv,h1.zPF t (fun h0=>out _ (Or.inl (Or.inl ⟨h0,rfl⟩))) (fun i hi h=>out _ (Or.inl (Or.inr ⟨i,hi,h,rfl⟩))),h2,h3.zPF t (fun h0=>out _ (Or.inr ⟨h0,rfl⟩)),h4,h5⟩
theorem qs.wide{w:World}{lo hi bA aA:Nat}{v:Value}{n:Nat}{f:Nat->Int}(h:qs w lo hi v n f)(h1:bA<=lo)(h2:hi<=aA):qs w bA aA v n f:=by
 obtain⟨h0,a,cap,hv,cA,hc⟩:=h;refine⟨h0,a,cap,hv,cA,fun hn=>?_⟩;obtain⟨b,off,ha,g1,g2,g3⟩:=hc hn;exact⟨b,off,ha,by omega,by omega,g3⟩
theorem zR.wide{w:World}{lo hi bA aA:Nat}{v:Value}{n:Nat}{f g:Nat->Int}(h:zR w lo hi v n f g)(h1:bA<=lo)(h2:hi<=aA):zR w bA aA v n f g:=by
 obtain⟨h0,a,cap,hv,cA,hc⟩:=h;refine⟨h0,a,cap,hv,cA,fun hn=>?_⟩;obtain⟨b,off,ha,g1,g2,g3⟩:=hc hn;exact⟨b,off,ha,by omega,by omega,g3⟩
theorem qF.wide{w:World}{lo hi bA aA:Nat}{v0 v1:Value}{p:zN}(h:qF w lo hi v0 v1 p)(h1:bA<=lo)(h2:hi<=aA):qF w bA aA v0 v1 p:=by
 obtain⟨bs,hb,kb,kv,g1,g2,g3,g4,g5⟩:=h;exact⟨bs,hb,kb,kv,g1,g2,g3,g4,fun k hk=>by have:=g5 k hk;omega⟩
theorem qF.zPO{w:World}{lo hi:Nat}{v0 v1:Value}{p:zN}(h:qF w lo hi v0 v1 p):∃a c a' c',v0 = .slice a p.n c/\v1 = .slice a' p.hn c':=by
 obtain⟨bs,hb,kb,kv,⟨_,a,c,h1,_⟩,h2,⟨_,a',c',h3,_,_⟩,h4,h5⟩:=h;exact⟨a,c,a',c',h1,h3⟩
theorem qS.zPO{w:World}{lo hi:Nat}{v0 v1:Value}{p:zN}(h:qS w lo hi v0 v1 p):∃a c a' c',v0 = .slice a p.n c/\v1 = .slice a' p.hn c':=by
 obtain⟨⟨_,a,c,h1,_⟩,⟨_,a',c',h3,_⟩⟩:=h;exact⟨a,c,a',c',h1,h3⟩
def zIc(p:zN)(w:World)(e:Ending)(w':World):Prop:=∃v0 v1,e = .returned (.agg #[v0,v1])/\qF w' w.heap.size w'.heap.size v0 v1 p/\Below w.heap.size w w'
def zFz:zO:={zPI:=0,kn:=0,ks:=fun _=>0,kb:=fun _=>0,data:=⟨#[]⟩}
def zI8(n:Nat):zN:={n:=n,s:=fun _=>zFz,hn:=0,h:=fun _=>0}
theorem zKO{bs:Nat}{kb:Nat->Nat}{n k:Nat}:yV bs kb n (fun _=>zFz) k↔0<n/\k=bs:=by
 constructor
 ·rintro(h | ⟨i,_,h0,_⟩)
  ·exact h
  ·exact absurd h0 (by simp[zFz])
 ·exact Or.inl
theorem zNX{w:World}{lo hi g n:Nat}{v0:Value}(hn:n<=maxLen)(hv:∃a cap,v0 = .slice a n cap/\n<=cap/\(0<n->a=some ⟨g,0,none⟩/\lo<=g/\g<hi))
  (hc:∀i,i<n->zQ w g (0+i*3) (.int .i64 0)/\zQ w g (0+i*3+1) (.slice none 0 0)/\zQ w g (0+i*3+2) (.string ⟨#[]⟩)) :
  qF w lo hi v0 (.slice none 0 0) (zI8 n):=by
 obtain⟨a,cap,rfl,aA,ha⟩:=hv;refine⟨g,0,fun _=>0,fun _=>.slice none 0 0,⟨hn,a,cap,rfl,aA,fun h0=>⟨0,(ha h0).1,fun i hi=>?_⟩⟩,fun i j _ _ _ h0 _=>absurd h0 (by simp[zI8,zFz]),⟨Nat.zero_le _,none,0,rfl,Nat.le_refl _,fun h=>absurd h (Nat.lt_irrefl _),fun h=>absurd h (Nat.lt_irrefl _)⟩,fun h=>absurd h (Nat.lt_irrefl _),?_⟩
 ·exact⟨(hc i hi).1,(hc i hi).2.1,(hc i hi).2.2,⟨Nat.zero_le _,none,0,rfl,Nat.le_refl _,fun h=>absurd h (Nat.lt_irrefl _)⟩,Nat.zero_le _,fun h=>absurd h (Nat.lt_irrefl _)⟩
 ·rintro k (h | h)
  ·obtain⟨h0,rfl⟩:=zKO.1 h;exact(ha h0).2
  ·exact absurd h.1 (Nat.lt_irrefl _)
def zCE(s:zO):Nat:=s.kn+s.data.size
def zAP(f:Nat->zO):Nat->Nat
 | 0=>0
 | k+1=>zAP f k+zCE (f k)
def yL(p:zN):Nat:=p.n+zAP p.s p.n+p.hn
theorem zFA(f:Nat->zO){j n:Nat}(h:j<n):zCE (f j)<=zAP f n:=by
 induction n with
 | zero=>omega
 | succ n ih=>
  show _<=zAP f n+zCE (f n);by_cases e:j=n
  ·subst e;omega
  ·have:=ih (by omega);omega
theorem zCd:(Tryz.prog.info? 2).map (fun i=>(i.zero,i.size,i.bytes))=some (some (.int .i64 0),1,8):=by kernel_rfl
theorem zN1:(Tryz.prog.info? 61).map (fun i=>(i.zero,i.size,i.bytes))=some (some (.agg #[.int .i64 0,.int .i64 0]),2,16):=by kernel_rfl
theorem zFV:(Tryz.prog.info? 127).map (fun i=>(i.zero,i.size,i.bytes))=some (some (.agg #[.int .i64 0,.slice none 0 0,.string ⟨#[]⟩]),3,48):=by kernel_rfl
def zHN(zs:Array Value)(n:Nat):Array Value:=madeCells zs (n*zs.size)
theorem zNu(zs:Array Value)(n i r:Nat)(hi:i<n)(hr:r<zs.size):(zHN zs n)[i*zs.size+r]?=some (zs[r]!):=by
 unfold zHN madeCells;have h1:i*zs.size+r<n*zs.size:=by
  have:(i+1)*zs.size<=n*zs.size:=Nat.mul_le_mul_right _ hi;rw[Nat.add_mul]at this;omega
 have h2:(i*zs.size+r) % zs.size=r:=by rw[Nat.mul_comm,Nat.mul_add_mod];exact Nat.mod_eq_of_lt hr
 simp only[Array.getElem?_map,Array.getElem?_range,h1,if_true,Option.map_some,h2]
theorem zB1(t e:TypeId)(z:Value)(size bytes:Nat)(ht:Tryz.prog.underlying t=some (.slice e))(aA:(Tryz.prog.info? e).map (fun i=>(i.zero,i.size,i.bytes))=some (some z,size,bytes))(hs:z.cells.size=size)
  (n:Nat) (hn:n<=1048576) (hb:bytes<=1000) (w:World):(Instr.makeSlice t (.int .i64 (n:Int)) (.int .i64 (n:Int))).run Tryz.prog w = .ok (.slice (some ⟨w.heap.size,0,none⟩) n n) (w.alloc (.cells (zHN z.cells n) e)):=by
 obtain⟨i,hi,bA⟩:=Option.map_eq_some_iff.1 aA;simp only[Prod.mk.injEq]at bA;obtain⟨hz,eA,cA⟩:=bA;have dA:(bytes:Int)*(n:Int)<=281474976710656:=by
  have h:bytes*n<=1000*1048576:=Nat.mul_le_mul hb hn;have h2:((bytes*n:Nat):Int)<=((1000*1048576:Nat):Int):=Int.ofNat_le.2 h;rw[Int.natCast_mul]at h2;omega
 have hr:=run_make (P:=Tryz.prog) w t e i z ht hi hz .i64 .i64 n n (by omega) (Int.le_refl _) (by rw[cA];exact dA) (by omega);rw[eA,<-hs]at hr;simp only[Int.toNat_natCast]at hr;exact hr
theorem qo(w:World)(zs:Array Value)(n i r:Nat)(t:TypeId)(hi:i<n)(hr:r<zs.size):zQ (w.alloc (.cells (zHN zs n) t)) w.heap.size (i*zs.size+r) (zs[r]!):=
 ⟨by rw[World.cell?_alloc_at (hn:=rfl)];exact zNu zs n i r hi hr,by rw[World.frozen?_alloc_at (hn:=rfl)]⟩
open Go.Extern.Stop Go.Stop Go.Extern
theorem zf{P:Prop}(h:P):Hid P:=h
abbrev qC(a:Addr):Value:=.iface 269 (.pointer (some a))
def zAW:Nat->Nat
 | 0=>4
 | 1=>3
 | 2=>0
 | 3=>2
 | 4=>5
 | 5=>1
 | _=>6
def zDT:Nat->Int
 | 0=>1
 | 1=>2
 | 2=>4
 | 3=>5
 | 4=>6
 | 5=>7
 | _=>8
structure zEd (w:World) (p:Nat->Addr):Prop where
 cell:∀i,i<7->w.cell? ⟨zAW i,0,none⟩=some (qC (p i))
 row:∀i,i<7->∃cs t,w.heap[(p i).block]?=some (.cells cs t (0,0))
 ne:∀i j,i<7->j<7->i≠j->p i≠p j
theorem zEd.zO9{w w':World}{p:Nat->Addr}(h:zEd w p)(t:Below w.heap.size w w'):zEd w' p:=
 ⟨fun i hi=>(t.cell (zD (h.cell i hi))).trans (h.cell i hi),fun i hi=>by
  obtain⟨cs,ty,hc⟩:=h.row i hi;exact⟨cs,ty,(t.block _ (Array.getElem?_eq_some_iff.1 hc).1).trans hc⟩,h.ne⟩
theorem zJw(v:Value)(w:World):(Extern.ReflectliteType.typeOf #[.iface 269 v]).run Tryz.prog w = .ok (.iface 254 (.agg #[.pointer (some ⟨7,269,none⟩)])) w:=by kernel_rfl
def zOa:Array Value->Sem Value:=Extern.ReflectliteType.method fun t=>do Extern.Rtype.noPackHeld "Comparable" t;pure (.bool (<-typeInfo t).comparable)
theorem zEw(w:World):(zOa #[.agg #[.pointer (some ⟨7,269,none⟩)]]).run Tryz.prog w = .ok (.bool true) w:=by kernel_rfl
theorem zBz(v:Value)(w:World):(Go.method 407 254 v "Comparable").run Tryz.prog w = .ok (254,v) w:=by kernel_rfl
theorem zNJ:(Tryz.prog.info? 269).map (·.comparable)=some true:=by kernel_rfl
theorem zNK:(Tryz.prog.info? 295).map (·.size)=some 1:=by kernel_rfl
theorem zOz(v:Value)(xT:TypeId)(w:World):(Instr.typeAssert (.iface 269 v) xT 256 true).run Tryz.prog w = .ok (.tuple #[.nilIface,.bool false]) w:=run_typeAssert_lacksB Tryz.underlying256 (by kernel_rfl) (by kernel_rfl) v xT w
theorem zMZ(v:Value)(xT:TypeId)(w:World):(Instr.typeAssert (.iface 269 v) xT 259 true).run Tryz.prog w = .ok (.tuple #[.nilIface,.bool false]) w:=run_typeAssert_lacksB Tryz.underlying259 (by kernel_rfl) (by kernel_rfl) v xT w
theorem zLC(v:Value)(xT:TypeId)(w:World):(Instr.typeAssert (.iface 269 v) xT 261 true).run Tryz.prog w = .ok (.tuple #[.nilIface,.bool false]) w:=run_typeAssert_lacksB Tryz.underlying261 (by kernel_rfl) (by kernel_rfl) v xT w
theorem zN3(a:Addr)(w:World):Calls Tryz.prog 172 #[qC a,qC a] w fun e w'=>e = .returned (.bool true)/\w'=w:=by
 obtain⟨i,hi,aA⟩:=Option.map_eq_some_iff.1 zNJ;obtain⟨j,hj,dA⟩:=Option.map_eq_some_iff.1 zNK;have h8:=@run_callFunc_extern Tryz.prog 212 _ Extern.ReflectliteType.typeOf Tryz.func212 (by kernel_rfl) (by kernel_rfl) (by kernel_rfl) (by kernel_rfl);have bA:=@run_callFunc_extern Tryz.prog 254 _ zOa Tryz.func254 (by kernel_rfl) (by kernel_rfl) (by kernel_rfl) (by kernel_rfl);have tT:=zJw;have cT:=zEw;have mR:=zBz;have cA:=run_eql_iface_ptr_same (P:=Tryz.prog) w a Tryz.underlying73 Tryz.underlying269 hi aA hj;go_enter Tryz.func172,Tryz.ntmps172;go_wp2;refine wp_loop_rounds 1 ?_;rw[rounds_succ];go_wp2;go_ret;exact⟨rfl,rfl⟩
theorem zNL(a b:Addr)(ca cb:Array Value)(ta tb:TypeId)(w:World)(cA:a≠b)(ha:w.heap[a.block]?=some (.cells ca ta (0,0)))(hb:w.heap[b.block]?=some (.cells cb tb (0,0))):Calls Tryz.prog 172 #[qC a,qC b] w fun e w'=>e = .returned (.bool false)/\w'=w:=by
 obtain⟨i,hi,aA⟩:=Option.map_eq_some_iff.1 zNJ;obtain⟨j,hj,bA⟩:=Option.map_eq_some_iff.1 zNK;have h8:=@run_callFunc_extern Tryz.prog 212 _ Extern.ReflectliteType.typeOf Tryz.func212 (by kernel_rfl) (by kernel_rfl) (by kernel_rfl) (by kernel_rfl);have dA:=@run_callFunc_extern Tryz.prog 254 _ zOa Tryz.func254 (by kernel_rfl) (by kernel_rfl) (by kernel_rfl) (by kernel_rfl);have tT:=zJw;have cT:=zEw;have mR:=zBz;have nE:=zOz;have uE:=zMZ;have vE:=zLC;have eA:=run_eql_iface_ptr_other (P:=Tryz.prog) w Tryz.underlying73 Tryz.underlying269 hi aA hj (by rw[bA];decide) cA ha hb;go_enter Tryz.func172,Tryz.ntmps172;go_wp2;refine wp_loop_rounds 1 ?_;rw[rounds_succ];go_wp2;go_ret;exact⟨rfl,rfl⟩
def zNh(p:Nat->Addr):Array Value:=#[qC (p 0),.int .i64 1,qC (p 1),.int .i64 2,qC (p 2),.int .i64 4,qC (p 3),.int .i64 5,qC (p 4),.int .i64 6,qC (p 5),.int .i64 7,qC (p 6),.int .i64 8]
theorem zL0(p:Nat->Addr){i:Nat}(hi:i<7):(zNh p)[i*2]?=some (qC (p i))/\(zNh p)[i*2+1]?=some (.int .i64 (zDT i)):=by
 match i,hi with
 | 0,_=>exact⟨rfl,rfl⟩
 | 1,_=>exact⟨rfl,rfl⟩
 | 2,_=>exact⟨rfl,rfl⟩
 | 3,_=>exact⟨rfl,rfl⟩
 | 4,_=>exact⟨rfl,rfl⟩
 | 5,_=>exact⟨rfl,rfl⟩
 | 6,_=>exact⟨rfl,rfl⟩
theorem zJL(p:Nat->Addr)(w:World)(h:zEd w p):Calls Tryz.prog 150 #[] w fun e w'=>e = .returned (.slice (some ⟨w.heap.size,0,none⟩) 7 7)/\w'=w.alloc (.cells (zNh p) 199):=by
 have h0:w.cell? ⟨4,0,none⟩=some (qC (p 0)):=h.cell 0 (by omega);have h1:w.cell? ⟨3,0,none⟩=some (qC (p 1)):=h.cell 1 (by omega);have h2:w.cell? ⟨0,0,none⟩=some (qC (p 2)):=h.cell 2 (by omega);have h3:w.cell? ⟨2,0,none⟩=some (qC (p 3)):=h.cell 3 (by omega);have h4:w.cell? ⟨5,0,none⟩=some (qC (p 4)):=h.cell 4 (by omega);have h5:w.cell? ⟨1,0,none⟩=some (qC (p 5)):=h.cell 5 (by omega);have h6:w.cell? ⟨6,0,none⟩=some (qC (p 6)):=h.cell 6 (by omega);clear h;go_enter Tryz.func150,Tryz.ntmps150;go_wp2;go_ret;exact⟨rfl,rfl⟩
def zDA(i:Nat)(c:Int):Prop:=(97<=c/\c<=122)\/(i≠0/\((48<=c/\c<=57)\/c=95))
def yE(s:ByteArray):Prop:=1<=s.size/\s.size<=20/\∀j,(h:j<s.size)->zDA j (s[j].toNat:Int)
theorem zOR{s:ByteArray}{k:Nat}(cA:k<s.size)(aA:∀j,(h:j<k)->(h':j<s.size)->zDA j (s[j].toNat:Int))(bA:zDA k (s[k].toNat:Int)) :
  ∃m:Nat,m<=s.size/\Value.int .i64 ((k:Int)+1) = .int .i64 (m:Int)/\∀j,(h:j<m)->(h':j<s.size)->zDA j (s[j].toNat:Int):=by
 refine⟨k+1,by omega,by simp,fun j h h'=>?_⟩;by_cases e:j=k
 ·subst e;exact bA
 ·exact aA j (by omega) h'
theorem zOQ{s:ByteArray}(bA:0<s.size)(aA:zDA 0 (s[0].toNat:Int)) :
  ∃m:Nat,m<=s.size/\Value.int .i64 1 = .int .i64 (m:Int)/\∀j,(h:j<m)->(h':j<s.size)->zDA j (s[j].toNat:Int):=by
 refine⟨1,by omega,by simp,fun j h h'=>?_⟩;obtain rfl:j=0:=by omega
 exact aA
theorem zC7(s:ByteArray)(w:World)(hs:s.size<=maxLen) :
  Calls Tryz.prog 138 #[.string s] w fun e w'=>zG (yE s) e/\w'=w:=by
 unfold maxLen at hs;by_cases h1:s.size<1
 ·have dA:(s.size:Int)<1:=(by omega);go_enter Tryz.func138,Tryz.ntmps138;go_wp2;go_ret;exact⟨⟨false,rfl,by simp[yE];omega⟩,rfl⟩
 by_cases h2:20<s.size
 ·have eA:(20:Int)<(s.size:Int):=(by omega);have dA:¬(s.size:Int)<1:=(by omega);go_enter Tryz.func138,Tryz.ntmps138;go_wp2;go_ret;exact⟨⟨false,rfl,by simp[yE];omega⟩,rfl⟩
 have dA:¬(s.size:Int)<1:=by omega
 have eA:¬(20:Int)<(s.size:Int):=by omega
 go_enter Tryz.func138,Tryz.ntmps138;go_wp2
 go_loop [3] (fun i=>∃k:Nat,k<=s.size/\i = .int .i64 k/\∀j,(h:j<k)->(h':j<s.size)->zDA j (s[j].toNat:Int)) (fun i=>s.size - (intOf i).toNat)
 case atStart=>exact⟨0,Nat.zero_le _,rfl,fun j h=>absurd h (Nat.not_lt_zero _)⟩
 case round=>
  obtain⟨k,hk,rfl,bA⟩:=hrel;have aA:Hid (∀j,(h:j<k)->(h':j<s.size)->zDA j (s[j].toNat:Int)):=bA;clear bA;by_cases cA:k<s.size
  ·by_cases fA:k=0
   all_goals try subst fA
   all_goals go_wp2
   all_goals try (go_ret;refine⟨⟨false,rfl,?_⟩,rfl⟩;simp only[Bool.false_eq_true,false_iff];intro h;have h3:=h.2.2 _ cA;unfold zDA at h3;first | omega | grind)
   all_goals
    go_round
    case measure=>simp[intOf];omega
    case rel=>first | exact zOQ cA (by unfold zDA;first | omega | grind) | exact zOR cA aA.out (by unfold zDA;first | omega | grind)
  ·go_wp2;go_ret;refine⟨⟨true,rfl,?_⟩,rfl⟩;simp only[true_iff];exact⟨by omega,by omega,fun j h=>aA.out j (by omega) h⟩
theorem zCv(s:ByteArray)(w:World)(hs:s.size<=maxLen) :
  Calls Tryz.prog 167 #[.string s] w fun e w'=>zG (yE s) e/\w'=w:=by
 unfold maxLen at hs;by_cases h1:s.size<1
 ·have eA:(s.size:Int)<1:=(by omega);go_enter Tryz.func167,Tryz.ntmps167;go_wp2;go_ret;exact⟨⟨false,rfl,by simp[yE];omega⟩,rfl⟩
 by_cases h2:20<s.size
 ·have gA:(20:Int)<(s.size:Int):=(by omega);have eA:¬(s.size:Int)<1:=(by omega);go_enter Tryz.func167,Tryz.ntmps167;go_wp2;go_ret;exact⟨⟨false,rfl,by simp[yE];omega⟩,rfl⟩
 have eA:¬(s.size:Int)<1:=by omega
 have gA:¬(20:Int)<(s.size:Int):=by omega
 have h0:0<s.size:=by omega
 by_cases cA:97<=(s[0].toNat:Int)/\(s[0].toNat:Int)<=122
 ·obtain⟨fA,iA⟩:=cA;go_enter Tryz.func167,Tryz.ntmps167;go_wp2
  go_loop [20] (fun i=>∃k:Nat,k<=s.size/\i = .int .i64 k/\∀j,(h:j<k)->(h':j<s.size)->zDA j (s[j].toNat:Int)) (fun i=>s.size - (intOf i).toNat)
  case atStart=>exact⟨0,Nat.zero_le _,rfl,fun j h=>absurd h (Nat.not_lt_zero _)⟩
  case round=>
   obtain⟨k,hk,rfl,bA⟩:=hrel;have aA:Hid (∀j,(h:j<k)->(h':j<s.size)->zDA j (s[j].toNat:Int)):=bA;clear bA;by_cases dA:k<s.size
   ·by_cases jA:k=0
    all_goals try subst jA
    all_goals go_wp2
    all_goals try (go_ret;refine⟨⟨false,rfl,?_⟩,rfl⟩;simp only[Bool.false_eq_true,false_iff];intro h;have h3:=h.2.2 _ dA;unfold zDA at h3;first | omega | grind)
    all_goals
     go_round
     case measure=>simp[intOf];omega
     case rel=>first | exact zOQ dA (by unfold zDA;first | omega | grind) | exact zOR dA aA.out (by unfold zDA;first | omega | grind)
   ·go_wp2;go_ret;refine⟨⟨true,rfl,?_⟩,rfl⟩;simp only[true_iff];exact⟨by omega,by omega,fun j h=>aA.out j (by omega) h⟩
 ·by_cases fA:97<=(s[0].toNat:Int)
  ·have iA:¬(s[0].toNat:Int)<=122:=fun h=>cA ⟨fA,h⟩
   clear cA;go_enter Tryz.func167,Tryz.ntmps167;go_wp2;go_ret;refine⟨⟨false,rfl,?_⟩,rfl⟩;simp only[Bool.false_eq_true,false_iff];intro h;have h3:=h.2.2 _ h0;unfold zDA at h3;omega
  ·clear cA;go_enter Tryz.func167,Tryz.ntmps167;go_wp2;go_ret;refine⟨⟨false,rfl,?_⟩,rfl⟩;simp only[Bool.false_eq_true,false_iff];intro h;have h3:=h.2.2 _ h0;unfold zDA at h3;omega
def zCW(a b:ByteArray):Prop:=Op.bytesLess a.toList b.toList=true
theorem zJa:∀x y:List UInt8,Op.bytesLess x y=true\/x=y\/Op.bytesLess y x=true
 | [],[]=>Or.inr (Or.inl rfl)
 | [],b :: y=>Or.inl (by simp[Op.bytesLess])
 | a :: x,[]=>Or.inr (Or.inr (by simp[Op.bytesLess]))
 | a :: x,b :: y=>by
  simp only[Op.bytesLess,Bool.or_eq_true,decide_eq_true_eq,Bool.and_eq_true,beq_iff_eq,List.cons.injEq];by_cases h:a=b
  ·subst h;rcases zJa x y with h | h | h
   ·exact Or.inl (Or.inr ⟨rfl,h⟩)
   ·exact Or.inr (Or.inl ⟨rfl,h⟩)
   ·exact Or.inr (Or.inr (Or.inr ⟨rfl,h⟩))
  ·have:a<b\/b<a:=by
    have aA:a.toNat≠b.toNat:=fun e=>h (UInt8.toNat_inj.1 e)
    rw[UInt8.lt_iff_toNat_lt,UInt8.lt_iff_toNat_lt];omega
   rcases this with h | h
   ·exact Or.inl (Or.inl h)
   ·exact Or.inr (Or.inr (Or.inl h))
theorem zHw:∀x:List UInt8,Op.bytesLess x x=false
 | []=>rfl
 | a :: x=>by simp[Op.bytesLess,zHw x]
theorem zJZ:∀x y:List UInt8,Op.bytesLess x y=true->Op.bytesLess y x=false
 | [],[],h=>by simp[Op.bytesLess]at h
 | [],b :: y,_=>by simp[Op.bytesLess]
 | a :: x,[],h=>by simp[Op.bytesLess]at h
 | a :: x,b :: y,h=>by
  simp only[Op.bytesLess,Bool.or_eq_true,decide_eq_true_eq,Bool.and_eq_true,beq_iff_eq]at h;rw[<-Bool.not_eq_true];simp only[Op.bytesLess,Bool.or_eq_true,decide_eq_true_eq,Bool.and_eq_true,beq_iff_eq,UInt8.lt_iff_toNat_lt]at h ⊢;rintro(h' | ⟨h',h2⟩)
  ·rcases h with h | ⟨h,_⟩
   ·omega
   ·subst h;omega
  ·subst h';rcases h with h | ⟨_,h⟩
   ·omega
   ·rw[zJZ x y h]at h2;exact absurd h2 (by simp)
theorem zM6{a b:ByteArray}(h:a.toList=b.toList):a=b:=by
 rw[Go.ByteArray.toList_eq,Go.ByteArray.toList_eq]at h;cases a;cases b;simp only[ByteArray.mk.injEq]at *;exact Array.toList_inj.1 h
theorem zLu(a b:ByteArray):(Op.bytesLess a.toList b.toList || a.toList == b.toList)=false↔zCW b a:=by
 unfold zCW;rw[Bool.or_eq_false_iff,beq_eq_false_iff_ne];constructor
 ·rintro⟨h1,h2⟩;rcases zJa a.toList b.toList with h | h | h
  ·rw[h1]at h;exact absurd h (by simp)
  ·exact absurd h h2
  ·exact h
 ·intro h;refine⟨zJZ _ _ h,fun e=>?_⟩;rw[e,zHw]at h;exact absurd h (by simp)
theorem qs.take{w:World}{lo hi:Nat}{a:Option Addr}{n c m c':Nat}{f:Nat->Int}(h:qs w lo hi (.slice a n c) n f)(hm:m<=n)(hc:m<=c'):qs w lo hi (.slice a m c') m f:=by
 obtain⟨h0,a2,cap,hv,aA,hx⟩:=h;simp only[Value.slice.injEq,true_and]at hv;obtain⟨rfl,rfl⟩:=hv;refine⟨by omega,a,c',rfl,hc,fun h0=>?_⟩;obtain⟨b,off,ha,h1,h2,h3⟩:=hx (by omega);exact⟨b,off,ha,h1,h2,fun i hi=>h3 i (by omega)⟩
structure zAU (w:World) (b o:Nat) (lo hi:Nat) (ka:Option Addr) (kc:Nat) (s:zO):Prop where
 c0:w.cell? ⟨b,o,none⟩=some (.int .i64 s.zPI)
 c1:w.cell? ⟨b,o+1,none⟩=some (.slice ka s.kn kc)
 c2:w.cell? ⟨b,o+2,none⟩=some (.string s.data)
 slot:qT w lo hi (.int .i64 s.zPI) (.slice ka s.kn kc) (.string s.data) s
theorem zAU.zO9{w w':World}{b o lo hi:Nat}{ka:Option Addr}{kc:Nat}{s:zO}(h:zAU w b o lo hi ka kc s)(t:Below w.heap.size w w'):zAU w' b o lo hi ka kc s:=
 ⟨(t.cell (zD h.c0)).trans h.c0,(t.cell (zD h.c1)).trans h.c1,(t.cell (zD h.c2)).trans h.c2,h.slot.zO9 t⟩
theorem qG.cells{w:World}{lo hi:Nat}{a:Option Addr}{n c:Nat}{f:Nat->zO}(h:qG w lo hi (.slice a n c) n f){i:Nat}(aA:i<n) :
  ∃b off ka kc,a=some ⟨b,off,none⟩/\zAU w b (off+i*3) lo hi ka kc (f i):=by
 obtain⟨h0,a2,cap,hv,cA,hx⟩:=h;simp only[Value.slice.injEq,true_and]at hv;obtain⟨rfl,rfl⟩:=hv;obtain⟨b,off,ha,h1,h2,h3⟩:=hx (by omega);obtain⟨v0,v1,v2,c0,c1,c2,hs⟩:=h3 i aA;have bA:=hs;obtain⟨rfl,⟨_,ka,kc,rfl,_⟩,rfl,_⟩:=hs;exact⟨b,off,ka,kc,ha,⟨c0,c1,c2,bA⟩⟩
theorem zW{P:Prop}{t:Bool}(ht:t=true↔P)(h:¬P):t=false:=Bool.eq_false_iff.2 (fun e=>h (ht.1 e))
def ql(s:zO):Prop:=s.zPI=0/\s.kn=0/\s.data.toList.isEmpty=true
def yI(n:Int):Prop:=1<=n/\n<=1000000
def zx(p:zN)(xs xb:Int):Prop:=1<=xb/\0<=xs/\xs<p.n/\(p.s xs.toNat).zPI=xb
def zHt(p:zN)(b:Int)(xs xb:Int):Prop:=(xs=0/\xb=0)\/(zx p xs xb/\xb<=b)
def zDF(p:zN)(s:zO):Prop:=yI s.zPI/\((s.kn=0/\s.data.size=16)\/(s.kn=8/\s.data.toList.isEmpty=true/\∀i,i<s.kn->zHt p s.zPI (s.ks i) (s.kb i)))
def Has(n:Nat)(f:Nat->Int)(x:Int):Prop:=∃j,j<n/\f j=x
def zIb(p:zN)(i:Nat):Prop:=0<=p.h i/\p.h i<p.n/\¬ql (p.s (p.h i).toNat)/\¬Has i p.h (p.h i)
def qB(p:zN):Prop:=p.n<=200/\(∀i,i<p.n->ql (p.s i)\/zDF p (p.s i))/\∀i,i<p.hn->zIb p i
theorem yv(v0 v1 v2:Value)(lo hi:Nat)(s:zO)(w:World)(h1:qT w lo hi v0 v1 v2 s) :
  Calls Tryz.prog 74 #[.agg #[v0,v1,v2]] w fun e w'=>zG (ql s) e/\Below w.heap.size w w':=by
 obtain⟨rfl,⟨m1,a,c,rfl,_⟩,rfl,_⟩:=h1;unfold maxLen at m1;have aA:=(Below.refl w.heap.size w).alloc (Nat.le_refl _) (.cells #[.int .i64 s.zPI,.slice a s.kn c,.string s.data] 127);by_cases h1:s.zPI=0
 ·by_cases h2:s.kn=0
  ·by_cases h3:s.data.toList.isEmpty=true
   ·have H:Hid (ql s):=⟨h1,h2,h3⟩;have e1:(s.zPI == 0)=true:=(by simp[h1]);have e2:((s.kn:Int) == 0)=true:=(by simp[h2]);clear h1 h2;go_enter Tryz.func74,Tryz.ntmps74;go_wp2;go_ret;exact⟨zG.yes H.out,aA⟩
   ·have H:Hid (¬ql s):=fun h=>h3 h.2.2
    have e1:(s.zPI == 0)=true:=(by simp[h1]);have e2:((s.kn:Int) == 0)=true:=(by simp[h2]);have e3:s.data.toList.isEmpty=false:=(by simpa using h3);clear h1 h2 h3;go_enter Tryz.func74,Tryz.ntmps74;go_wp2;go_ret;exact⟨zG.no H.out,aA⟩
  ·have H:Hid (¬ql s):=fun h=>h2 h.2.1
   have e1:(s.zPI == 0)=true:=(by simp[h1]);have e2:((s.kn:Int) == 0)=false:=(by simp;omega);clear h1 h2;go_enter Tryz.func74,Tryz.ntmps74;go_wp2;go_ret;exact⟨zG.no H.out,aA⟩
 ·have H:Hid (¬ql s):=fun h=>h1 h.1
  have e1:(s.zPI == 0)=false:=(by simp[h1]);clear h1;go_enter Tryz.func74,Tryz.ntmps74;go_wp2;go_ret;exact⟨zG.no H.out,aA⟩
theorem yg(n:Int)(w:World):Calls Tryz.prog 145 #[.int .i64 n] w fun e w'=>zG (yI n) e/\w'=w:=by
 by_cases h1:1<=n
 ·by_cases h2:n<=1000000
  ·go_enter Tryz.func145,Tryz.ntmps145;go_wp2;go_ret;exact⟨zG.yes ⟨h1,h2⟩,rfl⟩
  ·go_enter Tryz.func145,Tryz.ntmps145;go_wp2;go_ret;exact⟨zG.no fun h=>by have:=h.2;omega,rfl⟩
 ·go_enter Tryz.func145,Tryz.ntmps145;go_wp2;go_ret;exact⟨zG.no fun h=>by have:=h.1;omega,rfl⟩
theorem zAN(a b:Int)(w:World):Calls Tryz.prog 119 #[.agg #[.int .i64 a,.int .i64 b]] w fun e w'=>zG (zBd a b 0 0) e/\Below w.heap.size w w':=by
 have aA:=(Below.refl w.heap.size w).alloc (Nat.le_refl _) (.cells #[.int .i64 a,.int .i64 b] 61);by_cases h1:a=0
 ·by_cases h2:b=0
  ·subst h1 h2;go_enter Tryz.func119,Tryz.ntmps119;go_wp2;go_ret;exact⟨zG.yes ⟨rfl,rfl⟩,aA⟩
  ·subst h1;have H:Hid (¬zBd 0 b 0 0):=fun h=>h2 h.2
   have e2:(b == 0)=false:=(by simp[h2]);clear h2;go_enter Tryz.func119,Tryz.ntmps119;go_wp2;go_ret;exact⟨zG.no H.out,aA⟩
 ·have H:Hid (¬zBd a b 0 0):=fun h=>h1 h.1
  have e2:(a == 0)=false:=(by simp[h1]);clear h1;go_enter Tryz.func119,Tryz.ntmps119;go_wp2;go_ret;exact⟨zG.no H.out,aA⟩
theorem zAA(v:Value)(n lo hi:Nat)(f:Nat->Int)(x:Int)(w:World)(h1:qs w lo hi v n f) :
  Calls Tryz.prog 75 #[v,.int .i64 x] w fun e w'=>zG (Has n f x) e/\w'=w:=by
 obtain⟨m1,a,c,rfl,mc,g1⟩:=h1;unfold maxLen at m1;have G1:Hid (0<n->∃b off,a=some ⟨b,off,none⟩/\lo<=b/\b<hi/\∀i,i<n->w.cell? ⟨b,off+i,none⟩=some (.int .i64 (f i))):=g1;clear g1;go_enter Tryz.func75,Tryz.ntmps75;go_wp2
 go_loop [5] (fun i=>∃k:Nat,k<=n/\i = .int .i64 k/\¬Has k f x) (fun i=>n - (intOf i).toNat)
 case atStart=>exact⟨0,Nat.zero_le _,rfl,fun ⟨j,hj,_⟩=>absurd hj (Nat.not_lt_zero _)⟩
 case round=>
  obtain⟨k,hk,rfl,dA⟩:=hrel;have aA:Hid (¬Has k f x):=dA;clear dA;by_cases cA:k<n
  ·have fA:(k:Int)<(n:Int):=(by omega);obtain⟨b,off,rfl,_,_,k1⟩:=G1.out (by omega);have gA:=k1 k cA;clear k1 G1;by_cases he:f k=x
   ·have H:Hid (Has n f x):=⟨k,cA,he⟩;have eA:(f k == x)=true:=(by simp[he]);clear he;go_wp2;go_ret;exact⟨zG.yes H.out,rfl⟩
   ·have H:Hid (¬f k=x):=he;have eA:(f k == x)=false:=(by simp[he]);clear he;go_wp2
    go_round
    case rel=>
     refine⟨k+1,by omega,by go_num,?_⟩;rintro⟨j,hj,bA⟩;by_cases e:j=k
     ·subst e;exact H.out bA
     ·exact aA.out ⟨j,by omega,bA⟩
    case measure=>simp[intOf];omega
  ·obtain rfl:k=n:=(by omega);go_wp2;go_ret;exact⟨zG.no aA.out,rfl⟩
def zF0(s:zO):Prop:=yI s.zPI/\s.kn=0/\s.data.size=16
def zJU(s:zO):Prop:=yI s.zPI/\s.kn=8/\s.data.toList.isEmpty=true
theorem zCw(v0 v1 v2:Value)(lo hi:Nat)(s:zO)(w:World)(h1:qT w lo hi v0 v1 v2 s) :
  Calls Tryz.prog 157 #[.agg #[v0,v1,v2]] w fun e w'=>zG (ql s) e/\Below w.heap.size w w':=by
 obtain⟨rfl,⟨m1,a,c,rfl,_⟩,rfl,_⟩:=h1;unfold maxLen at m1;have aA:=(Below.refl w.heap.size w).alloc (Nat.le_refl _) (.cells #[.int .i64 s.zPI,.slice a s.kn c,.string s.data] 127);by_cases h1:s.zPI=0
 ·by_cases h2:s.kn=0
  ·by_cases h3:s.data.toList.isEmpty=true
   ·have H:Hid (ql s):=⟨h1,h2,h3⟩;have e1:(s.zPI == 0)=true:=(by simp[h1]);have e2:((s.kn:Int) == 0)=true:=(by simp[h2]);clear h1 h2;go_enter Tryz.func157,Tryz.ntmps157;go_wp2;go_ret;exact⟨zG.yes H.out,aA⟩
   ·have H:Hid (¬ql s):=fun h=>h3 h.2.2
    have e1:(s.zPI == 0)=true:=(by simp[h1]);have e2:((s.kn:Int) == 0)=true:=(by simp[h2]);have e3:s.data.toList.isEmpty=false:=(by simpa using h3);clear h1 h2 h3;go_enter Tryz.func157,Tryz.ntmps157;go_wp2;go_ret;exact⟨zG.no H.out,aA⟩
  ·have H:Hid (¬ql s):=fun h=>h2 h.2.1
   have e1:(s.zPI == 0)=true:=(by simp[h1]);have e2:((s.kn:Int) == 0)=false:=(by simp;omega);clear h1 h2;go_enter Tryz.func157,Tryz.ntmps157;go_wp2;go_ret;exact⟨zG.no H.out,aA⟩
 ·have H:Hid (¬ql s):=fun h=>h1 h.1
  have e1:(s.zPI == 0)=false:=(by simp[h1]);clear h1;go_enter Tryz.func157,Tryz.ntmps157;go_wp2;go_ret;exact⟨zG.no H.out,aA⟩
theorem qj(n:Int)(w:World):Calls Tryz.prog 156 #[.int .i64 n] w fun e w'=>zG (yI n) e/\w'=w:=by
 by_cases h1:1<=n
 ·by_cases h2:n<=1000000
  ·go_enter Tryz.func156,Tryz.ntmps156;go_wp2;go_ret;exact⟨zG.yes ⟨h1,h2⟩,rfl⟩
  ·go_enter Tryz.func156,Tryz.ntmps156;go_wp2;go_ret;exact⟨zG.no fun h=>by have:=h.2;omega,rfl⟩
 ·go_enter Tryz.func156,Tryz.ntmps156;go_wp2;go_ret;exact⟨zG.no fun h=>by have:=h.1;omega,rfl⟩
theorem zGe(v0 v1 v2:Value)(lo hi:Nat)(s:zO)(w:World)(h1:qT w lo hi v0 v1 v2 s) :
  Calls Tryz.prog 198 #[.agg #[v0,v1,v2]] w fun e w'=>zG (zF0 s) e/\Below w.heap.size w w':=by
 obtain⟨rfl,⟨m1,a,c,rfl,_⟩,rfl,m2⟩:=h1;unfold maxLen at m1 m2;have aA:=(Below.refl w.heap.size w).alloc (Nat.le_refl _) (.cells #[.int .i64 s.zPI,.slice a s.kn c,.string s.data] 127);by_cases h1:yI s.zPI
 ·have HB:Hid (yI s.zPI):=h1;by_cases h2:s.kn=0
  ·by_cases h3:s.data.size=16
   ·have H:Hid (zF0 s):=⟨h1,h2,h3⟩;have e2:((s.kn:Int) == 0)=true:=(by simp[h2]);have e3:((s.data.size:Int) == 16)=true:=(by simp[h3]);clear h1 h2 h3;go_enter Tryz.func198,Tryz.ntmps198;go_wp2_with (go_at_call 156;refine(qj _ _).mono ?_;rintro e w' ⟨⟨t,rfl,ht⟩,rfl⟩;obtain rfl:t=true:=ht.2 HB.out;clear ht);go_ret;exact⟨zG.yes H.out,aA⟩
   ·have H:Hid (¬zF0 s):=fun h=>h3 h.2.2
    have e2:((s.kn:Int) == 0)=true:=(by simp[h2]);have e3:((s.data.size:Int) == 16)=false:=(by simp;omega);clear h1 h2 h3;go_enter Tryz.func198,Tryz.ntmps198;go_wp2_with (go_at_call 156;refine(qj _ _).mono ?_;rintro e w' ⟨⟨t,rfl,ht⟩,rfl⟩;obtain rfl:t=true:=ht.2 HB.out;clear ht);go_ret;exact⟨zG.no H.out,aA⟩
  ·have H:Hid (¬zF0 s):=fun h=>h2 h.2.1
   have e2:((s.kn:Int) == 0)=false:=(by simp;omega);clear h1 h2;go_enter Tryz.func198,Tryz.ntmps198;go_wp2_with (go_at_call 156;refine(qj _ _).mono ?_;rintro e w' ⟨⟨t,rfl,ht⟩,rfl⟩;obtain rfl:t=true:=ht.2 HB.out;clear ht);go_ret;exact⟨zG.no H.out,aA⟩
 ·have HB:Hid (¬yI s.zPI):=h1;clear h1;go_enter Tryz.func198,Tryz.ntmps198;go_wp2_with (go_at_call 156;refine(qj _ _).mono ?_;rintro e w' ⟨⟨t,rfl,ht⟩,rfl⟩;obtain rfl:t=false:=zW ht HB.out;clear ht);go_ret;exact⟨zG.no fun h=>HB.out h.1,aA⟩
theorem zK4(v0 v1 v2:Value)(lo hi:Nat)(s:zO)(w:World)(h1:qT w lo hi v0 v1 v2 s) :
  Calls Tryz.prog 199 #[.agg #[v0,v1,v2]] w fun e w'=>zG (zJU s) e/\Below w.heap.size w w':=by
 obtain⟨rfl,⟨m1,a,c,rfl,_⟩,rfl,m2⟩:=h1;unfold maxLen at m1 m2;have aA:=(Below.refl w.heap.size w).alloc (Nat.le_refl _) (.cells #[.int .i64 s.zPI,.slice a s.kn c,.string s.data] 127);by_cases h1:yI s.zPI
 ·have HB:Hid (yI s.zPI):=h1;by_cases h2:s.kn=8
  ·by_cases h3:s.data.toList.isEmpty=true
   ·have H:Hid (zJU s):=⟨h1,h2,h3⟩;have e2:((s.kn:Int) == 8)=true:=(by simp[h2]);clear h1 h2;go_enter Tryz.func199,Tryz.ntmps199;go_wp2_with (go_at_call 156;refine(qj _ _).mono ?_;rintro e w' ⟨⟨t,rfl,ht⟩,rfl⟩;obtain rfl:t=true:=ht.2 HB.out;clear ht);go_ret;exact⟨zG.yes H.out,aA⟩
   ·have H:Hid (¬zJU s):=fun h=>h3 h.2.2
    have e2:((s.kn:Int) == 8)=true:=(by simp[h2]);have e3:s.data.toList.isEmpty=false:=(by simpa using h3);clear h1 h2 h3;go_enter Tryz.func199,Tryz.ntmps199;go_wp2_with (go_at_call 156;refine(qj _ _).mono ?_;rintro e w' ⟨⟨t,rfl,ht⟩,rfl⟩;obtain rfl:t=true:=ht.2 HB.out;clear ht);go_ret;exact⟨zG.no H.out,aA⟩
  ·have H:Hid (¬zJU s):=fun h=>h2 h.2.1
   have e2:((s.kn:Int) == 8)=false:=(by simp;omega);clear h1 h2;go_enter Tryz.func199,Tryz.ntmps199;go_wp2_with (go_at_call 156;refine(qj _ _).mono ?_;rintro e w' ⟨⟨t,rfl,ht⟩,rfl⟩;obtain rfl:t=true:=ht.2 HB.out;clear ht);go_ret;exact⟨zG.no H.out,aA⟩
 ·have HB:Hid (¬yI s.zPI):=h1;clear h1;go_enter Tryz.func199,Tryz.ntmps199;go_wp2_with (go_at_call 156;refine(qj _ _).mono ?_;rintro e w' ⟨⟨t,rfl,ht⟩,rfl⟩;obtain rfl:t=false:=zW ht HB.out;clear ht);go_ret;exact⟨zG.no fun h=>HB.out h.1,aA⟩
theorem zMN(v:Value)(n lo hi:Nat)(f:Nat->Int)(x:Int)(w:World)(h1:qs w lo hi v n f) :
  Calls Tryz.prog 217 #[v,.int .i64 x] w fun e w'=>(∃r:Int,e = .returned (.int .i64 r)/\(0<=r↔Has n f x))/\w'=w:=by
 obtain⟨m1,a,c,rfl,mc,g1⟩:=h1;unfold maxLen at m1;have G1:Hid (0<n->∃b off,a=some ⟨b,off,none⟩/\lo<=b/\b<hi/\∀i,i<n->w.cell? ⟨b,off+i,none⟩=some (.int .i64 (f i))):=g1;clear g1;go_enter Tryz.func217,Tryz.ntmps217;go_wp2
 go_loop [8] (fun i=>∃k:Nat,k<=n/\i = .int .i64 k/\¬Has k f x) (fun i=>n - (intOf i).toNat)
 case atStart=>exact⟨0,Nat.zero_le _,rfl,fun ⟨j,hj,_⟩=>absurd hj (Nat.not_lt_zero _)⟩
 case round=>
  obtain⟨k,hk,rfl,dA⟩:=hrel;have aA:Hid (¬Has k f x):=dA;clear dA;by_cases cA:k<n
  ·have fA:(k:Int)<(n:Int):=(by omega);obtain⟨b,off,rfl,_,_,k1⟩:=G1.out (by omega);have gA:=k1 k cA;clear k1 G1;by_cases he:f k=x
   ·have H:Hid (Has n f x):=⟨k,cA,he⟩;have eA:(x == f k)=true:=(by simp[he]);clear he;go_wp2;go_ret;exact⟨⟨_,rfl,⟨fun _=>H.out,fun _=>Int.natCast_nonneg _⟩⟩,rfl⟩
   ·have H:Hid (¬f k=x):=he;have eA:(x == f k)=false:=(by simp;exact fun e=>he e.symm);clear he;go_wp2
    go_round
    case rel=>
     refine⟨k+1,by omega,by go_num,?_⟩;rintro⟨j,hj,bA⟩;by_cases e:j=k
     ·subst e;exact H.out bA
     ·exact aA.out ⟨j,by omega,bA⟩
    case measure=>simp[intOf];omega
  ·obtain rfl:k=n:=(by omega);go_wp2;go_ret;exact⟨⟨-1,rfl,⟨fun h=>absurd h (by omega),fun h=>absurd h aA.out⟩⟩,rfl⟩
theorem zBe(v:Value)(n lo hi:Nat)(f:Nat->Int)(x:Int)(w:World)(h1:qs w lo hi v n f) :
  Calls Tryz.prog 192 #[v,.int .i64 x] w fun e w'=>zG (Has n f x) e/\w'=w:=by
 have Hi:Hid (qs w lo hi v n f):=h1;obtain⟨m1,a,c,rfl,mc,g1⟩:=h1;clear g1;go_enter Tryz.func192,Tryz.ntmps192;go_wp2_with fail;refine(zMN _ n lo hi f x _ Hi.out).mono ?_;rintro e w' ⟨⟨r,rfl,hr⟩,rfl⟩;have Hr:Hid (0<=r↔Has n f x):=hr;clear hr;go_wp2;go_ret;exact⟨⟨_,rfl,by simpa using Hr.out⟩,rfl⟩
def zAs(n:Nat)(f:Nat->zO)(x ps pb:Int):Prop:=
 (0<=x/\x<n/\¬ql (f x.toNat)/\ps=x/\pb=(f x.toNat).zPI)\/(¬(0<=x/\x<n/\¬ql (f x.toNat))/\ps=0/\pb=0)
theorem zDu(v:Value)(n lo hi:Nat)(f:Nat->zO)(x:Int)(w:World)(h1:qG w lo hi v n f) :
  Calls Tryz.prog 216 #[v,.int .i64 x] w fun e w'=>(∃ps pb,e = .returned (.agg #[.int .i64 ps,.int .i64 pb])/\zAs n f x ps pb)/\Below w.heap.size w w':=by
 have Hi:Hid (qG w lo hi v n f):=h1;obtain⟨m1,a,c,rfl,mc,g1⟩:=h1;unfold maxLen at m1;clear g1;have bA:Hid (Below w.heap.size w (w.alloc (.cells #[.int .i64 0,.int .i64 0] 61))):=zC _ _;by_cases h1:x<0
 ·have H:Hid (zAs n f x 0 0):=Or.inr ⟨fun h=>by omega,rfl,rfl⟩;go_enter Tryz.func216,Tryz.ntmps216;go_wp2;refine bodyPost_ret (v:=.agg #[.int .i64 0,.int .i64 0]) (by simp[results,Tryz.results216,go_sem]) rfl ⟨⟨0,0,rfl,H.out⟩,bA.out⟩
 ·by_cases h2:(n:Int)<=x
  ·have H:Hid (zAs n f x 0 0):=Or.inr ⟨fun h=>by omega,rfl,rfl⟩;go_enter Tryz.func216,Tryz.ntmps216;go_wp2;refine bodyPost_ret (v:=.agg #[.int .i64 0,.int .i64 0]) (by simp[results,Tryz.results216,go_sem]) rfl ⟨⟨0,0,rfl,H.out⟩,bA.out⟩
  ·obtain⟨k,rfl⟩:=Int.eq_ofNat_of_zero_le (show 0<=x by omega);have hk:k<n:=(by omega);have dA:(k:Int)<(n:Int):=(by omega);obtain⟨b,off,ka,kc,rfl,hs⟩:=Hi.out.cells hk;have Hs:Hid (zAU w b (off+k*3) lo hi ka kc (f k)):=hs;have eA:=zD hs.c0;obtain⟨q0,q1,q2,_⟩:=hs;by_cases hf:ql (f k)
   ·have H:Hid (zAs n f k 0 0):=Or.inr ⟨fun h=>h.2.2 (by rw[Int.toNat_natCast];exact hf),rfl,rfl⟩;have HF:Hid (ql (f k)):=hf;clear hf;go_enter Tryz.func216,Tryz.ntmps216;go_wp2_with fail;refine(zCw _ _ _ lo hi (f k) _ (Hs.out.slot.zO9 bA.out)).mono ?_;rintro e w1 ⟨⟨t,rfl,hx⟩,aA⟩;obtain rfl:t=true:=hx.2 HF.out;clear hx;have HX:Hid (zp w1 w.heap.size (.int .i64 0) (.int .i64 0)):=(zp.new w _ _ _).zO9 aA;have cA:=zA bA.out aA;clear aA q0 q1 q2;obtain⟨⟨y0,y1⟩,⟨y2,y3⟩⟩:=HX.out;go_wp2;have HY:=HX.out.put (.int .i64 0) (.int .i64 0);refine bodyPost_ret (v:=.agg #[.int .i64 0,.int .i64 0]) (by simp[results,Tryz.results216,go_sem,HY.1.1,HY.2.1]) rfl ⟨⟨0,0,rfl,H.out⟩,(cA.setCell (Nat.le_refl _) _).setCell (Nat.le_refl _) _⟩
   ·have H:Hid (zAs n f k k (f k).zPI):=Or.inl ⟨by omega,dA,by rw[Int.toNat_natCast];exact hf,rfl,by rw[Int.toNat_natCast]⟩;have HF:Hid (¬ql (f k)):=hf;clear hf;go_enter Tryz.func216,Tryz.ntmps216;go_wp2_with fail;refine(zCw _ _ _ lo hi (f k) _ (Hs.out.slot.zO9 bA.out)).mono ?_;rintro e w1 ⟨⟨t,rfl,hx⟩,aA⟩;obtain rfl:t=false:=zW hx HF.out;clear hx;have HX:Hid (zp w1 w.heap.size (.int .i64 0) (.int .i64 0)):=(zp.new w _ _ _).zO9 aA;have cA:=zA bA.out aA;have q5:=(Hs.out.zO9 cA).c0;clear aA q0 q1 q2;obtain⟨⟨y0,y1⟩,⟨y2,y3⟩⟩:=HX.out;go_wp2;have HY:=HX.out.put (.int .i64 k) (.int .i64 (f k).zPI);refine bodyPost_ret (v:=.agg #[.int .i64 k,.int .i64 (f k).zPI]) (by simp[results,Tryz.results216,go_sem,HY.1.1,HY.2.1]) rfl ⟨⟨_,_,rfl,H.out⟩,(cA.setCell (Nat.le_refl _) _).setCell (Nat.le_refl _) _⟩
end Go.Proofs.YtmgeglgboadfiaaGreatDoor
