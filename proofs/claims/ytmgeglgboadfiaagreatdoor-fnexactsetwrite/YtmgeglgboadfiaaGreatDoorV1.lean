/- A part of the proof. -/
import Derived.WalkKit
import Derived.WalkSpells
import Derived.WalkLawsBesides
import Derived.Test.YtmgeglgboadfiaaGreatDoorProg
import GoSem.ClaimJoined
import GoSem.ClaimMapViews
import Derived.JoinedTies
import Derived.KernelRfl
import Derived.RowKit
import Derived.Deep.OwnRows
import Derived.LaidEql
import Derived.Stop.Asserts
import Derived.RowKitTokens
import Derived.ProofKit
import Derived.Deep.RegionHeld3
import Derived.Deep.QuietTactic
import Derived.BigQuiet
import Derived.Laws.CopyOwn
import Derived.Deep.RegionLaw
import Derived.Deep.WholeRow
import Derived.RegionTactic
import Derived.ChangeAlike
import Derived.BigRegion
import Derived.Maps.OwnSet
import Derived.Deep.RegionHeld
set_option linter.unusedVariables false
set_option maxRecDepth 20000
set_option maxHeartbeats 4000000
namespace Go.Proofs.YtmgeglgboadfiaaGreatDoor
open Go.RowKit
def zG(P:Prop)(e:Ending):Prop:=∃b:Bool,e = .returned (.bool b)/\(b=true↔P)
theorem zG.yes{P:Prop}(h:P):zG P (.returned (.bool true)):=⟨true,rfl,by simp[h]⟩
theorem zG.no{P:Prop}(h:¬P):zG P (.returned (.bool false)):=⟨false,rfl,by simp[h]⟩
theorem zo{n k:Nat}{P:Nat->Prop}(hk:k<n)(h:∀i,i<k->P i)(hp:P k):∀i,i<k+1->P i:=fun i hi=>by
 by_cases e:i=k
 ·subst e;exact hp
 ·exact h i (by omega)
theorem zg{B:Nat}{w w':World}(h:Below B w w')(n:Nat):Below B w (w'.drewN n):=⟨h.os,h.tape,h.output,h.size,h.block⟩
theorem zCv{s t:ByteArray}(h:s=t):(s.toList == t.toList)=true:=by simp[h]
theorem zEm{s t:ByteArray}(h:¬s=t):(s.toList == t.toList)=false:=by
 rw[beq_eq_false_iff_ne];intro e;rw[Go.ByteArray.toList_eq,Go.ByteArray.toList_eq]at e;apply h;cases s;cases t;simp only[ByteArray.mk.injEq]at *;exact Array.toList_inj.1 e
theorem zK{w w1:World}(h:Below w.drew.heap.size w.drew w1):Below w.heap.size w w1:=⟨h.os,h.tape,h.output,h.size,h.block⟩
theorem qd{w wr w1:World}(hb:Below w.heap.size w wr)(h1:Below wr.drew.heap.size wr.drew w1):Below w.heap.size w w1:=
 hb.drew.trans (h1.mono hb.size)
theorem zA{w wr w1:World}(hb:Below w.heap.size w wr)(h1:Below wr.heap.size wr w1):Below w.heap.size w w1:=
 hb.trans (h1.mono hb.size)
structure zL where
 zRi:Int
 kn:Nat
 ks:Nat->Int
 kb:Nat->Int
 data:ByteArray
structure zI where
 n:Nat
 s:Nat->zL
 hn:Nat
 h:Nat->Int
def zCM(a b c d:Int):Prop:=a=c/\b=d
def zMp(n n':Nat)(f f':Nat->Int):Prop:=n=n'/\∀i,i<n->f i=f' i
def zNF(n n':Nat)(f g f' g':Nat->Int):Prop:=n=n'/\∀i,i<n->f i=f' i/\g i=g' i
def zEi(s t:zL):Prop:=s.zRi=t.zRi/\zNF s.kn t.kn s.ks s.kb t.ks t.kb/\s.data=t.data
def zKo(n n':Nat)(f f':Nat->zL):Prop:=n=n'/\∀i,i<n->zEi (f i) (f' i)
def zKC(p q:zI):Prop:=zKo p.n q.n p.s q.s/\zMp p.hn q.hn p.h q.h
theorem zEi.refl(s:zL):zEi s s:=⟨rfl,⟨rfl,fun _ _=>⟨rfl,rfl⟩⟩,rfl⟩
theorem zKC.refl(p:zI):zKC p p:=⟨⟨rfl,fun _ _=>zEi.refl _⟩,⟨rfl,fun _ _=>rfl⟩⟩
def zEg(lo hi:Nat)(w w':World):Prop:=∀k,lo<=k->k<hi->w'.heap[k]?=w.heap[k]?
theorem zEg.cell{lo hi:Nat}{w w':World}(h:zEg lo hi w w'){b o:Nat}(h1:lo<=b)(h2:b<hi):w'.cell? ⟨b,o,none⟩=w.cell? ⟨b,o,none⟩:=
 World.cell?_of_block (w:=w) (h b h1 h2)
theorem zD{w:World}{b o:Nat}{v:Value}(h:w.cell? ⟨b,o,none⟩=some v):b<w.heap.size:=by
 simp only[World.cell?]at h;by_cases hb:b<w.heap.size
 ·exact hb
 ·rw[Array.getElem?_eq_none (by omega)]at h;simp at h
def qV(w:World)(lo hi:Nat)(v:Value)(n:Nat)(f:Nat->Int):Prop:=
 n<=maxLen/\∃a cap,v = .slice a n cap/\n<=cap/\(0<n->∃b off,a=some ⟨b,off,none⟩/\lo<=b/\b<hi/\∀i,i<n->w.cell? ⟨b,off+i,none⟩=some (.int .i64 (f i)))
def zU(w:World)(lo hi:Nat)(v:Value)(n:Nat)(fs fb:Nat->Int):Prop:=
 n<=maxLen/\∃a cap,v = .slice a n cap/\n<=cap/\(0<n->∃b off,a=some ⟨b,off,none⟩/\lo<=b/\b<hi/\∀i,i<n->w.cell? ⟨b,off+i*2,none⟩=some (.int .i64 (fs i))/\w.cell? ⟨b,off+i*2+1,none⟩=some (.int .i64 (fb i)))
def qH(w:World)(lo hi:Nat)(v0 v1 v2:Value)(s:zL):Prop:=
 v0 = .int .i64 s.zRi/\zU w lo hi v1 s.kn s.ks s.kb/\v2 = .string s.data/\s.data.size<=maxLen
def qA(w:World)(lo hi:Nat)(v:Value)(n:Nat)(f:Nat->zL):Prop:=
 n<=maxLen/\∃a cap,v = .slice a n cap/\n<=cap/\(0<n->∃b off,a=some ⟨b,off,none⟩/\lo<=b/\b<hi/\∀i,i<n->∃v0 v1 v2,w.cell? ⟨b,off+i*3,none⟩=some v0/\w.cell? ⟨b,off+i*3+1,none⟩=some v1/\w.cell? ⟨b,off+i*3+2,none⟩=some v2/\qH w lo hi v0 v1 v2 (f i))
def zu(w:World)(lo hi:Nat)(v0 v1:Value)(p:zI):Prop:=qA w lo hi v0 p.n p.s/\qV w lo hi v1 p.hn p.h
theorem qV.same{w w':World}{lo hi:Nat}{v:Value}{n:Nat}{f:Nat->Int}(h:qV w lo hi v n f)(s:zEg lo hi w w'):qV w' lo hi v n f:=by
 obtain⟨h0,a,aA,hv,bA,hc⟩:=h;refine⟨h0,a,aA,hv,bA,fun hn=>?_⟩;obtain⟨b,off,ha,h1,h2,h3⟩:=hc hn;exact⟨b,off,ha,h1,h2,fun i hi=>by rw[s.cell h1 h2];exact h3 i hi⟩
theorem zU.same{w w':World}{lo hi:Nat}{v:Value}{n:Nat}{f g:Nat->Int}(h:zU w lo hi v n f g)(s:zEg lo hi w w'):zU w' lo hi v n f g:=by
 obtain⟨h0,a,aA,hv,bA,hc⟩:=h;refine⟨h0,a,aA,hv,bA,fun hn=>?_⟩;obtain⟨b,off,ha,h1,h2,h3⟩:=hc hn;exact⟨b,off,ha,h1,h2,fun i hi=>by rw[s.cell h1 h2,s.cell h1 h2];exact h3 i hi⟩
theorem qH.same{w w':World}{lo hi:Nat}{v0 v1 v2:Value}{t:zL}(h:qH w lo hi v0 v1 v2 t)(s:zEg lo hi w w'):qH w' lo hi v0 v1 v2 t:=
 ⟨h.1,h.2.1.same s,h.2.2⟩
theorem qA.same{w w':World}{lo hi:Nat}{v:Value}{n:Nat}{f:Nat->zL}(h:qA w lo hi v n f)(s:zEg lo hi w w'):qA w' lo hi v n f:=by
 obtain⟨h0,a,aA,hv,bA,hc⟩:=h;refine⟨h0,a,aA,hv,bA,fun hn=>?_⟩;obtain⟨b,off,ha,h1,h2,h3⟩:=hc hn;refine⟨b,off,ha,h1,h2,fun i hi=>?_⟩;obtain⟨v0,v1,v2,c0,c1,c2,hs⟩:=h3 i hi;exact⟨v0,v1,v2,by rw[s.cell h1 h2];exact c0,by rw[s.cell h1 h2];exact c1,by rw[s.cell h1 h2];exact c2,hs.same s⟩
theorem zu.same{w w':World}{lo hi:Nat}{v0 v1:Value}{p:zI}(h:zu w lo hi v0 v1 p)(s:zEg lo hi w w'):zu w' lo hi v0 v1 p:=⟨h.1.same s,h.2.same s⟩
theorem qV.zRX{w w':World}{lo hi:Nat}{v:Value}{n:Nat}{f:Nat->Int}(h:qV w lo hi v n f)(s:Below w.heap.size w w'):qV w' lo hi v n f:=by
 obtain⟨h0,a,aA,hv,bA,hc⟩:=h;refine⟨h0,a,aA,hv,bA,fun hn=>?_⟩;obtain⟨b,off,ha,h1,h2,h3⟩:=hc hn;exact⟨b,off,ha,h1,h2,fun i hi=>(s.cell (zD (h3 i hi))).trans (h3 i hi)⟩
theorem zU.zRX{w w':World}{lo hi:Nat}{v:Value}{n:Nat}{f g:Nat->Int}(h:zU w lo hi v n f g)(s:Below w.heap.size w w'):zU w' lo hi v n f g:=by
 obtain⟨h0,a,aA,hv,bA,hc⟩:=h;refine⟨h0,a,aA,hv,bA,fun hn=>?_⟩;obtain⟨b,off,ha,h1,h2,h3⟩:=hc hn;exact⟨b,off,ha,h1,h2,fun i hi=>⟨(s.cell (zD (h3 i hi).1)).trans (h3 i hi).1,(s.cell (zD (h3 i hi).2)).trans (h3 i hi).2⟩⟩
theorem qH.zRX{w w':World}{lo hi:Nat}{v0 v1 v2:Value}{t:zL}(h:qH w lo hi v0 v1 v2 t)(s:Below w.heap.size w w'):qH w' lo hi v0 v1 v2 t:=
 ⟨h.1,h.2.1.zRX s,h.2.2⟩
theorem qA.zRX{w w':World}{lo hi:Nat}{v:Value}{n:Nat}{f:Nat->zL}(h:qA w lo hi v n f)(s:Below w.heap.size w w'):qA w' lo hi v n f:=by
 obtain⟨h0,a,aA,hv,bA,hc⟩:=h;refine⟨h0,a,aA,hv,bA,fun hn=>?_⟩;obtain⟨b,off,ha,h1,h2,h3⟩:=hc hn;refine⟨b,off,ha,h1,h2,fun i hi=>?_⟩;obtain⟨v0,v1,v2,c0,c1,c2,hs⟩:=h3 i hi;exact⟨v0,v1,v2,(s.cell (zD c0)).trans c0,(s.cell (zD c1)).trans c1,(s.cell (zD c2)).trans c2,hs.zRX s⟩
theorem zu.zRX{w w':World}{lo hi:Nat}{v0 v1:Value}{p:zI}(h:zu w lo hi v0 v1 p)(s:Below w.heap.size w w'):zu w' lo hi v0 v1 p:=⟨h.1.zRX s,h.2.zRX s⟩
structure zF (S:Nat->Prop) (w w':World):Prop where
 os:w'.os=w.os
 tape:w'.tape=w.tape
 output:w'.output=w.output
 size:w.heap.size<=w'.heap.size
 block:∀k,k<w.heap.size->¬S k->w'.heap[k]?=w.heap[k]?
theorem zF.refl(S:Nat->Prop)(w:World):zF S w w:=⟨rfl,rfl,rfl,Nat.le_refl _,fun _ _ _=>rfl⟩
theorem zF.trans{S:Nat->Prop}{a b c:World}(h:zF S a b)(k:zF S b c):zF S a c:=
 ⟨k.os.trans h.os,k.tape.trans h.tape,k.output.trans h.output,Nat.le_trans h.size k.size,fun i hi hs=>(k.block i (Nat.lt_of_lt_of_le hi h.size) hs).trans (h.block i hi hs)⟩
theorem zF.mono{S T:Nat->Prop}{a b:World}(h:zF S a b)(aA:∀k,S k->T k):zF T a b:=
 ⟨h.os,h.tape,h.output,h.size,fun i hi hs=>h.block i hi (fun x=>hs (aA i x))⟩
theorem zF.zRa{S:Nat->Prop}{w w':World}(h:Below w.heap.size w w'):zF S w w':=⟨h.os,h.tape,h.output,h.size,fun k hk _=>h.block k hk⟩
theorem zF.zRX{S:Nat->Prop}{w w':World}(h:zF S w w'){B:Nat}(hB:B<=w.heap.size)(hs:∀k,S k->B<=k):Below B w w':=
 ⟨h.os,h.tape,h.output,h.size,fun k hk=>h.block k (by omega) (fun x=>by have:=hs k x;omega)⟩
theorem zF.setCell{S:Nat->Prop}{w w':World}(h:zF S w w'){p:Addr}(hp:S p.block)(u:Value):zF S w (w'.setCell p u):=
 h.trans ⟨rfl,rfl,rfl,by simp,fun k _ hs=>Below.heap_setCell _ _ _ _ (fun e=>hs (e▸hp))⟩
theorem zF.put(w:World)(b o:Nat)(u:Value):zF (fun k=>k=b) w (w.setCell ⟨b,o,none⟩ u):=
 (zF.refl (fun k=>k=b) w).setCell (p:=⟨b,o,none⟩) rfl u
theorem zF.cell{S:Nat->Prop}{w w':World}(h:zF S w w'){b o:Nat}(hb:b<w.heap.size)(hs:¬S b):w'.cell? ⟨b,o,none⟩=w.cell? ⟨b,o,none⟩:=
 World.cell?_of_block (w:=w) (h.block b hb hs)
theorem zF.frozen{S:Nat->Prop}{w w':World}(h:zF S w w'){b o:Nat}(hb:b<w.heap.size)(hs:¬S b):w'.frozen? ⟨b,o,none⟩=w.frozen? ⟨b,o,none⟩:=
 World.frozen?_of_block (w:=w) (h.block b hb hs)
theorem zF.same{S:Nat->Prop}{w w':World}(h:zF S w w'){lo hi:Nat}(hh:hi<=w.heap.size)(hs:∀k,S k->k<lo\/hi<=k):zEg lo hi w w':=
 fun k h1 h2=>h.block k (by omega) (fun x=>by have:=hs k x;omega)
def zW(w:World)(b o:Nat)(v:Value):Prop:=w.cell? ⟨b,o,none⟩=some v/\w.frozen? ⟨b,o,none⟩=false
theorem zW.lt{w:World}{b o:Nat}{v:Value}(h:zW w b o v):b<w.heap.size:=zD h.1
theorem zW.zRf{S:Nat->Prop}{w w':World}{b o:Nat}{v:Value}(h:zW w b o v)(t:zF S w w')(hs:¬S b):zW w' b o v:=
 ⟨(t.cell h.lt hs).trans h.1,(t.frozen h.lt hs).trans h.2⟩
theorem zW.zRX{w w':World}{b o:Nat}{v:Value}(h:zW w b o v)(t:Below w.heap.size w w'):zW w' b o v:=
 ⟨(t.cell h.lt).trans h.1,(t.frozen h.lt).trans h.2⟩
theorem zW.set{w:World}{b o:Nat}{v:Value}(h:zW w b o v)(u:Value):zW (w.setCell ⟨b,o,none⟩ u) b o u:=
 ⟨World.cell?_setCell_same' _ _ _ (by rw[h.1];rfl),by rw[World.frozen?_setCell];exact h.2⟩
theorem zW.zRY{w:World}{b o:Nat}{v:Value}(h:zW w b o v){b' o':Nat}(u:Value)(aA:b'≠b\/o'≠o):zW (w.setCell ⟨b',o',none⟩ u) b o v:=by
 refine⟨?_,by rw[World.frozen?_setCell];exact h.2⟩;rw[World.cell?_setCell_other]
 ·exact h.1
 ·intro e;simp only[Addr.mk.injEq]at e;rcases aA with h | h
  ·exact h e.1
  ·exact h e.2.1
def zQ6(w:World)(b:Nat)(a:Option Addr)(n cap:Nat):Prop:=n<cap->0<n/\a=some ⟨b,0,none⟩/\cap<=maxLen/\∃cur,w.heap[b]?=some (.cells cur 2 (0,0))/\cur.size=cap
def qf(w:World)(b:Nat)(v:Value)(n:Nat)(f:Nat->Int):Prop:=
 n<=maxLen/\∃a cap,v = .slice a n cap/\n<=cap/\(0<n->∃off,a=some ⟨b,off,none⟩/\∀i,i<n->zW w b (off+i) (.int .i64 (f i)))/\zQ6 w b a n cap
def zm(w:World)(b:Nat)(v:Value)(n:Nat)(fs fb:Nat->Int):Prop:=
 n<=maxLen/\∃a cap,v = .slice a n cap/\n<=cap/\(0<n->∃off,a=some ⟨b,off,none⟩/\∀i,i<n->zW w b (off+i*2) (.int .i64 (fs i))/\zW w b (off+i*2+1) (.int .i64 (fb i)))
theorem qf.at{w:World}{b:Nat}{v:Value}{n:Nat}{f:Nat->Int}(h:qf w b v n f){lo hi:Nat}(hb:0<n->lo<=b/\b<hi):qV w lo hi v n f:=by
 obtain⟨h0,a,aA,hv,bA,hc,hr⟩:=h;refine⟨h0,a,aA,hv,bA,fun hn=>?_⟩;obtain⟨off,ha,h3⟩:=hc hn;exact⟨b,off,ha,(hb hn).1,(hb hn).2,fun i hi=>(h3 i hi).1⟩
theorem zm.at{w:World}{b:Nat}{v:Value}{n:Nat}{f g:Nat->Int}(h:zm w b v n f g){lo hi:Nat}(hb:0<n->lo<=b/\b<hi):zU w lo hi v n f g:=by
 obtain⟨h0,a,aA,hv,bA,hc⟩:=h;refine⟨h0,a,aA,hv,bA,fun hn=>?_⟩;obtain⟨off,ha,h3⟩:=hc hn;exact⟨b,off,ha,(hb hn).1,(hb hn).2,fun i hi=>⟨(h3 i hi).1.1,(h3 i hi).2.1⟩⟩
theorem qf.zRf{S:Nat->Prop}{w w':World}{b:Nat}{v:Value}{n:Nat}{f:Nat->Int}(h:qf w b v n f)(t:zF S w w')(hs:0<n->¬S b):qf w' b v n f:=by
 obtain⟨h0,a,aA,hv,bA,hc,hr⟩:=h;refine⟨h0,a,aA,hv,bA,fun hn=>?_,fun dA=>?_⟩;rotate_left
 ·obtain⟨r0,r1,r2,cA,r3,r4⟩:=hr dA;exact⟨r0,r1,r2,cA,(t.block b (Array.getElem?_eq_some_iff.1 r3).1 (hs r0)).trans r3,r4⟩
 obtain⟨off,ha,h3⟩:=hc hn;exact⟨off,ha,fun i hi=>(h3 i hi).zRf t (hs hn)⟩
theorem zm.zRf{S:Nat->Prop}{w w':World}{b:Nat}{v:Value}{n:Nat}{f g:Nat->Int}(h:zm w b v n f g)(t:zF S w w')(hs:0<n->¬S b):zm w' b v n f g:=by
 obtain⟨h0,a,aA,hv,bA,hc⟩:=h;refine⟨h0,a,aA,hv,bA,fun hn=>?_⟩;obtain⟨off,ha,h3⟩:=hc hn;exact⟨off,ha,fun i hi=>⟨(h3 i hi).1.zRf t (hs hn),(h3 i hi).2.zRf t (hs hn)⟩⟩
theorem zm.zRX{w w':World}{b:Nat}{v:Value}{n:Nat}{f g:Nat->Int}(h:zm w b v n f g)(t:Below w.heap.size w w'):zm w' b v n f g:=
 h.zRf (zF.zRa (S:=fun _=>False) t) (fun _ h=>h)
theorem qf.zRX{w w':World}{b:Nat}{v:Value}{n:Nat}{f:Nat->Int}(h:qf w b v n f)(t:Below w.heap.size w w'):qf w' b v n f:=
 h.zRf (zF.zRa (S:=fun _=>False) t) (fun _ h=>h)
structure zAB (w:World) (bs o kb:Nat) (kv:Value) (s:zL):Prop where
 zRi:zW w bs o (.int .i64 s.zRi)
 kidsv:zW w bs (o+1) kv
 data:zW w bs (o+2) (.string s.data)
 kids:zm w kb kv s.kn s.ks s.kb
 zRn:s.data.size<=maxLen
 zRk:0<s.kn->kb≠bs
theorem zAB.zRf{S:Nat->Prop}{w w':World}{bs o kb:Nat}{kv:Value}{s:zL}(h:zAB w bs o kb kv s)(t:zF S w w')(h1:¬S bs)(h2:0<s.kn->¬S kb):zAB w' bs o kb kv s:=
 ⟨h.zRi.zRf t h1,h.kidsv.zRf t h1,h.data.zRf t h1,h.kids.zRf t h2,h.zRn,h.zRk⟩
theorem zAB.zRX{w w':World}{bs o kb:Nat}{kv:Value}{s:zL}(h:zAB w bs o kb kv s)(t:Below w.heap.size w w'):zAB w' bs o kb kv s:=
 h.zRf (zF.zRa (S:=fun _=>False) t) (fun h=>h) (fun _ h=>h)
theorem zAB.at{w:World}{bs o kb:Nat}{kv:Value}{s:zL}(h:zAB w bs o kb kv s){lo hi:Nat}(hb:0<s.kn->lo<=kb/\kb<hi):qH w lo hi (.int .i64 s.zRi) kv (.string s.data) s:=
 ⟨rfl,h.kids.at hb,rfl,h.zRn⟩
def qU(w:World)(bs:Nat)(kb:Nat->Nat)(kv:Nat->Value)(v:Value)(n:Nat)(f:Nat->zL):Prop:=
 n<=maxLen/\∃a cap,v = .slice a n cap/\n<=cap/\(0<n->∃off,a=some ⟨bs,off,none⟩/\∀i,i<n->zAB w bs (off+i*3) (kb i) (kv i) (f i))
def yP(kb:Nat->Nat)(n:Nat)(f:Nat->zL):Prop:=∀i j,i<n->j<n->i≠j->0<(f i).kn->0<(f j).kn->kb i≠kb j
def zQD(lo hi bs:Nat)(kb:Nat->Nat)(n:Nat)(f:Nat->zL):Prop:=0<n->(lo<=bs/\bs<hi)/\∀i,i<n->0<(f i).kn->lo<=kb i/\kb i<hi
theorem qU.at{w:World}{bs:Nat}{kb:Nat->Nat}{kv:Nat->Value}{v:Value}{n:Nat}{f:Nat->zL}(h:qU w bs kb kv v n f){lo hi:Nat}(hb:zQD lo hi bs kb n f):qA w lo hi v n f:=by
 obtain⟨h0,a,aA,hv,bA,hc⟩:=h;refine⟨h0,a,aA,hv,bA,fun hn=>?_⟩;obtain⟨off,ha,h3⟩:=hc hn;refine⟨bs,off,ha,(hb hn).1.1,(hb hn).1.2,fun i hi=>?_⟩;exact⟨_,_,_,(h3 i hi).zRi.1,(h3 i hi).kidsv.1,(h3 i hi).data.1,(h3 i hi).at ((hb hn).2 i hi)⟩
theorem qU.zRX{w w':World}{bs:Nat}{kb:Nat->Nat}{kv:Nat->Value}{v:Value}{n:Nat}{f:Nat->zL}(h:qU w bs kb kv v n f)(t:Below w.heap.size w w'):qU w' bs kb kv v n f:=by
 obtain⟨h0,a,aA,hv,bA,hc⟩:=h;refine⟨h0,a,aA,hv,bA,fun hn=>?_⟩;obtain⟨off,ha,h3⟩:=hc hn;exact⟨off,ha,fun i hi=>(h3 i hi).zRX t⟩
theorem qU.zRf{S:Nat->Prop}{w w':World}{bs:Nat}{kb:Nat->Nat}{kv:Nat->Value}{v:Value}{n:Nat}{f:Nat->zL}(h:qU w bs kb kv v n f)(t:zF S w w')
  (h1:0<n->¬S bs) (h2:∀i,i<n->0<(f i).kn->¬S (kb i)):qU w' bs kb kv v n f:=by
 obtain⟨h0,a,aA,hv,bA,hc⟩:=h;refine⟨h0,a,aA,hv,bA,fun hn=>?_⟩;obtain⟨off,ha,h3⟩:=hc hn;exact⟨off,ha,fun i hi=>(h3 i hi).zRf t (h1 hn) (h2 i hi)⟩
def zc(w:World)(b:Nat)(v0 v1:Value):Prop:=zW w b 0 v0/\zW w b 1 v1
theorem zc.zRX{w w':World}{b:Nat}{v0 v1:Value}(h:zc w b v0 v1)(t:Below w.heap.size w w'):zc w' b v0 v1:=⟨h.1.zRX t,h.2.zRX t⟩
theorem zc.zRf{S:Nat->Prop}{w w':World}{b:Nat}{v0 v1:Value}(h:zc w b v0 v1)(t:zF S w w')(hs:¬S b):zc w' b v0 v1:=⟨h.1.zRf t hs,h.2.zRf t hs⟩
theorem zc.zRZ(w:World)(v0 v1:Value)(t:TypeId):zc (w.alloc (.cells #[v0,v1] t)) w.heap.size v0 v1:=
 ⟨⟨by rw[World.cell?_alloc_at (hn:=rfl)];rfl,by rw[World.frozen?_alloc_at (hn:=rfl)]⟩,⟨by rw[World.cell?_alloc_at (hn:=rfl)];rfl,by rw[World.frozen?_alloc_at (hn:=rfl)]⟩⟩
def yR(w:World)(b:Nat)(v0 v1 v2:Value):Prop:=zW w b 0 v0/\zW w b 1 v1/\zW w b 2 v2
theorem yR.zRX{w w':World}{b:Nat}{v0 v1 v2:Value}(h:yR w b v0 v1 v2)(t:Below w.heap.size w w'):yR w' b v0 v1 v2:=⟨h.1.zRX t,h.2.1.zRX t,h.2.2.zRX t⟩
theorem yR.zRZ(w:World)(v0 v1 v2:Value)(t:TypeId):yR (w.alloc (.cells #[v0,v1,v2] t)) w.heap.size v0 v1 v2:=
 ⟨⟨by rw[World.cell?_alloc_at (hn:=rfl)];rfl,by rw[World.frozen?_alloc_at (hn:=rfl)]⟩,⟨by rw[World.cell?_alloc_at (hn:=rfl)];rfl,by rw[World.frozen?_alloc_at (hn:=rfl)]⟩,⟨by rw[World.cell?_alloc_at (hn:=rfl)];rfl,by rw[World.frozen?_alloc_at (hn:=rfl)]⟩⟩
theorem yR.put{w:World}{b:Nat}{v0 v1 v2:Value}(h:yR w b v0 v1 v2)(u0 u1 u2:Value):yR (((w.setCell ⟨b,0,none⟩ u0).setCell ⟨b,1,none⟩ u1).setCell ⟨b,2,none⟩ u2) b u0 u1 u2:=
 ⟨((h.1.set u0).zRY _ (Or.inr (by omega))).zRY _ (Or.inr (by omega)),((h.2.1.zRY _ (Or.inr (by omega))).set u1).zRY _ (Or.inr (by omega)),((h.2.2.zRY _ (Or.inr (by omega))).zRY _ (Or.inr (by omega))).set u2⟩
theorem zc.put{w:World}{b:Nat}{v0 v1:Value}(h:zc w b v0 v1)(u0 u1:Value):zc ((w.setCell ⟨b,0,none⟩ u0).setCell ⟨b,1,none⟩ u1) b u0 u1:=
 ⟨(h.1.set u0).zRY _ (Or.inr (by omega)),(h.2.zRY _ (Or.inr (by omega))).set u1⟩
theorem yR.zRY{w:World}{b:Nat}{v0 v1 v2:Value}(h:yR w b v0 v1 v2){b' o':Nat}(u:Value)(aA:b'≠b):yR (w.setCell ⟨b',o',none⟩ u) b v0 v1 v2:=
 ⟨h.1.zRY u (Or.inl aA),h.2.1.zRY u (Or.inl aA),h.2.2.zRY u (Or.inl aA)⟩
theorem zc.zRY{w:World}{b:Nat}{v0 v1:Value}(h:zc w b v0 v1){b' o':Nat}(u:Value)(aA:b'≠b):zc (w.setCell ⟨b',o',none⟩ u) b v0 v1:=
 ⟨h.1.zRY u (Or.inl aA),h.2.zRY u (Or.inl aA)⟩
theorem zm.put{w:World}{b:Nat}{v:Value}{n:Nat}{f g:Nat->Int}(h:zm w b v n f g){b' o':Nat}(u:Value)(aA:b'≠b):zm (w.setCell ⟨b',o',none⟩ u) b v n f g:=
 h.zRf (zF.put w b' o' u) (fun _ e=>aA e.symm)
theorem qf.put{w:World}{b:Nat}{v:Value}{n:Nat}{f:Nat->Int}(h:qf w b v n f){b' o':Nat}(u:Value)(aA:b'≠b):qf (w.setCell ⟨b',o',none⟩ u) b v n f:=
 h.zRf (zF.put w b' o' u) (fun _ e=>aA e.symm)
theorem zC(w:World)(o:Obj):Below w.heap.size w (w.alloc o):=(Below.refl _ _).alloc (Nat.le_refl _) o
theorem zJ{w:World}{b i:Nat}{cs:Array Value}{t:TypeId}{v:Value}(h:w.heap[b]?=some (.cells cs t))(hi:cs[i]?=some v):zW w b i v:=by
 refine⟨?_,?_⟩
 ·simp[World.cell?,h,hi]
 ·simp[World.frozen?,h]
theorem zAZ{w:World}{b o:Nat}{cs:Array Value}{t:TypeId}(v:Value)(h:w.heap[b]?=some (.cells cs t)):(w.setCell ⟨b,o,none⟩ v).heap[b]?=some (.cells (cs.setIfInBounds o v) t):=by
 simp[World.setCell,Array.getElem?_modify,h]
theorem zY{w:World}{base e size:Nat}{v:Value}{n:Nat}{xs:List Value}(h:w.ownsRow base e size v n xs):∃a aA,v = .slice a n aA/\n<=aA:=by
 obtain⟨_,⟨h,rfl⟩ | ⟨g,aA,cA,hv,_,_,bA,_⟩⟩:=h
 ·exact⟨none,0,h,Nat.le_refl _⟩
 ·exact⟨_,aA,hv,bA⟩
theorem qZ{w:World}{base e size:Nat}{v:Value}{n:Nat}{xs:List Value}(h:w.ownsRow base e size v n xs)(hn:0<n) :
  ∃g aA,v = .slice (some ⟨g,0,none⟩) n aA/\n<=aA/\base<=g/\g<w.heap.size/\∀j u,xs[j]?=some u->zW w g j u:=by
 obtain⟨_,⟨h,rfl⟩ | ⟨g,aA,cA,hv,hb,hg,h1,h2,h3,h4⟩⟩:=h
 ·omega
 ·refine⟨g,aA,hv,h1,hb,?_,fun j u hj=>?_⟩
  ·by_cases dA:g<w.heap.size
   ·exact dA
   ·rw[Array.getElem?_eq_none (by omega)]at hg;simp at hg
  ·refine⟨?_,?_⟩
   ·simp only[World.cell?,hg];have bA:(cA.toList.take (n*size))[j]?=some u:=(by rw[h4];exact hj);rw[List.getElem?_take]at bA;split at bA
    ·simpa using bA
    ·simp at bA
   ·simp only[World.frozen?,hg];simp
theorem zLO{w w1:World}{v:Value}{b base e size n:Nat}{xs:List Value}(hg:w.grownBy w1 v.ownBlock)(aA:w.ownsRow base e size v n xs)(hb:b<base)(bA:b<w.heap.size):w1.heap[b]?=w.heap[b]?:=
 hg.block b bA (fun e=>by have:=aA.lt b e.symm;omega)
def yi(bs:Nat)(kb:Nat->Nat)(n:Nat)(f:Nat->zL)(k:Nat):Prop:=(0<n/\k=bs)\/∃i,i<n/\0<(f i).kn/\k=kb i
theorem qU.lt{w:World}{bs:Nat}{kb:Nat->Nat}{kv:Nat->Value}{v:Value}{n:Nat}{f:Nat->zL}(h:qU w bs kb kv v n f){k:Nat}(hk:yi bs kb n f k):k<w.heap.size:=by
 obtain⟨_,a,aA,_,_,hc⟩:=h;rcases hk with⟨h0,rfl⟩ | ⟨i,hi,h0,rfl⟩
 ·obtain⟨off,_,h3⟩:=hc h0;exact(h3 0 h0).zRi.lt
 ·obtain⟨off,_,h3⟩:=hc (by omega);obtain⟨_,_,_,_,_,h4⟩:=(h3 i hi).kids;obtain⟨o,_,h5⟩:=h4 h0;exact(h5 0 h0).1.lt
def zy(w:World)(lo hi:Nat)(v0 v1:Value)(p:zI):Prop:=
 ∃(bs hb:Nat) (kb:Nat->Nat) (kv:Nat->Value),qU w bs kb kv v0 p.n p.s/\yP kb p.n p.s/\qf w hb v1 p.hn p.h/\(0<p.hn->¬yi bs kb p.n p.s hb)/\
  ∀k,yi bs kb p.n p.s k\/(0<p.hn/\k=hb)->lo<=k/\k<hi
theorem zy.at{w:World}{lo hi:Nat}{v0 v1:Value}{p:zI}(h:zy w lo hi v0 v1 p):zu w lo hi v0 v1 p:=by
 obtain⟨bs,hb,kb,kv,h1,h2,h3,h4,h5⟩:=h;exact⟨h1.at fun h0=>⟨h5 _ (Or.inl (Or.inl ⟨h0,rfl⟩)),fun i hi h=>h5 _ (Or.inl (Or.inr ⟨i,hi,h,rfl⟩))⟩,h3.at fun h0=>h5 _ (Or.inr ⟨h0,rfl⟩)⟩
theorem zy.zRX{w w':World}{lo hi:Nat}{v0 v1:Value}{p:zI}(h:zy w lo hi v0 v1 p)(t:Below w.heap.size w w'):zy w' lo hi v0 v1 p:=by
 obtain⟨bs,hb,kb,kv,h1,h2,h3,h4,h5⟩:=h;exact⟨bs,hb,kb,kv,h1.zRX t,h2,h3.zRX t,h4,h5⟩
theorem zy.zRf{S:Nat->Prop}{w w':World}{lo hi:Nat}{v0 v1:Value}{p:zI}(h:zy w lo hi v0 v1 p)(t:zF S w w')(hs:∀k,S k->k<lo\/hi<=k):zy w' lo hi v0 v1 p:=by
 obtain⟨bs,hb,kb,kv,h1,h2,h3,h4,h5⟩:=h;have out:∀k,yi bs kb p.n p.s k\/(0<p.hn/\k=hb)->¬S k:=fun k hk hx=>by
  have a:=h5 k hk;have b:=hs k hx;omega
 exact⟨bs,hb,kb,kv,h1.zRf t (fun h0=>out _ (Or.inl (Or.inl ⟨h0,rfl⟩))) (fun i hi h=>out _ (Or.inl (Or.inr ⟨i,hi,h,rfl⟩))),h2,h3.zRf t (fun h0=>out _ (Or.inr ⟨h0,rfl⟩)),h4,h5⟩
theorem qV.zRc{w:World}{lo hi lo' hi':Nat}{v:Value}{n:Nat}{f:Nat->Int}(h:qV w lo hi v n f)(h1:lo'<=lo)(h2:hi<=hi'):qV w lo' hi' v n f:=by
 obtain⟨h0,a,aA,hv,bA,hc⟩:=h;refine⟨h0,a,aA,hv,bA,fun hn=>?_⟩;obtain⟨b,off,ha,g1,g2,g3⟩:=hc hn;exact⟨b,off,ha,by omega,by omega,g3⟩
theorem zU.zRc{w:World}{lo hi lo' hi':Nat}{v:Value}{n:Nat}{f g:Nat->Int}(h:zU w lo hi v n f g)(h1:lo'<=lo)(h2:hi<=hi'):zU w lo' hi' v n f g:=by
 obtain⟨h0,a,aA,hv,bA,hc⟩:=h;refine⟨h0,a,aA,hv,bA,fun hn=>?_⟩;obtain⟨b,off,ha,g1,g2,g3⟩:=hc hn;exact⟨b,off,ha,by omega,by omega,g3⟩
theorem zy.zRc{w:World}{lo hi lo' hi':Nat}{v0 v1:Value}{p:zI}(h:zy w lo hi v0 v1 p)(h1:lo'<=lo)(h2:hi<=hi'):zy w lo' hi' v0 v1 p:=by
 obtain⟨bs,hb,kb,kv,g1,g2,g3,g4,g5⟩:=h;exact⟨bs,hb,kb,kv,g1,g2,g3,g4,fun k hk=>by have:=g5 k hk;omega⟩
theorem zy.form{w:World}{lo hi:Nat}{v0 v1:Value}{p:zI}(h:zy w lo hi v0 v1 p):∃a c a' c',v0 = .slice a p.n c/\v1 = .slice a' p.hn c':=by
 obtain⟨bs,hb,kb,kv,⟨_,a,c,h1,_⟩,h2,⟨_,a',c',h3,_,_⟩,h4,h5⟩:=h;exact⟨a,c,a',c',h1,h3⟩
theorem zu.form{w:World}{lo hi:Nat}{v0 v1:Value}{p:zI}(h:zu w lo hi v0 v1 p):∃a c a' c',v0 = .slice a p.n c/\v1 = .slice a' p.hn c':=by
 obtain⟨⟨_,a,c,h1,_⟩,⟨_,a',c',h3,_⟩⟩:=h;exact⟨a,c,a',c',h1,h3⟩
def zHZ(p:zI)(w:World)(e:Ending)(w':World):Prop:=∃v0 v1,e = .returned (.agg #[v0,v1])/\zy w' w.heap.size w'.heap.size v0 v1 p/\Below w.heap.size w w'
def zG9:zL:={zRi:=0,kn:=0,ks:=fun _=>0,kb:=fun _=>0,data:=⟨#[]⟩}
def zEV(n:Nat):zI:={n:=n,s:=fun _=>zG9,hn:=0,h:=fun _=>0}
theorem zL1{bs:Nat}{kb:Nat->Nat}{n k:Nat}:yi bs kb n (fun _=>zG9) k↔0<n/\k=bs:=by
 constructor
 ·rintro(h | ⟨i,_,h0,_⟩)
  ·exact h
  ·exact absurd h0 (by simp[zG9])
 ·exact Or.inl
theorem zPV{w:World}{lo hi g n:Nat}{v0:Value}(hn:n<=maxLen)(hv:∃a aA,v0 = .slice a n aA/\n<=aA/\(0<n->a=some ⟨g,0,none⟩/\lo<=g/\g<hi))
  (hc:∀i,i<n->zW w g (0+i*3) (.int .i64 0)/\zW w g (0+i*3+1) (.slice none 0 0)/\zW w g (0+i*3+2) (.string ⟨#[]⟩)) :
  zy w lo hi v0 (.slice none 0 0) (zEV n):=by
 obtain⟨a,aA,rfl,bA,ha⟩:=hv;refine⟨g,0,fun _=>0,fun _=>.slice none 0 0,⟨hn,a,aA,rfl,bA,fun h0=>⟨0,(ha h0).1,fun i hi=>?_⟩⟩,fun i j _ _ _ h0 _=>absurd h0 (by simp[zEV,zG9]),⟨Nat.zero_le _,none,0,rfl,Nat.le_refl _,fun h=>absurd h (Nat.lt_irrefl _),fun h=>absurd h (Nat.lt_irrefl _)⟩,fun h=>absurd h (Nat.lt_irrefl _),?_⟩
 ·exact⟨(hc i hi).1,(hc i hi).2.1,(hc i hi).2.2,⟨Nat.zero_le _,none,0,rfl,Nat.le_refl _,fun h=>absurd h (Nat.lt_irrefl _)⟩,Nat.zero_le _,fun h=>absurd h (Nat.lt_irrefl _)⟩
 ·rintro k (h | h)
  ·obtain⟨h0,rfl⟩:=zL1.1 h;exact(ha h0).2
  ·exact absurd h.1 (Nat.lt_irrefl _)
def zAN(s:zL):Nat:=s.kn+s.data.size
def ym(f:Nat->zL):Nat->Nat
 | 0=>0
 | k+1=>ym f k+zAN (f k)
def qC(p:zI):Nat:=p.n+ym p.s p.n+p.hn
theorem zFx(f:Nat->zL){j n:Nat}(h:j<n):zAN (f j)<=ym f n:=by
 induction n with
 | zero=>omega
 | succ n ih=>
  show _<=ym f n+zAN (f n);by_cases e:j=n
  ·subst e;omega
  ·have:=ih (by omega);omega
theorem zDQ:(Tryz.prog.info? 2).map (fun i=>(i.zero,i.size,i.bytes))=some (some (.int .i64 0),1,8):=by kernel_rfl
theorem zKy:(Tryz.prog.info? 61).map (fun i=>(i.zero,i.size,i.bytes))=some (some (.agg #[.int .i64 0,.int .i64 0]),2,16):=by kernel_rfl
theorem zEq:(Tryz.prog.info? 127).map (fun i=>(i.zero,i.size,i.bytes))=some (some (.agg #[.int .i64 0,.slice none 0 0,.string ⟨#[]⟩]),3,48):=by kernel_rfl
def zA2(zs:Array Value)(n:Nat):Array Value:=madeCells zs (n*zs.size)
theorem zO0(zs:Array Value)(n i r:Nat)(hi:i<n)(hr:r<zs.size):(zA2 zs n)[i*zs.size+r]?=some (zs[r]!):=by
 unfold zA2 madeCells;have h1:i*zs.size+r<n*zs.size:=by
  have:(i+1)*zs.size<=n*zs.size:=Nat.mul_le_mul_right _ hi;rw[Nat.add_mul]at this;omega
 have h2:(i*zs.size+r) % zs.size=r:=by rw[Nat.mul_comm,Nat.mul_add_mod];exact Nat.mod_eq_of_lt hr
 simp only[Array.getElem?_map,Array.getElem?_range,h1,if_true,Option.map_some,h2]
theorem zBA(t e:TypeId)(z:Value)(size bytes:Nat)(ht:Tryz.prog.underlying t=some (.slice e))(aA:(Tryz.prog.info? e).map (fun i=>(i.zero,i.size,i.bytes))=some (some z,size,bytes))(hs:z.cells.size=size)
  (n:Nat) (hn:n<=1048576) (hb:bytes<=1000) (w:World):(Instr.makeSlice t (.int .i64 (n:Int)) (.int .i64 (n:Int))).run Tryz.prog w = .ok (.slice (some ⟨w.heap.size,0,none⟩) n n) (w.alloc (.cells (zA2 z.cells n) e)):=by
 obtain⟨i,hi,bA⟩:=Option.map_eq_some_iff.1 aA;simp only[Prod.mk.injEq]at bA;obtain⟨hz,dA,eA⟩:=bA;have cA:(bytes:Int)*(n:Int)<=281474976710656:=by
  have h:bytes*n<=1000*1048576:=Nat.mul_le_mul hb hn;have h2:((bytes*n:Nat):Int)<=((1000*1048576:Nat):Int):=Int.ofNat_le.2 h;rw[Int.natCast_mul]at h2;omega
 have hr:=run_make (P:=Tryz.prog) w t e i z ht hi hz .i64 .i64 n n (by omega) (Int.le_refl _) (by rw[eA];exact cA) (by omega);rw[dA,<-hs]at hr;simp only[Int.toNat_natCast]at hr;exact hr
theorem qk(w:World)(zs:Array Value)(n i r:Nat)(t:TypeId)(hi:i<n)(hr:r<zs.size):zW (w.alloc (.cells (zA2 zs n) t)) w.heap.size (i*zs.size+r) (zs[r]!):=
 ⟨by rw[World.cell?_alloc_at (hn:=rfl)];exact zO0 zs n i r hi hr,by rw[World.frozen?_alloc_at (hn:=rfl)]⟩
open Go.Extern.Stop Go.Stop Go.Extern
theorem zd{P:Prop}(h:P):Hid P:=h
abbrev qM(a:Addr):Value:=.iface 269 (.pointer (some a))
def errG:Nat->Nat
 | 0=>4
 | 1=>3
 | 2=>0
 | 3=>2
 | 4=>5
 | 5=>1
 | _=>6
def zBb:Nat->Int
 | 0=>1
 | 1=>2
 | 2=>4
 | 3=>5
 | 4=>6
 | 5=>7
 | _=>8
structure zE2 (w:World) (p:Nat->Addr):Prop where
 cell:∀i,i<7->w.cell? ⟨errG i,0,none⟩=some (qM (p i))
 row:∀i,i<7->∃cs t,w.heap[(p i).block]?=some (.cells cs t (0,0))
 ne:∀i j,i<7->j<7->i≠j->p i≠p j
theorem zE2.zRX{w w':World}{p:Nat->Addr}(h:zE2 w p)(t:Below w.heap.size w w'):zE2 w' p:=
 ⟨fun i hi=>(t.cell (zD (h.cell i hi))).trans (h.cell i hi),fun i hi=>by
  obtain⟨cs,ty,hc⟩:=h.row i hi;exact⟨cs,ty,(t.block _ (Array.getElem?_eq_some_iff.1 hc).1).trans hc⟩,h.ne⟩
theorem zMR(v:Value)(w:World):(Extern.ReflectliteType.typeOf #[.iface 269 v]).run Tryz.prog w = .ok (.iface 254 (.agg #[.pointer (some ⟨7,269,none⟩)])) w:=by kernel_rfl
def zQp:Array Value->Sem Value:=Extern.ReflectliteType.method fun t=>do Extern.Rtype.noPackHeld "Comparable" t;pure (.bool (<-typeInfo t).comparable)
theorem zGP(w:World):(zQp #[.agg #[.pointer (some ⟨7,269,none⟩)]]).run Tryz.prog w = .ok (.bool true) w:=by kernel_rfl
theorem zCd(v:Value)(w:World):(Go.method 407 254 v "Comparable").run Tryz.prog w = .ok (254,v) w:=by kernel_rfl
theorem zPW:(Tryz.prog.info? 269).map (·.comparable)=some true:=by kernel_rfl
theorem zPb:(Tryz.prog.info? 295).map (·.size)=some 1:=by kernel_rfl
theorem zRS(v:Value)(xT:TypeId)(w:World):(Instr.typeAssert (.iface 269 v) xT 256 true).run Tryz.prog w = .ok (.tuple #[.nilIface,.bool false]) w:=run_typeAssert_lacksB Tryz.underlying256 (by kernel_rfl) (by kernel_rfl) v xT w
theorem zOa(v:Value)(xT:TypeId)(w:World):(Instr.typeAssert (.iface 269 v) xT 259 true).run Tryz.prog w = .ok (.tuple #[.nilIface,.bool false]) w:=run_typeAssert_lacksB Tryz.underlying259 (by kernel_rfl) (by kernel_rfl) v xT w
theorem zNH(v:Value)(xT:TypeId)(w:World):(Instr.typeAssert (.iface 269 v) xT 261 true).run Tryz.prog w = .ok (.tuple #[.nilIface,.bool false]) w:=run_typeAssert_lacksB Tryz.underlying261 (by kernel_rfl) (by kernel_rfl) v xT w
theorem zQd(a:Addr)(w:World):Calls Tryz.prog 172 #[qM a,qM a] w fun e w'=>e = .returned (.bool true)/\w'=w:=by
 obtain⟨i,hi,aA⟩:=Option.map_eq_some_iff.1 zPW;obtain⟨j,hj,dA⟩:=Option.map_eq_some_iff.1 zPb;have h8:=@run_callFunc_extern Tryz.prog 212 _ Extern.ReflectliteType.typeOf Tryz.func212 (by kernel_rfl) (by kernel_rfl) (by kernel_rfl) (by kernel_rfl);have cA:=@run_callFunc_extern Tryz.prog 254 _ zQp Tryz.func254 (by kernel_rfl) (by kernel_rfl) (by kernel_rfl) (by kernel_rfl);have tT:=zMR;have cT:=zGP;have mR:=zCd;have bA:=run_eql_iface_ptr_same (P:=Tryz.prog) w a Tryz.underlying73 Tryz.underlying269 hi aA hj;go_enter Tryz.func172,Tryz.ntmps172;go_wp2;refine wp_loop_rounds 1 ?_;rw[rounds_succ];go_wp2;go_ret;exact⟨rfl,rfl⟩
theorem zPx(a b:Addr)(ca cb:Array Value)(ta tb:TypeId)(w:World)(cA:a≠b)(ha:w.heap[a.block]?=some (.cells ca ta (0,0)))(hb:w.heap[b.block]?=some (.cells cb tb (0,0))):Calls Tryz.prog 172 #[qM a,qM b] w fun e w'=>e = .returned (.bool false)/\w'=w:=by
 obtain⟨i,hi,aA⟩:=Option.map_eq_some_iff.1 zPW;obtain⟨j,hj,bA⟩:=Option.map_eq_some_iff.1 zPb;have h8:=@run_callFunc_extern Tryz.prog 212 _ Extern.ReflectliteType.typeOf Tryz.func212 (by kernel_rfl) (by kernel_rfl) (by kernel_rfl) (by kernel_rfl);have eA:=@run_callFunc_extern Tryz.prog 254 _ zQp Tryz.func254 (by kernel_rfl) (by kernel_rfl) (by kernel_rfl) (by kernel_rfl);have tT:=zMR;have cT:=zGP;have mR:=zCd;have nE:=zRS;have uE:=zOa;have vE:=zNH;have dA:=run_eql_iface_ptr_other (P:=Tryz.prog) w Tryz.underlying73 Tryz.underlying269 hi aA hj (by rw[bA];decide) cA ha hb;go_enter Tryz.func172,Tryz.ntmps172;go_wp2;refine wp_loop_rounds 1 ?_;rw[rounds_succ];go_wp2;go_ret;exact⟨rfl,rfl⟩
def zOY(p:Nat->Addr):Array Value:=#[qM (p 0),.int .i64 1,qM (p 1),.int .i64 2,qM (p 2),.int .i64 4,qM (p 3),.int .i64 5,qM (p 4),.int .i64 6,qM (p 5),.int .i64 7,qM (p 6),.int .i64 8]
theorem zNk(p:Nat->Addr){i:Nat}(hi:i<7):(zOY p)[i*2]?=some (qM (p i))/\(zOY p)[i*2+1]?=some (.int .i64 (zBb i)):=by
 match i,hi with
 | 0,_=>exact⟨rfl,rfl⟩
 | 1,_=>exact⟨rfl,rfl⟩
 | 2,_=>exact⟨rfl,rfl⟩
 | 3,_=>exact⟨rfl,rfl⟩
 | 4,_=>exact⟨rfl,rfl⟩
 | 5,_=>exact⟨rfl,rfl⟩
 | 6,_=>exact⟨rfl,rfl⟩
theorem zGK(p:Nat->Addr)(w:World)(h:zE2 w p):Calls Tryz.prog 150 #[] w fun e w'=>e = .returned (.slice (some ⟨w.heap.size,0,none⟩) 7 7)/\w'=w.alloc (.cells (zOY p) 199):=by
 have h0:w.cell? ⟨4,0,none⟩=some (qM (p 0)):=h.cell 0 (by omega);have h1:w.cell? ⟨3,0,none⟩=some (qM (p 1)):=h.cell 1 (by omega);have h2:w.cell? ⟨0,0,none⟩=some (qM (p 2)):=h.cell 2 (by omega);have h3:w.cell? ⟨2,0,none⟩=some (qM (p 3)):=h.cell 3 (by omega);have h4:w.cell? ⟨5,0,none⟩=some (qM (p 4)):=h.cell 4 (by omega);have h5:w.cell? ⟨1,0,none⟩=some (qM (p 5)):=h.cell 5 (by omega);have h6:w.cell? ⟨6,0,none⟩=some (qM (p 6)):=h.cell 6 (by omega);clear h;go_enter Tryz.func150,Tryz.ntmps150;go_wp2;go_ret;exact⟨rfl,rfl⟩
def zEC(i:Nat)(c:Int):Prop:=(97<=c/\c<=122)\/(i≠0/\((48<=c/\c<=57)\/c=95))
def yI(s:ByteArray):Prop:=1<=s.size/\s.size<=20/\∀j,(h:j<s.size)->zEC j (s[j].toNat:Int)
theorem zQg{s:ByteArray}{k:Nat}(cA:k<s.size)(aA:∀j,(h:j<k)->(h':j<s.size)->zEC j (s[j].toNat:Int))(bA:zEC k (s[k].toNat:Int)) :
  ∃m:Nat,m<=s.size/\Value.int .i64 ((k:Int)+1) = .int .i64 (m:Int)/\∀j,(h:j<m)->(h':j<s.size)->zEC j (s[j].toNat:Int):=by
 refine⟨k+1,by omega,by simp,fun j h h'=>?_⟩;by_cases e:j=k
 ·subst e;exact bA
 ·exact aA j (by omega) h'
theorem zQo{s:ByteArray}(bA:0<s.size)(aA:zEC 0 (s[0].toNat:Int)) :
  ∃m:Nat,m<=s.size/\Value.int .i64 1 = .int .i64 (m:Int)/\∀j,(h:j<m)->(h':j<s.size)->zEC j (s[j].toNat:Int):=by
 refine⟨1,by omega,by simp,fun j h h'=>?_⟩;obtain rfl:j=0:=by omega
 exact aA
theorem zDi(s:ByteArray)(w:World)(hs:s.size<=maxLen) :
  Calls Tryz.prog 138 #[.string s] w fun e w'=>zG (yI s) e/\w'=w:=by
 unfold maxLen at hs;by_cases h1:s.size<1
 ·have dA:(s.size:Int)<1:=(by omega);go_enter Tryz.func138,Tryz.ntmps138;go_wp2;go_ret;exact⟨⟨false,rfl,by simp[yI];omega⟩,rfl⟩
 by_cases h2:20<s.size
 ·have eA:(20:Int)<(s.size:Int):=(by omega);have dA:¬(s.size:Int)<1:=(by omega);go_enter Tryz.func138,Tryz.ntmps138;go_wp2;go_ret;exact⟨⟨false,rfl,by simp[yI];omega⟩,rfl⟩
 have dA:¬(s.size:Int)<1:=by omega
 have eA:¬(20:Int)<(s.size:Int):=by omega
 go_enter Tryz.func138,Tryz.ntmps138;go_wp2
 go_loop [3] (fun i=>∃k:Nat,k<=s.size/\i = .int .i64 k/\∀j,(h:j<k)->(h':j<s.size)->zEC j (s[j].toNat:Int)) (fun i=>s.size - (intOf i).toNat)
 case atStart=>exact⟨0,Nat.zero_le _,rfl,fun j h=>absurd h (Nat.not_lt_zero _)⟩
 case round=>
  obtain⟨k,hk,rfl,aA⟩:=hrel;have bA:Hid (∀j,(h:j<k)->(h':j<s.size)->zEC j (s[j].toNat:Int)):=aA;clear aA;by_cases cA:k<s.size
  ·by_cases fA:k=0
   all_goals try subst fA
   all_goals go_wp2
   all_goals try (go_ret;refine⟨⟨false,rfl,?_⟩,rfl⟩;simp only[Bool.false_eq_true,false_iff];intro h;have h3:=h.2.2 _ cA;unfold zEC at h3;first | omega | grind)
   all_goals
    go_round
    case measure=>simp[intOf];omega
    case rel=>first | exact zQo cA (by unfold zEC;first | omega | grind) | exact zQg cA bA.out (by unfold zEC;first | omega | grind)
  ·go_wp2;go_ret;refine⟨⟨true,rfl,?_⟩,rfl⟩;simp only[true_iff];exact⟨by omega,by omega,fun j h=>bA.out j (by omega) h⟩
theorem zDf(s:ByteArray)(w:World)(hs:s.size<=maxLen) :
  Calls Tryz.prog 167 #[.string s] w fun e w'=>zG (yI s) e/\w'=w:=by
 unfold maxLen at hs;by_cases h1:s.size<1
 ·have eA:(s.size:Int)<1:=(by omega);go_enter Tryz.func167,Tryz.ntmps167;go_wp2;go_ret;exact⟨⟨false,rfl,by simp[yI];omega⟩,rfl⟩
 by_cases h2:20<s.size
 ·have iA:(20:Int)<(s.size:Int):=(by omega);have eA:¬(s.size:Int)<1:=(by omega);go_enter Tryz.func167,Tryz.ntmps167;go_wp2;go_ret;exact⟨⟨false,rfl,by simp[yI];omega⟩,rfl⟩
 have eA:¬(s.size:Int)<1:=by omega
 have iA:¬(20:Int)<(s.size:Int):=by omega
 have h0:0<s.size:=by omega
 by_cases cA:97<=(s[0].toNat:Int)/\(s[0].toNat:Int)<=122
 ·obtain⟨fA,gA⟩:=cA;go_enter Tryz.func167,Tryz.ntmps167;go_wp2
  go_loop [20] (fun i=>∃k:Nat,k<=s.size/\i = .int .i64 k/\∀j,(h:j<k)->(h':j<s.size)->zEC j (s[j].toNat:Int)) (fun i=>s.size - (intOf i).toNat)
  case atStart=>exact⟨0,Nat.zero_le _,rfl,fun j h=>absurd h (Nat.not_lt_zero _)⟩
  case round=>
   obtain⟨k,hk,rfl,aA⟩:=hrel;have bA:Hid (∀j,(h:j<k)->(h':j<s.size)->zEC j (s[j].toNat:Int)):=aA;clear aA;by_cases dA:k<s.size
   ·by_cases jA:k=0
    all_goals try subst jA
    all_goals go_wp2
    all_goals try (go_ret;refine⟨⟨false,rfl,?_⟩,rfl⟩;simp only[Bool.false_eq_true,false_iff];intro h;have h3:=h.2.2 _ dA;unfold zEC at h3;first | omega | grind)
    all_goals
     go_round
     case measure=>simp[intOf];omega
     case rel=>first | exact zQo dA (by unfold zEC;first | omega | grind) | exact zQg dA bA.out (by unfold zEC;first | omega | grind)
   ·go_wp2;go_ret;refine⟨⟨true,rfl,?_⟩,rfl⟩;simp only[true_iff];exact⟨by omega,by omega,fun j h=>bA.out j (by omega) h⟩
 ·by_cases fA:97<=(s[0].toNat:Int)
  ·have gA:¬(s[0].toNat:Int)<=122:=fun h=>cA ⟨fA,h⟩
   clear cA;go_enter Tryz.func167,Tryz.ntmps167;go_wp2;go_ret;refine⟨⟨false,rfl,?_⟩,rfl⟩;simp only[Bool.false_eq_true,false_iff];intro h;have h3:=h.2.2 _ h0;unfold zEC at h3;omega
  ·clear cA;go_enter Tryz.func167,Tryz.ntmps167;go_wp2;go_ret;refine⟨⟨false,rfl,?_⟩,rfl⟩;simp only[Bool.false_eq_true,false_iff];intro h;have h3:=h.2.2 _ h0;unfold zEC at h3;omega
def zDS(a b:ByteArray):Prop:=Op.bytesLess a.toList b.toList=true
theorem zLQ:∀x y:List UInt8,Op.bytesLess x y=true\/x=y\/Op.bytesLess y x=true
 | [],[]=>Or.inr (Or.inl rfl)
 | [],b :: y=>Or.inl (by simp[Op.bytesLess])
 | a :: x,[]=>Or.inr (Or.inr (by simp[Op.bytesLess]))
 | a :: x,b :: y=>by
  simp only[Op.bytesLess,Bool.or_eq_true,decide_eq_true_eq,Bool.and_eq_true,beq_iff_eq,List.cons.injEq];by_cases h:a=b
  ·subst h;rcases zLQ x y with h | h | h
   ·exact Or.inl (Or.inr ⟨rfl,h⟩)
   ·exact Or.inr (Or.inl ⟨rfl,h⟩)
   ·exact Or.inr (Or.inr (Or.inr ⟨rfl,h⟩))
  ·have:a<b\/b<a:=by
    have aA:a.toNat≠b.toNat:=fun e=>h (UInt8.toNat_inj.1 e)
    rw[UInt8.lt_iff_toNat_lt,UInt8.lt_iff_toNat_lt];omega
   rcases this with h | h
   ·exact Or.inl (Or.inl h)
   ·exact Or.inr (Or.inr (Or.inl h))
theorem zJs:∀x:List UInt8,Op.bytesLess x x=false
 | []=>rfl
 | a :: x=>by simp[Op.bytesLess,zJs x]
theorem zLP:∀x y:List UInt8,Op.bytesLess x y=true->Op.bytesLess y x=false
 | [],[],h=>by simp[Op.bytesLess]at h
 | [],b :: y,_=>by simp[Op.bytesLess]
 | a :: x,[],h=>by simp[Op.bytesLess]at h
 | a :: x,b :: y,h=>by
  simp only[Op.bytesLess,Bool.or_eq_true,decide_eq_true_eq,Bool.and_eq_true,beq_iff_eq]at h;rw[<-Bool.not_eq_true];simp only[Op.bytesLess,Bool.or_eq_true,decide_eq_true_eq,Bool.and_eq_true,beq_iff_eq,UInt8.lt_iff_toNat_lt]at h ⊢;rintro(h' | ⟨h',h2⟩)
  ·rcases h with h | ⟨h,_⟩
   ·omega
   ·subst h;omega
  ·subst h';rcases h with h | ⟨_,h⟩
   ·omega
   ·rw[zLP x y h]at h2;exact absurd h2 (by simp)
theorem zPZ{a b:ByteArray}(h:a.toList=b.toList):a=b:=by
 rw[Go.ByteArray.toList_eq,Go.ByteArray.toList_eq]at h;cases a;cases b;simp only[ByteArray.mk.injEq]at *;exact Array.toList_inj.1 h
theorem zNo(a b:ByteArray):(Op.bytesLess a.toList b.toList || a.toList == b.toList)=false↔zDS b a:=by
 unfold zDS;rw[Bool.or_eq_false_iff,beq_eq_false_iff_ne];constructor
 ·rintro⟨h1,h2⟩;rcases zLQ a.toList b.toList with h | h | h
  ·rw[h1]at h;exact absurd h (by simp)
  ·exact absurd h h2
  ·exact h
 ·intro h;refine⟨zLP _ _ h,fun e=>?_⟩;rw[e,zJs]at h;exact absurd h (by simp)
theorem qV.take{w:World}{lo hi:Nat}{a:Option Addr}{n c m c':Nat}{f:Nat->Int}(h:qV w lo hi (.slice a n c) n f)(hm:m<=n)(hc:m<=c'):qV w lo hi (.slice a m c') m f:=by
 obtain⟨h0,a2,aA,hv,bA,hx⟩:=h;simp only[Value.slice.injEq,true_and]at hv;obtain⟨rfl,rfl⟩:=hv;refine⟨by omega,a,c',rfl,hc,fun h0=>?_⟩;obtain⟨b,off,ha,h1,h2,h3⟩:=hx (by omega);exact⟨b,off,ha,h1,h2,fun i hi=>h3 i (by omega)⟩
structure zAd (w:World) (b o:Nat) (lo hi:Nat) (ka:Option Addr) (kc:Nat) (s:zL):Prop where
 c0:w.cell? ⟨b,o,none⟩=some (.int .i64 s.zRi)
 c1:w.cell? ⟨b,o+1,none⟩=some (.slice ka s.kn kc)
 c2:w.cell? ⟨b,o+2,none⟩=some (.string s.data)
 slot:qH w lo hi (.int .i64 s.zRi) (.slice ka s.kn kc) (.string s.data) s
theorem zAd.zRX{w w':World}{b o lo hi:Nat}{ka:Option Addr}{kc:Nat}{s:zL}(h:zAd w b o lo hi ka kc s)(t:Below w.heap.size w w'):zAd w' b o lo hi ka kc s:=
 ⟨(t.cell (zD h.c0)).trans h.c0,(t.cell (zD h.c1)).trans h.c1,(t.cell (zD h.c2)).trans h.c2,h.slot.zRX t⟩
theorem qA.cells{w:World}{lo hi:Nat}{a:Option Addr}{n c:Nat}{f:Nat->zL}(h:qA w lo hi (.slice a n c) n f){i:Nat}(hi':i<n) :
  ∃b off ka kc,a=some ⟨b,off,none⟩/\zAd w b (off+i*3) lo hi ka kc (f i):=by
 obtain⟨h0,a2,bA,hv,cA,hx⟩:=h;simp only[Value.slice.injEq,true_and]at hv;obtain⟨rfl,rfl⟩:=hv;obtain⟨b,off,ha,h1,h2,h3⟩:=hx (by omega);obtain⟨v0,v1,v2,c0,c1,c2,hs⟩:=h3 i hi';have aA:=hs;obtain⟨rfl,⟨_,ka,kc,rfl,_⟩,rfl,_⟩:=hs;exact⟨b,off,ka,kc,ha,⟨c0,c1,c2,aA⟩⟩
theorem zQ{P:Prop}{t:Bool}(ht:t=true↔P)(h:¬P):t=false:=Bool.eq_false_iff.2 (fun e=>h (ht.1 e))
def qE(s:zL):Prop:=s.zRi=0/\s.kn=0/\s.data.toList.isEmpty=true
def qi(n:Int):Prop:=1<=n/\n<=1000000
def zr(p:zI)(xs xb:Int):Prop:=1<=xb/\0<=xs/\xs<p.n/\(p.s xs.toNat).zRi=xb
def zIW(p:zI)(b:Int)(xs xb:Int):Prop:=(xs=0/\xb=0)\/(zr p xs xb/\xb<=b)
def zAg(p:zI)(s:zL):Prop:=qi s.zRi/\((s.kn=0/\s.data.size=16)\/(s.kn=8/\s.data.toList.isEmpty=true/\∀i,i<s.kn->zIW p s.zRi (s.ks i) (s.kb i)))
def Has(n:Nat)(f:Nat->Int)(x:Int):Prop:=∃j,j<n/\f j=x
def zKr(p:zI)(i:Nat):Prop:=0<=p.h i/\p.h i<p.n/\¬qE (p.s (p.h i).toNat)/\¬Has i p.h (p.h i)
def zx(p:zI):Prop:=p.n<=200/\(∀i,i<p.n->qE (p.s i)\/zAg p (p.s i))/\∀i,i<p.hn->zKr p i
theorem yd(v0 v1 v2:Value)(lo hi:Nat)(s:zL)(w:World)(h1:qH w lo hi v0 v1 v2 s) :
  Calls Tryz.prog 74 #[.agg #[v0,v1,v2]] w fun e w'=>zG (qE s) e/\Below w.heap.size w w':=by
 obtain⟨rfl,⟨m1,a,c,rfl,_⟩,rfl,_⟩:=h1;unfold maxLen at m1;have aA:=(Below.refl w.heap.size w).alloc (Nat.le_refl _) (.cells #[.int .i64 s.zRi,.slice a s.kn c,.string s.data] 127);by_cases h1:s.zRi=0
 ·by_cases h2:s.kn=0
  ·by_cases h3:s.data.toList.isEmpty=true
   ·have H:Hid (qE s):=⟨h1,h2,h3⟩;have e1:(s.zRi == 0)=true:=(by simp[h1]);have e2:((s.kn:Int) == 0)=true:=(by simp[h2]);clear h1 h2;go_enter Tryz.func74,Tryz.ntmps74;go_wp2;go_ret;exact⟨zG.yes H.out,aA⟩
   ·have H:Hid (¬qE s):=fun h=>h3 h.2.2
    have e1:(s.zRi == 0)=true:=(by simp[h1]);have e2:((s.kn:Int) == 0)=true:=(by simp[h2]);have e3:s.data.toList.isEmpty=false:=(by simpa using h3);clear h1 h2 h3;go_enter Tryz.func74,Tryz.ntmps74;go_wp2;go_ret;exact⟨zG.no H.out,aA⟩
  ·have H:Hid (¬qE s):=fun h=>h2 h.2.1
   have e1:(s.zRi == 0)=true:=(by simp[h1]);have e2:((s.kn:Int) == 0)=false:=(by simp;omega);clear h1 h2;go_enter Tryz.func74,Tryz.ntmps74;go_wp2;go_ret;exact⟨zG.no H.out,aA⟩
 ·have H:Hid (¬qE s):=fun h=>h1 h.1
  have e1:(s.zRi == 0)=false:=(by simp[h1]);clear h1;go_enter Tryz.func74,Tryz.ntmps74;go_wp2;go_ret;exact⟨zG.no H.out,aA⟩
theorem yX(n:Int)(w:World):Calls Tryz.prog 145 #[.int .i64 n] w fun e w'=>zG (qi n) e/\w'=w:=by
 by_cases h1:1<=n
 ·by_cases h2:n<=1000000
  ·go_enter Tryz.func145,Tryz.ntmps145;go_wp2;go_ret;exact⟨zG.yes ⟨h1,h2⟩,rfl⟩
  ·go_enter Tryz.func145,Tryz.ntmps145;go_wp2;go_ret;exact⟨zG.no fun h=>by have:=h.2;omega,rfl⟩
 ·go_enter Tryz.func145,Tryz.ntmps145;go_wp2;go_ret;exact⟨zG.no fun h=>by have:=h.1;omega,rfl⟩
theorem yx(a b:Int)(w:World):Calls Tryz.prog 119 #[.agg #[.int .i64 a,.int .i64 b]] w fun e w'=>zG (zCM a b 0 0) e/\Below w.heap.size w w':=by
 have aA:=(Below.refl w.heap.size w).alloc (Nat.le_refl _) (.cells #[.int .i64 a,.int .i64 b] 61);by_cases h1:a=0
 ·by_cases h2:b=0
  ·subst h1 h2;go_enter Tryz.func119,Tryz.ntmps119;go_wp2;go_ret;exact⟨zG.yes ⟨rfl,rfl⟩,aA⟩
  ·subst h1;have H:Hid (¬zCM 0 b 0 0):=fun h=>h2 h.2
   have e2:(b == 0)=false:=(by simp[h2]);clear h2;go_enter Tryz.func119,Tryz.ntmps119;go_wp2;go_ret;exact⟨zG.no H.out,aA⟩
 ·have H:Hid (¬zCM a b 0 0):=fun h=>h1 h.1
  have e2:(a == 0)=false:=(by simp[h1]);clear h1;go_enter Tryz.func119,Tryz.ntmps119;go_wp2;go_ret;exact⟨zG.no H.out,aA⟩
theorem zAV(v:Value)(n lo hi:Nat)(f:Nat->Int)(x:Int)(w:World)(h1:qV w lo hi v n f) :
  Calls Tryz.prog 75 #[v,.int .i64 x] w fun e w'=>zG (Has n f x) e/\w'=w:=by
 obtain⟨m1,a,c,rfl,mc,g1⟩:=h1;unfold maxLen at m1;have G1:Hid (0<n->∃b off,a=some ⟨b,off,none⟩/\lo<=b/\b<hi/\∀i,i<n->w.cell? ⟨b,off+i,none⟩=some (.int .i64 (f i))):=g1;clear g1;go_enter Tryz.func75,Tryz.ntmps75;go_wp2
 go_loop [5] (fun i=>∃k:Nat,k<=n/\i = .int .i64 k/\¬Has k f x) (fun i=>n - (intOf i).toNat)
 case atStart=>exact⟨0,Nat.zero_le _,rfl,fun ⟨j,hj,_⟩=>absurd hj (Nat.not_lt_zero _)⟩
 case round=>
  obtain⟨k,hk,rfl,bA⟩:=hrel;have dA:Hid (¬Has k f x):=bA;clear bA;by_cases cA:k<n
  ·have eA:(k:Int)<(n:Int):=(by omega);obtain⟨b,off,rfl,_,_,k1⟩:=G1.out (by omega);have gA:=k1 k cA;clear k1 G1;by_cases he:f k=x
   ·have H:Hid (Has n f x):=⟨k,cA,he⟩;have fA:(f k == x)=true:=(by simp[he]);clear he;go_wp2;go_ret;exact⟨zG.yes H.out,rfl⟩
   ·have H:Hid (¬f k=x):=he;have fA:(f k == x)=false:=(by simp[he]);clear he;go_wp2
    go_round
    case rel=>
     refine⟨k+1,by omega,by go_num,?_⟩;rintro⟨j,hj,aA⟩;by_cases e:j=k
     ·subst e;exact H.out aA
     ·exact dA.out ⟨j,by omega,aA⟩
    case measure=>simp[intOf];omega
  ·obtain rfl:k=n:=(by omega);go_wp2;go_ret;exact⟨zG.no dA.out,rfl⟩
def zHP(s:zL):Prop:=qi s.zRi/\s.kn=0/\s.data.size=16
def zK9(s:zL):Prop:=qi s.zRi/\s.kn=8/\s.data.toList.isEmpty=true
theorem zBj(v0 v1 v2:Value)(lo hi:Nat)(s:zL)(w:World)(h1:qH w lo hi v0 v1 v2 s) :
  Calls Tryz.prog 157 #[.agg #[v0,v1,v2]] w fun e w'=>zG (qE s) e/\Below w.heap.size w w':=by
 obtain⟨rfl,⟨m1,a,c,rfl,_⟩,rfl,_⟩:=h1;unfold maxLen at m1;have aA:=(Below.refl w.heap.size w).alloc (Nat.le_refl _) (.cells #[.int .i64 s.zRi,.slice a s.kn c,.string s.data] 127);by_cases h1:s.zRi=0
 ·by_cases h2:s.kn=0
  ·by_cases h3:s.data.toList.isEmpty=true
   ·have H:Hid (qE s):=⟨h1,h2,h3⟩;have e1:(s.zRi == 0)=true:=(by simp[h1]);have e2:((s.kn:Int) == 0)=true:=(by simp[h2]);clear h1 h2;go_enter Tryz.func157,Tryz.ntmps157;go_wp2;go_ret;exact⟨zG.yes H.out,aA⟩
   ·have H:Hid (¬qE s):=fun h=>h3 h.2.2
    have e1:(s.zRi == 0)=true:=(by simp[h1]);have e2:((s.kn:Int) == 0)=true:=(by simp[h2]);have e3:s.data.toList.isEmpty=false:=(by simpa using h3);clear h1 h2 h3;go_enter Tryz.func157,Tryz.ntmps157;go_wp2;go_ret;exact⟨zG.no H.out,aA⟩
  ·have H:Hid (¬qE s):=fun h=>h2 h.2.1
   have e1:(s.zRi == 0)=true:=(by simp[h1]);have e2:((s.kn:Int) == 0)=false:=(by simp;omega);clear h1 h2;go_enter Tryz.func157,Tryz.ntmps157;go_wp2;go_ret;exact⟨zG.no H.out,aA⟩
 ·have H:Hid (¬qE s):=fun h=>h1 h.1
  have e1:(s.zRi == 0)=false:=(by simp[h1]);clear h1;go_enter Tryz.func157,Tryz.ntmps157;go_wp2;go_ret;exact⟨zG.no H.out,aA⟩
theorem qK(n:Int)(w:World):Calls Tryz.prog 156 #[.int .i64 n] w fun e w'=>zG (qi n) e/\w'=w:=by
 by_cases h1:1<=n
 ·by_cases h2:n<=1000000
  ·go_enter Tryz.func156,Tryz.ntmps156;go_wp2;go_ret;exact⟨zG.yes ⟨h1,h2⟩,rfl⟩
  ·go_enter Tryz.func156,Tryz.ntmps156;go_wp2;go_ret;exact⟨zG.no fun h=>by have:=h.2;omega,rfl⟩
 ·go_enter Tryz.func156,Tryz.ntmps156;go_wp2;go_ret;exact⟨zG.no fun h=>by have:=h.1;omega,rfl⟩
theorem zH4(v0 v1 v2:Value)(lo hi:Nat)(s:zL)(w:World)(h1:qH w lo hi v0 v1 v2 s) :
  Calls Tryz.prog 198 #[.agg #[v0,v1,v2]] w fun e w'=>zG (zHP s) e/\Below w.heap.size w w':=by
 obtain⟨rfl,⟨m1,a,c,rfl,_⟩,rfl,m2⟩:=h1;unfold maxLen at m1 m2;have aA:=(Below.refl w.heap.size w).alloc (Nat.le_refl _) (.cells #[.int .i64 s.zRi,.slice a s.kn c,.string s.data] 127);by_cases h1:qi s.zRi
 ·have HB:Hid (qi s.zRi):=h1;by_cases h2:s.kn=0
  ·by_cases h3:s.data.size=16
   ·have H:Hid (zHP s):=⟨h1,h2,h3⟩;have e2:((s.kn:Int) == 0)=true:=(by simp[h2]);have e3:((s.data.size:Int) == 16)=true:=(by simp[h3]);clear h1 h2 h3;go_enter Tryz.func198,Tryz.ntmps198;go_wp2_with (go_at_call 156;refine(qK _ _).mono ?_;rintro e w' ⟨⟨t,rfl,ht⟩,rfl⟩;obtain rfl:t=true:=ht.2 HB.out;clear ht);go_ret;exact⟨zG.yes H.out,aA⟩
   ·have H:Hid (¬zHP s):=fun h=>h3 h.2.2
    have e2:((s.kn:Int) == 0)=true:=(by simp[h2]);have e3:((s.data.size:Int) == 16)=false:=(by simp;omega);clear h1 h2 h3;go_enter Tryz.func198,Tryz.ntmps198;go_wp2_with (go_at_call 156;refine(qK _ _).mono ?_;rintro e w' ⟨⟨t,rfl,ht⟩,rfl⟩;obtain rfl:t=true:=ht.2 HB.out;clear ht);go_ret;exact⟨zG.no H.out,aA⟩
  ·have H:Hid (¬zHP s):=fun h=>h2 h.2.1
   have e2:((s.kn:Int) == 0)=false:=(by simp;omega);clear h1 h2;go_enter Tryz.func198,Tryz.ntmps198;go_wp2_with (go_at_call 156;refine(qK _ _).mono ?_;rintro e w' ⟨⟨t,rfl,ht⟩,rfl⟩;obtain rfl:t=true:=ht.2 HB.out;clear ht);go_ret;exact⟨zG.no H.out,aA⟩
 ·have HB:Hid (¬qi s.zRi):=h1;clear h1;go_enter Tryz.func198,Tryz.ntmps198;go_wp2_with (go_at_call 156;refine(qK _ _).mono ?_;rintro e w' ⟨⟨t,rfl,ht⟩,rfl⟩;obtain rfl:t=false:=zQ ht HB.out;clear ht);go_ret;exact⟨zG.no fun h=>HB.out h.1,aA⟩
theorem zMS(v0 v1 v2:Value)(lo hi:Nat)(s:zL)(w:World)(h1:qH w lo hi v0 v1 v2 s) :
  Calls Tryz.prog 199 #[.agg #[v0,v1,v2]] w fun e w'=>zG (zK9 s) e/\Below w.heap.size w w':=by
 obtain⟨rfl,⟨m1,a,c,rfl,_⟩,rfl,m2⟩:=h1;unfold maxLen at m1 m2;have aA:=(Below.refl w.heap.size w).alloc (Nat.le_refl _) (.cells #[.int .i64 s.zRi,.slice a s.kn c,.string s.data] 127);by_cases h1:qi s.zRi
 ·have HB:Hid (qi s.zRi):=h1;by_cases h2:s.kn=8
  ·by_cases h3:s.data.toList.isEmpty=true
   ·have H:Hid (zK9 s):=⟨h1,h2,h3⟩;have e2:((s.kn:Int) == 8)=true:=(by simp[h2]);clear h1 h2;go_enter Tryz.func199,Tryz.ntmps199;go_wp2_with (go_at_call 156;refine(qK _ _).mono ?_;rintro e w' ⟨⟨t,rfl,ht⟩,rfl⟩;obtain rfl:t=true:=ht.2 HB.out;clear ht);go_ret;exact⟨zG.yes H.out,aA⟩
   ·have H:Hid (¬zK9 s):=fun h=>h3 h.2.2
    have e2:((s.kn:Int) == 8)=true:=(by simp[h2]);have e3:s.data.toList.isEmpty=false:=(by simpa using h3);clear h1 h2 h3;go_enter Tryz.func199,Tryz.ntmps199;go_wp2_with (go_at_call 156;refine(qK _ _).mono ?_;rintro e w' ⟨⟨t,rfl,ht⟩,rfl⟩;obtain rfl:t=true:=ht.2 HB.out;clear ht);go_ret;exact⟨zG.no H.out,aA⟩
  ·have H:Hid (¬zK9 s):=fun h=>h2 h.2.1
   have e2:((s.kn:Int) == 8)=false:=(by simp;omega);clear h1 h2;go_enter Tryz.func199,Tryz.ntmps199;go_wp2_with (go_at_call 156;refine(qK _ _).mono ?_;rintro e w' ⟨⟨t,rfl,ht⟩,rfl⟩;obtain rfl:t=true:=ht.2 HB.out;clear ht);go_ret;exact⟨zG.no H.out,aA⟩
 ·have HB:Hid (¬qi s.zRi):=h1;clear h1;go_enter Tryz.func199,Tryz.ntmps199;go_wp2_with (go_at_call 156;refine(qK _ _).mono ?_;rintro e w' ⟨⟨t,rfl,ht⟩,rfl⟩;obtain rfl:t=false:=zQ ht HB.out;clear ht);go_ret;exact⟨zG.no fun h=>HB.out h.1,aA⟩
theorem zOT(v:Value)(n lo hi:Nat)(f:Nat->Int)(x:Int)(w:World)(h1:qV w lo hi v n f) :
  Calls Tryz.prog 217 #[v,.int .i64 x] w fun e w'=>(∃r:Int,e = .returned (.int .i64 r)/\(0<=r↔Has n f x))/\w'=w:=by
 obtain⟨m1,a,c,rfl,mc,g1⟩:=h1;unfold maxLen at m1;have G1:Hid (0<n->∃b off,a=some ⟨b,off,none⟩/\lo<=b/\b<hi/\∀i,i<n->w.cell? ⟨b,off+i,none⟩=some (.int .i64 (f i))):=g1;clear g1;go_enter Tryz.func217,Tryz.ntmps217;go_wp2
 go_loop [8] (fun i=>∃k:Nat,k<=n/\i = .int .i64 k/\¬Has k f x) (fun i=>n - (intOf i).toNat)
 case atStart=>exact⟨0,Nat.zero_le _,rfl,fun ⟨j,hj,_⟩=>absurd hj (Nat.not_lt_zero _)⟩
 case round=>
  obtain⟨k,hk,rfl,bA⟩:=hrel;have dA:Hid (¬Has k f x):=bA;clear bA;by_cases cA:k<n
  ·have eA:(k:Int)<(n:Int):=(by omega);obtain⟨b,off,rfl,_,_,k1⟩:=G1.out (by omega);have gA:=k1 k cA;clear k1 G1;by_cases he:f k=x
   ·have H:Hid (Has n f x):=⟨k,cA,he⟩;have fA:(x == f k)=true:=(by simp[he]);clear he;go_wp2;go_ret;exact⟨⟨_,rfl,⟨fun _=>H.out,fun _=>Int.natCast_nonneg _⟩⟩,rfl⟩
   ·have H:Hid (¬f k=x):=he;have fA:(x == f k)=false:=(by simp;exact fun e=>he e.symm);clear he;go_wp2
    go_round
    case rel=>
     refine⟨k+1,by omega,by go_num,?_⟩;rintro⟨j,hj,aA⟩;by_cases e:j=k
     ·subst e;exact H.out aA
     ·exact dA.out ⟨j,by omega,aA⟩
    case measure=>simp[intOf];omega
  ·obtain rfl:k=n:=(by omega);go_wp2;go_ret;exact⟨⟨-1,rfl,⟨fun h=>absurd h (by omega),fun h=>absurd h dA.out⟩⟩,rfl⟩
theorem zCW(v:Value)(n lo hi:Nat)(f:Nat->Int)(x:Int)(w:World)(h1:qV w lo hi v n f) :
  Calls Tryz.prog 192 #[v,.int .i64 x] w fun e w'=>zG (Has n f x) e/\w'=w:=by
 have Hi:Hid (qV w lo hi v n f):=h1;obtain⟨m1,a,c,rfl,mc,g1⟩:=h1;clear g1;go_enter Tryz.func192,Tryz.ntmps192;go_wp2_with fail;refine(zOT _ n lo hi f x _ Hi.out).mono ?_;rintro e w' ⟨⟨r,rfl,hr⟩,rfl⟩;have Hr:Hid (0<=r↔Has n f x):=hr;clear hr;go_wp2;go_ret;exact⟨⟨_,rfl,by simpa using Hr.out⟩,rfl⟩
def zBg(n:Nat)(f:Nat->zL)(x ps pb:Int):Prop:=
 (0<=x/\x<n/\¬qE (f x.toNat)/\ps=x/\pb=(f x.toNat).zRi)\/(¬(0<=x/\x<n/\¬qE (f x.toNat))/\ps=0/\pb=0)
theorem zEx(v:Value)(n lo hi:Nat)(f:Nat->zL)(x:Int)(w:World)(h1:qA w lo hi v n f) :
  Calls Tryz.prog 216 #[v,.int .i64 x] w fun e w'=>(∃ps pb,e = .returned (.agg #[.int .i64 ps,.int .i64 pb])/\zBg n f x ps pb)/\Below w.heap.size w w':=by
 have Hi:Hid (qA w lo hi v n f):=h1;obtain⟨m1,a,c,rfl,mc,g1⟩:=h1;unfold maxLen at m1;clear g1;have bA:Hid (Below w.heap.size w (w.alloc (.cells #[.int .i64 0,.int .i64 0] 61))):=zC _ _;by_cases h1:x<0
 ·have H:Hid (zBg n f x 0 0):=Or.inr ⟨fun h=>by omega,rfl,rfl⟩;go_enter Tryz.func216,Tryz.ntmps216;go_wp2;refine bodyPost_ret (v:=.agg #[.int .i64 0,.int .i64 0]) (by simp[results,Tryz.results216,go_sem]) rfl ⟨⟨0,0,rfl,H.out⟩,bA.out⟩
 ·by_cases h2:(n:Int)<=x
  ·have H:Hid (zBg n f x 0 0):=Or.inr ⟨fun h=>by omega,rfl,rfl⟩;go_enter Tryz.func216,Tryz.ntmps216;go_wp2;refine bodyPost_ret (v:=.agg #[.int .i64 0,.int .i64 0]) (by simp[results,Tryz.results216,go_sem]) rfl ⟨⟨0,0,rfl,H.out⟩,bA.out⟩
  ·obtain⟨k,rfl⟩:=Int.eq_ofNat_of_zero_le (show 0<=x by omega);have hk:k<n:=(by omega);have dA:(k:Int)<(n:Int):=(by omega);obtain⟨b,off,ka,kc,rfl,hs⟩:=Hi.out.cells hk;have Hs:Hid (zAd w b (off+k*3) lo hi ka kc (f k)):=hs;have eA:=zD hs.c0;obtain⟨q0,q1,q2,_⟩:=hs;by_cases hf:qE (f k)
   ·have H:Hid (zBg n f k 0 0):=Or.inr ⟨fun h=>h.2.2 (by rw[Int.toNat_natCast];exact hf),rfl,rfl⟩;have HF:Hid (qE (f k)):=hf;clear hf;go_enter Tryz.func216,Tryz.ntmps216;go_wp2_with fail;refine(zBj _ _ _ lo hi (f k) _ (Hs.out.slot.zRX bA.out)).mono ?_;rintro e w1 ⟨⟨t,rfl,hx⟩,aA⟩;obtain rfl:t=true:=hx.2 HF.out;clear hx;have HX:Hid (zc w1 w.heap.size (.int .i64 0) (.int .i64 0)):=(zc.zRZ w _ _ _).zRX aA;have cA:=zA bA.out aA;clear aA q0 q1 q2;obtain⟨⟨y0,y1⟩,⟨y2,y3⟩⟩:=HX.out;go_wp2;have HY:=HX.out.put (.int .i64 0) (.int .i64 0);refine bodyPost_ret (v:=.agg #[.int .i64 0,.int .i64 0]) (by simp[results,Tryz.results216,go_sem,HY.1.1,HY.2.1]) rfl ⟨⟨0,0,rfl,H.out⟩,(cA.setCell (Nat.le_refl _) _).setCell (Nat.le_refl _) _⟩
   ·have H:Hid (zBg n f k k (f k).zRi):=Or.inl ⟨by omega,dA,by rw[Int.toNat_natCast];exact hf,rfl,by rw[Int.toNat_natCast]⟩;have HF:Hid (¬qE (f k)):=hf;clear hf;go_enter Tryz.func216,Tryz.ntmps216;go_wp2_with fail;refine(zBj _ _ _ lo hi (f k) _ (Hs.out.slot.zRX bA.out)).mono ?_;rintro e w1 ⟨⟨t,rfl,hx⟩,aA⟩;obtain rfl:t=false:=zQ hx HF.out;clear hx;have HX:Hid (zc w1 w.heap.size (.int .i64 0) (.int .i64 0)):=(zc.zRZ w _ _ _).zRX aA;have cA:=zA bA.out aA;have q5:=(Hs.out.zRX cA).c0;clear aA q0 q1 q2;obtain⟨⟨y0,y1⟩,⟨y2,y3⟩⟩:=HX.out;go_wp2;have HY:=HX.out.put (.int .i64 k) (.int .i64 (f k).zRi);refine bodyPost_ret (v:=.agg #[.int .i64 k,.int .i64 (f k).zRi]) (by simp[results,Tryz.results216,go_sem,HY.1.1,HY.2.1]) rfl ⟨⟨_,_,rfl,H.out⟩,(cA.setCell (Nat.le_refl _) _).setCell (Nat.le_refl _) _⟩
theorem zEO{P:Program}(w:World)(dT sT ty elem:TypeId)(size g o aA fA:Nat)(a:Addr)(bA gA:Nat)(cA:Array Value)(t:TypeId)(cs:List Value)
  (hu:P.underlying dT=some (.slice elem)) (hs:(P.info? elem).map (·.size)=some size)
  (hg:w.heap[g]?=some (.cells cA t (0,0))) (hn:cs.length=Nat.min bA aA*size)
  (eA:∀j v,cs[j]?=some v->w.cell? (a.add j)=some v) (dA:o+cs.length<=cA.size) (h1:∀v∈cs,v.oneCell'=true) :
  (Builtin.copy_ #[dT,sT] ty #[.slice (some ⟨g,o,none⟩) aA fA,.slice (some a) bA gA]).run P w =
   .ok (goInt (Nat.min bA aA)) (w.setRow g (cA.toList.take o ++ cs ++ cA.toList.drop (o+cs.length)).toArray):=by
 have hl:=run_loadCells_list (P:=P) w a cs eA;have iA:=run_storeCells_at P g o t cs 0 cA w hg (by simpa using dA) h1;cases hq:P.info? elem with
 | none=>simp[hq]at hs
 | some i=>
  have hi:i.size=size:=(by simpa[hq]using hs);have e:Nat.min bA aA*i.size=cs.length:=(by rw[hi,hn]);simp[Builtin.copy_,run_underlying hu,Builtin.lenOf,Builtin.firstCells,sizeOf,typeInfo,hq,e,hl,iA]
theorem zJD{P:Program}(w:World)(dT sT ty elem:TypeId)(size:Nat)(d a:Option Addr)(aA bA cA:Nat)
  (hu:P.underlying dT=some (.slice elem)) (hs:(P.info? elem).map (·.size)=some size) :
  (Builtin.copy_ #[dT,sT] ty #[.slice d aA bA,.slice a 0 cA]).run P w = .ok (goInt 0) w:=by
 cases hq:P.info? elem with
 | none=>simp[hq]at hs
 | some i=>
  cases a with
  | none=>cases d<;>simp[Builtin.copy_,run_underlying hu,Builtin.lenOf,Builtin.firstCells,sizeOf,typeInfo,hq,storeCells]
  | some a=>cases d<;>simp[Builtin.copy_,run_underlying hu,Builtin.lenOf,Builtin.firstCells,sizeOf,typeInfo,hq,storeCells,loadCells,loadCellsFrom]
def zj(s:zL)(j:Nat):Int:=if j / 2<s.kn then(if j % 2=0 then s.ks (j / 2)else s.kb (j / 2))else 0
def zp(f:Nat->Int):Array Value:=((List.range 16).map fun j=>Value.int .i64 (f j)).toArray
def qF(s:zL):Array Value:=zp (zj s)
theorem qB(f:Nat->Int):(zp f).size=16:=by simp[zp]
theorem yO(f:Nat->Int){j:Nat}(h:j<16):(zp f)[j]?=some (.int .i64 (f j)):=by simp[zp,h]
theorem zAq(f:Nat->Int):(zp f).all (·.oneCell')=true:=by
 unfold zp;rw[Array.all_eq_true_iff_forall_mem];intro v hv;simp at hv;obtain⟨j,_,rfl⟩:=hv;rfl
theorem zJb{f g:Nat->Int}(h:∀j,j<16->f j=g j):zp f=zp g:=by
 unfold zp;congr 1;apply List.map_congr_left;intro j hj;rw[h j (by simpa using hj)]
theorem zBy:(Tryz.prog.info? 155).map (·.size)=some 16:=by kernel_rfl
theorem zER:(Tryz.prog.info? 61).map (·.size)=some 2:=by kernel_rfl
theorem zHM:Tryz.prog.underlying 155=some (.array 8 61):=by kernel_rfl
theorem zHA(w:World)(o1 o2 o3:Obj):(((w.alloc o1).alloc o2).alloc o3).heap[w.heap.size+1]?=some o2/\(((w.alloc o1).alloc o2).alloc o3).heap[w.heap.size+1+1]?=some o3/\w.heap.size+1+1<(((w.alloc o1).alloc o2).alloc o3).heap.size:=by
 refine⟨?_,?_,by simp⟩
 ·rw[Below.heap_alloc _ _ _ (by simp)];have:=heap_alloc_last (w.alloc o1) o2;rw[World.size_alloc]at this;exact this
 ·have:=heap_alloc_last ((w.alloc o1).alloc o2) o3;rw[World.size_alloc,World.size_alloc]at this;exact this
theorem zF.setRow(w:World)(g:Nat)(cs:Array Value):zF (fun k=>k=g) w (w.setRow g cs):=
 ⟨rfl,rfl,rfl,by simp[World.setRow],fun k _ hs=>setRow_other w g k cs hs⟩
theorem zIb{eA:Array Oper}{o:Oper}{a:Act}{w:World}{K:Act->World->Prop}{Q:Exit->Act->World->Prop}{E:Prop}(fA:o.guard=none)(d s:Operand)
  (ho:o.op = .call {callee:=.builtin .copy,args:=#[d,s],argTypes:=#[62,62]})
  (g:Nat) (ka:Option Addr) (kc:Nat) (sl:zL) (hd:a.eval d = .slice (some ⟨g,0,none⟩) 8 8) (hs:a.eval s = .slice ka sl.kn kc)
  (hg:w.heap[g]?=some (.cells (zp fun _=>0) 155 (0,0))) (hk:sl.kn=0\/(sl.kn=8/\∃b off,ka=some ⟨b,off,none⟩/\∀i,i<sl.kn->w.cell? ⟨b,off+i*2,none⟩=some (.int .i64 (sl.ks i))/\w.cell? ⟨b,off+i*2+1,none⟩=some (.int .i64 (sl.kb i))))
  (h:∀w' v,Hid (w'.heap[g]?=some (.cells (qF sl) 155 (0,0)))->zF (fun k=>k=g) w w'->K (a.put o.dst v) w') :
  if Region.wanted o (yielded eA a.tmps)=true then Oper.wp Tryz.prog o a w K Q else E:=by
 have hw:Region.wanted o (yielded eA a.tmps)=true:=by simp[Region.wanted,fA]
 rw[if_pos hw];have hu:Tryz.prog.underlying 62=some (.slice 61):=by kernel_rfl
 rcases hk with hk | ⟨hk,b,off,rfl,hc⟩
 ·rw[hk]at hs;have aA:=zJD (P:=Tryz.prog) w 62 62 o.type 61 2 (some ⟨g,0,none⟩) ka 8 8 kc hu zER;unfold Oper.wp;simp[execOp,ho,resolve,invoke,builtin,hd,hs,aA,Result.andThen];refine h _ _ ?_ (zF.refl _ _);show _=_;rw[hg];have:qF sl=zp (fun _=>0):=zJb fun j _=>by unfold zj;rw[if_neg (by omega)]
  rw[this]
 ·rw[hk]at hs;have aA:=zEO (P:=Tryz.prog) w 62 62 o.type 61 2 g 0 8 8 ⟨b,off,none⟩ 8 kc (zp fun _=>0) 155 (qF sl).toList hu zER hg (by simp[qF,zp]) (fun j v hj=>by
    have bA:j<16:=by
     have:=(List.getElem?_eq_some_iff.1 hj).1;simpa[qF,qB]using this
    have e:(qF sl).toList[j]?=some (.int .i64 (zj sl j)):=(by rw[Array.getElem?_toList];exact yO (zj sl) bA);rw[e]at hj;simp only[Option.some.injEq]at hj;subst hj;have cA:(⟨b,off,none⟩:Addr).add j=⟨b,off+j,none⟩:=(by unfold Addr.add;split<;>simp_all);rw[cA];unfold zj;rw[if_pos (by omega)];have dA:=hc (j / 2) (by omega);split
    ·rw[show off+j=off+j / 2*2 by omega];exact dA.1
    ·rw[show off+j=off+j / 2*2+1 by omega];exact dA.2) (by simp[qF,zp]) (fun v hv=>(Array.all_eq_true_iff_forall_mem.1 (zAq _)) v (by simpa[qF]using hv))
  unfold Oper.wp;simp[execOp,ho,resolve,invoke,builtin,hd,hs,aA,Result.andThen];refine h _ _ ?_ (zF.setRow _ _ _);show _=_;rw[setRow_heap w g _ _ 155 (0,0) hg];have e0:((zp fun _=>0).toList.drop 16) = []:=List.drop_eq_nil_of_le (by simp[zp]);simp[qF,qB,e0]
theorem zDp(v0 v1 v2:Value)(lo hi:Nat)(s:zL)(w:World)(h1:qH w lo hi v0 v1 v2 s)(hk:s.kn=0\/s.kn=8) :
  Calls Tryz.prog 162 #[.agg #[v0,v1,v2]] w fun e w'=>e = .returned (.agg (qF s))/\Below w.heap.size w w':=by
 obtain⟨rfl,⟨m1,a,c,rfl,mc,g1⟩,rfl,m2⟩:=h1;unfold maxLen at m1 m2;have G1:Hid (0<s.kn->∃b off,a=some ⟨b,off,none⟩/\lo<=b/\b<hi/\∀i,i<s.kn->w.cell? ⟨b,off+i*2,none⟩=some (.int .i64 (s.ks i))/\w.cell? ⟨b,off+i*2+1,none⟩=some (.int .i64 (s.kb i))):=g1;have Hk:Hid (s.kn=0\/s.kn=8):=hk;clear g1 hk;go_enter Tryz.func162,Tryz.ntmps162;go_wp2_with fail;obtain⟨W,hW⟩:∃W:World,W=((w.alloc (.cells #[.int .i64 s.zRi,.slice a s.kn c,.string s.data] 127)).alloc (.cells #[Value.int .i64 0,Value.int .i64 0,Value.int .i64 0,Value.int .i64 0,Value.int .i64 0,Value.int .i64 0,Value.int .i64 0,Value.int .i64 0,Value.int .i64 0,Value.int .i64 0,Value.int .i64 0,Value.int .i64 0,Value.int .i64 0,Value.int .i64 0,Value.int .i64 0,Value.int .i64 0] 155)).alloc (.cells #[Value.int .i64 0,Value.int .i64 0,Value.int .i64 0,Value.int .i64 0,Value.int .i64 0,Value.int .i64 0,Value.int .i64 0,Value.int .i64 0,Value.int .i64 0,Value.int .i64 0,Value.int .i64 0,Value.int .i64 0,Value.int .i64 0,Value.int .i64 0,Value.int .i64 0,Value.int .i64 0] 155):=⟨_,rfl⟩;have jA:(#[Value.int .i64 0,Value.int .i64 0,Value.int .i64 0,Value.int .i64 0,Value.int .i64 0,Value.int .i64 0,Value.int .i64 0,Value.int .i64 0,Value.int .i64 0,Value.int .i64 0,Value.int .i64 0,Value.int .i64 0,Value.int .i64 0,Value.int .i64 0,Value.int .i64 0,Value.int .i64 0]:Array Value)=zp (fun _=>0):=rfl;have hb:Below w.heap.size w W:=by rw[hW];exact zA (zA (zC _ _) (zC _ _)) (zC _ _)
 have Hx:Hid (yR W w.heap.size (.int .i64 s.zRi) (.slice a s.kn c) (.string s.data)):=by rw[hW];exact((yR.zRZ w _ _ _ _).zRX (zC _ _)).zRX (zC _ _)
 have bA:=zHA w (.cells #[.int .i64 s.zRi,.slice a s.kn c,.string s.data] 127) (.cells #[Value.int .i64 0,Value.int .i64 0,Value.int .i64 0,Value.int .i64 0,Value.int .i64 0,Value.int .i64 0,Value.int .i64 0,Value.int .i64 0,Value.int .i64 0,Value.int .i64 0,Value.int .i64 0,Value.int .i64 0,Value.int .i64 0,Value.int .i64 0,Value.int .i64 0,Value.int .i64 0] 155) (.cells #[Value.int .i64 0,Value.int .i64 0,Value.int .i64 0,Value.int .i64 0,Value.int .i64 0,Value.int .i64 0,Value.int .i64 0,Value.int .i64 0,Value.int .i64 0,Value.int .i64 0,Value.int .i64 0,Value.int .i64 0,Value.int .i64 0,Value.int .i64 0,Value.int .i64 0,Value.int .i64 0] 155);rw[<-hW]at bA;have HR:Hid (W.heap[w.heap.size+1]?=some (.cells (zp fun _=>0) 155 (0,0))):=bA.1;have HG:Hid (W.heap[w.heap.size+1+1]?=some (.cells (zp fun _=>0) 155 (0,0))):=bA.2.1;have kA:w.heap.size+1+1<W.heap.size:=bA.2.2;clear bA;have HC:Hid (s.kn=0\/(s.kn=8/\∃b off,a=some ⟨b,off,none⟩/\∀i,i<s.kn->W.cell? ⟨b,off+i*2,none⟩=some (.int .i64 (s.ks i))/\W.cell? ⟨b,off+i*2+1,none⟩=some (.int .i64 (s.kb i)))):=by
  rcases Hk.out with h | h
  ·exact Or.inl h
  ·obtain⟨b,off,ha,_,_,k1⟩:=G1.out (by omega);exact Or.inr ⟨h,b,off,ha,fun i hi=>⟨(hb.cell (zD (k1 i hi).1)).trans (k1 i hi).1,(hb.cell (zD (k1 i hi).2)).trans (k1 i hi).2⟩⟩
 rw[<-hW];clear hW jA;obtain⟨⟨x0,x1⟩,⟨x2,x3⟩,⟨x4,x5⟩⟩:=Hx.out
 go_region_law (refine zIb rfl (.tmp 4) (.tmp 6) rfl (w.heap.size+1+1) a c s (by simp[Act.eval]) (by simp[Act.eval]) HG.out HC.out ?_;intro w1 cv iA dA)
 have eA:w1.heap[w.heap.size+1]?=some (.cells (zp fun _=>0) 155 (0,0)):=(dA.block _ (by show _<W.heap.size;omega) (by omega)).trans HR.out;have fA:Hid (w1.heap[w.heap.size+1]?=some (.cells (zp fun _=>0) 155 (0,0))):=eA;have gA:Below w.heap.size w w1:=hb.drew.trans (dA.zRX (by show _<=W.heap.size;omega) (by intro k hk;omega));clear eA dA x0 x1 x2 x3 x4 x5;have cA:(Tryz.prog.info? 155).map (·.size)=some (qF s).size:=by rw[qF,qB];exact zBy
 have aA:Hid ((Tryz.prog.info? 155).map (·.size)=some (qF s).size):=cA;clear cA;go_wp2_with (first
  | (refine wpList_load_row rfl 155 (.tmp 3) rfl (w.heap.size+1+1) rfl 155 (qF s) (0,0) _ iA.out zHM rfl aA.out ?_)
  | (refine wpList_store_row rfl 155 (.tmp 2) (.tmp 8) rfl (w.heap.size+1) (qF s) rfl rfl 155 (zp fun _=>0) fA.out aA.out (by rw[qF,qB,qB]) (zAq _) ?_))
 refine bodyPost_ret (v:=.agg (qF s)) (results_cell_row (P:=Tryz.prog) (ty:=155) Tryz.results162 _ _ (w.heap.size+1) 155 (qF s) (0,0) _ rfl (setRow_heap _ _ _ _ _ _ fA.out) zHM rfl aA.out) rfl ⟨rfl,?_⟩;exact below_setRow gA (by omega) _
def zAX(n:Nat)(f:Nat->zL)(b ks kb rs rb:Int):Prop:=
 ∃ps pb,zBg n f ks ps pb/\(((zCM ks kb 0 0\/b<pb)/\rs=0/\rb=0)\/(¬(zCM ks kb 0 0\/b<pb)/\rs=ps/\rb=pb))
theorem zKU(v:Value)(n lo hi:Nat)(f:Nat->zL)(ks kb b:Int)(w:World)(h1:qA w lo hi v n f) :
  Calls Tryz.prog 221 #[v,.agg #[.int .i64 ks,.int .i64 kb],.int .i64 b] w fun e w'=>(∃rs rb,e = .returned (.agg #[.int .i64 rs,.int .i64 rb])/\zAX n f b ks kb rs rb)/\Below w.heap.size w w':=by
 have Hi:Hid (qA w lo hi v n f):=h1;obtain⟨m1,a,c,rfl,mc,g1⟩:=h1;clear g1;have eA:Hid (Below w.heap.size w ((w.alloc (.cells #[.int .i64 ks,.int .i64 kb] 61)).alloc (.cells #[.int .i64 0,.int .i64 0] 61))):=zA (zC _ _) (zC _ _);go_enter Tryz.func221,Tryz.ntmps221;go_wp2_with fail;refine(zEx _ n lo hi f _ _ (Hi.out.zRX eA.out)).mono ?_;rintro e w1 ⟨⟨ps,pb,rfl,hp⟩,bA⟩;have Hp:Hid (zBg n f ks ps pb):=hp;have HX:Hid (zc w1 w.heap.size (.int .i64 ks) (.int .i64 kb)):=((zc.zRZ w _ _ _).zRX (zC _ _)).zRX bA;have HR:Hid (zc w1 (w.heap.size+1) (.int .i64 0) (.int .i64 0)):=by
  have:=(zc.zRZ (w.alloc (.cells #[.int .i64 ks,.int .i64 kb] 61)) (.int .i64 0) (.int .i64 0) 61).zRX bA;rw[World.size_alloc]at this;exact this
 have gA:=zA eA.out bA;have hz:w.heap.size<w1.heap.size:=HX.out.1.lt;have iA:w.heap.size+1<w1.heap.size:=HR.out.1.lt;clear hp bA;obtain⟨⟨x0,x1⟩,⟨x2,x3⟩⟩:=HX.out;obtain⟨⟨y0,y1⟩,⟨y2,y3⟩⟩:=HR.out;have HY:=fun u0 u1=>(HR.out.put u0 u1).zRX (zC _ (.cells #[.int .i64 ps,.int .i64 pb] 61))
 have cA:Hid (∀u0 u1,zc (((w1.setCell ⟨w.heap.size+1,0,none⟩ u0).setCell ⟨w.heap.size+1,1,none⟩ u1).alloc (.cells #[.int .i64 ps,.int .i64 pb] 61)) (w.heap.size+1) u0 u1):=HY;clear HY;have dA:Hid (∀u0 u1,Below w.heap.size w (((w1.setCell ⟨w.heap.size+1,0,none⟩ u0).setCell ⟨w.heap.size+1,1,none⟩ u1).alloc (.cells #[.int .i64 ps,.int .i64 pb] 61))):=fun u0 u1=>((gA.setCell (by show _<=w.heap.size+1;omega) _).setCell (by show _<=w.heap.size+1;omega) _).alloc (by simp;omega) _
 by_cases aA:zCM ks kb 0 0
 ·obtain⟨rfl,rfl⟩:=aA;have HK:Hid (zAX n f b 0 0 0 0):=⟨ps,pb,Hp.out,Or.inl ⟨Or.inl ⟨rfl,rfl⟩,rfl,rfl⟩⟩;go_wp2;have hy:=cA.out (.int .i64 0) (.int .i64 0);refine bodyPost_ret (v:=.agg #[.int .i64 0,.int .i64 0]) (by simp[results,Tryz.results221,go_sem,hy.1.1,hy.2.1]) rfl ⟨⟨_,_,rfl,HK.out⟩,dA.out _ _⟩
 ·have HN:Hid (¬zCM ks kb 0 0):=aA;have e0:(ks == 0)=false\/(ks == 0)=true/\(kb == 0)=false:=by
   by_cases h:ks=0
   ·right;refine⟨by simp[h],?_⟩;have:kb≠0:=fun h'=>aA ⟨h,h'⟩
    simp[this]
   ·left;simp[h]
  clear aA;by_cases fA:b<pb
  ·have HK:Hid (zAX n f b ks kb 0 0):=⟨ps,pb,Hp.out,Or.inl ⟨Or.inr fA,rfl,rfl⟩⟩;have hy:=cA.out (.int .i64 0) (.int .i64 0);have Hy:Hid (zc (((w1.setCell ⟨w.heap.size+1,0,none⟩ (.int .i64 0)).setCell ⟨w.heap.size+1,1,none⟩ (.int .i64 0)).alloc (.cells #[.int .i64 ps,.int .i64 pb] 61)) (w.heap.size+1) (.int .i64 0) (.int .i64 0)):=hy;clear hy;rcases e0 with e0 | ⟨e0,e1⟩
   all_goals
    go_wp2;have hy:=Hy.out;refine bodyPost_ret (v:=.agg #[.int .i64 0,.int .i64 0]) (by simp[results,Tryz.results221,go_sem,hy.1.1,hy.2.1]) rfl ⟨⟨_,_,rfl,HK.out⟩,dA.out _ _⟩
  ·have HK:Hid (zAX n f b ks kb ps pb):=⟨ps,pb,Hp.out,Or.inr ⟨fun h=>by rcases h with h | h;exact HN.out h;exact fA h,rfl,rfl⟩⟩;rcases e0 with e0 | ⟨e0,e1⟩
   all_goals
    go_wp2;have hy:=cA.out (.int .i64 ps) (.int .i64 pb);refine bodyPost_ret (v:=.agg #[.int .i64 ps,.int .i64 pb]) (by simp[results,Tryz.results221,go_sem,hy.1.1,hy.2.1]) rfl ⟨⟨_,_,rfl,HK.out⟩,dA.out _ _⟩
def zAK(w:World)(v:Value)(n:Nat)(f:Nat->ByteArray):Prop:=
 n<=1000/\∃a c,v = .slice a n c/\(∀i,i<n->(f i).size<=maxLen)/\(0<n->∃b off,a=some ⟨b,off,none⟩/\∀i,i<n->w.cell? ⟨b,off+i,none⟩=some (.string (f i)))
theorem zAK.zRX{w w':World}{v:Value}{n:Nat}{f:Nat->ByteArray}(h:zAK w v n f)(t:Below w.heap.size w w'):zAK w' v n f:=by
 obtain⟨m,a,c,hv,hs,hx⟩:=h;refine⟨m,a,c,hv,hs,fun h0=>?_⟩;obtain⟨b,off,ha,hc⟩:=hx h0;exact⟨b,off,ha,fun i hi=>(t.cell (zD (hc i hi))).trans (hc i hi)⟩
theorem zAK.cells{w:World}{a:Option Addr}{c n:Nat}{f:Nat->ByteArray}(h:zAK w (.slice a n c) n f){i:Nat}(hi:i<n):∃b off,a=some ⟨b,off,none⟩/\w.cell? ⟨b,off+i,none⟩=some (.string (f i)):=by
 obtain⟨m,a0,c0,hv,hs,hx⟩:=h;simp only[Value.slice.injEq,true_and]at hv;obtain⟨rfl,rfl⟩:=hv;obtain⟨b,off,ha,hc⟩:=hx (by omega);exact⟨b,off,ha,hc i hi⟩
theorem zOG(s:ByteArray)(w:World)(hs:s.size<=maxLen):Calls Tryz.prog 164 #[.string s] w fun e w'=>zG (8000<s.size) e/\Below w.heap.size w w':=by
 unfold maxLen at hs;by_cases h:8000<s.size
 ·have h':(8000:Int)<(s.size:Int):=(by omega);have H:=zd h;clear h;go_enter Tryz.func164,Tryz.ntmps164;go_wp2;go_ret;exact⟨zG.yes H.out,Below.refl _ _⟩
 ·have h':¬(8000:Int)<(s.size:Int):=(by omega);have H:=zd h;clear h;go_enter Tryz.func164,Tryz.ntmps164;go_wp2;go_ret;exact⟨zG.no H.out,Below.refl _ _⟩
theorem zP1(s:ByteArray)(w:World)(hs:s.size<=maxLen):Calls Tryz.prog 166 #[.string s] w fun e w'=>zG (¬yI s) e/\Below w.heap.size w w':=by
 go_enter Tryz.func166,Tryz.ntmps166;go_wp2_with fail;refine(zDf s w hs).mono ?_;rintro e w1 ⟨⟨t,rfl,ht⟩,rfl⟩;by_cases hf:yI s
 ·obtain rfl:t=true:=ht.2 hf;have HF:=zd hf;clear ht hf;go_wp2;go_ret;exact⟨zG.no (fun h=>h HF.out),Below.refl _ _⟩
 ·obtain rfl:t=false:=zQ ht hf;have HF:=zd hf;clear ht hf;go_wp2;go_ret;exact⟨zG.yes HF.out,Below.refl _ _⟩
theorem zK8(v:Value)(n:Nat)(f:Nat->ByteArray)(w:World)(h:zAK w v n f) :
  Calls Tryz.prog 201 #[v,.func (.func 164) #[] #[]] w fun e w'=>((∃i:Nat,i<n/\8000<(f i).size/\e = .returned (.int .i64 (i:Int)))\/((∀j,j<n->¬8000<(f j).size)/\e = .returned (.int .i64 (-1))))/\Below w.heap.size w w':=by
 have Hp:=zd h;obtain⟨m1,a,c,rfl,hs,-⟩:=h;have Hs:=zd hs;clear hs;go_enter Tryz.func201,Tryz.ntmps201;go_wp2
 go_loopw [8] (fun i wr=>∃k:Nat,k<=n/\i = .int .i64 k/\(∀j,j<k->¬8000<(f j).size)/\Below w.heap.size w wr) (fun i _=>n - (intOf i).toNat)
 case atStart=>exact⟨0,Nat.zero_le _,rfl,fun j hj=>absurd hj (Nat.not_lt_zero _),Below.refl _ _⟩
 case round=>
  obtain⟨k,hk,rfl,aA,hb⟩:=hrel;have bA:=zd aA;clear aA;by_cases cA:k<n
  ·have fA:(k:Int)<(n:Int):=(by omega);obtain⟨b,off,rfl,q0⟩:=(Hp.out.zRX hb).cells cA;have gA:=Hs.out k cA;go_wp2_with fail;refine(zOG (f k) _ gA).mono ?_;rintro e w1 ⟨⟨t,rfl,ht⟩,dA⟩;have eA:=zA hb dA;clear dA q0;by_cases hf:8000<(f k).size
   ·obtain rfl:t=true:=ht.2 hf;have HF:=zd hf;clear ht hf;go_wp2;go_ret;exact⟨Or.inl ⟨k,cA,HF.out,rfl⟩,eA⟩
   ·obtain rfl:t=false:=zQ ht hf;have HF:=zd hf;clear ht hf;go_wp2;go_roundw
    case rel=>
     refine⟨k+1,by omega,by go_num,fun j hj=>?_,eA⟩;by_cases e:j=k
     ·subst e;exact HF.out
     ·exact bA.out j (by omega)
    case measure=>simp[intOf];omega
  ·obtain rfl:k=n:=(by omega);go_wp2;go_ret;exact⟨Or.inr ⟨bA.out,rfl⟩,hb⟩
theorem zOM(v:Value)(n:Nat)(f:Nat->ByteArray)(w:World)(h:zAK w v n f) :
  Calls Tryz.prog 163 #[v,.func (.func 164) #[] #[]] w fun e w'=>zG (∃i,i<n/\8000<(f i).size) e/\Below w.heap.size w w':=by
 have Hp:=zd h;obtain⟨m1,a,c,rfl,hs,-⟩:=h;go_enter Tryz.func163,Tryz.ntmps163;go_wp2_with fail;refine(zK8 _ n f w Hp.out).mono ?_;rintro e w1 ⟨hr,aA⟩;rcases hr with⟨i,hi,hP,rfl⟩ | ⟨bA,rfl⟩
 ·have HP:=zd (show ∃i,i<n/\8000<(f i).size from⟨i,hi,hP⟩);have h0:(0:Int)<=(i:Int):=(by omega);clear hP;go_wp2;go_ret;exact⟨zG.yes HP.out,aA⟩
 ·have HP:=zd bA;clear bA;go_wp2;go_ret;exact⟨zG.no fun ⟨i,hi,hq⟩=>HP.out i hi hq,aA⟩
theorem zLW(v:Value)(n:Nat)(f:Nat->ByteArray)(w:World)(h:zAK w v n f) :
  Calls Tryz.prog 201 #[v,.func (.func 166) #[] #[]] w fun e w'=>((∃i:Nat,i<n/\¬yI (f i)/\e = .returned (.int .i64 (i:Int)))\/((∀j,j<n->¬¬yI (f j))/\e = .returned (.int .i64 (-1))))/\Below w.heap.size w w':=by
 have Hp:=zd h;obtain⟨m1,a,c,rfl,hs,-⟩:=h;have Hs:=zd hs;clear hs;go_enter Tryz.func201,Tryz.ntmps201;go_wp2
 go_loopw [8] (fun i wr=>∃k:Nat,k<=n/\i = .int .i64 k/\(∀j,j<k->¬¬yI (f j))/\Below w.heap.size w wr) (fun i _=>n - (intOf i).toNat)
 case atStart=>exact⟨0,Nat.zero_le _,rfl,fun j hj=>absurd hj (Nat.not_lt_zero _),Below.refl _ _⟩
 case round=>
  obtain⟨k,hk,rfl,aA,hb⟩:=hrel;have bA:=zd aA;clear aA;by_cases cA:k<n
  ·have fA:(k:Int)<(n:Int):=(by omega);obtain⟨b,off,rfl,q0⟩:=(Hp.out.zRX hb).cells cA;have gA:=Hs.out k cA;go_wp2_with fail;refine(zP1 (f k) _ gA).mono ?_;rintro e w1 ⟨⟨t,rfl,ht⟩,dA⟩;have eA:=zA hb dA;clear dA q0;by_cases hf:¬yI (f k)
   ·obtain rfl:t=true:=ht.2 hf;have HF:=zd hf;clear ht hf;go_wp2;go_ret;exact⟨Or.inl ⟨k,cA,HF.out,rfl⟩,eA⟩
   ·obtain rfl:t=false:=zQ ht hf;have HF:=zd hf;clear ht hf;go_wp2;go_roundw
    case rel=>
     refine⟨k+1,by omega,by go_num,fun j hj=>?_,eA⟩;by_cases e:j=k
     ·subst e;exact HF.out
     ·exact bA.out j (by omega)
    case measure=>simp[intOf];omega
  ·obtain rfl:k=n:=(by omega);go_wp2;go_ret;exact⟨Or.inr ⟨bA.out,rfl⟩,hb⟩
theorem zN1(v:Value)(n:Nat)(f:Nat->ByteArray)(w:World)(h:zAK w v n f) :
  Calls Tryz.prog 163 #[v,.func (.func 166) #[] #[]] w fun e w'=>zG (∃i,i<n/\¬yI (f i)) e/\Below w.heap.size w w':=by
 have Hp:=zd h;obtain⟨m1,a,c,rfl,hs,-⟩:=h;go_enter Tryz.func163,Tryz.ntmps163;go_wp2_with fail;refine(zLW _ n f w Hp.out).mono ?_;rintro e w1 ⟨hr,aA⟩;rcases hr with⟨i,hi,hP,rfl⟩ | ⟨bA,rfl⟩
 ·have HP:=zd (show ∃i,i<n/\¬yI (f i)from⟨i,hi,hP⟩);have h0:(0:Int)<=(i:Int):=(by omega);clear hP;go_wp2;go_ret;exact⟨zG.yes HP.out,aA⟩
 ·have HP:=zd bA;clear bA;go_wp2;go_ret;exact⟨zG.no fun ⟨i,hi,hq⟩=>HP.out i hi hq,aA⟩
structure qD where
 name:ByteArray
 origin:Int
 zRh:Int
 rs:Int
 rb:Int
 dn:Nat
 ds:Nat->Int
 db:Nat->Int
structure zl where
 id:Int
 name:ByteArray
 set:ByteArray
 zRh:Int
 time:Int
 rs:Int
 rb:Int
 dn:Nat
 ds:Nat->Int
 db:Nat->Int
structure zH where
 zRd:zI
 time:Int
 next:Int
 sn:Nat
 zRg:Nat->qD
 pn:Nat
 zRe:Nat->zl
structure zBe (w:World) (b o lo hi:Nat) (vd:Value) (s:qD):Prop where
 c0:w.cell? ⟨b,o,none⟩=some (.string s.name)
 c1:w.cell? ⟨b,o+1,none⟩=some (.int .i64 s.origin)
 c2:w.cell? ⟨b,o+2,none⟩=some (.int .i64 s.zRh)
 c3:w.cell? ⟨b,o+3,none⟩=some (.int .i64 s.rs)
 c4:w.cell? ⟨b,o+4,none⟩=some (.int .i64 s.rb)
 c5:w.cell? ⟨b,o+5,none⟩=some vd
 zRl:zU w lo hi vd s.dn s.ds s.db
 zRn:s.name.size<=maxLen
theorem zBe.zRX{w w':World}{b o lo hi:Nat}{vd:Value}{s:qD}(h:zBe w b o lo hi vd s)(t:Below w.heap.size w w'):zBe w' b o lo hi vd s:=
 ⟨(t.cell (zD h.c0)).trans h.c0,(t.cell (zD h.c1)).trans h.c1,(t.cell (zD h.c2)).trans h.c2,(t.cell (zD h.c3)).trans h.c3,(t.cell (zD h.c4)).trans h.c4,(t.cell (zD h.c5)).trans h.c5,h.zRl.zRX t,h.zRn⟩
structure zAo (w:World) (b o lo hi:Nat) (vd:Value) (s:zl):Prop where
 c0:w.cell? ⟨b,o,none⟩=some (.int .i64 s.id)
 c1:w.cell? ⟨b,o+1,none⟩=some (.string s.name)
 c2:w.cell? ⟨b,o+2,none⟩=some (.string s.set)
 c3:w.cell? ⟨b,o+3,none⟩=some (.int .i64 s.zRh)
 c4:w.cell? ⟨b,o+4,none⟩=some (.int .i64 s.time)
 c5:w.cell? ⟨b,o+5,none⟩=some (.int .i64 s.rs)
 c6:w.cell? ⟨b,o+6,none⟩=some (.int .i64 s.rb)
 c7:w.cell? ⟨b,o+7,none⟩=some vd
 zRl:zU w lo hi vd s.dn s.ds s.db
 zRn:s.name.size<=maxLen/\s.set.size<=maxLen
theorem zAo.zRX{w w':World}{b o lo hi:Nat}{vd:Value}{s:zl}(h:zAo w b o lo hi vd s)(t:Below w.heap.size w w'):zAo w' b o lo hi vd s:=
 ⟨(t.cell (zD h.c0)).trans h.c0,(t.cell (zD h.c1)).trans h.c1,(t.cell (zD h.c2)).trans h.c2,(t.cell (zD h.c3)).trans h.c3,(t.cell (zD h.c4)).trans h.c4,(t.cell (zD h.c5)).trans h.c5,(t.cell (zD h.c6)).trans h.c6,(t.cell (zD h.c7)).trans h.c7,h.zRl.zRX t,h.zRn⟩
def yW(w:World)(lo hi:Nat)(v:Value)(n:Nat)(f:Nat->qD):Prop:=
 n<=maxLen/\∃a cap,v = .slice a n cap/\n<=cap/\(0<n->∃b off,a=some ⟨b,off,none⟩/\lo<=b/\b<hi/\∀i,i<n->∃vd,zBe w b (off+i*6) lo hi vd (f i))
def qw(w:World)(lo hi:Nat)(v:Value)(n:Nat)(f:Nat->zl):Prop:=
 n<=maxLen/\∃a cap,v = .slice a n cap/\n<=cap/\(0<n->∃b off,a=some ⟨b,off,none⟩/\lo<=b/\b<hi/\∀i,i<n->∃vd,zAo w b (off+i*8) lo hi vd (f i))
theorem yW.zRX{w w':World}{lo hi:Nat}{v:Value}{n:Nat}{f:Nat->qD}(h:yW w lo hi v n f)(t:Below w.heap.size w w'):yW w' lo hi v n f:=by
 obtain⟨h0,a,aA,hv,bA,hc⟩:=h;refine⟨h0,a,aA,hv,bA,fun hn=>?_⟩;obtain⟨b,off,ha,h1,h2,h3⟩:=hc hn;refine⟨b,off,ha,h1,h2,fun i hi=>?_⟩;obtain⟨vd,hs⟩:=h3 i hi;exact⟨vd,hs.zRX t⟩
theorem qw.zRX{w w':World}{lo hi:Nat}{v:Value}{n:Nat}{f:Nat->zl}(h:qw w lo hi v n f)(t:Below w.heap.size w w'):qw w' lo hi v n f:=by
 obtain⟨h0,a,aA,hv,bA,hc⟩:=h;refine⟨h0,a,aA,hv,bA,fun hn=>?_⟩;obtain⟨b,off,ha,h1,h2,h3⟩:=hc hn;refine⟨b,off,ha,h1,h2,fun i hi=>?_⟩;obtain⟨vd,hs⟩:=h3 i hi;exact⟨vd,hs.zRX t⟩
theorem yW.cells{w:World}{lo hi:Nat}{a:Option Addr}{n c:Nat}{f:Nat->qD}(h:yW w lo hi (.slice a n c) n f){i:Nat}(hi':i<n):∃b off vd,a=some ⟨b,off,none⟩/\zBe w b (off+i*6) lo hi vd (f i):=by
 obtain⟨h0,a2,aA,hv,bA,hx⟩:=h;simp only[Value.slice.injEq,true_and]at hv;obtain⟨rfl,rfl⟩:=hv;obtain⟨b,off,ha,h1,h2,h3⟩:=hx (by omega);obtain⟨vd,hs⟩:=h3 i hi';exact⟨b,off,vd,ha,hs⟩
theorem qw.cells{w:World}{lo hi:Nat}{a:Option Addr}{n c:Nat}{f:Nat->zl}(h:qw w lo hi (.slice a n c) n f){i:Nat}(hi':i<n):∃b off vd,a=some ⟨b,off,none⟩/\zAo w b (off+i*8) lo hi vd (f i):=by
 obtain⟨h0,a2,aA,hv,bA,hx⟩:=h;simp only[Value.slice.injEq,true_and]at hv;obtain⟨rfl,rfl⟩:=hv;obtain⟨b,off,ha,h1,h2,h3⟩:=hx (by omega);obtain⟨vd,hs⟩:=h3 i hi';exact⟨b,off,vd,ha,hs⟩
structure zk (w:World) (lo hi:Nat) (v0 v1 v2 v3:Value) (W:zH):Prop where
 zRd:zu w lo hi v0 v1 W.zRd
 zRg:yW w lo hi v2 W.sn W.zRg
 zRe:qw w lo hi v3 W.pn W.zRe
theorem zk.zRX{w w':World}{lo hi:Nat}{v0 v1 v2 v3:Value}{W:zH}(h:zk w lo hi v0 v1 v2 v3 W)(t:Below w.heap.size w w'):zk w' lo hi v0 v1 v2 v3 W:=⟨h.zRd.zRX t,h.zRg.zRX t,h.zRe.zRX t⟩
abbrev zz(v0 v1 v2 v3:Value)(W:zH):Value:=.agg #[v0,v1,.int .i64 W.time,.int .i64 W.next,v2,v3]
def qs(W:zH)(id:Int)(k:Nat):Prop:=k<W.pn/\(W.zRe k).id=id/\∀j,j<k->(W.zRe j).id≠id
def zF5(W:zH)(name:ByteArray)(k:Nat):Prop:=k<W.sn/\(W.zRg k).name=name/\∀j,j<k->(W.zRg j).name≠name
theorem qs.uniq{W:zH}{id:Int}{i j:Nat}(h:qs W id i)(h':qs W id j):i=j:=by
 rcases Nat.lt_trichotomy i j with e | e | e
 ·exact absurd h.2.1 (h'.2.2 i e)
 ·exact e
 ·exact absurd h'.2.1 (h.2.2 j e)
theorem zF5.uniq{W:zH}{name:ByteArray}{i j:Nat}(h:zF5 W name i)(h':zF5 W name j):i=j:=by
 rcases Nat.lt_trichotomy i j with e | e | e
 ·exact absurd h.2.1 (h'.2.2 i e)
 ·exact e
 ·exact absurd h'.2.1 (h.2.2 j e)
def zi(w:World)(b:Nat)(v0 v1 v2 v3 v4 v5:Value):Prop:=zW w b 0 v0/\zW w b 1 v1/\zW w b 2 v2/\zW w b 3 v3/\zW w b 4 v4/\zW w b 5 v5
theorem zi.zRX{w w':World}{b:Nat}{v0 v1 v2 v3 v4 v5:Value}(h:zi w b v0 v1 v2 v3 v4 v5)(t:Below w.heap.size w w'):zi w' b v0 v1 v2 v3 v4 v5:=⟨h.1.zRX t,h.2.1.zRX t,h.2.2.1.zRX t,h.2.2.2.1.zRX t,h.2.2.2.2.1.zRX t,h.2.2.2.2.2.zRX t⟩
theorem zi.zRf{S:Nat->Prop}{w w':World}{b:Nat}{v0 v1 v2 v3 v4 v5:Value}(h:zi w b v0 v1 v2 v3 v4 v5)(t:zF S w w')(hs:¬S b):zi w' b v0 v1 v2 v3 v4 v5:=⟨h.1.zRf t hs,h.2.1.zRf t hs,h.2.2.1.zRf t hs,h.2.2.2.1.zRf t hs,h.2.2.2.2.1.zRf t hs,h.2.2.2.2.2.zRf t hs⟩
theorem zi.zRZ(w:World)(v0 v1 v2 v3 v4 v5:Value)(t:TypeId):zi (w.alloc (.cells #[v0,v1,v2,v3,v4,v5] t)) w.heap.size v0 v1 v2 v3 v4 v5:=by
 have hb:(w.alloc (.cells #[v0,v1,v2,v3,v4,v5] t)).heap[w.heap.size]?=some (.cells #[v0,v1,v2,v3,v4,v5] t):=heap_alloc_new _ _;exact⟨zJ hb rfl,zJ hb rfl,zJ hb rfl,zJ hb rfl,zJ hb rfl,zJ hb rfl⟩
abbrev put6(w:World)(b:Nat)(u0 u1 u2 u3 u4 u5:Value):World:=(((((w.setCell ⟨b,0,none⟩ u0).setCell ⟨b,1,none⟩ u1).setCell ⟨b,2,none⟩ u2).setCell ⟨b,3,none⟩ u3).setCell ⟨b,4,none⟩ u4).setCell ⟨b,5,none⟩ u5
theorem zi.put{w:World}{b:Nat}{v0 v1 v2 v3 v4 v5:Value}(h:zi w b v0 v1 v2 v3 v4 v5)(u0 u1 u2 u3 u4 u5:Value):zi (put6 w b u0 u1 u2 u3 u4 u5) b u0 u1 u2 u3 u4 u5:=by
 obtain⟨h0,h1,h2,h3,h4,h5⟩:=h;refine⟨?_,?_,?_,?_,?_,?_⟩
 ·exact(((((h0.set _).zRY _ (Or.inr (by omega))).zRY _ (Or.inr (by omega))).zRY _ (Or.inr (by omega))).zRY _ (Or.inr (by omega))).zRY _ (Or.inr (by omega))
 ·exact(((((h1.zRY _ (Or.inr (by omega))).set _).zRY _ (Or.inr (by omega))).zRY _ (Or.inr (by omega))).zRY _ (Or.inr (by omega))).zRY _ (Or.inr (by omega))
 ·exact(((((h2.zRY _ (Or.inr (by omega))).zRY _ (Or.inr (by omega))).set _).zRY _ (Or.inr (by omega))).zRY _ (Or.inr (by omega))).zRY _ (Or.inr (by omega))
 ·exact(((((h3.zRY _ (Or.inr (by omega))).zRY _ (Or.inr (by omega))).zRY _ (Or.inr (by omega))).set _).zRY _ (Or.inr (by omega))).zRY _ (Or.inr (by omega))
 ·exact(((((h4.zRY _ (Or.inr (by omega))).zRY _ (Or.inr (by omega))).zRY _ (Or.inr (by omega))).zRY _ (Or.inr (by omega))).set _).zRY _ (Or.inr (by omega))
 ·exact(((((h5.zRY _ (Or.inr (by omega))).zRY _ (Or.inr (by omega))).zRY _ (Or.inr (by omega))).zRY _ (Or.inr (by omega))).zRY _ (Or.inr (by omega))).set _
theorem zF.put6(w:World)(b:Nat)(u0 u1 u2 u3 u4 u5:Value):zF (fun k=>k=b) w (put6 w b u0 u1 u2 u3 u4 u5):=
 (((((zF.put w b 0 u0).trans (zF.put _ b 1 u1)).trans (zF.put _ b 2 u2)).trans (zF.put _ b 3 u3)).trans (zF.put _ b 4 u4)).trans (zF.put _ b 5 u5)
theorem zB{P:Prop}(h:P):Hid P:=h
def zF9(n:Nat)(P:Nat->Prop)(r:Int):Prop:=(∃k:Nat,k<n/\P k/\(∀j,j<k->¬P j)/\r=k)\/((∀j,j<n->¬P j)/\r = -1)
theorem qI(v0 v1 v2 v3:Value)(lo hi:Nat)(W:zH)(x:Int)(w:World)(h:zk w lo hi v0 v1 v2 v3 W) :
  Calls Tryz.prog 49 #[zz v0 v1 v2 v3 W,.int .i64 x] w fun e w'=>∃r:Int,e = .returned (.int .i64 r)/\zF9 W.pn (fun k=>(W.zRe k).id=x) r/\Below w.heap.size w w':=by
 have Hp:=zB h.zRe;obtain⟨m1,a,c,rfl,mc,_⟩:=id h.zRe;unfold maxLen at m1;clear h;have ha:=zC w (.cells #[v0,v1,.int .i64 W.time,.int .i64 W.next,v2,.slice a W.pn c] 37);have HB:=zB (zi.zRZ w v0 v1 (.int .i64 W.time) (.int .i64 W.next) v2 (.slice a W.pn c) 37);go_enter Tryz.func49,Tryz.ntmps49;go_wp2
 go_loopw [5] (fun i wr=>∃k:Nat,k<=W.pn/\i = .int .i64 k/\(∀j,j<k->¬(W.zRe j).id=x)/\zi wr w.heap.size v0 v1 (.int .i64 W.time) (.int .i64 W.next) v2 (.slice a W.pn c)/\Below w.heap.size w wr) (fun i _=>W.pn - (intOf i).toNat)
 case atStart=>exact⟨0,Nat.zero_le _,rfl,fun j hj=>absurd hj (Nat.not_lt_zero _),HB.out,ha⟩
 case round=>
  obtain⟨k,hk,rfl,bA,hX,hb⟩:=hrel;have aA:=zB bA;have HX:=zB hX;clear bA hX;obtain⟨⟨x0,x1⟩,⟨x2,x3⟩,⟨x4,x5⟩,⟨x6,x7⟩,⟨x8,x9⟩,⟨eA,fA⟩⟩:=HX.out;by_cases cA:k<W.pn
  ·have dA:(k:Int)<(W.pn:Int):=(by omega);obtain⟨b,off,vd,rfl,hs⟩:=(Hp.out.zRX hb).cells cA;have q0:=hs.c0;clear hs;by_cases he:(W.zRe k).id=x
   ·have H:=zB he;rw[he]at q0;clear he;go_wp2;go_ret;exact⟨k,rfl,Or.inl ⟨k,cA,H.out,aA.out,rfl⟩,hb⟩
   ·have H:=zB he;have e0:((W.zRe k).id == x)=false:=(by simp[he]);clear he;go_wp2;go_roundw
    case rel=>
     refine⟨k+1,by omega,by go_num,?_,HX.out,hb⟩;intro j hj;by_cases e:j=k
     ·subst e;exact H.out
     ·exact aA.out j (by omega)
    case measure=>simp[intOf];omega
  ·obtain rfl:k=W.pn:=(by omega);go_wp2;go_ret;exact⟨-1,rfl,Or.inr ⟨aA.out,rfl⟩,hb⟩
theorem zIK(v0 v1 v2 v3:Value)(lo hi:Nat)(W:zH)(x:ByteArray)(w:World)(h:zk w lo hi v0 v1 v2 v3 W) :
  Calls Tryz.prog 27 #[zz v0 v1 v2 v3 W,.string x] w fun e w'=>∃r:Int,e = .returned (.int .i64 r)/\zF9 W.sn (fun k=>(W.zRg k).name=x) r/\Below w.heap.size w w':=by
 have Hp:=zB h.zRg;obtain⟨m1,a,c,rfl,mc,_⟩:=id h.zRg;unfold maxLen at m1;clear h;have ha:=zC w (.cells #[v0,v1,.int .i64 W.time,.int .i64 W.next,.slice a W.sn c,v3] 37);have HB:=zB (zi.zRZ w v0 v1 (.int .i64 W.time) (.int .i64 W.next) (.slice a W.sn c) v3 37);go_enter Tryz.func27,Tryz.ntmps27;go_wp2
 go_loopw [5] (fun i wr=>∃k:Nat,k<=W.sn/\i = .int .i64 k/\(∀j,j<k->¬(W.zRg j).name=x)/\zi wr w.heap.size v0 v1 (.int .i64 W.time) (.int .i64 W.next) (.slice a W.sn c) v3/\Below w.heap.size w wr) (fun i _=>W.sn - (intOf i).toNat)
 case atStart=>exact⟨0,Nat.zero_le _,rfl,fun j hj=>absurd hj (Nat.not_lt_zero _),HB.out,ha⟩
 case round=>
  obtain⟨k,hk,rfl,bA,hX,hb⟩:=hrel;have aA:=zB bA;have HX:=zB hX;clear bA hX;obtain⟨⟨x0,x1⟩,⟨x2,x3⟩,⟨x4,x5⟩,⟨x6,x7⟩,⟨x8,x9⟩,⟨eA,fA⟩⟩:=HX.out;by_cases cA:k<W.sn
  ·have dA:(k:Int)<(W.sn:Int):=(by omega);obtain⟨b,off,vd,rfl,hs⟩:=(Hp.out.zRX hb).cells cA;have q0:=hs.c0;clear hs;by_cases he:(W.zRg k).name=x
   ·have H:=zB he;rw[he]at q0;clear he;go_wp2;go_ret;exact⟨k,rfl,Or.inl ⟨k,cA,H.out,aA.out,rfl⟩,hb⟩
   ·have H:=zB he;have e0:((W.zRg k).name.toList == x.toList)=false:=zEm he;clear he;go_wp2;go_roundw
    case rel=>
     refine⟨k+1,by omega,by go_num,?_,HX.out,hb⟩;intro j hj;by_cases e:j=k
     ·subst e;exact H.out
     ·exact aA.out j (by omega)
    case measure=>simp[intOf];omega
  ·obtain rfl:k=W.sn:=(by omega);go_wp2;go_ret;exact⟨-1,rfl,Or.inr ⟨aA.out,rfl⟩,hb⟩
def zK4(W:zH)(x s b t:Int):Prop:=(∃k,x≠0/\qs W x k/\s=(W.zRe k).rs/\b=(W.zRe k).rb/\t=(W.zRe k).time)\/((x=0\/∀k,k<W.pn->(W.zRe k).id≠x)/\s=0/\b=0/\t=0)
theorem zAr(v0 v1 v2 v3:Value)(lo hi:Nat)(W:zH)(x:Int)(w:World)(h:zk w lo hi v0 v1 v2 v3 W) :
  Calls Tryz.prog 52 #[zz v0 v1 v2 v3 W,.int .i64 x] w fun e w'=>∃s b t:Int,e = .returned (.tuple #[.agg #[.int .i64 s,.int .i64 b],.int .i64 t])/\zK4 W x s b t/\Below w.heap.size w w':=by
 have Hp:=zB h;obtain⟨m1,a,c,rfl,mc,_⟩:=id h.zRe;unfold maxLen at m1;clear h;have ha:=zC w (.cells #[v0,v1,.int .i64 W.time,.int .i64 W.next,v2,.slice a W.pn c] 37);have hB:=zi.zRZ w v0 v1 (.int .i64 W.time) (.int .i64 W.next) v2 (.slice a W.pn c) 37;have dA:=zC (w.alloc (.cells #[v0,v1,.int .i64 W.time,.int .i64 W.next,v2,.slice a W.pn c] 37)) (.cells #[.int .i64 0,.int .i64 0] 61);have hR:=zc.zRZ (w.alloc (.cells #[v0,v1,.int .i64 W.time,.int .i64 W.next,v2,.slice a W.pn c] 37)) (.int .i64 0) (.int .i64 0) 61;have eA:=hB.zRX dA;have cA:=zA ha dA;have gA:(w.alloc (.cells #[v0,v1,.int .i64 W.time,.int .i64 W.next,v2,.slice a W.pn c] 37)).heap.size=w.heap.size+1:=World.size_alloc _ _;rw[gA]at hR;clear ha dA hB;go_enter Tryz.func52,Tryz.ntmps52;go_wp2_with fail;generalize ((w.alloc (.cells #[v0,v1,.int .i64 W.time,.int .i64 W.next,v2,.slice a W.pn c] 37)).alloc (.cells #[.int .i64 0,.int .i64 0] 61))=W0 at hR eA cA ⊢;refine(qI v0 v1 v2 _ lo hi W x W0 (Hp.out.zRX cA)).mono ?_;rintro e w1 ⟨r,rfl,hF,aA⟩;have fA:=hR.zRX aA;have iA:=eA.zRX aA;have bA:=zA cA aA;clear hR eA cA aA gA;have HR:=zB fA;have HX:=zB iA;clear fA iA;obtain⟨⟨y0,y1⟩,⟨y2,y3⟩⟩:=HR.out;obtain⟨⟨x0,x1⟩,⟨x2,x3⟩,⟨x4,x5⟩,⟨x6,x7⟩,⟨x8,x9⟩,⟨sA,tA⟩⟩:=HX.out;by_cases hx:x=0
 ·subst hx;clear hF;go_wp2;refine bodyPost_ret (v:=.tuple #[.agg #[.int .i64 0,.int .i64 0],.int .i64 0]) (by simp[results,Tryz.results52,go_sem,y0,y2]) rfl ⟨0,0,0,rfl,Or.inr ⟨Or.inl rfl,rfl,rfl,rfl⟩,?_⟩;exact(bA.setCell (by show w.heap.size<=w.heap.size+1;omega) _).setCell (by show w.heap.size<=w.heap.size+1;omega) _
 ·have Hx:=zB hx;have f0:(x == 0)=false:=(by simp[hx]);clear hx;rcases hF with⟨k,hk,hi',hm,rfl⟩ | ⟨hn,rfl⟩
  ·obtain⟨b,off,vd,rfl,hs⟩:=(Hp.out.zRe.zRX bA).cells hk;have q4:=hs.c4;have q5:=hs.c5;have q6:=hs.c6;have oA:(k:Int)<(W.pn:Int):=(by omega);have kA:b<w.heap.size:=by
    obtain⟨b2,lA,rA,e2,nA⟩:=Hp.out.zRe.cells hk;cases e2;exact zD nA.c0
   have pA:b≠w.heap.size+1:=(by omega);have mA:w.heap.size≠w.heap.size+1:=(by omega);have Hk:=zB (And.intro hi' hm);clear hs hi' hm kA;have jA:w.heap.size<=w.heap.size+1:=(by omega);generalize w.heap.size+1=R at *;go_wp2;go_region;go_wp2;refine bodyPost_ret (v:=.tuple #[.agg #[.int .i64 (W.zRe k).rs,.int .i64 (W.zRe k).rb],.int .i64 (W.zRe k).time]) (by simp[results,Tryz.results52,go_sem,y0,y2]) rfl ⟨_,_,_,rfl,Or.inl ⟨k,Hx.out,⟨hk,Hk.out.1,Hk.out.2⟩,rfl,rfl,rfl⟩,?_⟩;exact((bA.setCell jA _).setCell jA _).drew
  ·have Hn:=zB hn;clear hn;go_wp2;refine bodyPost_ret (v:=.tuple #[.agg #[.int .i64 0,.int .i64 0],.int .i64 0]) (by simp[results,Tryz.results52,go_sem,y0,y2]) rfl ⟨0,0,0,rfl,Or.inr ⟨Or.inr Hn.out,rfl,rfl,rfl⟩,?_⟩;exact(bA.setCell (by show w.heap.size<=w.heap.size+1;omega) _).setCell (by show w.heap.size<=w.heap.size+1;omega) _
open Go.Maps
def zCG(t:Int):Prop:=0<=t/\t<=1000000
def zFG(s b:Int):Prop:=0<=s/\s<=199/\1<=b/\b<=1000000
def zLy(n:Nat)(f:Nat->Int):Prop:=∀i,i<n->∀k,k<i->f k≠f i
def qm(n:Nat)(f g:Nat->Int):Prop:=n<=200/\(∀i,i<n->zFG (f i) (g i))/\zLy n f
def PIn(n:Nat)(f g:Nat->Int)(x y:Int):Prop:=∃j,j<n/\f j=x/\g j=y
def zEG(n:Nat)(f g:Nat->Int)(m:Nat)(f' g':Nat->Int):Prop:=qm n f g/\qm m f' g'/\n=m/\∀i,i<n->PIn m f' g' (f i) (g i)
theorem zLy.inj{n:Nat}{f:Nat->Int}(h:zLy n f){i k:Nat}(hi:i<n)(hk:k<n)(e:f i=f k):i=k:=by
 rcases Nat.lt_trichotomy i k with h1 | h1 | h1
 ·exact absurd e (h k hk i h1)
 ·exact h1
 ·exact absurd e.symm (h i hi k h1)
theorem zNc:∀(n m:Nat) (h:Nat->Nat),(∀i,i<n->h i<m)->(∀i k,i<n->k<n->h i=h k->i=k)->n<=m
 | 0,_,_,_,_=>Nat.zero_le _
 | n+1,m,h,h1,h2=>by
  have hm:=h1 n (Nat.lt_succ_self n);have:=zNc n (m - 1) (fun i=>if h i<h n then h i else h i - 1) (fun i hi=>by
   have:=h1 i (by omega);have:h i≠h n:=fun e=>by have:=h2 i n (by omega) (by omega) e;omega
   show(if h i<h n then h i else h i - 1)<m - 1;split<;>omega) (fun i k hi hk e=>by
   have a1:h i≠h n:=fun e=>by have:=h2 i n (by omega) (by omega) e;omega
   have a2:h k≠h n:=fun e=>by have:=h2 k n (by omega) (by omega) e;omega
   have e':(if h i<h n then h i else h i - 1)=(if h k<h n then h k else h k - 1):=e;refine h2 i k (by omega) (by omega) ?_;split at e'<;>split at e'<;>omega)
  omega
theorem zOQ{n:Nat}{f g f' g':Nat->Int}(h1:qm n f g)(h2:qm n f' g')(h:∀i,i<n->PIn n f' g' (f i) (g i)):∀j,j<n->PIn n f g (f' j) (g' j):=by
 intro j hj;by_cases hx:PIn n f g (f' j) (g' j)
 ·exact hx
 ·exfalso;have:=zNc n (n - 1) (fun i=>if hi:i<n then(if (h i hi).choose<j then(h i hi).choose else(h i hi).choose - 1)else 0) (fun i hi=>by
   have hs:=(h i hi).choose_spec;have cA:(h i hi).choose≠j:=fun e=>hx ⟨i,hi,by rw[<-hs.2.1,e],by rw[<-hs.2.2,e]⟩
   simp only[hi,dif_pos];split<;>omega) (fun i k hi hk e=>by
   have hs:=(h i hi).choose_spec;have aA:=(h k hk).choose_spec;have cA:(h i hi).choose≠j:=fun e=>hx ⟨i,hi,by rw[<-hs.2.1,e],by rw[<-hs.2.2,e]⟩
   have bA:(h k hk).choose≠j:=fun e=>hx ⟨k,hk,by rw[<-aA.2.1,e],by rw[<-aA.2.2,e]⟩
   simp only[hi,hk,dif_pos]at e;have e2:(h i hi).choose=(h k hk).choose:=(by split at e<;>split at e<;>omega);refine h1.2.2.inj hi hk ?_;rw[<-hs.2.1,<-aA.2.1,e2])
  omega
theorem zEG.symm{n m:Nat}{f g f' g':Nat->Int}(h:zEG n f g m f' g'):zEG m f' g' n f g:=by
 obtain⟨h1,h2,rfl,h3⟩:=h;exact⟨h2,h1,rfl,zOQ h1 h2 h3⟩
def zCC(x:Int):Lit:=.int .i64 x
theorem zHV{x y:Int}(h:x≠y):zCC x≠zCC y:=fun e=>h (by unfold zCC at e;injection e)
theorem zIS(x:Int):WideAt.IsKeyLit (zCC x):=trivial
def zDl(x:Int):DataW Unit:=.lit (.int .i64 x)
theorem zGI{x y:Int}(h:zDl x=zDl y):x=y:=by unfold zDl at h;injection h with h;injection h
def seenD(f g:Nat->Int):Nat->DataW Unit
 | 0=>.map []
 | k+1=>(seenD f g k).put (zCC (f k)) (zDl (g k))
theorem zDW(f g:Nat->Int):∀k,Tidy (seenD f g k)
 | 0=>tidy_empty
 | k+1=>(zDW f g k).put (zIS _) _
theorem zEe(f g:Nat->Int)(x:Int):∀k,Maps.has (seenD f g k) (zCC x)=true↔∃i,i<k/\f i=x
 | 0=>by
  constructor
  ·intro h;exact absurd h (by simp[seenD,Maps.has])
  ·rintro⟨i,hi,_⟩;omega
 | k+1=>by
  by_cases hx:f k=x
  ·subst hx;exact⟨fun _=>⟨k,by omega,rfl⟩,fun _=>has_put_same (zDW f g k).isMap (zIS _) _⟩
  ·rw[show Maps.has (seenD f g (k+1)) (zCC x)=Maps.has (seenD f g k) (zCC x)from has_put_other (zHV (Ne.symm hx)) _,zEe f g x k];constructor
   ·rintro⟨i,hi,e⟩;exact⟨i,by omega,e⟩
   ·rintro⟨i,hi,e⟩;by_cases h:i=k
    ·subst h;exact absurd e hx
    ·exact⟨i,by omega,e⟩
theorem zGT{k:Nat}{f:Nat->Int}:zLy (k+1) f↔zLy k f/\∀i,i<k->f i≠f k:=by
 constructor
 ·exact fun h=>⟨fun i hi=>h i (by omega),fun i hi=>h k (by omega) i hi⟩
 ·rintro⟨h1,h2⟩ i hi j hj;by_cases e:i=k
  ·subst e;exact h2 j hj
  ·exact h1 i (by omega) j hj
theorem zGU(f g:Nat->Int):∀k,Maps.size (seenD f g k)<=k/\(Maps.size (seenD f g k)=k↔zLy k f)
 | 0=>⟨Nat.le_refl _,fun _ i hi=>by omega,fun _=>rfl⟩
 | k+1=>by
  obtain⟨h1,h2⟩:=zGU f g k;have e:Maps.size (seenD f g (k+1))=if Maps.has (seenD f g k) (zCC (f k))then Maps.size (seenD f g k)else Maps.size (seenD f g k)+1:=size_put (zDW f g k) _
  by_cases hh:Maps.has (seenD f g k) (zCC (f k))=true
  ·rw[if_pos hh]at e;rw[e,zGT];refine⟨by omega,fun h=>by omega,fun h=>?_⟩;obtain⟨i,hi,he⟩:=(zEe f g (f k) k).1 hh;exact absurd he (h.2 i hi)
  ·rw[if_neg hh]at e;rw[e,zGT,<-h2];refine⟨by omega,fun h=>⟨by omega,fun i hi he=>hh ((zEe f g (f k) k).2 ⟨i,hi,he⟩)⟩,fun h=>by omega⟩
theorem zNi{n:Nat}{f:Nat->Int}(g:Nat->Int)(hd:zLy n f)(z:DataW Unit):∀k,k<=n->∀i,i<k->(seenD f g k).atKey (zCC (f i)) z=zDl (g i)
 | 0,_,i,hi=>absurd hi (Nat.not_lt_zero _)
 | k+1,hk,i,hi=>by
  by_cases e:i=k
  ·subst e;exact atKey_put_same (zDW f g i).isMap (zIS _) _ _
  ·exact(atKey_put_other (zHV (fun h=>e (hd.inj (by omega) (by omega) h))) _ _).trans (zNi g hd z k (by omega) i (by omega))
structure zDP (n:Nat) (f g f':Nat->Int) (k:Nat) (D:DataW Unit):Prop where
 tidy:Tidy D
 size:Maps.size D+k=n
 at':∀x,(∀j,j<k->f' j≠x)->(∀i,i<n->f i=x->D.atKey (zCC x) (zDl 0)=zDl (g i))/\((∀i,i<n->f i≠x)->D.atKey (zCC x) (zDl 0)=zDl 0)
 has:∀x,Maps.has D (zCC x)=true↔(∃i,i<n/\f i=x)/\∀j,j<k->f' j≠x
theorem zDP.start{n:Nat}{f g:Nat->Int}(h:qm n f g)(f':Nat->Int):zDP n f g f' 0 (seenD f g n) where
 tidy:=zDW f g n
 size:=by rw[(zGU f g n).2.2 h.2.2];rfl
 at':=fun x _=>⟨fun i hi e=>by subst e;exact zNi g h.2.2 _ n (Nat.le_refl _) i hi,fun aA=>by
  refine atKey_of_not_has ?_ _;rw[Bool.eq_false_iff];intro hh;obtain⟨i,hi,e⟩:=(zEe f g x n).1 hh;exact aA i hi e⟩
 has:=fun x=>by
  rw[zEe];exact⟨fun h=>⟨h,fun j hj=>absurd hj (Nat.not_lt_zero _)⟩,fun h=>h.1⟩
theorem zDP.next{n m:Nat}{f g f' g':Nat->Int}{k:Nat}{D:DataW Unit}(h:zDP n f g f' k D)(h2:qm m f' g')(hk:k<m)(e:D.atKey (zCC (f' k)) (zDl 0)=zDl (g' k)):zDP n f g f' (k+1) (D.del (zCC (f' k))):=by
 have bA:Maps.has D (zCC (f' k))=true:=by
  by_cases hh:Maps.has D (zCC (f' k))=true
  ·exact hh
  ·rw[atKey_of_not_has (by simpa using hh)]at e;have:=zGI e;have:=(h2.2.1 k hk).2.2.1;omega
 have hs:=size_del (k:=zCC (f' k)) h.tidy;rw[bA]at hs;refine⟨h.tidy.del _,?_,fun x hx=>?_,fun x=>?_⟩
 ·have:=h.size;have cA:Maps.size (D.del (zCC (f' k)))+1=Maps.size D:=hs;omega
 ·have aA:f' k≠x:=hx k (by omega);rw[atKey_del_other (zHV (Ne.symm aA))];exact h.at' x (fun j hj=>hx j (by omega))
 ·by_cases aA:f' k=x
  ·subst aA;rw[has_del_same];exact⟨fun h=>absurd h (by simp),fun h=>absurd rfl (h.2 k (by omega))⟩
  ·rw[has_del_other (zHV (Ne.symm aA)),h.has x];refine and_congr_right fun _=>⟨fun h j hj=>?_,fun h j hj=>h j (by omega)⟩
   by_cases ej:j=k
   ·subst ej;exact aA
   ·exact h j (by omega)
theorem zDP.no{n m:Nat}{f g f' g':Nat->Int}{k:Nat}{D:DataW Unit}(h:zDP n f g f' k D)(h1:qm n f g)(h2:qm m f' g')(hk:k<m){c:Int}(e:D.atKey (zCC (f' k)) (zDl 0)=zDl c)(hc:c≠g' k):¬zEG n f g m f' g':=by
 intro hs;obtain⟨i,hi,e1,e2⟩:=hs.symm.2.2.2 k hk;have:=(h.at' (f' k) (fun j hj=>h2.2.2 k hk j hj)).1 i hi e1;rw[e]at this;exact hc ((zGI this).trans e2)
theorem zDP.end{n m:Nat}{f g f' g':Nat->Int}{D:DataW Unit}(h:zDP n f g f' m D)(h1:qm n f g)(h2:qm m f' g')(aA:∀j,j<m->PIn n f g (f' j) (g' j)):Maps.size D=0↔zEG n f g m f' g':=by
 have hs:=h.size;constructor
 ·intro h0;obtain rfl:m=n:=(by omega);exact zEG.symm ⟨h2,h1,rfl,aA⟩
 ·intro hp;have:=hp.2.2.1;omega
theorem zDP.in{n m:Nat}{f g f' g':Nat->Int}{k:Nat}{D:DataW Unit}(h:zDP n f g f' k D)(h2:qm m f' g')(hk:k<m)(e:D.atKey (zCC (f' k)) (zDl 0)=zDl (g' k)):PIn n f g (f' k) (g' k):=by
 by_cases hx:∃i,i<n/\f i=f' k
 ·obtain⟨i,hi,ei⟩:=hx;have:=(h.at' (f' k) (fun j hj=>h2.2.2 k hk j hj)).1 i hi ei;rw[e]at this;exact⟨i,hi,ei,(zGI this).symm⟩
 ·have:=(h.at' (f' k) (fun j hj=>h2.2.2 k hk j hj)).2 (fun i hi e=>hx ⟨i,hi,e⟩);rw[e]at this;have:=zGI this;have:=(h2.2.1 k hk).2.2.1;omega
def qY(f g:Nat->Int)(t:Int):Nat->List (Int×Int)
 | 0=>[]
 | k+1=>if t<g k then qY f g t k ++ [(f k,g k)] else qY f g t k
def zBx(f g:Nat->Int)(t:Int):Nat->List (Int×Int)
 | 0=>[]
 | k+1=>if t<g k then zBx f g t k else zBx f g t k ++ [(f k,g k)]
theorem zCb(f g:Nat->Int)(t:Int):∀k,(qY f g t k).length+(zBx f g t k).length=k
 | 0=>rfl
 | k+1=>by
  have:=zCb f g t k;unfold qY zBx;split<;>simp<;>omega
theorem zX{P:Prop}(h:P):Hid P:=h
theorem zU.zRb{w:World}{lo hi:Nat}{a:Option Addr}{n c:Nat}{f g:Nat->Int}(h:zU w lo hi (.slice a n c) n f g){k:Nat}(hk:k<n):∃b off,a=some ⟨b,off,none⟩/\w.cell? ⟨b,off+k*2,none⟩=some (.int .i64 (f k))/\w.cell? ⟨b,off+k*2+1,none⟩=some (.int .i64 (g k)):=by
 obtain⟨_,a2,c2,hv,_,hx⟩:=h;simp only[Value.slice.injEq,true_and]at hv;obtain⟨rfl,rfl⟩:=hv;obtain⟨b,off,ha,_,_,h3⟩:=hx (by omega);exact⟨b,off,ha,(h3 k hk).1,(h3 k hk).2⟩
theorem zKJ(x y:Int)(w:World):Calls Tryz.prog 214 #[.agg #[.int .i64 x,.int .i64 y]] w fun e w'=>zG (zFG x y) e/\Below w.heap.size w w':=by
 have aA:=zC w (.cells #[.int .i64 x,.int .i64 y] 61);by_cases h1:0<=x
 ·by_cases h2:x<200
  ·by_cases h3:qi y
   ·have H:=zX (show zFG x y from⟨h1,by omega,h3.1,h3.2⟩);have H3:=zX h3;clear h3;go_enter Tryz.func214,Tryz.ntmps214;go_wp2_with (first | (go_at_call 156;refine(qK y _).mono ?_;rintro e w1 ⟨⟨t,rfl,ht⟩,rfl⟩;obtain rfl:t=true:=ht.2 H3.out;clear ht) | fail);go_wp2;go_ret;exact⟨zG.yes H.out,aA⟩
   ·have H:=zX (show ¬zFG x y from fun h=>h3 ⟨h.2.2.1,h.2.2.2⟩);have H3:=zX h3;clear h3;go_enter Tryz.func214,Tryz.ntmps214;go_wp2_with (first | (go_at_call 156;refine(qK y _).mono ?_;rintro e w1 ⟨⟨t,rfl,ht⟩,rfl⟩;obtain rfl:t=false:=zQ ht H3.out;clear ht) | fail);go_wp2;go_ret;exact⟨zG.no H.out,aA⟩
  ·go_enter Tryz.func214,Tryz.ntmps214;go_wp2;go_ret;exact⟨zG.no fun h=>by have:=h.2.1;omega,aA⟩
 ·go_enter Tryz.func214,Tryz.ntmps214;go_wp2;go_ret;exact⟨zG.no fun h=>by have:=h.1;omega,aA⟩
theorem zQ4:Keyed Tryz.prog 2:=int_keyed (q:=.i64) (by kernel_rfl)
theorem zO8:Tryz.prog.underlying 243=some (.map 2 2):=by kernel_rfl
theorem zQN:Tryz.prog.underlying 2=some (.int .i64):=by kernel_rfl
theorem zRM(w:World):(zeroValue 2).run Tryz.prog w = .ok (.int .i64 0) w:=by kernel_rfl
theorem zHy{x:Int}(h0:0<=x)(h1:x<=1000000):(Lit.int .i64 x).wf=true:=WalkArith.wf_i64 (by omega)
def zOv(w:World)(B n:Nat)(D:DataW Unit):Prop:=w.ownsMap Tryz.prog 2 (plainElem Tryz.prog 2) B n D
theorem zFB(v:Value)(n lo hi:Nat)(f g:Nat->Int)(w:World)(h1:zU w lo hi v n f g)(hn:n<=200)(kA:∀i,i<n->zFG (f i) (g i)) :
  Calls Tryz.prog 215 #[v] w fun e w'=>e = .returned (.map (some w.heap.size))/\zOv w' w.heap.size n (seenD f g n)/\Below w.heap.size w w':=by
 have Hp:=zX h1;have gA:=zX kA;obtain⟨m1,a,c,rfl,mc,_⟩:=id h1;clear h1 kA;have nA:=@run_makeMap Tryz.prog;go_enter Tryz.func215,Tryz.ntmps215;go_wp2
 go_loopw [9] (fun i wr=>∃k:Nat,k<=n/\i = .int .i64 k/\zOv wr w.heap.size k (seenD f g k)/\Below w.heap.size w wr) (fun i _=>n - (intOf i).toNat)
 case atStart=>exact⟨0,Nat.zero_le _,rfl,World.ownsMap_made _ _ _ _,(Below.refl _ _).alloc (Nat.le_refl _) _⟩
 case round=>
  obtain⟨k,hk,rfl,bA,hb⟩:=hrel;have fA:=zX bA;clear bA;by_cases dA:k<n
  ·have mA:(k:Int)<(n:Int):=(by omega);obtain⟨b,off,rfl,q0,q1⟩:=(Hp.out.zRX hb).zRb dA;have cA:keyOf Tryz.prog 2 (.int .i64 (f k))=some (zCC (f k)):=keyOf_int_mk zQN (zHy (gA.out k dA).1 (by have:=(gA.out k dA).2.1;omega));have jA:=zHy (x:=g k) (by have:=(gA.out k dA).2.2.1;omega) (gA.out k dA).2.2.2;have iA:=zX cA;have lA:=zX jA;clear cA jA;go_wp2_with (first
    | (at_mapUpdate;refine wpList_mapUpdate_own _ rfl _ _ _ 243 rfl 2 2 zQ4 zO8 _ w.heap.size k _ rfl (fA.out.alloc _) (by unfold maxLen;omega) _ _ _ rfl rfl iA.out _ [] (plainElem_int zQN lA.out) ?_;intro w1 eA aA)
    | go_in)
   go_roundw
   case rel=>exact⟨k+1,by omega,by go_num,eA,(hb.alloc hb.size _).grown aA (by rw[World.size_alloc];have:=hb.size;omega) (fun j hj=>by cases hj;exact Nat.le_refl _)⟩
   case measure=>simp[intOf];omega
  ·obtain rfl:k=n:=(by omega);go_wp2;go_ret;exact⟨rfl,fA.out,hb⟩
theorem qg(v:Value)(n lo hi:Nat)(f g:Nat->Int)(w:World)(h1:zU w lo hi v n f g) :
  Calls Tryz.prog 186 #[v] w fun e w'=>zG (qm n f g) e/\Below w.heap.size w w':=by
 have Hp:=zX h1;obtain⟨m1,a,c,rfl,mc,_⟩:=id h1;clear h1;unfold maxLen at m1;by_cases hn:n<=200
 ·have mA:¬(200:Int)<(n:Int):=(by omega);go_enter Tryz.func186,Tryz.ntmps186;go_wp2
  go_loopw [10] (fun i wr=>∃k:Nat,k<=n/\i = .int .i64 k/\(∀i,i<k->zFG (f i) (g i))/\Below w.heap.size w wr) (fun i _=>n - (intOf i).toNat)
  case atStart=>exact⟨0,Nat.zero_le _,rfl,fun j hj=>absurd hj (Nat.not_lt_zero _),Below.refl _ _⟩
  case round=>
   obtain⟨k,hk,rfl,dA,hb⟩:=hrel;have aA:=zX dA;clear dA;by_cases fA:k<n
   ·have kA:(k:Int)<(n:Int):=(by omega);obtain⟨b,off,rfl,q0,q1⟩:=(Hp.out.zRX hb).zRb fA;have gA:=zA hb (zC wr (.cells #[.int .i64 (f k),.int .i64 (g k)] 61));go_wp2_with fail;refine(zKJ (f k) (g k) _).mono ?_;rintro e w1 ⟨⟨t,rfl,ht⟩,cA⟩;have eA:=zA gA cA;clear cA gA q0 q1;by_cases bA:zFG (f k) (g k)
    ·have Hk:=zX bA;obtain rfl:t=true:=ht.2 bA;clear ht bA;go_wp2;go_roundw
     case rel=>exact⟨k+1,by omega,by go_num,zo fA aA.out Hk.out,eA⟩
     case measure=>simp[intOf];omega
    ·have Hk:=zX bA;obtain rfl:t=false:=zQ ht bA;clear ht bA;go_wp2;go_ret;exact⟨zG.no fun h=>Hk.out (h.2.1 k fA),eA⟩
   ·obtain rfl:k=n:=(by omega);go_wp2_with fail;refine(zFB _ k lo hi f g _ (Hp.out.zRX hb) hn aA.out).mono ?_;rintro e w1 ⟨rfl,hm,cA⟩;have eA:=zA hb cA;have Hm:=zX hm;have lA:=zGU f g k;clear hm cA;obtain⟨nA,iA⟩:=lA;have jA:=zX iA;clear iA;go_wp2_with (first
     | (at_len;refine wpList_len_own _ rfl _ 243 rfl 2 2 zO8 _ wr.heap.size k _ rfl Hm.out ?_)
     | go_in)
    go_ret;refine⟨⟨_,rfl,?_⟩,eA⟩;have Ho:=jA.out;have Ha:=aA.out;simp only[beq_iff_eq,Int.natCast_inj];exact Ho.trans ⟨fun h=>⟨hn,Ha,h⟩,fun h=>h.2.2⟩
 ·have mA:(200:Int)<(n:Int):=(by omega);go_enter Tryz.func186,Tryz.ntmps186;go_wp2;go_ret;exact⟨zG.no fun h=>hn h.1,Below.refl _ _⟩
def zB2(n a b:Int):Prop:=a<=n/\n<=b
theorem zBO(n a b:Int)(w:World):Calls Tryz.prog 137 #[.int .i64 n,.int .i64 a,.int .i64 b] w fun e w'=>zG (zB2 n a b) e/\w'=w:=by
 by_cases h1:a<=n
 ·by_cases h2:n<=b
  ·go_enter Tryz.func137,Tryz.ntmps137;go_wp2;go_ret;exact⟨zG.yes ⟨h1,h2⟩,rfl⟩
  ·go_enter Tryz.func137,Tryz.ntmps137;go_wp2;go_ret;exact⟨zG.no fun h=>by have:=h.2;omega,rfl⟩
 ·go_enter Tryz.func137,Tryz.ntmps137;go_wp2;go_ret;exact⟨zG.no fun h=>by have:=h.1;omega,rfl⟩
theorem zAF(v:Value)(n lo hi:Nat)(f g:Nat->Int)(w:World)(h1:zU w lo hi v n f g) :
  Calls Tryz.prog 185 #[v] w fun e w'=>zG (qm n f g) e/\Below w.heap.size w w':=by
 have Hp:=zX h1;obtain⟨m1,a,c,rfl,mc,_⟩:=id h1;clear h1;unfold maxLen at m1;by_cases hn:n<=200
 ·have mA:¬(200:Int)<(n:Int):=(by omega);go_enter Tryz.func185,Tryz.ntmps185;go_wp2
  go_loopw [3] (fun i wr=>∃k:Nat,k<=n/\i = .int .i64 k/\(∀i,i<k->zFG (f i) (g i))/\zLy k f/\Below w.heap.size w wr) (fun i _=>n - (intOf i).toNat)
  case atStart=>exact⟨0,Nat.zero_le _,rfl,fun j hj=>absurd hj (Nat.not_lt_zero _),fun j hj=>absurd hj (Nat.not_lt_zero _),Below.refl _ _⟩
  case round=>
   obtain⟨k,hk,rfl,dA,cA,hb⟩:=hrel;have eA:=zX dA;have bA:=zX cA;clear dA cA;by_cases aA:k<n
   ·have lA:(k:Int)<(n:Int):=(by omega);obtain⟨b,off,rfl,q0,q1⟩:=(Hp.out.zRX hb).zRb aA;by_cases hx:zB2 (f k) 0 199
    ·have Hx:=zX hx;clear hx;by_cases hy:qi (g k)
     ·have Hy:=zX hy;clear hy;go_wp2_with (first
       | (go_at_call 137;refine(zBO (f k) 0 199 _).mono ?_;rintro e w1 ⟨⟨t,rfl,ht⟩,rfl⟩;obtain rfl:t=true:=ht.2 Hx.out;clear ht)
       | (go_at_call 145;refine(yX (g k) _).mono ?_;rintro e w2 ⟨⟨t,rfl,ht⟩,rfl⟩;obtain rfl:t=true:=ht.2 Hy.out;clear ht)
       | fail)
      go_wp2
      go_loopw [4] (fun i wr=>∃j:Nat,j<=k/\i = .int .i64 j/\(∀i,i<j->f i≠f k)/\Below w.heap.size w wr) (fun i _=>k - (intOf i).toNat)
      case atStart=>exact⟨0,Nat.zero_le _,rfl,fun j hj=>absurd hj (Nat.not_lt_zero _),hb⟩
      case round=>
       obtain⟨j,hj,rfl,jA,fA⟩:=hrel;have iA:=zX jA;clear jA q0 q1 hb;by_cases gA:j<k
       ·have nA:(j:Int)<(k:Int):=(by omega);have kA:(j:Int)<(n:Int):=(by omega);obtain⟨_,_,ha,r0,_⟩:=(Hp.out.zRX fA).zRb (show j<n by omega);simp only[Option.some.injEq,Addr.mk.injEq,and_true]at ha;obtain⟨rfl,rfl⟩:=ha;obtain⟨_,_,ha,s0,_⟩:=(Hp.out.zRX fA).zRb aA;simp only[Option.some.injEq,Addr.mk.injEq,and_true]at ha;obtain⟨rfl,rfl⟩:=ha;by_cases he:f j=f k
        ·have He:=zX he;have e0:(f j == f k)=true:=(by simp[he]);clear he;go_wp2
         go_quiet (fail)
         go_wp2;go_ret;exact⟨zG.no fun h=>h.2.2 k aA j gA He.out,zg fA _⟩
        ·have He:=zX he;have e0:(f j == f k)=false:=(by simp[he]);clear he;go_wp2
         go_quiet (fail)
         go_wp2;go_roundw
         case rel=>exact⟨j+1,by omega,by go_num,zo gA iA.out He.out,zg fA _⟩
         case measure=>simp[intOf];omega
       ·obtain rfl:j=k:=(by omega);go_wp2;go_roundw
        case rel=>exact⟨j+1,by omega,by go_num,zo aA eA.out ⟨Hx.out.1,Hx.out.2,Hy.out.1,Hy.out.2⟩,zGT.2 ⟨bA.out,iA.out⟩,fA⟩
        case measure=>simp[intOf];omega
     ·have Hy:=zX hy;clear hy;go_wp2_with (first
       | (go_at_call 137;refine(zBO (f k) 0 199 _).mono ?_;rintro e w1 ⟨⟨t,rfl,ht⟩,rfl⟩;obtain rfl:t=true:=ht.2 Hx.out;clear ht)
       | (go_at_call 145;refine(yX (g k) _).mono ?_;rintro e w2 ⟨⟨t,rfl,ht⟩,rfl⟩;obtain rfl:t=false:=zQ ht Hy.out;clear ht)
       | fail)
      go_wp2;go_ret;exact⟨zG.no fun h=>Hy.out ⟨(h.2.1 k aA).2.2.1,(h.2.1 k aA).2.2.2⟩,hb⟩
    ·have Hx:=zX hx;clear hx;go_wp2_with (first
      | (go_at_call 137;refine(zBO (f k) 0 199 _).mono ?_;rintro e w1 ⟨⟨t,rfl,ht⟩,rfl⟩;obtain rfl:t=false:=zQ ht Hx.out;clear ht)
      | fail)
     go_wp2;go_ret;exact⟨zG.no fun h=>Hx.out ⟨(h.2.1 k aA).1,(h.2.1 k aA).2.1⟩,hb⟩
   ·obtain rfl:k=n:=(by omega);go_wp2;go_ret;exact⟨zG.yes ⟨hn,eA.out,bA.out⟩,hb⟩
 ·have mA:(200:Int)<(n:Int):=(by omega);go_enter Tryz.func185,Tryz.ntmps185;go_wp2;go_ret;exact⟨zG.no fun h=>hn h.1,Below.refl _ _⟩
theorem zDV(v:Value)(n lo hi:Nat)(f g:Nat->Int)(x y:Int)(w:World)(h1:zU w lo hi v n f g) :
  Calls Tryz.prog 142 #[v,.agg #[.int .i64 x,.int .i64 y]] w fun e w'=>zG (PIn n f g x y) e/\Below w.heap.size w w':=by
 have Hp:=zX h1;obtain⟨m1,a,c,rfl,mc,_⟩:=id h1;unfold maxLen at m1;clear h1;have ha:=zC w (.cells #[.int .i64 x,.int .i64 y] 61);have HB:=zX (zc.zRZ w (.int .i64 x) (.int .i64 y) 61);go_enter Tryz.func142,Tryz.ntmps142;go_wp2
 go_loopw [5] (fun i wr=>∃k:Nat,k<=n/\i = .int .i64 k/\¬PIn k f g x y/\zc wr w.heap.size (.int .i64 x) (.int .i64 y)/\Below w.heap.size w wr) (fun i _=>n - (intOf i).toNat)
 case atStart=>exact⟨0,Nat.zero_le _,rfl,fun ⟨j,hj,_⟩=>absurd hj (Nat.not_lt_zero _),HB.out,ha⟩
 case round=>
  obtain⟨k,hk,rfl,bA,hX,hb⟩:=hrel;have dA:=zX bA;have HX:=zX hX;clear bA hX;obtain⟨⟨x0,x1⟩,⟨x2,x3⟩⟩:=HX.out;by_cases cA:k<n
  ·have eA:(k:Int)<(n:Int):=(by omega);obtain⟨b,off,rfl,q0,q1⟩:=(Hp.out.zRX hb).zRb cA;by_cases he:f k=x/\g k=y
   ·have H:=zX (show PIn n f g x y from⟨k,cA,he.1,he.2⟩);rw[he.1]at q0;rw[he.2]at q1;clear he;go_wp2
    go_quiet (fail)
    go_wp2;go_ret;exact⟨zG.yes H.out,zg hb _⟩
   ·have H:=zX he;have e0:(f k == x)=false\/(f k == x)=true/\(g k == y)=false:=by
     by_cases h:f k=x
     ·right;refine⟨by simp[h],?_⟩;have:g k≠y:=fun h'=>he ⟨h,h'⟩
      simp[this]
     ·left;simp[h]
    clear he;rcases e0 with e0 | ⟨e0,e1⟩
    all_goals
     go_wp2
     go_quiet (fail)
     go_wp2;go_roundw
     case rel=>
      refine⟨k+1,by omega,by go_num,?_,HX.out.zRX (zg (Below.refl _ _) _),zg hb _⟩;rintro⟨j,hj,aA⟩;by_cases e:j=k
      ·subst e;exact H.out ⟨aA.1,aA.2⟩
      ·exact dA.out ⟨j,by omega,aA⟩
     case measure=>simp[intOf];omega
  ·obtain rfl:k=n:=(by omega);go_wp2;go_ret;exact⟨zG.no dA.out,hb⟩
theorem zGj(v v':Value)(n lo hi n' lo' hi':Nat)(f g f' g':Nat->Int)(w:World)(h1:zU w lo hi v n f g)(h2:zU w lo' hi' v' n' f' g') :
  Calls Tryz.prog 143 #[v,v'] w fun e w'=>zG (zEG n f g n' f' g') e/\Below w.heap.size w w':=by
 have Hp:=zX h1;have jA:=zX h2;obtain⟨m1,a,c,rfl,mc,_⟩:=id h1;obtain⟨m2,a',c',rfl,oA,_⟩:=id h2;unfold maxLen at m1 m2;clear h1 h2;by_cases ho:qm n f g
 ·have Ho:=zX ho;clear ho;by_cases fA:qm n' f' g'
  ·have cA:=zX fA;clear fA;go_enter Tryz.func143,Tryz.ntmps143;go_wp2_with fail;refine(zAF _ n lo hi f g _ Hp.out).mono ?_;rintro e w1 ⟨⟨t,rfl,ht⟩,aA⟩;obtain rfl:t=true:=ht.2 Ho.out;clear ht;go_wp2_with fail;refine(zAF _ n' lo' hi' f' g' _ (jA.out.zRX aA)).mono ?_;rintro e w2 ⟨⟨t,rfl,ht⟩,dA⟩;obtain rfl:t=true:=ht.2 cA.out;have gA:=zA aA dA;clear ht aA dA;by_cases iA:n=n'
   ·subst iA;have e0:((n:Int) != (n:Int))=false:=(by simp);go_wp2
    go_loopw [5] (fun i wr=>∃k:Nat,k<=n/\i = .int .i64 k/\(∀i,i<k->PIn n f' g' (f i) (g i))/\Below w.heap.size w wr) (fun i _=>n - (intOf i).toNat)
    case atStart=>exact⟨0,Nat.zero_le _,rfl,fun j hj=>absurd hj (Nat.not_lt_zero _),gA⟩
    case round=>
     obtain⟨k,hk,rfl,bA,hb⟩:=hrel;have eA:=zX bA;clear bA;by_cases kA:k<n
     ·have nA:(k:Int)<(n:Int):=(by omega);obtain⟨b,off,rfl,q0,q1⟩:=(Hp.out.zRX hb).zRb kA;go_wp2_with fail;refine(zDV _ n lo' hi' f' g' (f k) (g k) _ (jA.out.zRX hb)).mono ?_;rintro e w3 ⟨⟨t,rfl,ht⟩,mA⟩;have lA:=zA hb mA;clear mA;by_cases hi':PIn n f' g' (f k) (g k)
      ·have Hi:=zX hi';obtain rfl:t=true:=ht.2 hi';clear ht hi';go_wp2;go_roundw
       case rel=>exact⟨k+1,by omega,by go_num,zo kA eA.out Hi.out,lA⟩
       case measure=>simp[intOf];omega
      ·have Hi:=zX hi';obtain rfl:t=false:=zQ ht hi';clear ht hi';go_wp2;go_ret;exact⟨zG.no fun h=>Hi.out (h.2.2.2 k kA),lA⟩
     ·obtain rfl:k=n:=(by omega);go_wp2;go_ret;exact⟨zG.yes ⟨Ho.out,cA.out,rfl,eA.out⟩,hb⟩
   ·have e0:((n:Int) != (n':Int))=true:=(by simp;omega);have Hn:=zX iA;clear iA;go_wp2;go_ret;exact⟨zG.no fun h=>Hn.out h.2.2.1,gA⟩
  ·have cA:=zX fA;clear fA;go_enter Tryz.func143,Tryz.ntmps143;go_wp2_with fail;refine(zAF _ n lo hi f g _ Hp.out).mono ?_;rintro e w1 ⟨⟨t,rfl,ht⟩,aA⟩;obtain rfl:t=true:=ht.2 Ho.out;clear ht;go_wp2_with fail;refine(zAF _ n' lo' hi' f' g' _ (jA.out.zRX aA)).mono ?_;rintro e w2 ⟨⟨t,rfl,ht⟩,dA⟩;obtain rfl:t=false:=zQ ht cA.out;have gA:=zA aA dA;clear ht aA dA;go_wp2;go_ret;exact⟨zG.no fun h=>cA.out h.2.1,gA⟩
 ·have Ho:=zX ho;clear ho;go_enter Tryz.func143,Tryz.ntmps143;go_wp2_with fail;refine(zAF _ n lo hi f g _ Hp.out).mono ?_;rintro e w1 ⟨⟨t,rfl,ht⟩,aA⟩;obtain rfl:t=false:=zQ ht Ho.out;clear ht;go_wp2;go_ret;exact⟨zG.no fun h=>Ho.out h.1,aA⟩
theorem s1{α : Type}(l:List α)(i:Nat)(a:α):l.toArray.setIfInBounds i a=(l.set i a).toArray:=List.setIfInBounds_toArray ..
theorem s2{α : Type}(x:α)(l:List α)(a:α):(x :: l).set 0 a=a :: l:=rfl
theorem s3{α : Type}(x:α)(l:List α)(i:Nat)(a:α):(x :: l).set (i+1) a=x :: l.set i a:=rfl
def zMZ:List Oper->Nat->Option Oper
 | [],_=>none
 | o :: _,0=>some o
 | _ :: l,n+1=>zMZ l n
theorem zJN:∀(l:List Oper) (i:Nat),l[i]?=zMZ l i
 | [],_=>rfl
 | _ :: _,0=>rfl
 | _ :: l,n+1=>by simpa[zMZ]using zJN l n
theorem zAY{aA:Array Oper}{i:Nat}{o:Oper}(h:zMZ aA.toList i=some o):aA[i]?=some o:=by
 rw[<-h,<-zJN,Array.getElem?_toList]
section
variable {P : Program} {md : Region.Mode} {ops : Array Oper} {Q : Exit -> Act -> World -> Prop} {S : World -> Prop}
theorem tk(i:Nat){o:Oper}{v:Value}{bA:Nat}{aA l':Array Bool}{a a':Act}{w:World}(hi:zMZ ops.toList i=some o:=by exact rfl)
  (hb:(Region.noSelect ops && (Region.free md ops aA i && (Region.ready md ops aA).contains i))=true:=by kernel_rfl)
  (hw:Region.wanted o (yielded ops a.tmps)=true:=by exact rfl) (hS:S w:=by assumption)
  (hy:∀w,S w->(execOp a.eval o).run P w = .ok (.value v) w:=by(intro w cA;(try dsimp only at cA);go_simp;try with_reducible rfl))
  (hl:aA.setIfInBounds i true=l':=by((try simp only[s1,s2,s3]);exact rfl))
  (ha:a.put o.dst v=a':=by((try simp only[Act.put,s1,s2,s3]);exact rfl))
  (hQ:∀c a w,Q (.panic c) (a.put o.dst v) w->Q (.panic c) a w:=by exact fun _ _ _ h=>h)
  (h:wpAnyH P md ops Q S bA l' a' w):wpAnyH P md ops Q S (bA+1) aA a w:=by
 simp only[Bool.and_eq_true]at hb;subst hl ha;exact wpAnyH_take (zAY hi) hb.1 hb.2.1 hb.2.2 hQ (Or.inl ⟨hw,hy⟩) hS h
theorem ts(i:Nat){o:Oper}{bA:Nat}{aA l':Array Bool}{a a':Act}{w:World}(hi:zMZ ops.toList i=some o:=by exact rfl)
  (hb:(Region.noSelect ops && (Region.free md ops aA i && (Region.ready md ops aA).contains i))=true:=by kernel_rfl)
  (hw:Region.wanted o (yielded ops a.tmps)=false:=by exact rfl) (hS:S w:=by assumption)
  (hl:aA.setIfInBounds i true=l':=by((try simp only[s1,s2,s3]);exact rfl))
  (ha:a.put o.dst undef=a':=by((try simp only[Act.put,s1,s2,s3]);exact rfl))
  (hQ:∀c a w,Q (.panic c) (a.put o.dst undef) w->Q (.panic c) a w:=by exact fun _ _ _ h=>h)
  (h:wpAnyH P md ops Q S bA l' a' w):wpAnyH P md ops Q S (bA+1) aA a w:=by
 simp only[Bool.and_eq_true]at hb;subst hl ha;exact wpAnyH_take (zAY hi) hb.1 hb.2.1 hb.2.2 hQ (Or.inr ⟨hw,rfl⟩) hS h
theorem rd(rs:List Nat){bA:Nat}{aA:Array Bool}{a:Act}{w:World}(h:AllReadyH P md ops Q S bA aA a w rs)
  (hr:Region.ready md ops aA=rs:=by kernel_rfl) (cA:rs≠[]:=by simp):wpAnyH P md ops Q S (bA+1) aA a w:=wpAnyH_ready hr cA h
theorem rc{bA:Nat}{aA:Array Bool}{a:Act}{w:World}{i:Nat}{o:Oper}{rs:List Nat}
  (h:∀K':Act->World->Prop,Shut (∀a w,S w->(S w->wpAnyH P md ops Q S bA (aA.setIfInBounds i true) a w)->K' a w)->if Region.wanted o (yielded ops a.tmps)=true then Oper.wp P o a w K' Q else K' (a.put o.dst undef) w)
  (hs:AllReadyH P md ops Q S bA aA a w rs) (ho:zMZ ops.toList i=some o:=by exact rfl):AllReadyH P md ops Q S bA aA a w (i :: rs):=AllReadyH.cons (zAY ho) h hs
end
end Go.Proofs.YtmgeglgboadfiaaGreatDoor
