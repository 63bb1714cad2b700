/- What a pool is in memory, as plain facts on cells (no law is proved here): lists of numbers, of pointers, of slots, a pool; that they stay when other blocks turn. -/
import Derived.WalkKit
import Derived.WalkSpells
import Derived.WalkLawsBesides
import Derived.Test.YtmgeglgboadfiaaGreatDoorProg
import GoSem.ClaimJoined
import GoSem.ClaimMapViews
import Derived.JoinedTies
import Derived.KernelRfl
import Derived.RowKit
import Derived.Deep.OwnRows
import Derived.LaidEql
import Derived.Stop.Asserts
import Derived.RowKitTokens
namespace Go.Proofs.YtmgeglgboadfiaaGreatDoor
open Go.RowKit
def BoolIs(P:Prop)(e:Ending):Prop:=∃b:Bool,e = .returned (.bool b)∧(b=true↔P)
theorem BoolIs.yes{P:Prop}(h:P):BoolIs P (.returned (.bool true)):=⟨true,rfl,by simp [h]⟩
theorem BoolIs.no{P:Prop}(h:¬P):BoolIs P (.returned (.bool false)):=⟨false,rfl,by simp [h]⟩
theorem BoolIs.same{P:Prop}{b c:Bool}(h:b=true↔P)(h':c=true↔P):c=b:=by
 cases b <;> cases c <;> simp_all
theorem BoolIs.congr{P Q:Prop}{e:Ending}(h:BoolIs P e)(hpq:P↔Q):BoolIs Q e:=by
 obtain⟨b,he,hb⟩:=h
 exact⟨b,he,hb.trans hpq⟩
theorem relNext{n k:Nat}{P:Nat→Prop}(hk:k<n)(h:∀i,i<k→P i)(hp:P k):∀i,i<k+1→P i:=fun i hi=>by
 by_cases e:i=k
 ·subst e; exact hp
 ·exact h i (by omega)
theorem below_drewN{B:Nat}{w w':World}(h:Below B w w')(n:Nat):Below B w (w'.drewN n):=⟨h.os,h.tape,h.output,h.size,h.block⟩
theorem str_eq{s t:ByteArray}(h:s=t):(s.toList == t.toList)=true:=by simp [h]
theorem str_ne{s t:ByteArray}(h:¬s=t):(s.toList == t.toList)=false:=by
 rw [beq_eq_false_iff_ne]
 intro e
 rw [Go.ByteArray.toList_eq,Go.ByteArray.toList_eq] at e
 apply h
 cases s; cases t
 simp only [ByteArray.mk.injEq] at *
 exact Array.toList_inj.1 e
theorem below_undrew{w w1:World}(h:Below w.drew.heap.size w.drew w1):Below w.heap.size w w1:=⟨h.os,h.tape,h.output,h.size,h.block⟩
theorem below_call{w wr w1:World}(hb:Below w.heap.size w wr)(h1:Below wr.drew.heap.size wr.drew w1):Below w.heap.size w w1:=
 hb.drew.trans (h1.mono hb.size)
theorem below_next{w wr w1:World}(hb:Below w.heap.size w wr)(h1:Below wr.heap.size wr w1):Below w.heap.size w w1:=
 hb.trans (h1.mono hb.size)
structure SlotD where
 birth:Int
 kn:Nat
 ks:Nat→Int
 kb:Nat→Int
 data:ByteArray
structure PoolD where
 n:Nat
 s:Nat→SlotD
 hn:Nat
 h:Nat→Int
def PtrEq(a b c d:Int):Prop:=a=c∧b=d
def IntsEq(n n':Nat)(f f':Nat→Int):Prop:=n=n'∧∀i,i<n→f i=f' i
def PtrsEq(n n':Nat)(f g f' g':Nat→Int):Prop:=n=n'∧∀i,i<n→f i=f' i∧g i=g' i
def SlotEq(s t:SlotD):Prop:=s.birth=t.birth∧PtrsEq s.kn t.kn s.ks s.kb t.ks t.kb∧s.data=t.data
def SlotsEq(n n':Nat)(f f':Nat→SlotD):Prop:=n=n'∧∀i,i<n→SlotEq (f i) (f' i)
def PoolEq(p q:PoolD):Prop:=SlotsEq p.n q.n p.s q.s∧IntsEq p.hn q.hn p.h q.h
theorem SlotEq.refl(s:SlotD):SlotEq s s:=⟨rfl,⟨rfl,fun _ _=>⟨rfl,rfl⟩⟩,rfl⟩
theorem SlotEq.symm{s t:SlotD}(h:SlotEq s t):SlotEq t s:=
 ⟨h.1.symm,⟨h.2.1.1.symm,fun i hi=>⟨(h.2.1.2 i (h.2.1.1▸hi)).1.symm,(h.2.1.2 i (h.2.1.1▸hi)).2.symm⟩⟩,h.2.2.symm⟩
theorem SlotEq.trans{s t u:SlotD}(h:SlotEq s t)(k:SlotEq t u):SlotEq s u:=
 ⟨h.1.trans k.1,⟨h.2.1.1.trans k.2.1.1,fun i hi=>⟨(h.2.1.2 i hi).1.trans (k.2.1.2 i (h.2.1.1▸hi)).1,(h.2.1.2 i hi).2.trans (k.2.1.2 i (h.2.1.1▸hi)).2⟩⟩,h.2.2.trans k.2.2⟩
theorem PoolEq.refl(p:PoolD):PoolEq p p:=⟨⟨rfl,fun _ _=>SlotEq.refl _⟩,⟨rfl,fun _ _=>rfl⟩⟩
theorem PoolEq.symm{s t:PoolD}(h:PoolEq s t):PoolEq t s:=
 ⟨⟨h.1.1.symm,fun i hi=>(h.1.2 i (h.1.1▸hi)).symm⟩,⟨h.2.1.symm,fun i hi=>(h.2.2 i (h.2.1▸hi)).symm⟩⟩
theorem PoolEq.trans{s t u:PoolD}(h:PoolEq s t)(k:PoolEq t u):PoolEq s u:=
 ⟨⟨h.1.1.trans k.1.1,fun i hi=>(h.1.2 i hi).trans (k.1.2 i (h.1.1▸hi))⟩,⟨h.2.1.trans k.2.1,fun i hi=>(h.2.2 i hi).trans (k.2.2 i (h.2.1▸hi))⟩⟩
def SameIn(lo hi:Nat)(w w':World):Prop:=∀k,lo≤k→k<hi→w'.heap[k]?=w.heap[k]?
theorem SameIn.cell{lo hi:Nat}{w w':World}(h:SameIn lo hi w w'){b o:Nat}(h1:lo≤b)(h2:b<hi):w'.cell? ⟨b,o,none⟩=w.cell? ⟨b,o,none⟩:=
 World.cell?_of_block (w:=w) (h b h1 h2)
theorem lt_of_cell{w:World}{b o:Nat}{v:Value}(h:w.cell? ⟨b,o,none⟩=some v):b<w.heap.size:=by
 simp only [World.cell?] at h
 by_cases hb:b<w.heap.size
 ·exact hb
 ·rw [Array.getElem?_eq_none (by omega)] at h
  simp at h
def IntsAt(w:World)(lo hi:Nat)(v:Value)(n:Nat)(f:Nat→Int):Prop:=
 n≤maxLen∧∃a cap,v = .slice a n cap∧n≤cap∧(0<n→∃b off,a=some ⟨b,off,none⟩∧lo≤b∧b<hi∧∀i,i<n→w.cell? ⟨b,off+i,none⟩=some (.int .i64 (f i)))
def PtrsAt(w:World)(lo hi:Nat)(v:Value)(n:Nat)(fs fb:Nat→Int):Prop:=
 n≤maxLen∧∃a cap,v = .slice a n cap∧n≤cap∧(0<n→∃b off,a=some ⟨b,off,none⟩∧lo≤b∧b<hi∧∀i,i<n→w.cell? ⟨b,off+i*2,none⟩=some (.int .i64 (fs i))∧w.cell? ⟨b,off+i*2+1,none⟩=some (.int .i64 (fb i)))
def SlotAt(w:World)(lo hi:Nat)(v0 v1 v2:Value)(s:SlotD):Prop:=
 v0 = .int .i64 s.birth∧PtrsAt w lo hi v1 s.kn s.ks s.kb∧v2 = .string s.data∧s.data.size≤maxLen
def SlotsAt(w:World)(lo hi:Nat)(v:Value)(n:Nat)(f:Nat→SlotD):Prop:=
 n≤maxLen∧∃a cap,v = .slice a n cap∧n≤cap∧(0<n→∃b off,a=some ⟨b,off,none⟩∧lo≤b∧b<hi∧∀i,i<n→∃v0 v1 v2,w.cell? ⟨b,off+i*3,none⟩=some v0∧w.cell? ⟨b,off+i*3+1,none⟩=some v1∧w.cell? ⟨b,off+i*3+2,none⟩=some v2∧SlotAt w lo hi v0 v1 v2 (f i))
def PoolAt(w:World)(lo hi:Nat)(v0 v1:Value)(p:PoolD):Prop:=SlotsAt w lo hi v0 p.n p.s∧IntsAt w lo hi v1 p.hn p.h
theorem IntsAt.same{w w':World}{lo hi:Nat}{v:Value}{n:Nat}{f:Nat→Int}(h:IntsAt w lo hi v n f)(s:SameIn lo hi w w'):IntsAt w' lo hi v n f:=by
 obtain⟨h0,a,cap,hv,hcc,hc⟩:=h
 refine⟨h0,a,cap,hv,hcc,fun hn=>?_⟩
 obtain⟨b,off,ha,h1,h2,h3⟩:=hc hn
 exact⟨b,off,ha,h1,h2,fun i hi=>by rw [s.cell h1 h2]; exact h3 i hi⟩
theorem PtrsAt.same{w w':World}{lo hi:Nat}{v:Value}{n:Nat}{f g:Nat→Int}(h:PtrsAt w lo hi v n f g)(s:SameIn lo hi w w'):PtrsAt w' lo hi v n f g:=by
 obtain⟨h0,a,cap,hv,hcc,hc⟩:=h
 refine⟨h0,a,cap,hv,hcc,fun hn=>?_⟩
 obtain⟨b,off,ha,h1,h2,h3⟩:=hc hn
 exact⟨b,off,ha,h1,h2,fun i hi=>by rw [s.cell h1 h2,s.cell h1 h2]; exact h3 i hi⟩
theorem SlotAt.same{w w':World}{lo hi:Nat}{v0 v1 v2:Value}{t:SlotD}(h:SlotAt w lo hi v0 v1 v2 t)(s:SameIn lo hi w w'):SlotAt w' lo hi v0 v1 v2 t:=
 ⟨h.1,h.2.1.same s,h.2.2⟩
theorem SlotsAt.same{w w':World}{lo hi:Nat}{v:Value}{n:Nat}{f:Nat→SlotD}(h:SlotsAt w lo hi v n f)(s:SameIn lo hi w w'):SlotsAt w' lo hi v n f:=by
 obtain⟨h0,a,cap,hv,hcc,hc⟩:=h
 refine⟨h0,a,cap,hv,hcc,fun hn=>?_⟩
 obtain⟨b,off,ha,h1,h2,h3⟩:=hc hn
 refine⟨b,off,ha,h1,h2,fun i hi=>?_⟩
 obtain⟨v0,v1,v2,c0,c1,c2,hs⟩:=h3 i hi
 exact⟨v0,v1,v2,by rw [s.cell h1 h2]; exact c0,by rw [s.cell h1 h2]; exact c1,by rw [s.cell h1 h2]; exact c2,hs.same s⟩
theorem PoolAt.same{w w':World}{lo hi:Nat}{v0 v1:Value}{p:PoolD}(h:PoolAt w lo hi v0 v1 p)(s:SameIn lo hi w w'):PoolAt w' lo hi v0 v1 p:=⟨h.1.same s,h.2.same s⟩
theorem SameIn.of_below{lo hi:Nat}{w w':World}(h:Below w.heap.size w w')(hh:hi≤w.heap.size):SameIn lo hi w w':=fun k _ h2=>h.block k (by omega)
theorem IntsAt.below{w w':World}{lo hi:Nat}{v:Value}{n:Nat}{f:Nat→Int}(h:IntsAt w lo hi v n f)(s:Below w.heap.size w w'):IntsAt w' lo hi v n f:=by
 obtain⟨h0,a,cap,hv,hcc,hc⟩:=h
 refine⟨h0,a,cap,hv,hcc,fun hn=>?_⟩
 obtain⟨b,off,ha,h1,h2,h3⟩:=hc hn
 exact⟨b,off,ha,h1,h2,fun i hi=>(s.cell (lt_of_cell (h3 i hi))).trans (h3 i hi)⟩
theorem PtrsAt.below{w w':World}{lo hi:Nat}{v:Value}{n:Nat}{f g:Nat→Int}(h:PtrsAt w lo hi v n f g)(s:Below w.heap.size w w'):PtrsAt w' lo hi v n f g:=by
 obtain⟨h0,a,cap,hv,hcc,hc⟩:=h
 refine⟨h0,a,cap,hv,hcc,fun hn=>?_⟩
 obtain⟨b,off,ha,h1,h2,h3⟩:=hc hn
 exact⟨b,off,ha,h1,h2,fun i hi=>⟨(s.cell (lt_of_cell (h3 i hi).1)).trans (h3 i hi).1,(s.cell (lt_of_cell (h3 i hi).2)).trans (h3 i hi).2⟩⟩
theorem SlotAt.below{w w':World}{lo hi:Nat}{v0 v1 v2:Value}{t:SlotD}(h:SlotAt w lo hi v0 v1 v2 t)(s:Below w.heap.size w w'):SlotAt w' lo hi v0 v1 v2 t:=
 ⟨h.1,h.2.1.below s,h.2.2⟩
theorem SlotsAt.below{w w':World}{lo hi:Nat}{v:Value}{n:Nat}{f:Nat→SlotD}(h:SlotsAt w lo hi v n f)(s:Below w.heap.size w w'):SlotsAt w' lo hi v n f:=by
 obtain⟨h0,a,cap,hv,hcc,hc⟩:=h
 refine⟨h0,a,cap,hv,hcc,fun hn=>?_⟩
 obtain⟨b,off,ha,h1,h2,h3⟩:=hc hn
 refine⟨b,off,ha,h1,h2,fun i hi=>?_⟩
 obtain⟨v0,v1,v2,c0,c1,c2,hs⟩:=h3 i hi
 exact⟨v0,v1,v2,(s.cell (lt_of_cell c0)).trans c0,(s.cell (lt_of_cell c1)).trans c1,(s.cell (lt_of_cell c2)).trans c2,hs.below s⟩
theorem PoolAt.below{w w':World}{lo hi:Nat}{v0 v1:Value}{p:PoolD}(h:PoolAt w lo hi v0 v1 p)(s:Below w.heap.size w w'):PoolAt w' lo hi v0 v1 p:=⟨h.1.below s,h.2.below s⟩
structure Turned (S:Nat→Prop) (w w':World):Prop where
 os:w'.os=w.os
 tape:w'.tape=w.tape
 output:w'.output=w.output
 size:w.heap.size≤w'.heap.size
 block:∀k,k<w.heap.size→¬S k→w'.heap[k]?=w.heap[k]?
theorem Turned.refl(S:Nat→Prop)(w:World):Turned S w w:=⟨rfl,rfl,rfl,Nat.le_refl _,fun _ _ _=>rfl⟩
theorem Turned.trans{S:Nat→Prop}{a b c:World}(h:Turned S a b)(k:Turned S b c):Turned S a c:=
 ⟨k.os.trans h.os,k.tape.trans h.tape,k.output.trans h.output,Nat.le_trans h.size k.size,fun i hi hs=>(k.block i (Nat.lt_of_lt_of_le hi h.size) hs).trans (h.block i hi hs)⟩
theorem Turned.mono{S T:Nat→Prop}{a b:World}(h:Turned S a b)(hst:∀k,S k→T k):Turned T a b:=
 ⟨h.os,h.tape,h.output,h.size,fun i hi hs=>h.block i hi (fun x=>hs (hst i x))⟩
theorem Turned.of_below{S:Nat→Prop}{w w':World}(h:Below w.heap.size w w'):Turned S w w':=⟨h.os,h.tape,h.output,h.size,fun k hk _=>h.block k hk⟩
theorem Turned.below{S:Nat→Prop}{w w':World}(h:Turned S w w'){B:Nat}(hB:B≤w.heap.size)(hs:∀k,S k→B≤k):Below B w w':=
 ⟨h.os,h.tape,h.output,h.size,fun k hk=>h.block k (by omega) (fun x=>by have:=hs k x; omega)⟩
theorem Turned.setCell{S:Nat→Prop}{w w':World}(h:Turned S w w'){p:Addr}(hp:S p.block)(u:Value):Turned S w (w'.setCell p u):=
 h.trans ⟨rfl,rfl,rfl,by simp,fun k _ hs=>Below.heap_setCell _ _ _ _ (fun e=>hs (e▸hp))⟩
theorem Turned.put(w:World)(b o:Nat)(u:Value):Turned (fun k=>k=b) w (w.setCell ⟨b,o,none⟩ u):=
 (Turned.refl (fun k=>k=b) w).setCell (p:=⟨b,o,none⟩) rfl u
theorem Turned.alloc{S:Nat→Prop}{w w':World}(h:Turned S w w')(o:Obj):Turned S w (w'.alloc o):=
 h.trans ⟨rfl,rfl,rfl,by simp,fun k hk _=>Below.heap_alloc _ _ _ hk⟩
theorem Turned.cell{S:Nat→Prop}{w w':World}(h:Turned S w w'){b o:Nat}(hb:b<w.heap.size)(hs:¬S b):w'.cell? ⟨b,o,none⟩=w.cell? ⟨b,o,none⟩:=
 World.cell?_of_block (w:=w) (h.block b hb hs)
theorem Turned.frozen{S:Nat→Prop}{w w':World}(h:Turned S w w'){b o:Nat}(hb:b<w.heap.size)(hs:¬S b):w'.frozen? ⟨b,o,none⟩=w.frozen? ⟨b,o,none⟩:=
 World.frozen?_of_block (w:=w) (h.block b hb hs)
theorem Turned.same{S:Nat→Prop}{w w':World}(h:Turned S w w'){lo hi:Nat}(hh:hi≤w.heap.size)(hs:∀k,S k→k<lo∨hi≤k):SameIn lo hi w w':=
 fun k h1 h2=>h.block k (by omega) (fun x=>by have:=hs k x; omega)
def Cell(w:World)(b o:Nat)(v:Value):Prop:=w.cell? ⟨b,o,none⟩=some v∧w.frozen? ⟨b,o,none⟩=false
theorem Cell.lt{w:World}{b o:Nat}{v:Value}(h:Cell w b o v):b<w.heap.size:=lt_of_cell h.1
theorem Cell.turned{S:Nat→Prop}{w w':World}{b o:Nat}{v:Value}(h:Cell w b o v)(t:Turned S w w')(hs:¬S b):Cell w' b o v:=
 ⟨(t.cell h.lt hs).trans h.1,(t.frozen h.lt hs).trans h.2⟩
theorem Cell.below{w w':World}{b o:Nat}{v:Value}(h:Cell w b o v)(t:Below w.heap.size w w'):Cell w' b o v:=
 ⟨(t.cell h.lt).trans h.1,(t.frozen h.lt).trans h.2⟩
theorem Cell.set{w:World}{b o:Nat}{v:Value}(h:Cell w b o v)(u:Value):Cell (w.setCell ⟨b,o,none⟩ u) b o u:=
 ⟨World.cell?_setCell_same' _ _ _ (by rw [h.1]; rfl),by rw [World.frozen?_setCell]; exact h.2⟩
theorem Cell.other{w:World}{b o:Nat}{v:Value}(h:Cell w b o v){b' o':Nat}(u:Value)(hne:b'≠b∨o'≠o):Cell (w.setCell ⟨b',o',none⟩ u) b o v:=by
 refine⟨?_,by rw [World.frozen?_setCell]; exact h.2⟩
 rw [World.cell?_setCell_other]
 ·exact h.1
 ·intro e
  simp only [Addr.mk.injEq] at e
  rcases hne with h | h
  ·exact h e.1
  ·exact h e.2.1
def Room(w:World)(b:Nat)(a:Option Addr)(n cap:Nat):Prop:=n<cap→0<n∧a=some ⟨b,0,none⟩∧cap≤maxLen∧∃cur,w.heap[b]?=some (.cells cur 2 (0,0))∧cur.size=cap
def IntsOwn(w:World)(b:Nat)(v:Value)(n:Nat)(f:Nat→Int):Prop:=
 n≤maxLen∧∃a cap,v = .slice a n cap∧n≤cap∧(0<n→∃off,a=some ⟨b,off,none⟩∧∀i,i<n→Cell w b (off+i) (.int .i64 (f i)))∧Room w b a n cap
def PtrsOwn(w:World)(b:Nat)(v:Value)(n:Nat)(fs fb:Nat→Int):Prop:=
 n≤maxLen∧∃a cap,v = .slice a n cap∧n≤cap∧(0<n→∃off,a=some ⟨b,off,none⟩∧∀i,i<n→Cell w b (off+i*2) (.int .i64 (fs i))∧Cell w b (off+i*2+1) (.int .i64 (fb i)))
theorem IntsOwn.at{w:World}{b:Nat}{v:Value}{n:Nat}{f:Nat→Int}(h:IntsOwn w b v n f){lo hi:Nat}(hb:0<n→lo≤b∧b<hi):IntsAt w lo hi v n f:=by
 obtain⟨h0,a,cap,hv,hcc,hc,hr⟩:=h
 refine⟨h0,a,cap,hv,hcc,fun hn=>?_⟩
 obtain⟨off,ha,h3⟩:=hc hn
 exact⟨b,off,ha,(hb hn).1,(hb hn).2,fun i hi=>(h3 i hi).1⟩
theorem PtrsOwn.at{w:World}{b:Nat}{v:Value}{n:Nat}{f g:Nat→Int}(h:PtrsOwn w b v n f g){lo hi:Nat}(hb:0<n→lo≤b∧b<hi):PtrsAt w lo hi v n f g:=by
 obtain⟨h0,a,cap,hv,hcc,hc⟩:=h
 refine⟨h0,a,cap,hv,hcc,fun hn=>?_⟩
 obtain⟨off,ha,h3⟩:=hc hn
 exact⟨b,off,ha,(hb hn).1,(hb hn).2,fun i hi=>⟨(h3 i hi).1.1,(h3 i hi).2.1⟩⟩
theorem IntsOwn.turned{S:Nat→Prop}{w w':World}{b:Nat}{v:Value}{n:Nat}{f:Nat→Int}(h:IntsOwn w b v n f)(t:Turned S w w')(hs:0<n→¬S b):IntsOwn w' b v n f:=by
 obtain⟨h0,a,cap,hv,hcc,hc,hr⟩:=h
 refine⟨h0,a,cap,hv,hcc,fun hn=>?_,fun hlt=>?_⟩
 rotate_left
 ·obtain⟨r0,r1,r2,cur,r3,r4⟩:=hr hlt
  exact⟨r0,r1,r2,cur,(t.block b (Array.getElem?_eq_some_iff.1 r3).1 (hs r0)).trans r3,r4⟩
 obtain⟨off,ha,h3⟩:=hc hn
 exact⟨off,ha,fun i hi=>(h3 i hi).turned t (hs hn)⟩
theorem PtrsOwn.turned{S:Nat→Prop}{w w':World}{b:Nat}{v:Value}{n:Nat}{f g:Nat→Int}(h:PtrsOwn w b v n f g)(t:Turned S w w')(hs:0<n→¬S b):PtrsOwn w' b v n f g:=by
 obtain⟨h0,a,cap,hv,hcc,hc⟩:=h
 refine⟨h0,a,cap,hv,hcc,fun hn=>?_⟩
 obtain⟨off,ha,h3⟩:=hc hn
 exact⟨off,ha,fun i hi=>⟨(h3 i hi).1.turned t (hs hn),(h3 i hi).2.turned t (hs hn)⟩⟩
theorem PtrsOwn.below{w w':World}{b:Nat}{v:Value}{n:Nat}{f g:Nat→Int}(h:PtrsOwn w b v n f g)(t:Below w.heap.size w w'):PtrsOwn w' b v n f g:=
 h.turned (Turned.of_below (S:=fun _=>False) t) (fun _ h=>h)
theorem IntsOwn.below{w w':World}{b:Nat}{v:Value}{n:Nat}{f:Nat→Int}(h:IntsOwn w b v n f)(t:Below w.heap.size w w'):IntsOwn w' b v n f:=
 h.turned (Turned.of_below (S:=fun _=>False) t) (fun _ h=>h)
theorem PtrsOwn.congr{w:World}{b:Nat}{v:Value}{n:Nat}{f g f' g':Nat→Int}(h:PtrsOwn w b v n f g)(e:∀i,i<n→f i=f' i∧g i=g' i):PtrsOwn w b v n f' g':=by
 obtain⟨h0,a,cap,hv,hcc,hc⟩:=h
 refine⟨h0,a,cap,hv,hcc,fun hn=>?_⟩
 obtain⟨off,ha,h3⟩:=hc hn
 exact⟨off,ha,fun i hi=>⟨(e i hi).1▸(h3 i hi).1,(e i hi).2▸(h3 i hi).2⟩⟩
theorem IntsOwn.congr{w:World}{b:Nat}{v:Value}{n:Nat}{f f':Nat→Int}(h:IntsOwn w b v n f)(e:∀i,i<n→f i=f' i):IntsOwn w b v n f':=by
 obtain⟨h0,a,cap,hv,hcc,hc,hr⟩:=h
 refine⟨h0,a,cap,hv,hcc,fun hn=>?_,hr⟩
 obtain⟨off,ha,h3⟩:=hc hn
 exact⟨off,ha,fun i hi=>(e i hi)▸(h3 i hi)⟩
structure SlotOwn (w:World) (bs o kb:Nat) (kv:Value) (s:SlotD):Prop where
 birth:Cell w bs o (.int .i64 s.birth)
 kidsv:Cell w bs (o+1) kv
 data:Cell w bs (o+2) (.string s.data)
 kids:PtrsOwn w kb kv s.kn s.ks s.kb
 small:s.data.size≤maxLen
 apart:0<s.kn→kb≠bs
theorem SlotOwn.turned{S:Nat→Prop}{w w':World}{bs o kb:Nat}{kv:Value}{s:SlotD}(h:SlotOwn w bs o kb kv s)(t:Turned S w w')(h1:¬S bs)(h2:0<s.kn→¬S kb):SlotOwn w' bs o kb kv s:=
 ⟨h.birth.turned t h1,h.kidsv.turned t h1,h.data.turned t h1,h.kids.turned t h2,h.small,h.apart⟩
theorem SlotOwn.below{w w':World}{bs o kb:Nat}{kv:Value}{s:SlotD}(h:SlotOwn w bs o kb kv s)(t:Below w.heap.size w w'):SlotOwn w' bs o kb kv s:=
 h.turned (Turned.of_below (S:=fun _=>False) t) (fun h=>h) (fun _ h=>h)
theorem SlotOwn.at{w:World}{bs o kb:Nat}{kv:Value}{s:SlotD}(h:SlotOwn w bs o kb kv s){lo hi:Nat}(hb:0<s.kn→lo≤kb∧kb<hi):SlotAt w lo hi (.int .i64 s.birth) kv (.string s.data) s:=
 ⟨rfl,h.kids.at hb,rfl,h.small⟩
def SlotsOwn(w:World)(bs:Nat)(kb:Nat→Nat)(kv:Nat→Value)(v:Value)(n:Nat)(f:Nat→SlotD):Prop:=
 n≤maxLen∧∃a cap,v = .slice a n cap∧n≤cap∧(0<n→∃off,a=some ⟨bs,off,none⟩∧∀i,i<n→SlotOwn w bs (off+i*3) (kb i) (kv i) (f i))
def KidsApart(kb:Nat→Nat)(n:Nat)(f:Nat→SlotD):Prop:=∀i j,i<n→j<n→i≠j→0<(f i).kn→0<(f j).kn→kb i≠kb j
def SlotsIn(lo hi bs:Nat)(kb:Nat→Nat)(n:Nat)(f:Nat→SlotD):Prop:=0<n→(lo≤bs∧bs<hi)∧∀i,i<n→0<(f i).kn→lo≤kb i∧kb i<hi
theorem SlotsOwn.at{w:World}{bs:Nat}{kb:Nat→Nat}{kv:Nat→Value}{v:Value}{n:Nat}{f:Nat→SlotD}(h:SlotsOwn w bs kb kv v n f){lo hi:Nat}(hb:SlotsIn lo hi bs kb n f):SlotsAt w lo hi v n f:=by
 obtain⟨h0,a,cap,hv,hcc,hc⟩:=h
 refine⟨h0,a,cap,hv,hcc,fun hn=>?_⟩
 obtain⟨off,ha,h3⟩:=hc hn
 refine⟨bs,off,ha,(hb hn).1.1,(hb hn).1.2,fun i hi=>?_⟩
 exact⟨_,_,_,(h3 i hi).birth.1,(h3 i hi).kidsv.1,(h3 i hi).data.1,(h3 i hi).at ((hb hn).2 i hi)⟩
theorem SlotsOwn.below{w w':World}{bs:Nat}{kb:Nat→Nat}{kv:Nat→Value}{v:Value}{n:Nat}{f:Nat→SlotD}(h:SlotsOwn w bs kb kv v n f)(t:Below w.heap.size w w'):SlotsOwn w' bs kb kv v n f:=by
 obtain⟨h0,a,cap,hv,hcc,hc⟩:=h
 refine⟨h0,a,cap,hv,hcc,fun hn=>?_⟩
 obtain⟨off,ha,h3⟩:=hc hn
 exact⟨off,ha,fun i hi=>(h3 i hi).below t⟩
theorem SlotsOwn.turned{S:Nat→Prop}{w w':World}{bs:Nat}{kb:Nat→Nat}{kv:Nat→Value}{v:Value}{n:Nat}{f:Nat→SlotD}(h:SlotsOwn w bs kb kv v n f)(t:Turned S w w')
  (h1:0<n→¬S bs) (h2:∀i,i<n→0<(f i).kn→¬S (kb i)):SlotsOwn w' bs kb kv v n f:=by
 obtain⟨h0,a,cap,hv,hcc,hc⟩:=h
 refine⟨h0,a,cap,hv,hcc,fun hn=>?_⟩
 obtain⟨off,ha,h3⟩:=hc hn
 exact⟨off,ha,fun i hi=>(h3 i hi).turned t (h1 hn) (h2 i hi)⟩
def Box2(w:World)(b:Nat)(v0 v1:Value):Prop:=Cell w b 0 v0∧Cell w b 1 v1
theorem Box2.below{w w':World}{b:Nat}{v0 v1:Value}(h:Box2 w b v0 v1)(t:Below w.heap.size w w'):Box2 w' b v0 v1:=⟨h.1.below t,h.2.below t⟩
theorem Box2.turned{S:Nat→Prop}{w w':World}{b:Nat}{v0 v1:Value}(h:Box2 w b v0 v1)(t:Turned S w w')(hs:¬S b):Box2 w' b v0 v1:=⟨h.1.turned t hs,h.2.turned t hs⟩
theorem Box2.new(w:World)(v0 v1:Value)(t:TypeId):Box2 (w.alloc (.cells #[v0,v1] t)) w.heap.size v0 v1:=
 ⟨⟨by rw [World.cell?_alloc_at (hn:=rfl)]; rfl,by rw [World.frozen?_alloc_at (hn:=rfl)]⟩,⟨by rw [World.cell?_alloc_at (hn:=rfl)]; rfl,by rw [World.frozen?_alloc_at (hn:=rfl)]⟩⟩
def Box3(w:World)(b:Nat)(v0 v1 v2:Value):Prop:=Cell w b 0 v0∧Cell w b 1 v1∧Cell w b 2 v2
theorem Box3.below{w w':World}{b:Nat}{v0 v1 v2:Value}(h:Box3 w b v0 v1 v2)(t:Below w.heap.size w w'):Box3 w' b v0 v1 v2:=⟨h.1.below t,h.2.1.below t,h.2.2.below t⟩
theorem Box3.turned{S:Nat→Prop}{w w':World}{b:Nat}{v0 v1 v2:Value}(h:Box3 w b v0 v1 v2)(t:Turned S w w')(hs:¬S b):Box3 w' b v0 v1 v2:=⟨h.1.turned t hs,h.2.1.turned t hs,h.2.2.turned t hs⟩
theorem Box3.new(w:World)(v0 v1 v2:Value)(t:TypeId):Box3 (w.alloc (.cells #[v0,v1,v2] t)) w.heap.size v0 v1 v2:=
 ⟨⟨by rw [World.cell?_alloc_at (hn:=rfl)]; rfl,by rw [World.frozen?_alloc_at (hn:=rfl)]⟩,⟨by rw [World.cell?_alloc_at (hn:=rfl)]; rfl,by rw [World.frozen?_alloc_at (hn:=rfl)]⟩,⟨by rw [World.cell?_alloc_at (hn:=rfl)]; rfl,by rw [World.frozen?_alloc_at (hn:=rfl)]⟩⟩
theorem Box3.put{w:World}{b:Nat}{v0 v1 v2:Value}(h:Box3 w b v0 v1 v2)(u0 u1 u2:Value):Box3 (((w.setCell ⟨b,0,none⟩ u0).setCell ⟨b,1,none⟩ u1).setCell ⟨b,2,none⟩ u2) b u0 u1 u2:=
 ⟨((h.1.set u0).other _ (Or.inr (by omega))).other _ (Or.inr (by omega)),((h.2.1.other _ (Or.inr (by omega))).set u1).other _ (Or.inr (by omega)),((h.2.2.other _ (Or.inr (by omega))).other _ (Or.inr (by omega))).set u2⟩
theorem Box2.put{w:World}{b:Nat}{v0 v1:Value}(h:Box2 w b v0 v1)(u0 u1:Value):Box2 ((w.setCell ⟨b,0,none⟩ u0).setCell ⟨b,1,none⟩ u1) b u0 u1:=
 ⟨(h.1.set u0).other _ (Or.inr (by omega)),(h.2.other _ (Or.inr (by omega))).set u1⟩
theorem Box3.other{w:World}{b:Nat}{v0 v1 v2:Value}(h:Box3 w b v0 v1 v2){b' o':Nat}(u:Value)(hne:b'≠b):Box3 (w.setCell ⟨b',o',none⟩ u) b v0 v1 v2:=
 ⟨h.1.other u (Or.inl hne),h.2.1.other u (Or.inl hne),h.2.2.other u (Or.inl hne)⟩
theorem Box2.other{w:World}{b:Nat}{v0 v1:Value}(h:Box2 w b v0 v1){b' o':Nat}(u:Value)(hne:b'≠b):Box2 (w.setCell ⟨b',o',none⟩ u) b v0 v1:=
 ⟨h.1.other u (Or.inl hne),h.2.other u (Or.inl hne)⟩
theorem PtrsOwn.put{w:World}{b:Nat}{v:Value}{n:Nat}{f g:Nat→Int}(h:PtrsOwn w b v n f g){b' o':Nat}(u:Value)(hne:b'≠b):PtrsOwn (w.setCell ⟨b',o',none⟩ u) b v n f g:=
 h.turned (Turned.put w b' o' u) (fun _ e=>hne e.symm)
theorem IntsOwn.put{w:World}{b:Nat}{v:Value}{n:Nat}{f:Nat→Int}(h:IntsOwn w b v n f){b' o':Nat}(u:Value)(hne:b'≠b):IntsOwn (w.setCell ⟨b',o',none⟩ u) b v n f:=
 h.turned (Turned.put w b' o' u) (fun _ e=>hne e.symm)
theorem below_alloc(w:World)(o:Obj):Below w.heap.size w (w.alloc o):=(Below.refl _ _).alloc (Nat.le_refl _) o
theorem cell_of_block{w:World}{b i:Nat}{cs:Array Value}{t:TypeId}{v:Value}(h:w.heap[b]?=some (.cells cs t))(hi:cs[i]?=some v):Cell w b i v:=by
 refine⟨?_,?_⟩
 ·simp [World.cell?,h,hi]
 ·simp [World.frozen?,h]
theorem heap_setCell_at{w:World}{b o:Nat}{cs:Array Value}{t:TypeId}(v:Value)(h:w.heap[b]?=some (.cells cs t)):(w.setCell ⟨b,o,none⟩ v).heap[b]?=some (.cells (cs.setIfInBounds o v) t):=by
 simp [World.setCell,Array.getElem?_modify,h]
theorem owns_form{w:World}{base e size:Nat}{v:Value}{n:Nat}{xs:List Value}(h:w.ownsRow base e size v n xs):∃a cap,v = .slice a n cap∧n≤cap:=by
 obtain⟨_,⟨h,rfl⟩ | ⟨g,cap,cur,hv,_,_,hle,_⟩⟩:=h
 ·exact⟨none,0,h,Nat.le_refl _⟩
 ·exact⟨_,cap,hv,hle⟩
theorem owns_cell{w:World}{base e size:Nat}{v:Value}{n:Nat}{xs:List Value}(h:w.ownsRow base e size v n xs)(hn:0<n) :
  ∃g cap,v = .slice (some ⟨g,0,none⟩) n cap∧n≤cap∧base≤g∧g<w.heap.size∧∀j u,xs[j]?=some u→Cell w g j u:=by
 obtain⟨_,⟨h,rfl⟩ | ⟨g,cap,cur,hv,hb,hg,h1,h2,h3,h4⟩⟩:=h
 ·omega
 ·refine⟨g,cap,hv,h1,hb,?_,fun j u hj=>?_⟩
  ·by_cases hlt:g<w.heap.size
   ·exact hlt
   ·rw [Array.getElem?_eq_none (by omega)] at hg; simp at hg
  ·refine⟨?_,?_⟩
   ·simp only [World.cell?,hg]
    have hj':(cur.toList.take (n*size))[j]?=some u:=by rw [h4]; exact hj
    rw [List.getElem?_take] at hj'
    split at hj'
    ·simpa using hj'
    ·simp at hj'
   ·simp only [World.frozen?,hg]
    simp
theorem grown_block{w w1:World}{v:Value}{b base e size n:Nat}{xs:List Value}(hg:w.grownBy w1 v.ownBlock)(hown:w.ownsRow base e size v n xs)(hb:b<base)(hlt:b<w.heap.size):w1.heap[b]?=w.heap[b]?:=
 hg.block b hlt (fun e=>by have:=hown.lt b e.symm; omega)
end Go.Proofs.YtmgeglgboadfiaaGreatDoor

namespace Go.Proofs.YtmgeglgboadfiaaGreatDoor
open Go.RowKit
set_option linter.unusedVariables false
def SlotsB(bs:Nat)(kb:Nat→Nat)(n:Nat)(f:Nat→SlotD)(k:Nat):Prop:=(0<n∧k=bs)∨∃i,i<n∧0<(f i).kn∧k=kb i
theorem SlotsOwn.lt{w:World}{bs:Nat}{kb:Nat→Nat}{kv:Nat→Value}{v:Value}{n:Nat}{f:Nat→SlotD}(h:SlotsOwn w bs kb kv v n f){k:Nat}(hk:SlotsB bs kb n f k):k<w.heap.size:=by
 obtain⟨_,a,cap,_,_,hc⟩:=h
 rcases hk with⟨h0,rfl⟩ | ⟨i,hi,h0,rfl⟩
 ·obtain⟨off,_,h3⟩:=hc h0
  exact(h3 0 h0).birth.lt
 ·obtain⟨off,_,h3⟩:=hc (by omega)
  obtain⟨_,_,_,_,_,h4⟩:=(h3 i hi).kids
  obtain⟨o,_,h5⟩:=h4 h0
  exact(h5 0 h0).1.lt
def PoolOwn(w:World)(lo hi:Nat)(v0 v1:Value)(p:PoolD):Prop:=
 ∃(bs hb:Nat) (kb:Nat→Nat) (kv:Nat→Value),SlotsOwn w bs kb kv v0 p.n p.s∧KidsApart kb p.n p.s∧IntsOwn w hb v1 p.hn p.h∧(0<p.hn→¬SlotsB bs kb p.n p.s hb)∧
  ∀k,SlotsB bs kb p.n p.s k∨(0<p.hn∧k=hb)→lo≤k∧k<hi
theorem PoolOwn.at{w:World}{lo hi:Nat}{v0 v1:Value}{p:PoolD}(h:PoolOwn w lo hi v0 v1 p):PoolAt w lo hi v0 v1 p:=by
 obtain⟨bs,hb,kb,kv,h1,h2,h3,h4,h5⟩:=h
 exact⟨h1.at fun h0=>⟨h5 _ (Or.inl (Or.inl ⟨h0,rfl⟩)),fun i hi h=>h5 _ (Or.inl (Or.inr ⟨i,hi,h,rfl⟩))⟩,h3.at fun h0=>h5 _ (Or.inr ⟨h0,rfl⟩)⟩
theorem PoolOwn.below{w w':World}{lo hi:Nat}{v0 v1:Value}{p:PoolD}(h:PoolOwn w lo hi v0 v1 p)(t:Below w.heap.size w w'):PoolOwn w' lo hi v0 v1 p:=by
 obtain⟨bs,hb,kb,kv,h1,h2,h3,h4,h5⟩:=h
 exact⟨bs,hb,kb,kv,h1.below t,h2,h3.below t,h4,h5⟩
theorem PoolOwn.turned{S:Nat→Prop}{w w':World}{lo hi:Nat}{v0 v1:Value}{p:PoolD}(h:PoolOwn w lo hi v0 v1 p)(t:Turned S w w')(hs:∀k,S k→k<lo∨hi≤k):PoolOwn w' lo hi v0 v1 p:=by
 obtain⟨bs,hb,kb,kv,h1,h2,h3,h4,h5⟩:=h
 have out:∀k,SlotsB bs kb p.n p.s k∨(0<p.hn∧k=hb)→¬S k:=fun k hk hx=>by
  have a:=h5 k hk
  have b:=hs k hx
  omega
 exact⟨bs,hb,kb,kv,h1.turned t (fun h0=>out _ (Or.inl (Or.inl ⟨h0,rfl⟩))) (fun i hi h=>out _ (Or.inl (Or.inr ⟨i,hi,h,rfl⟩))),h2,h3.turned t (fun h0=>out _ (Or.inr ⟨h0,rfl⟩)),h4,h5⟩
theorem PoolOwn.wide{w:World}{lo hi lo' hi':Nat}{v0 v1:Value}{p:PoolD}(h:PoolOwn w lo hi v0 v1 p)(h1:lo'≤lo)(h2:hi≤hi'):PoolOwn w lo' hi' v0 v1 p:=by
 obtain⟨bs,hb,kb,kv,g1,g2,g3,g4,g5⟩:=h
 exact⟨bs,hb,kb,kv,g1,g2,g3,g4,fun k hk=>by have:=g5 k hk; omega⟩
theorem PoolOwn.form{w:World}{lo hi:Nat}{v0 v1:Value}{p:PoolD}(h:PoolOwn w lo hi v0 v1 p):∃a c a' c',v0 = .slice a p.n c∧v1 = .slice a' p.hn c':=by
 obtain⟨bs,hb,kb,kv,⟨_,a,c,h1,_⟩,h2,⟨_,a',c',h3,_,_⟩,h4,h5⟩:=h
 exact⟨a,c,a',c',h1,h3⟩
theorem PoolAt.form{w:World}{lo hi:Nat}{v0 v1:Value}{p:PoolD}(h:PoolAt w lo hi v0 v1 p):∃a c a' c',v0 = .slice a p.n c∧v1 = .slice a' p.hn c':=by
 obtain⟨⟨_,a,c,h1,_⟩,⟨_,a',c',h3,_⟩⟩:=h
 exact⟨a,c,a',c',h1,h3⟩
def NewPool(p:PoolD)(w:World)(e:Ending)(w':World):Prop:=∃v0 v1,e = .returned (.agg #[v0,v1])∧PoolOwn w' w.heap.size w'.heap.size v0 v1 p∧Below w.heap.size w w'
def zeroS:SlotD:={birth:=0,kn:=0,ks:=fun _=>0,kb:=fun _=>0,data:=⟨#[]⟩}
def newP(n:Nat):PoolD:={n:=n,s:=fun _=>zeroS,hn:=0,h:=fun _=>0}
theorem slotsB_zero{bs:Nat}{kb:Nat→Nat}{n k:Nat}:SlotsB bs kb n (fun _=>zeroS) k↔0<n∧k=bs:=by
 constructor
 ·rintro(h | ⟨i,_,h0,_⟩)
  ·exact h
  ·exact absurd h0 (by simp [zeroS])
 ·exact Or.inl
theorem newP_own{w:World}{lo hi g n:Nat}{v0:Value}(hn:n≤maxLen)(hv:∃a cap,v0 = .slice a n cap∧n≤cap∧(0<n→a=some ⟨g,0,none⟩∧lo≤g∧g<hi))
  (hc:∀i,i<n→Cell w g (0+i*3) (.int .i64 0)∧Cell w g (0+i*3+1) (.slice none 0 0)∧Cell w g (0+i*3+2) (.string ⟨#[]⟩)) :
  PoolOwn w lo hi v0 (.slice none 0 0) (newP n):=by
 obtain⟨a,cap,rfl,hcap,ha⟩:=hv
 refine⟨g,0,fun _=>0,fun _=>.slice none 0 0,⟨hn,a,cap,rfl,hcap,fun h0=>⟨0,(ha h0).1,fun i hi=>?_⟩⟩,fun i j _ _ _ h0 _=>absurd h0 (by simp [newP,zeroS]),⟨Nat.zero_le _,none,0,rfl,Nat.le_refl _,fun h=>absurd h (Nat.lt_irrefl _),fun h=>absurd h (Nat.lt_irrefl _)⟩,fun h=>absurd h (Nat.lt_irrefl _),?_⟩
 ·exact⟨(hc i hi).1,(hc i hi).2.1,(hc i hi).2.2,⟨Nat.zero_le _,none,0,rfl,Nat.le_refl _,fun h=>absurd h (Nat.lt_irrefl _)⟩,Nat.zero_le _,fun h=>absurd h (Nat.lt_irrefl _)⟩
 ·rintro k (h | h)
  ·obtain⟨h0,rfl⟩:=slotsB_zero.1 h
   exact(ha h0).2
  ·exact absurd h.1 (Nat.lt_irrefl _)
def slotN(s:SlotD):Nat:=s.kn+s.data.size
def slotsN(f:Nat→SlotD):Nat→Nat
 | 0=>0
 | k+1=>slotsN f k+slotN (f k)
def poolN(p:PoolD):Nat:=p.n+slotsN p.s p.n+p.hn
theorem slotN_le(f:Nat→SlotD){j n:Nat}(h:j<n):slotN (f j)≤slotsN f n:=by
 induction n with
 | zero=>omega
 | succ n ih=>
  show _≤slotsN f n+slotN (f n)
  by_cases e:j=n
  ·subst e; omega
  ·have:=ih (by omega); omega
theorem infoInt64:(Tryz.prog.info? 2).map (fun i=>(i.zero,i.size,i.bytes))=some (some (.int .i64 0),1,8):=by kernel_rfl
theorem infoPtr:(Tryz.prog.info? 61).map (fun i=>(i.zero,i.size,i.bytes))=some (some (.agg #[.int .i64 0,.int .i64 0]),2,16):=by kernel_rfl
theorem infoSlotT:(Tryz.prog.info? 127).map (fun i=>(i.zero,i.size,i.bytes))=some (some (.agg #[.int .i64 0,.slice none 0 0,.string ⟨#[]⟩]),3,48):=by kernel_rfl
def zeros(zs:Array Value)(n:Nat):Array Value:=madeCells zs (n*zs.size)
theorem zeros_at(zs:Array Value)(n i r:Nat)(hi:i<n)(hr:r<zs.size):(zeros zs n)[i*zs.size+r]?=some (zs[r]!):=by
 unfold zeros madeCells
 have h1:i*zs.size+r<n*zs.size:=by
  have:(i+1)*zs.size≤n*zs.size:=Nat.mul_le_mul_right _ hi
  rw [Nat.add_mul] at this
  omega
 have h2:(i*zs.size+r) % zs.size=r:=by rw [Nat.mul_comm,Nat.mul_add_mod]; exact Nat.mod_eq_of_lt hr
 simp only [Array.getElem?_map,Array.getElem?_range,h1,if_true,Option.map_some,h2]
theorem make_zeros(t e:TypeId)(z:Value)(size bytes:Nat)(ht:Tryz.prog.underlying t=some (.slice e))(hinfo:(Tryz.prog.info? e).map (fun i=>(i.zero,i.size,i.bytes))=some (some z,size,bytes))(hs:z.cells.size=size)
  (n:Nat) (hn:n≤1048576) (hb:bytes≤1000) (w:World):(Instr.makeSlice t (.int .i64 (n:Int)) (.int .i64 (n:Int))).run Tryz.prog w = .ok (.slice (some ⟨w.heap.size,0,none⟩) n n) (w.alloc (.cells (zeros z.cells n) e)):=by
 obtain⟨i,hi,hzz⟩:=Option.map_eq_some_iff.1 hinfo
 simp only [Prod.mk.injEq] at hzz
 obtain⟨hz,hs',hb'⟩:=hzz
 have hbn:(bytes:Int)*(n:Int)≤281474976710656:=by
  have h:bytes*n≤1000*1048576:=Nat.mul_le_mul hb hn
  have h2:((bytes*n:Nat):Int)≤((1000*1048576:Nat):Int):=Int.ofNat_le.2 h
  rw [Int.natCast_mul] at h2
  omega
 have hr:=run_make (P:=Tryz.prog) w t e i z ht hi hz .i64 .i64 n n (by omega) (Int.le_refl _) (by rw [hb']; exact hbn) (by omega)
 rw [hs',←hs] at hr
 simp only [Int.toNat_natCast] at hr
 exact hr
theorem new_cell(w:World)(zs:Array Value)(n i r:Nat)(t:TypeId)(hi:i<n)(hr:r<zs.size):Cell (w.alloc (.cells (zeros zs n) t)) w.heap.size (i*zs.size+r) (zs[r]!):=
 ⟨by rw [World.cell?_alloc_at (hn:=rfl)]; exact zeros_at zs n i r hi hr,by rw [World.frozen?_alloc_at (hn:=rfl)]⟩
end Go.Proofs.YtmgeglgboadfiaaGreatDoor

namespace Go.Proofs.YtmgeglgboadfiaaGreatDoor
open Go.RowKit Go.Extern.Stop Go.Stop Go.Extern
set_option linter.unusedVariables false
theorem hideE{P:Prop}(h:P):Hid P:=h
abbrev errV(a:Addr):Value:=.iface 269 (.pointer (some a))
def errG:Nat→Nat
 | 0=>4
 | 1=>3
 | 2=>0
 | 3=>2
 | 4=>5
 | 5=>1
 | _=>6
def errC:Nat→Int
 | 0=>1
 | 1=>2
 | 2=>4
 | 3=>5
 | 4=>6
 | 5=>7
 | _=>8
structure Errs (w:World) (p:Nat→Addr):Prop where
 cell:∀i,i<7→w.cell? ⟨errG i,0,none⟩=some (errV (p i))
 row:∀i,i<7→∃cs t,w.heap[(p i).block]?=some (.cells cs t (0,0))
 ne:∀i j,i<7→j<7→i≠j→p i≠p j
theorem Errs.below{w w':World}{p:Nat→Addr}(h:Errs w p)(t:Below w.heap.size w w'):Errs w' p:=
 ⟨fun i hi=>(t.cell (lt_of_cell (h.cell i hi))).trans (h.cell i hi),fun i hi=>by
  obtain⟨cs,ty,hc⟩:=h.row i hi
  exact⟨cs,ty,(t.block _ (Array.getElem?_eq_some_iff.1 hc).1).trans hc⟩,h.ne⟩
theorem isTypeOf(v:Value)(w:World):(Extern.ReflectliteType.typeOf #[.iface 269 v]).run Tryz.prog w = .ok (.iface 254 (.agg #[.pointer (some ⟨7,269,none⟩)])) w:=by kernel_rfl
def cmpM:Array Value→Sem Value:=Extern.ReflectliteType.method fun t=>do Extern.Rtype.noPackHeld "Comparable" t; pure (.bool (←typeInfo t).comparable)
theorem isComparable(w:World):(cmpM #[.agg #[.pointer (some ⟨7,269,none⟩)]]).run Tryz.prog w = .ok (.bool true) w:=by kernel_rfl
theorem isMethodComparable(v:Value)(w:World):(Go.method 407 254 v "Comparable").run Tryz.prog w = .ok (254,v) w:=by kernel_rfl
theorem isComp:(Tryz.prog.info? 269).map (·.comparable)=some true:=by kernel_rfl
theorem isSize:(Tryz.prog.info? 295).map (·.size)=some 1:=by kernel_rfl
theorem noIsE(v:Value)(xT:TypeId)(w:World):(Instr.typeAssert (.iface 269 v) xT 256 true).run Tryz.prog w = .ok (.tuple #[.nilIface,.bool false]) w:=run_typeAssert_lacksB Tryz.underlying256 (by kernel_rfl) (by kernel_rfl) v xT w
theorem noUnwrapE(v:Value)(xT:TypeId)(w:World):(Instr.typeAssert (.iface 269 v) xT 259 true).run Tryz.prog w = .ok (.tuple #[.nilIface,.bool false]) w:=run_typeAssert_lacksB Tryz.underlying259 (by kernel_rfl) (by kernel_rfl) v xT w
theorem noUnwrapsE(v:Value)(xT:TypeId)(w:World):(Instr.typeAssert (.iface 269 v) xT 261 true).run Tryz.prog w = .ok (.tuple #[.nilIface,.bool false]) w:=run_typeAssert_lacksB Tryz.underlying261 (by kernel_rfl) (by kernel_rfl) v xT w
set_option maxRecDepth 20000 in
set_option maxHeartbeats 400000 in
theorem is_same(a:Addr)(w:World):Calls Tryz.prog 172 #[errV a,errV a] w fun e w'=>e = .returned (.bool true)∧w'=w:=by
 obtain⟨i,hi,hcmp⟩:=Option.map_eq_some_iff.1 isComp
 obtain⟨j,hj,hjs⟩:=Option.map_eq_some_iff.1 isSize
 have h8:=@run_callFunc_extern Tryz.prog 212 _ Extern.ReflectliteType.typeOf Tryz.func212 (by kernel_rfl) (by kernel_rfl) (by kernel_rfl) (by kernel_rfl)
 have h32:=@run_callFunc_extern Tryz.prog 254 _ cmpM Tryz.func254 (by kernel_rfl) (by kernel_rfl) (by kernel_rfl) (by kernel_rfl)
 have tT:=isTypeOf
 have cT:=isComparable
 have mR:=isMethodComparable
 have heq:=run_eql_iface_ptr_same (P:=Tryz.prog) w a Tryz.underlying73 Tryz.underlying269 hi hcmp hj
 go_enter Tryz.func172,Tryz.ntmps172
 go_wp2
 refine wp_loop_rounds 1 ?_
 rw [rounds_succ]
 go_wp2
 go_ret
 exact⟨rfl,rfl⟩
set_option maxRecDepth 20000 in
set_option maxHeartbeats 400000 in
theorem is_other(a b:Addr)(ca cb:Array Value)(ta tb:TypeId)(w:World)(hne:a≠b)(ha:w.heap[a.block]?=some (.cells ca ta (0,0)))(hb:w.heap[b.block]?=some (.cells cb tb (0,0))):Calls Tryz.prog 172 #[errV a,errV b] w fun e w'=>e = .returned (.bool false)∧w'=w:=by
 obtain⟨i,hi,hcmp⟩:=Option.map_eq_some_iff.1 isComp
 obtain⟨j,hj,hjs⟩:=Option.map_eq_some_iff.1 isSize
 have h8:=@run_callFunc_extern Tryz.prog 212 _ Extern.ReflectliteType.typeOf Tryz.func212 (by kernel_rfl) (by kernel_rfl) (by kernel_rfl) (by kernel_rfl)
 have h32:=@run_callFunc_extern Tryz.prog 254 _ cmpM Tryz.func254 (by kernel_rfl) (by kernel_rfl) (by kernel_rfl) (by kernel_rfl)
 have tT:=isTypeOf
 have cT:=isComparable
 have mR:=isMethodComparable
 have nE:=noIsE
 have uE:=noUnwrapE
 have vE:=noUnwrapsE
 have heq:=run_eql_iface_ptr_other (P:=Tryz.prog) w Tryz.underlying73 Tryz.underlying269 hi hcmp hj (by rw [hjs]; decide) hne ha hb
 go_enter Tryz.func172,Tryz.ntmps172
 go_wp2
 refine wp_loop_rounds 1 ?_
 rw [rounds_succ]
 go_wp2
 go_ret
 exact⟨rfl,rfl⟩
def refC(p:Nat→Addr):Array Value:=#[errV (p 0),.int .i64 1,errV (p 1),.int .i64 2,errV (p 2),.int .i64 4,errV (p 3),.int .i64 5,errV (p 4),.int .i64 6,errV (p 5),.int .i64 7,errV (p 6),.int .i64 8]
theorem refC_at(p:Nat→Addr){i:Nat}(hi:i<7):(refC p)[i*2]?=some (errV (p i))∧(refC p)[i*2+1]?=some (.int .i64 (errC i)):=by
 match i,hi with
 | 0,_=>exact⟨rfl,rfl⟩
 | 1,_=>exact⟨rfl,rfl⟩
 | 2,_=>exact⟨rfl,rfl⟩
 | 3,_=>exact⟨rfl,rfl⟩
 | 4,_=>exact⟨rfl,rfl⟩
 | 5,_=>exact⟨rfl,rfl⟩
 | 6,_=>exact⟨rfl,rfl⟩
set_option maxRecDepth 20000 in
set_option maxHeartbeats 400000 in
theorem refusals_any(p:Nat→Addr)(w:World)(h:Errs w p):Calls Tryz.prog 150 #[] w fun e w'=>e = .returned (.slice (some ⟨w.heap.size,0,none⟩) 7 7)∧w'=w.alloc (.cells (refC p) 199):=by
 have h0:w.cell? ⟨4,0,none⟩=some (errV (p 0)):=h.cell 0 (by omega)
 have h1:w.cell? ⟨3,0,none⟩=some (errV (p 1)):=h.cell 1 (by omega)
 have h2:w.cell? ⟨0,0,none⟩=some (errV (p 2)):=h.cell 2 (by omega)
 have h3:w.cell? ⟨2,0,none⟩=some (errV (p 3)):=h.cell 3 (by omega)
 have h4:w.cell? ⟨5,0,none⟩=some (errV (p 4)):=h.cell 4 (by omega)
 have h5:w.cell? ⟨1,0,none⟩=some (errV (p 5)):=h.cell 5 (by omega)
 have h6:w.cell? ⟨6,0,none⟩=some (errV (p 6)):=h.cell 6 (by omega)
 clear h
 go_enter Tryz.func150,Tryz.ntmps150
 go_wp2
 go_ret
 exact⟨rfl,rfl⟩
end Go.Proofs.YtmgeglgboadfiaaGreatDoor
