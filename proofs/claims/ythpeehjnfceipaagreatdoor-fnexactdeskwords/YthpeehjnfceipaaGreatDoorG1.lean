/- What a pool is in memory, as plain facts on cells (no law is proved here): lists of numbers, of pointers, of slots, a pool; that they stay when other blocks turn. -/
import Derived.WalkKit
import Derived.WalkSpells
import Derived.WalkLawsBesides
import Derived.Scope
import Derived.WalkMore
import Derived.Test.YthpeehjnfceipaaGreatDoorProg
import GoSem.ClaimJoined
import GoSem.ClaimMapViews
import Derived.JoinedTies
import Derived.KernelRfl
import Derived.RowKit
import Derived.Deep.OwnRows
import Derived.Deep.AppendLies
import Derived.Deep.WholeRow
namespace Go.Proofs.YthpeehjnfceipaaGreatDoor
open Go.RowKit
theorem str_eq{s t:ByteArray}(h:s=t):(s.toList == t.toList)=true:=by simp [h]
theorem below_call{w wr w1:World}(hb:Below w.heap.size w wr)(h1:Below wr.drew.heap.size wr.drew w1):Below w.heap.size w w1:=
 hb.drew.trans (h1.mono hb.size)
theorem below_next{w wr w1:World}(hb:Below w.heap.size w wr)(h1:Below wr.heap.size wr w1):Below w.heap.size w w1:=
 hb.trans (h1.mono hb.size)
structure SlotD where
 birth:Int
 kn:Nat
 ks:Nat→Int
 kb:Nat→Int
 data:ByteArray
structure PoolD where
 n:Nat
 s:Nat→SlotD
 hn:Nat
 h:Nat→Int
def IntsEq(n n':Nat)(f f':Nat→Int):Prop:=n=n'∧∀i,i<n→f i=f' i
def PtrsEq(n n':Nat)(f g f' g':Nat→Int):Prop:=n=n'∧∀i,i<n→f i=f' i∧g i=g' i
def SlotEq(s t:SlotD):Prop:=s.birth=t.birth∧PtrsEq s.kn t.kn s.ks s.kb t.ks t.kb∧s.data=t.data
def SlotsEq(n n':Nat)(f f':Nat→SlotD):Prop:=n=n'∧∀i,i<n→SlotEq (f i) (f' i)
def PoolEq(p q:PoolD):Prop:=SlotsEq p.n q.n p.s q.s∧IntsEq p.hn q.hn p.h q.h
theorem SlotEq.refl(s:SlotD):SlotEq s s:=⟨rfl,⟨rfl,fun _ _=>⟨rfl,rfl⟩⟩,rfl⟩
theorem SlotEq.symm{s t:SlotD}(h:SlotEq s t):SlotEq t s:=
 ⟨h.1.symm,⟨h.2.1.1.symm,fun i hi=>⟨(h.2.1.2 i (h.2.1.1▸hi)).1.symm,(h.2.1.2 i (h.2.1.1▸hi)).2.symm⟩⟩,h.2.2.symm⟩
theorem SlotEq.trans{s t u:SlotD}(h:SlotEq s t)(k:SlotEq t u):SlotEq s u:=
 ⟨h.1.trans k.1,⟨h.2.1.1.trans k.2.1.1,fun i hi=>⟨(h.2.1.2 i hi).1.trans (k.2.1.2 i (h.2.1.1▸hi)).1,(h.2.1.2 i hi).2.trans (k.2.1.2 i (h.2.1.1▸hi)).2⟩⟩,h.2.2.trans k.2.2⟩
theorem PoolEq.refl(p:PoolD):PoolEq p p:=⟨⟨rfl,fun _ _=>SlotEq.refl _⟩,⟨rfl,fun _ _=>rfl⟩⟩
theorem PoolEq.symm{s t:PoolD}(h:PoolEq s t):PoolEq t s:=
 ⟨⟨h.1.1.symm,fun i hi=>(h.1.2 i (h.1.1▸hi)).symm⟩,⟨h.2.1.symm,fun i hi=>(h.2.2 i (h.2.1▸hi)).symm⟩⟩
theorem PoolEq.trans{s t u:PoolD}(h:PoolEq s t)(k:PoolEq t u):PoolEq s u:=
 ⟨⟨h.1.1.trans k.1.1,fun i hi=>(h.1.2 i hi).trans (k.1.2 i (h.1.1▸hi))⟩,⟨h.2.1.trans k.2.1,fun i hi=>(h.2.2 i hi).trans (k.2.2 i (h.2.1▸hi))⟩⟩
def SameIn(lo hi:Nat)(w w':World):Prop:=∀k,lo≤k→k<hi→w'.heap[k]?=w.heap[k]?
theorem SameIn.cell{lo hi:Nat}{w w':World}(h:SameIn lo hi w w'){b o:Nat}(h1:lo≤b)(h2:b<hi):w'.cell? ⟨b,o,none⟩=w.cell? ⟨b,o,none⟩:=
 World.cell?_of_block (w:=w) (h b h1 h2)
theorem lt_of_cell{w:World}{b o:Nat}{v:Value}(h:w.cell? ⟨b,o,none⟩=some v):b<w.heap.size:=by
 simp only [World.cell?] at h
 by_cases hb:b<w.heap.size
 ·exact hb
 ·rw [Array.getElem?_eq_none (by omega)] at h
  simp at h
def IntsAt(w:World)(lo hi:Nat)(v:Value)(n:Nat)(f:Nat→Int):Prop:=
 n≤maxLen∧∃a cap,v = .slice a n cap∧n≤cap∧(0<n→∃b off,a=some ⟨b,off,none⟩∧lo≤b∧b<hi∧∀i,i<n→w.cell? ⟨b,off+i,none⟩=some (.int .i64 (f i)))
def PtrsAt(w:World)(lo hi:Nat)(v:Value)(n:Nat)(fs fb:Nat→Int):Prop:=
 n≤maxLen∧∃a cap,v = .slice a n cap∧n≤cap∧(0<n→∃b off,a=some ⟨b,off,none⟩∧lo≤b∧b<hi∧∀i,i<n→w.cell? ⟨b,off+i*2,none⟩=some (.int .i64 (fs i))∧w.cell? ⟨b,off+i*2+1,none⟩=some (.int .i64 (fb i)))
def SlotAt(w:World)(lo hi:Nat)(v0 v1 v2:Value)(s:SlotD):Prop:=
 v0 = .int .i64 s.birth∧PtrsAt w lo hi v1 s.kn s.ks s.kb∧v2 = .string s.data∧s.data.size≤maxLen
def SlotsAt(w:World)(lo hi:Nat)(v:Value)(n:Nat)(f:Nat→SlotD):Prop:=
 n≤maxLen∧∃a cap,v = .slice a n cap∧n≤cap∧(0<n→∃b off,a=some ⟨b,off,none⟩∧lo≤b∧b<hi∧∀i,i<n→∃v0 v1 v2,w.cell? ⟨b,off+i*3,none⟩=some v0∧w.cell? ⟨b,off+i*3+1,none⟩=some v1∧w.cell? ⟨b,off+i*3+2,none⟩=some v2∧SlotAt w lo hi v0 v1 v2 (f i))
def PoolAt(w:World)(lo hi:Nat)(v0 v1:Value)(p:PoolD):Prop:=SlotsAt w lo hi v0 p.n p.s∧IntsAt w lo hi v1 p.hn p.h
theorem SameIn.of_below{lo hi:Nat}{w w':World}(h:Below w.heap.size w w')(hh:hi≤w.heap.size):SameIn lo hi w w':=fun k _ h2=>h.block k (by omega)
theorem IntsAt.below{w w':World}{lo hi:Nat}{v:Value}{n:Nat}{f:Nat→Int}(h:IntsAt w lo hi v n f)(s:Below w.heap.size w w'):IntsAt w' lo hi v n f:=by
 obtain⟨h0,a,cap,hv,hcc,hc⟩:=h
 refine⟨h0,a,cap,hv,hcc,fun hn=>?_⟩
 obtain⟨b,off,ha,h1,h2,h3⟩:=hc hn
 exact⟨b,off,ha,h1,h2,fun i hi=>(s.cell (lt_of_cell (h3 i hi))).trans (h3 i hi)⟩
theorem PtrsAt.below{w w':World}{lo hi:Nat}{v:Value}{n:Nat}{f g:Nat→Int}(h:PtrsAt w lo hi v n f g)(s:Below w.heap.size w w'):PtrsAt w' lo hi v n f g:=by
 obtain⟨h0,a,cap,hv,hcc,hc⟩:=h
 refine⟨h0,a,cap,hv,hcc,fun hn=>?_⟩
 obtain⟨b,off,ha,h1,h2,h3⟩:=hc hn
 exact⟨b,off,ha,h1,h2,fun i hi=>⟨(s.cell (lt_of_cell (h3 i hi).1)).trans (h3 i hi).1,(s.cell (lt_of_cell (h3 i hi).2)).trans (h3 i hi).2⟩⟩
theorem SlotAt.below{w w':World}{lo hi:Nat}{v0 v1 v2:Value}{t:SlotD}(h:SlotAt w lo hi v0 v1 v2 t)(s:Below w.heap.size w w'):SlotAt w' lo hi v0 v1 v2 t:=
 ⟨h.1,h.2.1.below s,h.2.2⟩
theorem SlotsAt.below{w w':World}{lo hi:Nat}{v:Value}{n:Nat}{f:Nat→SlotD}(h:SlotsAt w lo hi v n f)(s:Below w.heap.size w w'):SlotsAt w' lo hi v n f:=by
 obtain⟨h0,a,cap,hv,hcc,hc⟩:=h
 refine⟨h0,a,cap,hv,hcc,fun hn=>?_⟩
 obtain⟨b,off,ha,h1,h2,h3⟩:=hc hn
 refine⟨b,off,ha,h1,h2,fun i hi=>?_⟩
 obtain⟨v0,v1,v2,c0,c1,c2,hs⟩:=h3 i hi
 exact⟨v0,v1,v2,(s.cell (lt_of_cell c0)).trans c0,(s.cell (lt_of_cell c1)).trans c1,(s.cell (lt_of_cell c2)).trans c2,hs.below s⟩
theorem PoolAt.below{w w':World}{lo hi:Nat}{v0 v1:Value}{p:PoolD}(h:PoolAt w lo hi v0 v1 p)(s:Below w.heap.size w w'):PoolAt w' lo hi v0 v1 p:=⟨h.1.below s,h.2.below s⟩
structure Turned (S:Nat→Prop) (w w':World):Prop where
 os:w'.os=w.os
 tape:w'.tape=w.tape
 output:w'.output=w.output
 size:w.heap.size≤w'.heap.size
 block:∀k,k<w.heap.size→¬S k→w'.heap[k]?=w.heap[k]?
theorem Turned.refl(S:Nat→Prop)(w:World):Turned S w w:=⟨rfl,rfl,rfl,Nat.le_refl _,fun _ _ _=>rfl⟩
theorem Turned.trans{S:Nat→Prop}{a b c:World}(h:Turned S a b)(k:Turned S b c):Turned S a c:=
 ⟨k.os.trans h.os,k.tape.trans h.tape,k.output.trans h.output,Nat.le_trans h.size k.size,fun i hi hs=>(k.block i (Nat.lt_of_lt_of_le hi h.size) hs).trans (h.block i hi hs)⟩
theorem Turned.mono{S T:Nat→Prop}{a b:World}(h:Turned S a b)(hst:∀k,S k→T k):Turned T a b:=
 ⟨h.os,h.tape,h.output,h.size,fun i hi hs=>h.block i hi (fun x=>hs (hst i x))⟩
theorem Turned.of_below{S:Nat→Prop}{w w':World}(h:Below w.heap.size w w'):Turned S w w':=⟨h.os,h.tape,h.output,h.size,fun k hk _=>h.block k hk⟩
theorem Turned.below{S:Nat→Prop}{w w':World}(h:Turned S w w'){B:Nat}(hB:B≤w.heap.size)(hs:∀k,S k→B≤k):Below B w w':=
 ⟨h.os,h.tape,h.output,h.size,fun k hk=>h.block k (by omega) (fun x=>by have:=hs k x; omega)⟩
theorem Turned.setCell{S:Nat→Prop}{w w':World}(h:Turned S w w'){p:Addr}(hp:S p.block)(u:Value):Turned S w (w'.setCell p u):=
 h.trans ⟨rfl,rfl,rfl,by simp,fun k _ hs=>Below.heap_setCell _ _ _ _ (fun e=>hs (e▸hp))⟩
theorem Turned.put(w:World)(b o:Nat)(u:Value):Turned (fun k=>k=b) w (w.setCell ⟨b,o,none⟩ u):=
 (Turned.refl (fun k=>k=b) w).setCell (p:=⟨b,o,none⟩) rfl u
theorem Turned.alloc{S:Nat→Prop}{w w':World}(h:Turned S w w')(o:Obj):Turned S w (w'.alloc o):=
 h.trans ⟨rfl,rfl,rfl,by simp,fun k hk _=>Below.heap_alloc _ _ _ hk⟩
theorem Turned.cell{S:Nat→Prop}{w w':World}(h:Turned S w w'){b o:Nat}(hb:b<w.heap.size)(hs:¬S b):w'.cell? ⟨b,o,none⟩=w.cell? ⟨b,o,none⟩:=
 World.cell?_of_block (w:=w) (h.block b hb hs)
theorem Turned.frozen{S:Nat→Prop}{w w':World}(h:Turned S w w'){b o:Nat}(hb:b<w.heap.size)(hs:¬S b):w'.frozen? ⟨b,o,none⟩=w.frozen? ⟨b,o,none⟩:=
 World.frozen?_of_block (w:=w) (h.block b hb hs)
def Cell(w:World)(b o:Nat)(v:Value):Prop:=w.cell? ⟨b,o,none⟩=some v∧w.frozen? ⟨b,o,none⟩=false
theorem Cell.lt{w:World}{b o:Nat}{v:Value}(h:Cell w b o v):b<w.heap.size:=lt_of_cell h.1
theorem Cell.turned{S:Nat→Prop}{w w':World}{b o:Nat}{v:Value}(h:Cell w b o v)(t:Turned S w w')(hs:¬S b):Cell w' b o v:=
 ⟨(t.cell h.lt hs).trans h.1,(t.frozen h.lt hs).trans h.2⟩
theorem Cell.below{w w':World}{b o:Nat}{v:Value}(h:Cell w b o v)(t:Below w.heap.size w w'):Cell w' b o v:=
 ⟨(t.cell h.lt).trans h.1,(t.frozen h.lt).trans h.2⟩
theorem Cell.set{w:World}{b o:Nat}{v:Value}(h:Cell w b o v)(u:Value):Cell (w.setCell ⟨b,o,none⟩ u) b o u:=
 ⟨World.cell?_setCell_same' _ _ _ (by rw [h.1]; rfl),by rw [World.frozen?_setCell]; exact h.2⟩
theorem Cell.other{w:World}{b o:Nat}{v:Value}(h:Cell w b o v){b' o':Nat}(u:Value)(hne:b'≠b∨o'≠o):Cell (w.setCell ⟨b',o',none⟩ u) b o v:=by
 refine⟨?_,by rw [World.frozen?_setCell]; exact h.2⟩
 rw [World.cell?_setCell_other]
 ·exact h.1
 ·intro e
  simp only [Addr.mk.injEq] at e
  rcases hne with h | h
  ·exact h e.1
  ·exact h e.2.1
def Room(w:World)(b:Nat)(a:Option Addr)(n cap:Nat):Prop:=n<cap→0<n∧a=some ⟨b,0,none⟩∧cap≤maxLen∧∃cur,w.heap[b]?=some (.cells cur 2 (0,0))∧cur.size=cap
def IntsOwn(w:World)(b:Nat)(v:Value)(n:Nat)(f:Nat→Int):Prop:=
 n≤maxLen∧∃a cap,v = .slice a n cap∧n≤cap∧(0<n→∃off,a=some ⟨b,off,none⟩∧∀i,i<n→Cell w b (off+i) (.int .i64 (f i)))∧Room w b a n cap
def PtrsOwn(w:World)(b:Nat)(v:Value)(n:Nat)(fs fb:Nat→Int):Prop:=
 n≤maxLen∧∃a cap,v = .slice a n cap∧n≤cap∧(0<n→∃off,a=some ⟨b,off,none⟩∧∀i,i<n→Cell w b (off+i*2) (.int .i64 (fs i))∧Cell w b (off+i*2+1) (.int .i64 (fb i)))
theorem IntsOwn.at{w:World}{b:Nat}{v:Value}{n:Nat}{f:Nat→Int}(h:IntsOwn w b v n f){lo hi:Nat}(hb:0<n→lo≤b∧b<hi):IntsAt w lo hi v n f:=by
 obtain⟨h0,a,cap,hv,hcc,hc,hr⟩:=h
 refine⟨h0,a,cap,hv,hcc,fun hn=>?_⟩
 obtain⟨off,ha,h3⟩:=hc hn
 exact⟨b,off,ha,(hb hn).1,(hb hn).2,fun i hi=>(h3 i hi).1⟩
theorem PtrsOwn.at{w:World}{b:Nat}{v:Value}{n:Nat}{f g:Nat→Int}(h:PtrsOwn w b v n f g){lo hi:Nat}(hb:0<n→lo≤b∧b<hi):PtrsAt w lo hi v n f g:=by
 obtain⟨h0,a,cap,hv,hcc,hc⟩:=h
 refine⟨h0,a,cap,hv,hcc,fun hn=>?_⟩
 obtain⟨off,ha,h3⟩:=hc hn
 exact⟨b,off,ha,(hb hn).1,(hb hn).2,fun i hi=>⟨(h3 i hi).1.1,(h3 i hi).2.1⟩⟩
theorem IntsOwn.turned{S:Nat→Prop}{w w':World}{b:Nat}{v:Value}{n:Nat}{f:Nat→Int}(h:IntsOwn w b v n f)(t:Turned S w w')(hs:0<n→¬S b):IntsOwn w' b v n f:=by
 obtain⟨h0,a,cap,hv,hcc,hc,hr⟩:=h
 refine⟨h0,a,cap,hv,hcc,fun hn=>?_,fun hlt=>?_⟩
 rotate_left
 ·obtain⟨r0,r1,r2,cur,r3,r4⟩:=hr hlt
  exact⟨r0,r1,r2,cur,(t.block b (Array.getElem?_eq_some_iff.1 r3).1 (hs r0)).trans r3,r4⟩
 obtain⟨off,ha,h3⟩:=hc hn
 exact⟨off,ha,fun i hi=>(h3 i hi).turned t (hs hn)⟩
theorem PtrsOwn.turned{S:Nat→Prop}{w w':World}{b:Nat}{v:Value}{n:Nat}{f g:Nat→Int}(h:PtrsOwn w b v n f g)(t:Turned S w w')(hs:0<n→¬S b):PtrsOwn w' b v n f g:=by
 obtain⟨h0,a,cap,hv,hcc,hc⟩:=h
 refine⟨h0,a,cap,hv,hcc,fun hn=>?_⟩
 obtain⟨off,ha,h3⟩:=hc hn
 exact⟨off,ha,fun i hi=>⟨(h3 i hi).1.turned t (hs hn),(h3 i hi).2.turned t (hs hn)⟩⟩
theorem PtrsOwn.below{w w':World}{b:Nat}{v:Value}{n:Nat}{f g:Nat→Int}(h:PtrsOwn w b v n f g)(t:Below w.heap.size w w'):PtrsOwn w' b v n f g:=
 h.turned (Turned.of_below (S:=fun _=>False) t) (fun _ h=>h)
theorem IntsOwn.below{w w':World}{b:Nat}{v:Value}{n:Nat}{f:Nat→Int}(h:IntsOwn w b v n f)(t:Below w.heap.size w w'):IntsOwn w' b v n f:=
 h.turned (Turned.of_below (S:=fun _=>False) t) (fun _ h=>h)
structure SlotOwn (w:World) (bs o kb:Nat) (kv:Value) (s:SlotD):Prop where
 birth:Cell w bs o (.int .i64 s.birth)
 kidsv:Cell w bs (o+1) kv
 data:Cell w bs (o+2) (.string s.data)
 kids:PtrsOwn w kb kv s.kn s.ks s.kb
 small:s.data.size≤maxLen
 apart:0<s.kn→kb≠bs
theorem SlotOwn.turned{S:Nat→Prop}{w w':World}{bs o kb:Nat}{kv:Value}{s:SlotD}(h:SlotOwn w bs o kb kv s)(t:Turned S w w')(h1:¬S bs)(h2:0<s.kn→¬S kb):SlotOwn w' bs o kb kv s:=
 ⟨h.birth.turned t h1,h.kidsv.turned t h1,h.data.turned t h1,h.kids.turned t h2,h.small,h.apart⟩
theorem SlotOwn.below{w w':World}{bs o kb:Nat}{kv:Value}{s:SlotD}(h:SlotOwn w bs o kb kv s)(t:Below w.heap.size w w'):SlotOwn w' bs o kb kv s:=
 h.turned (Turned.of_below (S:=fun _=>False) t) (fun h=>h) (fun _ h=>h)
theorem SlotOwn.at{w:World}{bs o kb:Nat}{kv:Value}{s:SlotD}(h:SlotOwn w bs o kb kv s){lo hi:Nat}(hb:0<s.kn→lo≤kb∧kb<hi):SlotAt w lo hi (.int .i64 s.birth) kv (.string s.data) s:=
 ⟨rfl,h.kids.at hb,rfl,h.small⟩
def SlotsOwn(w:World)(bs:Nat)(kb:Nat→Nat)(kv:Nat→Value)(v:Value)(n:Nat)(f:Nat→SlotD):Prop:=
 n≤maxLen∧∃a cap,v = .slice a n cap∧n≤cap∧(0<n→∃off,a=some ⟨bs,off,none⟩∧∀i,i<n→SlotOwn w bs (off+i*3) (kb i) (kv i) (f i))
def KidsApart(kb:Nat→Nat)(n:Nat)(f:Nat→SlotD):Prop:=∀i j,i<n→j<n→i≠j→0<(f i).kn→0<(f j).kn→kb i≠kb j
def SlotsIn(lo hi bs:Nat)(kb:Nat→Nat)(n:Nat)(f:Nat→SlotD):Prop:=0<n→(lo≤bs∧bs<hi)∧∀i,i<n→0<(f i).kn→lo≤kb i∧kb i<hi
theorem SlotsOwn.at{w:World}{bs:Nat}{kb:Nat→Nat}{kv:Nat→Value}{v:Value}{n:Nat}{f:Nat→SlotD}(h:SlotsOwn w bs kb kv v n f){lo hi:Nat}(hb:SlotsIn lo hi bs kb n f):SlotsAt w lo hi v n f:=by
 obtain⟨h0,a,cap,hv,hcc,hc⟩:=h
 refine⟨h0,a,cap,hv,hcc,fun hn=>?_⟩
 obtain⟨off,ha,h3⟩:=hc hn
 refine⟨bs,off,ha,(hb hn).1.1,(hb hn).1.2,fun i hi=>?_⟩
 exact⟨_,_,_,(h3 i hi).birth.1,(h3 i hi).kidsv.1,(h3 i hi).data.1,(h3 i hi).at ((hb hn).2 i hi)⟩
theorem SlotsOwn.below{w w':World}{bs:Nat}{kb:Nat→Nat}{kv:Nat→Value}{v:Value}{n:Nat}{f:Nat→SlotD}(h:SlotsOwn w bs kb kv v n f)(t:Below w.heap.size w w'):SlotsOwn w' bs kb kv v n f:=by
 obtain⟨h0,a,cap,hv,hcc,hc⟩:=h
 refine⟨h0,a,cap,hv,hcc,fun hn=>?_⟩
 obtain⟨off,ha,h3⟩:=hc hn
 exact⟨off,ha,fun i hi=>(h3 i hi).below t⟩
theorem SlotsOwn.turned{S:Nat→Prop}{w w':World}{bs:Nat}{kb:Nat→Nat}{kv:Nat→Value}{v:Value}{n:Nat}{f:Nat→SlotD}(h:SlotsOwn w bs kb kv v n f)(t:Turned S w w')
  (h1:0<n→¬S bs) (h2:∀i,i<n→0<(f i).kn→¬S (kb i)):SlotsOwn w' bs kb kv v n f:=by
 obtain⟨h0,a,cap,hv,hcc,hc⟩:=h
 refine⟨h0,a,cap,hv,hcc,fun hn=>?_⟩
 obtain⟨off,ha,h3⟩:=hc hn
 exact⟨off,ha,fun i hi=>(h3 i hi).turned t (h1 hn) (h2 i hi)⟩
def Box2(w:World)(b:Nat)(v0 v1:Value):Prop:=Cell w b 0 v0∧Cell w b 1 v1
theorem Box2.below{w w':World}{b:Nat}{v0 v1:Value}(h:Box2 w b v0 v1)(t:Below w.heap.size w w'):Box2 w' b v0 v1:=⟨h.1.below t,h.2.below t⟩
theorem Box2.turned{S:Nat→Prop}{w w':World}{b:Nat}{v0 v1:Value}(h:Box2 w b v0 v1)(t:Turned S w w')(hs:¬S b):Box2 w' b v0 v1:=⟨h.1.turned t hs,h.2.turned t hs⟩
theorem Box2.new(w:World)(v0 v1:Value)(t:TypeId):Box2 (w.alloc (.cells #[v0,v1] t)) w.heap.size v0 v1:=
 ⟨⟨by rw [World.cell?_alloc_at (hn:=rfl)]; rfl,by rw [World.frozen?_alloc_at (hn:=rfl)]⟩,⟨by rw [World.cell?_alloc_at (hn:=rfl)]; rfl,by rw [World.frozen?_alloc_at (hn:=rfl)]⟩⟩
def Box3(w:World)(b:Nat)(v0 v1 v2:Value):Prop:=Cell w b 0 v0∧Cell w b 1 v1∧Cell w b 2 v2
theorem Box3.below{w w':World}{b:Nat}{v0 v1 v2:Value}(h:Box3 w b v0 v1 v2)(t:Below w.heap.size w w'):Box3 w' b v0 v1 v2:=⟨h.1.below t,h.2.1.below t,h.2.2.below t⟩
theorem Box3.turned{S:Nat→Prop}{w w':World}{b:Nat}{v0 v1 v2:Value}(h:Box3 w b v0 v1 v2)(t:Turned S w w')(hs:¬S b):Box3 w' b v0 v1 v2:=⟨h.1.turned t hs,h.2.1.turned t hs,h.2.2.turned t hs⟩
theorem Box3.new(w:World)(v0 v1 v2:Value)(t:TypeId):Box3 (w.alloc (.cells #[v0,v1,v2] t)) w.heap.size v0 v1 v2:=
 ⟨⟨by rw [World.cell?_alloc_at (hn:=rfl)]; rfl,by rw [World.frozen?_alloc_at (hn:=rfl)]⟩,⟨by rw [World.cell?_alloc_at (hn:=rfl)]; rfl,by rw [World.frozen?_alloc_at (hn:=rfl)]⟩,⟨by rw [World.cell?_alloc_at (hn:=rfl)]; rfl,by rw [World.frozen?_alloc_at (hn:=rfl)]⟩⟩
theorem Box3.put{w:World}{b:Nat}{v0 v1 v2:Value}(h:Box3 w b v0 v1 v2)(u0 u1 u2:Value):Box3 (((w.setCell ⟨b,0,none⟩ u0).setCell ⟨b,1,none⟩ u1).setCell ⟨b,2,none⟩ u2) b u0 u1 u2:=
 ⟨((h.1.set u0).other _ (Or.inr (by omega))).other _ (Or.inr (by omega)),((h.2.1.other _ (Or.inr (by omega))).set u1).other _ (Or.inr (by omega)),((h.2.2.other _ (Or.inr (by omega))).other _ (Or.inr (by omega))).set u2⟩
theorem Box2.put{w:World}{b:Nat}{v0 v1:Value}(h:Box2 w b v0 v1)(u0 u1:Value):Box2 ((w.setCell ⟨b,0,none⟩ u0).setCell ⟨b,1,none⟩ u1) b u0 u1:=
 ⟨(h.1.set u0).other _ (Or.inr (by omega)),(h.2.other _ (Or.inr (by omega))).set u1⟩
theorem Box3.other{w:World}{b:Nat}{v0 v1 v2:Value}(h:Box3 w b v0 v1 v2){b' o':Nat}(u:Value)(hne:b'≠b):Box3 (w.setCell ⟨b',o',none⟩ u) b v0 v1 v2:=
 ⟨h.1.other u (Or.inl hne),h.2.1.other u (Or.inl hne),h.2.2.other u (Or.inl hne)⟩
theorem Box2.other{w:World}{b:Nat}{v0 v1:Value}(h:Box2 w b v0 v1){b' o':Nat}(u:Value)(hne:b'≠b):Box2 (w.setCell ⟨b',o',none⟩ u) b v0 v1:=
 ⟨h.1.other u (Or.inl hne),h.2.other u (Or.inl hne)⟩
theorem PtrsOwn.put{w:World}{b:Nat}{v:Value}{n:Nat}{f g:Nat→Int}(h:PtrsOwn w b v n f g){b' o':Nat}(u:Value)(hne:b'≠b):PtrsOwn (w.setCell ⟨b',o',none⟩ u) b v n f g:=
 h.turned (Turned.put w b' o' u) (fun _ e=>hne e.symm)
theorem IntsOwn.put{w:World}{b:Nat}{v:Value}{n:Nat}{f:Nat→Int}(h:IntsOwn w b v n f){b' o':Nat}(u:Value)(hne:b'≠b):IntsOwn (w.setCell ⟨b',o',none⟩ u) b v n f:=
 h.turned (Turned.put w b' o' u) (fun _ e=>hne e.symm)
theorem below_alloc(w:World)(o:Obj):Below w.heap.size w (w.alloc o):=(Below.refl _ _).alloc (Nat.le_refl _) o
theorem owns_cell{w:World}{base e size:Nat}{v:Value}{n:Nat}{xs:List Value}(h:w.ownsRow base e size v n xs)(hn:0<n) :
  ∃g cap,v = .slice (some ⟨g,0,none⟩) n cap∧n≤cap∧base≤g∧g<w.heap.size∧∀j u,xs[j]?=some u→Cell w g j u:=by
 obtain⟨_,⟨h,rfl⟩ | ⟨g,cap,cur,hv,hb,hg,h1,h2,h3,h4⟩⟩:=h
 ·omega
 ·refine⟨g,cap,hv,h1,hb,?_,fun j u hj=>?_⟩
  ·by_cases hlt:g<w.heap.size
   ·exact hlt
   ·rw [Array.getElem?_eq_none (by omega)] at hg; simp at hg
  ·refine⟨?_,?_⟩
   ·simp only [World.cell?,hg]
    have hj':(cur.toList.take (n*size))[j]?=some u:=by rw [h4]; exact hj
    rw [List.getElem?_take] at hj'
    split at hj'
    ·simpa using hj'
    ·simp at hj'
   ·simp only [World.frozen?,hg]
    simp
end Go.Proofs.YthpeehjnfceipaaGreatDoor

namespace Go.Proofs.YthpeehjnfceipaaGreatDoor
open Go Go.RowKit
def hop(J:Nat→Act→World→Prop)(Q:Exit→Act→World→Prop):Exit→Act→World→Prop
 | .goto l,a,w=>J l a w
 | e,a,w=>Q e a w
def JU(P:Program)(c:Code)(Q:Exit→Act→World→Prop):Nat→Nat→Act→World→Prop
 | 0,_,_,_=>False
 | n+1,l,a,w=>∃rest,findLabel c l=some rest∧rest.wp P (hop (JU P c Q n) Q) a w
theorem wp_scope_hops{P:Program}{a:Act}{w:World}{Q:Exit→Act→World→Prop}{c:Code}(n:Nat)(first:c.wp P (hop (JU P c Q n) Q) a w):(Code.scope c).wp P Q a w:=by
 intro b k cs
 have key:∀n l rest a w,findLabel c l=some rest→rest.wp P (hop (JU P c Q n) Q) a w→∃e a' w',Q e a' w'∧Arrives P (lone (b.at a (.code rest :: .inScope c :: k)) cs w) b k cs e a' w':=by
  intro n
  induction n with
  | zero=>
   intro l rest a w hf hw
   obtain⟨e,a₁,w₁,hq,harr⟩:=hw b (.inScope c :: k) cs
   cases e with
   | normal=>exact⟨.normal,a₁,w₁,hq,Steps.trans harr (.one step_inScope)⟩
   | exit id=>exact⟨.exit id,a₁,w₁,hq,fun k' hk=>harr k' (by simp [exitTo,hk])⟩
   | goto l'=>exact False.elim hq
   | ret=>exact⟨_,a₁,w₁,hq,harr⟩
   | panic ch=>exact⟨_,a₁,w₁,hq,harr⟩
   | outgrown=>exact⟨_,a₁,w₁,hq,harr⟩
  | succ n ih=>
   intro l rest a w hf hw
   obtain⟨e,a₁,w₁,hq,harr⟩:=hw b (.inScope c :: k) cs
   cases e with
   | normal=>exact⟨.normal,a₁,w₁,hq,Steps.trans harr (.one step_inScope)⟩
   | exit id=>exact⟨.exit id,a₁,w₁,hq,fun k' hk=>harr k' (by simp [exitTo,hk])⟩
   | goto l'=>
    obtain⟨rest',hf',hw'⟩:=hq
    obtain⟨e₂,a₂,w₂,hq₂,harr₂⟩:=ih l' rest' a₁ w₁ hf' hw'
    have hg:gotoIn l' (.inScope c :: k)=some (.code rest' :: .inScope c :: k):=by simp [gotoIn,hf']
    exact⟨e₂,a₂,w₂,hq₂,.of_steps (harr _ hg) harr₂⟩
   | ret=>exact⟨_,a₁,w₁,hq,harr⟩
   | panic ch=>exact⟨_,a₁,w₁,hq,harr⟩
   | outgrown=>exact⟨_,a₁,w₁,hq,harr⟩
 obtain⟨e,a₁,w₁,hq,harr⟩:=first b (.inScope c :: k) cs
 cases e with
 | normal=>exact⟨.normal,a₁,w₁,hq,.head step_scope (Steps.trans harr (.one step_inScope))⟩
 | exit id=>exact⟨.exit id,a₁,w₁,hq,fun k' hk=>.head step_scope (harr k' (by simp [exitTo,hk]))⟩
 | goto l'=>
  match n,hq with
  | n+1,hq=>
   obtain⟨rest',hf',hw'⟩:=hq
   obtain⟨e₂,a₂,w₂,hq₂,harr₂⟩:=key n l' rest' a₁ w₁ hf' hw'
   have hg:gotoIn l' (.inScope c :: k)=some (.code rest' :: .inScope c :: k):=by simp [gotoIn,hf']
   exact⟨e₂,a₂,w₂,hq₂,.of_steps (.head step_scope (harr _ hg)) harr₂⟩
 | ret=>exact⟨_,a₁,w₁,hq,.of_steps (.one step_scope) harr⟩
 | panic ch=>exact⟨_,a₁,w₁,hq,.of_steps (.one step_scope) harr⟩
 | outgrown=>exact⟨_,a₁,w₁,hq,.of_steps (.one step_scope) harr⟩
end Go.Proofs.YthpeehjnfceipaaGreatDoor

namespace Go.Proofs.YthpeehjnfceipaaGreatDoor
open Go Go.RowKit
set_option linter.unusedVariables false
theorem hop_monoS{J J':Nat→Act→World→Prop}{Q:Exit→Act→World→Prop}(h:∀l a w,J l a w→J' l a w):∀{e:Exit} {a:Act} {w:World},hop J Q e a w→hop J' Q e a w
 | .goto l,a,w,he=>h l a w he
 | .normal,_,_,he=>he
 | .exit _,_,_,he=>he
 | .ret,_,_,he=>he
 | .panic _,_,_,he=>he
 | .outgrown,_,_,he=>he
theorem wp_scope_invS{P:Program}{a:Act}{w:World}{Q:Exit→Act→World→Prop}{c:Code}(R:Nat→Nat→Act→World→Prop)(n:Nat)(zero:∀l a w,¬R 0 l a w)
  (step:∀n l a w,R (n+1) l a w→∃rest,findLabel c l=some (Code.skip.seq rest)∧rest.wp P (hop (R n) Q) a w)
  (first:(∀l a w rest,findLabel c l=some (Code.skip.seq rest)→R (n+1) l a w→rest.wp P (hop (R n) Q) a w)→c.wp P (hop (R n) Q) a w):(Code.scope c).wp P Q a w:=by
 have key:∀n l a w,R n l a w→JU P c Q n l a w:=by
  intro n
  induction n with
  | zero=>intro l a w h; exact absurd h (zero l a w)
  | succ n ih=>
   intro l a w h
   obtain⟨rest,hf,hw⟩:=step n l a w h
   exact⟨_,hf,Code.wp_mono (fun e a w he=>hop_monoS ih he) (wp_seq (wp_skip hw))⟩
 refine wp_scope_hops n (Code.wp_mono (fun e a w he=>hop_monoS (key n) he) (first ?_))
 intro l a w rest hf hR
 obtain⟨rest',hf',hw⟩:=step n l a w hR
 rw [hf] at hf'
 simp only [Option.some.injEq,Code.seq.injEq,true_and] at hf'
 rw [hf']
 exact hw
end Go.Proofs.YthpeehjnfceipaaGreatDoor

namespace Go.Proofs.YthpeehjnfceipaaGreatDoor
open Go.RowKit
set_option linter.unusedVariables false
def SlotsB(bs:Nat)(kb:Nat→Nat)(n:Nat)(f:Nat→SlotD)(k:Nat):Prop:=(0<n∧k=bs)∨∃i,i<n∧0<(f i).kn∧k=kb i
theorem SlotsOwn.lt{w:World}{bs:Nat}{kb:Nat→Nat}{kv:Nat→Value}{v:Value}{n:Nat}{f:Nat→SlotD}(h:SlotsOwn w bs kb kv v n f){k:Nat}(hk:SlotsB bs kb n f k):k<w.heap.size:=by
 obtain⟨_,a,cap,_,_,hc⟩:=h
 rcases hk with⟨h0,rfl⟩ | ⟨i,hi,h0,rfl⟩
 ·obtain⟨off,_,h3⟩:=hc h0
  exact(h3 0 h0).birth.lt
 ·obtain⟨off,_,h3⟩:=hc (by omega)
  obtain⟨_,_,_,_,_,h4⟩:=(h3 i hi).kids
  obtain⟨o,_,h5⟩:=h4 h0
  exact(h5 0 h0).1.lt
def PoolOwn(w:World)(lo hi:Nat)(v0 v1:Value)(p:PoolD):Prop:=
 ∃(bs hb:Nat) (kb:Nat→Nat) (kv:Nat→Value),SlotsOwn w bs kb kv v0 p.n p.s∧KidsApart kb p.n p.s∧IntsOwn w hb v1 p.hn p.h∧(0<p.hn→¬SlotsB bs kb p.n p.s hb)∧
  ∀k,SlotsB bs kb p.n p.s k∨(0<p.hn∧k=hb)→lo≤k∧k<hi
theorem PoolOwn.at{w:World}{lo hi:Nat}{v0 v1:Value}{p:PoolD}(h:PoolOwn w lo hi v0 v1 p):PoolAt w lo hi v0 v1 p:=by
 obtain⟨bs,hb,kb,kv,h1,h2,h3,h4,h5⟩:=h
 exact⟨h1.at fun h0=>⟨h5 _ (Or.inl (Or.inl ⟨h0,rfl⟩)),fun i hi h=>h5 _ (Or.inl (Or.inr ⟨i,hi,h,rfl⟩))⟩,h3.at fun h0=>h5 _ (Or.inr ⟨h0,rfl⟩)⟩
theorem PoolOwn.below{w w':World}{lo hi:Nat}{v0 v1:Value}{p:PoolD}(h:PoolOwn w lo hi v0 v1 p)(t:Below w.heap.size w w'):PoolOwn w' lo hi v0 v1 p:=by
 obtain⟨bs,hb,kb,kv,h1,h2,h3,h4,h5⟩:=h
 exact⟨bs,hb,kb,kv,h1.below t,h2,h3.below t,h4,h5⟩
theorem PoolOwn.turned{S:Nat→Prop}{w w':World}{lo hi:Nat}{v0 v1:Value}{p:PoolD}(h:PoolOwn w lo hi v0 v1 p)(t:Turned S w w')(hs:∀k,S k→k<lo∨hi≤k):PoolOwn w' lo hi v0 v1 p:=by
 obtain⟨bs,hb,kb,kv,h1,h2,h3,h4,h5⟩:=h
 have out:∀k,SlotsB bs kb p.n p.s k∨(0<p.hn∧k=hb)→¬S k:=fun k hk hx=>by
  have a:=h5 k hk
  have b:=hs k hx
  omega
 exact⟨bs,hb,kb,kv,h1.turned t (fun h0=>out _ (Or.inl (Or.inl ⟨h0,rfl⟩))) (fun i hi h=>out _ (Or.inl (Or.inr ⟨i,hi,h,rfl⟩))),h2,h3.turned t (fun h0=>out _ (Or.inr ⟨h0,rfl⟩)),h4,h5⟩
end Go.Proofs.YthpeehjnfceipaaGreatDoor

namespace Go.Proofs.YthpeehjnfceipaaGreatDoor
open Go Go.RowKit
set_option linter.unusedVariables false
theorem hideK{P:Prop}(h:P):Hid P:=h
theorem ownsBelow{w w':World}{base e size:Nat}{v:Value}{n:Nat}{xs:List Value}(h:w.ownsRow base e size v n xs)(t:Below w.heap.size w w'):w'.ownsRow base e size v n xs:=by
 obtain⟨h1,h2⟩:=h
 refine⟨h1,h2.imp id ?_⟩
 rintro⟨g,cap,cur,hv,hb,hg,h3⟩
 exact⟨g,cap,cur,hv,hb,(t.block g (Array.getElem?_eq_some_iff.1 hg).1).trans hg,h3⟩
def NoBl(s:ByteArray)(q:Nat):Prop:=∀j,j<q→∀h:j<s.size,s[j].toNat≠32
def IsFirst(s f:ByteArray):Prop:=∃q,q≤s.size∧f=s.extract 0 q∧NoBl s q∧∀h:q<s.size,s[q].toNat=32
theorem infoStrK:(Tryz.prog.info? 9).map (fun i=>(i.zero,i.size,i.bytes))=some (some (.string ⟨#[]⟩),1,16):=by kernel_rfl
def WordsD(s:ByteArray)(st p:Nat)(xs:List Value):Prop:=(xs = []∧st=0∧NoBl s p)∨∃f ys,xs = .string f :: ys∧IsFirst s f
theorem dkFrame{s:ByteArray}{v:Value}{st p:Nat}(a:Act)(h:a = {tmps:=#[.string s,a.tmps.getD 1 undef,.slice none 0 0,v,.int .i64 (st:Int),.int .i64 (p:Int),a.tmps.getD 6 undef,a.tmps.getD 7 undef,a.tmps.getD 8 undef,a.tmps.getD 9 undef,a.tmps.getD 10 undef,a.tmps.getD 11 undef,a.tmps.getD 12 undef,a.tmps.getD 13 undef,a.tmps.getD 14 undef,a.tmps.getD 15 undef,a.tmps.getD 16 undef,a.tmps.getD 17 undef,a.tmps.getD 18 undef,a.tmps.getD 19 undef,a.tmps.getD 20 undef,a.tmps.getD 21 undef,a.tmps.getD 22 undef,a.tmps.getD 23 undef,a.tmps.getD 24 undef,a.tmps.getD 25 undef,a.tmps.getD 26 undef,a.tmps.getD 27 undef,a.tmps.getD 28 undef,a.tmps.getD 29 undef,a.tmps.getD 30 undef,a.tmps.getD 31 undef,a.tmps.getD 32 undef],defers:=[]}):∃j:Nat→Value,a = {tmps:=#[.string s,j 1,.slice none 0 0,v,.int .i64 (st:Int),.int .i64 (p:Int),j 6,j 7,j 8,j 9,j 10,j 11,j 12,j 13,j 14,j 15,j 16,j 17,j 18,j 19,j 20,j 21,j 22,j 23,j 24,j 25,j 26,j 27,j 28,j 29,j 30,j 31,j 32],defers:=[]}:=⟨fun i=>a.tmps.getD i undef,h⟩
def DkR(s:ByteArray)(w0:World)(k l:Nat)(a:Act)(w:World):Prop:=l=0∧∃(v:Value) (st p:Nat) (xs:List Value),(∃j:Nat→Value,a = {tmps:=#[.string s,j 1,.slice none 0 0,v,.int .i64 (st:Int),.int .i64 (p:Int),j 6,j 7,j 8,j 9,j 10,j 11,j 12,j 13,j 14,j 15,j 16,j 17,j 18,j 19,j 20,j 21,j 22,j 23,j 24,j 25,j 26,j 27,j 28,j 29,j 30,j 31,j 32],defers:=[]})∧st≤p∧p≤s.size∧s.size<k+p∧xs.length≤p∧w.ownsRow w0.heap.size 9 1 v xs.length xs∧WordsD s st p xs∧Below w0.heap.size w0 w
set_option maxRecDepth 20000 in
set_option maxHeartbeats 2000000 in
theorem wordsOf_any(s:ByteArray)(w:World)(hs:s.size≤100000) :
  Calls Tryz.prog 10 #[.string s] w fun e w'=>∃g c n f ys,e = .returned (.slice (some ⟨g,0,none⟩) (n+1) c)∧w'.cell? ⟨g,0,none⟩=some (.string f)∧IsFirst s f∧Below w.heap.size w w'∧ys=n:=by
 obtain⟨i0,hi0,hzz⟩:=Option.map_eq_some_iff.1 infoStrK
 simp only [Prod.mk.injEq] at hzz
 have HI:=hideK (And.intro hi0 hzz)
 clear hi0 hzz
 go_enter Tryz.func10,Tryz.ntmps10
 go_wp2
 refine wp_scope_invS (DkR s w) (s.size+1) ?_ ?_ ?_
 ·rintro l a w' ⟨-,v,st,p,xs,-,-,h1,h2,-⟩
  omega
 ·rintro k l a w1 ⟨rfl,v,st,p,xs,⟨j,rfl⟩,h1,h2,h3,h4,h5,h6,h7⟩
  refine⟨_,rfl,?_⟩
  have HO:=hideK h5
  have HW:=hideK h6
  have HB:=hideK h7
  have h0:(0:Int)≤(p:Int):=by omega
  have hst:(st:Int)≤(p:Int):=by omega
  have h00:(0:Int)≤(st:Int):=by omega
  have hps:(p:Int)≤(s.size:Int):=by omega
  clear h5 h6 h7
  have hz1:=HB.out.size
  have hba:=below_alloc w1 (.cells #[.string (s.extract st p)] 9)
  have HO2:=hideK (ownsBelow HO.out hba)
  have HN:=hideK (World.news_of_block (heap_alloc_last w1 (.cells #[.string (s.extract st p)] 9)))
  have hz2:(w1.alloc (.cells #[.string (s.extract st p)] 9)).heap.size=w1.heap.size+1:=World.size_alloc _ _
  have HB2:=hideK (below_next HB.out hba)
  clear hba
  by_cases hlt:p<s.size
  ·have hlt':(p:Int)<(s.size:Int):=by omega
   by_cases hc:s[p].toNat=32
   ·have hc':((s[p].toNat:Int) != 32)=false:=by rw [hc]; rfl
    have Hc:=hideK hc
    clear hc
    go_wp2_with (first
     | (at_builtin; refine wpList_append_lies _ rfl _ _ 22 rfl w.heap.size 9 i0 (.string ⟨#[]⟩) 1 16 (by kernel_rfl) HI.out.1 HI.out.2.1 HI.out.2.2.1 HI.out.2.2.2 rfl (by decide) _ _ _ rfl HO2.out ⟨w1.heap.size,0,none⟩ 1 1 [.string (s.extract st p)] rfl rfl HN.out (by simp [Value.oneCell']) (by decide) (by unfold maxLen; omega) (by omega) (by omega) _ rfl ?_; intro g' cap' w4 hown4 hgrow4 hat4 hlt4)
     | go_in)
    go_step3
    refine⟨rfl,_,p+1,p+1,xs ++ [.string (s.extract st p)],dkFrame _ rfl,Nat.le_refl _,by omega,by omega,by simp; omega,by simpa using hown4,?_,HB2.out.grown hgrow4 HB2.out.size (fun q hq=>(HO2.out.lt q hq).1)⟩
    rcases HW.out with⟨rfl,rfl,hn⟩ | ⟨f,ys,rfl,hf⟩
    ·exact Or.inr ⟨_,[],rfl,p,h2,rfl,hn,fun _=>Hc.out⟩
    ·exact Or.inr ⟨f,_,rfl,hf⟩
   ·have hc':((s[p].toNat:Int) != 32)=true:=by simp only [bne_iff_ne,ne_eq]; omega
    have Hc:=hideK hc
    clear hc
    go_wp2_with fail
    go_step3
    refine⟨rfl,v,st,p+1,xs,dkFrame _ rfl,by omega,by omega,by omega,by omega,HO.out,?_,HB.out⟩
    rcases HW.out with⟨rfl,rfl,hn⟩ | h
    ·refine Or.inl ⟨rfl,rfl,fun j hj h=>?_⟩
     by_cases e:j=p
     ·subst e; exact Hc.out
     ·exact hn j (by omega) h
    ·exact Or.inr h
  ·have hlt':¬(p:Int)<(s.size:Int):=by omega
   go_wp2_with (first
    | (at_builtin; refine wpList_append_lies _ rfl _ _ 22 rfl w.heap.size 9 i0 (.string ⟨#[]⟩) 1 16 (by kernel_rfl) HI.out.1 HI.out.2.1 HI.out.2.2.1 HI.out.2.2.2 rfl (by decide) _ _ _ rfl HO2.out ⟨w1.heap.size,0,none⟩ 1 1 [.string (s.extract st p)] rfl rfl HN.out (by simp [Value.oneCell']) (by decide) (by unfold maxLen; omega) (by omega) (by omega) _ rfl ?_; intro g' cap' w4 hown4 hgrow4 hat4 hlt4)
    | go_in)
   unfold hop
   go_ret
   obtain⟨f,zs,e,hf⟩:∃f zs,xs ++ [.string (s.extract st p)] = .string f :: zs∧IsFirst s f:=by
    rcases HW.out with⟨rfl,rfl,hn⟩ | ⟨f,ys,rfl,hf⟩
    ·exact⟨_,[],rfl,p,h2,rfl,hn,fun h=>absurd h hlt⟩
    ·exact⟨f,_,rfl,hf⟩
   rw [e] at hown4
   obtain⟨g,cap,e2,-,-,-,hcell⟩:=owns_cell hown4 (by omega)
   cases e2
   exact⟨_,_,_,f,_,rfl,(hcell 0 _ rfl).1,hf,HB2.out.grown hgrow4 HB2.out.size (fun q hq=>(HO2.out.lt q hq).1),rfl⟩
 ·intro enter
  go_wp2
  go_step3
  rename_i K hK
  refine hK _ _ (enter 0 _ _ _ rfl ?_)
  exact⟨rfl,.slice none 0 0,0,0,[],dkFrame _ rfl,Nat.le_refl _,Nat.zero_le _,by omega,Nat.le_refl _,⟨rfl,Or.inl ⟨rfl,rfl⟩⟩,Or.inl ⟨rfl,rfl,fun j hj=>absurd hj (Nat.not_lt_zero _)⟩,Below.refl _ _⟩
end Go.Proofs.YthpeehjnfceipaaGreatDoor
