/- What a pool is in memory, as plain facts on cells (no law is proved here): lists of numbers, of pointers, of slots, a pool; that they stay when other blocks turn. -/
import Derived.WalkKit
import Derived.WalkSpells
import Derived.WalkLawsBesides
import Derived.Test.YtmgeglgboadfiaaGreatDoorProg
import GoSem.ClaimJoined
import GoSem.ClaimMapViews
import Derived.JoinedTies
import Derived.KernelRfl
import Derived.RowKit
import Derived.Deep.OwnRows
import Derived.LaidEql
import Derived.Stop.Asserts
import Derived.RowKitTokens
import Derived.ProofKit
set_option linter.unusedVariables false
set_option maxRecDepth 20000
set_option maxHeartbeats 4000000
namespace Go.Proofs.YtmgeglgboadfiaaGreatDoor
open Go.RowKit
def zG(P:Prop)(e:Ending):Prop:=∃b:Bool,e = .returned(.bool b)/\(b=true↔P)
theorem zG.yes{P:Prop}(h:P):zG P(.returned(.bool true)):=⟨true,rfl,by simp [h]⟩
theorem zG.no{P:Prop}(h:¬P):zG P(.returned(.bool false)):=⟨false,rfl,by simp [h]⟩
theorem zo{n k:Nat}{P:Nat->Prop}(hk:k<n)(h:∀i,i<k->P i)(hp:P k):∀i,i<k+1->P i:=fun i hi=>by
 by_cases e:i=k
 ·subst e;exact hp
 ·exact h i(by omega)
theorem zg{B:Nat}{w w':World}(h:Below B w w')(n:Nat):Below B w(w'.drewN n):=⟨h.os,h.tape,h.output,h.size,h.block⟩
theorem zCc{s t:ByteArray}(h:s=t):(s.toList == t.toList)=true:=by simp [h]
theorem zEM{s t:ByteArray}(h:¬s=t):(s.toList == t.toList)=false:=by
 rw [beq_eq_false_iff_ne];intro e;rw [Go.ByteArray.toList_eq,Go.ByteArray.toList_eq] at e;apply h;cases s;cases t;simp only [ByteArray.mk.injEq] at *;exact Array.toList_inj.1 e
theorem zK{w w1:World}(h:Below w.drew.heap.size w.drew w1):Below w.heap.size w w1:=⟨h.os,h.tape,h.output,h.size,h.block⟩
theorem qh{w wr w1:World}(hb:Below w.heap.size w wr)(h1:Below wr.drew.heap.size wr.drew w1):Below w.heap.size w w1:=
 hb.drew.trans(h1.mono hb.size)
theorem zA{w wr w1:World}(hb:Below w.heap.size w wr)(h1:Below wr.heap.size wr w1):Below w.heap.size w w1:=
 hb.trans(h1.mono hb.size)
structure zL where
 zRU:Int
 kn:Nat
 ks:Nat->Int
 kb:Nat->Int
 data:ByteArray
structure zJ where
 n:Nat
 s:Nat->zL
 hn:Nat
 h:Nat->Int
def zCC(a b c d:Int):Prop:=a=c/\b=d
def zMY(n n':Nat)(f f':Nat->Int):Prop:=n=n'/\∀i,i<n->f i=f' i
def zMI(n n':Nat)(f g f' g':Nat->Int):Prop:=n=n'/\∀i,i<n->f i=f' i/\g i=g' i
def zDz(s t:zL):Prop:=s.zRU=t.zRU/\zMI s.kn t.kn s.ks s.kb t.ks t.kb/\s.data=t.data
def zKp(n n':Nat)(f f':Nat->zL):Prop:=n=n'/\∀i,i<n->zDz(f i)(f' i)
def zKh(p q:zJ):Prop:=zKp p.n q.n p.s q.s/\zMY p.hn q.hn p.h q.h
theorem zDz.refl(s:zL):zDz s s:=⟨rfl,⟨rfl,fun _ _=>⟨rfl,rfl⟩⟩,rfl⟩
theorem zKh.refl(p:zJ):zKh p p:=⟨⟨rfl,fun _ _=>zDz.refl _⟩,⟨rfl,fun _ _=>rfl⟩⟩
def zEG(lo hi:Nat)(w w':World):Prop:=∀k,lo<=k->k<hi->w'.heap[k]?=w.heap[k]?
theorem zEG.cell{lo hi:Nat}{w w':World}(h:zEG lo hi w w'){b o:Nat}(h1:lo<=b)(h2:b<hi):w'.cell? ⟨b,o,none⟩=w.cell? ⟨b,o,none⟩:=
 World.cell?_of_block(w:=w)(h b h1 h2)
theorem zD{w:World}{b o:Nat}{v:Value}(h:w.cell? ⟨b,o,none⟩=some v):b<w.heap.size:=by
 simp only [World.cell?] at h;by_cases hb:b<w.heap.size
 ·exact hb
 ·rw [Array.getElem?_eq_none(by omega)] at h;simp at h
def qT(w:World)(lo hi:Nat)(v:Value)(n:Nat)(f:Nat->Int):Prop:=
 n<=maxLen/\∃a cap,v = .slice a n cap/\n<=cap/\(0<n->∃b off,a=some ⟨b,off,none⟩/\lo<=b/\b<hi/\∀i,i<n->w.cell? ⟨b,off+i,none⟩=some(.int .i64(f i)))
def zR(w:World)(lo hi:Nat)(v:Value)(n:Nat)(fs fb:Nat->Int):Prop:=
 n<=maxLen/\∃a cap,v = .slice a n cap/\n<=cap/\(0<n->∃b off,a=some ⟨b,off,none⟩/\lo<=b/\b<hi/\∀i,i<n->w.cell? ⟨b,off+i*2,none⟩=some(.int .i64(fs i))/\w.cell? ⟨b,off+i*2+1,none⟩=some(.int .i64(fb i)))
def qI(w:World)(lo hi:Nat)(v0 v1 v2:Value)(s:zL):Prop:=
 v0 = .int .i64 s.zRU/\zR w lo hi v1 s.kn s.ks s.kb/\v2 = .string s.data/\s.data.size<=maxLen
def qA(w:World)(lo hi:Nat)(v:Value)(n:Nat)(f:Nat->zL):Prop:=
 n<=maxLen/\∃a cap,v = .slice a n cap/\n<=cap/\(0<n->∃b off,a=some ⟨b,off,none⟩/\lo<=b/\b<hi/\∀i,i<n->∃v0 v1 v2,w.cell? ⟨b,off+i*3,none⟩=some v0/\w.cell? ⟨b,off+i*3+1,none⟩=some v1/\w.cell? ⟨b,off+i*3+2,none⟩=some v2/\qI w lo hi v0 v1 v2(f i))
def zy(w:World)(lo hi:Nat)(v0 v1:Value)(p:zJ):Prop:=qA w lo hi v0 p.n p.s/\qT w lo hi v1 p.hn p.h
theorem qT.same{w w':World}{lo hi:Nat}{v:Value}{n:Nat}{f:Nat->Int}(h:qT w lo hi v n f)(s:zEG lo hi w w'):qT w' lo hi v n f:=by
 obtain⟨h0,a,cap,hv,hcc,hc⟩:=h;refine⟨h0,a,cap,hv,hcc,fun hn=>?_⟩;obtain⟨b,off,ha,h1,h2,h3⟩:=hc hn;exact⟨b,off,ha,h1,h2,fun i hi=>by rw [s.cell h1 h2];exact h3 i hi⟩
theorem zR.same{w w':World}{lo hi:Nat}{v:Value}{n:Nat}{f g:Nat->Int}(h:zR w lo hi v n f g)(s:zEG lo hi w w'):zR w' lo hi v n f g:=by
 obtain⟨h0,a,cap,hv,hcc,hc⟩:=h;refine⟨h0,a,cap,hv,hcc,fun hn=>?_⟩;obtain⟨b,off,ha,h1,h2,h3⟩:=hc hn;exact⟨b,off,ha,h1,h2,fun i hi=>by rw [s.cell h1 h2,s.cell h1 h2];exact h3 i hi⟩
theorem qI.same{w w':World}{lo hi:Nat}{v0 v1 v2:Value}{t:zL}(h:qI w lo hi v0 v1 v2 t)(s:zEG lo hi w w'):qI w' lo hi v0 v1 v2 t:=
 ⟨h.1,h.2.1.same s,h.2.2⟩
theorem qA.same{w w':World}{lo hi:Nat}{v:Value}{n:Nat}{f:Nat->zL}(h:qA w lo hi v n f)(s:zEG lo hi w w'):qA w' lo hi v n f:=by
 obtain⟨h0,a,cap,hv,hcc,hc⟩:=h;refine⟨h0,a,cap,hv,hcc,fun hn=>?_⟩;obtain⟨b,off,ha,h1,h2,h3⟩:=hc hn;refine⟨b,off,ha,h1,h2,fun i hi=>?_⟩;obtain⟨v0,v1,v2,c0,c1,c2,hs⟩:=h3 i hi;exact⟨v0,v1,v2,by rw [s.cell h1 h2];exact c0,by rw [s.cell h1 h2];exact c1,by rw [s.cell h1 h2];exact c2,hs.same s⟩
theorem zy.same{w w':World}{lo hi:Nat}{v0 v1:Value}{p:zJ}(h:zy w lo hi v0 v1 p)(s:zEG lo hi w w'):zy w' lo hi v0 v1 p:=⟨h.1.same s,h.2.same s⟩
theorem qT.zRJ{w w':World}{lo hi:Nat}{v:Value}{n:Nat}{f:Nat->Int}(h:qT w lo hi v n f)(s:Below w.heap.size w w'):qT w' lo hi v n f:=by
 obtain⟨h0,a,cap,hv,hcc,hc⟩:=h;refine⟨h0,a,cap,hv,hcc,fun hn=>?_⟩;obtain⟨b,off,ha,h1,h2,h3⟩:=hc hn;exact⟨b,off,ha,h1,h2,fun i hi=>(s.cell(zD(h3 i hi))).trans(h3 i hi)⟩
theorem zR.zRJ{w w':World}{lo hi:Nat}{v:Value}{n:Nat}{f g:Nat->Int}(h:zR w lo hi v n f g)(s:Below w.heap.size w w'):zR w' lo hi v n f g:=by
 obtain⟨h0,a,cap,hv,hcc,hc⟩:=h;refine⟨h0,a,cap,hv,hcc,fun hn=>?_⟩;obtain⟨b,off,ha,h1,h2,h3⟩:=hc hn;exact⟨b,off,ha,h1,h2,fun i hi=>⟨(s.cell(zD(h3 i hi).1)).trans(h3 i hi).1,(s.cell(zD(h3 i hi).2)).trans(h3 i hi).2⟩⟩
theorem qI.zRJ{w w':World}{lo hi:Nat}{v0 v1 v2:Value}{t:zL}(h:qI w lo hi v0 v1 v2 t)(s:Below w.heap.size w w'):qI w' lo hi v0 v1 v2 t:=
 ⟨h.1,h.2.1.zRJ s,h.2.2⟩
theorem qA.zRJ{w w':World}{lo hi:Nat}{v:Value}{n:Nat}{f:Nat->zL}(h:qA w lo hi v n f)(s:Below w.heap.size w w'):qA w' lo hi v n f:=by
 obtain⟨h0,a,cap,hv,hcc,hc⟩:=h;refine⟨h0,a,cap,hv,hcc,fun hn=>?_⟩;obtain⟨b,off,ha,h1,h2,h3⟩:=hc hn;refine⟨b,off,ha,h1,h2,fun i hi=>?_⟩;obtain⟨v0,v1,v2,c0,c1,c2,hs⟩:=h3 i hi;exact⟨v0,v1,v2,(s.cell(zD c0)).trans c0,(s.cell(zD c1)).trans c1,(s.cell(zD c2)).trans c2,hs.zRJ s⟩
theorem zy.zRJ{w w':World}{lo hi:Nat}{v0 v1:Value}{p:zJ}(h:zy w lo hi v0 v1 p)(s:Below w.heap.size w w'):zy w' lo hi v0 v1 p:=⟨h.1.zRJ s,h.2.zRJ s⟩
structure zF(S:Nat->Prop)(w w':World):Prop where
 os:w'.os=w.os
 tape:w'.tape=w.tape
 output:w'.output=w.output
 size:w.heap.size<=w'.heap.size
 block:∀k,k<w.heap.size->¬S k->w'.heap[k]?=w.heap[k]?
theorem zF.refl(S:Nat->Prop)(w:World):zF S w w:=⟨rfl,rfl,rfl,Nat.le_refl _,fun _ _ _=>rfl⟩
theorem zF.trans{S:Nat->Prop}{a b c:World}(h:zF S a b)(k:zF S b c):zF S a c:=
 ⟨k.os.trans h.os,k.tape.trans h.tape,k.output.trans h.output,Nat.le_trans h.size k.size,fun i hi hs=>(k.block i(Nat.lt_of_lt_of_le hi h.size) hs).trans(h.block i hi hs)⟩
theorem zF.mono{S T:Nat->Prop}{a b:World}(h:zF S a b)(aA:∀k,S k->T k):zF T a b:=
 ⟨h.os,h.tape,h.output,h.size,fun i hi hs=>h.block i hi(fun x=>hs(aA i x))⟩
theorem zF.zRM{S:Nat->Prop}{w w':World}(h:Below w.heap.size w w'):zF S w w':=⟨h.os,h.tape,h.output,h.size,fun k hk _=>h.block k hk⟩
theorem zF.zRJ{S:Nat->Prop}{w w':World}(h:zF S w w'){B:Nat}(hB:B<=w.heap.size)(hs:∀k,S k->B<=k):Below B w w':=
 ⟨h.os,h.tape,h.output,h.size,fun k hk=>h.block k(by omega)(fun x=>by have:=hs k x;omega)⟩
theorem zF.setCell{S:Nat->Prop}{w w':World}(h:zF S w w'){p:Addr}(hp:S p.block)(u:Value):zF S w(w'.setCell p u):=
 h.trans ⟨rfl,rfl,rfl,by simp,fun k _ hs=>Below.heap_setCell _ _ _ _(fun e=>hs(e▸hp))⟩
theorem zF.put(w:World)(b o:Nat)(u:Value):zF(fun k=>k=b) w(w.setCell ⟨b,o,none⟩ u):=
 (zF.refl(fun k=>k=b) w).setCell(p:=⟨b,o,none⟩) rfl u
theorem zF.cell{S:Nat->Prop}{w w':World}(h:zF S w w'){b o:Nat}(hb:b<w.heap.size)(hs:¬S b):w'.cell? ⟨b,o,none⟩=w.cell? ⟨b,o,none⟩:=
 World.cell?_of_block(w:=w)(h.block b hb hs)
theorem zF.frozen{S:Nat->Prop}{w w':World}(h:zF S w w'){b o:Nat}(hb:b<w.heap.size)(hs:¬S b):w'.frozen? ⟨b,o,none⟩=w.frozen? ⟨b,o,none⟩:=
 World.frozen?_of_block(w:=w)(h.block b hb hs)
theorem zF.same{S:Nat->Prop}{w w':World}(h:zF S w w'){lo hi:Nat}(hh:hi<=w.heap.size)(hs:∀k,S k->k<lo\/hi<=k):zEG lo hi w w':=
 fun k h1 h2=>h.block k(by omega)(fun x=>by have:=hs k x;omega)
def zX(w:World)(b o:Nat)(v:Value):Prop:=w.cell? ⟨b,o,none⟩=some v/\w.frozen? ⟨b,o,none⟩=false
theorem zX.lt{w:World}{b o:Nat}{v:Value}(h:zX w b o v):b<w.heap.size:=zD h.1
theorem zX.zRR{S:Nat->Prop}{w w':World}{b o:Nat}{v:Value}(h:zX w b o v)(t:zF S w w')(hs:¬S b):zX w' b o v:=
 ⟨(t.cell h.lt hs).trans h.1,(t.frozen h.lt hs).trans h.2⟩
theorem zX.zRJ{w w':World}{b o:Nat}{v:Value}(h:zX w b o v)(t:Below w.heap.size w w'):zX w' b o v:=
 ⟨(t.cell h.lt).trans h.1,(t.frozen h.lt).trans h.2⟩
theorem zX.set{w:World}{b o:Nat}{v:Value}(h:zX w b o v)(u:Value):zX(w.setCell ⟨b,o,none⟩ u) b o u:=
 ⟨World.cell?_setCell_same' _ _ _(by rw [h.1];rfl),by rw [World.frozen?_setCell];exact h.2⟩
theorem zX.zRK{w:World}{b o:Nat}{v:Value}(h:zX w b o v){b' o':Nat}(u:Value)(aA:b'≠b\/o'≠o):zX(w.setCell ⟨b',o',none⟩ u) b o v:=by
 refine⟨?_,by rw [World.frozen?_setCell];exact h.2⟩;rw [World.cell?_setCell_other]
 ·exact h.1
 ·intro e;simp only [Addr.mk.injEq] at e;rcases aA with h | h
  ·exact h e.1
  ·exact h e.2.1
def zQf(w:World)(b:Nat)(a:Option Addr)(n cap:Nat):Prop:=n<cap->0<n/\a=some ⟨b,0,none⟩/\cap<=maxLen/\∃cur,w.heap[b]?=some(.cells cur 2(0,0))/\cur.size=cap
def qj(w:World)(b:Nat)(v:Value)(n:Nat)(f:Nat->Int):Prop:=
 n<=maxLen/\∃a cap,v = .slice a n cap/\n<=cap/\(0<n->∃off,a=some ⟨b,off,none⟩/\∀i,i<n->zX w b(off+i)(.int .i64(f i)))/\zQf w b a n cap
def zj(w:World)(b:Nat)(v:Value)(n:Nat)(fs fb:Nat->Int):Prop:=
 n<=maxLen/\∃a cap,v = .slice a n cap/\n<=cap/\(0<n->∃off,a=some ⟨b,off,none⟩/\∀i,i<n->zX w b(off+i*2)(.int .i64(fs i))/\zX w b(off+i*2+1)(.int .i64(fb i)))
theorem qj.at{w:World}{b:Nat}{v:Value}{n:Nat}{f:Nat->Int}(h:qj w b v n f){lo hi:Nat}(hb:0<n->lo<=b/\b<hi):qT w lo hi v n f:=by
 obtain⟨h0,a,cap,hv,hcc,hc,hr⟩:=h;refine⟨h0,a,cap,hv,hcc,fun hn=>?_⟩;obtain⟨off,ha,h3⟩:=hc hn;exact⟨b,off,ha,(hb hn).1,(hb hn).2,fun i hi=>(h3 i hi).1⟩
theorem zj.at{w:World}{b:Nat}{v:Value}{n:Nat}{f g:Nat->Int}(h:zj w b v n f g){lo hi:Nat}(hb:0<n->lo<=b/\b<hi):zR w lo hi v n f g:=by
 obtain⟨h0,a,cap,hv,hcc,hc⟩:=h;refine⟨h0,a,cap,hv,hcc,fun hn=>?_⟩;obtain⟨off,ha,h3⟩:=hc hn;exact⟨b,off,ha,(hb hn).1,(hb hn).2,fun i hi=>⟨(h3 i hi).1.1,(h3 i hi).2.1⟩⟩
theorem qj.zRR{S:Nat->Prop}{w w':World}{b:Nat}{v:Value}{n:Nat}{f:Nat->Int}(h:qj w b v n f)(t:zF S w w')(hs:0<n->¬S b):qj w' b v n f:=by
 obtain⟨h0,a,cap,hv,hcc,hc,hr⟩:=h;refine⟨h0,a,cap,hv,hcc,fun hn=>?_,fun aA=>?_⟩;rotate_left
 ·obtain⟨r0,r1,r2,cur,r3,r4⟩:=hr aA;exact⟨r0,r1,r2,cur,(t.block b(Array.getElem?_eq_some_iff.1 r3).1(hs r0)).trans r3,r4⟩
 obtain⟨off,ha,h3⟩:=hc hn;exact⟨off,ha,fun i hi=>(h3 i hi).zRR t(hs hn)⟩
theorem zj.zRR{S:Nat->Prop}{w w':World}{b:Nat}{v:Value}{n:Nat}{f g:Nat->Int}(h:zj w b v n f g)(t:zF S w w')(hs:0<n->¬S b):zj w' b v n f g:=by
 obtain⟨h0,a,cap,hv,hcc,hc⟩:=h;refine⟨h0,a,cap,hv,hcc,fun hn=>?_⟩;obtain⟨off,ha,h3⟩:=hc hn;exact⟨off,ha,fun i hi=>⟨(h3 i hi).1.zRR t(hs hn),(h3 i hi).2.zRR t(hs hn)⟩⟩
theorem zj.zRJ{w w':World}{b:Nat}{v:Value}{n:Nat}{f g:Nat->Int}(h:zj w b v n f g)(t:Below w.heap.size w w'):zj w' b v n f g:=
 h.zRR(zF.zRM(S:=fun _=>False) t)(fun _ h=>h)
theorem qj.zRJ{w w':World}{b:Nat}{v:Value}{n:Nat}{f:Nat->Int}(h:qj w b v n f)(t:Below w.heap.size w w'):qj w' b v n f:=
 h.zRR(zF.zRM(S:=fun _=>False) t)(fun _ h=>h)
structure yy(w:World)(bs o kb:Nat)(kv:Value)(s:zL):Prop where
 zRU:zX w bs o(.int .i64 s.zRU)
 kidsv:zX w bs(o+1) kv
 data:zX w bs(o+2)(.string s.data)
 kids:zj w kb kv s.kn s.ks s.kb
 zRZ:s.data.size<=maxLen
 zRW:0<s.kn->kb≠bs
theorem yy.zRR{S:Nat->Prop}{w w':World}{bs o kb:Nat}{kv:Value}{s:zL}(h:yy w bs o kb kv s)(t:zF S w w')(h1:¬S bs)(h2:0<s.kn->¬S kb):yy w' bs o kb kv s:=
 ⟨h.zRU.zRR t h1,h.kidsv.zRR t h1,h.data.zRR t h1,h.kids.zRR t h2,h.zRZ,h.zRW⟩
theorem yy.zRJ{w w':World}{bs o kb:Nat}{kv:Value}{s:zL}(h:yy w bs o kb kv s)(t:Below w.heap.size w w'):yy w' bs o kb kv s:=
 h.zRR(zF.zRM(S:=fun _=>False) t)(fun h=>h)(fun _ h=>h)
theorem yy.at{w:World}{bs o kb:Nat}{kv:Value}{s:zL}(h:yy w bs o kb kv s){lo hi:Nat}(hb:0<s.kn->lo<=kb/\kb<hi):qI w lo hi(.int .i64 s.zRU) kv(.string s.data) s:=
 ⟨rfl,h.kids.at hb,rfl,h.zRZ⟩
def qW(w:World)(bs:Nat)(kb:Nat->Nat)(kv:Nat->Value)(v:Value)(n:Nat)(f:Nat->zL):Prop:=
 n<=maxLen/\∃a cap,v = .slice a n cap/\n<=cap/\(0<n->∃off,a=some ⟨bs,off,none⟩/\∀i,i<n->yy w bs(off+i*3)(kb i)(kv i)(f i))
def yS(kb:Nat->Nat)(n:Nat)(f:Nat->zL):Prop:=∀i j,i<n->j<n->i≠j->0<(f i).kn->0<(f j).kn->kb i≠kb j
def zQP(lo hi bs:Nat)(kb:Nat->Nat)(n:Nat)(f:Nat->zL):Prop:=0<n->(lo<=bs/\bs<hi)/\∀i,i<n->0<(f i).kn->lo<=kb i/\kb i<hi
theorem qW.at{w:World}{bs:Nat}{kb:Nat->Nat}{kv:Nat->Value}{v:Value}{n:Nat}{f:Nat->zL}(h:qW w bs kb kv v n f){lo hi:Nat}(hb:zQP lo hi bs kb n f):qA w lo hi v n f:=by
 obtain⟨h0,a,cap,hv,hcc,hc⟩:=h;refine⟨h0,a,cap,hv,hcc,fun hn=>?_⟩;obtain⟨off,ha,h3⟩:=hc hn;refine⟨bs,off,ha,(hb hn).1.1,(hb hn).1.2,fun i hi=>?_⟩;exact⟨_,_,_,(h3 i hi).zRU.1,(h3 i hi).kidsv.1,(h3 i hi).data.1,(h3 i hi).at((hb hn).2 i hi)⟩
theorem qW.zRJ{w w':World}{bs:Nat}{kb:Nat->Nat}{kv:Nat->Value}{v:Value}{n:Nat}{f:Nat->zL}(h:qW w bs kb kv v n f)(t:Below w.heap.size w w'):qW w' bs kb kv v n f:=by
 obtain⟨h0,a,cap,hv,hcc,hc⟩:=h;refine⟨h0,a,cap,hv,hcc,fun hn=>?_⟩;obtain⟨off,ha,h3⟩:=hc hn;exact⟨off,ha,fun i hi=>(h3 i hi).zRJ t⟩
theorem qW.zRR{S:Nat->Prop}{w w':World}{bs:Nat}{kb:Nat->Nat}{kv:Nat->Value}{v:Value}{n:Nat}{f:Nat->zL}(h:qW w bs kb kv v n f)(t:zF S w w')
  (h1:0<n->¬S bs)(h2:∀i,i<n->0<(f i).kn->¬S(kb i)):qW w' bs kb kv v n f:=by
 obtain⟨h0,a,cap,hv,hcc,hc⟩:=h;refine⟨h0,a,cap,hv,hcc,fun hn=>?_⟩;obtain⟨off,ha,h3⟩:=hc hn;exact⟨off,ha,fun i hi=>(h3 i hi).zRR t(h1 hn)(h2 i hi)⟩
def zc(w:World)(b:Nat)(v0 v1:Value):Prop:=zX w b 0 v0/\zX w b 1 v1
theorem zc.zRJ{w w':World}{b:Nat}{v0 v1:Value}(h:zc w b v0 v1)(t:Below w.heap.size w w'):zc w' b v0 v1:=⟨h.1.zRJ t,h.2.zRJ t⟩
theorem zc.zRR{S:Nat->Prop}{w w':World}{b:Nat}{v0 v1:Value}(h:zc w b v0 v1)(t:zF S w w')(hs:¬S b):zc w' b v0 v1:=⟨h.1.zRR t hs,h.2.zRR t hs⟩
theorem zc.zRL(w:World)(v0 v1:Value)(t:TypeId):zc(w.alloc(.cells #[v0,v1] t)) w.heap.size v0 v1:=
 ⟨⟨by rw [World.cell?_alloc_at(hn:=rfl)];rfl,by rw [World.frozen?_alloc_at(hn:=rfl)]⟩,⟨by rw [World.cell?_alloc_at(hn:=rfl)];rfl,by rw [World.frozen?_alloc_at(hn:=rfl)]⟩⟩
def yT(w:World)(b:Nat)(v0 v1 v2:Value):Prop:=zX w b 0 v0/\zX w b 1 v1/\zX w b 2 v2
theorem yT.zRJ{w w':World}{b:Nat}{v0 v1 v2:Value}(h:yT w b v0 v1 v2)(t:Below w.heap.size w w'):yT w' b v0 v1 v2:=⟨h.1.zRJ t,h.2.1.zRJ t,h.2.2.zRJ t⟩
theorem yT.zRL(w:World)(v0 v1 v2:Value)(t:TypeId):yT(w.alloc(.cells #[v0,v1,v2] t)) w.heap.size v0 v1 v2:=
 ⟨⟨by rw [World.cell?_alloc_at(hn:=rfl)];rfl,by rw [World.frozen?_alloc_at(hn:=rfl)]⟩,⟨by rw [World.cell?_alloc_at(hn:=rfl)];rfl,by rw [World.frozen?_alloc_at(hn:=rfl)]⟩,⟨by rw [World.cell?_alloc_at(hn:=rfl)];rfl,by rw [World.frozen?_alloc_at(hn:=rfl)]⟩⟩
theorem yT.put{w:World}{b:Nat}{v0 v1 v2:Value}(h:yT w b v0 v1 v2)(u0 u1 u2:Value):yT(((w.setCell ⟨b,0,none⟩ u0).setCell ⟨b,1,none⟩ u1).setCell ⟨b,2,none⟩ u2) b u0 u1 u2:=
 ⟨((h.1.set u0).zRK _(Or.inr(by omega))).zRK _(Or.inr(by omega)),((h.2.1.zRK _(Or.inr(by omega))).set u1).zRK _(Or.inr(by omega)),((h.2.2.zRK _(Or.inr(by omega))).zRK _(Or.inr(by omega))).set u2⟩
theorem zc.put{w:World}{b:Nat}{v0 v1:Value}(h:zc w b v0 v1)(u0 u1:Value):zc((w.setCell ⟨b,0,none⟩ u0).setCell ⟨b,1,none⟩ u1) b u0 u1:=
 ⟨(h.1.set u0).zRK _(Or.inr(by omega)),(h.2.zRK _(Or.inr(by omega))).set u1⟩
theorem yT.zRK{w:World}{b:Nat}{v0 v1 v2:Value}(h:yT w b v0 v1 v2){b' o':Nat}(u:Value)(aA:b'≠b):yT(w.setCell ⟨b',o',none⟩ u) b v0 v1 v2:=
 ⟨h.1.zRK u(Or.inl aA),h.2.1.zRK u(Or.inl aA),h.2.2.zRK u(Or.inl aA)⟩
theorem zc.zRK{w:World}{b:Nat}{v0 v1:Value}(h:zc w b v0 v1){b' o':Nat}(u:Value)(aA:b'≠b):zc(w.setCell ⟨b',o',none⟩ u) b v0 v1:=
 ⟨h.1.zRK u(Or.inl aA),h.2.zRK u(Or.inl aA)⟩
theorem zj.put{w:World}{b:Nat}{v:Value}{n:Nat}{f g:Nat->Int}(h:zj w b v n f g){b' o':Nat}(u:Value)(aA:b'≠b):zj(w.setCell ⟨b',o',none⟩ u) b v n f g:=
 h.zRR(zF.put w b' o' u)(fun _ e=>aA e.symm)
theorem qj.put{w:World}{b:Nat}{v:Value}{n:Nat}{f:Nat->Int}(h:qj w b v n f){b' o':Nat}(u:Value)(aA:b'≠b):qj(w.setCell ⟨b',o',none⟩ u) b v n f:=
 h.zRR(zF.put w b' o' u)(fun _ e=>aA e.symm)
theorem zC(w:World)(o:Obj):Below w.heap.size w(w.alloc o):=(Below.refl _ _).alloc(Nat.le_refl _) o
theorem zI{w:World}{b i:Nat}{cs:Array Value}{t:TypeId}{v:Value}(h:w.heap[b]?=some(.cells cs t))(hi:cs[i]?=some v):zX w b i v:=by
 refine⟨?_,?_⟩
 ·simp [World.cell?,h,hi]
 ·simp [World.frozen?,h]
theorem zAU{w:World}{b o:Nat}{cs:Array Value}{t:TypeId}(v:Value)(h:w.heap[b]?=some(.cells cs t)):(w.setCell ⟨b,o,none⟩ v).heap[b]?=some(.cells(cs.setIfInBounds o v) t):=by
 simp [World.setCell,Array.getElem?_modify,h]
theorem zW{w:World}{base e size:Nat}{v:Value}{n:Nat}{xs:List Value}(h:w.ownsRow base e size v n xs):∃a aA,v = .slice a n aA/\n<=aA:=by
 obtain⟨_,⟨h,rfl⟩ | ⟨g,aA,cur,hv,_,_,hle,_⟩⟩:=h
 ·exact⟨none,0,h,Nat.le_refl _⟩
 ·exact⟨_,aA,hv,hle⟩
theorem qf{w:World}{base e size:Nat}{v:Value}{n:Nat}{xs:List Value}(h:w.ownsRow base e size v n xs)(hn:0<n) :
  ∃g bA,v = .slice(some ⟨g,0,none⟩) n bA/\n<=bA/\base<=g/\g<w.heap.size/\∀j u,xs[j]?=some u->zX w g j u:=by
 obtain⟨_,⟨h,rfl⟩ | ⟨g,bA,cur,hv,hb,hg,h1,h2,h3,h4⟩⟩:=h
 ·omega
 ·refine⟨g,bA,hv,h1,hb,?_,fun j u hj=>?_⟩
  ·by_cases cA:g<w.heap.size
   ·exact cA
   ·rw [Array.getElem?_eq_none(by omega)] at hg;simp at hg
  ·refine⟨?_,?_⟩
   ·simp only [World.cell?,hg];have aA:(cur.toList.take(n*size))[j]?=some u:=(by rw [h4];exact hj);rw [List.getElem?_take] at aA;split at aA
    ·simpa using aA
    ·simp at aA
   ·simp only [World.frozen?,hg];simp
theorem zLU{w w1:World}{v:Value}{b base e size n:Nat}{xs:List Value}(hg:w.grownBy w1 v.ownBlock)(aA:w.ownsRow base e size v n xs)(hb:b<base)(bA:b<w.heap.size):w1.heap[b]?=w.heap[b]?:=
 hg.block b bA(fun e=>by have:=aA.lt b e.symm;omega)
def yk(bs:Nat)(kb:Nat->Nat)(n:Nat)(f:Nat->zL)(k:Nat):Prop:=(0<n/\k=bs)\/∃i,i<n/\0<(f i).kn/\k=kb i
theorem qW.lt{w:World}{bs:Nat}{kb:Nat->Nat}{kv:Nat->Value}{v:Value}{n:Nat}{f:Nat->zL}(h:qW w bs kb kv v n f){k:Nat}(hk:yk bs kb n f k):k<w.heap.size:=by
 obtain⟨_,a,cap,_,_,hc⟩:=h;rcases hk with⟨h0,rfl⟩ | ⟨i,hi,h0,rfl⟩
 ·obtain⟨off,_,h3⟩:=hc h0;exact(h3 0 h0).zRU.lt
 ·obtain⟨off,_,h3⟩:=hc(by omega);obtain⟨_,_,_,_,_,h4⟩:=(h3 i hi).kids;obtain⟨o,_,h5⟩:=h4 h0;exact(h5 0 h0).1.lt
def zt(w:World)(lo hi:Nat)(v0 v1:Value)(p:zJ):Prop:=
 ∃(bs hb:Nat)(kb:Nat->Nat)(kv:Nat->Value),qW w bs kb kv v0 p.n p.s/\yS kb p.n p.s/\qj w hb v1 p.hn p.h/\(0<p.hn->¬yk bs kb p.n p.s hb)/\
  ∀k,yk bs kb p.n p.s k\/(0<p.hn/\k=hb)->lo<=k/\k<hi
theorem zt.at{w:World}{lo hi:Nat}{v0 v1:Value}{p:zJ}(h:zt w lo hi v0 v1 p):zy w lo hi v0 v1 p:=by
 obtain⟨bs,hb,kb,kv,h1,h2,h3,h4,h5⟩:=h;exact⟨h1.at fun h0=>⟨h5 _(Or.inl(Or.inl ⟨h0,rfl⟩)),fun i hi h=>h5 _(Or.inl(Or.inr ⟨i,hi,h,rfl⟩))⟩,h3.at fun h0=>h5 _(Or.inr ⟨h0,rfl⟩)⟩
theorem zt.zRJ{w w':World}{lo hi:Nat}{v0 v1:Value}{p:zJ}(h:zt w lo hi v0 v1 p)(t:Below w.heap.size w w'):zt w' lo hi v0 v1 p:=by
 obtain⟨bs,hb,kb,kv,h1,h2,h3,h4,h5⟩:=h;exact⟨bs,hb,kb,kv,h1.zRJ t,h2,h3.zRJ t,h4,h5⟩
theorem zt.zRR{S:Nat->Prop}{w w':World}{lo hi:Nat}{v0 v1:Value}{p:zJ}(h:zt w lo hi v0 v1 p)(t:zF S w w')(hs:∀k,S k->k<lo\/hi<=k):zt w' lo hi v0 v1 p:=by
 obtain⟨bs,hb,kb,kv,h1,h2,h3,h4,h5⟩:=h;have out:∀k,yk bs kb p.n p.s k\/(0<p.hn/\k=hb)->¬S k:=fun k hk hx=>by
  have a:=h5 k hk;have b:=hs k hx;omega
 exact⟨bs,hb,kb,kv,h1.zRR t(fun h0=>out _(Or.inl(Or.inl ⟨h0,rfl⟩)))(fun i hi h=>out _(Or.inl(Or.inr ⟨i,hi,h,rfl⟩))),h2,h3.zRR t(fun h0=>out _(Or.inr ⟨h0,rfl⟩)),h4,h5⟩
theorem zt.zRO{w:World}{lo hi lo' hi':Nat}{v0 v1:Value}{p:zJ}(h:zt w lo hi v0 v1 p)(h1:lo'<=lo)(h2:hi<=hi'):zt w lo' hi' v0 v1 p:=by
 obtain⟨bs,hb,kb,kv,g1,g2,g3,g4,g5⟩:=h;exact⟨bs,hb,kb,kv,g1,g2,g3,g4,fun k hk=>by have:=g5 k hk;omega⟩
theorem zt.form{w:World}{lo hi:Nat}{v0 v1:Value}{p:zJ}(h:zt w lo hi v0 v1 p):∃a c a' c',v0 = .slice a p.n c/\v1 = .slice a' p.hn c':=by
 obtain⟨bs,hb,kb,kv,⟨_,a,c,h1,_⟩,h2,⟨_,a',c',h3,_,_⟩,h4,h5⟩:=h;exact⟨a,c,a',c',h1,h3⟩
theorem zy.form{w:World}{lo hi:Nat}{v0 v1:Value}{p:zJ}(h:zy w lo hi v0 v1 p):∃a c a' c',v0 = .slice a p.n c/\v1 = .slice a' p.hn c':=by
 obtain⟨⟨_,a,c,h1,_⟩,⟨_,a',c',h3,_⟩⟩:=h;exact⟨a,c,a',c',h1,h3⟩
def zHP(p:zJ)(w:World)(e:Ending)(w':World):Prop:=∃v0 v1,e = .returned(.agg #[v0,v1])/\zt w' w.heap.size w'.heap.size v0 v1 p/\Below w.heap.size w w'
def zG2:zL:={zRU:=0,kn:=0,ks:=fun _=>0,kb:=fun _=>0,data:=⟨#[]⟩}
def zDi(n:Nat):zJ:={n:=n,s:=fun _=>zG2,hn:=0,h:=fun _=>0}
theorem zLx{bs:Nat}{kb:Nat->Nat}{n k:Nat}:yk bs kb n(fun _=>zG2) k↔0<n/\k=bs:=by
 constructor
 ·rintro(h | ⟨i,_,h0,_⟩)
  ·exact h
  ·exact absurd h0(by simp [zG2])
 ·exact Or.inl
theorem zOx{w:World}{lo hi g n:Nat}{v0:Value}(hn:n<=maxLen)(hv:∃a aA,v0 = .slice a n aA/\n<=aA/\(0<n->a=some ⟨g,0,none⟩/\lo<=g/\g<hi))
  (hc:∀i,i<n->zX w g(0+i*3)(.int .i64 0)/\zX w g(0+i*3+1)(.slice none 0 0)/\zX w g(0+i*3+2)(.string ⟨#[]⟩)) :
  zt w lo hi v0(.slice none 0 0)(zDi n):=by
 obtain⟨a,aA,rfl,hcap,ha⟩:=hv;refine⟨g,0,fun _=>0,fun _=>.slice none 0 0,⟨hn,a,aA,rfl,hcap,fun h0=>⟨0,(ha h0).1,fun i hi=>?_⟩⟩,fun i j _ _ _ h0 _=>absurd h0(by simp [zDi,zG2]),⟨Nat.zero_le _,none,0,rfl,Nat.le_refl _,fun h=>absurd h(Nat.lt_irrefl _),fun h=>absurd h(Nat.lt_irrefl _)⟩,fun h=>absurd h(Nat.lt_irrefl _),?_⟩
 ·exact⟨(hc i hi).1,(hc i hi).2.1,(hc i hi).2.2,⟨Nat.zero_le _,none,0,rfl,Nat.le_refl _,fun h=>absurd h(Nat.lt_irrefl _)⟩,Nat.zero_le _,fun h=>absurd h(Nat.lt_irrefl _)⟩
 ·rintro k(h | h)
  ·obtain⟨h0,rfl⟩:=zLx.1 h;exact(ha h0).2
  ·exact absurd h.1(Nat.lt_irrefl _)
def zAY(s:zL):Nat:=s.kn+s.data.size
def yr(f:Nat->zL):Nat->Nat
 |0=>0
 |k+1=>yr f k+zAY(f k)
def qE(p:zJ):Nat:=p.n+yr p.s p.n+p.hn
theorem zFr(f:Nat->zL){j n:Nat}(h:j<n):zAY(f j)<=yr f n:=by
 induction n with
 |zero=>omega
 |succ n ih=>
  show _<=yr f n+zAY(f n);by_cases e:j=n
  ·subst e;omega
  ·have:=ih(by omega);omega
theorem zDM:(Tryz.prog.info? 2).map(fun i=>(i.zero,i.size,i.bytes))=some(some(.int .i64 0),1,8):=by kernel_rfl
theorem zKj:(Tryz.prog.info? 61).map(fun i=>(i.zero,i.size,i.bytes))=some(some(.agg #[.int .i64 0,.int .i64 0]),2,16):=by kernel_rfl
theorem zEX:(Tryz.prog.info? 127).map(fun i=>(i.zero,i.size,i.bytes))=some(some(.agg #[.int .i64 0,.slice none 0 0,.string ⟨#[]⟩]),3,48):=by kernel_rfl
def zA0(zs:Array Value)(n:Nat):Array Value:=madeCells zs(n*zs.size)
theorem zPm(zs:Array Value)(n i r:Nat)(hi:i<n)(hr:r<zs.size):(zA0 zs n)[i*zs.size+r]?=some(zs[r]!):=by
 unfold zA0 madeCells;have h1:i*zs.size+r<n*zs.size:=by
  have:(i+1)*zs.size<=n*zs.size:=Nat.mul_le_mul_right _ hi;rw [Nat.add_mul] at this;omega
 have h2:(i*zs.size+r) % zs.size=r:=by rw [Nat.mul_comm,Nat.mul_add_mod];exact Nat.mod_eq_of_lt hr
 simp only [Array.getElem?_map,Array.getElem?_range,h1,if_true,Option.map_some,h2]
theorem zBC(t e:TypeId)(z:Value)(size bytes:Nat)(ht:Tryz.prog.underlying t=some(.slice e))(aA:(Tryz.prog.info? e).map(fun i=>(i.zero,i.size,i.bytes))=some(some z,size,bytes))(hs:z.cells.size=size)
  (n:Nat)(hn:n<=1048576)(hb:bytes<=1000)(w:World):(Instr.makeSlice t(.int .i64(n:Int))(.int .i64(n:Int))).run Tryz.prog w = .ok(.slice(some ⟨w.heap.size,0,none⟩) n n)(w.alloc(.cells(zA0 z.cells n) e)):=by
 obtain⟨i,hi,hzz⟩:=Option.map_eq_some_iff.1 aA;simp only [Prod.mk.injEq] at hzz;obtain⟨hz,hs',hb'⟩:=hzz;have bA:(bytes:Int)*(n:Int)<=281474976710656:=by
  have h:bytes*n<=1000*1048576:=Nat.mul_le_mul hb hn;have h2:((bytes*n:Nat):Int)<=((1000*1048576:Nat):Int):=Int.ofNat_le.2 h;rw [Int.natCast_mul] at h2;omega
 have hr:=run_make(P:=Tryz.prog) w t e i z ht hi hz .i64 .i64 n n(by omega)(Int.le_refl _)(by rw [hb'];exact bA)(by omega);rw [hs',<-hs] at hr;simp only [Int.toNat_natCast] at hr;exact hr
theorem qu(w:World)(zs:Array Value)(n i r:Nat)(t:TypeId)(hi:i<n)(hr:r<zs.size):zX(w.alloc(.cells(zA0 zs n) t)) w.heap.size(i*zs.size+r)(zs[r]!):=
 ⟨by rw [World.cell?_alloc_at(hn:=rfl)];exact zPm zs n i r hi hr,by rw [World.frozen?_alloc_at(hn:=rfl)]⟩
open Go.Extern.Stop Go.Stop Go.Extern
theorem zd{P:Prop}(h:P):Hid P:=h
abbrev qP(a:Addr):Value:=.iface 269(.pointer(some a))
def errG:Nat->Nat
 |0=>4
 |1=>3
 |2=>0
 |3=>2
 |4=>5
 |5=>1
 |_=>6
def zBO:Nat->Int
 |0=>1
 |1=>2
 |2=>4
 |3=>5
 |4=>6
 |5=>7
 |_=>8
structure zEt(w:World)(p:Nat->Addr):Prop where
 cell:∀i,i<7->w.cell? ⟨errG i,0,none⟩=some(qP(p i))
 row:∀i,i<7->∃cs t,w.heap[(p i).block]?=some(.cells cs t(0,0))
 ne:∀i j,i<7->j<7->i≠j->p i≠p j
theorem zEt.zRJ{w w':World}{p:Nat->Addr}(h:zEt w p)(t:Below w.heap.size w w'):zEt w' p:=
 ⟨fun i hi=>(t.cell(zD(h.cell i hi))).trans(h.cell i hi),fun i hi=>by
  obtain⟨cs,ty,hc⟩:=h.row i hi;exact⟨cs,ty,(t.block _(Array.getElem?_eq_some_iff.1 hc).1).trans hc⟩,h.ne⟩
theorem zMG(v:Value)(w:World):(Extern.ReflectliteType.typeOf #[.iface 269 v]).run Tryz.prog w = .ok(.iface 254(.agg #[.pointer(some ⟨7,269,none⟩)])) w:=by kernel_rfl
def zQw:Array Value->Sem Value:=Extern.ReflectliteType.method fun t=>do Extern.Rtype.noPackHeld "Comparable" t;pure(.bool(<-typeInfo t).comparable)
theorem zFa(w:World):(zQw #[.agg #[.pointer(some ⟨7,269,none⟩)]]).run Tryz.prog w = .ok(.bool true) w:=by kernel_rfl
theorem zCn(v:Value)(w:World):(Go.method 407 254 v "Comparable").run Tryz.prog w = .ok(254,v) w:=by kernel_rfl
theorem zPd:(Tryz.prog.info? 269).map(·.comparable)=some true:=by kernel_rfl
theorem zPN:(Tryz.prog.info? 295).map(·.size)=some 1:=by kernel_rfl
theorem zRE(v:Value)(xT:TypeId)(w:World):(Instr.typeAssert(.iface 269 v) xT 256 true).run Tryz.prog w = .ok(.tuple #[.nilIface,.bool false]) w:=run_typeAssert_lacksB Tryz.underlying256(by kernel_rfl)(by kernel_rfl) v xT w
theorem zNs(v:Value)(xT:TypeId)(w:World):(Instr.typeAssert(.iface 269 v) xT 259 true).run Tryz.prog w = .ok(.tuple #[.nilIface,.bool false]) w:=run_typeAssert_lacksB Tryz.underlying259(by kernel_rfl)(by kernel_rfl) v xT w
theorem zMN(v:Value)(xT:TypeId)(w:World):(Instr.typeAssert(.iface 269 v) xT 261 true).run Tryz.prog w = .ok(.tuple #[.nilIface,.bool false]) w:=run_typeAssert_lacksB Tryz.underlying261(by kernel_rfl)(by kernel_rfl) v xT w
theorem zP0(a:Addr)(w:World):Calls Tryz.prog 172 #[qP a,qP a] w fun e w'=>e = .returned(.bool true)/\w'=w:=by
 obtain⟨i,hi,hcmp⟩:=Option.map_eq_some_iff.1 zPd;obtain⟨j,hj,hjs⟩:=Option.map_eq_some_iff.1 zPN;have h8:=@run_callFunc_extern Tryz.prog 212 _ Extern.ReflectliteType.typeOf Tryz.func212(by kernel_rfl)(by kernel_rfl)(by kernel_rfl)(by kernel_rfl);have bA:=@run_callFunc_extern Tryz.prog 254 _ zQw Tryz.func254(by kernel_rfl)(by kernel_rfl)(by kernel_rfl)(by kernel_rfl);have tT:=zMG;have cT:=zFa;have mR:=zCn;have aA:=run_eql_iface_ptr_same(P:=Tryz.prog) w a Tryz.underlying73 Tryz.underlying269 hi hcmp hj;go_enter Tryz.func172,Tryz.ntmps172;go_wp2;refine wp_loop_rounds 1 ?_;rw [rounds_succ];go_wp2;go_ret;exact⟨rfl,rfl⟩
theorem zPr(a b:Addr)(ca cb:Array Value)(ta tb:TypeId)(w:World)(aA:a≠b)(ha:w.heap[a.block]?=some(.cells ca ta(0,0)))(hb:w.heap[b.block]?=some(.cells cb tb(0,0))):Calls Tryz.prog 172 #[qP a,qP b] w fun e w'=>e = .returned(.bool false)/\w'=w:=by
 obtain⟨i,hi,hcmp⟩:=Option.map_eq_some_iff.1 zPd;obtain⟨j,hj,hjs⟩:=Option.map_eq_some_iff.1 zPN;have h8:=@run_callFunc_extern Tryz.prog 212 _ Extern.ReflectliteType.typeOf Tryz.func212(by kernel_rfl)(by kernel_rfl)(by kernel_rfl)(by kernel_rfl);have cA:=@run_callFunc_extern Tryz.prog 254 _ zQw Tryz.func254(by kernel_rfl)(by kernel_rfl)(by kernel_rfl)(by kernel_rfl);have tT:=zMG;have cT:=zFa;have mR:=zCn;have nE:=zRE;have uE:=zNs;have vE:=zMN;have bA:=run_eql_iface_ptr_other(P:=Tryz.prog) w Tryz.underlying73 Tryz.underlying269 hi hcmp hj(by rw [hjs];decide) aA ha hb;go_enter Tryz.func172,Tryz.ntmps172;go_wp2;refine wp_loop_rounds 1 ?_;rw [rounds_succ];go_wp2;go_ret;exact⟨rfl,rfl⟩
def zOX(p:Nat->Addr):Array Value:=#[qP(p 0),.int .i64 1,qP(p 1),.int .i64 2,qP(p 2),.int .i64 4,qP(p 3),.int .i64 5,qP(p 4),.int .i64 6,qP(p 5),.int .i64 7,qP(p 6),.int .i64 8]
theorem zNN(p:Nat->Addr){i:Nat}(hi:i<7):(zOX p)[i*2]?=some(qP(p i))/\(zOX p)[i*2+1]?=some(.int .i64(zBO i)):=by
 match i,hi with
 |0,_=>exact⟨rfl,rfl⟩
 |1,_=>exact⟨rfl,rfl⟩
 |2,_=>exact⟨rfl,rfl⟩
 |3,_=>exact⟨rfl,rfl⟩
 |4,_=>exact⟨rfl,rfl⟩
 |5,_=>exact⟨rfl,rfl⟩
 |6,_=>exact⟨rfl,rfl⟩
theorem zFx(p:Nat->Addr)(w:World)(h:zEt w p):Calls Tryz.prog 150 #[] w fun e w'=>e = .returned(.slice(some ⟨w.heap.size,0,none⟩) 7 7)/\w'=w.alloc(.cells(zOX p) 199):=by
 have h0:w.cell? ⟨4,0,none⟩=some(qP(p 0)):=h.cell 0(by omega);have h1:w.cell? ⟨3,0,none⟩=some(qP(p 1)):=h.cell 1(by omega);have h2:w.cell? ⟨0,0,none⟩=some(qP(p 2)):=h.cell 2(by omega);have h3:w.cell? ⟨2,0,none⟩=some(qP(p 3)):=h.cell 3(by omega);have h4:w.cell? ⟨5,0,none⟩=some(qP(p 4)):=h.cell 4(by omega);have h5:w.cell? ⟨1,0,none⟩=some(qP(p 5)):=h.cell 5(by omega);have h6:w.cell? ⟨6,0,none⟩=some(qP(p 6)):=h.cell 6(by omega);clear h;go_enter Tryz.func150,Tryz.ntmps150;go_wp2;go_ret;exact⟨rfl,rfl⟩
def zDv(i:Nat)(c:Int):Prop:=(97<=c/\c<=122)\/(i≠0/\((48<=c/\c<=57)\/c=95))
def yM(s:ByteArray):Prop:=1<=s.size/\s.size<=20/\∀j,(h:j<s.size)->zDv j(s[j].toNat:Int)
theorem zQZ{s:ByteArray}{k:Nat}(cA:k<s.size)(aA:∀j,(h:j<k)->(h':j<s.size)->zDv j(s[j].toNat:Int))(bA:zDv k(s[k].toNat:Int)) :
  ∃m:Nat,m<=s.size/\Value.int .i64((k:Int)+1) = .int .i64(m:Int)/\∀j,(h:j<m)->(h':j<s.size)->zDv j(s[j].toNat:Int):=by
 refine⟨k+1,by omega,by simp,fun j h h'=>?_⟩;by_cases e:j=k
 ·subst e;exact bA
 ·exact aA j(by omega) h'
theorem zQU{s:ByteArray}(bA:0<s.size)(aA:zDv 0(s[0].toNat:Int)) :
  ∃m:Nat,m<=s.size/\Value.int .i64 1 = .int .i64(m:Int)/\∀j,(h:j<m)->(h':j<s.size)->zDv j(s[j].toNat:Int):=by
 refine⟨1,by omega,by simp,fun j h h'=>?_⟩;obtain rfl:j=0:=by omega
 exact aA
theorem zDX(s:ByteArray)(w:World)(hs:s.size<=maxLen) :
  Calls Tryz.prog 138 #[.string s] w fun e w'=>zG(yM s) e/\w'=w:=by
 unfold maxLen at hs;by_cases h1:s.size<1
 ·have cA:(s.size:Int)<1:=(by omega);go_enter Tryz.func138,Tryz.ntmps138;go_wp2;go_ret;exact⟨⟨false,rfl,by simp [yM];omega⟩,rfl⟩
 by_cases h2:20<s.size
 ·have eA:(20:Int)<(s.size:Int):=(by omega);have cA:¬(s.size:Int)<1:=(by omega);go_enter Tryz.func138,Tryz.ntmps138;go_wp2;go_ret;exact⟨⟨false,rfl,by simp [yM];omega⟩,rfl⟩
 have cA:¬(s.size:Int)<1:=by omega
 have eA:¬(20:Int)<(s.size:Int):=by omega
 go_enter Tryz.func138,Tryz.ntmps138;go_wp2
 go_loop [3](fun i=>∃k:Nat,k<=s.size/\i = .int .i64 k/\∀j,(h:j<k)->(h':j<s.size)->zDv j(s[j].toNat:Int))(fun i=>s.size - (intOf i).toNat)
 case atStart=>exact⟨0,Nat.zero_le _,rfl,fun j h=>absurd h(Nat.not_lt_zero _)⟩
 case round=>
  obtain⟨k,hk,rfl,hall⟩:=hrel;have aA:Hid(∀j,(h:j<k)->(h':j<s.size)->zDv j(s[j].toNat:Int)):=hall;clear hall;by_cases bA:k<s.size
  ·by_cases dA:k=0
   all_goals try subst dA
   all_goals go_wp2
   all_goals try(go_ret;refine⟨⟨false,rfl,?_⟩,rfl⟩;simp only [Bool.false_eq_true,false_iff];intro h;have h3:=h.2.2 _ bA;unfold zDv at h3;first | omega | grind)
   all_goals
    go_round
    case measure=>simp [intOf];omega
    case rel=>first | exact zQU bA(by unfold zDv;first | omega | grind) | exact zQZ bA aA.out(by unfold zDv;first | omega | grind)
  ·go_wp2;go_ret;refine⟨⟨true,rfl,?_⟩,rfl⟩;simp only [true_iff];exact⟨by omega,by omega,fun j h=>aA.out j(by omega) h⟩
theorem zDW(s:ByteArray)(w:World)(hs:s.size<=maxLen) :
  Calls Tryz.prog 167 #[.string s] w fun e w'=>zG(yM s) e/\w'=w:=by
 unfold maxLen at hs;by_cases h1:s.size<1
 ·have eA:(s.size:Int)<1:=(by omega);go_enter Tryz.func167,Tryz.ntmps167;go_wp2;go_ret;exact⟨⟨false,rfl,by simp [yM];omega⟩,rfl⟩
 by_cases h2:20<s.size
 ·have iA:(20:Int)<(s.size:Int):=(by omega);have eA:¬(s.size:Int)<1:=(by omega);go_enter Tryz.func167,Tryz.ntmps167;go_wp2;go_ret;exact⟨⟨false,rfl,by simp [yM];omega⟩,rfl⟩
 have eA:¬(s.size:Int)<1:=by omega
 have iA:¬(20:Int)<(s.size:Int):=by omega
 have h0:0<s.size:=by omega
 by_cases bA:97<=(s[0].toNat:Int)/\(s[0].toNat:Int)<=122
 ·obtain⟨dA,fA⟩:=bA;go_enter Tryz.func167,Tryz.ntmps167;go_wp2
  go_loop [20](fun i=>∃k:Nat,k<=s.size/\i = .int .i64 k/\∀j,(h:j<k)->(h':j<s.size)->zDv j(s[j].toNat:Int))(fun i=>s.size - (intOf i).toNat)
  case atStart=>exact⟨0,Nat.zero_le _,rfl,fun j h=>absurd h(Nat.not_lt_zero _)⟩
  case round=>
   obtain⟨k,hk,rfl,hall⟩:=hrel;have aA:Hid(∀j,(h:j<k)->(h':j<s.size)->zDv j(s[j].toNat:Int)):=hall;clear hall;by_cases cA:k<s.size
   ·by_cases gA:k=0
    all_goals try subst gA
    all_goals go_wp2
    all_goals try(go_ret;refine⟨⟨false,rfl,?_⟩,rfl⟩;simp only [Bool.false_eq_true,false_iff];intro h;have h3:=h.2.2 _ cA;unfold zDv at h3;first | omega | grind)
    all_goals
     go_round
     case measure=>simp [intOf];omega
     case rel=>first | exact zQU cA(by unfold zDv;first | omega | grind) | exact zQZ cA aA.out(by unfold zDv;first | omega | grind)
   ·go_wp2;go_ret;refine⟨⟨true,rfl,?_⟩,rfl⟩;simp only [true_iff];exact⟨by omega,by omega,fun j h=>aA.out j(by omega) h⟩
 ·by_cases dA:97<=(s[0].toNat:Int)
  ·have fA:¬(s[0].toNat:Int)<=122:=fun h=>bA ⟨dA,h⟩
   clear bA;go_enter Tryz.func167,Tryz.ntmps167;go_wp2;go_ret;refine⟨⟨false,rfl,?_⟩,rfl⟩;simp only [Bool.false_eq_true,false_iff];intro h;have h3:=h.2.2 _ h0;unfold zDv at h3;omega
  ·clear bA;go_enter Tryz.func167,Tryz.ntmps167;go_wp2;go_ret;refine⟨⟨false,rfl,?_⟩,rfl⟩;simp only [Bool.false_eq_true,false_iff];intro h;have h3:=h.2.2 _ h0;unfold zDv at h3;omega
def zDP(a b:ByteArray):Prop:=Op.bytesLess a.toList b.toList=true
theorem zK3:∀x y:List UInt8,Op.bytesLess x y=true\/x=y\/Op.bytesLess y x=true
 |[],[]=>Or.inr(Or.inl rfl)
 |[],b :: y=>Or.inl(by simp [Op.bytesLess])
 |a :: x,[]=>Or.inr(Or.inr(by simp [Op.bytesLess]))
 |a :: x,b :: y=>by
  simp only [Op.bytesLess,Bool.or_eq_true,decide_eq_true_eq,Bool.and_eq_true,beq_iff_eq,List.cons.injEq];by_cases h:a=b
  ·subst h;rcases zK3 x y with h | h | h
   ·exact Or.inl(Or.inr ⟨rfl,h⟩)
   ·exact Or.inr(Or.inl ⟨rfl,h⟩)
   ·exact Or.inr(Or.inr(Or.inr ⟨rfl,h⟩))
  ·have:a<b\/b<a:=by
    have aA:a.toNat≠b.toNat:=fun e=>h(UInt8.toNat_inj.1 e)
    rw [UInt8.lt_iff_toNat_lt,UInt8.lt_iff_toNat_lt];omega
   rcases this with h | h
   ·exact Or.inl(Or.inl h)
   ·exact Or.inr(Or.inr(Or.inl h))
theorem zJe:∀x:List UInt8,Op.bytesLess x x=false
 |[]=>rfl
 |a :: x=>by simp [Op.bytesLess,zJe x]
theorem zK1:∀x y:List UInt8,Op.bytesLess x y=true->Op.bytesLess y x=false
 |[],[],h=>by simp [Op.bytesLess] at h
 |[],b :: y,_=>by simp [Op.bytesLess]
 |a :: x,[],h=>by simp [Op.bytesLess] at h
 |a :: x,b :: y,h=>by
  simp only [Op.bytesLess,Bool.or_eq_true,decide_eq_true_eq,Bool.and_eq_true,beq_iff_eq] at h;rw [<-Bool.not_eq_true];simp only [Op.bytesLess,Bool.or_eq_true,decide_eq_true_eq,Bool.and_eq_true,beq_iff_eq,UInt8.lt_iff_toNat_lt] at h ⊢;rintro(h' | ⟨h',h2⟩)
  ·rcases h with h | ⟨h,_⟩
   ·omega
   ·subst h;omega
  ·subst h';rcases h with h | ⟨_,h⟩
   ·omega
   ·rw [zK1 x y h] at h2;exact absurd h2(by simp)
theorem zOq{a b:ByteArray}(h:a.toList=b.toList):a=b:=by
 rw [Go.ByteArray.toList_eq,Go.ByteArray.toList_eq] at h;cases a;cases b;simp only [ByteArray.mk.injEq] at *;exact Array.toList_inj.1 h
theorem zNV(a b:ByteArray):(Op.bytesLess a.toList b.toList || a.toList == b.toList)=false↔zDP b a:=by
 unfold zDP;rw [Bool.or_eq_false_iff,beq_eq_false_iff_ne];constructor
 ·rintro⟨h1,h2⟩;rcases zK3 a.toList b.toList with h | h | h
  ·rw [h1] at h;exact absurd h(by simp)
  ·exact absurd h h2
  ·exact h
 ·intro h;refine⟨zK1 _ _ h,fun e=>?_⟩;rw [e,zJe] at h;exact absurd h(by simp)
end Go.Proofs.YtmgeglgboadfiaaGreatDoor
