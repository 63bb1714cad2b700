/- A variable of eight cells (no law is proved here). -/
import Derived.Test.YtmgeglgboadfiaaGreatDoorT20
set_option linter.unusedVariables false
set_option maxRecDepth 20000
set_option maxHeartbeats 4000000
namespace Go.Proofs.YtmgeglgboadfiaaGreatDoor
open Go.RowKit
def zCp(w:World)(b:Nat)(v0 v1 v2 v3 v4 v5 v6 v7:Value):Prop:=zX w b 0 v0/\zX w b 1 v1/\zX w b 2 v2/\zX w b 3 v3/\zX w b 4 v4/\zX w b 5 v5/\zX w b 6 v6/\zX w b 7 v7
theorem zCp.zRJ{w w':World}{b:Nat}{v0 v1 v2 v3 v4 v5 v6 v7:Value}(h:zCp w b v0 v1 v2 v3 v4 v5 v6 v7)(t:Below w.heap.size w w'):zCp w' b v0 v1 v2 v3 v4 v5 v6 v7:=⟨h.1.zRJ t,h.2.1.zRJ t,h.2.2.1.zRJ t,h.2.2.2.1.zRJ t,h.2.2.2.2.1.zRJ t,h.2.2.2.2.2.1.zRJ t,h.2.2.2.2.2.2.1.zRJ t,h.2.2.2.2.2.2.2.zRJ t⟩
theorem zCp.zRL(w:World)(v0 v1 v2 v3 v4 v5 v6 v7:Value)(t:TypeId):zCp(w.alloc(.cells #[v0,v1,v2,v3,v4,v5,v6,v7] t)) w.heap.size v0 v1 v2 v3 v4 v5 v6 v7:=by
 have hb:(w.alloc(.cells #[v0,v1,v2,v3,v4,v5,v6,v7] t)).heap[w.heap.size]?=some(.cells #[v0,v1,v2,v3,v4,v5,v6,v7] t):=heap_alloc_new _ _;exact⟨zI hb rfl,zI hb rfl,zI hb rfl,zI hb rfl,zI hb rfl,zI hb rfl,zI hb rfl,zI hb rfl⟩
abbrev zQ4(w:World)(b:Nat)(u0 u1 u2 u3 u4 u5 u6 u7:Value):World:=(((((((w.setCell ⟨b,0,none⟩ u0).setCell ⟨b,1,none⟩ u1).setCell ⟨b,2,none⟩ u2).setCell ⟨b,3,none⟩ u3).setCell ⟨b,4,none⟩ u4).setCell ⟨b,5,none⟩ u5).setCell ⟨b,6,none⟩ u6).setCell ⟨b,7,none⟩ u7
theorem zCp.put{w:World}{b:Nat}{v0 v1 v2 v3 v4 v5 v6 v7:Value}(h:zCp w b v0 v1 v2 v3 v4 v5 v6 v7)(u0 u1 u2 u3 u4 u5 u6 u7:Value):zCp(zQ4 w b u0 u1 u2 u3 u4 u5 u6 u7) b u0 u1 u2 u3 u4 u5 u6 u7:=by
 obtain⟨h0,h1,h2,h3,h4,h5,h6,h7⟩:=h;refine⟨?_,?_,?_,?_,?_,?_,?_,?_⟩
 ·exact(((((((h0.set _).zRK _(Or.inr(by omega))).zRK _(Or.inr(by omega))).zRK _(Or.inr(by omega))).zRK _(Or.inr(by omega))).zRK _(Or.inr(by omega))).zRK _(Or.inr(by omega))).zRK _(Or.inr(by omega))
 ·exact(((((((h1.zRK _(Or.inr(by omega))).set _).zRK _(Or.inr(by omega))).zRK _(Or.inr(by omega))).zRK _(Or.inr(by omega))).zRK _(Or.inr(by omega))).zRK _(Or.inr(by omega))).zRK _(Or.inr(by omega))
 ·exact(((((((h2.zRK _(Or.inr(by omega))).zRK _(Or.inr(by omega))).set _).zRK _(Or.inr(by omega))).zRK _(Or.inr(by omega))).zRK _(Or.inr(by omega))).zRK _(Or.inr(by omega))).zRK _(Or.inr(by omega))
 ·exact(((((((h3.zRK _(Or.inr(by omega))).zRK _(Or.inr(by omega))).zRK _(Or.inr(by omega))).set _).zRK _(Or.inr(by omega))).zRK _(Or.inr(by omega))).zRK _(Or.inr(by omega))).zRK _(Or.inr(by omega))
 ·exact(((((((h4.zRK _(Or.inr(by omega))).zRK _(Or.inr(by omega))).zRK _(Or.inr(by omega))).zRK _(Or.inr(by omega))).set _).zRK _(Or.inr(by omega))).zRK _(Or.inr(by omega))).zRK _(Or.inr(by omega))
 ·exact(((((((h5.zRK _(Or.inr(by omega))).zRK _(Or.inr(by omega))).zRK _(Or.inr(by omega))).zRK _(Or.inr(by omega))).zRK _(Or.inr(by omega))).set _).zRK _(Or.inr(by omega))).zRK _(Or.inr(by omega))
 ·exact(((((((h6.zRK _(Or.inr(by omega))).zRK _(Or.inr(by omega))).zRK _(Or.inr(by omega))).zRK _(Or.inr(by omega))).zRK _(Or.inr(by omega))).zRK _(Or.inr(by omega))).set _).zRK _(Or.inr(by omega))
 ·exact(((((((h7.zRK _(Or.inr(by omega))).zRK _(Or.inr(by omega))).zRK _(Or.inr(by omega))).zRK _(Or.inr(by omega))).zRK _(Or.inr(by omega))).zRK _(Or.inr(by omega))).zRK _(Or.inr(by omega))).set _
theorem zCp.off8{w:World}{b:Nat}{v0 v1 v2 v3 v4 v5 v6 v7:Value}(h:zCp w b v0 v1 v2 v3 v4 v5 v6 v7){b':Nat}(o:Nat)(u:Value)(o':Nat)(u':Value)(aA:b'≠b):zCp((w.setCell ⟨b',o,none⟩ u).setCell ⟨b',o',none⟩ u') b v0 v1 v2 v3 v4 v5 v6 v7:=by
 obtain⟨h0,h1,h2,h3,h4,h5,h6,h7⟩:=h;have hc:∀{j:Nat} {v:Value},zX w b j v->zX((w.setCell ⟨b',o,none⟩ u).setCell ⟨b',o',none⟩ u') b j v:=fun hc=>(hc.zRK _(Or.inl aA)).zRK _(Or.inl aA)
 exact⟨hc h0,hc h1,hc h2,hc h3,hc h4,hc h5,hc h6,hc h7⟩
theorem zCp.mid8{w:World}{b:Nat}{v0 v1 v2 v3 v4 v5 v6 v7:Value}(h:zCp w b v0 v1 v2 v3 v4 v5 v6 v7)(u u':Value):zCp((w.setCell ⟨b,5,none⟩ u).setCell ⟨b,6,none⟩ u') b v0 v1 v2 v3 v4 u u' v7:=by
 obtain⟨h0,h1,h2,h3,h4,h5,h6,h7⟩:=h;exact⟨(h0.zRK _(Or.inr(by omega))).zRK _(Or.inr(by omega)),(h1.zRK _(Or.inr(by omega))).zRK _(Or.inr(by omega)),(h2.zRK _(Or.inr(by omega))).zRK _(Or.inr(by omega)),(h3.zRK _(Or.inr(by omega))).zRK _(Or.inr(by omega)),(h4.zRK _(Or.inr(by omega))).zRK _(Or.inr(by omega)),(h5.set _).zRK _(Or.inr(by omega)),(h6.zRK _(Or.inr(by omega))).set _,(h7.zRK _(Or.inr(by omega))).zRK _(Or.inr(by omega))⟩
def zAc(w:World)(S:Nat->Prop)(v:Value)(n:Nat)(f:Nat->qC):Prop:=∃(bs:Nat)(kb:Nat->Nat)(kv:Nat->Value),yN w bs kb kv v n f/\zBJ kb n f/\(∀k,zCA bs kb n f k->S k)/\yh w 67 6 v n/\∀i,i<n->yh w 61 2(kv i)(f i).dn
def yx(w:World)(S:Nat->Prop)(v:Value)(n:Nat)(f:Nat->zm):Prop:=∃(bs:Nat)(kb:Nat->Nat)(kv:Nat->Value),yU w bs kb kv v n f/\zA6 kb n f/\(∀k,zB6 bs kb n f k->S k)/\yh w 99 8 v n/\∀i,i<n->yh w 61 2(kv i)(f i).dn
theorem zAc.isIn{w:World}{S:Nat->Prop}{v:Value}{n:Nat}{f:Nat->qC}(h:zAc w S v n f):zBX w S v n f:=by
 obtain⟨bs,kb,kv,h1,h2,h3,_⟩:=h;exact⟨bs,kb,kv,h1,h2,h3⟩
theorem yx.isIn{w:World}{S:Nat->Prop}{v:Value}{n:Nat}{f:Nat->zm}(h:yx w S v n f):zAp w S v n f:=by
 obtain⟨bs,kb,kv,h1,h2,h3,_⟩:=h;exact⟨bs,kb,kv,h1,h2,h3⟩
theorem zAc.zRJ{w w':World}{S:Nat->Prop}{v:Value}{n:Nat}{f:Nat->qC}(h:zAc w S v n f)(t:Below w.heap.size w w'):zAc w' S v n f:=by
 obtain⟨bs,kb,kv,h1,h2,h3,h4,h5⟩:=h;exact⟨bs,kb,kv,h1.zRJ t,h2,h3,h4.zRJ t,fun i hi=>(h5 i hi).zRJ t⟩
theorem yx.zRJ{w w':World}{S:Nat->Prop}{v:Value}{n:Nat}{f:Nat->zm}(h:yx w S v n f)(t:Below w.heap.size w w'):yx w' S v n f:=by
 obtain⟨bs,kb,kv,h1,h2,h3,h4,h5⟩:=h;exact⟨bs,kb,kv,h1.zRJ t,h2,h3,h4.zRJ t,fun i hi=>(h5 i hi).zRJ t⟩
theorem zAc.set{w:World}{S:Nat->Prop}{v:Value}{n:Nat}{f:Nat->qC}(h:zAc w S v n f)(b o:Nat)(u:Value)(hb:¬S b):zAc(w.setCell ⟨b,o,none⟩ u) S v n f:=by
 obtain⟨bs,kb,kv,h1,h2,h3,h4,h5⟩:=h;exact⟨bs,kb,kv,h1.zRR(zF.put w b o u)(fun k hk e=>hb(e▸h3 k hk)),h2,h3,h4.set _ _,fun i hi=>(h5 i hi).set _ _⟩
theorem yx.set{w:World}{S:Nat->Prop}{v:Value}{n:Nat}{f:Nat->zm}(h:yx w S v n f)(b o:Nat)(u:Value)(hb:¬S b):yx(w.setCell ⟨b,o,none⟩ u) S v n f:=by
 obtain⟨bs,kb,kv,h1,h2,h3,h4,h5⟩:=h;exact⟨bs,kb,kv,h1.zRR(zF.put w b o u)(fun k hk e=>hb(e▸h3 k hk)),h2,h3,h4.set _ _,fun i hi=>(h5 i hi).set _ _⟩
theorem zAc.put6{w:World}{S:Nat->Prop}{v:Value}{n:Nat}{f:Nat->qC}(h:zAc w S v n f)(b:Nat)(u0 u1 u2 u3 u4 u5:Value)(hb:¬S b):zAc(put6 w b u0 u1 u2 u3 u4 u5) S v n f:=(((((h.set b 0 u0 hb).set b 1 u1 hb).set b 2 u2 hb).set b 3 u3 hb).set b 4 u4 hb).set b 5 u5 hb
theorem yx.put6{w:World}{S:Nat->Prop}{v:Value}{n:Nat}{f:Nat->zm}(h:yx w S v n f)(b:Nat)(u0 u1 u2 u3 u4 u5:Value)(hb:¬S b):yx(put6 w b u0 u1 u2 u3 u4 u5) S v n f:=(((((h.set b 0 u0 hb).set b 1 u1 hb).set b 2 u2 hb).set b 3 u3 hb).set b 4 u4 hb).set b 5 u5 hb
structure zBR(w:World)(P Q R:Nat->Prop)(v0 v1 v2 v3:Value)(W:zH):Prop where
 zRQ:qZ w P v0 v1 W.zRQ
 zRS:zAc w Q v2 W.sn W.zRS
 zRP:yx w R v3 W.pn W.zRP
 pq:∀k,P k->¬Q k
 pr:∀k,P k->¬R k
 qr:∀k,Q k->¬R k
def qR(w:World)(lo hi:Nat)(v0 v1 v2 v3:Value)(W:zH):Prop:=∃P Q R,zBR w P Q R v0 v1 v2 v3 W/\∀k,P k\/Q k\/R k->lo<=k/\k<hi
theorem zBR.isIn{w:World}{P Q R:Nat->Prop}{v0 v1 v2 v3:Value}{W:zH}(h:zBR w P Q R v0 v1 v2 v3 W):zCI w P Q R v0 v1 v2 v3 W:=⟨h.zRQ,h.zRS.isIn,h.zRP.isIn,h.pq,h.pr,h.qr⟩
theorem qR.own{w:World}{lo hi:Nat}{v0 v1 v2 v3:Value}{W:zH}(h:qR w lo hi v0 v1 v2 v3 W):qO w lo hi v0 v1 v2 v3 W:=by
 obtain⟨P,Q,R,h,hl⟩:=h;exact⟨P,Q,R,h.isIn,hl⟩
theorem zBR.zRJ{w w':World}{P Q R:Nat->Prop}{v0 v1 v2 v3:Value}{W:zH}(h:zBR w P Q R v0 v1 v2 v3 W)(t:Below w.heap.size w w'):zBR w' P Q R v0 v1 v2 v3 W:=⟨h.zRQ.zRJ t,h.zRS.zRJ t,h.zRP.zRJ t,h.pq,h.pr,h.qr⟩
theorem qR.zRJ{w w':World}{lo hi:Nat}{v0 v1 v2 v3:Value}{W:zH}(h:qR w lo hi v0 v1 v2 v3 W)(t:Below w.heap.size w w'):qR w' lo hi v0 v1 v2 v3 W:=by
 obtain⟨P,Q,R,h,hl⟩:=h;exact⟨P,Q,R,h.zRJ t,hl⟩
theorem zBR.set{w:World}{P Q R:Nat->Prop}{v0 v1 v2 v3:Value}{W:zH}(h:zBR w P Q R v0 v1 v2 v3 W)(b o:Nat)(u:Value)(hb:¬(P b\/Q b\/R b)):zBR(w.setCell ⟨b,o,none⟩ u) P Q R v0 v1 v2 v3 W:=
 ⟨h.zRQ.zRR(zF.put w b o u)(fun k hk e=>hb(Or.inl(e▸hk))),h.zRS.set b o u(fun h=>hb(Or.inr(Or.inl h))),h.zRP.set b o u(fun h=>hb(Or.inr(Or.inr h))),h.pq,h.pr,h.qr⟩
theorem qR.set{w:World}{lo hi:Nat}{v0 v1 v2 v3:Value}{W:zH}(h:qR w lo hi v0 v1 v2 v3 W)(b o:Nat)(u:Value)(hb:b<lo\/hi<=b):qR(w.setCell ⟨b,o,none⟩ u) lo hi v0 v1 v2 v3 W:=by
 obtain⟨P,Q,R,h,hl⟩:=h;exact⟨P,Q,R,h.set b o u(fun hk=>by have:=hl b hk;omega),hl⟩
theorem qR.put6{w:World}{lo hi:Nat}{v0 v1 v2 v3:Value}{W:zH}(h:qR w lo hi v0 v1 v2 v3 W)(b:Nat)(u0 u1 u2 u3 u4 u5:Value)(hb:b<lo\/hi<=b):qR(put6 w b u0 u1 u2 u3 u4 u5) lo hi v0 v1 v2 v3 W:=(((((h.set b 0 u0 hb).set b 1 u1 hb).set b 2 u2 hb).set b 3 u3 hb).set b 4 u4 hb).set b 5 u5 hb
theorem qR.form{w:World}{lo hi:Nat}{v0 v1 v2 v3:Value}{W:zH}(h:qR w lo hi v0 v1 v2 v3 W):∃a0 c0 a1 c1 a2 c2 a3 c3,v0 = .slice a0 W.zRQ.n c0/\v1 = .slice a1 W.zRQ.hn c1/\v2 = .slice a2 W.sn c2/\v3 = .slice a3 W.pn c3:=h.own.form
theorem qR.zRO{w:World}{lo hi lo' hi':Nat}{v0 v1 v2 v3:Value}{W:zH}(h:qR w lo hi v0 v1 v2 v3 W)(h1:lo'<=lo)(h2:hi<=hi'):qR w lo' hi' v0 v1 v2 v3 W:=by
 obtain⟨P,Q,R,h,hl⟩:=h;exact⟨P,Q,R,h,fun k hk=>by have:=hl k hk;omega⟩
def zJr(W:zH)(w:World)(e:Ending)(w':World):Prop:=∃v0 v1 v2 v3,e = .returned(zz v0 v1 v2 v3 W)/\qR w' w.heap.size w'.heap.size v0 v1 v2 v3 W/\Below w.heap.size w w'
end Go.Proofs.YtmgeglgboadfiaaGreatDoor
