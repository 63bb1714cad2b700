/- What a world is in memory, as plain facts on cells (no law is proved here): sets, snapshots, a world; that they stay when other blocks turn. -/
import Derived.RegionTactic
import Derived.ChangeAlike
import Derived.BigRegion
import Derived.Maps.OwnSet
import Derived.Test.YtmgeglgboadfiaaGreatDoorT2
set_option linter.unusedVariables false
set_option maxRecDepth 20000
set_option maxHeartbeats 4000000
namespace Go.Proofs.YtmgeglgboadfiaaGreatDoor
open Go.RowKit
structure qC where
 name:ByteArray
 origin:Int
 zRT:Int
 rs:Int
 rb:Int
 dn:Nat
 ds:Nat->Int
 db:Nat->Int
structure zm where
 id:Int
 name:ByteArray
 set:ByteArray
 zRT:Int
 time:Int
 rs:Int
 rb:Int
 dn:Nat
 ds:Nat->Int
 db:Nat->Int
structure zH where
 zRQ:zJ
 time:Int
 next:Int
 sn:Nat
 zRS:Nat->qC
 pn:Nat
 zRP:Nat->zm
structure zBP(w:World)(b o lo hi:Nat)(vd:Value)(s:qC):Prop where
 c0:w.cell? ⟨b,o,none⟩=some(.string s.name)
 c1:w.cell? ⟨b,o+1,none⟩=some(.int .i64 s.origin)
 c2:w.cell? ⟨b,o+2,none⟩=some(.int .i64 s.zRT)
 c3:w.cell? ⟨b,o+3,none⟩=some(.int .i64 s.rs)
 c4:w.cell? ⟨b,o+4,none⟩=some(.int .i64 s.rb)
 c5:w.cell? ⟨b,o+5,none⟩=some vd
 zRX:zR w lo hi vd s.dn s.ds s.db
 zRZ:s.name.size<=maxLen
theorem zBP.zRJ{w w':World}{b o lo hi:Nat}{vd:Value}{s:qC}(h:zBP w b o lo hi vd s)(t:Below w.heap.size w w'):zBP w' b o lo hi vd s:=
 ⟨(t.cell(zD h.c0)).trans h.c0,(t.cell(zD h.c1)).trans h.c1,(t.cell(zD h.c2)).trans h.c2,(t.cell(zD h.c3)).trans h.c3,(t.cell(zD h.c4)).trans h.c4,(t.cell(zD h.c5)).trans h.c5,h.zRX.zRJ t,h.zRZ⟩
structure zAk(w:World)(b o lo hi:Nat)(vd:Value)(s:zm):Prop where
 c0:w.cell? ⟨b,o,none⟩=some(.int .i64 s.id)
 c1:w.cell? ⟨b,o+1,none⟩=some(.string s.name)
 c2:w.cell? ⟨b,o+2,none⟩=some(.string s.set)
 c3:w.cell? ⟨b,o+3,none⟩=some(.int .i64 s.zRT)
 c4:w.cell? ⟨b,o+4,none⟩=some(.int .i64 s.time)
 c5:w.cell? ⟨b,o+5,none⟩=some(.int .i64 s.rs)
 c6:w.cell? ⟨b,o+6,none⟩=some(.int .i64 s.rb)
 c7:w.cell? ⟨b,o+7,none⟩=some vd
 zRX:zR w lo hi vd s.dn s.ds s.db
 zRZ:s.name.size<=maxLen/\s.set.size<=maxLen
theorem zAk.zRJ{w w':World}{b o lo hi:Nat}{vd:Value}{s:zm}(h:zAk w b o lo hi vd s)(t:Below w.heap.size w w'):zAk w' b o lo hi vd s:=
 ⟨(t.cell(zD h.c0)).trans h.c0,(t.cell(zD h.c1)).trans h.c1,(t.cell(zD h.c2)).trans h.c2,(t.cell(zD h.c3)).trans h.c3,(t.cell(zD h.c4)).trans h.c4,(t.cell(zD h.c5)).trans h.c5,(t.cell(zD h.c6)).trans h.c6,(t.cell(zD h.c7)).trans h.c7,h.zRX.zRJ t,h.zRZ⟩
def yZ(w:World)(lo hi:Nat)(v:Value)(n:Nat)(f:Nat->qC):Prop:=
 n<=maxLen/\∃a cap,v = .slice a n cap/\n<=cap/\(0<n->∃b off,a=some ⟨b,off,none⟩/\lo<=b/\b<hi/\∀i,i<n->∃vd,zBP w b(off+i*6) lo hi vd(f i))
def qz(w:World)(lo hi:Nat)(v:Value)(n:Nat)(f:Nat->zm):Prop:=
 n<=maxLen/\∃a cap,v = .slice a n cap/\n<=cap/\(0<n->∃b off,a=some ⟨b,off,none⟩/\lo<=b/\b<hi/\∀i,i<n->∃vd,zAk w b(off+i*8) lo hi vd(f i))
theorem yZ.zRJ{w w':World}{lo hi:Nat}{v:Value}{n:Nat}{f:Nat->qC}(h:yZ w lo hi v n f)(t:Below w.heap.size w w'):yZ w' lo hi v n f:=by
 obtain⟨h0,a,cap,hv,hcc,hc⟩:=h;refine⟨h0,a,cap,hv,hcc,fun hn=>?_⟩;obtain⟨b,off,ha,h1,h2,h3⟩:=hc hn;refine⟨b,off,ha,h1,h2,fun i hi=>?_⟩;obtain⟨vd,hs⟩:=h3 i hi;exact⟨vd,hs.zRJ t⟩
theorem qz.zRJ{w w':World}{lo hi:Nat}{v:Value}{n:Nat}{f:Nat->zm}(h:qz w lo hi v n f)(t:Below w.heap.size w w'):qz w' lo hi v n f:=by
 obtain⟨h0,a,cap,hv,hcc,hc⟩:=h;refine⟨h0,a,cap,hv,hcc,fun hn=>?_⟩;obtain⟨b,off,ha,h1,h2,h3⟩:=hc hn;refine⟨b,off,ha,h1,h2,fun i hi=>?_⟩;obtain⟨vd,hs⟩:=h3 i hi;exact⟨vd,hs.zRJ t⟩
theorem yZ.cells{w:World}{lo hi:Nat}{a:Option Addr}{n c:Nat}{f:Nat->qC}(h:yZ w lo hi(.slice a n c) n f){i:Nat}(hi':i<n):∃b off vd,a=some ⟨b,off,none⟩/\zBP w b(off+i*6) lo hi vd(f i):=by
 obtain⟨h0,a2,cap,hv,hcc,hx⟩:=h;simp only [Value.slice.injEq,true_and] at hv;obtain⟨rfl,rfl⟩:=hv;obtain⟨b,off,ha,h1,h2,h3⟩:=hx(by omega);obtain⟨vd,hs⟩:=h3 i hi';exact⟨b,off,vd,ha,hs⟩
theorem qz.cells{w:World}{lo hi:Nat}{a:Option Addr}{n c:Nat}{f:Nat->zm}(h:qz w lo hi(.slice a n c) n f){i:Nat}(hi':i<n):∃b off vd,a=some ⟨b,off,none⟩/\zAk w b(off+i*8) lo hi vd(f i):=by
 obtain⟨h0,a2,cap,hv,hcc,hx⟩:=h;simp only [Value.slice.injEq,true_and] at hv;obtain⟨rfl,rfl⟩:=hv;obtain⟨b,off,ha,h1,h2,h3⟩:=hx(by omega);obtain⟨vd,hs⟩:=h3 i hi';exact⟨b,off,vd,ha,hs⟩
structure zl(w:World)(lo hi:Nat)(v0 v1 v2 v3:Value)(W:zH):Prop where
 zRQ:zy w lo hi v0 v1 W.zRQ
 zRS:yZ w lo hi v2 W.sn W.zRS
 zRP:qz w lo hi v3 W.pn W.zRP
theorem zl.zRJ{w w':World}{lo hi:Nat}{v0 v1 v2 v3:Value}{W:zH}(h:zl w lo hi v0 v1 v2 v3 W)(t:Below w.heap.size w w'):zl w' lo hi v0 v1 v2 v3 W:=⟨h.zRQ.zRJ t,h.zRS.zRJ t,h.zRP.zRJ t⟩
abbrev zz(v0 v1 v2 v3:Value)(W:zH):Value:=.agg #[v0,v1,.int .i64 W.time,.int .i64 W.next,v2,v3]
def yA(W:zH)(id:Int)(k:Nat):Prop:=k<W.pn/\(W.zRP k).id=id/\∀j,j<k->(W.zRP j).id≠id
def zFc(W:zH)(name:ByteArray)(k:Nat):Prop:=k<W.sn/\(W.zRS k).name=name/\∀j,j<k->(W.zRS j).name≠name
theorem yA.uniq{W:zH}{id:Int}{i j:Nat}(h:yA W id i)(h':yA W id j):i=j:=by
 rcases Nat.lt_trichotomy i j with e | e | e
 ·exact absurd h.2.1(h'.2.2 i e)
 ·exact e
 ·exact absurd h'.2.1(h.2.2 j e)
theorem zFc.uniq{W:zH}{name:ByteArray}{i j:Nat}(h:zFc W name i)(h':zFc W name j):i=j:=by
 rcases Nat.lt_trichotomy i j with e | e | e
 ·exact absurd h.2.1(h'.2.2 i e)
 ·exact e
 ·exact absurd h'.2.1(h.2.2 j e)
def zi(w:World)(b:Nat)(v0 v1 v2 v3 v4 v5:Value):Prop:=zX w b 0 v0/\zX w b 1 v1/\zX w b 2 v2/\zX w b 3 v3/\zX w b 4 v4/\zX w b 5 v5
theorem zi.zRJ{w w':World}{b:Nat}{v0 v1 v2 v3 v4 v5:Value}(h:zi w b v0 v1 v2 v3 v4 v5)(t:Below w.heap.size w w'):zi w' b v0 v1 v2 v3 v4 v5:=⟨h.1.zRJ t,h.2.1.zRJ t,h.2.2.1.zRJ t,h.2.2.2.1.zRJ t,h.2.2.2.2.1.zRJ t,h.2.2.2.2.2.zRJ t⟩
theorem zi.zRR{S:Nat->Prop}{w w':World}{b:Nat}{v0 v1 v2 v3 v4 v5:Value}(h:zi w b v0 v1 v2 v3 v4 v5)(t:zF S w w')(hs:¬S b):zi w' b v0 v1 v2 v3 v4 v5:=⟨h.1.zRR t hs,h.2.1.zRR t hs,h.2.2.1.zRR t hs,h.2.2.2.1.zRR t hs,h.2.2.2.2.1.zRR t hs,h.2.2.2.2.2.zRR t hs⟩
theorem zi.zRL(w:World)(v0 v1 v2 v3 v4 v5:Value)(t:TypeId):zi(w.alloc(.cells #[v0,v1,v2,v3,v4,v5] t)) w.heap.size v0 v1 v2 v3 v4 v5:=by
 have hb:(w.alloc(.cells #[v0,v1,v2,v3,v4,v5] t)).heap[w.heap.size]?=some(.cells #[v0,v1,v2,v3,v4,v5] t):=heap_alloc_new _ _;exact⟨zI hb rfl,zI hb rfl,zI hb rfl,zI hb rfl,zI hb rfl,zI hb rfl⟩
abbrev put6(w:World)(b:Nat)(u0 u1 u2 u3 u4 u5:Value):World:=(((((w.setCell ⟨b,0,none⟩ u0).setCell ⟨b,1,none⟩ u1).setCell ⟨b,2,none⟩ u2).setCell ⟨b,3,none⟩ u3).setCell ⟨b,4,none⟩ u4).setCell ⟨b,5,none⟩ u5
theorem zi.put{w:World}{b:Nat}{v0 v1 v2 v3 v4 v5:Value}(h:zi w b v0 v1 v2 v3 v4 v5)(u0 u1 u2 u3 u4 u5:Value):zi(put6 w b u0 u1 u2 u3 u4 u5) b u0 u1 u2 u3 u4 u5:=by
 obtain⟨h0,h1,h2,h3,h4,h5⟩:=h;refine⟨?_,?_,?_,?_,?_,?_⟩
 ·exact(((((h0.set _).zRK _(Or.inr(by omega))).zRK _(Or.inr(by omega))).zRK _(Or.inr(by omega))).zRK _(Or.inr(by omega))).zRK _(Or.inr(by omega))
 ·exact(((((h1.zRK _(Or.inr(by omega))).set _).zRK _(Or.inr(by omega))).zRK _(Or.inr(by omega))).zRK _(Or.inr(by omega))).zRK _(Or.inr(by omega))
 ·exact(((((h2.zRK _(Or.inr(by omega))).zRK _(Or.inr(by omega))).set _).zRK _(Or.inr(by omega))).zRK _(Or.inr(by omega))).zRK _(Or.inr(by omega))
 ·exact(((((h3.zRK _(Or.inr(by omega))).zRK _(Or.inr(by omega))).zRK _(Or.inr(by omega))).set _).zRK _(Or.inr(by omega))).zRK _(Or.inr(by omega))
 ·exact(((((h4.zRK _(Or.inr(by omega))).zRK _(Or.inr(by omega))).zRK _(Or.inr(by omega))).zRK _(Or.inr(by omega))).set _).zRK _(Or.inr(by omega))
 ·exact(((((h5.zRK _(Or.inr(by omega))).zRK _(Or.inr(by omega))).zRK _(Or.inr(by omega))).zRK _(Or.inr(by omega))).zRK _(Or.inr(by omega))).set _
theorem zF.put6(w:World)(b:Nat)(u0 u1 u2 u3 u4 u5:Value):zF(fun k=>k=b) w(put6 w b u0 u1 u2 u3 u4 u5):=
 (((((zF.put w b 0 u0).trans(zF.put _ b 1 u1)).trans(zF.put _ b 2 u2)).trans(zF.put _ b 3 u3)).trans(zF.put _ b 4 u4)).trans(zF.put _ b 5 u5)
theorem zB{P:Prop}(h:P):Hid P:=h
def zGA(n:Nat)(P:Nat->Prop)(r:Int):Prop:=(∃k:Nat,k<n/\P k/\(∀j,j<k->¬P j)/\r=k)\/((∀j,j<n->¬P j)/\r = -1)
theorem qH(v0 v1 v2 v3:Value)(lo hi:Nat)(W:zH)(x:Int)(w:World)(h:zl w lo hi v0 v1 v2 v3 W) :
  Calls Tryz.prog 49 #[zz v0 v1 v2 v3 W,.int .i64 x] w fun e w'=>∃r:Int,e = .returned(.int .i64 r)/\zGA W.pn(fun k=>(W.zRP k).id=x) r/\Below w.heap.size w w':=by
 have Hp:=zB h.zRP;obtain⟨m1,a,c,rfl,mc,_⟩:=id h.zRP;unfold maxLen at m1;clear h;have ha:=zC w(.cells #[v0,v1,.int .i64 W.time,.int .i64 W.next,v2,.slice a W.pn c] 37);have HB:=zB(zi.zRL w v0 v1(.int .i64 W.time)(.int .i64 W.next) v2(.slice a W.pn c) 37);go_enter Tryz.func49,Tryz.ntmps49;go_wp2
 go_loopw [5](fun i wr=>∃k:Nat,k<=W.pn/\i = .int .i64 k/\(∀j,j<k->¬(W.zRP j).id=x)/\zi wr w.heap.size v0 v1(.int .i64 W.time)(.int .i64 W.next) v2(.slice a W.pn c)/\Below w.heap.size w wr)(fun i _=>W.pn - (intOf i).toNat)
 case atStart=>exact⟨0,Nat.zero_le _,rfl,fun j hj=>absurd hj(Nat.not_lt_zero _),HB.out,ha⟩
 case round=>
  obtain⟨k,hk,rfl,hno,hX,hb⟩:=hrel;have aA:=zB hno;have HX:=zB hX;clear hno hX;obtain⟨⟨x0,x1⟩,⟨x2,x3⟩,⟨x4,x5⟩,⟨x6,x7⟩,⟨x8,x9⟩,⟨x10,x11⟩⟩:=HX.out;by_cases bA:k<W.pn
  ·have cA:(k:Int)<(W.pn:Int):=(by omega);obtain⟨b,off,vd,rfl,hs⟩:=(Hp.out.zRJ hb).cells bA;have q0:=hs.c0;clear hs;by_cases he:(W.zRP k).id=x
   ·have H:=zB he;rw [he] at q0;clear he;go_wp2;go_ret;exact⟨k,rfl,Or.inl ⟨k,bA,H.out,aA.out,rfl⟩,hb⟩
   ·have H:=zB he;have e0:((W.zRP k).id == x)=false:=(by simp [he]);clear he;go_wp2;go_roundw
    case rel=>
     refine⟨k+1,by omega,by go_num,?_,HX.out,hb⟩;intro j hj;by_cases e:j=k
     ·subst e;exact H.out
     ·exact aA.out j(by omega)
    case measure=>simp [intOf];omega
  ·obtain rfl:k=W.pn:=(by omega);go_wp2;go_ret;exact⟨-1,rfl,Or.inr ⟨aA.out,rfl⟩,hb⟩
theorem zIe(v0 v1 v2 v3:Value)(lo hi:Nat)(W:zH)(x:ByteArray)(w:World)(h:zl w lo hi v0 v1 v2 v3 W) :
  Calls Tryz.prog 27 #[zz v0 v1 v2 v3 W,.string x] w fun e w'=>∃r:Int,e = .returned(.int .i64 r)/\zGA W.sn(fun k=>(W.zRS k).name=x) r/\Below w.heap.size w w':=by
 have Hp:=zB h.zRS;obtain⟨m1,a,c,rfl,mc,_⟩:=id h.zRS;unfold maxLen at m1;clear h;have ha:=zC w(.cells #[v0,v1,.int .i64 W.time,.int .i64 W.next,.slice a W.sn c,v3] 37);have HB:=zB(zi.zRL w v0 v1(.int .i64 W.time)(.int .i64 W.next)(.slice a W.sn c) v3 37);go_enter Tryz.func27,Tryz.ntmps27;go_wp2
 go_loopw [5](fun i wr=>∃k:Nat,k<=W.sn/\i = .int .i64 k/\(∀j,j<k->¬(W.zRS j).name=x)/\zi wr w.heap.size v0 v1(.int .i64 W.time)(.int .i64 W.next)(.slice a W.sn c) v3/\Below w.heap.size w wr)(fun i _=>W.sn - (intOf i).toNat)
 case atStart=>exact⟨0,Nat.zero_le _,rfl,fun j hj=>absurd hj(Nat.not_lt_zero _),HB.out,ha⟩
 case round=>
  obtain⟨k,hk,rfl,hno,hX,hb⟩:=hrel;have aA:=zB hno;have HX:=zB hX;clear hno hX;obtain⟨⟨x0,x1⟩,⟨x2,x3⟩,⟨x4,x5⟩,⟨x6,x7⟩,⟨x8,x9⟩,⟨x10,x11⟩⟩:=HX.out;by_cases bA:k<W.sn
  ·have cA:(k:Int)<(W.sn:Int):=(by omega);obtain⟨b,off,vd,rfl,hs⟩:=(Hp.out.zRJ hb).cells bA;have q0:=hs.c0;clear hs;by_cases he:(W.zRS k).name=x
   ·have H:=zB he;rw [he] at q0;clear he;go_wp2;go_ret;exact⟨k,rfl,Or.inl ⟨k,bA,H.out,aA.out,rfl⟩,hb⟩
   ·have H:=zB he;have e0:((W.zRS k).name.toList == x.toList)=false:=zEM he;clear he;go_wp2;go_roundw
    case rel=>
     refine⟨k+1,by omega,by go_num,?_,HX.out,hb⟩;intro j hj;by_cases e:j=k
     ·subst e;exact H.out
     ·exact aA.out j(by omega)
    case measure=>simp [intOf];omega
  ·obtain rfl:k=W.sn:=(by omega);go_wp2;go_ret;exact⟨-1,rfl,Or.inr ⟨aA.out,rfl⟩,hb⟩
def zKA(W:zH)(x s b t:Int):Prop:=(∃k,x≠0/\yA W x k/\s=(W.zRP k).rs/\b=(W.zRP k).rb/\t=(W.zRP k).time)\/((x=0\/∀k,k<W.pn->(W.zRP k).id≠x)/\s=0/\b=0/\t=0)
theorem zAr(v0 v1 v2 v3:Value)(lo hi:Nat)(W:zH)(x:Int)(w:World)(h:zl w lo hi v0 v1 v2 v3 W) :
  Calls Tryz.prog 52 #[zz v0 v1 v2 v3 W,.int .i64 x] w fun e w'=>∃s b t:Int,e = .returned(.tuple #[.agg #[.int .i64 s,.int .i64 b],.int .i64 t])/\zKA W x s b t/\Below w.heap.size w w':=by
 have Hp:=zB h;obtain⟨m1,a,c,rfl,mc,_⟩:=id h.zRP;unfold maxLen at m1;clear h;have ha:=zC w(.cells #[v0,v1,.int .i64 W.time,.int .i64 W.next,v2,.slice a W.pn c] 37);have hB:=zi.zRL w v0 v1(.int .i64 W.time)(.int .i64 W.next) v2(.slice a W.pn c) 37;have dA:=zC(w.alloc(.cells #[v0,v1,.int .i64 W.time,.int .i64 W.next,v2,.slice a W.pn c] 37))(.cells #[.int .i64 0,.int .i64 0] 61);have hR:=zc.zRL(w.alloc(.cells #[v0,v1,.int .i64 W.time,.int .i64 W.next,v2,.slice a W.pn c] 37))(.int .i64 0)(.int .i64 0) 61;have cA:=hB.zRJ dA;have aA:=zA ha dA;have gA:(w.alloc(.cells #[v0,v1,.int .i64 W.time,.int .i64 W.next,v2,.slice a W.pn c] 37)).heap.size=w.heap.size+1:=World.size_alloc _ _;rw [gA] at hR;clear ha dA hB;go_enter Tryz.func52,Tryz.ntmps52;go_wp2_with fail;generalize((w.alloc(.cells #[v0,v1,.int .i64 W.time,.int .i64 W.next,v2,.slice a W.pn c] 37)).alloc(.cells #[.int .i64 0,.int .i64 0] 61))=W0 at hR cA aA ⊢;refine(qH v0 v1 v2 _ lo hi W x W0(Hp.out.zRJ aA)).mono ?_;rintro e w1 ⟨r,rfl,hF,hb1⟩;have eA:=hR.zRJ hb1;have iA:=cA.zRJ hb1;have bA:=zA aA hb1;clear hR cA aA hb1 gA;have HR:=zB eA;have HX:=zB iA;clear eA iA;obtain⟨⟨y0,y1⟩,⟨y2,y3⟩⟩:=HR.out;obtain⟨⟨x0,x1⟩,⟨x2,x3⟩,⟨x4,x5⟩,⟨x6,x7⟩,⟨x8,x9⟩,⟨x10,x11⟩⟩:=HX.out;by_cases hx:x=0
 ·subst hx;clear hF;go_wp2;refine bodyPost_ret(v:=.tuple #[.agg #[.int .i64 0,.int .i64 0],.int .i64 0])(by simp [results,Tryz.results52,go_sem,y0,y2]) rfl ⟨0,0,0,rfl,Or.inr ⟨Or.inl rfl,rfl,rfl,rfl⟩,?_⟩;exact(bA.setCell(by show w.heap.size<=w.heap.size+1;omega) _).setCell(by show w.heap.size<=w.heap.size+1;omega) _
 ·have Hx:=zB hx;have f0:(x == 0)=false:=(by simp [hx]);clear hx;rcases hF with⟨k,hk,hi',hm,rfl⟩ | ⟨hn,rfl⟩
  ·obtain⟨b,off,vd,rfl,hs⟩:=(Hp.out.zRP.zRJ bA).cells hk;have q4:=hs.c4;have q5:=hs.c5;have q6:=hs.c6;have mA:(k:Int)<(W.pn:Int):=(by omega);have kA:b<w.heap.size:=by
    obtain⟨b2,off2,vd2,e2,hs2⟩:=Hp.out.zRP.cells hk;cases e2;exact zD hs2.c0
   have lA:b≠w.heap.size+1:=(by omega);have jA:w.heap.size≠w.heap.size+1:=(by omega);have Hk:=zB(And.intro hi' hm);clear hs hi' hm kA;have fA:w.heap.size<=w.heap.size+1:=(by omega);generalize w.heap.size+1=R at *;go_wp2;go_region;go_wp2;refine bodyPost_ret(v:=.tuple #[.agg #[.int .i64(W.zRP k).rs,.int .i64(W.zRP k).rb],.int .i64(W.zRP k).time])(by simp [results,Tryz.results52,go_sem,y0,y2]) rfl ⟨_,_,_,rfl,Or.inl ⟨k,Hx.out,⟨hk,Hk.out.1,Hk.out.2⟩,rfl,rfl,rfl⟩,?_⟩;exact((bA.setCell fA _).setCell fA _).drew
  ·have Hn:=zB hn;clear hn;go_wp2;refine bodyPost_ret(v:=.tuple #[.agg #[.int .i64 0,.int .i64 0],.int .i64 0])(by simp [results,Tryz.results52,go_sem,y0,y2]) rfl ⟨0,0,0,rfl,Or.inr ⟨Or.inr Hn.out,rfl,rfl,rfl⟩,?_⟩;exact(bA.setCell(by show w.heap.size<=w.heap.size+1;omega) _).setCell(by show w.heap.size<=w.heap.size+1;omega) _
open Go.Maps
def zB3(t:Int):Prop:=0<=t/\t<=1000000
def zE6(s b:Int):Prop:=0<=s/\s<=199/\1<=b/\b<=1000000
def zLK(n:Nat)(f:Nat->Int):Prop:=∀i,i<n->∀k,k<i->f k≠f i
def qx(n:Nat)(f g:Nat->Int):Prop:=n<=200/\(∀i,i<n->zE6(f i)(g i))/\zLK n f
def PIn(n:Nat)(f g:Nat->Int)(x y:Int):Prop:=∃j,j<n/\f j=x/\g j=y
def zES(n:Nat)(f g:Nat->Int)(m:Nat)(f' g':Nat->Int):Prop:=qx n f g/\qx m f' g'/\n=m/\∀i,i<n->PIn m f' g'(f i)(g i)
theorem zLK.inj{n:Nat}{f:Nat->Int}(h:zLK n f){i k:Nat}(hi:i<n)(hk:k<n)(e:f i=f k):i=k:=by
 rcases Nat.lt_trichotomy i k with h1 | h1 | h1
 ·exact absurd e(h k hk i h1)
 ·exact h1
 ·exact absurd e.symm(h i hi k h1)
theorem zNQ:∀(n m:Nat)(h:Nat->Nat),(∀i,i<n->h i<m)->(∀i k,i<n->k<n->h i=h k->i=k)->n<=m
 |0,_,_,_,_=>Nat.zero_le _
 |n+1,m,h,h1,h2=>by
  have hm:=h1 n(Nat.lt_succ_self n);have:=zNQ n(m - 1)(fun i=>if h i<h n then h i else h i - 1)(fun i hi=>by
   have:=h1 i(by omega);have:h i≠h n:=fun e=>by have:=h2 i n(by omega)(by omega) e;omega
   show(if h i<h n then h i else h i - 1)<m - 1;split<;>omega)(fun i k hi hk e=>by
   have a1:h i≠h n:=fun e=>by have:=h2 i n(by omega)(by omega) e;omega
   have a2:h k≠h n:=fun e=>by have:=h2 k n(by omega)(by omega) e;omega
   have e':(if h i<h n then h i else h i - 1)=(if h k<h n then h k else h k - 1):=e;refine h2 i k(by omega)(by omega) ?_;split at e'<;>split at e'<;>omega)
  omega
theorem zOC{n:Nat}{f g f' g':Nat->Int}(h1:qx n f g)(h2:qx n f' g')(h:∀i,i<n->PIn n f' g'(f i)(g i)):∀j,j<n->PIn n f g(f' j)(g' j):=by
 intro j hj;by_cases hx:PIn n f g(f' j)(g' j)
 ·exact hx
 ·exfalso;have:=zNQ n(n - 1)(fun i=>if hi:i<n then(if(h i hi).choose<j then(h i hi).choose else(h i hi).choose - 1)else 0)(fun i hi=>by
   have hs:=(h i hi).choose_spec;have bA:(h i hi).choose≠j:=fun e=>hx ⟨i,hi,by rw [<-hs.2.1,e],by rw [<-hs.2.2,e]⟩
   simp only [hi,dif_pos];split<;>omega)(fun i k hi hk e=>by
   have hs:=(h i hi).choose_spec;have aA:=(h k hk).choose_spec;have bA:(h i hi).choose≠j:=fun e=>hx ⟨i,hi,by rw [<-hs.2.1,e],by rw [<-hs.2.2,e]⟩
   have cA:(h k hk).choose≠j:=fun e=>hx ⟨k,hk,by rw [<-aA.2.1,e],by rw [<-aA.2.2,e]⟩
   simp only [hi,hk,dif_pos] at e;have e2:(h i hi).choose=(h k hk).choose:=(by split at e<;>split at e<;>omega);refine h1.2.2.inj hi hk ?_;rw [<-hs.2.1,<-aA.2.1,e2])
  omega
theorem zES.symm{n m:Nat}{f g f' g':Nat->Int}(h:zES n f g m f' g'):zES m f' g' n f g:=by
 obtain⟨h1,h2,rfl,h3⟩:=h;exact⟨h2,h1,rfl,zOC h1 h2 h3⟩
def zB0(x:Int):Lit:=.int .i64 x
theorem zHQ{x y:Int}(h:x≠y):zB0 x≠zB0 y:=fun e=>h(by unfold zB0 at e;injection e)
theorem zHu(x:Int):WideAt.IsKeyLit(zB0 x):=trivial
def zDS(x:Int):DataW Unit:=.lit(.int .i64 x)
theorem zGB{x y:Int}(h:zDS x=zDS y):x=y:=by unfold zDS at h;injection h with h;injection h
def seenD(f g:Nat->Int):Nat->DataW Unit
 |0=>.map []
 |k+1=>(seenD f g k).put(zB0(f k))(zDS(g k))
theorem zDG(f g:Nat->Int):∀k,Tidy(seenD f g k)
 |0=>tidy_empty
 |k+1=>(zDG f g k).put(zHu _) _
theorem zD5(f g:Nat->Int)(x:Int):∀k,Maps.has(seenD f g k)(zB0 x)=true↔∃i,i<k/\f i=x
 |0=>by
  constructor
  ·intro h;exact absurd h(by simp [seenD,Maps.has])
  ·rintro⟨i,hi,_⟩;omega
 |k+1=>by
  by_cases hx:f k=x
  ·subst hx;exact⟨fun _=>⟨k,by omega,rfl⟩,fun _=>has_put_same(zDG f g k).isMap(zHu _) _⟩
  ·rw [show Maps.has(seenD f g(k+1))(zB0 x)=Maps.has(seenD f g k)(zB0 x)from has_put_other(zHQ(Ne.symm hx)) _,zD5 f g x k];constructor
   ·rintro⟨i,hi,e⟩;exact⟨i,by omega,e⟩
   ·rintro⟨i,hi,e⟩;by_cases h:i=k
    ·subst h;exact absurd e hx
    ·exact⟨i,by omega,e⟩
theorem zGf{k:Nat}{f:Nat->Int}:zLK(k+1) f↔zLK k f/\∀i,i<k->f i≠f k:=by
 constructor
 ·exact fun h=>⟨fun i hi=>h i(by omega),fun i hi=>h k(by omega) i hi⟩
 ·rintro⟨h1,h2⟩ i hi j hj;by_cases e:i=k
  ·subst e;exact h2 j hj
  ·exact h1 i(by omega) j hj
theorem zGl(f g:Nat->Int):∀k,Maps.size(seenD f g k)<=k/\(Maps.size(seenD f g k)=k↔zLK k f)
 |0=>⟨Nat.le_refl _,fun _ i hi=>by omega,fun _=>rfl⟩
 |k+1=>by
  obtain⟨h1,h2⟩:=zGl f g k;have e:Maps.size(seenD f g(k+1))=if Maps.has(seenD f g k)(zB0(f k))then Maps.size(seenD f g k)else Maps.size(seenD f g k)+1:=size_put(zDG f g k) _
  by_cases hh:Maps.has(seenD f g k)(zB0(f k))=true
  ·rw [if_pos hh] at e;rw [e,zGf];refine⟨by omega,fun h=>by omega,fun h=>?_⟩;obtain⟨i,hi,he⟩:=(zD5 f g(f k) k).1 hh;exact absurd he(h.2 i hi)
  ·rw [if_neg hh] at e;rw [e,zGf,<-h2];refine⟨by omega,fun h=>⟨by omega,fun i hi he=>hh((zD5 f g(f k) k).2 ⟨i,hi,he⟩)⟩,fun h=>by omega⟩
theorem zNS{n:Nat}{f:Nat->Int}(g:Nat->Int)(hd:zLK n f)(z:DataW Unit):∀k,k<=n->∀i,i<k->(seenD f g k).atKey(zB0(f i)) z=zDS(g i)
 |0,_,i,hi=>absurd hi(Nat.not_lt_zero _)
 |k+1,hk,i,hi=>by
  by_cases e:i=k
  ·subst e;exact atKey_put_same(zDG f g i).isMap(zHu _) _ _
  ·exact(atKey_put_other(zHQ(fun h=>e(hd.inj(by omega)(by omega) h))) _ _).trans(zNS g hd z k(by omega) i(by omega))
structure zDL(n:Nat)(f g f':Nat->Int)(k:Nat)(D:DataW Unit):Prop where
 tidy:Tidy D
 size:Maps.size D+k=n
 at':∀x,(∀j,j<k->f' j≠x)->(∀i,i<n->f i=x->D.atKey(zB0 x)(zDS 0)=zDS(g i))/\((∀i,i<n->f i≠x)->D.atKey(zB0 x)(zDS 0)=zDS 0)
 has:∀x,Maps.has D(zB0 x)=true↔(∃i,i<n/\f i=x)/\∀j,j<k->f' j≠x
theorem zDL.start{n:Nat}{f g:Nat->Int}(h:qx n f g)(f':Nat->Int):zDL n f g f' 0(seenD f g n) where
 tidy:=zDG f g n
 size:=by rw [(zGl f g n).2.2 h.2.2];rfl
 at':=fun x _=>⟨fun i hi e=>by subst e;exact zNS g h.2.2 _ n(Nat.le_refl _) i hi,fun aA=>by
  refine atKey_of_not_has ?_ _;rw [Bool.eq_false_iff];intro hh;obtain⟨i,hi,e⟩:=(zD5 f g x n).1 hh;exact aA i hi e⟩
 has:=fun x=>by
  rw [zD5];exact⟨fun h=>⟨h,fun j hj=>absurd hj(Nat.not_lt_zero _)⟩,fun h=>h.1⟩
theorem zDL.next{n m:Nat}{f g f' g':Nat->Int}{k:Nat}{D:DataW Unit}(h:zDL n f g f' k D)(h2:qx m f' g')(hk:k<m)(e:D.atKey(zB0(f' k))(zDS 0)=zDS(g' k)):zDL n f g f'(k+1)(D.del(zB0(f' k))):=by
 have bA:Maps.has D(zB0(f' k))=true:=by
  by_cases hh:Maps.has D(zB0(f' k))=true
  ·exact hh
  ·rw [atKey_of_not_has(by simpa using hh)] at e;have:=zGB e;have:=(h2.2.1 k hk).2.2.1;omega
 have hs:=size_del(k:=zB0(f' k)) h.tidy;rw [bA] at hs;refine⟨h.tidy.del _,?_,fun x hx=>?_,fun x=>?_⟩
 ·have:=h.size;have cA:Maps.size(D.del(zB0(f' k)))+1=Maps.size D:=hs;omega
 ·have aA:f' k≠x:=hx k(by omega);rw [atKey_del_other(zHQ(Ne.symm aA))];exact h.at' x(fun j hj=>hx j(by omega))
 ·by_cases aA:f' k=x
  ·subst aA;rw [has_del_same];exact⟨fun h=>absurd h(by simp),fun h=>absurd rfl(h.2 k(by omega))⟩
  ·rw [has_del_other(zHQ(Ne.symm aA)),h.has x];refine and_congr_right fun _=>⟨fun h j hj=>?_,fun h j hj=>h j(by omega)⟩
   by_cases ej:j=k
   ·subst ej;exact aA
   ·exact h j(by omega)
theorem zDL.no{n m:Nat}{f g f' g':Nat->Int}{k:Nat}{D:DataW Unit}(h:zDL n f g f' k D)(h1:qx n f g)(h2:qx m f' g')(hk:k<m){c:Int}(e:D.atKey(zB0(f' k))(zDS 0)=zDS c)(hc:c≠g' k):¬zES n f g m f' g':=by
 intro hs;obtain⟨i,hi,e1,e2⟩:=hs.symm.2.2.2 k hk;have:=(h.at'(f' k)(fun j hj=>h2.2.2 k hk j hj)).1 i hi e1;rw [e] at this;exact hc((zGB this).trans e2)
theorem zDL.end{n m:Nat}{f g f' g':Nat->Int}{D:DataW Unit}(h:zDL n f g f' m D)(h1:qx n f g)(h2:qx m f' g')(aA:∀j,j<m->PIn n f g(f' j)(g' j)):Maps.size D=0↔zES n f g m f' g':=by
 have hs:=h.size;constructor
 ·intro h0;obtain rfl:m=n:=(by omega);exact zES.symm ⟨h2,h1,rfl,aA⟩
 ·intro hp;have:=hp.2.2.1;omega
theorem zDL.in{n m:Nat}{f g f' g':Nat->Int}{k:Nat}{D:DataW Unit}(h:zDL n f g f' k D)(h2:qx m f' g')(hk:k<m)(e:D.atKey(zB0(f' k))(zDS 0)=zDS(g' k)):PIn n f g(f' k)(g' k):=by
 by_cases hx:∃i,i<n/\f i=f' k
 ·obtain⟨i,hi,ei⟩:=hx;have:=(h.at'(f' k)(fun j hj=>h2.2.2 k hk j hj)).1 i hi ei;rw [e] at this;exact⟨i,hi,ei,(zGB this).symm⟩
 ·have:=(h.at'(f' k)(fun j hj=>h2.2.2 k hk j hj)).2(fun i hi e=>hx ⟨i,hi,e⟩);rw [e] at this;have:=zGB this;have:=(h2.2.1 k hk).2.2.1;omega
def qd(f g:Nat->Int)(t:Int):Nat->List(Int×Int)
 |0=>[]
 |k+1=>if t<g k then qd f g t k ++ [(f k,g k)] else qd f g t k
def zBg(f g:Nat->Int)(t:Int):Nat->List(Int×Int)
 |0=>[]
 |k+1=>if t<g k then zBg f g t k else zBg f g t k ++ [(f k,g k)]
theorem zCM(f g:Nat->Int)(t:Int):∀k,(qd f g t k).length+(zBg f g t k).length=k
 |0=>rfl
 |k+1=>by
  have:=zCM f g t k;unfold qd zBg;split<;>simp<;>omega
theorem zY{P:Prop}(h:P):Hid P:=h
theorem zR.zRN{w:World}{lo hi:Nat}{a:Option Addr}{n c:Nat}{f g:Nat->Int}(h:zR w lo hi(.slice a n c) n f g){k:Nat}(hk:k<n):∃b off,a=some ⟨b,off,none⟩/\w.cell? ⟨b,off+k*2,none⟩=some(.int .i64(f k))/\w.cell? ⟨b,off+k*2+1,none⟩=some(.int .i64(g k)):=by
 obtain⟨_,a2,c2,hv,_,hx⟩:=h;simp only [Value.slice.injEq,true_and] at hv;obtain⟨rfl,rfl⟩:=hv;obtain⟨b,off,ha,_,_,h3⟩:=hx(by omega);exact⟨b,off,ha,(h3 k hk).1,(h3 k hk).2⟩
theorem zKR(x y:Int)(w:World):Calls Tryz.prog 214 #[.agg #[.int .i64 x,.int .i64 y]] w fun e w'=>zG(zE6 x y) e/\Below w.heap.size w w':=by
 have aA:=zC w(.cells #[.int .i64 x,.int .i64 y] 61);by_cases h1:0<=x
 ·by_cases h2:x<200
  ·by_cases h3:qw y
   ·have H:=zY(show zE6 x y from⟨h1,by omega,h3.1,h3.2⟩);have H3:=zY h3;clear h3;go_enter Tryz.func214,Tryz.ntmps214;go_wp2_with(first | (go_at_call 156;refine(qN y _).mono ?_;rintro e w1 ⟨⟨t,rfl,ht⟩,rfl⟩;obtain rfl:t=true:=ht.2 H3.out;clear ht) | fail);go_wp2;go_ret;exact⟨zG.yes H.out,aA⟩
   ·have H:=zY(show ¬zE6 x y from fun h=>h3 ⟨h.2.2.1,h.2.2.2⟩);have H3:=zY h3;clear h3;go_enter Tryz.func214,Tryz.ntmps214;go_wp2_with(first | (go_at_call 156;refine(qN y _).mono ?_;rintro e w1 ⟨⟨t,rfl,ht⟩,rfl⟩;obtain rfl:t=false:=zQ ht H3.out;clear ht) | fail);go_wp2;go_ret;exact⟨zG.no H.out,aA⟩
  ·go_enter Tryz.func214,Tryz.ntmps214;go_wp2;go_ret;exact⟨zG.no fun h=>by have:=h.2.1;omega,aA⟩
 ·go_enter Tryz.func214,Tryz.ntmps214;go_wp2;go_ret;exact⟨zG.no fun h=>by have:=h.1;omega,aA⟩
theorem zQm:Keyed Tryz.prog 2:=int_keyed(q:=.i64)(by kernel_rfl)
theorem zPD:Tryz.prog.underlying 243=some(.map 2 2):=by kernel_rfl
theorem zQI:Tryz.prog.underlying 2=some(.int .i64):=by kernel_rfl
theorem zQ7(w:World):(zeroValue 2).run Tryz.prog w = .ok(.int .i64 0) w:=by kernel_rfl
theorem zIQ{x:Int}(h0:0<=x)(h1:x<=1000000):(Lit.int .i64 x).wf=true:=WalkArith.wf_i64(by omega)
def zOi(w:World)(B n:Nat)(D:DataW Unit):Prop:=w.ownsMap Tryz.prog 2(plainElem Tryz.prog 2) B n D
theorem zEy(v:Value)(n lo hi:Nat)(f g:Nat->Int)(w:World)(h1:zR w lo hi v n f g)(hn:n<=200)(iA:∀i,i<n->zE6(f i)(g i)) :
  Calls Tryz.prog 215 #[v] w fun e w'=>e = .returned(.map(some w.heap.size))/\zOi w' w.heap.size n(seenD f g n)/\Below w.heap.size w w':=by
 have Hp:=zY h1;have fA:=zY iA;obtain⟨m1,a,c,rfl,mc,_⟩:=id h1;clear h1 iA;have mA:=@run_makeMap Tryz.prog;go_enter Tryz.func215,Tryz.ntmps215;go_wp2
 go_loopw [9](fun i wr=>∃k:Nat,k<=n/\i = .int .i64 k/\zOi wr w.heap.size k(seenD f g k)/\Below w.heap.size w wr)(fun i _=>n - (intOf i).toNat)
 case atStart=>exact⟨0,Nat.zero_le _,rfl,World.ownsMap_made _ _ _ _,(Below.refl _ _).alloc(Nat.le_refl _) _⟩
 case round=>
  obtain⟨k,hk,rfl,hown,hb⟩:=hrel;have bA:=zY hown;clear hown;by_cases dA:k<n
  ·have lA:(k:Int)<(n:Int):=(by omega);obtain⟨b,off,rfl,q0,q1⟩:=(Hp.out.zRJ hb).zRN dA;have cA:keyOf Tryz.prog 2(.int .i64(f k))=some(zB0(f k)):=keyOf_int_mk zQI(zIQ(fA.out k dA).1(by have:=(fA.out k dA).2.1;omega));have jA:=zIQ(x:=g k)(by have:=(fA.out k dA).2.2.1;omega)(fA.out k dA).2.2.2;have gA:=zY cA;have kA:=zY jA;clear cA jA;go_wp2_with(first
    |(at_mapUpdate;refine wpList_mapUpdate_own _ rfl _ _ _ 243 rfl 2 2 zQm zPD _ w.heap.size k _ rfl(bA.out.alloc _)(by unfold maxLen;omega) _ _ _ rfl rfl gA.out _ [](plainElem_int zQI kA.out) ?_;intro w1 eA aA)
    |go_in)
   go_roundw
   case rel=>exact⟨k+1,by omega,by go_num,eA,(hb.alloc hb.size _).grown aA(by rw [World.size_alloc];have:=hb.size;omega)(fun j hj=>by cases hj;exact Nat.le_refl _)⟩
   case measure=>simp [intOf];omega
  ·obtain rfl:k=n:=(by omega);go_wp2;go_ret;exact⟨rfl,bA.out,hb⟩
theorem qk(v:Value)(n lo hi:Nat)(f g:Nat->Int)(w:World)(h1:zR w lo hi v n f g) :
  Calls Tryz.prog 186 #[v] w fun e w'=>zG(qx n f g) e/\Below w.heap.size w w':=by
 have Hp:=zY h1;obtain⟨m1,a,c,rfl,mc,_⟩:=id h1;clear h1;unfold maxLen at m1;by_cases hn:n<=200
 ·have gA:¬(200:Int)<(n:Int):=(by omega);go_enter Tryz.func186,Tryz.ntmps186;go_wp2
  go_loopw [10](fun i wr=>∃k:Nat,k<=n/\i = .int .i64 k/\(∀i,i<k->zE6(f i)(g i))/\Below w.heap.size w wr)(fun i _=>n - (intOf i).toNat)
  case atStart=>exact⟨0,Nat.zero_le _,rfl,fun j hj=>absurd hj(Nat.not_lt_zero _),Below.refl _ _⟩
  case round=>
   obtain⟨k,hk,rfl,hall,hb⟩:=hrel;have aA:=zY hall;clear hall;by_cases dA:k<n
   ·have iA:(k:Int)<(n:Int):=(by omega);obtain⟨b,off,rfl,q0,q1⟩:=(Hp.out.zRJ hb).zRN dA;have eA:=zA hb(zC wr(.cells #[.int .i64(f k),.int .i64(g k)] 61));go_wp2_with fail;refine(zKR(f k)(g k) _).mono ?_;rintro e w1 ⟨⟨t,rfl,ht⟩,hb1⟩;have cA:=zA eA hb1;clear hb1 eA q0 q1;by_cases bA:zE6(f k)(g k)
    ·have Hk:=zY bA;obtain rfl:t=true:=ht.2 bA;clear ht bA;go_wp2;go_roundw
     case rel=>exact⟨k+1,by omega,by go_num,zo dA aA.out Hk.out,cA⟩
     case measure=>simp [intOf];omega
    ·have Hk:=zY bA;obtain rfl:t=false:=zQ ht bA;clear ht bA;go_wp2;go_ret;exact⟨zG.no fun h=>Hk.out(h.2.1 k dA),cA⟩
   ·obtain rfl:k=n:=(by omega);go_wp2_with fail;refine(zEy _ k lo hi f g _(Hp.out.zRJ hb) hn aA.out).mono ?_;rintro e w1 ⟨rfl,hm,hb1⟩;have cA:=zA hb hb1;have Hm:=zY hm;have fA:=zGl f g k;clear hm hb1;obtain⟨kA,hs2⟩:=fA;have jA:=zY hs2;clear hs2;go_wp2_with(first
     |(at_len;refine wpList_len_own _ rfl _ 243 rfl 2 2 zPD _ wr.heap.size k _ rfl Hm.out ?_)
     |go_in)
    go_ret;refine⟨⟨_,rfl,?_⟩,cA⟩;have Ho:=jA.out;have Ha:=aA.out;simp only [beq_iff_eq,Int.natCast_inj];exact Ho.trans ⟨fun h=>⟨hn,Ha,h⟩,fun h=>h.2.2⟩
 ·have gA:(200:Int)<(n:Int):=(by omega);go_enter Tryz.func186,Tryz.ntmps186;go_wp2;go_ret;exact⟨zG.no fun h=>hn h.1,Below.refl _ _⟩
def zBu(n a b:Int):Prop:=a<=n/\n<=b
theorem zBF(n a b:Int)(w:World):Calls Tryz.prog 137 #[.int .i64 n,.int .i64 a,.int .i64 b] w fun e w'=>zG(zBu n a b) e/\w'=w:=by
 by_cases h1:a<=n
 ·by_cases h2:n<=b
  ·go_enter Tryz.func137,Tryz.ntmps137;go_wp2;go_ret;exact⟨zG.yes ⟨h1,h2⟩,rfl⟩
  ·go_enter Tryz.func137,Tryz.ntmps137;go_wp2;go_ret;exact⟨zG.no fun h=>by have:=h.2;omega,rfl⟩
 ·go_enter Tryz.func137,Tryz.ntmps137;go_wp2;go_ret;exact⟨zG.no fun h=>by have:=h.1;omega,rfl⟩
theorem zAA(v:Value)(n lo hi:Nat)(f g:Nat->Int)(w:World)(h1:zR w lo hi v n f g) :
  Calls Tryz.prog 185 #[v] w fun e w'=>zG(qx n f g) e/\Below w.heap.size w w':=by
 have Hp:=zY h1;obtain⟨m1,a,c,rfl,mc,_⟩:=id h1;clear h1;unfold maxLen at m1;by_cases hn:n<=200
 ·have gA:¬(200:Int)<(n:Int):=(by omega);go_enter Tryz.func185,Tryz.ntmps185;go_wp2
  go_loopw [3](fun i wr=>∃k:Nat,k<=n/\i = .int .i64 k/\(∀i,i<k->zE6(f i)(g i))/\zLK k f/\Below w.heap.size w wr)(fun i _=>n - (intOf i).toNat)
  case atStart=>exact⟨0,Nat.zero_le _,rfl,fun j hj=>absurd hj(Nat.not_lt_zero _),fun j hj=>absurd hj(Nat.not_lt_zero _),Below.refl _ _⟩
  case round=>
   obtain⟨k,hk,rfl,hall,hdist,hb⟩:=hrel;have cA:=zY hall;have bA:=zY hdist;clear hall hdist;by_cases aA:k<n
   ·have iA:(k:Int)<(n:Int):=(by omega);obtain⟨b,off,rfl,q0,q1⟩:=(Hp.out.zRJ hb).zRN aA;by_cases hx:zBu(f k) 0 199
    ·have Hx:=zY hx;clear hx;by_cases hy:qw(g k)
     ·have Hy:=zY hy;clear hy;go_wp2_with(first
       |(go_at_call 137;refine(zBF(f k) 0 199 _).mono ?_;rintro e w1 ⟨⟨t,rfl,ht⟩,rfl⟩;obtain rfl:t=true:=ht.2 Hx.out;clear ht)
       |(go_at_call 145;refine(yX(g k) _).mono ?_;rintro e w2 ⟨⟨t,rfl,ht⟩,rfl⟩;obtain rfl:t=true:=ht.2 Hy.out;clear ht)
       |fail)
      go_wp2
      go_loopw [4](fun i wr=>∃j:Nat,j<=k/\i = .int .i64 j/\(∀i,i<j->f i≠f k)/\Below w.heap.size w wr)(fun i _=>k - (intOf i).toNat)
      case atStart=>exact⟨0,Nat.zero_le _,rfl,fun j hj=>absurd hj(Nat.not_lt_zero _),hb⟩
      case round=>
       obtain⟨j,hj,rfl,hne,hbj⟩:=hrel;have dA:=zY hne;clear hne q0 q1 hb;by_cases eA:j<k
       ·have fA:(j:Int)<(k:Int):=(by omega);have jA:(j:Int)<(n:Int):=(by omega);obtain⟨_,_,ha,r0,_⟩:=(Hp.out.zRJ hbj).zRN(show j<n by omega);simp only [Option.some.injEq,Addr.mk.injEq,and_true] at ha;obtain⟨rfl,rfl⟩:=ha;obtain⟨_,_,ha,s0,_⟩:=(Hp.out.zRJ hbj).zRN aA;simp only [Option.some.injEq,Addr.mk.injEq,and_true] at ha;obtain⟨rfl,rfl⟩:=ha;by_cases he:f j=f k
        ·have He:=zY he;have e0:(f j == f k)=true:=(by simp [he]);clear he;go_wp2
         go_quiet(fail)
         go_wp2;go_ret;exact⟨zG.no fun h=>h.2.2 k aA j eA He.out,zg hbj _⟩
        ·have He:=zY he;have e0:(f j == f k)=false:=(by simp [he]);clear he;go_wp2
         go_quiet(fail)
         go_wp2;go_roundw
         case rel=>exact⟨j+1,by omega,by go_num,zo eA dA.out He.out,zg hbj _⟩
         case measure=>simp [intOf];omega
       ·obtain rfl:j=k:=(by omega);go_wp2;go_roundw
        case rel=>exact⟨j+1,by omega,by go_num,zo aA cA.out ⟨Hx.out.1,Hx.out.2,Hy.out.1,Hy.out.2⟩,zGf.2 ⟨bA.out,dA.out⟩,hbj⟩
        case measure=>simp [intOf];omega
     ·have Hy:=zY hy;clear hy;go_wp2_with(first
       |(go_at_call 137;refine(zBF(f k) 0 199 _).mono ?_;rintro e w1 ⟨⟨t,rfl,ht⟩,rfl⟩;obtain rfl:t=true:=ht.2 Hx.out;clear ht)
       |(go_at_call 145;refine(yX(g k) _).mono ?_;rintro e w2 ⟨⟨t,rfl,ht⟩,rfl⟩;obtain rfl:t=false:=zQ ht Hy.out;clear ht)
       |fail)
      go_wp2;go_ret;exact⟨zG.no fun h=>Hy.out ⟨(h.2.1 k aA).2.2.1,(h.2.1 k aA).2.2.2⟩,hb⟩
    ·have Hx:=zY hx;clear hx;go_wp2_with(first
      |(go_at_call 137;refine(zBF(f k) 0 199 _).mono ?_;rintro e w1 ⟨⟨t,rfl,ht⟩,rfl⟩;obtain rfl:t=false:=zQ ht Hx.out;clear ht)
      |fail)
     go_wp2;go_ret;exact⟨zG.no fun h=>Hx.out ⟨(h.2.1 k aA).1,(h.2.1 k aA).2.1⟩,hb⟩
   ·obtain rfl:k=n:=(by omega);go_wp2;go_ret;exact⟨zG.yes ⟨hn,cA.out,bA.out⟩,hb⟩
 ·have gA:(200:Int)<(n:Int):=(by omega);go_enter Tryz.func185,Tryz.ntmps185;go_wp2;go_ret;exact⟨zG.no fun h=>hn h.1,Below.refl _ _⟩
theorem zDE(v:Value)(n lo hi:Nat)(f g:Nat->Int)(x y:Int)(w:World)(h1:zR w lo hi v n f g) :
  Calls Tryz.prog 142 #[v,.agg #[.int .i64 x,.int .i64 y]] w fun e w'=>zG(PIn n f g x y) e/\Below w.heap.size w w':=by
 have Hp:=zY h1;obtain⟨m1,a,c,rfl,mc,_⟩:=id h1;unfold maxLen at m1;clear h1;have ha:=zC w(.cells #[.int .i64 x,.int .i64 y] 61);have HB:=zY(zc.zRL w(.int .i64 x)(.int .i64 y) 61);go_enter Tryz.func142,Tryz.ntmps142;go_wp2
 go_loopw [5](fun i wr=>∃k:Nat,k<=n/\i = .int .i64 k/\¬PIn k f g x y/\zc wr w.heap.size(.int .i64 x)(.int .i64 y)/\Below w.heap.size w wr)(fun i _=>n - (intOf i).toNat)
 case atStart=>exact⟨0,Nat.zero_le _,rfl,fun ⟨j,hj,_⟩=>absurd hj(Nat.not_lt_zero _),HB.out,ha⟩
 case round=>
  obtain⟨k,hk,rfl,hno,hX,hb⟩:=hrel;have aA:=zY hno;have HX:=zY hX;clear hno hX;obtain⟨⟨x0,x1⟩,⟨x2,x3⟩⟩:=HX.out;by_cases bA:k<n
  ·have cA:(k:Int)<(n:Int):=(by omega);obtain⟨b,off,rfl,q0,q1⟩:=(Hp.out.zRJ hb).zRN bA;by_cases he:f k=x/\g k=y
   ·have H:=zY(show PIn n f g x y from⟨k,bA,he.1,he.2⟩);rw [he.1] at q0;rw [he.2] at q1;clear he;go_wp2
    go_quiet(fail)
    go_wp2;go_ret;exact⟨zG.yes H.out,zg hb _⟩
   ·have H:=zY he;have e0:(f k == x)=false\/(f k == x)=true/\(g k == y)=false:=by
     by_cases h:f k=x
     ·right;refine⟨by simp [h],?_⟩;have:g k≠y:=fun h'=>he ⟨h,h'⟩
      simp [this]
     ·left;simp [h]
    clear he;rcases e0 with e0 | ⟨e0,e1⟩
    all_goals
     go_wp2
     go_quiet(fail)
     go_wp2;go_roundw
     case rel=>
      refine⟨k+1,by omega,by go_num,?_,HX.out.zRJ(zg(Below.refl _ _) _),zg hb _⟩;rintro⟨j,hj,hjx⟩;by_cases e:j=k
      ·subst e;exact H.out ⟨hjx.1,hjx.2⟩
      ·exact aA.out ⟨j,by omega,hjx⟩
     case measure=>simp [intOf];omega
  ·obtain rfl:k=n:=(by omega);go_wp2;go_ret;exact⟨zG.no aA.out,hb⟩
theorem zGb(v v':Value)(n lo hi n' lo' hi':Nat)(f g f' g':Nat->Int)(w:World)(h1:zR w lo hi v n f g)(h2:zR w lo' hi' v' n' f' g') :
  Calls Tryz.prog 143 #[v,v'] w fun e w'=>zG(zES n f g n' f' g') e/\Below w.heap.size w w':=by
 have Hp:=zY h1;have fA:=zY h2;obtain⟨m1,a,c,rfl,mc,_⟩:=id h1;obtain⟨m2,a',c',rfl,mc',_⟩:=id h2;unfold maxLen at m1 m2;clear h1 h2;by_cases ho:qx n f g
 ·have Ho:=zY ho;clear ho;by_cases cA:qx n' f' g'
  ·have aA:=zY cA;clear cA;go_enter Tryz.func143,Tryz.ntmps143;go_wp2_with fail;refine(zAA _ n lo hi f g _ Hp.out).mono ?_;rintro e w1 ⟨⟨t,rfl,ht⟩,hb1⟩;obtain rfl:t=true:=ht.2 Ho.out;clear ht;go_wp2_with fail;refine(zAA _ n' lo' hi' f' g' _(fA.out.zRJ hb1)).mono ?_;rintro e w2 ⟨⟨t,rfl,ht⟩,hb2⟩;obtain rfl:t=true:=ht.2 aA.out;have dA:=zA hb1 hb2;clear ht hb1 hb2;by_cases eA:n=n'
   ·subst eA;have e0:((n:Int) != (n:Int))=false:=(by simp);go_wp2
    go_loopw [5](fun i wr=>∃k:Nat,k<=n/\i = .int .i64 k/\(∀i,i<k->PIn n f' g'(f i)(g i))/\Below w.heap.size w wr)(fun i _=>n - (intOf i).toNat)
    case atStart=>exact⟨0,Nat.zero_le _,rfl,fun j hj=>absurd hj(Nat.not_lt_zero _),dA⟩
    case round=>
     obtain⟨k,hk,rfl,hall,hb⟩:=hrel;have bA:=zY hall;clear hall;by_cases gA:k<n
     ·have jA:(k:Int)<(n:Int):=(by omega);obtain⟨b,off,rfl,q0,q1⟩:=(Hp.out.zRJ hb).zRN gA;go_wp2_with fail;refine(zDE _ n lo' hi' f' g'(f k)(g k) _(fA.out.zRJ hb)).mono ?_;rintro e w3 ⟨⟨t,rfl,ht⟩,hb3⟩;have iA:=zA hb hb3;clear hb3;by_cases hi':PIn n f' g'(f k)(g k)
      ·have Hi:=zY hi';obtain rfl:t=true:=ht.2 hi';clear ht hi';go_wp2;go_roundw
       case rel=>exact⟨k+1,by omega,by go_num,zo gA bA.out Hi.out,iA⟩
       case measure=>simp [intOf];omega
      ·have Hi:=zY hi';obtain rfl:t=false:=zQ ht hi';clear ht hi';go_wp2;go_ret;exact⟨zG.no fun h=>Hi.out(h.2.2.2 k gA),iA⟩
     ·obtain rfl:k=n:=(by omega);go_wp2;go_ret;exact⟨zG.yes ⟨Ho.out,aA.out,rfl,bA.out⟩,hb⟩
   ·have e0:((n:Int) != (n':Int))=true:=(by simp;omega);have Hn:=zY eA;clear eA;go_wp2;go_ret;exact⟨zG.no fun h=>Hn.out h.2.2.1,dA⟩
  ·have aA:=zY cA;clear cA;go_enter Tryz.func143,Tryz.ntmps143;go_wp2_with fail;refine(zAA _ n lo hi f g _ Hp.out).mono ?_;rintro e w1 ⟨⟨t,rfl,ht⟩,hb1⟩;obtain rfl:t=true:=ht.2 Ho.out;clear ht;go_wp2_with fail;refine(zAA _ n' lo' hi' f' g' _(fA.out.zRJ hb1)).mono ?_;rintro e w2 ⟨⟨t,rfl,ht⟩,hb2⟩;obtain rfl:t=false:=zQ ht aA.out;have dA:=zA hb1 hb2;clear ht hb1 hb2;go_wp2;go_ret;exact⟨zG.no fun h=>aA.out h.2.1,dA⟩
 ·have Ho:=zY ho;clear ho;go_enter Tryz.func143,Tryz.ntmps143;go_wp2_with fail;refine(zAA _ n lo hi f g _ Hp.out).mono ?_;rintro e w1 ⟨⟨t,rfl,ht⟩,hb1⟩;obtain rfl:t=false:=zQ ht Ho.out;clear ht;go_wp2;go_ret;exact⟨zG.no fun h=>Ho.out h.1,hb1⟩
end Go.Proofs.YtmgeglgboadfiaaGreatDoor
