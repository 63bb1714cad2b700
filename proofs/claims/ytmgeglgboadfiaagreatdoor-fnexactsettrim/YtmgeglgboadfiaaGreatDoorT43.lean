/- What a pool that comes in is in memory: out of the reading of its arguments, the plain facts on cells. -/
import Derived.Deep.Slices
import Derived.Deep.SlicePairs
import Derived.Deep.Strs
import Derived.Lib.SmallJoins
import Derived.Test.YtmgeglgboadfiaaGreatDoorT36
set_option linter.unusedVariables false
set_option maxRecDepth 20000
set_option maxHeartbeats 4000000
namespace Go.Proofs.YtmgeglgboadfiaaGreatDoor
open Go.RowKit Go.Deep Go.Joins
open Go.ChangeShapes Go.WideShapes Go.ChangeAt
set_option maxRecDepth 20000
section
variable {H : Type} {enc : TypeId × Value -> H} {W : World} {spare : Nat -> Bool} {held : Bool}
theorem zBQ{w:World}{a:Addr}{v:Value}(h:w.cell? a=some v):∃b off,a=⟨b,off,none⟩:=by
 obtain⟨b,off,spot⟩:=a;have hs:spot=none:=by simpa using World.cell?_spot h
 subst hs;exact⟨b,off,rfl⟩
theorem zAZ{v:Value}{a:Option Addr}{n c:Nat}(h:[v] = [Value.slice a n c]):v = .slice a n c:=by simpa using h
theorem zKB{bA:Nat}{v:Value}{x:DataW H×List MemPlace}(h:DataW.trod enc Tryz.prog W 0 spare held bA 23 [v]=some x):∃n f,qT W 0 W.heap.size v n f:=by
 rcases open_slice1(t:=23)(e:=2)(by kernel_rfl)(by kernel_rfl) h with⟨hv,_⟩ | ⟨a,len,cap,m,n,V,D,Pl,hv,_,hl,hm,hmm,_,hx⟩
 ·exact⟨0,fun _=>0,Nat.zero_le _,none,0,zAZ hv,Nat.le_refl _,fun h=>absurd h(Nat.lt_irrefl _)⟩
 ·have cA:len<=m:=(by rw [hmm];split<;>omega);have hV:∀i,i<len->∃z:Int,V i = .int .i64 z:=fun i hi=>by
   obtain⟨_,ht⟩:=hx i(by omega);obtain⟨z,hz,_⟩:=DataW.trod_int(show Tryz.prog.underlying 2=some(.int .i64)by kernel_rfl) ht;exact⟨z,by simpa using hz⟩
  refine⟨len,fun i=>intOf(V i),by unfold maxLen at *;omega,some a,cap,zAZ hv,hl,fun h0=>?_⟩;have aA:=(hx 0(by omega)).1;rw [show a.add 0=a by simp [Addr.add]] at aA;obtain⟨b,off,rfl⟩:=zBQ aA;refine⟨b,off,rfl,Nat.zero_le _,zD aA,fun i hi=>?_⟩;have hc:=(hx i(by omega)).1;rw [Addr.add_mid] at hc;obtain⟨z,hz⟩:=hV i hi;show _=some(Value.int .i64(intOf(V i)));rw [hc,hz];rfl
theorem qX{t T o c i:Nat}{aA:Nat}{cs:List Value}{x:DataW H×List MemPlace}(hs:Tryz.prog.underlying t=some(.struct(Tryz.prog.fieldsOf t)))(hf:((Tryz.prog.fieldsOf t)[i]?).map(fun f=>(f.type,f.offset))=some(T,o))
  (hc:Tryz.prog.cellsOf T=c)(h:DataW.trod enc Tryz.prog W 0 spare held aA t cs=some x):∃n y,DataW.trod enc Tryz.prog W 0 spare held n T((cs.drop o).take c)=some y:=by
 obtain⟨f,hf1,hf2⟩:=Option.map_eq_some_iff.1 hf;simp only [Prod.mk.injEq] at hf2;obtain⟨rfl,rfl⟩:=hf2;obtain⟨xs,n,_,_,_,hxl,hfs⟩:=DataW.trod_struct hs h;have hi:i<(Tryz.prog.fieldsOf t).size:=(Array.getElem?_eq_some_iff.1 hf1).1;have:=hfs i f hf1;rw [hc,List.getElem?_eq_getElem(by omega)] at this;exact⟨n,_,this⟩
theorem zCd{aA:Nat}{c0 c1:Value}{x:DataW H×List MemPlace}(h:DataW.trod enc Tryz.prog W 0 spare held aA 113 [c0,c1]=some x):∃y z:Int,c0 = .int .i64 y/\c1 = .int .i64 z:=by
 obtain⟨n0,y0,h0⟩:=qX(t:=113)(T:=2)(o:=0)(c:=1)(i:=0)(by kernel_rfl)(by kernel_rfl)(by kernel_rfl) h;obtain⟨n1,y1,h1⟩:=qX(t:=113)(T:=2)(o:=1)(c:=1)(i:=1)(by kernel_rfl)(by kernel_rfl)(by kernel_rfl) h;obtain⟨y,hy,_⟩:=DataW.trod_int(show Tryz.prog.underlying 2=some(.int .i64)by kernel_rfl) h0;obtain⟨z,hz,_⟩:=DataW.trod_int(show Tryz.prog.underlying 2=some(.int .i64)by kernel_rfl) h1;exact⟨y,z,by simpa using hy,by simpa using hz⟩
theorem zDl{aA:Nat}{v:Value}{x:DataW H×List MemPlace}(h:DataW.trod enc Tryz.prog W 0 spare held aA 114 [v]=some x):∃n f g,zR W 0 W.heap.size v n f g:=by
 rcases open_slice(t:=114)(e:=113)(by kernel_rfl) h with⟨hv,_⟩ | ⟨a,len,cap,m,n,D,Pl,hv,_,hl,hm,hmm,_,hx⟩
 ·exact⟨0,fun _=>0,fun _=>0,Nat.zero_le _,none,0,zAZ hv,Nat.le_refl _,fun h=>absurd h(Nat.lt_irrefl _)⟩
 ·have cA:len<=m:=(by rw [hmm];split<;>omega);have bA:Tryz.prog.cellsOf 113=2:=(by kernel_rfl);rw [bA] at hx;have hV:∀i,i<len->∃y z:Int,W.cell?(a.add(i*2))=some(.int .i64 y)/\W.cell?((a.add(i*2)).add 1)=some(.int .i64 z):=fun i hi=>by
   obtain⟨cs,hcs,ht⟩:=hx i(by omega);obtain⟨_,hlen,hcell⟩:=World.cells?_some hcs
   match cs,hlen with
   |[c0,c1],_=>
    obtain⟨y,z,rfl,rfl⟩:=zCd ht;have q0:=hcell 0(by omega);have q1:=hcell 1(by omega);rw [show(a.add(i*2)).add 0=a.add(i*2)by simp [Addr.add]] at q0;exact⟨y,z,by simpa using q0,by simpa using q1⟩
  refine⟨len,fun i=>intOf((W.cell?(a.add(i*2))).getD undef),fun i=>intOf((W.cell?((a.add(i*2)).add 1)).getD undef),by unfold maxLen at *;omega,some a,cap,zAZ hv,hl,fun h0=>?_⟩;obtain⟨y,z,hc0,_⟩:=hV 0 h0;rw [show a.add(0*2)=a by simp [Addr.add]] at hc0;obtain⟨b,off,rfl⟩:=zBQ hc0;refine⟨b,off,rfl,Nat.zero_le _,zD hc0,fun i hi=>?_⟩;obtain⟨y,z,q0,q1⟩:=hV i hi;show _=some(Value.int .i64(intOf((W.cell? _).getD undef)))/\_=some(Value.int .i64(intOf((W.cell? _).getD undef)));rw [q0,q1];rw [Addr.add_mid,Addr.add_mid] at q1;rw [Addr.add_mid] at q0;exact⟨q0,q1⟩
theorem zHF{aA:Nat}{c0 c1 c2:Value}{x:DataW H×List MemPlace}(h:DataW.trod enc Tryz.prog W 0 spare held aA 183 [c0,c1,c2]=some x):∃s,qI W 0 W.heap.size c0 c1 c2 s:=by
 obtain⟨n0,y0,h0⟩:=qX(t:=183)(T:=2)(o:=0)(c:=1)(i:=0)(by kernel_rfl)(by kernel_rfl)(by kernel_rfl) h;obtain⟨n1,y1,h1⟩:=qX(t:=183)(T:=114)(o:=1)(c:=1)(i:=1)(by kernel_rfl)(by kernel_rfl)(by kernel_rfl) h;obtain⟨n2,y2,h2⟩:=qX(t:=183)(T:=9)(o:=2)(c:=1)(i:=2)(by kernel_rfl)(by kernel_rfl)(by kernel_rfl) h;obtain⟨y,hy,_⟩:=DataW.trod_int(show Tryz.prog.underlying 2=some(.int .i64)by kernel_rfl) h0;obtain⟨n,f,g,hp⟩:=zDl(v:=c1)(by simpa using h1);obtain⟨d,hd,_,hsz⟩:=DataW.trod_string(show Tryz.prog.underlying 9=some .string by kernel_rfl) h2;exact⟨⟨y,n,f,g,d⟩,by simpa using hy,hp,by simpa using hd,hsz⟩
theorem zIi{aA:Nat}{v:Value}{x:DataW H×List MemPlace}(h:DataW.trod enc Tryz.prog W 0 spare held aA 22 [v]=some x):∃n f,qA W 0 W.heap.size v n f:=by
 rcases open_slice(t:=22)(e:=183)(by kernel_rfl) h with⟨hv,_⟩ | ⟨a,len,cap,m,n,D,Pl,hv,_,hl,hm,hmm,_,hx⟩
 ·exact⟨0,fun _=>⟨0,0,fun _=>0,fun _=>0,ByteArray.empty⟩,Nat.zero_le _,none,0,zAZ hv,Nat.le_refl _,fun h=>absurd h(Nat.lt_irrefl _)⟩
 ·have dA:len<=m:=(by rw [hmm];split<;>omega);have bA:Tryz.prog.cellsOf 183=3:=(by kernel_rfl);rw [bA] at hx;have hV:∀i,i<len->∃s:zL,∃c0 c1 c2,W.cell?(a.add(i*3))=some c0/\W.cell?((a.add(i*3)).add 1)=some c1/\W.cell?((a.add(i*3)).add 2)=some c2/\qI W 0 W.heap.size c0 c1 c2 s:=fun i hi=>by
   obtain⟨cs,hcs,ht⟩:=hx i(by omega);obtain⟨_,hlen,hcell⟩:=World.cells?_some hcs
   match cs,hlen with
   |[c0,c1,c2],_=>
    obtain⟨s,hs⟩:=zHF ht;have q0:=hcell 0(by omega);have q1:=hcell 1(by omega);have q2:=hcell 2(by omega);rw [show(a.add(i*3)).add 0=a.add(i*3)by simp [Addr.add]] at q0;exact⟨s,c0,c1,c2,by simpa using q0,by simpa using q1,by simpa using q2,hs⟩
  have cA:Inhabited zL:=⟨⟨0,0,fun _=>0,fun _=>0,ByteArray.empty⟩⟩;obtain⟨f,hf⟩:=choose_lt(α:=zL)(p:=fun i s=>∃c0 c1 c2,W.cell?(a.add(i*3))=some c0/\W.cell?((a.add(i*3)).add 1)=some c1/\W.cell?((a.add(i*3)).add 2)=some c2/\qI W 0 W.heap.size c0 c1 c2 s) hV;refine⟨len,f,by unfold maxLen at *;omega,some a,cap,zAZ hv,hl,fun h0=>?_⟩;obtain⟨c0,c1,c2,hc0,_⟩:=hf 0 h0;rw [show a.add(0*3)=a by simp [Addr.add]] at hc0;obtain⟨b,off,rfl⟩:=zBQ hc0;refine⟨b,off,rfl,Nat.zero_le _,zD hc0,fun i hi=>?_⟩;obtain⟨c0,c1,c2,q0,q1,q2,hs⟩:=hf i hi;rw [Addr.add_mid,Addr.add_mid] at q1 q2;rw [Addr.add_mid] at q0;exact⟨c0,c1,c2,q0,q1,q2,hs⟩
end
set_option maxRecDepth 20000
section
variable {H : Type} {enc : TypeId × Value -> H} {W : World} {spare : Nat -> Bool} {held : Bool}
def zK9(s:qC):Prop:=(Lit.int .i64 s.origin).wf=true/\(Lit.int .i64 s.zRT).wf=true
theorem zHi{aA:Nat}{c0 c1 c2 c3 c4 c5:Value}{x:DataW H×List MemPlace}(h:DataW.trod enc Tryz.prog W 0 spare held aA 116 [c0,c1,c2,c3,c4,c5]=some x):∃s:qC,c0 = .string s.name/\c1 = .int .i64 s.origin/\c2 = .int .i64 s.zRT/\c3 = .int .i64 s.rs/\c4 = .int .i64 s.rb/\zR W 0 W.heap.size c5 s.dn s.ds s.db/\s.name.size<=maxLen/\zK9 s:=by
 obtain⟨n0,y0,h0⟩:=qX(t:=116)(T:=9)(o:=0)(c:=1)(i:=0)(by kernel_rfl)(by kernel_rfl)(by kernel_rfl) h;obtain⟨z0,e0,-,w0⟩:=DataW.trod_string(show Tryz.prog.underlying 9=some .string by kernel_rfl) h0;obtain⟨n1,y1,h1⟩:=qX(t:=116)(T:=2)(o:=1)(c:=1)(i:=1)(by kernel_rfl)(by kernel_rfl)(by kernel_rfl) h;obtain⟨z1,e1,-,w1⟩:=DataW.trod_int(show Tryz.prog.underlying 2=some(.int .i64)by kernel_rfl) h1;obtain⟨n2,y2,h2⟩:=qX(t:=116)(T:=2)(o:=2)(c:=1)(i:=2)(by kernel_rfl)(by kernel_rfl)(by kernel_rfl) h;obtain⟨z2,e2,-,w2⟩:=DataW.trod_int(show Tryz.prog.underlying 2=some(.int .i64)by kernel_rfl) h2;obtain⟨n3,y3,h3⟩:=qX(t:=116)(T:=113)(o:=3)(c:=2)(i:=3)(by kernel_rfl)(by kernel_rfl)(by kernel_rfl) h;obtain⟨z3,z3',e3,e3'⟩:=zCd(c0:=c3)(c1:=c4)(by simpa using h3);obtain⟨n4,y4,h4⟩:=qX(t:=116)(T:=114)(o:=5)(c:=1)(i:=4)(by kernel_rfl)(by kernel_rfl)(by kernel_rfl) h;obtain⟨dn,ds,db,hp⟩:=zDl(v:=c5)(by simpa using h4);exact⟨⟨z0,z1,z2,z3,z3',dn,ds,db⟩,by simpa using e0,by simpa using e1,by simpa using e2,e3,e3',hp,w0,w1,w2⟩
theorem zKg{aA:Nat}{v:Value}{x:DataW H×List MemPlace}(h:DataW.trod enc Tryz.prog W 0 spare held aA 26 [v]=some x):∃n f,yZ W 0 W.heap.size v n f/\∀i,i<n->zK9(f i):=by
 rcases open_slice(t:=26)(e:=116)(by kernel_rfl) h with⟨hv,_⟩ | ⟨a,len,cap,m,n,D,Pl,hv,_,hl,hm,hmm,_,hx⟩
 ·exact⟨0,fun _=>⟨ByteArray.empty,0,0,0,0,0,fun _=>0,fun _=>0⟩,⟨Nat.zero_le _,none,0,zAZ hv,Nat.le_refl _,fun h=>absurd h(Nat.lt_irrefl _)⟩,fun i hi=>absurd hi(Nat.not_lt_zero _)⟩
 ·have dA:len<=m:=(by rw [hmm];split<;>omega);have bA:Tryz.prog.cellsOf 116=6:=(by kernel_rfl);rw [bA] at hx;have hV:∀i,i<len->∃s:qC,(∃c0 c1 c2 c3 c4 c5,W.cell?(a.add(i*6))=some c0/\W.cell?((a.add(i*6)).add 1)=some c1/\W.cell?((a.add(i*6)).add 2)=some c2/\W.cell?((a.add(i*6)).add 3)=some c3/\W.cell?((a.add(i*6)).add 4)=some c4/\W.cell?((a.add(i*6)).add 5)=some c5/\c0 = .string s.name/\c1 = .int .i64 s.origin/\c2 = .int .i64 s.zRT/\c3 = .int .i64 s.rs/\c4 = .int .i64 s.rb/\zR W 0 W.heap.size c5 s.dn s.ds s.db/\s.name.size<=maxLen/\zK9 s):=fun i hi=>by
   obtain⟨cs,hcs,ht⟩:=hx i(by omega);obtain⟨_,hlen,hcell⟩:=World.cells?_some hcs
   match cs,hlen with
   |[c0,c1,c2,c3,c4,c5],_=>
    obtain⟨s,hs⟩:=zHi ht;have q0:=hcell 0(by omega);have q1:=hcell 1(by omega);have q2:=hcell 2(by omega);have q3:=hcell 3(by omega);have q4:=hcell 4(by omega);have q5:=hcell 5(by omega);rw [show(a.add(i*6)).add 0=a.add(i*6)by simp [Addr.add]] at q0;exact⟨s,c0,c1,c2,c3,c4,c5,by simpa using q0,by simpa using q1,by simpa using q2,by simpa using q3,by simpa using q4,by simpa using q5,hs⟩
  have cA:Inhabited qC:=⟨⟨ByteArray.empty,0,0,0,0,0,fun _=>0,fun _=>0⟩⟩;obtain⟨f,hf⟩:=choose_lt(α:=qC)(p:=fun i s=>(∃c0 c1 c2 c3 c4 c5,W.cell?(a.add(i*6))=some c0/\W.cell?((a.add(i*6)).add 1)=some c1/\W.cell?((a.add(i*6)).add 2)=some c2/\W.cell?((a.add(i*6)).add 3)=some c3/\W.cell?((a.add(i*6)).add 4)=some c4/\W.cell?((a.add(i*6)).add 5)=some c5/\c0 = .string s.name/\c1 = .int .i64 s.origin/\c2 = .int .i64 s.zRT/\c3 = .int .i64 s.rs/\c4 = .int .i64 s.rb/\zR W 0 W.heap.size c5 s.dn s.ds s.db/\s.name.size<=maxLen/\zK9 s)) hV;refine⟨len,f,⟨by unfold maxLen at *;omega,some a,cap,zAZ hv,hl,fun h0=>?_⟩,fun i hi=>?_⟩
  ·obtain⟨c0,c1,c2,c3,c4,c5,hc0,_⟩:=hf 0 h0;rw [show a.add(0*6)=a by simp [Addr.add]] at hc0;obtain⟨b,off,rfl⟩:=zBQ hc0;refine⟨b,off,rfl,Nat.zero_le _,zD hc0,fun i hi=>?_⟩;obtain⟨c0,c1,c2,c3,c4,c5,q0,q1,q2,q3,q4,q5,rfl,rfl,rfl,rfl,rfl,hp,hsm,hwf⟩:=hf i hi;rw [Addr.add_mid,Addr.add_mid] at q1 q2 q3 q4 q5;rw [Addr.add_mid] at q0;exact⟨c5,q0,q1,q2,q3,q4,q5,hp,hsm⟩
  ·obtain⟨c0,c1,c2,c3,c4,c5,-,-,-,-,-,-,-,-,-,-,-,-,-,hwf⟩:=hf i hi;exact hwf
def zH8(s:zm):Prop:=(Lit.int .i64 s.id).wf=true/\(Lit.int .i64 s.zRT).wf=true/\(Lit.int .i64 s.time).wf=true
theorem zHH{aA:Nat}{c0 c1 c2 c3 c4 c5 c6 c7:Value}{x:DataW H×List MemPlace}(h:DataW.trod enc Tryz.prog W 0 spare held aA 119 [c0,c1,c2,c3,c4,c5,c6,c7]=some x):∃s:zm,c0 = .int .i64 s.id/\c1 = .string s.name/\c2 = .string s.set/\c3 = .int .i64 s.zRT/\c4 = .int .i64 s.time/\c5 = .int .i64 s.rs/\c6 = .int .i64 s.rb/\zR W 0 W.heap.size c7 s.dn s.ds s.db/\(s.name.size<=maxLen/\s.set.size<=maxLen)/\zH8 s:=by
 obtain⟨n0,y0,h0⟩:=qX(t:=119)(T:=2)(o:=0)(c:=1)(i:=0)(by kernel_rfl)(by kernel_rfl)(by kernel_rfl) h;obtain⟨z0,e0,-,w0⟩:=DataW.trod_int(show Tryz.prog.underlying 2=some(.int .i64)by kernel_rfl) h0;obtain⟨n1,y1,h1⟩:=qX(t:=119)(T:=9)(o:=1)(c:=1)(i:=1)(by kernel_rfl)(by kernel_rfl)(by kernel_rfl) h;obtain⟨z1,e1,-,w1⟩:=DataW.trod_string(show Tryz.prog.underlying 9=some .string by kernel_rfl) h1;obtain⟨n2,y2,h2⟩:=qX(t:=119)(T:=9)(o:=2)(c:=1)(i:=2)(by kernel_rfl)(by kernel_rfl)(by kernel_rfl) h;obtain⟨z2,e2,-,w2⟩:=DataW.trod_string(show Tryz.prog.underlying 9=some .string by kernel_rfl) h2;obtain⟨n3,y3,h3⟩:=qX(t:=119)(T:=2)(o:=3)(c:=1)(i:=3)(by kernel_rfl)(by kernel_rfl)(by kernel_rfl) h;obtain⟨z3,e3,-,w3⟩:=DataW.trod_int(show Tryz.prog.underlying 2=some(.int .i64)by kernel_rfl) h3;obtain⟨n4,y4,h4⟩:=qX(t:=119)(T:=2)(o:=4)(c:=1)(i:=4)(by kernel_rfl)(by kernel_rfl)(by kernel_rfl) h;obtain⟨z4,e4,-,w4⟩:=DataW.trod_int(show Tryz.prog.underlying 2=some(.int .i64)by kernel_rfl) h4;obtain⟨n5,y5,h5⟩:=qX(t:=119)(T:=113)(o:=5)(c:=2)(i:=5)(by kernel_rfl)(by kernel_rfl)(by kernel_rfl) h;obtain⟨z5,z5',e5,e5'⟩:=zCd(c0:=c5)(c1:=c6)(by simpa using h5);obtain⟨n6,y6,h6⟩:=qX(t:=119)(T:=114)(o:=7)(c:=1)(i:=6)(by kernel_rfl)(by kernel_rfl)(by kernel_rfl) h;obtain⟨dn,ds,db,hp⟩:=zDl(v:=c7)(by simpa using h6);exact⟨⟨z0,z1,z2,z3,z4,z5,z5',dn,ds,db⟩,by simpa using e0,by simpa using e1,by simpa using e2,by simpa using e3,by simpa using e4,e5,e5',hp,⟨w1,w2⟩,w0,w3,w4⟩
theorem zIn{aA:Nat}{v:Value}{x:DataW H×List MemPlace}(h:DataW.trod enc Tryz.prog W 0 spare held aA 27 [v]=some x):∃n f,qz W 0 W.heap.size v n f/\∀i,i<n->zH8(f i):=by
 rcases open_slice(t:=27)(e:=119)(by kernel_rfl) h with⟨hv,_⟩ | ⟨a,len,cap,m,n,D,Pl,hv,_,hl,hm,hmm,_,hx⟩
 ·exact⟨0,fun _=>⟨0,ByteArray.empty,ByteArray.empty,0,0,0,0,0,fun _=>0,fun _=>0⟩,⟨Nat.zero_le _,none,0,zAZ hv,Nat.le_refl _,fun h=>absurd h(Nat.lt_irrefl _)⟩,fun i hi=>absurd hi(Nat.not_lt_zero _)⟩
 ·have dA:len<=m:=(by rw [hmm];split<;>omega);have bA:Tryz.prog.cellsOf 119=8:=(by kernel_rfl);rw [bA] at hx;have hV:∀i,i<len->∃s:zm,(∃c0 c1 c2 c3 c4 c5 c6 c7,W.cell?(a.add(i*8))=some c0/\W.cell?((a.add(i*8)).add 1)=some c1/\W.cell?((a.add(i*8)).add 2)=some c2/\W.cell?((a.add(i*8)).add 3)=some c3/\W.cell?((a.add(i*8)).add 4)=some c4/\W.cell?((a.add(i*8)).add 5)=some c5/\W.cell?((a.add(i*8)).add 6)=some c6/\W.cell?((a.add(i*8)).add 7)=some c7/\c0 = .int .i64 s.id/\c1 = .string s.name/\c2 = .string s.set/\c3 = .int .i64 s.zRT/\c4 = .int .i64 s.time/\c5 = .int .i64 s.rs/\c6 = .int .i64 s.rb/\zR W 0 W.heap.size c7 s.dn s.ds s.db/\(s.name.size<=maxLen/\s.set.size<=maxLen)/\zH8 s):=fun i hi=>by
   obtain⟨cs,hcs,ht⟩:=hx i(by omega);obtain⟨_,hlen,hcell⟩:=World.cells?_some hcs
   match cs,hlen with
   |[c0,c1,c2,c3,c4,c5,c6,c7],_=>
    obtain⟨s,hs⟩:=zHH ht;have q0:=hcell 0(by omega);have q1:=hcell 1(by omega);have q2:=hcell 2(by omega);have q3:=hcell 3(by omega);have q4:=hcell 4(by omega);have q5:=hcell 5(by omega);have q6:=hcell 6(by omega);have q7:=hcell 7(by omega);rw [show(a.add(i*8)).add 0=a.add(i*8)by simp [Addr.add]] at q0;exact⟨s,c0,c1,c2,c3,c4,c5,c6,c7,by simpa using q0,by simpa using q1,by simpa using q2,by simpa using q3,by simpa using q4,by simpa using q5,by simpa using q6,by simpa using q7,hs⟩
  have cA:Inhabited zm:=⟨⟨0,ByteArray.empty,ByteArray.empty,0,0,0,0,0,fun _=>0,fun _=>0⟩⟩;obtain⟨f,hf⟩:=choose_lt(α:=zm)(p:=fun i s=>(∃c0 c1 c2 c3 c4 c5 c6 c7,W.cell?(a.add(i*8))=some c0/\W.cell?((a.add(i*8)).add 1)=some c1/\W.cell?((a.add(i*8)).add 2)=some c2/\W.cell?((a.add(i*8)).add 3)=some c3/\W.cell?((a.add(i*8)).add 4)=some c4/\W.cell?((a.add(i*8)).add 5)=some c5/\W.cell?((a.add(i*8)).add 6)=some c6/\W.cell?((a.add(i*8)).add 7)=some c7/\c0 = .int .i64 s.id/\c1 = .string s.name/\c2 = .string s.set/\c3 = .int .i64 s.zRT/\c4 = .int .i64 s.time/\c5 = .int .i64 s.rs/\c6 = .int .i64 s.rb/\zR W 0 W.heap.size c7 s.dn s.ds s.db/\(s.name.size<=maxLen/\s.set.size<=maxLen)/\zH8 s)) hV;refine⟨len,f,⟨by unfold maxLen at *;omega,some a,cap,zAZ hv,hl,fun h0=>?_⟩,fun i hi=>?_⟩
  ·obtain⟨c0,c1,c2,c3,c4,c5,c6,c7,hc0,_⟩:=hf 0 h0;rw [show a.add(0*8)=a by simp [Addr.add]] at hc0;obtain⟨b,off,rfl⟩:=zBQ hc0;refine⟨b,off,rfl,Nat.zero_le _,zD hc0,fun i hi=>?_⟩;obtain⟨c0,c1,c2,c3,c4,c5,c6,c7,q0,q1,q2,q3,q4,q5,q6,q7,rfl,rfl,rfl,rfl,rfl,rfl,rfl,hp,hsm,hwf⟩:=hf i hi;rw [Addr.add_mid,Addr.add_mid] at q1 q2 q3 q4 q5 q6 q7;rw [Addr.add_mid] at q0;exact⟨c7,q0,q1,q2,q3,q4,q5,q6,q7,hp,hsm⟩
  ·obtain⟨c0,c1,c2,c3,c4,c5,c6,c7,-,-,-,-,-,-,-,-,-,-,-,-,-,-,-,-,-,hwf⟩:=hf i hi;exact hwf
structure zHN(W:zH):Prop where
 time:(Lit.int .i64 W.time).wf=true
 next:(Lit.int .i64 W.next).wf=true
 zRS:∀i,i<W.sn->zK9(W.zRS i)
 zRP:∀i,i<W.pn->zH8(W.zRP i)
theorem zHN.prevs{W:zH}(h:zHN W):zCJ W:=fun i hi=>by
 unfold zq at hi;by_cases e:i<W.pn
 ·rw [qS e];exact(h.zRP i e).2.1
 ·obtain⟨j,rfl⟩:∃j,i=W.pn+j:=⟨i - W.pn,by omega⟩;rw [yH];exact(h.zRS j(by omega)).2
theorem zPy{α : Type}{cs:Array α}(h:cs.size=6):∃c0 c1 c2 c3 c4 c5,cs=#[c0,c1,c2,c3,c4,c5]:=by
 obtain⟨l⟩:=cs
 match l,h with
 |[c0,c1,c2,c3,c4,c5],_=>exact⟨c0,c1,c2,c3,c4,c5,rfl⟩
theorem zG8{aA:Nat}{c0 c1:Value}{x:DataW H×List MemPlace}(h:DataW.trod enc Tryz.prog W 0 spare held aA 25 [c0,c1]=some x):∃p,zy W 0 W.heap.size c0 c1 p:=by
 obtain⟨n0,y0,h0⟩:=qX(t:=25)(T:=22)(o:=0)(c:=1)(i:=0)(by kernel_rfl)(by kernel_rfl)(by kernel_rfl) h;obtain⟨n1,y1,h1⟩:=qX(t:=25)(T:=23)(o:=1)(c:=1)(i:=1)(by kernel_rfl)(by kernel_rfl)(by kernel_rfl) h;obtain⟨n,f,hsl⟩:=zIi(v:=c0)(by simpa using h0);obtain⟨hn,g,hin⟩:=zKB(v:=c1)(by simpa using h1);exact⟨⟨n,f,hn,g⟩,hsl,hin⟩
theorem zMn{r:Reach}{b0:Nat}{v:Value}{d:DataW H}{ps:List MemPlace}(hv:Value.okWide Tryz.prog W r b0 29 v)(h:DataW.Trod enc Tryz.prog W 0 spare held 29 v d ps) :
  ∃v0 v1 v2 v3 D,v=zz v0 v1 v2 v3 D/\zl W 0 W.heap.size v0 v1 v2 v3 D/\zHN D:=by
 have hs:Tryz.prog.underlying 29=some(.struct(Tryz.prog.fieldsOf 29)):=by kernel_rfl
 obtain⟨cs,rfl,hsz⟩:=okWide_struct hs hv;obtain⟨c0,c1,c2,c3,c4,c5,rfl⟩:=zPy(hsz.trans(by kernel_rfl));obtain⟨bA,hf⟩:=h;have aA:DataW.trod enc Tryz.prog W 0 spare held bA 29 [c0,c1,c2,c3,c4,c5]=some(d,ps):=by simpa [Value.cells] using hf
 obtain⟨n0,y0,h0⟩:=qX(t:=29)(T:=25)(o:=0)(c:=2)(i:=0)(by kernel_rfl)(by kernel_rfl)(by kernel_rfl) aA;obtain⟨n1,y1,h1⟩:=qX(t:=29)(T:=2)(o:=2)(c:=1)(i:=1)(by kernel_rfl)(by kernel_rfl)(by kernel_rfl) aA;obtain⟨n2,y2,h2⟩:=qX(t:=29)(T:=2)(o:=3)(c:=1)(i:=2)(by kernel_rfl)(by kernel_rfl)(by kernel_rfl) aA;obtain⟨n3,y3,h3⟩:=qX(t:=29)(T:=26)(o:=4)(c:=1)(i:=3)(by kernel_rfl)(by kernel_rfl)(by kernel_rfl) aA;obtain⟨n4,y4,h4⟩:=qX(t:=29)(T:=27)(o:=5)(c:=1)(i:=4)(by kernel_rfl)(by kernel_rfl)(by kernel_rfl) aA;obtain⟨p,hp⟩:=zG8(c0:=c0)(c1:=c1)(by simpa using h0);obtain⟨z1,e1,-,w1⟩:=DataW.trod_int(show Tryz.prog.underlying 2=some(.int .i64)by kernel_rfl) h1;obtain⟨z2,e2,-,w2⟩:=DataW.trod_int(show Tryz.prog.underlying 2=some(.int .i64)by kernel_rfl) h2;obtain⟨sn,f,hS,hSw⟩:=zKg(v:=c4)(by simpa using h3);obtain⟨pn,g,hP,hPw⟩:=zIn(v:=c5)(by simpa using h4);obtain rfl:c2 = .int .i64 z1:=by simpa using e1
 obtain rfl:c3 = .int .i64 z2:=by simpa using e2
 exact⟨c0,c1,c4,c5,⟨p,z1,z2,sn,f,pn,g⟩,rfl,⟨hp,hS,hP⟩,⟨w1,w2,hSw,hPw⟩⟩
end
open Go.Maps
theorem zNe(f:Nat->qC):∀{n i:Nat},i<n->zEo(f i)<=zBM f n
 |n+1,i,h=>by
  show zEo(f i)<=zBM f n+zEo(f n);by_cases e:i=n
  ·subst e;omega
  ·have:=zNe f(show i<n by omega);omega
theorem zMK(v:Value)(n lo hi:Nat)(f:Nat->qC)(w:World)(h1:yZ w lo hi v n f)(hn:n+zBM f n<=1048576) :
  Calls Tryz.prog 31 #[v] w fun e w'=>(∃v' kb kv,e = .returned v'/\yN w' w.heap.size kb kv v' n f/\zBJ kb n f/\∀j,j<n->0<(f j).dn->w.heap.size<kb j/\kb j<w'.heap.size)/\Below w.heap.size w w'/\w.heap.size<w'.heap.size:=by
 have H1:=zB h1;obtain⟨m1,a,c,rfl,mc,-⟩:=id h1;have gA:=m1;unfold maxLen at m1;clear h1;have Hn:=zB hn;have iA:=zBC 34 67(.agg #[.string ⟨#[]⟩,.int .i64 0,.int .i64 0,.int .i64 0,.int .i64 0,.slice none 0 0]) 6 72(by kernel_rfl) zHo rfl n(by omega)(by omega);clear hn;go_enter Tryz.func31,Tryz.ntmps31;go_wp2
 go_loopw [4](fun i wr=>∃(k:Nat)(kb:Nat->Nat)(kv:Nat->Value),k<=n/\i = .int .i64 k/\zDp wr w.heap.size n k f kb kv/\Below w.heap.size w wr/\w.heap.size<wr.heap.size)(fun i _=>n - (intOf i).toNat)
 case atStart=>exact⟨0,fun _=>0,fun _=>.slice none 0 0,Nat.zero_le _,rfl,⟨fun j hj=>by rw [if_neg(by omega)];exact zMa hj rfl,fun i j hi=>absurd hi(by omega),fun j hj=>absurd hj(by omega)⟩,zC _ _,by simp⟩
 case round=>
  obtain⟨k,kb,kv,hk,rfl,hpart,hb,hsz⟩:=hrel;have aA:=zB hpart;clear hpart;by_cases bA:k<n
  ·have fA:(k:Int)<(n:Int):=(by omega);obtain⟨b,off,vd,rfl,hs2⟩:=(H1.out.zRJ hb).cells bA;obtain⟨-,ad,cd,rfl,-,-⟩:=id hs2.zRX;have q0:=hs2.c0;have q1:=hs2.c1;have q2:=hs2.c2;have q3:=hs2.c3;have q4:=hs2.c4;have q5:=hs2.c5;have Hs:=zB hs2;clear hs2;go_wp2_with fail;refine(zOF _ lo hi(f k) _ Hs.out.zRX(by have h1:=Hn.out;have h2:=zNe f bA;unfold zEo at h2;omega)).mono ?_;rintro e w1 ⟨⟨nv,nb,rfl,hp,hnb1,hnb2⟩,hb1⟩;have dA:=zA hb hb1;have hz:=(aA.out.rows k bA).zRJ hb1;obtain⟨e0,g0⟩:=hz.c0;obtain⟨e1,g1⟩:=hz.c1;obtain⟨e2,g2⟩:=hz.c2;obtain⟨e3,g3⟩:=hz.c3;obtain⟨e4,g4⟩:=hz.c4;obtain⟨e5,g5⟩:=hz.c5;clear q0 q1 q2 q3 q4 q5 hz;rw [Nat.zero_add] at e0 g0 e1 g1 e2 g2 e3 g3 e4 g4 e5 g5;have Hp:=zB hp;obtain⟨-,na,nc,rfl,-,-⟩:=id hp;clear hp;have cA:w.heap.size<w1.heap.size:=(by have:=hb1.size;omega);have eA:=zB hb1;clear hb1;unfold zDH;go_wp2;go_roundw
   case rel=>
    refine⟨k+1,(fun j=>if j=k then nb else kb j),(fun j=>if j=k then .slice na(f k).dn nc else kv j),by omega,by go_num,?_,?_,by simpa using cA⟩
    ·have hx:=aA.out.next bA hsz eA.out Hp.out hnb1 hnb2 Hs.out.zRZ;rw [Nat.zero_add] at hx;exact hx
    ·exact(((((dA.setCell(Nat.le_refl _) _).setCell(Nat.le_refl _) _).setCell(Nat.le_refl _) _).setCell(Nat.le_refl _) _).setCell(Nat.le_refl _) _).setCell(Nat.le_refl _) _
   case measure=>simp [intOf];omega
  ·obtain rfl:k=n:=(by omega);go_wp2;go_ret;refine⟨⟨_,kb,kv,rfl,⟨gA,_,k,rfl,Nat.le_refl _,fun _=>⟨0,rfl,fun i hi=>?_⟩⟩,aA.out.zRW,aA.out.zRY⟩,hb,hsz⟩;have:=aA.out.rows i hi;rw [if_pos hi] at this;exact this
theorem zLs(f:Nat->zm):∀{n i:Nat},i<n->zDs(f i)<=zAx f n
 |n+1,i,h=>by
  show zDs(f i)<=zAx f n+zDs(f n);by_cases e:i=n
  ·subst e;omega
  ·have:=zLs f(show i<n by omega);omega
theorem zLb(v:Value)(n lo hi:Nat)(f:Nat->zm)(w:World)(h1:qz w lo hi v n f)(hn:n+zAx f n<=1048576) :
  Calls Tryz.prog 32 #[v] w fun e w'=>(∃v' kb kv,e = .returned v'/\yU w' w.heap.size kb kv v' n f/\zA6 kb n f/\∀j,j<n->0<(f j).dn->w.heap.size<kb j/\kb j<w'.heap.size)/\Below w.heap.size w w'/\w.heap.size<w'.heap.size:=by
 have H1:=zB h1;obtain⟨m1,a,c,rfl,mc,-⟩:=id h1;have gA:=m1;unfold maxLen at m1;clear h1;have Hn:=zB hn;have iA:=zBC 35 99(.agg #[.int .i64 0,.string ⟨#[]⟩,.string ⟨#[]⟩,.int .i64 0,.int .i64 0,.int .i64 0,.int .i64 0,.slice none 0 0]) 8 96(by kernel_rfl) zGh rfl n(by omega)(by omega);clear hn;go_enter Tryz.func32,Tryz.ntmps32;go_wp2
 go_loopw [4](fun i wr=>∃(k:Nat)(kb:Nat->Nat)(kv:Nat->Value),k<=n/\i = .int .i64 k/\zCg wr w.heap.size n k f kb kv/\Below w.heap.size w wr/\w.heap.size<wr.heap.size)(fun i _=>n - (intOf i).toNat)
 case atStart=>exact⟨0,fun _=>0,fun _=>.slice none 0 0,Nat.zero_le _,rfl,⟨fun j hj=>by rw [if_neg(by omega)];exact zLf hj rfl,fun i j hi=>absurd hi(by omega),fun j hj=>absurd hj(by omega)⟩,zC _ _,by simp⟩
 case round=>
  obtain⟨k,kb,kv,hk,rfl,hpart,hb,hsz⟩:=hrel;have aA:=zB hpart;clear hpart;by_cases bA:k<n
  ·have fA:(k:Int)<(n:Int):=(by omega);obtain⟨b,off,vd,rfl,hs2⟩:=(H1.out.zRJ hb).cells bA;obtain⟨-,ad,cd,rfl,-,-⟩:=id hs2.zRX;have q0:=hs2.c0;have q1:=hs2.c1;have q2:=hs2.c2;have q3:=hs2.c3;have q4:=hs2.c4;have q5:=hs2.c5;have q6:=hs2.c6;have q7:=hs2.c7;have Hs:=zB hs2;clear hs2;go_wp2_with fail;refine(zMk _ lo hi(f k) _ Hs.out.zRX(by have h1:=Hn.out;have h2:=zLs f bA;unfold zDs at h2;omega)).mono ?_;rintro e w1 ⟨⟨nv,nb,rfl,hp,hnb1,hnb2⟩,hb1⟩;have dA:=zA hb hb1;have hz:=(aA.out.rows k bA).zRJ hb1;obtain⟨e0,g0⟩:=hz.c0;obtain⟨e1,g1⟩:=hz.c1;obtain⟨e2,g2⟩:=hz.c2;obtain⟨e3,g3⟩:=hz.c3;obtain⟨e4,g4⟩:=hz.c4;obtain⟨e5,g5⟩:=hz.c5;obtain⟨e6,g6⟩:=hz.c6;obtain⟨e7,g7⟩:=hz.c7;clear q0 q1 q2 q3 q4 q5 q6 q7 hz;rw [Nat.zero_add] at e0 g0 e1 g1 e2 g2 e3 g3 e4 g4 e5 g5 e6 g6 e7 g7;have Hp:=zB hp;obtain⟨-,na,nc,rfl,-,-⟩:=id hp;clear hp;have cA:w.heap.size<w1.heap.size:=(by have:=hb1.size;omega);have eA:=zB hb1;clear hb1;unfold yg;go_wp2;go_roundw
   case rel=>
    refine⟨k+1,(fun j=>if j=k then nb else kb j),(fun j=>if j=k then .slice na(f k).dn nc else kv j),by omega,by go_num,?_,?_,by simpa using cA⟩
    ·have hx:=aA.out.next bA hsz eA.out Hp.out hnb1 hnb2 Hs.out.zRZ;rw [Nat.zero_add] at hx;exact hx
    ·exact(((((((dA.setCell(Nat.le_refl _) _).setCell(Nat.le_refl _) _).setCell(Nat.le_refl _) _).setCell(Nat.le_refl _) _).setCell(Nat.le_refl _) _).setCell(Nat.le_refl _) _).setCell(Nat.le_refl _) _).setCell(Nat.le_refl _) _
   case measure=>simp [intOf];omega
  ·obtain rfl:k=n:=(by omega);go_wp2;go_ret;refine⟨⟨_,kb,kv,rfl,⟨gA,_,k,rfl,Nat.le_refl _,fun _=>⟨0,rfl,fun i hi=>?_⟩⟩,aA.out.zRW,aA.out.zRY⟩,hb,hsz⟩;have:=aA.out.rows i hi;rw [if_pos hi] at this;exact this
theorem zi.put4{w:World}{b:Nat}{v0 v1 v2 v3 v4 v5:Value}(h:zi w b v0 v1 v2 v3 v4 v5)(u0 u1 u2 u3:Value):zi((((w.setCell ⟨b,0,none⟩ u0).setCell ⟨b,1,none⟩ u1).setCell ⟨b,2,none⟩ u2).setCell ⟨b,3,none⟩ u3) b u0 u1 u2 u3 v4 v5:=by
 obtain⟨h0,h1,h2,h3,h4,h5⟩:=h;refine⟨?_,?_,?_,?_,?_,?_⟩
 ·exact(((h0.set _).zRK _(Or.inr(by omega))).zRK _(Or.inr(by omega))).zRK _(Or.inr(by omega))
 ·exact(((h1.zRK _(Or.inr(by omega))).set _).zRK _(Or.inr(by omega))).zRK _(Or.inr(by omega))
 ·exact(((h2.zRK _(Or.inr(by omega))).zRK _(Or.inr(by omega))).set _).zRK _(Or.inr(by omega))
 ·exact(((h3.zRK _(Or.inr(by omega))).zRK _(Or.inr(by omega))).zRK _(Or.inr(by omega))).set _
 ·exact(((h4.zRK _(Or.inr(by omega))).zRK _(Or.inr(by omega))).zRK _(Or.inr(by omega))).zRK _(Or.inr(by omega))
 ·exact(((h5.zRK _(Or.inr(by omega))).zRK _(Or.inr(by omega))).zRK _(Or.inr(by omega))).zRK _(Or.inr(by omega))
theorem zF.put4w(w:World)(b:Nat)(u0 u1 u2 u3:Value):zF(fun k=>k=b) w((((w.setCell ⟨b,0,none⟩ u0).setCell ⟨b,1,none⟩ u1).setCell ⟨b,2,none⟩ u2).setCell ⟨b,3,none⟩ u3):=
 (((zF.put w b 0 u0).trans(zF.put _ b 1 u1)).trans(zF.put _ b 2 u2)).trans(zF.put _ b 3 u3)
theorem zC1(v0 v1 v2 v3:Value)(lo hi:Nat)(W:zH)(w:World)(h:zl w lo hi v0 v1 v2 v3 W)(hn:yd W<=1048576):Calls Tryz.prog 9 #[zz v0 v1 v2 v3 W] w(zPG W w):=by
 obtain⟨a0,c0,a1,c1,a2,c2,a3,c3,rfl,rfl,rfl,rfl⟩:=h.form;have H:=zB h;clear h;unfold yd at hn;have dB:∀Wa Wb Wc:World,Wa=w.alloc(.cells #[.slice a0 W.zRQ.n c0,.slice a1 W.zRQ.hn c1,.int .i64 W.time,.int .i64 W.next,.slice a2 W.sn c2,.slice a3 W.pn c3] 29)->Wb=Wa.alloc(.cells #[.slice none 0 0,.slice none 0 0,.int .i64 0,.int .i64 0,.slice none 0 0,.slice none 0 0] 37)->Wc=Wb.alloc(.cells #[.slice none 0 0,.slice none 0 0,.int .i64 0,.int .i64 0,.slice none 0 0,.slice none 0 0] 37)->zi Wc w.heap.size(.slice a0 W.zRQ.n c0)(.slice a1 W.zRQ.hn c1)(.int .i64 W.time)(.int .i64 W.next)(.slice a2 W.sn c2)(.slice a3 W.pn c3)/\zi Wc(w.heap.size+1)(.slice none 0 0)(.slice none 0 0)(.int .i64 0)(.int .i64 0)(.slice none 0 0)(.slice none 0 0)/\zi Wc(w.heap.size+1+1)(.slice none 0 0)(.slice none 0 0)(.int .i64 0)(.int .i64 0)(.slice none 0 0)(.slice none 0 0)/\Below w.heap.size w Wc/\Wc.heap.size=w.heap.size+3:=by
  rintro Wa Wb Wc ea eb ec;have ha:=zC w(.cells #[.slice a0 W.zRQ.n c0,.slice a1 W.zRQ.hn c1,.int .i64 W.time,.int .i64 W.next,.slice a2 W.sn c2,.slice a3 W.pn c3] 29);have h1:=zi.zRL w(.slice a0 W.zRQ.n c0)(.slice a1 W.zRQ.hn c1)(.int .i64 W.time)(.int .i64 W.next)(.slice a2 W.sn c2)(.slice a3 W.pn c3) 29;have z1:Wa.heap.size=w.heap.size+1:=(by rw [ea];exact World.size_alloc _ _);rw [<-ea] at ha h1;have hb:=zC Wa(.cells #[.slice none 0 0,.slice none 0 0,.int .i64 0,.int .i64 0,.slice none 0 0,.slice none 0 0] 37);have h2:=zi.zRL Wa(.slice none 0 0)(.slice none 0 0)(.int .i64 0)(.int .i64 0)(.slice none 0 0)(.slice none 0 0) 37;have z2:Wb.heap.size=w.heap.size+1+1:=(by rw [eb,World.size_alloc,z1]);rw [<-eb,z1] at h2;rw [<-eb] at hb;have hc:=zC Wb(.cells #[.slice none 0 0,.slice none 0 0,.int .i64 0,.int .i64 0,.slice none 0 0,.slice none 0 0] 37);have h3:=zi.zRL Wb(.slice none 0 0)(.slice none 0 0)(.int .i64 0)(.int .i64 0)(.slice none 0 0)(.slice none 0 0) 37;have z3:Wc.heap.size=w.heap.size+3:=(by rw [ec,World.size_alloc,z2]);rw [<-ec,z2] at h3;rw [<-ec] at hc;exact⟨(h1.zRJ hb).zRJ hc,h2.zRJ hc,h3,zA(zA ha hb) hc,z3⟩
 obtain⟨hx,hy,hz,hbw,hsz⟩:=dB _ _ _ rfl rfl rfl;have HX:=zB hx;have HY:=zB hy;have HZ:=zB hz;have HS:=zB hsz;clear hx hy hz dB hsz;go_enter Tryz.func9,Tryz.ntmps9;go_wp2_with fail;generalize((w.alloc(.cells #[.slice a0 W.zRQ.n c0,.slice a1 W.zRQ.hn c1,.int .i64 W.time,.int .i64 W.next,.slice a2 W.sn c2,.slice a3 W.pn c3] 29)).alloc(.cells #[.slice none 0 0,.slice none 0 0,.int .i64 0,.int .i64 0,.slice none 0 0,.slice none 0 0] 37)).alloc(.cells #[.slice none 0 0,.slice none 0 0,.int .i64 0,.int .i64 0,.slice none 0 0,.slice none 0 0] 37)=W0 at HX HY HZ HS hbw ⊢;refine(zMM _ _ lo hi W.zRQ W0(H.out.zRQ.zRJ hbw)(by omega)).mono ?_;rintro e w1 ⟨u0,u1,rfl,hP,hb1⟩;obtain⟨p0,q0,p1,q1,rfl,rfl⟩:=hP.form;have gB:=hb1.size;have fA:=HS.out;have T1:=zF.put4w w1(w.heap.size+1+1)(.slice p0 W.zRQ.n q0)(.slice p1 W.zRQ.hn q1)(.int .i64 W.time)(.int .i64 W.next);have oA:=zB(hP.zRR T1(fun k e=>Or.inl(by show k<W0.heap.size;omega)));have aA:=zB((HX.out.zRJ hb1).zRR T1(fun e=>absurd e(by omega)));have tA:=zB((HY.out.zRJ hb1).zRR T1(fun e=>absurd e(by omega)));have bA:=zB((HZ.out.zRJ hb1).put4(.slice p0 W.zRQ.n q0)(.slice p1 W.zRQ.hn q1)(.int .i64 W.time)(.int .i64 W.next));have dA:Below w.heap.size w((((w1.setCell ⟨w.heap.size+1+1,0,none⟩(.slice p0 W.zRQ.n q0)).setCell ⟨w.heap.size+1+1,1,none⟩(.slice p1 W.zRQ.hn q1)).setCell ⟨w.heap.size+1+1,2,none⟩(.int .i64 W.time)).setCell ⟨w.heap.size+1+1,3,none⟩(.int .i64 W.next)):=(((((zA hbw hb1)).setCell(by show _<=w.heap.size+1+1;omega) _).setCell(by show _<=w.heap.size+1+1;omega) _).setCell(by show _<=w.heap.size+1+1;omega) _).setCell(by show _<=w.heap.size+1+1;omega) _;have mA:=zB(show((((w1.setCell ⟨w.heap.size+1+1,0,none⟩(.slice p0 W.zRQ.n q0)).setCell ⟨w.heap.size+1+1,1,none⟩(.slice p1 W.zRQ.hn q1)).setCell ⟨w.heap.size+1+1,2,none⟩(.int .i64 W.time)).setCell ⟨w.heap.size+1+1,3,none⟩(.int .i64 W.next)).heap.size=w1.heap.size by simp only [World.size_setCell]);have aB:=zB(show w.heap.size+3<=W0.heap.size/\W0.heap.size<=w1.heap.size by omega);obtain⟨⟨x0,x0'⟩,⟨x1,x1'⟩,⟨x2,x2'⟩,⟨x3,x3'⟩,⟨x4,x4'⟩,⟨x5,x5'⟩⟩:=HX.out.zRJ hb1;obtain⟨⟨z0,z0'⟩,⟨z1,z1'⟩,⟨z2,z2'⟩,⟨z3,z3'⟩,⟨z4,z4'⟩,⟨z5,z5'⟩⟩:=HZ.out.zRJ hb1;clear hb1 hbw HX HY HZ HS fA gB hP T1;go_wp2_with fail;clear x0 x1 x2 x3 x4 x5 z0 z1 z2 z3 z4 z5 x0' x1' x2' x3' x4' x5' z0' z1' z2' z3' z4' z5';generalize(((w1.setCell ⟨w.heap.size+1+1,0,none⟩(.slice p0 W.zRQ.n q0)).setCell ⟨w.heap.size+1+1,1,none⟩(.slice p1 W.zRQ.hn q1)).setCell ⟨w.heap.size+1+1,2,none⟩(.int .i64 W.time)).setCell ⟨w.heap.size+1+1,3,none⟩(.int .i64 W.next)=W1 at oA aA tA bA mA dA ⊢;refine(zMK _ W.sn lo hi W.zRS W1(H.out.zRS.zRJ dA)(by omega)).mono ?_;rintro e w2 ⟨⟨v',kb,kv,rfl,ho,hap,hpl⟩,hb2,gA⟩;obtain⟨-,av,cv,rfl,-,-⟩:=id ho;have hQ:zBX w2(fun k=>W1.heap.size<=k/\k<w2.heap.size)(.slice av W.sn cv) W.sn W.zRS:=⟨W1.heap.size,kb,kv,ho,hap,fun k hk=>by
  rcases hk with⟨_,rfl⟩ | ⟨i,hi,h0,rfl⟩
  ·exact⟨Nat.le_refl _,gA⟩
  ·have:=hpl i hi h0;omega⟩
 have vA:=mA.out;have fA:=aB.out;have T2:=zF.put w2(w.heap.size+1+1) 4(.slice av W.sn cv);have kA:=zB(hQ.zRR T2(fun k hk e=>by omega));have pA:=zB((oA.out.zRJ hb2).zRR T2(fun k e=>Or.inl(by show k<W0.heap.size;omega)));have nA:=zB((aA.out.zRJ hb2).zRR T2(fun e=>absurd e(by omega)));have jA:=zB((tA.out.zRJ hb2).zRR T2(fun e=>absurd e(by omega)));have iA:=zB(show zi(w2.setCell ⟨w.heap.size+1+1,4,none⟩(.slice av W.sn cv))(w.heap.size+1+1)(.slice p0 W.zRQ.n q0)(.slice p1 W.zRQ.hn q1)(.int .i64 W.time)(.int .i64 W.next)(.slice av W.sn cv)(.slice none 0 0)from(by
  obtain⟨h0,h1,h2,h3,h4,h5⟩:=bA.out.zRJ hb2;exact⟨h0.zRK _(Or.inr(by omega)),h1.zRK _(Or.inr(by omega)),h2.zRK _(Or.inr(by omega)),h3.zRK _(Or.inr(by omega)),h4.set _,h5.zRK _(Or.inr(by omega))⟩))
 have cA:Below w.heap.size w(w2.setCell ⟨w.heap.size+1+1,4,none⟩(.slice av W.sn cv)):=(zA dA hb2).setCell(by show _<=w.heap.size+1+1;omega) _;have cB:=zB(show(w2.setCell ⟨w.heap.size+1+1,4,none⟩(.slice av W.sn cv)).heap.size=w2.heap.size by simp only [World.size_setCell]);have sA:=zB gA;obtain⟨⟨x0,x0'⟩,⟨x1,x1'⟩,⟨x2,x2'⟩,⟨x3,x3'⟩,⟨x4,x4'⟩,⟨x5,x5'⟩⟩:=aA.out.zRJ hb2;obtain⟨⟨z0,z0'⟩,⟨z1,z1'⟩,⟨z2,z2'⟩,⟨z3,z3'⟩,⟨z4,z4'⟩,⟨z5,z5'⟩⟩:=bA.out.zRJ hb2;clear hb2 dA aA tA bA oA ho hap hpl hQ vA fA T2 gA;go_wp2_with fail;clear x0 x1 x2 x3 x4 x5 z0 z1 z2 z3 z4 z5 x0' x1' x2' x3' x4' x5' z0' z1' z2' z3' z4' z5';generalize w2.setCell ⟨w.heap.size+1+1,4,none⟩(.slice av W.sn cv)=W2 at kA pA nA jA iA cB cA ⊢;refine(zLb _ W.pn lo hi W.zRP W2(H.out.zRP.zRJ cA)(by omega)).mono ?_;rintro e w3 ⟨⟨v',kp,kw,rfl,ho,hap,hpl⟩,hb3,eA⟩;obtain⟨-,ap,cp,rfl,-,-⟩:=id ho;have fB:=zB(show zAp w3(fun k=>W2.heap.size<=k/\k<w3.heap.size)(.slice ap W.pn cp) W.pn W.zRP from⟨W2.heap.size,kp,kw,ho,hap,fun k hk=>by
  rcases hk with⟨_,rfl⟩ | ⟨i,hi,h0,rfl⟩
  ·exact⟨Nat.le_refl _,eA⟩
  ·have:=hpl i hi h0;omega⟩)
 have lB:=zB(pA.out.zRJ hb3);have kB:=zB(kA.out.zRJ hb3);have eB:=zB(nA.out.zRJ hb3);have bB:=zB(jA.out.zRJ hb3);have jB:=zB(iA.out.zRJ hb3);have iB:=zA cA hb3;have rA:=zB eA;clear hb3 cA nA jA iA pA kA ho hap hpl eA;obtain⟨⟨x0,x0'⟩,⟨x1,x1'⟩,⟨x2,x2'⟩,⟨x3,x3'⟩,⟨x4,x4'⟩,⟨x5,x5'⟩⟩:=eB.out;obtain⟨⟨y0,y0'⟩,⟨y1,y1'⟩,⟨y2,y2'⟩,⟨y3,y3'⟩,⟨y4,y4'⟩,⟨y5,y5'⟩⟩:=bB.out;obtain⟨⟨z0,z0'⟩,⟨z1,z1'⟩,⟨z2,z2'⟩,⟨z3,z3'⟩,⟨z4,z4'⟩,⟨z5,z5'⟩⟩:=jB.out;go_wp2;have T3:=zF.put w3(w.heap.size+1+1) 5(.slice ap W.pn cp);have T4:=zF.put6(w3.setCell ⟨w.heap.size+1+1,5,none⟩(.slice ap W.pn cp))(w.heap.size+1)(.slice p0 W.zRQ.n q0)(.slice p1 W.zRQ.hn q1)(.int .i64 W.time)(.int .i64 W.next)(.slice av W.sn cv)(.slice ap W.pn cp);have HR:=(bB.out.zRR T3(fun e=>absurd e(by omega))).put(.slice p0 W.zRQ.n q0)(.slice p1 W.zRQ.hn q1)(.int .i64 W.time)(.int .i64 W.next)(.slice av W.sn cv)(.slice ap W.pn cp);have vA:=mA.out;have mB:=cB.out;have fA:=aB.out;have gA:=sA.out;have eA:=rA.out;have TT:zF(fun k=>k=w.heap.size+1\/k=w.heap.size+1+1) w3(put6(w3.setCell ⟨w.heap.size+1+1,5,none⟩(.slice ap W.pn cp))(w.heap.size+1)(.slice p0 W.zRQ.n q0)(.slice p1 W.zRQ.hn q1)(.int .i64 W.time)(.int .i64 W.next)(.slice av W.sn cv)(.slice ap W.pn cp)):=(T3.mono(fun k e=>Or.inr e)).trans(T4.mono(fun k e=>Or.inl e));have lA:(put6(w3.setCell ⟨w.heap.size+1+1,5,none⟩(.slice ap W.pn cp))(w.heap.size+1)(.slice p0 W.zRQ.n q0)(.slice p1 W.zRQ.hn q1)(.int .i64 W.time)(.int .i64 W.next)(.slice av W.sn cv)(.slice ap W.pn cp)).heap.size=w3.heap.size:=by simp only [World.size_setCell]
 refine bodyPost_ret(v:=.agg #[.slice p0 W.zRQ.n q0,.slice p1 W.zRQ.hn q1,.int .i64 W.time,.int .i64 W.next,.slice av W.sn cv,.slice ap W.pn cp])(by simp [results,Tryz.results9,go_sem,HR.1.1,HR.2.1.1,HR.2.2.1.1,HR.2.2.2.1.1,HR.2.2.2.2.1.1,HR.2.2.2.2.2.1]) rfl ⟨_,_,_,_,rfl,?_,?_⟩
 ·refine⟨fun k=>W0.heap.size<=k/\k<w1.heap.size,fun k=>W1.heap.size<=k/\k<w2.heap.size,fun k=>W2.heap.size<=k/\k<w3.heap.size,⟨?_,?_,?_,?_,?_,?_⟩,?_⟩
  ·exact(lB.out.isIn(S:=fun k=>W0.heap.size<=k/\k<w1.heap.size)(fun k h1 h2=>⟨h1,h2⟩)).zRR TT(fun k hk e=>by omega)
  ·exact kB.out.zRR TT(fun k hk e=>by omega)
  ·exact fB.out.zRR TT(fun k hk e=>by omega)
  ·exact fun k hk e=>by omega
  ·exact fun k hk e=>by omega
  ·exact fun k hk e=>by omega
  ·intro k hk;show w.heap.size<=k/\k<(put6 _ _ _ _ _ _ _ _).heap.size;rw [lA];omega
 ·exact((iB.trans(TT.zRJ(B:=w.heap.size)(by omega)(fun k e=>by omega))))
end Go.Proofs.YtmgeglgboadfiaaGreatDoor
