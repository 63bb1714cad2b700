/- What laws.eqWorldOut, markWorldOut and heldWorldOut answer. -/
import Derived.Test.YtmgeglgboadfiaaGreatDoorT24
import Derived.Deep.Slices
import Derived.Deep.SlicePairs
import Derived.Deep.Strs
import Derived.Lib.SmallJoins
set_option linter.unusedVariables false
set_option maxRecDepth 20000
set_option maxHeartbeats 4000000
namespace Go.Proofs.YtmgeglgboadfiaaGreatDoor
open Go.RowKit
theorem zD4(v0 v1 v2 v3 x0 x1 x2 x3:Value)(lo hi lo' hi':Nat)(o:zB0)(w:World)(h1:zl w lo hi v0 v1 v2 v3 o.world)(h2:zl w lo' hi' x0 x1 x2 x3 o.world) :
  Calls Tryz.prog 11 #[zH8 v0 v1 v2 v3 o,zH8 x0 x1 x2 x3 o] w fun e w'=>e = .returned (.bool true)/\Below w.heap.size w w':=by
 obtain⟨a0,dA,a1,aA,a2,bA,a3,cA,rfl,rfl,rfl,rfl⟩:=h1.form;obtain⟨c0,kA,c1,jA,c2,iA,c3,gA,rfl,rfl,rfl,rfl⟩:=h2.form;have H1:=zd h1;have H2:=zd h2;clear h1 h2;have ha:=zC w (.cells #[.slice a0 o.world.zRQ.n dA,.slice a1 o.world.zRQ.hn aA,.int .i64 o.world.time,.int .i64 o.world.next,.slice a2 o.world.sn bA,.slice a3 o.world.pn cA,.int .i64 o.id,.int .i64 o.zRb,.int .i64 o.code] 39);have fA:=zC (w.alloc (.cells #[.slice a0 o.world.zRQ.n dA,.slice a1 o.world.zRQ.hn aA,.int .i64 o.world.time,.int .i64 o.world.next,.slice a2 o.world.sn bA,.slice a3 o.world.pn cA,.int .i64 o.id,.int .i64 o.zRb,.int .i64 o.code] 39)) (.cells #[.slice c0 o.world.zRQ.n kA,.slice c1 o.world.zRQ.hn jA,.int .i64 o.world.time,.int .i64 o.world.next,.slice c2 o.world.sn iA,.slice c3 o.world.pn gA,.int .i64 o.id,.int .i64 o.zRb,.int .i64 o.code] 39);have hb:=zA ha fA;have HA:=(yj.zRL w (.slice a0 o.world.zRQ.n dA) (.slice a1 o.world.zRQ.hn aA) (.int .i64 o.world.time) (.int .i64 o.world.next) (.slice a2 o.world.sn bA) (.slice a3 o.world.pn cA) (.int .i64 o.id) (.int .i64 o.zRb) (.int .i64 o.code) 39).zRJ fA;have HB:=yj.zRL (w.alloc (.cells #[.slice a0 o.world.zRQ.n dA,.slice a1 o.world.zRQ.hn aA,.int .i64 o.world.time,.int .i64 o.world.next,.slice a2 o.world.sn bA,.slice a3 o.world.pn cA,.int .i64 o.id,.int .i64 o.zRb,.int .i64 o.code] 39)) (.slice c0 o.world.zRQ.n kA) (.slice c1 o.world.zRQ.hn jA) (.int .i64 o.world.time) (.int .i64 o.world.next) (.slice c2 o.world.sn iA) (.slice c3 o.world.pn gA) (.int .i64 o.id) (.int .i64 o.zRb) (.int .i64 o.code) 39;rw[World.size_alloc]at HB;obtain⟨⟨p0,-⟩,⟨p1,-⟩,⟨p2,-⟩,⟨p3,-⟩,⟨p4,-⟩,⟨p5,-⟩,⟨p6,-⟩,⟨p7,-⟩,⟨p8,-⟩⟩:=id HA;obtain⟨⟨q0,-⟩,⟨q1,-⟩,⟨q2,-⟩,⟨q3,-⟩,⟨q4,-⟩,⟨q5,-⟩,⟨q6,-⟩,⟨q7,-⟩,⟨q8,-⟩⟩:=id HB;go_enter Tryz.func11,Tryz.ntmps11;go_wp2_with fail;clear p0 p1 p2 p3 p4 p5 p6 p7 p8 q0 q1 q2 q3 q4 q5 q6 q7 q8;generalize ((w.alloc (.cells #[.slice a0 o.world.zRQ.n dA,.slice a1 o.world.zRQ.hn aA,.int .i64 o.world.time,.int .i64 o.world.next,.slice a2 o.world.sn bA,.slice a3 o.world.pn cA,.int .i64 o.id,.int .i64 o.zRb,.int .i64 o.code] 39)).alloc (.cells #[.slice c0 o.world.zRQ.n kA,.slice c1 o.world.zRQ.hn jA,.int .i64 o.world.time,.int .i64 o.world.next,.slice c2 o.world.sn iA,.slice c3 o.world.pn gA,.int .i64 o.id,.int .i64 o.zRb,.int .i64 o.code] 39))=W2 at hb HA HB ⊢;clear ha fA;refine(zFY _ _ _ _ _ _ _ _ _ _ _ _ o.world W2 (H1.out.zRJ hb) (H2.out.zRJ hb)).mono ?_;rintro e w3 ⟨rfl,eA⟩;obtain⟨-,-,-,-,-,-,⟨p6,-⟩,⟨p7,-⟩,⟨p8,-⟩⟩:=HA.zRJ eA;obtain⟨-,-,-,-,-,-,⟨q6,-⟩,⟨q7,-⟩,⟨q8,-⟩⟩:=HB.zRJ eA;have nA:(o.id != o.id)=false:=by simp
 have mA:(o.zRb != o.zRb)=false:=by simp
 have lA:(o.code != o.code)=false:=by simp
 go_wp2;go_ret;exact⟨rfl,zA hb eA⟩
theorem zKK(lo hi:Nat)(v0 v1 v2 v3:Value)(o:zB0)(k0:Int)(w:World)(h:qN w lo hi v0 v1 v2 v3 o.world)(hh:hi<=w.heap.size)(eA:0<=k0)(fA:zAk o.world k0<=1000000000000) :
  Calls Tryz.prog 14 #[zH8 v0 v1 v2 v3 o,.int .i64 k0] w fun e w'=>e = .returned (.int .i64 (zAk o.world k0))/\qN w' lo hi v0 v1 v2 v3 (zNg o.world k0)/\zF (fun k=>lo<=k/\k<hi) w w':=by
 have H:=zd h;obtain⟨a0,dA,a1,aA,a2,bA,a3,cA,rfl,rfl,rfl,rfl⟩:=h.form;clear h;have ha:=zC w (.cells #[.slice a0 o.world.zRQ.n dA,.slice a1 o.world.zRQ.hn aA,.int .i64 o.world.time,.int .i64 o.world.next,.slice a2 o.world.sn bA,.slice a3 o.world.pn cA,.int .i64 o.id,.int .i64 o.zRb,.int .i64 o.code] 39);obtain⟨⟨p0,-⟩,⟨p1,-⟩,⟨p2,-⟩,⟨p3,-⟩,⟨p4,-⟩,⟨p5,-⟩,⟨p6,-⟩,⟨p7,-⟩,⟨p8,-⟩⟩:=yj.zRL w (.slice a0 o.world.zRQ.n dA) (.slice a1 o.world.zRQ.hn aA) (.int .i64 o.world.time) (.int .i64 o.world.next) (.slice a2 o.world.sn bA) (.slice a3 o.world.pn cA) (.int .i64 o.id) (.int .i64 o.zRb) (.int .i64 o.code) 39;have gA:¬zAk o.world k0<0:=by have h1:=zDq o.world k0;omega
 go_enter Tryz.func14,Tryz.ntmps14;go_wp2_with fail;clear p0 p1 p2 p3 p4 p5 p6 p7 p8;generalize (w.alloc (.cells #[.slice a0 o.world.zRQ.n dA,.slice a1 o.world.zRQ.hn aA,.int .i64 o.world.time,.int .i64 o.world.next,.slice a2 o.world.sn bA,.slice a3 o.world.pn cA,.int .i64 o.id,.int .i64 o.zRb,.int .i64 o.code] 39))=W2 at ha ⊢;refine(zE8 lo hi _ _ _ _ o.world k0 W2 (H.out.zRJ ha) eA fA).mono ?_;rintro e w3 ⟨rfl,ho,hT⟩;have Ho:=zd ho;clear ho;go_wp2;go_ret;exact⟨rfl,Ho.out,(zF.zRM ha).trans hT⟩
theorem zFk(lo hi:Nat)(v0 v1 v2 v3:Value)(o:zB0)(k0:Int)(w:World)(h:zl w lo hi v0 v1 v2 v3 (zNg o.world k0))(aA:0<=k0)(bA:zAk o.world k0<=1000000000000) :
  Calls Tryz.prog 15 #[zH8 v0 v1 v2 v3 o,.int .i64 k0] w fun e w'=>e = .returned (.int .i64 (zAk o.world k0))/\Below w.heap.size w w':=by
 have H:=zd h;clear h;have dA:¬zAk o.world k0<0:=by have h1:=zDq o.world k0;omega
 have ha:=zC w (.cells #[v0,v1,.int .i64 o.world.time,.int .i64 o.world.next,v2,v3,.int .i64 o.id,.int .i64 o.zRb,.int .i64 o.code] 39);obtain⟨⟨p0,-⟩,⟨p1,-⟩,⟨p2,-⟩,⟨p3,-⟩,⟨p4,-⟩,⟨p5,-⟩,⟨p6,-⟩,⟨p7,-⟩,⟨p8,-⟩⟩:=yj.zRL w (v0) (v1) (.int .i64 o.world.time) (.int .i64 o.world.next) (v2) (v3) (.int .i64 o.id) (.int .i64 o.zRb) (.int .i64 o.code) 39;go_enter Tryz.func15,Tryz.ntmps15;go_wp2_with fail;clear p0 p1 p2 p3 p4 p5 p6 p7 p8;generalize (w.alloc (.cells #[v0,v1,.int .i64 o.world.time,.int .i64 o.world.next,v2,v3,.int .i64 o.id,.int .i64 o.zRb,.int .i64 o.code] 39))=W2 at ha ⊢;refine(zIg lo hi _ _ _ _ o.world k0 W2 (H.out.zRJ ha) aA bA).mono ?_;rintro e w3 ⟨rfl,cA⟩;go_wp2;go_ret;exact⟨rfl,zA ha cA⟩
open Go.Deep Go.Joins
open Go.ChangeShapes Go.WideShapes Go.ChangeAt
set_option maxRecDepth 20000
section
variable {H : Type} {enc : TypeId × Value -> H} {W : World} {spare : Nat -> Bool} {held : Bool}
theorem zBY{w:World}{a:Addr}{v:Value}(h:w.cell? a=some v):∃b off,a=⟨b,off,none⟩:=by
 obtain⟨b,off,spot⟩:=a;have hs:spot=none:=by simpa using World.cell?_spot h
 subst hs;exact⟨b,off,rfl⟩
theorem zAZ{v:Value}{a:Option Addr}{n c:Nat}(h:[v] = [Value.slice a n c]):v = .slice a n c:=by simpa using h
theorem zKd{aA:Nat}{v:Value}{x:DataW H×List MemPlace}(h:DataW.trod enc Tryz.prog W 0 spare held aA 23 [v]=some x):∃n f,qY W 0 W.heap.size v n f:=by
 rcases open_slice1 (t:=23) (e:=2) (by kernel_rfl) (by kernel_rfl) h with⟨hv,_⟩ | ⟨a,len,cA,m,n,V,D,Pl,hv,_,hl,hm,dA,_,hx⟩
 ·exact⟨0,fun _=>0,Nat.zero_le _,none,0,zAZ hv,Nat.le_refl _,fun h=>absurd h (Nat.lt_irrefl _)⟩
 ·have eA:len<=m:=(by rw[dA];split<;>omega);have hV:∀i,i<len->∃z:Int,V i = .int .i64 z:=fun i hi=>by
   obtain⟨_,ht⟩:=hx i (by omega);obtain⟨z,hz,_⟩:=DataW.trod_int (show Tryz.prog.underlying 2=some (.int .i64)by kernel_rfl) ht;exact⟨z,by simpa using hz⟩
  refine⟨len,fun i=>intOf (V i),by unfold maxLen at *;omega,some a,cA,zAZ hv,hl,fun h0=>?_⟩;have bA:=(hx 0 (by omega)).1;rw[show a.add 0=a by simp[Addr.add]]at bA;obtain⟨b,off,rfl⟩:=zBY bA;refine⟨b,off,rfl,Nat.zero_le _,zD bA,fun i hi=>?_⟩;have hc:=(hx i (by omega)).1;rw[Addr.add_mid]at hc;obtain⟨z,hz⟩:=hV i hi;show _=some (Value.int .i64 (intOf (V i)));rw[hc,hz];rfl
theorem qX{t T o c i:Nat}{aA:Nat}{cs:List Value}{x:DataW H×List MemPlace}(hs:Tryz.prog.underlying t=some (.struct (Tryz.prog.fieldsOf t)))(hf:((Tryz.prog.fieldsOf t)[i]?).map (fun f=>(f.type,f.offset))=some (T,o))
  (hc:Tryz.prog.cellsOf T=c) (h:DataW.trod enc Tryz.prog W 0 spare held aA t cs=some x):∃n y,DataW.trod enc Tryz.prog W 0 spare held n T ((cs.drop o).take c)=some y:=by
 obtain⟨f,bA,cA⟩:=Option.map_eq_some_iff.1 hf;simp only[Prod.mk.injEq]at cA;obtain⟨rfl,rfl⟩:=cA;obtain⟨xs,n,_,_,_,eA,dA⟩:=DataW.trod_struct hs h;have hi:i<(Tryz.prog.fieldsOf t).size:=(Array.getElem?_eq_some_iff.1 bA).1;have:=dA i f bA;rw[hc,List.getElem?_eq_getElem (by omega)]at this;exact⟨n,_,this⟩
theorem zCY{aA:Nat}{c0 c1:Value}{x:DataW H×List MemPlace}(h:DataW.trod enc Tryz.prog W 0 spare held aA 113 [c0,c1]=some x):∃y z:Int,c0 = .int .i64 y/\c1 = .int .i64 z:=by
 obtain⟨n0,y0,h0⟩:=qX (t:=113) (T:=2) (o:=0) (c:=1) (i:=0) (by kernel_rfl) (by kernel_rfl) (by kernel_rfl) h;obtain⟨n1,y1,h1⟩:=qX (t:=113) (T:=2) (o:=1) (c:=1) (i:=1) (by kernel_rfl) (by kernel_rfl) (by kernel_rfl) h;obtain⟨y,hy,_⟩:=DataW.trod_int (show Tryz.prog.underlying 2=some (.int .i64)by kernel_rfl) h0;obtain⟨z,hz,_⟩:=DataW.trod_int (show Tryz.prog.underlying 2=some (.int .i64)by kernel_rfl) h1;exact⟨y,z,by simpa using hy,by simpa using hz⟩
theorem zDf{cA:Nat}{v:Value}{x:DataW H×List MemPlace}(h:DataW.trod enc Tryz.prog W 0 spare held cA 114 [v]=some x):∃n f g,zU W 0 W.heap.size v n f g:=by
 rcases open_slice (t:=114) (e:=113) (by kernel_rfl) h with⟨hv,_⟩ | ⟨a,len,fA,m,n,D,Pl,hv,_,hl,hm,iA,_,hx⟩
 ·exact⟨0,fun _=>0,fun _=>0,Nat.zero_le _,none,0,zAZ hv,Nat.le_refl _,fun h=>absurd h (Nat.lt_irrefl _)⟩
 ·have jA:len<=m:=(by rw[iA];split<;>omega);have eA:Tryz.prog.cellsOf 113=2:=(by kernel_rfl);rw[eA]at hx;have hV:∀i,i<len->∃y z:Int,W.cell? (a.add (i*2))=some (.int .i64 y)/\W.cell? ((a.add (i*2)).add 1)=some (.int .i64 z):=fun i hi=>by
   obtain⟨cs,gA,ht⟩:=hx i (by omega);obtain⟨_,bA,aA⟩:=World.cells?_some gA
   match cs,bA with
   | [c0,c1],_=>
    obtain⟨y,z,rfl,rfl⟩:=zCY ht;have q0:=aA 0 (by omega);have q1:=aA 1 (by omega);rw[show(a.add (i*2)).add 0=a.add (i*2)by simp[Addr.add]]at q0;exact⟨y,z,by simpa using q0,by simpa using q1⟩
  refine⟨len,fun i=>intOf ((W.cell? (a.add (i*2))).getD undef),fun i=>intOf ((W.cell? ((a.add (i*2)).add 1)).getD undef),by unfold maxLen at *;omega,some a,fA,zAZ hv,hl,fun h0=>?_⟩;obtain⟨y,z,dA,_⟩:=hV 0 h0;rw[show a.add (0*2)=a by simp[Addr.add]]at dA;obtain⟨b,off,rfl⟩:=zBY dA;refine⟨b,off,rfl,Nat.zero_le _,zD dA,fun i hi=>?_⟩;obtain⟨y,z,q0,q1⟩:=hV i hi;show _=some (Value.int .i64 (intOf ((W.cell? _).getD undef)))/\_=some (Value.int .i64 (intOf ((W.cell? _).getD undef)));rw[q0,q1];rw[Addr.add_mid,Addr.add_mid]at q1;rw[Addr.add_mid]at q0;exact⟨q0,q1⟩
theorem zG8{aA:Nat}{c0 c1 c2:Value}{x:DataW H×List MemPlace}(h:DataW.trod enc Tryz.prog W 0 spare held aA 183 [c0,c1,c2]=some x):∃s,qI W 0 W.heap.size c0 c1 c2 s:=by
 obtain⟨n0,y0,h0⟩:=qX (t:=183) (T:=2) (o:=0) (c:=1) (i:=0) (by kernel_rfl) (by kernel_rfl) (by kernel_rfl) h;obtain⟨n1,y1,h1⟩:=qX (t:=183) (T:=114) (o:=1) (c:=1) (i:=1) (by kernel_rfl) (by kernel_rfl) (by kernel_rfl) h;obtain⟨n2,y2,h2⟩:=qX (t:=183) (T:=9) (o:=2) (c:=1) (i:=2) (by kernel_rfl) (by kernel_rfl) (by kernel_rfl) h;obtain⟨y,hy,_⟩:=DataW.trod_int (show Tryz.prog.underlying 2=some (.int .i64)by kernel_rfl) h0;obtain⟨n,f,g,hp⟩:=zDf (v:=c1) (by simpa using h1);obtain⟨d,hd,_,bA⟩:=DataW.trod_string (show Tryz.prog.underlying 9=some .string by kernel_rfl) h2;exact⟨⟨y,n,f,g,d⟩,by simpa using hy,hp,by simpa using hd,bA⟩
theorem zIi{cA:Nat}{v:Value}{x:DataW H×List MemPlace}(h:DataW.trod enc Tryz.prog W 0 spare held cA 22 [v]=some x):∃n f,qA W 0 W.heap.size v n f:=by
 rcases open_slice (t:=22) (e:=183) (by kernel_rfl) h with⟨hv,_⟩ | ⟨a,len,eA,m,n,D,Pl,hv,_,hl,hm,jA,_,hx⟩
 ·exact⟨0,fun _=>⟨0,0,fun _=>0,fun _=>0,ByteArray.empty⟩,Nat.zero_le _,none,0,zAZ hv,Nat.le_refl _,fun h=>absurd h (Nat.lt_irrefl _)⟩
 ·have kA:len<=m:=(by rw[jA];split<;>omega);have iA:Tryz.prog.cellsOf 183=3:=(by kernel_rfl);rw[iA]at hx;have hV:∀i,i<len->∃s:zL,∃c0 c1 c2,W.cell? (a.add (i*3))=some c0/\W.cell? ((a.add (i*3)).add 1)=some c1/\W.cell? ((a.add (i*3)).add 2)=some c2/\qI W 0 W.heap.size c0 c1 c2 s:=fun i hi=>by
   obtain⟨cs,gA,ht⟩:=hx i (by omega);obtain⟨_,bA,aA⟩:=World.cells?_some gA
   match cs,bA with
   | [c0,c1,c2],_=>
    obtain⟨s,hs⟩:=zG8 ht;have q0:=aA 0 (by omega);have q1:=aA 1 (by omega);have q2:=aA 2 (by omega);rw[show(a.add (i*3)).add 0=a.add (i*3)by simp[Addr.add]]at q0;exact⟨s,c0,c1,c2,by simpa using q0,by simpa using q1,by simpa using q2,hs⟩
  have fA:Inhabited zL:=⟨⟨0,0,fun _=>0,fun _=>0,ByteArray.empty⟩⟩;obtain⟨f,hf⟩:=choose_lt (α:=zL) (p:=fun i s=>∃c0 c1 c2,W.cell? (a.add (i*3))=some c0/\W.cell? ((a.add (i*3)).add 1)=some c1/\W.cell? ((a.add (i*3)).add 2)=some c2/\qI W 0 W.heap.size c0 c1 c2 s) hV;refine⟨len,f,by unfold maxLen at *;omega,some a,eA,zAZ hv,hl,fun h0=>?_⟩;obtain⟨c0,c1,c2,dA,_⟩:=hf 0 h0;rw[show a.add (0*3)=a by simp[Addr.add]]at dA;obtain⟨b,off,rfl⟩:=zBY dA;refine⟨b,off,rfl,Nat.zero_le _,zD dA,fun i hi=>?_⟩;obtain⟨c0,c1,c2,q0,q1,q2,hs⟩:=hf i hi;rw[Addr.add_mid,Addr.add_mid]at q1 q2;rw[Addr.add_mid]at q0;exact⟨c0,c1,c2,q0,q1,q2,hs⟩
end
set_option maxRecDepth 20000
section
variable {H : Type} {enc : TypeId × Value -> H} {W : World} {spare : Nat -> Bool} {held : Bool}
def zLN(s:qC):Prop:=(Lit.int .i64 s.origin).wf=true/\(Lit.int .i64 s.zRT).wf=true
theorem zH4{aA:Nat}{c0 c1 c2 c3 c4 c5:Value}{x:DataW H×List MemPlace}(h:DataW.trod enc Tryz.prog W 0 spare held aA 116 [c0,c1,c2,c3,c4,c5]=some x):∃s:qC,c0 = .string s.name/\c1 = .int .i64 s.origin/\c2 = .int .i64 s.zRT/\c3 = .int .i64 s.rs/\c4 = .int .i64 s.rb/\zU W 0 W.heap.size c5 s.dn s.ds s.db/\s.name.size<=maxLen/\zLN s:=by
 obtain⟨n0,y0,h0⟩:=qX (t:=116) (T:=9) (o:=0) (c:=1) (i:=0) (by kernel_rfl) (by kernel_rfl) (by kernel_rfl) h;obtain⟨z0,e0,-,w0⟩:=DataW.trod_string (show Tryz.prog.underlying 9=some .string by kernel_rfl) h0;obtain⟨n1,y1,h1⟩:=qX (t:=116) (T:=2) (o:=1) (c:=1) (i:=1) (by kernel_rfl) (by kernel_rfl) (by kernel_rfl) h;obtain⟨z1,e1,-,w1⟩:=DataW.trod_int (show Tryz.prog.underlying 2=some (.int .i64)by kernel_rfl) h1;obtain⟨n2,y2,h2⟩:=qX (t:=116) (T:=2) (o:=2) (c:=1) (i:=2) (by kernel_rfl) (by kernel_rfl) (by kernel_rfl) h;obtain⟨z2,e2,-,w2⟩:=DataW.trod_int (show Tryz.prog.underlying 2=some (.int .i64)by kernel_rfl) h2;obtain⟨n3,y3,h3⟩:=qX (t:=116) (T:=113) (o:=3) (c:=2) (i:=3) (by kernel_rfl) (by kernel_rfl) (by kernel_rfl) h;obtain⟨z3,cA,e3,bA⟩:=zCY (c0:=c3) (c1:=c4) (by simpa using h3);obtain⟨n4,y4,h4⟩:=qX (t:=116) (T:=114) (o:=5) (c:=1) (i:=4) (by kernel_rfl) (by kernel_rfl) (by kernel_rfl) h;obtain⟨dn,ds,db,hp⟩:=zDf (v:=c5) (by simpa using h4);exact⟨⟨z0,z1,z2,z3,cA,dn,ds,db⟩,by simpa using e0,by simpa using e1,by simpa using e2,e3,bA,hp,w0,w1,w2⟩
theorem zKf{cA:Nat}{v:Value}{x:DataW H×List MemPlace}(h:DataW.trod enc Tryz.prog W 0 spare held cA 26 [v]=some x):∃n f,yY W 0 W.heap.size v n f/\∀i,i<n->zLN (f i):=by
 rcases open_slice (t:=26) (e:=116) (by kernel_rfl) h with⟨hv,_⟩ | ⟨a,len,fA,m,n,D,Pl,hv,_,hl,hm,lA,_,hx⟩
 ·exact⟨0,fun _=>⟨ByteArray.empty,0,0,0,0,0,fun _=>0,fun _=>0⟩,⟨Nat.zero_le _,none,0,zAZ hv,Nat.le_refl _,fun h=>absurd h (Nat.lt_irrefl _)⟩,fun i hi=>absurd hi (Nat.not_lt_zero _)⟩
 ·have mA:len<=m:=(by rw[lA];split<;>omega);have kA:Tryz.prog.cellsOf 116=6:=(by kernel_rfl);rw[kA]at hx;have hV:∀i,i<len->∃s:qC,(∃c0 c1 c2 c3 c4 c5,W.cell? (a.add (i*6))=some c0/\W.cell? ((a.add (i*6)).add 1)=some c1/\W.cell? ((a.add (i*6)).add 2)=some c2/\W.cell? ((a.add (i*6)).add 3)=some c3/\W.cell? ((a.add (i*6)).add 4)=some c4/\W.cell? ((a.add (i*6)).add 5)=some c5/\c0 = .string s.name/\c1 = .int .i64 s.origin/\c2 = .int .i64 s.zRT/\c3 = .int .i64 s.rs/\c4 = .int .i64 s.rb/\zU W 0 W.heap.size c5 s.dn s.ds s.db/\s.name.size<=maxLen/\zLN s):=fun i hi=>by
   obtain⟨cs,iA,ht⟩:=hx i (by omega);obtain⟨_,bA,aA⟩:=World.cells?_some iA
   match cs,bA with
   | [c0,c1,c2,c3,c4,c5],_=>
    obtain⟨s,hs⟩:=zH4 ht;have q0:=aA 0 (by omega);have q1:=aA 1 (by omega);have q2:=aA 2 (by omega);have q3:=aA 3 (by omega);have q4:=aA 4 (by omega);have q5:=aA 5 (by omega);rw[show(a.add (i*6)).add 0=a.add (i*6)by simp[Addr.add]]at q0;exact⟨s,c0,c1,c2,c3,c4,c5,by simpa using q0,by simpa using q1,by simpa using q2,by simpa using q3,by simpa using q4,by simpa using q5,hs⟩
  have gA:Inhabited qC:=⟨⟨ByteArray.empty,0,0,0,0,0,fun _=>0,fun _=>0⟩⟩;obtain⟨f,hf⟩:=choose_lt (α:=qC) (p:=fun i s=>(∃c0 c1 c2 c3 c4 c5,W.cell? (a.add (i*6))=some c0/\W.cell? ((a.add (i*6)).add 1)=some c1/\W.cell? ((a.add (i*6)).add 2)=some c2/\W.cell? ((a.add (i*6)).add 3)=some c3/\W.cell? ((a.add (i*6)).add 4)=some c4/\W.cell? ((a.add (i*6)).add 5)=some c5/\c0 = .string s.name/\c1 = .int .i64 s.origin/\c2 = .int .i64 s.zRT/\c3 = .int .i64 s.rs/\c4 = .int .i64 s.rb/\zU W 0 W.heap.size c5 s.dn s.ds s.db/\s.name.size<=maxLen/\zLN s)) hV;refine⟨len,f,⟨by unfold maxLen at *;omega,some a,fA,zAZ hv,hl,fun h0=>?_⟩,fun i hi=>?_⟩
  ·obtain⟨c0,c1,c2,c3,c4,c5,dA,_⟩:=hf 0 h0;rw[show a.add (0*6)=a by simp[Addr.add]]at dA;obtain⟨b,off,rfl⟩:=zBY dA;refine⟨b,off,rfl,Nat.zero_le _,zD dA,fun i hi=>?_⟩;obtain⟨c0,c1,c2,c3,c4,c5,q0,q1,q2,q3,q4,q5,rfl,rfl,rfl,rfl,rfl,hp,jA,eA⟩:=hf i hi;rw[Addr.add_mid,Addr.add_mid]at q1 q2 q3 q4 q5;rw[Addr.add_mid]at q0;exact⟨c5,q0,q1,q2,q3,q4,q5,hp,jA⟩
  ·obtain⟨c0,c1,c2,c3,c4,c5,-,-,-,-,-,-,-,-,-,-,-,-,-,eA⟩:=hf i hi;exact eA
def zIa(s:zm):Prop:=(Lit.int .i64 s.id).wf=true/\(Lit.int .i64 s.zRT).wf=true/\(Lit.int .i64 s.time).wf=true
theorem zHE{aA:Nat}{c0 c1 c2 c3 c4 c5 c6 c7:Value}{x:DataW H×List MemPlace}(h:DataW.trod enc Tryz.prog W 0 spare held aA 119 [c0,c1,c2,c3,c4,c5,c6,c7]=some x):∃s:zm,c0 = .int .i64 s.id/\c1 = .string s.name/\c2 = .string s.set/\c3 = .int .i64 s.zRT/\c4 = .int .i64 s.time/\c5 = .int .i64 s.rs/\c6 = .int .i64 s.rb/\zU W 0 W.heap.size c7 s.dn s.ds s.db/\(s.name.size<=maxLen/\s.set.size<=maxLen)/\zIa s:=by
 obtain⟨n0,y0,h0⟩:=qX (t:=119) (T:=2) (o:=0) (c:=1) (i:=0) (by kernel_rfl) (by kernel_rfl) (by kernel_rfl) h;obtain⟨z0,e0,-,w0⟩:=DataW.trod_int (show Tryz.prog.underlying 2=some (.int .i64)by kernel_rfl) h0;obtain⟨n1,y1,h1⟩:=qX (t:=119) (T:=9) (o:=1) (c:=1) (i:=1) (by kernel_rfl) (by kernel_rfl) (by kernel_rfl) h;obtain⟨z1,e1,-,w1⟩:=DataW.trod_string (show Tryz.prog.underlying 9=some .string by kernel_rfl) h1;obtain⟨n2,y2,h2⟩:=qX (t:=119) (T:=9) (o:=2) (c:=1) (i:=2) (by kernel_rfl) (by kernel_rfl) (by kernel_rfl) h;obtain⟨z2,e2,-,w2⟩:=DataW.trod_string (show Tryz.prog.underlying 9=some .string by kernel_rfl) h2;obtain⟨n3,y3,h3⟩:=qX (t:=119) (T:=2) (o:=3) (c:=1) (i:=3) (by kernel_rfl) (by kernel_rfl) (by kernel_rfl) h;obtain⟨z3,e3,-,w3⟩:=DataW.trod_int (show Tryz.prog.underlying 2=some (.int .i64)by kernel_rfl) h3;obtain⟨n4,y4,h4⟩:=qX (t:=119) (T:=2) (o:=4) (c:=1) (i:=4) (by kernel_rfl) (by kernel_rfl) (by kernel_rfl) h;obtain⟨z4,e4,-,w4⟩:=DataW.trod_int (show Tryz.prog.underlying 2=some (.int .i64)by kernel_rfl) h4;obtain⟨n5,y5,h5⟩:=qX (t:=119) (T:=113) (o:=5) (c:=2) (i:=5) (by kernel_rfl) (by kernel_rfl) (by kernel_rfl) h;obtain⟨z5,bA,e5,cA⟩:=zCY (c0:=c5) (c1:=c6) (by simpa using h5);obtain⟨n6,y6,h6⟩:=qX (t:=119) (T:=114) (o:=7) (c:=1) (i:=6) (by kernel_rfl) (by kernel_rfl) (by kernel_rfl) h;obtain⟨dn,ds,db,hp⟩:=zDf (v:=c7) (by simpa using h6);exact⟨⟨z0,z1,z2,z3,z4,z5,bA,dn,ds,db⟩,by simpa using e0,by simpa using e1,by simpa using e2,by simpa using e3,by simpa using e4,e5,cA,hp,⟨w1,w2⟩,w0,w3,w4⟩
theorem zIx{cA:Nat}{v:Value}{x:DataW H×List MemPlace}(h:DataW.trod enc Tryz.prog W 0 spare held cA 27 [v]=some x):∃n f,yB W 0 W.heap.size v n f/\∀i,i<n->zIa (f i):=by
 rcases open_slice (t:=27) (e:=119) (by kernel_rfl) h with⟨hv,_⟩ | ⟨a,len,fA,m,n,D,Pl,hv,_,hl,hm,lA,_,hx⟩
 ·exact⟨0,fun _=>⟨0,ByteArray.empty,ByteArray.empty,0,0,0,0,0,fun _=>0,fun _=>0⟩,⟨Nat.zero_le _,none,0,zAZ hv,Nat.le_refl _,fun h=>absurd h (Nat.lt_irrefl _)⟩,fun i hi=>absurd hi (Nat.not_lt_zero _)⟩
 ·have mA:len<=m:=(by rw[lA];split<;>omega);have kA:Tryz.prog.cellsOf 119=8:=(by kernel_rfl);rw[kA]at hx;have hV:∀i,i<len->∃s:zm,(∃c0 c1 c2 c3 c4 c5 c6 c7,W.cell? (a.add (i*8))=some c0/\W.cell? ((a.add (i*8)).add 1)=some c1/\W.cell? ((a.add (i*8)).add 2)=some c2/\W.cell? ((a.add (i*8)).add 3)=some c3/\W.cell? ((a.add (i*8)).add 4)=some c4/\W.cell? ((a.add (i*8)).add 5)=some c5/\W.cell? ((a.add (i*8)).add 6)=some c6/\W.cell? ((a.add (i*8)).add 7)=some c7/\c0 = .int .i64 s.id/\c1 = .string s.name/\c2 = .string s.set/\c3 = .int .i64 s.zRT/\c4 = .int .i64 s.time/\c5 = .int .i64 s.rs/\c6 = .int .i64 s.rb/\zU W 0 W.heap.size c7 s.dn s.ds s.db/\(s.name.size<=maxLen/\s.set.size<=maxLen)/\zIa s):=fun i hi=>by
   obtain⟨cs,iA,ht⟩:=hx i (by omega);obtain⟨_,bA,aA⟩:=World.cells?_some iA
   match cs,bA with
   | [c0,c1,c2,c3,c4,c5,c6,c7],_=>
    obtain⟨s,hs⟩:=zHE ht;have q0:=aA 0 (by omega);have q1:=aA 1 (by omega);have q2:=aA 2 (by omega);have q3:=aA 3 (by omega);have q4:=aA 4 (by omega);have q5:=aA 5 (by omega);have q6:=aA 6 (by omega);have q7:=aA 7 (by omega);rw[show(a.add (i*8)).add 0=a.add (i*8)by simp[Addr.add]]at q0;exact⟨s,c0,c1,c2,c3,c4,c5,c6,c7,by simpa using q0,by simpa using q1,by simpa using q2,by simpa using q3,by simpa using q4,by simpa using q5,by simpa using q6,by simpa using q7,hs⟩
  have gA:Inhabited zm:=⟨⟨0,ByteArray.empty,ByteArray.empty,0,0,0,0,0,fun _=>0,fun _=>0⟩⟩;obtain⟨f,hf⟩:=choose_lt (α:=zm) (p:=fun i s=>(∃c0 c1 c2 c3 c4 c5 c6 c7,W.cell? (a.add (i*8))=some c0/\W.cell? ((a.add (i*8)).add 1)=some c1/\W.cell? ((a.add (i*8)).add 2)=some c2/\W.cell? ((a.add (i*8)).add 3)=some c3/\W.cell? ((a.add (i*8)).add 4)=some c4/\W.cell? ((a.add (i*8)).add 5)=some c5/\W.cell? ((a.add (i*8)).add 6)=some c6/\W.cell? ((a.add (i*8)).add 7)=some c7/\c0 = .int .i64 s.id/\c1 = .string s.name/\c2 = .string s.set/\c3 = .int .i64 s.zRT/\c4 = .int .i64 s.time/\c5 = .int .i64 s.rs/\c6 = .int .i64 s.rb/\zU W 0 W.heap.size c7 s.dn s.ds s.db/\(s.name.size<=maxLen/\s.set.size<=maxLen)/\zIa s)) hV;refine⟨len,f,⟨by unfold maxLen at *;omega,some a,fA,zAZ hv,hl,fun h0=>?_⟩,fun i hi=>?_⟩
  ·obtain⟨c0,c1,c2,c3,c4,c5,c6,c7,dA,_⟩:=hf 0 h0;rw[show a.add (0*8)=a by simp[Addr.add]]at dA;obtain⟨b,off,rfl⟩:=zBY dA;refine⟨b,off,rfl,Nat.zero_le _,zD dA,fun i hi=>?_⟩;obtain⟨c0,c1,c2,c3,c4,c5,c6,c7,q0,q1,q2,q3,q4,q5,q6,q7,rfl,rfl,rfl,rfl,rfl,rfl,rfl,hp,jA,eA⟩:=hf i hi;rw[Addr.add_mid,Addr.add_mid]at q1 q2 q3 q4 q5 q6 q7;rw[Addr.add_mid]at q0;exact⟨c7,q0,q1,q2,q3,q4,q5,q6,q7,hp,jA⟩
  ·obtain⟨c0,c1,c2,c3,c4,c5,c6,c7,-,-,-,-,-,-,-,-,-,-,-,-,-,-,-,-,-,eA⟩:=hf i hi;exact eA
structure zHR (W:zH):Prop where
 time:(Lit.int .i64 W.time).wf=true
 next:(Lit.int .i64 W.next).wf=true
 zRS:∀i,i<W.sn->zLN (W.zRS i)
 zRP:∀i,i<W.pn->zIa (W.zRP i)
theorem zHR.prevs{W:zH}(h:zHR W):zCK W:=fun i hi=>by
 unfold zq at hi;by_cases e:i<W.pn
 ·rw[qS e];exact(h.zRP i e).2.1
 ·obtain⟨j,rfl⟩:∃j,i=W.pn+j:=⟨i - W.pn,by omega⟩;rw[yH];exact(h.zRS j (by omega)).2
theorem zP9{α : Type}{cs:Array α}(h:cs.size=6):∃c0 c1 c2 c3 c4 c5,cs=#[c0,c1,c2,c3,c4,c5]:=by
 obtain⟨l⟩:=cs
 match l,h with
 | [c0,c1,c2,c3,c4,c5],_=>exact⟨c0,c1,c2,c3,c4,c5,rfl⟩
theorem zHD{aA:Nat}{c0 c1:Value}{x:DataW H×List MemPlace}(h:DataW.trod enc Tryz.prog W 0 spare held aA 25 [c0,c1]=some x):∃p,zy W 0 W.heap.size c0 c1 p:=by
 obtain⟨n0,y0,h0⟩:=qX (t:=25) (T:=22) (o:=0) (c:=1) (i:=0) (by kernel_rfl) (by kernel_rfl) (by kernel_rfl) h;obtain⟨n1,y1,h1⟩:=qX (t:=25) (T:=23) (o:=1) (c:=1) (i:=1) (by kernel_rfl) (by kernel_rfl) (by kernel_rfl) h;obtain⟨n,f,bA⟩:=zIi (v:=c0) (by simpa using h0);obtain⟨hn,g,cA⟩:=zKd (v:=c1) (by simpa using h1);exact⟨⟨n,f,hn,g⟩,bA,cA⟩
theorem zMS{r:Reach}{b0:Nat}{v:Value}{d:DataW H}{ps:List MemPlace}(hv:Value.okWide Tryz.prog W r b0 29 v)(h:DataW.Trod enc Tryz.prog W 0 spare held 29 v d ps) :
  ∃v0 v1 v2 v3 D,v=zz v0 v1 v2 v3 D/\zl W 0 W.heap.size v0 v1 v2 v3 D/\zHR D:=by
 have hs:Tryz.prog.underlying 29=some (.struct (Tryz.prog.fieldsOf 29)):=by kernel_rfl
 obtain⟨cs,rfl,dA⟩:=okWide_struct hs hv;obtain⟨c0,c1,c2,c3,c4,c5,rfl⟩:=zP9 (dA.trans (by kernel_rfl));obtain⟨bA,hf⟩:=h;have aA:DataW.trod enc Tryz.prog W 0 spare held bA 29 [c0,c1,c2,c3,c4,c5]=some (d,ps):=by simpa[Value.cells]using hf
 obtain⟨n0,y0,h0⟩:=qX (t:=29) (T:=25) (o:=0) (c:=2) (i:=0) (by kernel_rfl) (by kernel_rfl) (by kernel_rfl) aA;obtain⟨n1,y1,h1⟩:=qX (t:=29) (T:=2) (o:=2) (c:=1) (i:=1) (by kernel_rfl) (by kernel_rfl) (by kernel_rfl) aA;obtain⟨n2,y2,h2⟩:=qX (t:=29) (T:=2) (o:=3) (c:=1) (i:=2) (by kernel_rfl) (by kernel_rfl) (by kernel_rfl) aA;obtain⟨n3,y3,h3⟩:=qX (t:=29) (T:=26) (o:=4) (c:=1) (i:=3) (by kernel_rfl) (by kernel_rfl) (by kernel_rfl) aA;obtain⟨n4,y4,h4⟩:=qX (t:=29) (T:=27) (o:=5) (c:=1) (i:=4) (by kernel_rfl) (by kernel_rfl) (by kernel_rfl) aA;obtain⟨p,hp⟩:=zHD (c0:=c0) (c1:=c1) (by simpa using h0);obtain⟨z1,e1,-,w1⟩:=DataW.trod_int (show Tryz.prog.underlying 2=some (.int .i64)by kernel_rfl) h1;obtain⟨z2,e2,-,w2⟩:=DataW.trod_int (show Tryz.prog.underlying 2=some (.int .i64)by kernel_rfl) h2;obtain⟨sn,f,hS,cA⟩:=zKf (v:=c4) (by simpa using h3);obtain⟨pn,g,hP,eA⟩:=zIx (v:=c5) (by simpa using h4);obtain rfl:c2 = .int .i64 z1:=by simpa using e1
 obtain rfl:c3 = .int .i64 z2:=by simpa using e2
 exact⟨c0,c1,c4,c5,⟨p,z1,z2,sn,f,pn,g⟩,rfl,⟨hp,hS,hP⟩,⟨w1,w2,cA,eA⟩⟩
end
open Go.Maps
theorem zNa(f:Nat->qC):∀{n i:Nat},i<n->zEt (f i)<=zBM f n
 | n+1,i,h=>by
  show zEt (f i)<=zBM f n+zEt (f n);by_cases e:i=n
  ·subst e;omega
  ·have:=zNa f (show i<n by omega);omega
theorem zMm(v:Value)(n lo hi:Nat)(f:Nat->qC)(w:World)(h1:yY w lo hi v n f)(hn:n+zBM f n<=1048576) :
  Calls Tryz.prog 31 #[v] w fun e w'=>(∃v' kb kv,e = .returned v'/\yN w' w.heap.size kb kv v' n f/\zBL kb n f/\∀j,j<n->0<(f j).dn->w.heap.size<kb j/\kb j<w'.heap.size)/\Below w.heap.size w w'/\w.heap.size<w'.heap.size:=by
 have H1:=zB h1;obtain⟨m1,a,c,rfl,mc,-⟩:=id h1;have kA:=m1;unfold maxLen at m1;clear h1;have Hn:=zB hn;have oA:=zBC 34 67 (.agg #[.string ⟨#[]⟩,.int .i64 0,.int .i64 0,.int .i64 0,.int .i64 0,.slice none 0 0]) 6 72 (by kernel_rfl) zIK rfl n (by omega) (by omega);clear hn;go_enter Tryz.func31,Tryz.ntmps31;go_wp2
 go_loopw [4] (fun i wr=>∃(k:Nat) (kb:Nat->Nat) (kv:Nat->Value),k<=n/\i = .int .i64 k/\zDX wr w.heap.size n k f kb kv/\Below w.heap.size w wr/\w.heap.size<wr.heap.size) (fun i _=>n - (intOf i).toNat)
 case atStart=>exact⟨0,fun _=>0,fun _=>.slice none 0 0,Nat.zero_le _,rfl,⟨fun j hj=>by rw[if_neg (by omega)];exact zMe hj rfl,fun i j hi=>absurd hi (by omega),fun j hj=>absurd hj (by omega)⟩,zC _ _,by simp⟩
 case round=>
  obtain⟨k,kb,kv,hk,rfl,cA,hb,jA⟩:=hrel;have aA:=zB cA;clear cA;by_cases eA:k<n
  ·have nA:(k:Int)<(n:Int):=(by omega);obtain⟨b,off,vd,rfl,bA⟩:=(H1.out.zRJ hb).cells eA;obtain⟨-,ad,cd,rfl,-,-⟩:=id bA.zRX;have q0:=bA.c0;have q1:=bA.c1;have q2:=bA.c2;have q3:=bA.c3;have q4:=bA.c4;have q5:=bA.c5;have Hs:=zB bA;clear bA;go_wp2_with fail;refine(zOP _ lo hi (f k) _ Hs.out.zRX (by have h1:=Hn.out;have h2:=zNa f eA;unfold zEt at h2;omega)).mono ?_;rintro e w1 ⟨⟨nv,nb,rfl,hp,gA,fA⟩,dA⟩;have mA:=zA hb dA;have hz:=(aA.out.rows k eA).zRJ dA;obtain⟨e0,g0⟩:=hz.c0;obtain⟨e1,g1⟩:=hz.c1;obtain⟨e2,g2⟩:=hz.c2;obtain⟨e3,g3⟩:=hz.c3;obtain⟨e4,g4⟩:=hz.c4;obtain⟨e5,g5⟩:=hz.c5;clear q0 q1 q2 q3 q4 q5 hz;rw[Nat.zero_add]at e0 g0 e1 g1 e2 g2 e3 g3 e4 g4 e5 g5;have Hp:=zB hp;obtain⟨-,na,nc,rfl,-,-⟩:=id hp;clear hp;have iA:w.heap.size<w1.heap.size:=(by have:=dA.size;omega);have lA:=zB dA;clear dA;unfold zDO;go_wp2;go_roundw
   case rel=>
    refine⟨k+1,(fun j=>if j=k then nb else kb j),(fun j=>if j=k then .slice na (f k).dn nc else kv j),by omega,by go_num,?_,?_,by simpa using iA⟩
    ·have hx:=aA.out.next eA jA lA.out Hp.out gA fA Hs.out.zRZ;rw[Nat.zero_add]at hx;exact hx
    ·exact(((((mA.setCell (Nat.le_refl _) _).setCell (Nat.le_refl _) _).setCell (Nat.le_refl _) _).setCell (Nat.le_refl _) _).setCell (Nat.le_refl _) _).setCell (Nat.le_refl _) _
   case measure=>simp[intOf];omega
  ·obtain rfl:k=n:=(by omega);go_wp2;go_ret;refine⟨⟨_,kb,kv,rfl,⟨kA,_,k,rfl,Nat.le_refl _,fun _=>⟨0,rfl,fun i hi=>?_⟩⟩,aA.out.zRW,aA.out.zRY⟩,hb,jA⟩;have:=aA.out.rows i hi;rw[if_pos hi]at this;exact this
theorem zMC(f:Nat->zm):∀{n i:Nat},i<n->zDs (f i)<=zAw f n
 | n+1,i,h=>by
  show zDs (f i)<=zAw f n+zDs (f n);by_cases e:i=n
  ·subst e;omega
  ·have:=zMC f (show i<n by omega);omega
theorem zLn(v:Value)(n lo hi:Nat)(f:Nat->zm)(w:World)(h1:yB w lo hi v n f)(hn:n+zAw f n<=1048576) :
  Calls Tryz.prog 32 #[v] w fun e w'=>(∃v' kb kv,e = .returned v'/\yV w' w.heap.size kb kv v' n f/\zBD kb n f/\∀j,j<n->0<(f j).dn->w.heap.size<kb j/\kb j<w'.heap.size)/\Below w.heap.size w w'/\w.heap.size<w'.heap.size:=by
 have H1:=zB h1;obtain⟨m1,a,c,rfl,mc,-⟩:=id h1;have kA:=m1;unfold maxLen at m1;clear h1;have Hn:=zB hn;have oA:=zBC 35 99 (.agg #[.int .i64 0,.string ⟨#[]⟩,.string ⟨#[]⟩,.int .i64 0,.int .i64 0,.int .i64 0,.int .i64 0,.slice none 0 0]) 8 96 (by kernel_rfl) zGF rfl n (by omega) (by omega);clear hn;go_enter Tryz.func32,Tryz.ntmps32;go_wp2
 go_loopw [4] (fun i wr=>∃(k:Nat) (kb:Nat->Nat) (kv:Nat->Value),k<=n/\i = .int .i64 k/\zCh wr w.heap.size n k f kb kv/\Below w.heap.size w wr/\w.heap.size<wr.heap.size) (fun i _=>n - (intOf i).toNat)
 case atStart=>exact⟨0,fun _=>0,fun _=>.slice none 0 0,Nat.zero_le _,rfl,⟨fun j hj=>by rw[if_neg (by omega)];exact zLC hj rfl,fun i j hi=>absurd hi (by omega),fun j hj=>absurd hj (by omega)⟩,zC _ _,by simp⟩
 case round=>
  obtain⟨k,kb,kv,hk,rfl,cA,hb,jA⟩:=hrel;have aA:=zB cA;clear cA;by_cases eA:k<n
  ·have nA:(k:Int)<(n:Int):=(by omega);obtain⟨b,off,vd,rfl,bA⟩:=(H1.out.zRJ hb).cells eA;obtain⟨-,ad,cd,rfl,-,-⟩:=id bA.zRX;have q0:=bA.c0;have q1:=bA.c1;have q2:=bA.c2;have q3:=bA.c3;have q4:=bA.c4;have q5:=bA.c5;have q6:=bA.c6;have q7:=bA.c7;have Hs:=zB bA;clear bA;go_wp2_with fail;refine(zNC _ lo hi (f k) _ Hs.out.zRX (by have h1:=Hn.out;have h2:=zMC f eA;unfold zDs at h2;omega)).mono ?_;rintro e w1 ⟨⟨nv,nb,rfl,hp,gA,fA⟩,dA⟩;have mA:=zA hb dA;have hz:=(aA.out.rows k eA).zRJ dA;obtain⟨e0,g0⟩:=hz.c0;obtain⟨e1,g1⟩:=hz.c1;obtain⟨e2,g2⟩:=hz.c2;obtain⟨e3,g3⟩:=hz.c3;obtain⟨e4,g4⟩:=hz.c4;obtain⟨e5,g5⟩:=hz.c5;obtain⟨e6,g6⟩:=hz.c6;obtain⟨e7,g7⟩:=hz.c7;clear q0 q1 q2 q3 q4 q5 q6 q7 hz;rw[Nat.zero_add]at e0 g0 e1 g1 e2 g2 e3 g3 e4 g4 e5 g5 e6 g6 e7 g7;have Hp:=zB hp;obtain⟨-,na,nc,rfl,-,-⟩:=id hp;clear hp;have iA:w.heap.size<w1.heap.size:=(by have:=dA.size;omega);have lA:=zB dA;clear dA;unfold ye;go_wp2;go_roundw
   case rel=>
    refine⟨k+1,(fun j=>if j=k then nb else kb j),(fun j=>if j=k then .slice na (f k).dn nc else kv j),by omega,by go_num,?_,?_,by simpa using iA⟩
    ·have hx:=aA.out.next eA jA lA.out Hp.out gA fA Hs.out.zRZ;rw[Nat.zero_add]at hx;exact hx
    ·exact(((((((mA.setCell (Nat.le_refl _) _).setCell (Nat.le_refl _) _).setCell (Nat.le_refl _) _).setCell (Nat.le_refl _) _).setCell (Nat.le_refl _) _).setCell (Nat.le_refl _) _).setCell (Nat.le_refl _) _).setCell (Nat.le_refl _) _
   case measure=>simp[intOf];omega
  ·obtain rfl:k=n:=(by omega);go_wp2;go_ret;refine⟨⟨_,kb,kv,rfl,⟨kA,_,k,rfl,Nat.le_refl _,fun _=>⟨0,rfl,fun i hi=>?_⟩⟩,aA.out.zRW,aA.out.zRY⟩,hb,jA⟩;have:=aA.out.rows i hi;rw[if_pos hi]at this;exact this
theorem zi.put4{w:World}{b:Nat}{v0 v1 v2 v3 v4 v5:Value}(h:zi w b v0 v1 v2 v3 v4 v5)(u0 u1 u2 u3:Value):zi ((((w.setCell ⟨b,0,none⟩ u0).setCell ⟨b,1,none⟩ u1).setCell ⟨b,2,none⟩ u2).setCell ⟨b,3,none⟩ u3) b u0 u1 u2 u3 v4 v5:=by
 obtain⟨h0,h1,h2,h3,h4,h5⟩:=h;refine⟨?_,?_,?_,?_,?_,?_⟩
 ·exact(((h0.set _).zRK _ (Or.inr (by omega))).zRK _ (Or.inr (by omega))).zRK _ (Or.inr (by omega))
 ·exact(((h1.zRK _ (Or.inr (by omega))).set _).zRK _ (Or.inr (by omega))).zRK _ (Or.inr (by omega))
 ·exact(((h2.zRK _ (Or.inr (by omega))).zRK _ (Or.inr (by omega))).set _).zRK _ (Or.inr (by omega))
 ·exact(((h3.zRK _ (Or.inr (by omega))).zRK _ (Or.inr (by omega))).zRK _ (Or.inr (by omega))).set _
 ·exact(((h4.zRK _ (Or.inr (by omega))).zRK _ (Or.inr (by omega))).zRK _ (Or.inr (by omega))).zRK _ (Or.inr (by omega))
 ·exact(((h5.zRK _ (Or.inr (by omega))).zRK _ (Or.inr (by omega))).zRK _ (Or.inr (by omega))).zRK _ (Or.inr (by omega))
theorem zF.put4w(w:World)(b:Nat)(u0 u1 u2 u3:Value):zF (fun k=>k=b) w ((((w.setCell ⟨b,0,none⟩ u0).setCell ⟨b,1,none⟩ u1).setCell ⟨b,2,none⟩ u2).setCell ⟨b,3,none⟩ u3):=
 (((zF.put w b 0 u0).trans (zF.put _ b 1 u1)).trans (zF.put _ b 2 u2)).trans (zF.put _ b 3 u3)
theorem zCv(v0 v1 v2 v3:Value)(lo hi:Nat)(W:zH)(w:World)(h:zl w lo hi v0 v1 v2 v3 W)(hn:yZ W<=1048576):Calls Tryz.prog 9 #[zz v0 v1 v2 v3 W] w (zPZ W w):=by
 obtain⟨a0,c0,a1,c1,a2,c2,a3,c3,rfl,rfl,rfl,rfl⟩:=h.form;have H:=zB h;clear h;unfold yZ at hn;have vB:∀Wa Wb Wc:World,Wa=w.alloc (.cells #[.slice a0 W.zRQ.n c0,.slice a1 W.zRQ.hn c1,.int .i64 W.time,.int .i64 W.next,.slice a2 W.sn c2,.slice a3 W.pn c3] 29)->Wb=Wa.alloc (.cells #[.slice none 0 0,.slice none 0 0,.int .i64 0,.int .i64 0,.slice none 0 0,.slice none 0 0] 37)->Wc=Wb.alloc (.cells #[.slice none 0 0,.slice none 0 0,.int .i64 0,.int .i64 0,.slice none 0 0,.slice none 0 0] 37)->zi Wc w.heap.size (.slice a0 W.zRQ.n c0) (.slice a1 W.zRQ.hn c1) (.int .i64 W.time) (.int .i64 W.next) (.slice a2 W.sn c2) (.slice a3 W.pn c3)/\zi Wc (w.heap.size+1) (.slice none 0 0) (.slice none 0 0) (.int .i64 0) (.int .i64 0) (.slice none 0 0) (.slice none 0 0)/\zi Wc (w.heap.size+1+1) (.slice none 0 0) (.slice none 0 0) (.int .i64 0) (.int .i64 0) (.slice none 0 0) (.slice none 0 0)/\Below w.heap.size w Wc/\Wc.heap.size=w.heap.size+3:=by
  rintro Wa Wb Wc ea eb ec;have ha:=zC w (.cells #[.slice a0 W.zRQ.n c0,.slice a1 W.zRQ.hn c1,.int .i64 W.time,.int .i64 W.next,.slice a2 W.sn c2,.slice a3 W.pn c3] 29);have h1:=zi.zRL w (.slice a0 W.zRQ.n c0) (.slice a1 W.zRQ.hn c1) (.int .i64 W.time) (.int .i64 W.next) (.slice a2 W.sn c2) (.slice a3 W.pn c3) 29;have z1:Wa.heap.size=w.heap.size+1:=(by rw[ea];exact World.size_alloc _ _);rw[<-ea]at ha h1;have hb:=zC Wa (.cells #[.slice none 0 0,.slice none 0 0,.int .i64 0,.int .i64 0,.slice none 0 0,.slice none 0 0] 37);have h2:=zi.zRL Wa (.slice none 0 0) (.slice none 0 0) (.int .i64 0) (.int .i64 0) (.slice none 0 0) (.slice none 0 0) 37;have z2:Wb.heap.size=w.heap.size+1+1:=(by rw[eb,World.size_alloc,z1]);rw[<-eb,z1]at h2;rw[<-eb]at hb;have hc:=zC Wb (.cells #[.slice none 0 0,.slice none 0 0,.int .i64 0,.int .i64 0,.slice none 0 0,.slice none 0 0] 37);have h3:=zi.zRL Wb (.slice none 0 0) (.slice none 0 0) (.int .i64 0) (.int .i64 0) (.slice none 0 0) (.slice none 0 0) 37;have z3:Wc.heap.size=w.heap.size+3:=(by rw[ec,World.size_alloc,z2]);rw[<-ec,z2]at h3;rw[<-ec]at hc;exact⟨(h1.zRJ hb).zRJ hc,h2.zRJ hc,h3,zA (zA ha hb) hc,z3⟩
 obtain⟨hx,hy,hz,fA,dC⟩:=vB _ _ _ rfl rfl rfl;have HX:=zB hx;have HY:=zB hy;have HZ:=zB hz;have HS:=zB dC;clear hx hy hz vB dC;go_enter Tryz.func9,Tryz.ntmps9;go_wp2_with fail;generalize ((w.alloc (.cells #[.slice a0 W.zRQ.n c0,.slice a1 W.zRQ.hn c1,.int .i64 W.time,.int .i64 W.next,.slice a2 W.sn c2,.slice a3 W.pn c3] 29)).alloc (.cells #[.slice none 0 0,.slice none 0 0,.int .i64 0,.int .i64 0,.slice none 0 0,.slice none 0 0] 37)).alloc (.cells #[.slice none 0 0,.slice none 0 0,.int .i64 0,.int .i64 0,.slice none 0 0,.slice none 0 0] 37)=W0 at HX HY HZ HS fA ⊢;refine(zNA _ _ lo hi W.zRQ W0 (H.out.zRQ.zRJ fA) (by omega)).mono ?_;rintro e w1 ⟨u0,u1,rfl,hP,aA⟩;obtain⟨p0,q0,p1,q1,rfl,rfl⟩:=hP.form;have eC:=aA.size;have eB:=HS.out;have T1:=zF.put4w w1 (w.heap.size+1+1) (.slice p0 W.zRQ.n q0) (.slice p1 W.zRQ.hn q1) (.int .i64 W.time) (.int .i64 W.next);have lB:=zB (hP.zRR T1 (fun k e=>Or.inl (by show k<W0.heap.size;omega)));have rA:=zB ((HX.out.zRJ aA).zRR T1 (fun e=>absurd e (by omega)));have iB:=zB ((HY.out.zRJ aA).zRR T1 (fun e=>absurd e (by omega)));have vA:=zB ((HZ.out.zRJ aA).put4 (.slice p0 W.zRQ.n q0) (.slice p1 W.zRQ.hn q1) (.int .i64 W.time) (.int .i64 W.next));have mA:Below w.heap.size w ((((w1.setCell ⟨w.heap.size+1+1,0,none⟩ (.slice p0 W.zRQ.n q0)).setCell ⟨w.heap.size+1+1,1,none⟩ (.slice p1 W.zRQ.hn q1)).setCell ⟨w.heap.size+1+1,2,none⟩ (.int .i64 W.time)).setCell ⟨w.heap.size+1+1,3,none⟩ (.int .i64 W.next)):=(((((zA fA aA)).setCell (by show _<=w.heap.size+1+1;omega) _).setCell (by show _<=w.heap.size+1+1;omega) _).setCell (by show _<=w.heap.size+1+1;omega) _).setCell (by show _<=w.heap.size+1+1;omega) _;have rB:=zB (show((((w1.setCell ⟨w.heap.size+1+1,0,none⟩ (.slice p0 W.zRQ.n q0)).setCell ⟨w.heap.size+1+1,1,none⟩ (.slice p1 W.zRQ.hn q1)).setCell ⟨w.heap.size+1+1,2,none⟩ (.int .i64 W.time)).setCell ⟨w.heap.size+1+1,3,none⟩ (.int .i64 W.next)).heap.size=w1.heap.size by simp only[World.size_setCell]);have tB:=zB (show w.heap.size+3<=W0.heap.size/\W0.heap.size<=w1.heap.size by omega);obtain⟨⟨x0,aB⟩,⟨x1,sA⟩,⟨x2,tA⟩,⟨x3,nA⟩,⟨x4,kA⟩,⟨x5,bB⟩⟩:=HX.out.zRJ aA;obtain⟨⟨z0,dB⟩,⟨z1,lA⟩,⟨z2,jA⟩,⟨z3,gA⟩,⟨z4,iA⟩,⟨z5,oA⟩⟩:=HZ.out.zRJ aA;clear aA fA HX HY HZ HS eB eC hP T1;go_wp2_with fail;clear x0 x1 x2 x3 x4 x5 z0 z1 z2 z3 z4 z5 aB sA tA nA kA bB dB lA jA gA iA oA;generalize (((w1.setCell ⟨w.heap.size+1+1,0,none⟩ (.slice p0 W.zRQ.n q0)).setCell ⟨w.heap.size+1+1,1,none⟩ (.slice p1 W.zRQ.hn q1)).setCell ⟨w.heap.size+1+1,2,none⟩ (.int .i64 W.time)).setCell ⟨w.heap.size+1+1,3,none⟩ (.int .i64 W.next)=W1 at lB rA iB vA rB mA ⊢;refine(zMm _ W.sn lo hi W.zRS W1 (H.out.zRS.zRJ mA) (by omega)).mono ?_;rintro e w2 ⟨⟨v',kb,kv,rfl,ho,dA,eA⟩,bA,cB⟩;obtain⟨-,av,cv,rfl,-,-⟩:=id ho;have hQ:zBV w2 (fun k=>W1.heap.size<=k/\k<w2.heap.size) (.slice av W.sn cv) W.sn W.zRS:=⟨W1.heap.size,kb,kv,ho,dA,fun k hk=>by
  rcases hk with⟨_,rfl⟩ | ⟨i,hi,h0,rfl⟩
  ·exact⟨Nat.le_refl _,cB⟩
  ·have:=eA i hi h0;omega⟩
 have bC:=rB.out;have eB:=tB.out;have T2:=zF.put w2 (w.heap.size+1+1) 4 (.slice av W.sn cv);have jB:=zB (hQ.zRR T2 (fun k hk e=>by omega));have sB:=zB ((lB.out.zRJ bA).zRR T2 (fun k e=>Or.inl (by show k<W0.heap.size;omega)));have oB:=zB ((rA.out.zRJ bA).zRR T2 (fun e=>absurd e (by omega)));have nB:=zB ((iB.out.zRJ bA).zRR T2 (fun e=>absurd e (by omega)));have mB:=zB (show zi (w2.setCell ⟨w.heap.size+1+1,4,none⟩ (.slice av W.sn cv)) (w.heap.size+1+1) (.slice p0 W.zRQ.n q0) (.slice p1 W.zRQ.hn q1) (.int .i64 W.time) (.int .i64 W.next) (.slice av W.sn cv) (.slice none 0 0)from(by
  obtain⟨h0,h1,h2,h3,h4,h5⟩:=vA.out.zRJ bA;exact⟨h0.zRK _ (Or.inr (by omega)),h1.zRK _ (Or.inr (by omega)),h2.zRK _ (Or.inr (by omega)),h3.zRK _ (Or.inr (by omega)),h4.set _,h5.zRK _ (Or.inr (by omega))⟩))
 have pA:Below w.heap.size w (w2.setCell ⟨w.heap.size+1+1,4,none⟩ (.slice av W.sn cv)):=(zA mA bA).setCell (by show _<=w.heap.size+1+1;omega) _;have aC:=zB (show(w2.setCell ⟨w.heap.size+1+1,4,none⟩ (.slice av W.sn cv)).heap.size=w2.heap.size by simp only[World.size_setCell]);have gB:=zB cB;obtain⟨⟨x0,aB⟩,⟨x1,sA⟩,⟨x2,tA⟩,⟨x3,nA⟩,⟨x4,kA⟩,⟨x5,bB⟩⟩:=rA.out.zRJ bA;obtain⟨⟨z0,dB⟩,⟨z1,lA⟩,⟨z2,jA⟩,⟨z3,gA⟩,⟨z4,iA⟩,⟨z5,oA⟩⟩:=vA.out.zRJ bA;clear bA mA rA iB vA lB ho dA eA hQ bC eB T2 cB;go_wp2_with fail;clear x0 x1 x2 x3 x4 x5 z0 z1 z2 z3 z4 z5 aB sA tA nA kA bB dB lA jA gA iA oA;generalize w2.setCell ⟨w.heap.size+1+1,4,none⟩ (.slice av W.sn cv)=W2 at jB sB oB nB mB aC pA ⊢;refine(zLn _ W.pn lo hi W.zRP W2 (H.out.zRP.zRJ pA) (by omega)).mono ?_;rintro e w3 ⟨⟨v',kp,kw,rfl,ho,dA,eA⟩,cA,fB⟩;obtain⟨-,ap,cp,rfl,-,-⟩:=id ho;have gC:=zB (show zAo w3 (fun k=>W2.heap.size<=k/\k<w3.heap.size) (.slice ap W.pn cp) W.pn W.zRP from⟨W2.heap.size,kp,kw,ho,dA,fun k hk=>by
  rcases hk with⟨_,rfl⟩ | ⟨i,hi,h0,rfl⟩
  ·exact⟨Nat.le_refl _,fB⟩
  ·have:=eA i hi h0;omega⟩)
 have lC:=zB (sB.out.zRJ cA);have jC:=zB (jB.out.zRJ cA);have fC:=zB (oB.out.zRJ cA);have cC:=zB (nB.out.zRJ cA);have iC:=zB (mB.out.zRJ cA);have kC:=zA pA cA;have pB:=zB fB;clear cA pA oB nB mB sB jB ho dA eA fB;obtain⟨⟨x0,aB⟩,⟨x1,sA⟩,⟨x2,tA⟩,⟨x3,nA⟩,⟨x4,kA⟩,⟨x5,bB⟩⟩:=fC.out;obtain⟨⟨y0,mC⟩,⟨y1,sC⟩,⟨y2,nC⟩,⟨y3,tC⟩,⟨y4,pC⟩,⟨y5,rC⟩⟩:=cC.out;obtain⟨⟨z0,dB⟩,⟨z1,lA⟩,⟨z2,jA⟩,⟨z3,gA⟩,⟨z4,iA⟩,⟨z5,oA⟩⟩:=iC.out;go_wp2;have T3:=zF.put w3 (w.heap.size+1+1) 5 (.slice ap W.pn cp);have T4:=zF.put6 (w3.setCell ⟨w.heap.size+1+1,5,none⟩ (.slice ap W.pn cp)) (w.heap.size+1) (.slice p0 W.zRQ.n q0) (.slice p1 W.zRQ.hn q1) (.int .i64 W.time) (.int .i64 W.next) (.slice av W.sn cv) (.slice ap W.pn cp);have HR:=(cC.out.zRR T3 (fun e=>absurd e (by omega))).put (.slice p0 W.zRQ.n q0) (.slice p1 W.zRQ.hn q1) (.int .i64 W.time) (.int .i64 W.next) (.slice av W.sn cv) (.slice ap W.pn cp);have bC:=rB.out;have oC:=aC.out;have eB:=tB.out;have cB:=gB.out;have fB:=pB.out;have TT:zF (fun k=>k=w.heap.size+1\/k=w.heap.size+1+1) w3 (put6 (w3.setCell ⟨w.heap.size+1+1,5,none⟩ (.slice ap W.pn cp)) (w.heap.size+1) (.slice p0 W.zRQ.n q0) (.slice p1 W.zRQ.hn q1) (.int .i64 W.time) (.int .i64 W.next) (.slice av W.sn cv) (.slice ap W.pn cp)):=(T3.mono (fun k e=>Or.inr e)).trans (T4.mono (fun k e=>Or.inl e));have kB:(put6 (w3.setCell ⟨w.heap.size+1+1,5,none⟩ (.slice ap W.pn cp)) (w.heap.size+1) (.slice p0 W.zRQ.n q0) (.slice p1 W.zRQ.hn q1) (.int .i64 W.time) (.int .i64 W.next) (.slice av W.sn cv) (.slice ap W.pn cp)).heap.size=w3.heap.size:=by simp only[World.size_setCell]
 refine bodyPost_ret (v:=.agg #[.slice p0 W.zRQ.n q0,.slice p1 W.zRQ.hn q1,.int .i64 W.time,.int .i64 W.next,.slice av W.sn cv,.slice ap W.pn cp]) (by simp[results,Tryz.results9,go_sem,HR.1.1,HR.2.1.1,HR.2.2.1.1,HR.2.2.2.1.1,HR.2.2.2.2.1.1,HR.2.2.2.2.2.1]) rfl ⟨_,_,_,_,rfl,?_,?_⟩
 ·refine⟨fun k=>W0.heap.size<=k/\k<w1.heap.size,fun k=>W1.heap.size<=k/\k<w2.heap.size,fun k=>W2.heap.size<=k/\k<w3.heap.size,⟨?_,?_,?_,?_,?_,?_⟩,?_⟩
  ·exact(lC.out.isIn (S:=fun k=>W0.heap.size<=k/\k<w1.heap.size) (fun k h1 h2=>⟨h1,h2⟩)).zRR TT (fun k hk e=>by omega)
  ·exact jC.out.zRR TT (fun k hk e=>by omega)
  ·exact gC.out.zRR TT (fun k hk e=>by omega)
  ·exact fun k hk e=>by omega
  ·exact fun k hk e=>by omega
  ·exact fun k hk e=>by omega
  ·intro k hk;show w.heap.size<=k/\k<(put6 _ _ _ _ _ _ _ _).heap.size;rw[kB];omega
 ·exact((kC.trans (TT.zRJ (B:=w.heap.size) (by omega) (fun k e=>by omega))))
theorem zM2(v:Value)(n lo hi:Nat)(f:Nat->qC)(left:Int)(w:World)(h1:yY w lo hi v n f)(lA:0<=left)(kA:left<=1048576) :
  Calls Tryz.prog 23 #[v,.int .i64 left] w fun e w'=>zC6 (n+zBM f n) left e/\Below w.heap.size w w':=by
 have H1:=zB h1;obtain⟨m1,a,c,rfl,mc,-⟩:=id h1;unfold maxLen at m1;clear h1;by_cases h:left - (n:Int)<0
 ·go_enter Tryz.func23,Tryz.ntmps23;go_wp2;go_ret;exact⟨⟨-1,rfl,by omega,by omega,by omega⟩,Below.refl _ _⟩
 ·go_enter Tryz.func23,Tryz.ntmps23;go_wp2
  go_loopw [1,5] (fun m i wr=>∃(k:Nat) (r:Int),k<=n/\i = .int .i64 k/\m = .int .i64 r/\0<=r/\r+n+zBM f k=left/\Below w.heap.size w wr) (fun _ i _=>n - (intOf i).toNat)
  case atStart=>exact⟨0,_,Nat.zero_le _,rfl,rfl,by omega,by simp[zBM],Below.refl _ _⟩
  case round=>
   obtain⟨k,r,hk,rfl,rfl,fA,hr,hb⟩:=hrel;have eA:r<=left:=(by omega);have Hr:=zB hr;clear hr;by_cases gA:k<n
   ·have iA:(k:Int)<(n:Int):=(by omega);obtain⟨b,off,vd,rfl,aA⟩:=(H1.out.zRJ hb).cells gA;obtain⟨-,ad,cd,rfl,-,-⟩:=id aA.zRX;have q0:=aA.c0;have q1:=aA.c1;have q2:=aA.c2;have q3:=aA.c3;have q4:=aA.c4;have q5:=aA.c5;have Hs:=zB aA;clear aA;go_wp2_with fail;refine(zOG _ lo hi (f k) _ _ Hs.out.zRX Hs.out.zRZ fA (by omega)).mono ?_;rintro e w1 ⟨⟨r',rfl,bA,jA,mA⟩,dA⟩;have cA:=zA hb dA;have Hq:=zB bA;clear bA dA q0 q1 q2 q3 q4 q5;by_cases h3:r'<0
    ·go_wp2;go_ret;exact⟨⟨-1,rfl,by omega,by omega,by omega⟩,cA⟩
    ·go_wp2;go_roundw
     case rel=>
      refine⟨k+1,r',by omega,by go_num,rfl,by omega,?_,cA⟩;have e1:=Hq.out (by omega);have e2:=Hr.out;show r'+(n:Int)+((zBM f k+zEt (f k):Nat):Int)=left;omega
     case measure=>simp[intOf];omega
   ·obtain rfl:k=n:=(by omega);go_wp2;go_ret;exact⟨⟨r,rfl,fun _=>by have:=Hr.out;omega,eA,by omega⟩,hb⟩
theorem zL6(v:Value)(n lo hi:Nat)(f:Nat->zm)(left:Int)(w:World)(h1:yB w lo hi v n f)(lA:0<=left)(kA:left<=1048576) :
  Calls Tryz.prog 24 #[v,.int .i64 left] w fun e w'=>zC6 (n+zAw f n) left e/\Below w.heap.size w w':=by
 have H1:=zB h1;obtain⟨m1,a,c,rfl,mc,-⟩:=id h1;unfold maxLen at m1;clear h1;by_cases h:left - (n:Int)<0
 ·go_enter Tryz.func24,Tryz.ntmps24;go_wp2;go_ret;exact⟨⟨-1,rfl,by omega,by omega,by omega⟩,Below.refl _ _⟩
 ·go_enter Tryz.func24,Tryz.ntmps24;go_wp2
  go_loopw [1,5] (fun m i wr=>∃(k:Nat) (r:Int),k<=n/\i = .int .i64 k/\m = .int .i64 r/\0<=r/\r+n+zAw f k=left/\Below w.heap.size w wr) (fun _ i _=>n - (intOf i).toNat)
  case atStart=>exact⟨0,_,Nat.zero_le _,rfl,rfl,by omega,by simp[zAw],Below.refl _ _⟩
  case round=>
   obtain⟨k,r,hk,rfl,rfl,fA,hr,hb⟩:=hrel;have eA:r<=left:=(by omega);have Hr:=zB hr;clear hr;by_cases gA:k<n
   ·have iA:(k:Int)<(n:Int):=(by omega);obtain⟨b,off,vd,rfl,aA⟩:=(H1.out.zRJ hb).cells gA;obtain⟨-,ad,cd,rfl,-,-⟩:=id aA.zRX;have q0:=aA.c0;have q1:=aA.c1;have q2:=aA.c2;have q3:=aA.c3;have q4:=aA.c4;have q5:=aA.c5;have q6:=aA.c6;have q7:=aA.c7;have Hs:=zB aA;clear aA;go_wp2_with fail;refine(zM6 _ lo hi (f k) _ _ Hs.out.zRX Hs.out.zRZ.1 Hs.out.zRZ.2 fA (by omega)).mono ?_;rintro e w1 ⟨⟨r',rfl,bA,jA,mA⟩,dA⟩;have cA:=zA hb dA;have Hq:=zB bA;clear bA dA q0 q1 q2 q3 q4 q5 q6 q7;by_cases h3:r'<0
    ·go_wp2;go_ret;exact⟨⟨-1,rfl,by omega,by omega,by omega⟩,cA⟩
    ·go_wp2;go_roundw
     case rel=>
      refine⟨k+1,r',by omega,by go_num,rfl,by omega,?_,cA⟩;have e1:=Hq.out (by omega);have e2:=Hr.out;show r'+(n:Int)+((zAw f k+zDs (f k):Nat):Int)=left;omega
     case measure=>simp[intOf];omega
   ·obtain rfl:k=n:=(by omega);go_wp2;go_ret;exact⟨⟨r,rfl,fun _=>by have:=Hr.out;omega,eA,by omega⟩,hb⟩
theorem zLK(v0 v1 v2 v3:Value)(lo hi:Nat)(W:zH)(left:Int)(w:World)(h1:zl w lo hi v0 v1 v2 v3 W)(lA:0<=left)(nA:left<=1048576) :
  Calls Tryz.prog 7 #[zz v0 v1 v2 v3 W,.int .i64 left] w fun e w'=>zC6 (yZ W) left e/\Below w.heap.size w w':=by
 have H1:=zB h1;clear h1;have ha:=zC w (.cells #[v0,v1,.int .i64 W.time,.int .i64 W.next,v2,v3] 29);have HX:=zB (zi.zRL w v0 v1 (.int .i64 W.time) (.int .i64 W.next) v2 v3 29);go_enter Tryz.func7,Tryz.ntmps7;go_wp2_with fail;refine(zMJ _ _ lo hi W.zRQ _ _ (H1.out.zRJ ha).zRQ lA nA).mono ?_;rintro e w1 ⟨⟨r,rfl,kA,oA,tA⟩,bA⟩;have aA:=zA ha bA;have eA:=zB (HX.out.zRJ bA);have Hr:=zB kA;clear kA bA ha HX;obtain⟨⟨x0,-⟩,⟨x1,-⟩,⟨x2,-⟩,⟨x3,-⟩,⟨x4,-⟩,⟨x5,-⟩⟩:=eA.out;by_cases h:r<0
 ·go_wp2;go_ret;exact⟨⟨-1,rfl,by omega,by omega,by omega⟩,aA⟩
 ·go_wp2_with fail;refine(zM2 _ W.sn lo hi _ _ _ (H1.out.zRJ aA).zRS (by omega) (by omega)).mono ?_;rintro e w2 ⟨⟨r',rfl,gA,rA,vA⟩,dA⟩;have cA:=zA aA dA;have mA:=zB (eA.out.zRJ dA);have Hq:=zB gA;clear gA dA x0 x1 x2 x3 x4 x5;obtain⟨⟨x0,-⟩,⟨x1,-⟩,⟨x2,-⟩,⟨x3,-⟩,⟨x4,-⟩,⟨x5,-⟩⟩:=mA.out;by_cases h3:r'<0
  ·go_wp2;go_ret;exact⟨⟨-1,rfl,by omega,by omega,by omega⟩,cA⟩
  ·go_wp2_with fail;refine(zL6 _ W.pn lo hi _ _ _ (H1.out.zRJ cA).zRP (by omega) (by omega)).mono ?_;rintro e w3 ⟨⟨r2,rfl,fA,pA,sA⟩,jA⟩;have iA:=zA cA jA;have Hs:=zB fA;clear fA jA;by_cases h4:r2<0
   ·go_wp2;go_ret;exact⟨⟨-1,rfl,by omega,by omega,by omega⟩,iA⟩
   ·go_wp2;go_ret;refine⟨⟨r2,rfl,fun _=>?_,by omega,by omega⟩,iA⟩;have e1:=Hq.out (by omega);have e2:=Hr.out (by omega);have e3:=Hs.out (by omega);unfold yZ;omega
end Go.Proofs.YtmgeglgboadfiaaGreatDoor
