/- What laws.eqWorldOut, markWorldOut and heldWorldOut answer. -/
import Derived.Test.YtmgeglgboadfiaaGreatDoorT24
import Derived.Deep.Slices
import Derived.Deep.SlicePairs
import Derived.Deep.Strs
import Derived.Lib.SmallJoins
set_option linter.unusedVariables false
set_option maxRecDepth 20000
set_option maxHeartbeats 4000000
namespace Go.Proofs.YtmgeglgboadfiaaGreatDoor
open Go.RowKit
theorem zEU(v0 v1 v2 v3 x0 x1 x2 x3:Value)(lo hi lo' hi':Nat)(o:zBz)(w:World)(h1:zl w lo hi v0 v1 v2 v3 o.world)(h2:zl w lo' hi' x0 x1 x2 x3 o.world) :
  Calls Tryz.prog 11 #[zHs v0 v1 v2 v3 o,zHs x0 x1 x2 x3 o] w fun e w'=>e = .returned (.bool true)/\Below w.heap.size w w':=by
 obtain⟨a0,cA,a1,aA,a2,dA,a3,bA,rfl,rfl,rfl,rfl⟩:=h1.form;obtain⟨c0,eA,c1,fA,c2,jA,c3,iA,rfl,rfl,rfl,rfl⟩:=h2.form;have H1:=zd h1;have H2:=zd h2;clear h1 h2;have ha:=zC w (.cells #[.slice a0 o.world.zRQ.n cA,.slice a1 o.world.zRQ.hn aA,.int .i64 o.world.time,.int .i64 o.world.next,.slice a2 o.world.sn dA,.slice a3 o.world.pn bA,.int .i64 o.id,.int .i64 o.zRb,.int .i64 o.code] 39);have gA:=zC (w.alloc (.cells #[.slice a0 o.world.zRQ.n cA,.slice a1 o.world.zRQ.hn aA,.int .i64 o.world.time,.int .i64 o.world.next,.slice a2 o.world.sn dA,.slice a3 o.world.pn bA,.int .i64 o.id,.int .i64 o.zRb,.int .i64 o.code] 39)) (.cells #[.slice c0 o.world.zRQ.n eA,.slice c1 o.world.zRQ.hn fA,.int .i64 o.world.time,.int .i64 o.world.next,.slice c2 o.world.sn jA,.slice c3 o.world.pn iA,.int .i64 o.id,.int .i64 o.zRb,.int .i64 o.code] 39);have hb:=zA ha gA;have HA:=(yn.zRL w (.slice a0 o.world.zRQ.n cA) (.slice a1 o.world.zRQ.hn aA) (.int .i64 o.world.time) (.int .i64 o.world.next) (.slice a2 o.world.sn dA) (.slice a3 o.world.pn bA) (.int .i64 o.id) (.int .i64 o.zRb) (.int .i64 o.code) 39).zRJ gA;have HB:=yn.zRL (w.alloc (.cells #[.slice a0 o.world.zRQ.n cA,.slice a1 o.world.zRQ.hn aA,.int .i64 o.world.time,.int .i64 o.world.next,.slice a2 o.world.sn dA,.slice a3 o.world.pn bA,.int .i64 o.id,.int .i64 o.zRb,.int .i64 o.code] 39)) (.slice c0 o.world.zRQ.n eA) (.slice c1 o.world.zRQ.hn fA) (.int .i64 o.world.time) (.int .i64 o.world.next) (.slice c2 o.world.sn jA) (.slice c3 o.world.pn iA) (.int .i64 o.id) (.int .i64 o.zRb) (.int .i64 o.code) 39;rw[World.size_alloc]at HB;obtain⟨⟨p0,-⟩,⟨p1,-⟩,⟨p2,-⟩,⟨p3,-⟩,⟨p4,-⟩,⟨p5,-⟩,⟨p6,-⟩,⟨p7,-⟩,⟨p8,-⟩⟩:=id HA;obtain⟨⟨q0,-⟩,⟨q1,-⟩,⟨q2,-⟩,⟨q3,-⟩,⟨q4,-⟩,⟨q5,-⟩,⟨q6,-⟩,⟨q7,-⟩,⟨q8,-⟩⟩:=id HB;go_enter Tryz.func11,Tryz.ntmps11;go_wp2_with fail;clear p0 p1 p2 p3 p4 p5 p6 p7 p8 q0 q1 q2 q3 q4 q5 q6 q7 q8;generalize ((w.alloc (.cells #[.slice a0 o.world.zRQ.n cA,.slice a1 o.world.zRQ.hn aA,.int .i64 o.world.time,.int .i64 o.world.next,.slice a2 o.world.sn dA,.slice a3 o.world.pn bA,.int .i64 o.id,.int .i64 o.zRb,.int .i64 o.code] 39)).alloc (.cells #[.slice c0 o.world.zRQ.n eA,.slice c1 o.world.zRQ.hn fA,.int .i64 o.world.time,.int .i64 o.world.next,.slice c2 o.world.sn jA,.slice c3 o.world.pn iA,.int .i64 o.id,.int .i64 o.zRb,.int .i64 o.code] 39))=W2 at hb HA HB ⊢;clear ha gA;refine(zFj _ _ _ _ _ _ _ _ _ _ _ _ o.world W2 (H1.out.zRJ hb) (H2.out.zRJ hb)).mono ?_;rintro e w3 ⟨rfl,kA⟩;obtain⟨-,-,-,-,-,-,⟨p6,-⟩,⟨p7,-⟩,⟨p8,-⟩⟩:=HA.zRJ kA;obtain⟨-,-,-,-,-,-,⟨q6,-⟩,⟨q7,-⟩,⟨q8,-⟩⟩:=HB.zRJ kA;have nA:(o.id != o.id)=false:=by simp
 have mA:(o.zRb != o.zRb)=false:=by simp
 have lA:(o.code != o.code)=false:=by simp
 go_wp2;go_ret;exact⟨rfl,zA hb kA⟩
theorem zJt(lo hi:Nat)(v0 v1 v2 v3:Value)(o:zBz)(k0:Int)(w:World)(h:qO w lo hi v0 v1 v2 v3 o.world)(hh:hi<=w.heap.size)(fA:0<=k0)(eA:zAq o.world k0<=1000000000000) :
  Calls Tryz.prog 14 #[zHs v0 v1 v2 v3 o,.int .i64 k0] w fun e w'=>e = .returned (.int .i64 (zAq o.world k0))/\qO w' lo hi v0 v1 v2 v3 (zNT o.world k0)/\zF (fun k=>lo<=k/\k<hi) w w':=by
 have H:=zd h;obtain⟨a0,cA,a1,aA,a2,dA,a3,bA,rfl,rfl,rfl,rfl⟩:=h.form;clear h;have ha:=zC w (.cells #[.slice a0 o.world.zRQ.n cA,.slice a1 o.world.zRQ.hn aA,.int .i64 o.world.time,.int .i64 o.world.next,.slice a2 o.world.sn dA,.slice a3 o.world.pn bA,.int .i64 o.id,.int .i64 o.zRb,.int .i64 o.code] 39);obtain⟨⟨p0,-⟩,⟨p1,-⟩,⟨p2,-⟩,⟨p3,-⟩,⟨p4,-⟩,⟨p5,-⟩,⟨p6,-⟩,⟨p7,-⟩,⟨p8,-⟩⟩:=yn.zRL w (.slice a0 o.world.zRQ.n cA) (.slice a1 o.world.zRQ.hn aA) (.int .i64 o.world.time) (.int .i64 o.world.next) (.slice a2 o.world.sn dA) (.slice a3 o.world.pn bA) (.int .i64 o.id) (.int .i64 o.zRb) (.int .i64 o.code) 39;have gA:¬zAq o.world k0<0:=by have h1:=zDd o.world k0;omega
 go_enter Tryz.func14,Tryz.ntmps14;go_wp2_with fail;clear p0 p1 p2 p3 p4 p5 p6 p7 p8;generalize (w.alloc (.cells #[.slice a0 o.world.zRQ.n cA,.slice a1 o.world.zRQ.hn aA,.int .i64 o.world.time,.int .i64 o.world.next,.slice a2 o.world.sn dA,.slice a3 o.world.pn bA,.int .i64 o.id,.int .i64 o.zRb,.int .i64 o.code] 39))=W2 at ha ⊢;refine(zE1 lo hi _ _ _ _ o.world k0 W2 (H.out.zRJ ha) fA eA).mono ?_;rintro e w3 ⟨rfl,ho,hT⟩;have Ho:=zd ho;clear ho;go_wp2;go_ret;exact⟨rfl,Ho.out,(zF.zRM ha).trans hT⟩
theorem zF3(lo hi:Nat)(v0 v1 v2 v3:Value)(o:zBz)(k0:Int)(w:World)(h:zl w lo hi v0 v1 v2 v3 (zNT o.world k0))(aA:0<=k0)(bA:zAq o.world k0<=1000000000000) :
  Calls Tryz.prog 15 #[zHs v0 v1 v2 v3 o,.int .i64 k0] w fun e w'=>e = .returned (.int .i64 (zAq o.world k0))/\Below w.heap.size w w':=by
 have H:=zd h;clear h;have dA:¬zAq o.world k0<0:=by have h1:=zDd o.world k0;omega
 have ha:=zC w (.cells #[v0,v1,.int .i64 o.world.time,.int .i64 o.world.next,v2,v3,.int .i64 o.id,.int .i64 o.zRb,.int .i64 o.code] 39);obtain⟨⟨p0,-⟩,⟨p1,-⟩,⟨p2,-⟩,⟨p3,-⟩,⟨p4,-⟩,⟨p5,-⟩,⟨p6,-⟩,⟨p7,-⟩,⟨p8,-⟩⟩:=yn.zRL w (v0) (v1) (.int .i64 o.world.time) (.int .i64 o.world.next) (v2) (v3) (.int .i64 o.id) (.int .i64 o.zRb) (.int .i64 o.code) 39;go_enter Tryz.func15,Tryz.ntmps15;go_wp2_with fail;clear p0 p1 p2 p3 p4 p5 p6 p7 p8;generalize (w.alloc (.cells #[v0,v1,.int .i64 o.world.time,.int .i64 o.world.next,v2,v3,.int .i64 o.id,.int .i64 o.zRb,.int .i64 o.code] 39))=W2 at ha ⊢;refine(zIx lo hi _ _ _ _ o.world k0 W2 (H.out.zRJ ha) aA bA).mono ?_;rintro e w3 ⟨rfl,cA⟩;go_wp2;go_ret;exact⟨rfl,zA ha cA⟩
open Go.Deep Go.Joins
open Go.ChangeShapes Go.WideShapes Go.ChangeAt
set_option maxRecDepth 20000
section
variable {H : Type} {enc : TypeId × Value -> H} {W : World} {spare : Nat -> Bool} {held : Bool}
theorem zBV{w:World}{a:Addr}{v:Value}(h:w.cell? a=some v):∃b off,a=⟨b,off,none⟩:=by
 obtain⟨b,off,spot⟩:=a;have hs:spot=none:=by simpa using World.cell?_spot h
 subst hs;exact⟨b,off,rfl⟩
theorem zAZ{v:Value}{a:Option Addr}{n c:Nat}(h:[v] = [Value.slice a n c]):v = .slice a n c:=by simpa using h
theorem zKD{bA:Nat}{v:Value}{x:DataW H×List MemPlace}(h:DataW.trod enc Tryz.prog W 0 spare held bA 23 [v]=some x):∃n f,qT W 0 W.heap.size v n f:=by
 rcases open_slice1 (t:=23) (e:=2) (by kernel_rfl) (by kernel_rfl) h with⟨hv,_⟩ | ⟨a,len,cA,m,n,V,D,Pl,hv,_,hl,hm,dA,_,hx⟩
 ·exact⟨0,fun _=>0,Nat.zero_le _,none,0,zAZ hv,Nat.le_refl _,fun h=>absurd h (Nat.lt_irrefl _)⟩
 ·have eA:len<=m:=(by rw[dA];split<;>omega);have hV:∀i,i<len->∃z:Int,V i = .int .i64 z:=fun i hi=>by
   obtain⟨_,ht⟩:=hx i (by omega);obtain⟨z,hz,_⟩:=DataW.trod_int (show Tryz.prog.underlying 2=some (.int .i64)by kernel_rfl) ht;exact⟨z,by simpa using hz⟩
  refine⟨len,fun i=>intOf (V i),by unfold maxLen at *;omega,some a,cA,zAZ hv,hl,fun h0=>?_⟩;have aA:=(hx 0 (by omega)).1;rw[show a.add 0=a by simp[Addr.add]]at aA;obtain⟨b,off,rfl⟩:=zBV aA;refine⟨b,off,rfl,Nat.zero_le _,zD aA,fun i hi=>?_⟩;have hc:=(hx i (by omega)).1;rw[Addr.add_mid]at hc;obtain⟨z,hz⟩:=hV i hi;show _=some (Value.int .i64 (intOf (V i)));rw[hc,hz];rfl
theorem qY{t T o c i:Nat}{aA:Nat}{cs:List Value}{x:DataW H×List MemPlace}(hs:Tryz.prog.underlying t=some (.struct (Tryz.prog.fieldsOf t)))(hf:((Tryz.prog.fieldsOf t)[i]?).map (fun f=>(f.type,f.offset))=some (T,o))
  (hc:Tryz.prog.cellsOf T=c) (h:DataW.trod enc Tryz.prog W 0 spare held aA t cs=some x):∃n y,DataW.trod enc Tryz.prog W 0 spare held n T ((cs.drop o).take c)=some y:=by
 obtain⟨f,bA,cA⟩:=Option.map_eq_some_iff.1 hf;simp only[Prod.mk.injEq]at cA;obtain⟨rfl,rfl⟩:=cA;obtain⟨xs,n,_,_,_,eA,dA⟩:=DataW.trod_struct hs h;have hi:i<(Tryz.prog.fieldsOf t).size:=(Array.getElem?_eq_some_iff.1 bA).1;have:=dA i f bA;rw[hc,List.getElem?_eq_getElem (by omega)]at this;exact⟨n,_,this⟩
theorem zCh{aA:Nat}{c0 c1:Value}{x:DataW H×List MemPlace}(h:DataW.trod enc Tryz.prog W 0 spare held aA 113 [c0,c1]=some x):∃y z:Int,c0 = .int .i64 y/\c1 = .int .i64 z:=by
 obtain⟨n0,y0,h0⟩:=qY (t:=113) (T:=2) (o:=0) (c:=1) (i:=0) (by kernel_rfl) (by kernel_rfl) (by kernel_rfl) h;obtain⟨n1,y1,h1⟩:=qY (t:=113) (T:=2) (o:=1) (c:=1) (i:=1) (by kernel_rfl) (by kernel_rfl) (by kernel_rfl) h;obtain⟨y,hy,_⟩:=DataW.trod_int (show Tryz.prog.underlying 2=some (.int .i64)by kernel_rfl) h0;obtain⟨z,hz,_⟩:=DataW.trod_int (show Tryz.prog.underlying 2=some (.int .i64)by kernel_rfl) h1;exact⟨y,z,by simpa using hy,by simpa using hz⟩
theorem zDV{dA:Nat}{v:Value}{x:DataW H×List MemPlace}(h:DataW.trod enc Tryz.prog W 0 spare held dA 114 [v]=some x):∃n f g,zR W 0 W.heap.size v n f g:=by
 rcases open_slice (t:=114) (e:=113) (by kernel_rfl) h with⟨hv,_⟩ | ⟨a,len,eA,m,n,D,Pl,hv,_,hl,hm,fA,_,hx⟩
 ·exact⟨0,fun _=>0,fun _=>0,Nat.zero_le _,none,0,zAZ hv,Nat.le_refl _,fun h=>absurd h (Nat.lt_irrefl _)⟩
 ·have jA:len<=m:=(by rw[fA];split<;>omega);have iA:Tryz.prog.cellsOf 113=2:=(by kernel_rfl);rw[iA]at hx;have hV:∀i,i<len->∃y z:Int,W.cell? (a.add (i*2))=some (.int .i64 y)/\W.cell? ((a.add (i*2)).add 1)=some (.int .i64 z):=fun i hi=>by
   obtain⟨cs,gA,ht⟩:=hx i (by omega);obtain⟨_,cA,aA⟩:=World.cells?_some gA
   match cs,cA with
   | [c0,c1],_=>
    obtain⟨y,z,rfl,rfl⟩:=zCh ht;have q0:=aA 0 (by omega);have q1:=aA 1 (by omega);rw[show(a.add (i*2)).add 0=a.add (i*2)by simp[Addr.add]]at q0;exact⟨y,z,by simpa using q0,by simpa using q1⟩
  refine⟨len,fun i=>intOf ((W.cell? (a.add (i*2))).getD undef),fun i=>intOf ((W.cell? ((a.add (i*2)).add 1)).getD undef),by unfold maxLen at *;omega,some a,eA,zAZ hv,hl,fun h0=>?_⟩;obtain⟨y,z,bA,_⟩:=hV 0 h0;rw[show a.add (0*2)=a by simp[Addr.add]]at bA;obtain⟨b,off,rfl⟩:=zBV bA;refine⟨b,off,rfl,Nat.zero_le _,zD bA,fun i hi=>?_⟩;obtain⟨y,z,q0,q1⟩:=hV i hi;show _=some (Value.int .i64 (intOf ((W.cell? _).getD undef)))/\_=some (Value.int .i64 (intOf ((W.cell? _).getD undef)));rw[q0,q1];rw[Addr.add_mid,Addr.add_mid]at q1;rw[Addr.add_mid]at q0;exact⟨q0,q1⟩
theorem zHC{aA:Nat}{c0 c1 c2:Value}{x:DataW H×List MemPlace}(h:DataW.trod enc Tryz.prog W 0 spare held aA 183 [c0,c1,c2]=some x):∃s,qI W 0 W.heap.size c0 c1 c2 s:=by
 obtain⟨n0,y0,h0⟩:=qY (t:=183) (T:=2) (o:=0) (c:=1) (i:=0) (by kernel_rfl) (by kernel_rfl) (by kernel_rfl) h;obtain⟨n1,y1,h1⟩:=qY (t:=183) (T:=114) (o:=1) (c:=1) (i:=1) (by kernel_rfl) (by kernel_rfl) (by kernel_rfl) h;obtain⟨n2,y2,h2⟩:=qY (t:=183) (T:=9) (o:=2) (c:=1) (i:=2) (by kernel_rfl) (by kernel_rfl) (by kernel_rfl) h;obtain⟨y,hy,_⟩:=DataW.trod_int (show Tryz.prog.underlying 2=some (.int .i64)by kernel_rfl) h0;obtain⟨n,f,g,hp⟩:=zDV (v:=c1) (by simpa using h1);obtain⟨d,hd,_,bA⟩:=DataW.trod_string (show Tryz.prog.underlying 9=some .string by kernel_rfl) h2;exact⟨⟨y,n,f,g,d⟩,by simpa using hy,hp,by simpa using hd,bA⟩
theorem zIh{dA:Nat}{v:Value}{x:DataW H×List MemPlace}(h:DataW.trod enc Tryz.prog W 0 spare held dA 22 [v]=some x):∃n f,qA W 0 W.heap.size v n f:=by
 rcases open_slice (t:=22) (e:=183) (by kernel_rfl) h with⟨hv,_⟩ | ⟨a,len,gA,m,n,D,Pl,hv,_,hl,hm,iA,_,hx⟩
 ·exact⟨0,fun _=>⟨0,0,fun _=>0,fun _=>0,ByteArray.empty⟩,Nat.zero_le _,none,0,zAZ hv,Nat.le_refl _,fun h=>absurd h (Nat.lt_irrefl _)⟩
 ·have kA:len<=m:=(by rw[iA];split<;>omega);have eA:Tryz.prog.cellsOf 183=3:=(by kernel_rfl);rw[eA]at hx;have hV:∀i,i<len->∃s:zL,∃c0 c1 c2,W.cell? (a.add (i*3))=some c0/\W.cell? ((a.add (i*3)).add 1)=some c1/\W.cell? ((a.add (i*3)).add 2)=some c2/\qI W 0 W.heap.size c0 c1 c2 s:=fun i hi=>by
   obtain⟨cs,jA,ht⟩:=hx i (by omega);obtain⟨_,cA,aA⟩:=World.cells?_some jA
   match cs,cA with
   | [c0,c1,c2],_=>
    obtain⟨s,hs⟩:=zHC ht;have q0:=aA 0 (by omega);have q1:=aA 1 (by omega);have q2:=aA 2 (by omega);rw[show(a.add (i*3)).add 0=a.add (i*3)by simp[Addr.add]]at q0;exact⟨s,c0,c1,c2,by simpa using q0,by simpa using q1,by simpa using q2,hs⟩
  have fA:Inhabited zL:=⟨⟨0,0,fun _=>0,fun _=>0,ByteArray.empty⟩⟩;obtain⟨f,hf⟩:=choose_lt (α:=zL) (p:=fun i s=>∃c0 c1 c2,W.cell? (a.add (i*3))=some c0/\W.cell? ((a.add (i*3)).add 1)=some c1/\W.cell? ((a.add (i*3)).add 2)=some c2/\qI W 0 W.heap.size c0 c1 c2 s) hV;refine⟨len,f,by unfold maxLen at *;omega,some a,gA,zAZ hv,hl,fun h0=>?_⟩;obtain⟨c0,c1,c2,bA,_⟩:=hf 0 h0;rw[show a.add (0*3)=a by simp[Addr.add]]at bA;obtain⟨b,off,rfl⟩:=zBV bA;refine⟨b,off,rfl,Nat.zero_le _,zD bA,fun i hi=>?_⟩;obtain⟨c0,c1,c2,q0,q1,q2,hs⟩:=hf i hi;rw[Addr.add_mid,Addr.add_mid]at q1 q2;rw[Addr.add_mid]at q0;exact⟨c0,c1,c2,q0,q1,q2,hs⟩
end
set_option maxRecDepth 20000
section
variable {H : Type} {enc : TypeId × Value -> H} {W : World} {spare : Nat -> Bool} {held : Bool}
def zMF(s:qC):Prop:=(Lit.int .i64 s.origin).wf=true/\(Lit.int .i64 s.zRT).wf=true
theorem zHf{aA:Nat}{c0 c1 c2 c3 c4 c5:Value}{x:DataW H×List MemPlace}(h:DataW.trod enc Tryz.prog W 0 spare held aA 116 [c0,c1,c2,c3,c4,c5]=some x):∃s:qC,c0 = .string s.name/\c1 = .int .i64 s.origin/\c2 = .int .i64 s.zRT/\c3 = .int .i64 s.rs/\c4 = .int .i64 s.rb/\zR W 0 W.heap.size c5 s.dn s.ds s.db/\s.name.size<=maxLen/\zMF s:=by
 obtain⟨n0,y0,h0⟩:=qY (t:=116) (T:=9) (o:=0) (c:=1) (i:=0) (by kernel_rfl) (by kernel_rfl) (by kernel_rfl) h;obtain⟨z0,e0,-,w0⟩:=DataW.trod_string (show Tryz.prog.underlying 9=some .string by kernel_rfl) h0;obtain⟨n1,y1,h1⟩:=qY (t:=116) (T:=2) (o:=1) (c:=1) (i:=1) (by kernel_rfl) (by kernel_rfl) (by kernel_rfl) h;obtain⟨z1,e1,-,w1⟩:=DataW.trod_int (show Tryz.prog.underlying 2=some (.int .i64)by kernel_rfl) h1;obtain⟨n2,y2,h2⟩:=qY (t:=116) (T:=2) (o:=2) (c:=1) (i:=2) (by kernel_rfl) (by kernel_rfl) (by kernel_rfl) h;obtain⟨z2,e2,-,w2⟩:=DataW.trod_int (show Tryz.prog.underlying 2=some (.int .i64)by kernel_rfl) h2;obtain⟨n3,y3,h3⟩:=qY (t:=116) (T:=113) (o:=3) (c:=2) (i:=3) (by kernel_rfl) (by kernel_rfl) (by kernel_rfl) h;obtain⟨z3,cA,e3,bA⟩:=zCh (c0:=c3) (c1:=c4) (by simpa using h3);obtain⟨n4,y4,h4⟩:=qY (t:=116) (T:=114) (o:=5) (c:=1) (i:=4) (by kernel_rfl) (by kernel_rfl) (by kernel_rfl) h;obtain⟨dn,ds,db,hp⟩:=zDV (v:=c5) (by simpa using h4);exact⟨⟨z0,z1,z2,z3,cA,dn,ds,db⟩,by simpa using e0,by simpa using e1,by simpa using e2,e3,bA,hp,w0,w1,w2⟩
theorem zKh{dA:Nat}{v:Value}{x:DataW H×List MemPlace}(h:DataW.trod enc Tryz.prog W 0 spare held dA 26 [v]=some x):∃n f,yW W 0 W.heap.size v n f/\∀i,i<n->zMF (f i):=by
 rcases open_slice (t:=26) (e:=116) (by kernel_rfl) h with⟨hv,_⟩ | ⟨a,len,jA,m,n,D,Pl,hv,_,hl,hm,kA,_,hx⟩
 ·exact⟨0,fun _=>⟨ByteArray.empty,0,0,0,0,0,fun _=>0,fun _=>0⟩,⟨Nat.zero_le _,none,0,zAZ hv,Nat.le_refl _,fun h=>absurd h (Nat.lt_irrefl _)⟩,fun i hi=>absurd hi (Nat.not_lt_zero _)⟩
 ·have mA:len<=m:=(by rw[kA];split<;>omega);have fA:Tryz.prog.cellsOf 116=6:=(by kernel_rfl);rw[fA]at hx;have hV:∀i,i<len->∃s:qC,(∃c0 c1 c2 c3 c4 c5,W.cell? (a.add (i*6))=some c0/\W.cell? ((a.add (i*6)).add 1)=some c1/\W.cell? ((a.add (i*6)).add 2)=some c2/\W.cell? ((a.add (i*6)).add 3)=some c3/\W.cell? ((a.add (i*6)).add 4)=some c4/\W.cell? ((a.add (i*6)).add 5)=some c5/\c0 = .string s.name/\c1 = .int .i64 s.origin/\c2 = .int .i64 s.zRT/\c3 = .int .i64 s.rs/\c4 = .int .i64 s.rb/\zR W 0 W.heap.size c5 s.dn s.ds s.db/\s.name.size<=maxLen/\zMF s):=fun i hi=>by
   obtain⟨cs,lA,ht⟩:=hx i (by omega);obtain⟨_,cA,aA⟩:=World.cells?_some lA
   match cs,cA with
   | [c0,c1,c2,c3,c4,c5],_=>
    obtain⟨s,hs⟩:=zHf ht;have q0:=aA 0 (by omega);have q1:=aA 1 (by omega);have q2:=aA 2 (by omega);have q3:=aA 3 (by omega);have q4:=aA 4 (by omega);have q5:=aA 5 (by omega);rw[show(a.add (i*6)).add 0=a.add (i*6)by simp[Addr.add]]at q0;exact⟨s,c0,c1,c2,c3,c4,c5,by simpa using q0,by simpa using q1,by simpa using q2,by simpa using q3,by simpa using q4,by simpa using q5,hs⟩
  have gA:Inhabited qC:=⟨⟨ByteArray.empty,0,0,0,0,0,fun _=>0,fun _=>0⟩⟩;obtain⟨f,hf⟩:=choose_lt (α:=qC) (p:=fun i s=>(∃c0 c1 c2 c3 c4 c5,W.cell? (a.add (i*6))=some c0/\W.cell? ((a.add (i*6)).add 1)=some c1/\W.cell? ((a.add (i*6)).add 2)=some c2/\W.cell? ((a.add (i*6)).add 3)=some c3/\W.cell? ((a.add (i*6)).add 4)=some c4/\W.cell? ((a.add (i*6)).add 5)=some c5/\c0 = .string s.name/\c1 = .int .i64 s.origin/\c2 = .int .i64 s.zRT/\c3 = .int .i64 s.rs/\c4 = .int .i64 s.rb/\zR W 0 W.heap.size c5 s.dn s.ds s.db/\s.name.size<=maxLen/\zMF s)) hV;refine⟨len,f,⟨by unfold maxLen at *;omega,some a,jA,zAZ hv,hl,fun h0=>?_⟩,fun i hi=>?_⟩
  ·obtain⟨c0,c1,c2,c3,c4,c5,bA,_⟩:=hf 0 h0;rw[show a.add (0*6)=a by simp[Addr.add]]at bA;obtain⟨b,off,rfl⟩:=zBV bA;refine⟨b,off,rfl,Nat.zero_le _,zD bA,fun i hi=>?_⟩;obtain⟨c0,c1,c2,c3,c4,c5,q0,q1,q2,q3,q4,q5,rfl,rfl,rfl,rfl,rfl,hp,iA,eA⟩:=hf i hi;rw[Addr.add_mid,Addr.add_mid]at q1 q2 q3 q4 q5;rw[Addr.add_mid]at q0;exact⟨c5,q0,q1,q2,q3,q4,q5,hp,iA⟩
  ·obtain⟨c0,c1,c2,c3,c4,c5,-,-,-,-,-,-,-,-,-,-,-,-,-,eA⟩:=hf i hi;exact eA
def zIG(s:zm):Prop:=(Lit.int .i64 s.id).wf=true/\(Lit.int .i64 s.zRT).wf=true/\(Lit.int .i64 s.time).wf=true
theorem zHF{aA:Nat}{c0 c1 c2 c3 c4 c5 c6 c7:Value}{x:DataW H×List MemPlace}(h:DataW.trod enc Tryz.prog W 0 spare held aA 119 [c0,c1,c2,c3,c4,c5,c6,c7]=some x):∃s:zm,c0 = .int .i64 s.id/\c1 = .string s.name/\c2 = .string s.set/\c3 = .int .i64 s.zRT/\c4 = .int .i64 s.time/\c5 = .int .i64 s.rs/\c6 = .int .i64 s.rb/\zR W 0 W.heap.size c7 s.dn s.ds s.db/\(s.name.size<=maxLen/\s.set.size<=maxLen)/\zIG s:=by
 obtain⟨n0,y0,h0⟩:=qY (t:=119) (T:=2) (o:=0) (c:=1) (i:=0) (by kernel_rfl) (by kernel_rfl) (by kernel_rfl) h;obtain⟨z0,e0,-,w0⟩:=DataW.trod_int (show Tryz.prog.underlying 2=some (.int .i64)by kernel_rfl) h0;obtain⟨n1,y1,h1⟩:=qY (t:=119) (T:=9) (o:=1) (c:=1) (i:=1) (by kernel_rfl) (by kernel_rfl) (by kernel_rfl) h;obtain⟨z1,e1,-,w1⟩:=DataW.trod_string (show Tryz.prog.underlying 9=some .string by kernel_rfl) h1;obtain⟨n2,y2,h2⟩:=qY (t:=119) (T:=9) (o:=2) (c:=1) (i:=2) (by kernel_rfl) (by kernel_rfl) (by kernel_rfl) h;obtain⟨z2,e2,-,w2⟩:=DataW.trod_string (show Tryz.prog.underlying 9=some .string by kernel_rfl) h2;obtain⟨n3,y3,h3⟩:=qY (t:=119) (T:=2) (o:=3) (c:=1) (i:=3) (by kernel_rfl) (by kernel_rfl) (by kernel_rfl) h;obtain⟨z3,e3,-,w3⟩:=DataW.trod_int (show Tryz.prog.underlying 2=some (.int .i64)by kernel_rfl) h3;obtain⟨n4,y4,h4⟩:=qY (t:=119) (T:=2) (o:=4) (c:=1) (i:=4) (by kernel_rfl) (by kernel_rfl) (by kernel_rfl) h;obtain⟨z4,e4,-,w4⟩:=DataW.trod_int (show Tryz.prog.underlying 2=some (.int .i64)by kernel_rfl) h4;obtain⟨n5,y5,h5⟩:=qY (t:=119) (T:=113) (o:=5) (c:=2) (i:=5) (by kernel_rfl) (by kernel_rfl) (by kernel_rfl) h;obtain⟨z5,cA,e5,bA⟩:=zCh (c0:=c5) (c1:=c6) (by simpa using h5);obtain⟨n6,y6,h6⟩:=qY (t:=119) (T:=114) (o:=7) (c:=1) (i:=6) (by kernel_rfl) (by kernel_rfl) (by kernel_rfl) h;obtain⟨dn,ds,db,hp⟩:=zDV (v:=c7) (by simpa using h6);exact⟨⟨z0,z1,z2,z3,z4,z5,cA,dn,ds,db⟩,by simpa using e0,by simpa using e1,by simpa using e2,by simpa using e3,by simpa using e4,e5,bA,hp,⟨w1,w2⟩,w0,w3,w4⟩
theorem zIp{dA:Nat}{v:Value}{x:DataW H×List MemPlace}(h:DataW.trod enc Tryz.prog W 0 spare held dA 27 [v]=some x):∃n f,yA W 0 W.heap.size v n f/\∀i,i<n->zIG (f i):=by
 rcases open_slice (t:=27) (e:=119) (by kernel_rfl) h with⟨hv,_⟩ | ⟨a,len,jA,m,n,D,Pl,hv,_,hl,hm,kA,_,hx⟩
 ·exact⟨0,fun _=>⟨0,ByteArray.empty,ByteArray.empty,0,0,0,0,0,fun _=>0,fun _=>0⟩,⟨Nat.zero_le _,none,0,zAZ hv,Nat.le_refl _,fun h=>absurd h (Nat.lt_irrefl _)⟩,fun i hi=>absurd hi (Nat.not_lt_zero _)⟩
 ·have mA:len<=m:=(by rw[kA];split<;>omega);have fA:Tryz.prog.cellsOf 119=8:=(by kernel_rfl);rw[fA]at hx;have hV:∀i,i<len->∃s:zm,(∃c0 c1 c2 c3 c4 c5 c6 c7,W.cell? (a.add (i*8))=some c0/\W.cell? ((a.add (i*8)).add 1)=some c1/\W.cell? ((a.add (i*8)).add 2)=some c2/\W.cell? ((a.add (i*8)).add 3)=some c3/\W.cell? ((a.add (i*8)).add 4)=some c4/\W.cell? ((a.add (i*8)).add 5)=some c5/\W.cell? ((a.add (i*8)).add 6)=some c6/\W.cell? ((a.add (i*8)).add 7)=some c7/\c0 = .int .i64 s.id/\c1 = .string s.name/\c2 = .string s.set/\c3 = .int .i64 s.zRT/\c4 = .int .i64 s.time/\c5 = .int .i64 s.rs/\c6 = .int .i64 s.rb/\zR W 0 W.heap.size c7 s.dn s.ds s.db/\(s.name.size<=maxLen/\s.set.size<=maxLen)/\zIG s):=fun i hi=>by
   obtain⟨cs,lA,ht⟩:=hx i (by omega);obtain⟨_,cA,aA⟩:=World.cells?_some lA
   match cs,cA with
   | [c0,c1,c2,c3,c4,c5,c6,c7],_=>
    obtain⟨s,hs⟩:=zHF ht;have q0:=aA 0 (by omega);have q1:=aA 1 (by omega);have q2:=aA 2 (by omega);have q3:=aA 3 (by omega);have q4:=aA 4 (by omega);have q5:=aA 5 (by omega);have q6:=aA 6 (by omega);have q7:=aA 7 (by omega);rw[show(a.add (i*8)).add 0=a.add (i*8)by simp[Addr.add]]at q0;exact⟨s,c0,c1,c2,c3,c4,c5,c6,c7,by simpa using q0,by simpa using q1,by simpa using q2,by simpa using q3,by simpa using q4,by simpa using q5,by simpa using q6,by simpa using q7,hs⟩
  have gA:Inhabited zm:=⟨⟨0,ByteArray.empty,ByteArray.empty,0,0,0,0,0,fun _=>0,fun _=>0⟩⟩;obtain⟨f,hf⟩:=choose_lt (α:=zm) (p:=fun i s=>(∃c0 c1 c2 c3 c4 c5 c6 c7,W.cell? (a.add (i*8))=some c0/\W.cell? ((a.add (i*8)).add 1)=some c1/\W.cell? ((a.add (i*8)).add 2)=some c2/\W.cell? ((a.add (i*8)).add 3)=some c3/\W.cell? ((a.add (i*8)).add 4)=some c4/\W.cell? ((a.add (i*8)).add 5)=some c5/\W.cell? ((a.add (i*8)).add 6)=some c6/\W.cell? ((a.add (i*8)).add 7)=some c7/\c0 = .int .i64 s.id/\c1 = .string s.name/\c2 = .string s.set/\c3 = .int .i64 s.zRT/\c4 = .int .i64 s.time/\c5 = .int .i64 s.rs/\c6 = .int .i64 s.rb/\zR W 0 W.heap.size c7 s.dn s.ds s.db/\(s.name.size<=maxLen/\s.set.size<=maxLen)/\zIG s)) hV;refine⟨len,f,⟨by unfold maxLen at *;omega,some a,jA,zAZ hv,hl,fun h0=>?_⟩,fun i hi=>?_⟩
  ·obtain⟨c0,c1,c2,c3,c4,c5,c6,c7,bA,_⟩:=hf 0 h0;rw[show a.add (0*8)=a by simp[Addr.add]]at bA;obtain⟨b,off,rfl⟩:=zBV bA;refine⟨b,off,rfl,Nat.zero_le _,zD bA,fun i hi=>?_⟩;obtain⟨c0,c1,c2,c3,c4,c5,c6,c7,q0,q1,q2,q3,q4,q5,q6,q7,rfl,rfl,rfl,rfl,rfl,rfl,rfl,hp,iA,eA⟩:=hf i hi;rw[Addr.add_mid,Addr.add_mid]at q1 q2 q3 q4 q5 q6 q7;rw[Addr.add_mid]at q0;exact⟨c7,q0,q1,q2,q3,q4,q5,q6,q7,hp,iA⟩
  ·obtain⟨c0,c1,c2,c3,c4,c5,c6,c7,-,-,-,-,-,-,-,-,-,-,-,-,-,-,-,-,-,eA⟩:=hf i hi;exact eA
structure zHM (W:zH):Prop where
 time:(Lit.int .i64 W.time).wf=true
 next:(Lit.int .i64 W.next).wf=true
 zRS:∀i,i<W.sn->zMF (W.zRS i)
 zRP:∀i,i<W.pn->zIG (W.zRP i)
theorem zHM.prevs{W:zH}(h:zHM W):zCG W:=fun i hi=>by
 unfold zq at hi;by_cases e:i<W.pn
 ·rw[qS e];exact(h.zRP i e).2.1
 ·obtain⟨j,rfl⟩:∃j,i=W.pn+j:=⟨i - W.pn,by omega⟩;rw[yJ];exact(h.zRS j (by omega)).2
theorem zP0{α : Type}{cs:Array α}(h:cs.size=6):∃c0 c1 c2 c3 c4 c5,cs=#[c0,c1,c2,c3,c4,c5]:=by
 obtain⟨l⟩:=cs
 match l,h with
 | [c0,c1,c2,c3,c4,c5],_=>exact⟨c0,c1,c2,c3,c4,c5,rfl⟩
theorem zHD{aA:Nat}{c0 c1:Value}{x:DataW H×List MemPlace}(h:DataW.trod enc Tryz.prog W 0 spare held aA 25 [c0,c1]=some x):∃p,zy W 0 W.heap.size c0 c1 p:=by
 obtain⟨n0,y0,h0⟩:=qY (t:=25) (T:=22) (o:=0) (c:=1) (i:=0) (by kernel_rfl) (by kernel_rfl) (by kernel_rfl) h;obtain⟨n1,y1,h1⟩:=qY (t:=25) (T:=23) (o:=1) (c:=1) (i:=1) (by kernel_rfl) (by kernel_rfl) (by kernel_rfl) h;obtain⟨n,f,cA⟩:=zIh (v:=c0) (by simpa using h0);obtain⟨hn,g,bA⟩:=zKD (v:=c1) (by simpa using h1);exact⟨⟨n,f,hn,g⟩,cA,bA⟩
theorem zMz{r:Reach}{b0:Nat}{v:Value}{d:DataW H}{ps:List MemPlace}(hv:Value.okWide Tryz.prog W r b0 29 v)(h:DataW.Trod enc Tryz.prog W 0 spare held 29 v d ps) :
  ∃v0 v1 v2 v3 D,v=zz v0 v1 v2 v3 D/\zl W 0 W.heap.size v0 v1 v2 v3 D/\zHM D:=by
 have hs:Tryz.prog.underlying 29=some (.struct (Tryz.prog.fieldsOf 29)):=by kernel_rfl
 obtain⟨cs,rfl,cA⟩:=okWide_struct hs hv;obtain⟨c0,c1,c2,c3,c4,c5,rfl⟩:=zP0 (cA.trans (by kernel_rfl));obtain⟨bA,hf⟩:=h;have aA:DataW.trod enc Tryz.prog W 0 spare held bA 29 [c0,c1,c2,c3,c4,c5]=some (d,ps):=by simpa[Value.cells]using hf
 obtain⟨n0,y0,h0⟩:=qY (t:=29) (T:=25) (o:=0) (c:=2) (i:=0) (by kernel_rfl) (by kernel_rfl) (by kernel_rfl) aA;obtain⟨n1,y1,h1⟩:=qY (t:=29) (T:=2) (o:=2) (c:=1) (i:=1) (by kernel_rfl) (by kernel_rfl) (by kernel_rfl) aA;obtain⟨n2,y2,h2⟩:=qY (t:=29) (T:=2) (o:=3) (c:=1) (i:=2) (by kernel_rfl) (by kernel_rfl) (by kernel_rfl) aA;obtain⟨n3,y3,h3⟩:=qY (t:=29) (T:=26) (o:=4) (c:=1) (i:=3) (by kernel_rfl) (by kernel_rfl) (by kernel_rfl) aA;obtain⟨n4,y4,h4⟩:=qY (t:=29) (T:=27) (o:=5) (c:=1) (i:=4) (by kernel_rfl) (by kernel_rfl) (by kernel_rfl) aA;obtain⟨p,hp⟩:=zHD (c0:=c0) (c1:=c1) (by simpa using h0);obtain⟨z1,e1,-,w1⟩:=DataW.trod_int (show Tryz.prog.underlying 2=some (.int .i64)by kernel_rfl) h1;obtain⟨z2,e2,-,w2⟩:=DataW.trod_int (show Tryz.prog.underlying 2=some (.int .i64)by kernel_rfl) h2;obtain⟨sn,f,hS,dA⟩:=zKh (v:=c4) (by simpa using h3);obtain⟨pn,g,hP,eA⟩:=zIp (v:=c5) (by simpa using h4);obtain rfl:c2 = .int .i64 z1:=by simpa using e1
 obtain rfl:c3 = .int .i64 z2:=by simpa using e2
 exact⟨c0,c1,c4,c5,⟨p,z1,z2,sn,f,pn,g⟩,rfl,⟨hp,hS,hP⟩,⟨w1,w2,dA,eA⟩⟩
end
open Go.Maps
theorem zNJ(f:Nat->qC):∀{n i:Nat},i<n->zEr (f i)<=zBJ f n
 | n+1,i,h=>by
  show zEr (f i)<=zBJ f n+zEr (f n);by_cases e:i=n
  ·subst e;omega
  ·have:=zNJ f (show i<n by omega);omega
theorem zM4(v:Value)(n lo hi:Nat)(f:Nat->qC)(w:World)(h1:yW w lo hi v n f)(hn:n+zBJ f n<=1048576) :
  Calls Tryz.prog 31 #[v] w fun e w'=>(∃v' kb kv,e = .returned v'/\yN w' w.heap.size kb kv v' n f/\zBI kb n f/\∀j,j<n->0<(f j).dn->w.heap.size<kb j/\kb j<w'.heap.size)/\Below w.heap.size w w'/\w.heap.size<w'.heap.size:=by
 have H1:=zB h1;obtain⟨m1,a,c,rfl,mc,-⟩:=id h1;have kA:=m1;unfold maxLen at m1;clear h1;have Hn:=zB hn;have oA:=zA9 34 67 (.agg #[.string ⟨#[]⟩,.int .i64 0,.int .i64 0,.int .i64 0,.int .i64 0,.slice none 0 0]) 6 72 (by kernel_rfl) zIC rfl n (by omega) (by omega);clear hn;go_enter Tryz.func31,Tryz.ntmps31;go_wp2
 go_loopw [4] (fun i wr=>∃(k:Nat) (kb:Nat->Nat) (kv:Nat->Value),k<=n/\i = .int .i64 k/\zDZ wr w.heap.size n k f kb kv/\Below w.heap.size w wr/\w.heap.size<wr.heap.size) (fun i _=>n - (intOf i).toNat)
 case atStart=>exact⟨0,fun _=>0,fun _=>.slice none 0 0,Nat.zero_le _,rfl,⟨fun j hj=>by rw[if_neg (by omega)];exact zMY hj rfl,fun i j hi=>absurd hi (by omega),fun j hj=>absurd hj (by omega)⟩,zC _ _,by simp⟩
 case round=>
  obtain⟨k,kb,kv,hk,rfl,cA,hb,jA⟩:=hrel;have aA:=zB cA;clear cA;by_cases eA:k<n
  ·have mA:(k:Int)<(n:Int):=(by omega);obtain⟨b,off,vd,rfl,bA⟩:=(H1.out.zRJ hb).cells eA;obtain⟨-,ad,cd,rfl,-,-⟩:=id bA.zRX;have q0:=bA.c0;have q1:=bA.c1;have q2:=bA.c2;have q3:=bA.c3;have q4:=bA.c4;have q5:=bA.c5;have Hs:=zB bA;clear bA;go_wp2_with fail;refine(zN9 _ lo hi (f k) _ Hs.out.zRX (by have h1:=Hn.out;have h2:=zNJ f eA;unfold zEr at h2;omega)).mono ?_;rintro e w1 ⟨⟨nv,nb,rfl,hp,gA,fA⟩,dA⟩;have lA:=zA hb dA;have hz:=(aA.out.rows k eA).zRJ dA;obtain⟨e0,g0⟩:=hz.c0;obtain⟨e1,g1⟩:=hz.c1;obtain⟨e2,g2⟩:=hz.c2;obtain⟨e3,g3⟩:=hz.c3;obtain⟨e4,g4⟩:=hz.c4;obtain⟨e5,g5⟩:=hz.c5;clear q0 q1 q2 q3 q4 q5 hz;rw[Nat.zero_add]at e0 g0 e1 g1 e2 g2 e3 g3 e4 g4 e5 g5;have Hp:=zB hp;obtain⟨-,na,nc,rfl,-,-⟩:=id hp;clear hp;have iA:w.heap.size<w1.heap.size:=(by have:=dA.size;omega);have nA:=zB dA;clear dA;unfold zDF;go_wp2;go_roundw
   case rel=>
    refine⟨k+1,(fun j=>if j=k then nb else kb j),(fun j=>if j=k then .slice na (f k).dn nc else kv j),by omega,by go_num,?_,?_,by simpa using iA⟩
    ·have hx:=aA.out.next eA jA nA.out Hp.out gA fA Hs.out.zRZ;rw[Nat.zero_add]at hx;exact hx
    ·exact(((((lA.setCell (Nat.le_refl _) _).setCell (Nat.le_refl _) _).setCell (Nat.le_refl _) _).setCell (Nat.le_refl _) _).setCell (Nat.le_refl _) _).setCell (Nat.le_refl _) _
   case measure=>simp[intOf];omega
  ·obtain rfl:k=n:=(by omega);go_wp2;go_ret;refine⟨⟨_,kb,kv,rfl,⟨kA,_,k,rfl,Nat.le_refl _,fun _=>⟨0,rfl,fun i hi=>?_⟩⟩,aA.out.zRW,aA.out.zRY⟩,hb,jA⟩;have:=aA.out.rows i hi;rw[if_pos hi]at this;exact this
theorem zLm(f:Nat->zm):∀{n i:Nat},i<n->zDr (f i)<=zAx f n
 | n+1,i,h=>by
  show zDr (f i)<=zAx f n+zDr (f n);by_cases e:i=n
  ·subst e;omega
  ·have:=zLm f (show i<n by omega);omega
theorem zLt(v:Value)(n lo hi:Nat)(f:Nat->zm)(w:World)(h1:yA w lo hi v n f)(hn:n+zAx f n<=1048576) :
  Calls Tryz.prog 32 #[v] w fun e w'=>(∃v' kb kv,e = .returned v'/\yU w' w.heap.size kb kv v' n f/\zA6 kb n f/\∀j,j<n->0<(f j).dn->w.heap.size<kb j/\kb j<w'.heap.size)/\Below w.heap.size w w'/\w.heap.size<w'.heap.size:=by
 have H1:=zB h1;obtain⟨m1,a,c,rfl,mc,-⟩:=id h1;have kA:=m1;unfold maxLen at m1;clear h1;have Hn:=zB hn;have oA:=zA9 35 99 (.agg #[.int .i64 0,.string ⟨#[]⟩,.string ⟨#[]⟩,.int .i64 0,.int .i64 0,.int .i64 0,.int .i64 0,.slice none 0 0]) 8 96 (by kernel_rfl) zGW rfl n (by omega) (by omega);clear hn;go_enter Tryz.func32,Tryz.ntmps32;go_wp2
 go_loopw [4] (fun i wr=>∃(k:Nat) (kb:Nat->Nat) (kv:Nat->Value),k<=n/\i = .int .i64 k/\zCR wr w.heap.size n k f kb kv/\Below w.heap.size w wr/\w.heap.size<wr.heap.size) (fun i _=>n - (intOf i).toNat)
 case atStart=>exact⟨0,fun _=>0,fun _=>.slice none 0 0,Nat.zero_le _,rfl,⟨fun j hj=>by rw[if_neg (by omega)];exact zLC hj rfl,fun i j hi=>absurd hi (by omega),fun j hj=>absurd hj (by omega)⟩,zC _ _,by simp⟩
 case round=>
  obtain⟨k,kb,kv,hk,rfl,cA,hb,jA⟩:=hrel;have aA:=zB cA;clear cA;by_cases eA:k<n
  ·have mA:(k:Int)<(n:Int):=(by omega);obtain⟨b,off,vd,rfl,bA⟩:=(H1.out.zRJ hb).cells eA;obtain⟨-,ad,cd,rfl,-,-⟩:=id bA.zRX;have q0:=bA.c0;have q1:=bA.c1;have q2:=bA.c2;have q3:=bA.c3;have q4:=bA.c4;have q5:=bA.c5;have q6:=bA.c6;have q7:=bA.c7;have Hs:=zB bA;clear bA;go_wp2_with fail;refine(zMU _ lo hi (f k) _ Hs.out.zRX (by have h1:=Hn.out;have h2:=zLm f eA;unfold zDr at h2;omega)).mono ?_;rintro e w1 ⟨⟨nv,nb,rfl,hp,gA,fA⟩,dA⟩;have lA:=zA hb dA;have hz:=(aA.out.rows k eA).zRJ dA;obtain⟨e0,g0⟩:=hz.c0;obtain⟨e1,g1⟩:=hz.c1;obtain⟨e2,g2⟩:=hz.c2;obtain⟨e3,g3⟩:=hz.c3;obtain⟨e4,g4⟩:=hz.c4;obtain⟨e5,g5⟩:=hz.c5;obtain⟨e6,g6⟩:=hz.c6;obtain⟨e7,g7⟩:=hz.c7;clear q0 q1 q2 q3 q4 q5 q6 q7 hz;rw[Nat.zero_add]at e0 g0 e1 g1 e2 g2 e3 g3 e4 g4 e5 g5 e6 g6 e7 g7;have Hp:=zB hp;obtain⟨-,na,nc,rfl,-,-⟩:=id hp;clear hp;have iA:w.heap.size<w1.heap.size:=(by have:=dA.size;omega);have nA:=zB dA;clear dA;unfold yf;go_wp2;go_roundw
   case rel=>
    refine⟨k+1,(fun j=>if j=k then nb else kb j),(fun j=>if j=k then .slice na (f k).dn nc else kv j),by omega,by go_num,?_,?_,by simpa using iA⟩
    ·have hx:=aA.out.next eA jA nA.out Hp.out gA fA Hs.out.zRZ;rw[Nat.zero_add]at hx;exact hx
    ·exact(((((((lA.setCell (Nat.le_refl _) _).setCell (Nat.le_refl _) _).setCell (Nat.le_refl _) _).setCell (Nat.le_refl _) _).setCell (Nat.le_refl _) _).setCell (Nat.le_refl _) _).setCell (Nat.le_refl _) _).setCell (Nat.le_refl _) _
   case measure=>simp[intOf];omega
  ·obtain rfl:k=n:=(by omega);go_wp2;go_ret;refine⟨⟨_,kb,kv,rfl,⟨kA,_,k,rfl,Nat.le_refl _,fun _=>⟨0,rfl,fun i hi=>?_⟩⟩,aA.out.zRW,aA.out.zRY⟩,hb,jA⟩;have:=aA.out.rows i hi;rw[if_pos hi]at this;exact this
theorem zi.put4{w:World}{b:Nat}{v0 v1 v2 v3 v4 v5:Value}(h:zi w b v0 v1 v2 v3 v4 v5)(u0 u1 u2 u3:Value):zi ((((w.setCell ⟨b,0,none⟩ u0).setCell ⟨b,1,none⟩ u1).setCell ⟨b,2,none⟩ u2).setCell ⟨b,3,none⟩ u3) b u0 u1 u2 u3 v4 v5:=by
 obtain⟨h0,h1,h2,h3,h4,h5⟩:=h;refine⟨?_,?_,?_,?_,?_,?_⟩
 ·exact(((h0.set _).zRK _ (Or.inr (by omega))).zRK _ (Or.inr (by omega))).zRK _ (Or.inr (by omega))
 ·exact(((h1.zRK _ (Or.inr (by omega))).set _).zRK _ (Or.inr (by omega))).zRK _ (Or.inr (by omega))
 ·exact(((h2.zRK _ (Or.inr (by omega))).zRK _ (Or.inr (by omega))).set _).zRK _ (Or.inr (by omega))
 ·exact(((h3.zRK _ (Or.inr (by omega))).zRK _ (Or.inr (by omega))).zRK _ (Or.inr (by omega))).set _
 ·exact(((h4.zRK _ (Or.inr (by omega))).zRK _ (Or.inr (by omega))).zRK _ (Or.inr (by omega))).zRK _ (Or.inr (by omega))
 ·exact(((h5.zRK _ (Or.inr (by omega))).zRK _ (Or.inr (by omega))).zRK _ (Or.inr (by omega))).zRK _ (Or.inr (by omega))
theorem zF.put4w(w:World)(b:Nat)(u0 u1 u2 u3:Value):zF (fun k=>k=b) w ((((w.setCell ⟨b,0,none⟩ u0).setCell ⟨b,1,none⟩ u1).setCell ⟨b,2,none⟩ u2).setCell ⟨b,3,none⟩ u3):=
 (((zF.put w b 0 u0).trans (zF.put _ b 1 u1)).trans (zF.put _ b 2 u2)).trans (zF.put _ b 3 u3)
theorem zC2(v0 v1 v2 v3:Value)(lo hi:Nat)(W:zH)(w:World)(h:zl w lo hi v0 v1 v2 v3 W)(hn:yX W<=1048576):Calls Tryz.prog 9 #[zz v0 v1 v2 v3 W] w (zOu W w):=by
 obtain⟨a0,c0,a1,c1,a2,c2,a3,c3,rfl,rfl,rfl,rfl⟩:=h.form;have H:=zB h;clear h;unfold yX at hn;have dC:∀Wa Wb Wc:World,Wa=w.alloc (.cells #[.slice a0 W.zRQ.n c0,.slice a1 W.zRQ.hn c1,.int .i64 W.time,.int .i64 W.next,.slice a2 W.sn c2,.slice a3 W.pn c3] 29)->Wb=Wa.alloc (.cells #[.slice none 0 0,.slice none 0 0,.int .i64 0,.int .i64 0,.slice none 0 0,.slice none 0 0] 37)->Wc=Wb.alloc (.cells #[.slice none 0 0,.slice none 0 0,.int .i64 0,.int .i64 0,.slice none 0 0,.slice none 0 0] 37)->zi Wc w.heap.size (.slice a0 W.zRQ.n c0) (.slice a1 W.zRQ.hn c1) (.int .i64 W.time) (.int .i64 W.next) (.slice a2 W.sn c2) (.slice a3 W.pn c3)/\zi Wc (w.heap.size+1) (.slice none 0 0) (.slice none 0 0) (.int .i64 0) (.int .i64 0) (.slice none 0 0) (.slice none 0 0)/\zi Wc (w.heap.size+1+1) (.slice none 0 0) (.slice none 0 0) (.int .i64 0) (.int .i64 0) (.slice none 0 0) (.slice none 0 0)/\Below w.heap.size w Wc/\Wc.heap.size=w.heap.size+3:=by
  rintro Wa Wb Wc ea eb ec;have ha:=zC w (.cells #[.slice a0 W.zRQ.n c0,.slice a1 W.zRQ.hn c1,.int .i64 W.time,.int .i64 W.next,.slice a2 W.sn c2,.slice a3 W.pn c3] 29);have h1:=zi.zRL w (.slice a0 W.zRQ.n c0) (.slice a1 W.zRQ.hn c1) (.int .i64 W.time) (.int .i64 W.next) (.slice a2 W.sn c2) (.slice a3 W.pn c3) 29;have z1:Wa.heap.size=w.heap.size+1:=(by rw[ea];exact World.size_alloc _ _);rw[<-ea]at ha h1;have hb:=zC Wa (.cells #[.slice none 0 0,.slice none 0 0,.int .i64 0,.int .i64 0,.slice none 0 0,.slice none 0 0] 37);have h2:=zi.zRL Wa (.slice none 0 0) (.slice none 0 0) (.int .i64 0) (.int .i64 0) (.slice none 0 0) (.slice none 0 0) 37;have z2:Wb.heap.size=w.heap.size+1+1:=(by rw[eb,World.size_alloc,z1]);rw[<-eb,z1]at h2;rw[<-eb]at hb;have hc:=zC Wb (.cells #[.slice none 0 0,.slice none 0 0,.int .i64 0,.int .i64 0,.slice none 0 0,.slice none 0 0] 37);have h3:=zi.zRL Wb (.slice none 0 0) (.slice none 0 0) (.int .i64 0) (.int .i64 0) (.slice none 0 0) (.slice none 0 0) 37;have z3:Wc.heap.size=w.heap.size+3:=(by rw[ec,World.size_alloc,z2]);rw[<-ec,z2]at h3;rw[<-ec]at hc;exact⟨(h1.zRJ hb).zRJ hc,h2.zRJ hc,h3,zA (zA ha hb) hc,z3⟩
 obtain⟨hx,hy,hz,vA,aC⟩:=dC _ _ _ rfl rfl rfl;have HX:=zB hx;have HY:=zB hy;have HZ:=zB hz;have HS:=zB aC;clear hx hy hz dC aC;go_enter Tryz.func9,Tryz.ntmps9;go_wp2_with fail;generalize ((w.alloc (.cells #[.slice a0 W.zRQ.n c0,.slice a1 W.zRQ.hn c1,.int .i64 W.time,.int .i64 W.next,.slice a2 W.sn c2,.slice a3 W.pn c3] 29)).alloc (.cells #[.slice none 0 0,.slice none 0 0,.int .i64 0,.int .i64 0,.slice none 0 0,.slice none 0 0] 37)).alloc (.cells #[.slice none 0 0,.slice none 0 0,.int .i64 0,.int .i64 0,.slice none 0 0,.slice none 0 0] 37)=W0 at HX HY HZ HS vA ⊢;refine(zMp _ _ lo hi W.zRQ W0 (H.out.zRQ.zRJ vA) (by omega)).mono ?_;rintro e w1 ⟨u0,u1,rfl,hP,bA⟩;obtain⟨p0,q0,p1,q1,rfl,rfl⟩:=hP.form;have eC:=bA.size;have bB:=HS.out;have T1:=zF.put4w w1 (w.heap.size+1+1) (.slice p0 W.zRQ.n q0) (.slice p1 W.zRQ.hn q1) (.int .i64 W.time) (.int .i64 W.next);have lB:=zB (hP.zRR T1 (fun k e=>Or.inl (by show k<W0.heap.size;omega)));have jA:=zB ((HX.out.zRJ bA).zRR T1 (fun e=>absurd e (by omega)));have oB:=zB ((HY.out.zRJ bA).zRR T1 (fun e=>absurd e (by omega)));have mA:=zB ((HZ.out.zRJ bA).put4 (.slice p0 W.zRQ.n q0) (.slice p1 W.zRQ.hn q1) (.int .i64 W.time) (.int .i64 W.next));have tA:Below w.heap.size w ((((w1.setCell ⟨w.heap.size+1+1,0,none⟩ (.slice p0 W.zRQ.n q0)).setCell ⟨w.heap.size+1+1,1,none⟩ (.slice p1 W.zRQ.hn q1)).setCell ⟨w.heap.size+1+1,2,none⟩ (.int .i64 W.time)).setCell ⟨w.heap.size+1+1,3,none⟩ (.int .i64 W.next)):=(((((zA vA bA)).setCell (by show _<=w.heap.size+1+1;omega) _).setCell (by show _<=w.heap.size+1+1;omega) _).setCell (by show _<=w.heap.size+1+1;omega) _).setCell (by show _<=w.heap.size+1+1;omega) _;have jB:=zB (show((((w1.setCell ⟨w.heap.size+1+1,0,none⟩ (.slice p0 W.zRQ.n q0)).setCell ⟨w.heap.size+1+1,1,none⟩ (.slice p1 W.zRQ.hn q1)).setCell ⟨w.heap.size+1+1,2,none⟩ (.int .i64 W.time)).setCell ⟨w.heap.size+1+1,3,none⟩ (.int .i64 W.next)).heap.size=w1.heap.size by simp only[World.size_setCell]);have tB:=zB (show w.heap.size+3<=W0.heap.size/\W0.heap.size<=w1.heap.size by omega);obtain⟨⟨x0,kA⟩,⟨x1,pA⟩,⟨x2,fB⟩,⟨x3,fA⟩,⟨x4,eB⟩,⟨x5,rA⟩⟩:=HX.out.zRJ bA;obtain⟨⟨z0,dB⟩,⟨z1,lA⟩,⟨z2,gA⟩,⟨z3,nA⟩,⟨z4,sA⟩,⟨z5,aB⟩⟩:=HZ.out.zRJ bA;clear bA vA HX HY HZ HS bB eC hP T1;go_wp2_with fail;clear x0 x1 x2 x3 x4 x5 z0 z1 z2 z3 z4 z5 kA pA fB fA eB rA dB lA gA nA sA aB;generalize (((w1.setCell ⟨w.heap.size+1+1,0,none⟩ (.slice p0 W.zRQ.n q0)).setCell ⟨w.heap.size+1+1,1,none⟩ (.slice p1 W.zRQ.hn q1)).setCell ⟨w.heap.size+1+1,2,none⟩ (.int .i64 W.time)).setCell ⟨w.heap.size+1+1,3,none⟩ (.int .i64 W.next)=W1 at lB jA oB mA jB tA ⊢;refine(zM4 _ W.sn lo hi W.zRS W1 (H.out.zRS.zRJ tA) (by omega)).mono ?_;rintro e w2 ⟨⟨v',kb,kv,rfl,ho,dA,eA⟩,aA,cB⟩;obtain⟨-,av,cv,rfl,-,-⟩:=id ho;have hQ:zBW w2 (fun k=>W1.heap.size<=k/\k<w2.heap.size) (.slice av W.sn cv) W.sn W.zRS:=⟨W1.heap.size,kb,kv,ho,dA,fun k hk=>by
  rcases hk with⟨_,rfl⟩ | ⟨i,hi,h0,rfl⟩
  ·exact⟨Nat.le_refl _,cB⟩
  ·have:=eA i hi h0;omega⟩
 have bC:=jB.out;have bB:=tB.out;have T2:=zF.put w2 (w.heap.size+1+1) 4 (.slice av W.sn cv);have gB:=zB (hQ.zRR T2 (fun k hk e=>by omega));have sB:=zB ((lB.out.zRJ aA).zRR T2 (fun k e=>Or.inl (by show k<W0.heap.size;omega)));have pB:=zB ((jA.out.zRJ aA).zRR T2 (fun e=>absurd e (by omega)));have nB:=zB ((oB.out.zRJ aA).zRR T2 (fun e=>absurd e (by omega)));have iB:=zB (show zi (w2.setCell ⟨w.heap.size+1+1,4,none⟩ (.slice av W.sn cv)) (w.heap.size+1+1) (.slice p0 W.zRQ.n q0) (.slice p1 W.zRQ.hn q1) (.int .i64 W.time) (.int .i64 W.next) (.slice av W.sn cv) (.slice none 0 0)from(by
  obtain⟨h0,h1,h2,h3,h4,h5⟩:=mA.out.zRJ aA;exact⟨h0.zRK _ (Or.inr (by omega)),h1.zRK _ (Or.inr (by omega)),h2.zRK _ (Or.inr (by omega)),h3.zRK _ (Or.inr (by omega)),h4.set _,h5.zRK _ (Or.inr (by omega))⟩))
 have oA:Below w.heap.size w (w2.setCell ⟨w.heap.size+1+1,4,none⟩ (.slice av W.sn cv)):=(zA tA aA).setCell (by show _<=w.heap.size+1+1;omega) _;have cC:=zB (show(w2.setCell ⟨w.heap.size+1+1,4,none⟩ (.slice av W.sn cv)).heap.size=w2.heap.size by simp only[World.size_setCell]);have rB:=zB cB;obtain⟨⟨x0,kA⟩,⟨x1,pA⟩,⟨x2,fB⟩,⟨x3,fA⟩,⟨x4,eB⟩,⟨x5,rA⟩⟩:=jA.out.zRJ aA;obtain⟨⟨z0,dB⟩,⟨z1,lA⟩,⟨z2,gA⟩,⟨z3,nA⟩,⟨z4,sA⟩,⟨z5,aB⟩⟩:=mA.out.zRJ aA;clear aA tA jA oB mA lB ho dA eA hQ bC bB T2 cB;go_wp2_with fail;clear x0 x1 x2 x3 x4 x5 z0 z1 z2 z3 z4 z5 kA pA fB fA eB rA dB lA gA nA sA aB;generalize w2.setCell ⟨w.heap.size+1+1,4,none⟩ (.slice av W.sn cv)=W2 at gB sB pB nB iB cC oA ⊢;refine(zLt _ W.pn lo hi W.zRP W2 (H.out.zRP.zRJ oA) (by omega)).mono ?_;rintro e w3 ⟨⟨v',kp,kw,rfl,ho,dA,eA⟩,cA,iA⟩;obtain⟨-,ap,cp,rfl,-,-⟩:=id ho;have kC:=zB (show zAj w3 (fun k=>W2.heap.size<=k/\k<w3.heap.size) (.slice ap W.pn cp) W.pn W.zRP from⟨W2.heap.size,kp,kw,ho,dA,fun k hk=>by
  rcases hk with⟨_,rfl⟩ | ⟨i,hi,h0,rfl⟩
  ·exact⟨Nat.le_refl _,iA⟩
  ·have:=eA i hi h0;omega⟩)
 have lC:=zB (sB.out.zRJ cA);have jC:=zB (gB.out.zRJ cA);have fC:=zB (pB.out.zRJ cA);have vB:=zB (nB.out.zRJ cA);have gC:=zB (iB.out.zRJ cA);have iC:=zA oA cA;have mB:=zB iA;clear cA oA pB nB iB sB gB ho dA eA iA;obtain⟨⟨x0,kA⟩,⟨x1,pA⟩,⟨x2,fB⟩,⟨x3,fA⟩,⟨x4,eB⟩,⟨x5,rA⟩⟩:=fC.out;obtain⟨⟨y0,pC⟩,⟨y1,rC⟩,⟨y2,tC⟩,⟨y3,nC⟩,⟨y4,oC⟩,⟨y5,mC⟩⟩:=vB.out;obtain⟨⟨z0,dB⟩,⟨z1,lA⟩,⟨z2,gA⟩,⟨z3,nA⟩,⟨z4,sA⟩,⟨z5,aB⟩⟩:=gC.out;go_wp2;have T3:=zF.put w3 (w.heap.size+1+1) 5 (.slice ap W.pn cp);have T4:=zF.put6 (w3.setCell ⟨w.heap.size+1+1,5,none⟩ (.slice ap W.pn cp)) (w.heap.size+1) (.slice p0 W.zRQ.n q0) (.slice p1 W.zRQ.hn q1) (.int .i64 W.time) (.int .i64 W.next) (.slice av W.sn cv) (.slice ap W.pn cp);have HR:=(vB.out.zRR T3 (fun e=>absurd e (by omega))).put (.slice p0 W.zRQ.n q0) (.slice p1 W.zRQ.hn q1) (.int .i64 W.time) (.int .i64 W.next) (.slice av W.sn cv) (.slice ap W.pn cp);have bC:=jB.out;have sC:=cC.out;have bB:=tB.out;have cB:=rB.out;have iA:=mB.out;have TT:zF (fun k=>k=w.heap.size+1\/k=w.heap.size+1+1) w3 (put6 (w3.setCell ⟨w.heap.size+1+1,5,none⟩ (.slice ap W.pn cp)) (w.heap.size+1) (.slice p0 W.zRQ.n q0) (.slice p1 W.zRQ.hn q1) (.int .i64 W.time) (.int .i64 W.next) (.slice av W.sn cv) (.slice ap W.pn cp)):=(T3.mono (fun k e=>Or.inr e)).trans (T4.mono (fun k e=>Or.inl e));have kB:(put6 (w3.setCell ⟨w.heap.size+1+1,5,none⟩ (.slice ap W.pn cp)) (w.heap.size+1) (.slice p0 W.zRQ.n q0) (.slice p1 W.zRQ.hn q1) (.int .i64 W.time) (.int .i64 W.next) (.slice av W.sn cv) (.slice ap W.pn cp)).heap.size=w3.heap.size:=by simp only[World.size_setCell]
 refine bodyPost_ret (v:=.agg #[.slice p0 W.zRQ.n q0,.slice p1 W.zRQ.hn q1,.int .i64 W.time,.int .i64 W.next,.slice av W.sn cv,.slice ap W.pn cp]) (by simp[results,Tryz.results9,go_sem,HR.1.1,HR.2.1.1,HR.2.2.1.1,HR.2.2.2.1.1,HR.2.2.2.2.1.1,HR.2.2.2.2.2.1]) rfl ⟨_,_,_,_,rfl,?_,?_⟩
 ·refine⟨fun k=>W0.heap.size<=k/\k<w1.heap.size,fun k=>W1.heap.size<=k/\k<w2.heap.size,fun k=>W2.heap.size<=k/\k<w3.heap.size,⟨?_,?_,?_,?_,?_,?_⟩,?_⟩
  ·exact(lC.out.isIn (S:=fun k=>W0.heap.size<=k/\k<w1.heap.size) (fun k h1 h2=>⟨h1,h2⟩)).zRR TT (fun k hk e=>by omega)
  ·exact jC.out.zRR TT (fun k hk e=>by omega)
  ·exact kC.out.zRR TT (fun k hk e=>by omega)
  ·exact fun k hk e=>by omega
  ·exact fun k hk e=>by omega
  ·exact fun k hk e=>by omega
  ·intro k hk;show w.heap.size<=k/\k<(put6 _ _ _ _ _ _ _ _).heap.size;rw[kB];omega
 ·exact((iC.trans (TT.zRJ (B:=w.heap.size) (by omega) (fun k e=>by omega))))
theorem zML(v:Value)(n lo hi:Nat)(f:Nat->qC)(left:Int)(w:World)(h1:yW w lo hi v n f)(lA:0<=left)(jA:left<=1048576) :
  Calls Tryz.prog 23 #[v,.int .i64 left] w fun e w'=>zC3 (n+zBJ f n) left e/\Below w.heap.size w w':=by
 have H1:=zB h1;obtain⟨m1,a,c,rfl,mc,-⟩:=id h1;unfold maxLen at m1;clear h1;by_cases h:left - (n:Int)<0
 ·go_enter Tryz.func23,Tryz.ntmps23;go_wp2;go_ret;exact⟨⟨-1,rfl,by omega,by omega,by omega⟩,Below.refl _ _⟩
 ·go_enter Tryz.func23,Tryz.ntmps23;go_wp2
  go_loopw [1,5] (fun m i wr=>∃(k:Nat) (r:Int),k<=n/\i = .int .i64 k/\m = .int .i64 r/\0<=r/\r+n+zBJ f k=left/\Below w.heap.size w wr) (fun _ i _=>n - (intOf i).toNat)
  case atStart=>exact⟨0,_,Nat.zero_le _,rfl,rfl,by omega,by simp[zBJ],Below.refl _ _⟩
  case round=>
   obtain⟨k,r,hk,rfl,rfl,gA,hr,hb⟩:=hrel;have fA:r<=left:=(by omega);have Hr:=zB hr;clear hr;by_cases eA:k<n
   ·have iA:(k:Int)<(n:Int):=(by omega);obtain⟨b,off,vd,rfl,aA⟩:=(H1.out.zRJ hb).cells eA;obtain⟨-,ad,cd,rfl,-,-⟩:=id aA.zRX;have q0:=aA.c0;have q1:=aA.c1;have q2:=aA.c2;have q3:=aA.c3;have q4:=aA.c4;have q5:=aA.c5;have Hs:=zB aA;clear aA;go_wp2_with fail;refine(zNy _ lo hi (f k) _ _ Hs.out.zRX Hs.out.zRZ gA (by omega)).mono ?_;rintro e w1 ⟨⟨r',rfl,dA,kA,mA⟩,bA⟩;have cA:=zA hb bA;have Hq:=zB dA;clear dA bA q0 q1 q2 q3 q4 q5;by_cases h3:r'<0
    ·go_wp2;go_ret;exact⟨⟨-1,rfl,by omega,by omega,by omega⟩,cA⟩
    ·go_wp2;go_roundw
     case rel=>
      refine⟨k+1,r',by omega,by go_num,rfl,by omega,?_,cA⟩;have e1:=Hq.out (by omega);have e2:=Hr.out;show r'+(n:Int)+((zBJ f k+zEr (f k):Nat):Int)=left;omega
     case measure=>simp[intOf];omega
   ·obtain rfl:k=n:=(by omega);go_wp2;go_ret;exact⟨⟨r,rfl,fun _=>by have:=Hr.out;omega,fA,by omega⟩,hb⟩
theorem zLw(v:Value)(n lo hi:Nat)(f:Nat->zm)(left:Int)(w:World)(h1:yA w lo hi v n f)(lA:0<=left)(jA:left<=1048576) :
  Calls Tryz.prog 24 #[v,.int .i64 left] w fun e w'=>zC3 (n+zAx f n) left e/\Below w.heap.size w w':=by
 have H1:=zB h1;obtain⟨m1,a,c,rfl,mc,-⟩:=id h1;unfold maxLen at m1;clear h1;by_cases h:left - (n:Int)<0
 ·go_enter Tryz.func24,Tryz.ntmps24;go_wp2;go_ret;exact⟨⟨-1,rfl,by omega,by omega,by omega⟩,Below.refl _ _⟩
 ·go_enter Tryz.func24,Tryz.ntmps24;go_wp2
  go_loopw [1,5] (fun m i wr=>∃(k:Nat) (r:Int),k<=n/\i = .int .i64 k/\m = .int .i64 r/\0<=r/\r+n+zAx f k=left/\Below w.heap.size w wr) (fun _ i _=>n - (intOf i).toNat)
  case atStart=>exact⟨0,_,Nat.zero_le _,rfl,rfl,by omega,by simp[zAx],Below.refl _ _⟩
  case round=>
   obtain⟨k,r,hk,rfl,rfl,gA,hr,hb⟩:=hrel;have fA:r<=left:=(by omega);have Hr:=zB hr;clear hr;by_cases eA:k<n
   ·have iA:(k:Int)<(n:Int):=(by omega);obtain⟨b,off,vd,rfl,aA⟩:=(H1.out.zRJ hb).cells eA;obtain⟨-,ad,cd,rfl,-,-⟩:=id aA.zRX;have q0:=aA.c0;have q1:=aA.c1;have q2:=aA.c2;have q3:=aA.c3;have q4:=aA.c4;have q5:=aA.c5;have q6:=aA.c6;have q7:=aA.c7;have Hs:=zB aA;clear aA;go_wp2_with fail;refine(zMQ _ lo hi (f k) _ _ Hs.out.zRX Hs.out.zRZ.1 Hs.out.zRZ.2 gA (by omega)).mono ?_;rintro e w1 ⟨⟨r',rfl,dA,kA,mA⟩,bA⟩;have cA:=zA hb bA;have Hq:=zB dA;clear dA bA q0 q1 q2 q3 q4 q5 q6 q7;by_cases h3:r'<0
    ·go_wp2;go_ret;exact⟨⟨-1,rfl,by omega,by omega,by omega⟩,cA⟩
    ·go_wp2;go_roundw
     case rel=>
      refine⟨k+1,r',by omega,by go_num,rfl,by omega,?_,cA⟩;have e1:=Hq.out (by omega);have e2:=Hr.out;show r'+(n:Int)+((zAx f k+zDr (f k):Nat):Int)=left;omega
     case measure=>simp[intOf];omega
   ·obtain rfl:k=n:=(by omega);go_wp2;go_ret;exact⟨⟨r,rfl,fun _=>by have:=Hr.out;omega,fA,by omega⟩,hb⟩
theorem zLj(v0 v1 v2 v3:Value)(lo hi:Nat)(W:zH)(left:Int)(w:World)(h1:zl w lo hi v0 v1 v2 v3 W)(lA:0<=left)(nA:left<=1048576) :
  Calls Tryz.prog 7 #[zz v0 v1 v2 v3 W,.int .i64 left] w fun e w'=>zC3 (yX W) left e/\Below w.heap.size w w':=by
 have H1:=zB h1;clear h1;have ha:=zC w (.cells #[v0,v1,.int .i64 W.time,.int .i64 W.next,v2,v3] 29);have HX:=zB (zi.zRL w v0 v1 (.int .i64 W.time) (.int .i64 W.next) v2 v3 29);go_enter Tryz.func7,Tryz.ntmps7;go_wp2_with fail;refine(zMl _ _ lo hi W.zRQ _ _ (H1.out.zRJ ha).zRQ lA nA).mono ?_;rintro e w1 ⟨⟨r,rfl,iA,vA,rA⟩,dA⟩;have cA:=zA ha dA;have gA:=zB (HX.out.zRJ dA);have Hr:=zB iA;clear iA dA ha HX;obtain⟨⟨x0,-⟩,⟨x1,-⟩,⟨x2,-⟩,⟨x3,-⟩,⟨x4,-⟩,⟨x5,-⟩⟩:=gA.out;by_cases h:r<0
 ·go_wp2;go_ret;exact⟨⟨-1,rfl,by omega,by omega,by omega⟩,cA⟩
 ·go_wp2_with fail;refine(zML _ W.sn lo hi _ _ _ (H1.out.zRJ cA).zRS (by omega) (by omega)).mono ?_;rintro e w2 ⟨⟨r',rfl,eA,pA,oA⟩,bA⟩;have aA:=zA cA bA;have mA:=zB (gA.out.zRJ bA);have Hq:=zB eA;clear eA bA x0 x1 x2 x3 x4 x5;obtain⟨⟨x0,-⟩,⟨x1,-⟩,⟨x2,-⟩,⟨x3,-⟩,⟨x4,-⟩,⟨x5,-⟩⟩:=mA.out;by_cases h3:r'<0
  ·go_wp2;go_ret;exact⟨⟨-1,rfl,by omega,by omega,by omega⟩,aA⟩
  ·go_wp2_with fail;refine(zLw _ W.pn lo hi _ _ _ (H1.out.zRJ aA).zRP (by omega) (by omega)).mono ?_;rintro e w3 ⟨⟨r2,rfl,kA,tA,sA⟩,jA⟩;have fA:=zA aA jA;have Hs:=zB kA;clear kA jA;by_cases h4:r2<0
   ·go_wp2;go_ret;exact⟨⟨-1,rfl,by omega,by omega,by omega⟩,fA⟩
   ·go_wp2;go_ret;refine⟨⟨r2,rfl,fun _=>?_,by omega,by omega⟩,fA⟩;have e1:=Hq.out (by omega);have e2:=Hr.out (by omega);have e3:=Hs.out (by omega);unfold yX;omega
end Go.Proofs.YtmgeglgboadfiaaGreatDoor
