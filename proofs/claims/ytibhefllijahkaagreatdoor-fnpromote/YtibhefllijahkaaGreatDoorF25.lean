/- A part of the proof. -/
import Derived.Test.YtibhefllijahkaaGreatDoorF24
import Derived.RangeFuncNested
import Derived.RangeFuncBound
import Derived.RangeFuncCalls
import Derived.RangeFuncLeaves
import Derived.Shelf.RegionOpen
import Derived.OwnWalkIn
import Derived.TacticsInMore
import Derived.LoopNIn
import Derived.LoopIn
import Derived.Stop.RegionWithIn
set_option linter.unusedVariables false
set_option maxRecDepth 20000
set_option maxHeartbeats 4000000
namespace Go.Proofs.YtibhefllijahkaaGreatDoor
open Go.RowKit
variable{w:World}{hi n b o:Nat}{v:Value}{s:ByteArray}
theorem B4.text{lo:Nat}{f g:Nat->Int}(h:B4 w lo hi v n f g)(hs:w.cell? ⟨b,o,none⟩=some (.string s))(u:Value):B4 (w.setCell ⟨b,o,none⟩ u) lo hi v n f g:=by
 obtain⟨m,a,cap,hv,d,y⟩:=h;refine⟨m,a,cap,hv,d,fun hn=>?_⟩;obtain⟨c,off,t,p,q,r⟩:=y hn;have k:∀(o':Nat) (x:Int),w.cell? ⟨c,o',none⟩=some (.int .i64 x)->(w.setCell ⟨b,o,none⟩ u).cell? ⟨c,o',none⟩=some (.int .i64 x):=fun o' x j=>by
  by_cases e:c=b/\o'=o
  ·obtain⟨rfl,rfl⟩:=e;rw[hs]at j;cases j
  ·rw[World.cell?_setCell_other _ _ _ _ (fun l=>e (by cases l;exact⟨rfl,rfl⟩))];exact j
 refine⟨c,off,t,p,q,fun i hi=>?_⟩;have:=r i hi;exact⟨k _ _ this.1,k _ _ this.2⟩
variable{l:List AL}{kv:Nat->Value}
theorem Eu.text(h:Eu w hi l kv)(hs:w.cell? ⟨b,o,none⟩=some (.string s))(u:Value):Eu (w.setCell ⟨b,o,none⟩ u) hi l kv:=fun i d=>by
 obtain⟨a,c,e,g⟩:=h i d;exact⟨a,c,e,g.text hs u⟩
theorem Eu.A0{w':World}(h:Eu w hi l kv)(g:Below w.heap.size w w'):Eu w' hi l kv:=fun i b=>by
 obtain⟨a,c,d,e⟩:=h i b;exact⟨a,c,d,e.A0 g⟩
variable{B:Nat}
theorem DH.turnedP{w1:World}{base g:Nat}{c:Nat}(h:DH w base (.slice (some ⟨g,0,none⟩) n c) l kv)(t:AI (fun k=>k=B) w w1)(a:B≠g):DH w1 base (.slice (some ⟨g,0,none⟩) n c) l kv:=
 World.ownsRow.kept h (ZW t) (Or.inr (by simp only[Value.ownBlock];exact fun e=>a (by injection e with e;exact e.symm)))
theorem zBF(p:Nat->Addr)(C k o:Nat)(z0 z1 z2 z3:Value)(W:A5)(name:ByteArray)(L:List AL)(O:AL)(w:World)(hI:CF W)(kE:E7 W)(gE:(Lit.int .i64 (Am W name).origin).wf=true)(hk:Bl W name k)(hL:L=CL W (AC W (Am W name).origin).set (Am W name).origin)(hO:L.getD 0 Ap=O)(h0:0<L.length)(rC:Bl W O.set o)(mI:k≠o)(vC:name.size<=maxLen)(kI:C<w.heap.size)
 (ho:DC w (C+1) w.heap.size z0 z1 z2 z3 W) (hC:Bp w C z0 z1 (.int .i64 W.time) (.int .i64 W.next) z2 z3 (.int .i64 0) (.int .i64 0) .nilIface) :
 Calls Tryz.prog 23 #[.pointer (some ⟨C,0,none⟩),.string name] w (JU p ⟨Gu W name k o L,O.id,0,0⟩ C w):=by
 have h8:=hI.AX.A3.1;have aI:=hI.AX.A1.1;have jH:L.length<=20:=by rw[hL];exact RJ hI.AX _ _
 have sC:=hk.1;have T:=rC.1;have cG:0<W.pn:=by
  obtain⟨-,j,u,-⟩:=OD hI.AX _ _ (show 0<(CL W (AC W (Am W name).origin).set (Am W name).origin).length by rw[<-hL];exact h0);omega
 have HC:=A4 hC;obtain⟨P,Q,R,aC,v⟩:=ho;have J:=aC.isIn;obtain⟨l,kb,kv,hS,dE,M⟩:=J.A3;obtain⟨off,c,rfl,iE⟩:=hS.nth sC;obtain⟨lE,c',e1,cC⟩:=hS.nth T;cases e1;obtain⟨H,nb,nv,hN,aE,dA⟩:=J.A1;obtain⟨y,cn,rfl,-⟩:=hN.nth cG;have eI:=v l (Or.inr (Or.inl (M _ (Or.inl ⟨by omega,rfl⟩))));have dI:=v H (Or.inr (Or.inr (dA _ (Or.inl ⟨by omega,rfl⟩))));have fE:l≠H:=fun e=>J.qr l (M _ (Or.inl ⟨by omega,rfl⟩)) (by rw[e];exact dA _ (Or.inl ⟨by omega,rfl⟩))
 have mC:BR w (C+1) w.heap.size z0 z1 (.slice (some ⟨l,off,none⟩) W.sn c) (.slice (some ⟨H,y,none⟩) W.pn cn) W:=EJ.at ⟨P,Q,R,J,v⟩;have iF:=A4 (show ∀i,i<L.length->(L.getD i Ap).name.size<=maxLen/\(L.getD i Ap).set.size<=maxLen by rw[hL];exact Yw mC hI.AX _ _);have oB:=A4 (show ∀(nm:ByteArray) (k:Nat) (w':World),Bl W nm k->DD w' l kb kv (.slice (some ⟨l,off,none⟩) W.sn c) W.sn W.A3->w'.cell? ⟨C,4,none⟩=some (.slice (some ⟨l,off,none⟩) W.sn c)->Calls Tryz.prog 54 #[.pointer (some ⟨C,0,none⟩),.string nm] w' fun e lA=>e = .returned (.pointer (some ⟨l,off+k*6,none⟩))/\Below w'.heap.size w' lA from fun nm k w' hk tF hc=>by
  refine(zm C (C+1) w.heap.size W.sn k c _ W.A3 nm w' hc (tF.at (lo:=C+1) (hi:=w.heap.size) (fun j u=>v j (Or.inr (Or.inl (M j u))))) h8 hk.1 hk.2.1 hk.2.2).mono ?_;rintro e w2 ⟨⟨b,lE,e1,rfl⟩,I⟩;simp only[Option.some.injEq,Addr.mk.injEq,and_true]at e1;obtain⟨rfl,rfl⟩:=e1;exact⟨rfl,I⟩)
 have nD:=A4 (show ∀w',Below w.heap.size w w'->Calls Tryz.prog 53 #[BS z0 z1 (.slice (some ⟨l,off,none⟩) W.sn c) (.slice (some ⟨H,y,none⟩) W.pn cn) W,.string name] w' fun e lA=>∃a c kv base,e = .returned (.slice a L.length c)/\DH lA base (.slice a L.length c) L kv/\Eu w' w.heap.size L kv/\Below w'.heap.size w' lA/\w'.heap.size<=base from fun w' hb=>ZZ z0 z1 _ _ (C+1) w.heap.size W name w' L (mC.A0 hb) hb.size hI.AX kE gE vC hL);have s:=A4 J;have bA:=A4 v;have jD:=A4 hS;have fF:=A4 dE;have G:=A4 M;have cF:=A4 hN;have bF:=A4 aE;have F:=A4 dA;have gF:=A4 iE;have iD:=A4 cC;have Hk:=A4 hk;have kF:=A4 rC;have HO:=A4 hO;have nF:=A4 vC;have dF:=A4 (show Gu W name k o L = {W with A3:=orgTo (orgTo W.A3 k (W.A3 o).origin) o O.id,A1:=Db W name L W.pn}by unfold Gu;rw[hO]);clear aC J v hS dE M hN aE dA iE cC hC hI kE gE hk rC hL hO vC mC;obtain⟨⟨x0,y0⟩,⟨x1,y1⟩,⟨x2,y2⟩,⟨x3,y3⟩,⟨Z,y4⟩,⟨x5,y5⟩,⟨x6,y6⟩,⟨x7,y7⟩,⟨x8,y8⟩⟩:=HC.out;go_enter Tryz.func23,Tryz.ntmps23;go_wp2_with fail;refine(oB.out name k w Hk.out jD.out Z).mono ?_;rintro e w2 ⟨rfl,I⟩;clear x0 x1 x2 x3 Z x5 x6 x7 x8 y0 y1 y2 y3 y4 y5 y6 y7 y8;obtain⟨⟨x0,y0⟩,⟨x1,y1⟩,⟨x2,y2⟩,⟨x3,y3⟩,⟨Z,y4⟩,⟨x5,y5⟩,⟨x6,y6⟩,⟨x7,y7⟩,⟨x8,y8⟩⟩:=HC.out.A0 I;go_wp2_with fail;clear x0 x1 x2 x3 Z x5 x6 x7 x8 y0 y1 y2 y3 y4 y5 y6 y7 y8;refine(nD.out w2 I).mono ?_;clear nD;rintro e z ⟨ra,rc,kw,base,rfl,E,oC,nC,aG⟩;have oF:=A7 I nC;have oI:=I.size;have pI:=nC.size;have nB:=A4 E;have gD:=A4 (oC.A0 nC);obtain⟨_,g,cap,e1,-,-,hg,X⟩:True/\∃g cap,(Value.slice ra L.length rc) = .slice (some ⟨g,0,none⟩) L.length cap/\True/\True/\g<z.heap.size/\∀r,r<8->z.cell? ⟨g,0*8+r,none⟩=some (EV (fun i=>L.getD i Ap) kw 0 r):=⟨trivial,by
  obtain⟨g,cap,e,-,-,hg,X⟩:=FN E h0;exact⟨g,cap,e,trivial,trivial,hg,fun r hr=>(X _ _ (F1 (fun i=>L.getD i Ap) kw L.length h0 hr)).1⟩⟩
 cases e1;obtain⟨da,dc,tC,-⟩:=oC 0 h0;rw[HO.out]at tC;have gI:base<=g:=(DH.lt E g rfl).1;have q0:z.cell? ⟨g,0,none⟩=some (.int .i64 O.id):=by have:=X 0 (by omega);unfold EV at this;dsimp only at this;rw[HO.out]at this;exact this
 have q1:z.cell? ⟨g,1,none⟩=some (.string O.name):=by have:=X 1 (by omega);unfold EV at this;dsimp only at this;rw[HO.out]at this;exact this
 have q2:z.cell? ⟨g,2,none⟩=some (.string O.set):=by have:=X 2 (by omega);unfold EV at this;dsimp only at this;rw[HO.out]at this;exact this
 have q3:z.cell? ⟨g,3,none⟩=some (.int .i64 O.A6):=by have:=X 3 (by omega);unfold EV at this;dsimp only at this;rw[HO.out]at this;exact this
 have q4:z.cell? ⟨g,4,none⟩=some (.int .i64 O.time):=by have:=X 4 (by omega);unfold EV at this;dsimp only at this;rw[HO.out]at this;exact this
 have q5:z.cell? ⟨g,5,none⟩=some (.int .i64 O.rs):=by have:=X 5 (by omega);unfold EV at this;dsimp only at this;rw[HO.out]at this;exact this
 have q6:z.cell? ⟨g,6,none⟩=some (.int .i64 O.rb):=by have:=X 6 (by omega);unfold EV at this;dsimp only at this;rw[HO.out]at this;exact this
 have q7:z.cell? ⟨g,7,none⟩=some (.slice da O.dn dc):=by have:=X 7 (by omega);unfold EV at this;dsimp only at this;rw[tC]at this;exact this
 have jI:(0:Int)<(L.length:Int):=by omega
 clear E oC X tC;have fA:=A9 z (.cells #[.int .i64 O.id,.string O.name,.string O.set,.int .i64 O.A6,.int .i64 O.time,.int .i64 O.rs,.int .i64 O.rb,.slice da O.dn dc] 41);have HV:=A4 (Bu.new z (.int .i64 O.id) (.string O.name) (.string O.set) (.int .i64 O.A6) (.int .i64 O.time) (.int .i64 O.rs) (.int .i64 O.rb) (.slice da O.dn dc) 41);have dG:(z.alloc (.cells #[.int .i64 O.id,.string O.name,.string O.set,.int .i64 O.A6,.int .i64 O.time,.int .i64 O.rs,.int .i64 O.rb,.slice da O.dn dc] 41)).heap.size=z.heap.size+1:=World.size_alloc _ _;have K:=A4 (nB.out.A0 fA);have lB:=A4 (gD.out.A0 fA);have x:=A7 oF fA;obtain⟨⟨x0,y0⟩,⟨x1,y1⟩,⟨x2,y2⟩,⟨x3,y3⟩,⟨Z,y4⟩,⟨x5,y5⟩,⟨x6,y6⟩,⟨x7,y7⟩,⟨x8,y8⟩⟩:=HC.out.A0 x;go_wp2_with fail;clear q0 q1 q2 q3 q4 q5 q6 q7 x0 x1 x2 x3 Z x5 x6 x7 x8 y0 y1 y2 y3 y4 y5 y6 y7 y8 nB gD;generalize z.alloc (.cells #[.int .i64 O.id,.string O.name,.string O.set,.int .i64 O.A6,.int .i64 O.time,.int .i64 O.rs,.int .i64 O.rb,.slice da O.dn dc] 41)=w4 at fA HV dG K lB x ⊢
 go_loopw [28] (fun rG wr=>∃i:Nat,i<=W.pn/\rG = .int .i64 i/\EI wr H nb nv (.slice (some ⟨H,y,none⟩) W.pn cn) W.pn (Db W name L i)/\Eu wr w.heap.size L kw/\AI (fun j=>j=H) w4 wr) (fun i _=>W.pn - (intOf i).toNat)
 case atStart=>exact⟨0,Nat.zero_le _,rfl,by rw[zBE];exact cF.out.A0 x,lB.out,AI.refl _ _⟩
 case round=>
  obtain⟨i,iI,rfl,bE,tD,S⟩:=hrel;have cA:=A4 bE;have eC:=A4 tD;have A:=A4 S;have rI:=S.size;have dC:=A4 ((HC.out.A0 x).AH S (by omega));have oD:=A4 (HV.out.turnedP S (by omega));clear bE tD S;by_cases bC:i<W.pn
  ·have kH:(i:Int)<(W.pn:Int):=(by omega);obtain⟨nH,c1,e1,m⟩:=cA.out.nth bC;cases e1;rw[XJ W name L (Nat.le_refl i)]at m;obtain⟨d,iC⟩:∃d,d=W.A1 i:=⟨_,rfl⟩;rw[<-iC]at m;have mD:=A4 iC;obtain⟨-,ad,cd,sD,-,-⟩:=id m.dead;have jF:=A4 m;obtain⟨q0,-⟩:=m.c0;obtain⟨q1,-⟩:=m.c1;obtain⟨q2,-⟩:=m.c2;obtain⟨q3,-⟩:=m.c3;obtain⟨q4,-⟩:=m.c4;obtain⟨q5,-⟩:=m.c5;obtain⟨q6,-⟩:=m.c6;obtain⟨q7,-⟩:=m.c7;rw[sD]at q7;clear m sD;have gA:=A9 wr (.cells #[.int .i64 d.id,.string d.name,.string d.set,.int .i64 d.A6,.int .i64 d.time,.int .i64 d.rs,.int .i64 d.rb,.slice ad d.dn cd] 41);have HX:=A4 (Bu.new wr (.int .i64 d.id) (.string d.name) (.string d.set) (.int .i64 d.A6) (.int .i64 d.time) (.int .i64 d.rs) (.int .i64 d.rb) (.slice ad d.dn cd) 41);have eG:(wr.alloc (.cells #[.int .i64 d.id,.string d.name,.string d.set,.int .i64 d.A6,.int .i64 d.time,.int .i64 d.rs,.int .i64 d.rb,.slice ad d.dn cd] 41)).heap.size=wr.heap.size+1:=World.size_alloc _ _;have lI:∀(fn:Fn) (first cap:Array Value) (w:World),(Instr.makeFunc fn first cap).run Tryz.prog w = .ok (.func fn first cap) w:=fun _ _ _ _=>rfl
   clear iC;go_wp2_with fail;clear q0 q1 q2 q3 q4 q5 q6 q7;generalize wr.alloc (.cells #[.int .i64 d.id,.string d.name,.string d.set,.int .i64 d.A6,.int .i64 d.time,.int .i64 d.rs,.int .i64 d.rb,.slice ad d.dn cd] 41)=w5 at gA HX eG ⊢;have U:DH w5 base (.slice (some ⟨g,0,none⟩) L.length rc) L kw:=(K.out.turnedP A.out (show H≠g by omega)).A0 gA;have tB:=U.at (w:=w5) (eC.out.A0 gA) (by omega) (Below.refl _ _) (by omega) iF.out;refine(zY L _ wr.heap.size d.id 0 w5.heap.size w5 tB (by omega) HX.out.1.1.1).mono ?_;rintro e Y ⟨⟨t,rfl,ht⟩,q⟩;have n:=A7 gA q;have fG:=q.size;clear U tB;by_cases hq:Gz L d.id
   ·obtain rfl:t=true:=ht.2 hq;have HQ:=A4 hq;clear ht hq;obtain⟨⟨x0,y0⟩,⟨x1,y1⟩,⟨x2,y2⟩,⟨x3,y3⟩,⟨Z,y4⟩,⟨x5,y5⟩,⟨x6,y6⟩,⟨x7,y7⟩,⟨x8,y8⟩⟩:=dC.out.A0 n;have jE:=jF.out.A0 n;obtain⟨m2,vI⟩:=jE.c2;go_wp2_with fail;clear x0 x1 x2 x3 Z x5 x6 x7 x8 y0 y1 y2 y3 y4 y5 y6 y7 y8;have vF:=AI.put Y H (y+i*8+2) (.string name);go_roundw
    case rel=>
     refine⟨i+1,by omega,by go_num,?_,(eC.out.A0 n).text m2 _,A.out.trans ((AI.Co n).trans vF)⟩;rw[zy name (by rw[<-mD.out];exact HQ.out)];exact(cA.out.A0 n).setTo bC nF.out
    case measure=>simp[intOf];omega
   ·obtain rfl:t=false:=Bc ht hq;have HQ:=A4 hq;clear ht hq;go_wp2_with fail;go_roundw
    case rel=>
     refine⟨i+1,by omega,by go_num,?_,eC.out.A0 n,A.out.trans (AI.Co n)⟩;rw[zDV name (by rw[<-mD.out];exact HQ.out)];exact cA.out.A0 n
    case measure=>simp[intOf];omega
  ·obtain rfl:i=W.pn:=(by omega);obtain⟨⟨v0,-⟩,⟨v1,-⟩,⟨v2,-⟩,-⟩:=oD.out.1;obtain⟨⟨x0,y0⟩,⟨x1,y1⟩,⟨x2,y2⟩,⟨x3,y3⟩,⟨Z,y4⟩,⟨x5,y5⟩,⟨x6,y6⟩,⟨x7,y7⟩,⟨x8,y8⟩⟩:=dC.out;go_wp2_with fail;have eE:DD wr l kb kv (.slice (some ⟨l,off,none⟩) W.sn c) W.sn W.A3:=(jD.out.A0 x).AH A.out (fun j u e=>s.out.qr j (G.out j u) (by rw[e];exact F.out _ (Or.inl ⟨by omega,rfl⟩)));have kD:=A4 eE;clear eE;refine(oB.out O.set o wr kF.out kD.out Z).mono ?_;rintro e Y ⟨rfl,q⟩;clear v0 v1 v2 x0 x1 x2 x3 Z x5 x6 x7 x8 y0 y1 y2 y3 y4 y5 y6 y7 y8;have fG:=q.size;obtain⟨o2,jA⟩:∃o2,o2=off+k*6:=⟨_,rfl⟩;obtain⟨o3,kA⟩:∃o3,o3=off+o*6:=⟨_,rfl⟩;have bG:o2+1≠o3+1:=(by omega);have lF:=A4 jA;have mF:=A4 kA;have V:=((gF.out.A0 x).AH A.out fE (fun h0 e=>s.out.qr _ (G.out _ (Or.inr ⟨k,sC,h0,rfl⟩)) (by rw[e];exact F.out _ (Or.inl ⟨by omega,rfl⟩)))).A0 q;have D:=((iD.out.A0 x).AH A.out fE (fun h0 e=>s.out.qr _ (G.out _ (Or.inr ⟨o,T,h0,rfl⟩)) (by rw[e];exact F.out _ (Or.inl ⟨by omega,rfl⟩)))).A0 q;rw[<-jA]at V;rw[<-kA]at D;rw[<-jA,<-kA];obtain⟨t1,sG⟩:=V.c1;obtain⟨t2,tG⟩:=D.c1;obtain⟨⟨v0,-⟩,-⟩:=(oD.out.A0 q).1;have eD:=A4 (dC.out.A0 q);obtain⟨x6,aH⟩:=eD.out.2.2.2.2.2.2.1;have cI:l≠C:=(by omega);have vB:C≠l:=(by omega);have fH:z.heap.size≠l:=(by omega);have gH:z.heap.size≠C:=(by omega);clear V D jA kA;go_wp2_with fail;go_region;go_wp2_with fail;have e2:=lF.out;have e3:=mF.out;subst e2;subst e3;have jC:=AI.put Y l (off+k*6+1) (.int .i64 (W.A3 o).origin);have kC:=AI.put (Y.setCell ⟨l,off+k*6+1,none⟩ (.int .i64 (W.A3 o).origin)) l (off+o*6+1) (.int .i64 O.id);have lC:=AI.put ((Y.setCell ⟨l,off+k*6+1,none⟩ (.int .i64 (W.A3 o).origin)).setCell ⟨l,off+o*6+1,none⟩ (.int .i64 O.id)) C 6 (.int .i64 O.id);have iA:=(Below.refl (((Y.setCell ⟨l,off+k*6+1,none⟩ (.int .i64 (W.A3 o).origin)).setCell ⟨l,off+o*6+1,none⟩ (.int .i64 O.id)).setCell ⟨C,6,none⟩ (.int .i64 O.id)).heap.size (((Y.setCell ⟨l,off+k*6+1,none⟩ (.int .i64 (W.A3 o).origin)).setCell ⟨l,off+o*6+1,none⟩ (.int .i64 O.id)).setCell ⟨C,6,none⟩ (.int .i64 O.id))).drew;have lD:=A4 ((((kD.out.A0 q).orgTo sC (W.A3 o).origin).orgTo T O.id).AH lC (fun j u e=>by
    rw[EN.orgTo,EN.orgTo]at u;have:=bA.out j (Or.inr (Or.inl (G.out j u)));omega))
   have fD:=A4 (show Bp (((Y.setCell ⟨l,off+k*6+1,none⟩ (.int .i64 (W.A3 o).origin)).setCell ⟨l,off+o*6+1,none⟩ (.int .i64 O.id)).setCell ⟨C,6,none⟩ (.int .i64 O.id)) C z0 z1 (.int .i64 W.time) (.int .i64 W.next) (.slice (some ⟨l,off,none⟩) W.sn c) (.slice (some ⟨H,y,none⟩) W.pn cn) (.int .i64 O.id) (.int .i64 0) .nilIface from by
    have h:=(eD.out.AH jC vB).AH kC vB;exact⟨h.1.other _ (Or.inr (by decide)),h.2.1.other _ (Or.inr (by decide)),h.2.2.1.other _ (Or.inr (by decide)),h.2.2.2.1.other _ (Or.inr (by decide)),h.2.2.2.2.1.other _ (Or.inr (by decide)),h.2.2.2.2.2.1.other _ (Or.inr (by decide)),h.2.2.2.2.2.2.1.set _,h.2.2.2.2.2.2.2.1.other _ (Or.inr (by decide)),h.2.2.2.2.2.2.2.2.other _ (Or.inr (by decide))⟩)
   have eA:AI (fun j=>j=l\/j=C) Y (((Y.setCell ⟨l,off+k*6+1,none⟩ (.int .i64 (W.A3 o).origin)).setCell ⟨l,off+o*6+1,none⟩ (.int .i64 O.id)).setCell ⟨C,6,none⟩ (.int .i64 O.id)).drew:=(((jC.mono (fun j e=>Or.inl e)).trans (kC.mono (fun j e=>Or.inl e))).trans (lC.mono (fun j e=>Or.inr e))).trans (AI.Co iA);have pB:=A4 (lD.out.A0 iA);have kB:=A4 (fD.out.A0 iA);clear jC kC lC iA lD fD t1 sG t2 tG v0 x6 aH bG;generalize (((Y.setCell ⟨l,off+k*6+1,none⟩ (.int .i64 (W.A3 o).origin)).setCell ⟨l,off+o*6+1,none⟩ (.int .i64 O.id)).setCell ⟨C,6,none⟩ (.int .i64 O.id)).drew=wz at eA pB kB ⊢;go_end0;have sI:=eA.size;have N:AI (fun j=>j=l\/j=C\/j=H) w wz:=(((AI.Co x).trans (A.out.mono (fun j e=>Or.inr (Or.inr e)))).trans (AI.Co q)).trans (eA.mono (fun j e=>e.imp id Or.inl));refine⟨⟨_,rfl⟩,N.A0 (B:=C) (by omega) (fun j h=>by omega),by omega,Or.inl ⟨rfl,_,_,_,_,kB.out,?_⟩⟩;show EJ wz (C+1) wz.heap.size _ _ _ _ (Gu W name k o L);rw[dF.out];have cE:Q l:=G.out _ (Or.inl ⟨by omega,rfl⟩);have sF:R H:=F.out _ (Or.inl ⟨by omega,rfl⟩);refine⟨P,Q,R,⟨s.out.pool.AH N (fun j u e=>?_),⟨l,kb,kv,pB.out,(fF.out.orgTo _ _).orgTo _ _,fun j u=>?_⟩,⟨H,nb,nv,((cA.out.A0 q).AH eA (fun j u e=>?_)),zBl bF.out _ _ _,fun j u=>F.out j (UH u)⟩,s.out.pq,s.out.pr,s.out.qr⟩,fun j u=>?_⟩
   ·rcases e with e | e | e
    ·exact s.out.pq j u (by rw[e];exact cE)
    ·have:=bA.out j (Or.inl u);omega
    ·exact s.out.pr j u (by rw[e];exact sF)
   ·rw[EN.orgTo,EN.orgTo]at u;exact G.out j u
   ·have hr:=F.out j (UH u);rcases e with e | e
    ·exact s.out.qr l cE (by rw[<-e];exact hr)
    ·have:=bA.out j (Or.inr (Or.inr hr));omega
   ·have:=bA.out j u;omega
theorem zCi(p:Nat->Addr)(C k g q:Nat)(l m n o:Value)(W:A5)(name:ByteArray)(L:List AL)(O:AL)(w:World)(s:CF W)(d:E7 W)(c:(Lit.int .i64 (Am W name).origin).wf=true)(x:Bl W name k)(t:L=CL W (AC W (Am W name).origin).set (Am W name).origin)(u:L.getD 0 Ap=O)(B:0<L.length)(a:Bl W O.set g)(b:k≠g)(j:name.size<=maxLen)(i:C<w.heap.size)(G:w.cell? ⟨q,0,none⟩=some (.string name))
 (y:DC w (C+1) w.heap.size l m n o W) (r:Bp w C l m (.int .i64 W.time) (.int .i64 W.next) n o (.int .i64 0) (.int .i64 0) .nilIface) :
 Calls Tryz.prog 22 #[.pointer (some ⟨C,0,none⟩),.pointer (some ⟨q,0,none⟩)] w (JU p ⟨Gu W name k g L,O.id,0,0⟩ C w):=by
 have H:=A4 (zBF p C k g l m n o W name L O w s d c x t u B a b j i y r);clear y r s d c x t u a b;go_enter Tryz.func22,Tryz.ntmps22;go_wp2_with fail;refine H.out.mono ?_;rintro e w' ⟨⟨v,rfl⟩,z⟩;have A:=A4 z;clear z;go_wp2_with fail;go_end0;refine⟨⟨_,rfl⟩,?_⟩;obtain⟨D,E,F⟩:=A.out;refine⟨D,E,?_⟩;rcases F with⟨-,h⟩ | h
 ·exact Or.inl ⟨rfl,h⟩
 ·exact Or.inr h
theorem zDD(p:Nat->Addr)(m v1 n o:Value)(lo hi:Nat)(W:A5)(name:ByteArray)(w:World)(B:Cr w p)(h:BR w lo hi m v1 n o W)(c:E7 W)(v:Az W.pool<=1048576)(x:W.sn<=1048576)(y:W.pn<=1048576)(z:Je W)(a:name.size<=maxLen)(i:hi<=w.heap.size) :
 Calls Tryz.prog 5 #[BS m v1 n o W,.string name] w (zBA W name w):=by
 by_cases hs:CF W/\B3 W name/\(Am W name).origin≠0
 ·obtain⟨k,s⟩:=Kz hs.2.1;obtain⟨d,q,M,t,b⟩:=Yl hs.1 hs.2.2;refine(ZX p m v1 n o lo hi W name ⟨Gu W name k t (Dt W name),(Am W name).origin,0,0⟩ w B h c v x y z a i ?_).mono ?_
  ·intro u C w' G H I J F _ g _ _ l j N E A;have D:=zCi p C k t u G H I J W name (Dt W name) (AC W (Am W name).origin) w' g c (qR g name) s rfl q d b (zBD g hs.2.2 (l 2 (by omega)) s b) a j F E A;rw[M]at D;exact D
  ·rintro e w' ⟨r,K,L⟩;exact⟨r,_,K,fun _=>⟨k,t,s,b,rfl⟩,L⟩
 ·refine(ZX p m v1 n o lo hi W name (BG 0) w B h c v x y z a i ?_).mono ?_
  ·intro u C w' G H I J F _ g _ _ l j N E A;exact absurd ⟨g,l 0 (by omega),l 1 (by omega)⟩ hs
  ·rintro e w' ⟨r,d,q⟩;exact⟨r,_,d,fun e=>absurd ⟨(e▸d).impl,(e▸d).all 0 (by omega),(e▸d).all 1 (by omega)⟩ hs,q⟩
open Go.Shelf
abbrev CR:=(Int×Int)×(Int×Int)
abbrev F9:={x:CR // (Lit.int .i64 x.2.1).wf=true/\(Lit.int .i64 x.2.2).wf=true/\(x.1.1=2->0<=x.1.2/\x.1.2<64)}
abbrev LR(x:F9):Array Value:=#[.agg #[.int .i64 x.1.1.1,.int .i64 x.1.1.2],.agg #[.int .i64 x.1.2.1,.int .i64 x.1.2.2]]
def Dn(f:Nat->List CR):Nat->List CR
 | 0=>[]
 | k+1=>Dn f k ++ f k
def FC(p:A8)(L:Int)(G:Int->Int->Int->List CR)(num xs xb:Int):List CR:=if Nil xs xb then [] else((L,num),(xs,xb)) :: Dn (fun i=>G (num*8+i) (AK (p.s xs.toNat) i) (AW (p.s xs.toNat) i)) 8
def KO(p:A8):Int->Int->Int->List CR:=FC p 2 (fun _ _ _=>[])
def KN(p:A8):Int->Int->Int->List CR:=FC p 1 (KO p)
def CG(p:A8)(rs rb:Int):List CR:=FC p 0 (KN p) 0 rs rb
theorem VQ:∀k,Dn (fun _=>[]) k = []
 | 0=>rfl
 | k+1=>by rw[Dn,VQ k];rfl
theorem VO{f:Nat->List CR}{m:Nat}(h:∀i,(f i).length<=m):∀k,(Dn f k).length<=m*k
 | 0=>Nat.le_refl _
 | k+1=>by
  have:=VO h k;have:=h k;rw[Dn,List.length_append];have:m*(k+1)=m*k+m:=Nat.mul_succ _ _;omega
theorem QM(p:A8)(num xs xb:Int):KO p num xs xb=if Nil xs xb then [] else [((2,num),(xs,xb))]:=by
 unfold KO FC;rw[VQ]
theorem VR{f:Nat->List CR}{g:Nat->List (Int×Int)}(h:∀i,(f i).map (·.2)=g i):∀k,(Dn f k).map (·.2)=(List.range k).flatMap g
 | 0=>rfl
 | k+1=>by rw[Dn,List.map_append,VR h k,h k,List.range_succ,List.flatMap_append];simp
theorem YE(F:Int->Int->List (Int×Int))(s:AD):∀k,D7 F s k=(List.range k).flatMap (fun i=>F (AK s i) (AW s i))
 | 0=>rfl
 | k+1=>by rw[D7,YE F s k,List.range_succ,List.flatMap_append];simp
variable{G:Int->Int->Int->List CR}
theorem Ve{p:A8}{L:Int}{F:Int->Int->List (Int×Int)}(h:∀num xs xb,(G num xs xb).map (·.2)=F xs xb)(num xs xb:Int):(FC p L G num xs xb).map (·.2)=FY p F xs xb:=by
 unfold FC FY;by_cases hn:Nil xs xb
 ·rw[if_pos hn,if_pos hn];rfl
 ·rw[if_neg hn,if_neg hn,List.map_cons,VR (g:=fun i=>F (AK (p.s xs.toNat) i) (AW (p.s xs.toNat) i)) (fun i=>h _ _ _),YE]
theorem zEs(p:A8)(rs rb:Int):(CG p rs rb).map (·.2)=AF p rs rb:=by
 have b:∀num xs xb,(KO p num xs xb).map (·.2)=one xs xb:=fun num xs xb=>by
  rw[QM];unfold one;by_cases hn:Nil xs xb
  ·rw[if_pos hn,if_pos hn];rfl
  ·rw[if_neg hn,if_neg hn];rfl
 have a:∀num xs xb,(KN p num xs xb).map (·.2)=DV p xs xb:=fun num xs xb=>by
  unfold KN;rw[Ve b];unfold FY DV Gp;rw[RH]
 unfold CG;rw[Ve a];unfold FY AF;rw[RG]
def CH(n₀ B:Nat)(W W':World):Prop:=Below n₀ W W'/\∀k o,B<=k->W.heap[k]?=some o->o.isCells=true->W'.heap[k]?=some o
theorem CH.refl(n₀ B:Nat)(W:World):CH n₀ B W W:=⟨Below.refl _ _,fun _ _ _ h _=>h⟩
variable{n₀:Nat}
theorem J6{X Y Z:World}(h:CH n₀ B X Y)(k:CH n₀ B Y Z):CH n₀ B X Z:=⟨h.1.trans k.1,fun i o hi b a=>k.2 i o hi (h.2 i o hi b a) a⟩
theorem Vw(hn:n₀<=w.heap.size)(W:World)(l:Nat)(o o':Obj)(d:w.heap.size<=l)(h:W.heap[l]?=some o)(c:o.isCells=false)(g:o.isWalk=false):CH n₀ B W (W.putObj l o'):=by
 refine⟨belowK_b hn W l o o' d h c g,fun k ok i a b=>?_⟩;by_cases e:k=l
 ·subst e;rw[h]at a;cases a;rw[c]at b;exact absurd b (by simp)
 ·exact(World.putObj_heap_other e).trans a
variable{W W':World}
theorem CH.Co(h:Below W.heap.size W W')(hn:n₀<=W.heap.size):CH n₀ B W W':=
 ⟨h.mono hn,fun k o _ a _=>(h.block k (Array.getElem?_eq_some_iff.1 a).1).trans a⟩
theorem ZR(h:W.cell? ⟨b,o,none⟩=some v):∃ob:Obj,W.heap[b]?=some ob/\ob.isCells=true:=by
 simp only[World.cell?]at h;cases hb:W.heap[b]? with
 | none=>rw[hb]at h;simp at h
 | some ob=>
  refine⟨ob,rfl,?_⟩;rw[hb]at h;cases ob<;>first | rfl | (simp at h)
theorem CH.cell(h:CH n₀ B W W')(i:B<=b)(c:AJ W b o v):AJ W' b o v:=by
 obtain⟨ob,d,g⟩:=ZR c.1;have e:W'.heap[b]?=W.heap[b]?:=(h.2 b ob i d g).trans d.symm;exact⟨(World.cell?_of_block (a:=⟨b,o,none⟩) e).trans c.1,(World.frozen?_of_block (a:=⟨b,o,none⟩) e).trans c.2⟩
theorem CH.size(h:CH n₀ B W W'):W.heap.size<=W'.heap.size:=h.1.size
attribute [go_sem] Oper.semAt_some
theorem zAp{F:Fence}(a:F.depth=none)(k:Nat):F.room k:=fun d h=>by rw[a]at h;cases h
theorem zEw{m:Nat}(d:Nat){P:Program}{l:Nat}{args:Array Value}{R:Ending->World->Prop}(h:YieldAt Fence.wide m P l args W R):YieldAt Fence.wide d P l args W R:=by
 obtain⟨fn,tmps,assign,body,b,a⟩:=h;exact⟨fn,tmps,assign,body,b,⟨a.1,fun c cs _=>a.2 c cs (zAp rfl _)⟩⟩
theorem AT{P:Prop}(h:P):Hid P:=h
theorem zCq(L num:Int)(i:Nat)(c:0<=L/\L<=2)(hn:0<=num/\num<=1000)(hi:i<8)(w:World) :
 Calls Tryz.prog 197 #[.agg #[.int .i64 L,.int .i64 num],.int .i64 (i:Int)] w fun e w'=>e = .returned (.agg #[.int .i64 (L+1),.int .i64 (num*8+i)])/\Below w.heap.size w w':=by
 have a:=A9 w (.cells #[.int .i64 L,.int .i64 num] 133);have b:=A9 (w.alloc (.cells #[.int .i64 L,.int .i64 num] 133)) (.cells #[.int .i64 (L+1),.int .i64 (num*8+i)] 133);obtain⟨⟨d,-⟩,⟨g,-⟩⟩:=(Ad.new w (.int .i64 L) (.int .i64 num) 133);go_enter Tryz.func197,Tryz.ntmps197;go_wp2;refine bodyPost_ret (v:=.agg #[.int .i64 (L+1),.int .i64 (num*8+i)]) (by simp[results,Tryz.results197,go_sem]) rfl ⟨rfl,?_⟩;exact A7 a b
def LY(p:A8)(C:Int->Int->Prop)(xs xb:Int):Prop:=Nil xs xb\/(BM p xs xb/\∀i,i<8->C (AK (p.s xs.toNat) i) (AW (p.s xs.toNat) i))
section
variable (n₀ B N l : Nat) (p : A8) (sv : Value) (lo hi : Nat) (J Jx : List F9 -> World -> Prop)
def zEz(pre:List F9)(out:List CR)(W:World)(e:Ending)(W':World):Prop:=
 ∃t:Bool,e = .returned (.bool t)/\(t=true->(∃ys:List F9,ys.map (·.1)=out/\J (pre ++ ys) W')/\CH n₀ B W W')/\(t=false->∃q,Jx q W')
def PS(L:Int)(G:Int->Int->Int->List CR)(C:Int->Int->Prop)(M:Int):Prop:=
 ∀(n:Nat) (num xs xb:Int) (pre:List F9) (W:World),C xs xb->0<=num->num<=M->B<=W.heap.size->J pre W->pre.length+(G num xs xb).length<=N->
  CallsIn Fence.wide n Tryz.prog 149 #[sv,.agg #[.int .i64 L,.int .i64 num],.agg #[.int .i64 xs,.int .i64 xb],.func (.yield l) #[] #[]] W (zEz n₀ B J Jx pre (G num xs xb) W)
end
theorem zEp(n₀ B N l:Nat)(p:A8)(sv:Value)(J Jx:List F9->World->Prop)(hn:n₀<=B)(j:∀s W b,J s W->Below W.heap.size W b->J s b)(L M:Int)(hs:∃a n c,sv = .slice a n c):PS n₀ B N l sv J Jx L (fun _ _ _=>[]) Nil M:=by
 intro n num xs xb pre W i r u t q v;obtain⟨rfl,rfl⟩:=i;obtain⟨a,k,c,rfl⟩:=hs;have m:=A9 W (.cells #[.int .i64 L,.int .i64 num] 133);have o:=A9 (W.alloc (.cells #[.int .i64 L,.int .i64 num] 133)) (.cells #[.int .i64 0,.int .i64 0] 38);have d:=A7 m o;have g:=AT (j _ _ _ q d);have e:=Ad.new (W.alloc (.cells #[.int .i64 L,.int .i64 num] 133)) (.int .i64 0) (.int .i64 0) 38;rw[World.size_alloc]at e;obtain⟨⟨w,-⟩,⟨x,-⟩⟩:=e;refine callsIn_of_wp Tryz.func149 rfl trivial ?_ rfl;simp only[Tryz.ntmps149,List.size_toArray,List.length_cons,List.length_nil,Nat.reduceAdd,Nat.reduceSub,Array.replicate_succ,Array.replicate_zero,List.push_toArray,List.append_toArray,List.nil_append,List.cons_append]
 gi_wp2
 go_ret;exact⟨true,rfl,fun _=>⟨⟨[],rfl,by rw[List.append_nil];exact g.out⟩,CH.Co d (by omega)⟩,fun h=>(by cases h)⟩
variable{p:A8}
theorem zGp{N k j:Nat}{L num xb:Int}{pre ys:List F9}(l:pre.length+(((L,num),((k:Int),xb)) :: Dn (fun i=>G (num*8+i) (AK (p.s k) i) (AW (p.s k) i)) 8).length<=N)(c:ys.map (·.1)=((L,num),((k:Int),xb)) :: Dn (fun i=>G (num*8+i) (AK (p.s k) i) (AW (p.s k) i)) j)(n:j<8) :
 (pre ++ ys).length+(G (num*8+j) (AK (p.s k) j) (AW (p.s k) j)).length<=N:=by
 have d:=congrArg List.length c;rw[List.length_map]at d;have m:∀(f:Nat->List CR) (a b:Nat),a<=b->(Dn f a).length<=(Dn f b).length:=fun f a b h=>by
  induction b with
  | zero=>
    obtain rfl:a=0:=(by omega);exact Nat.le_refl _
  | succ b ih=>
    by_cases e:a=b+1
    · subst e;exact Nat.le_refl _
    · have:=ih (by omega)
      rw[Dn,List.length_append];omega
 have g:=m (fun i=>G (num*8+i) (AK (p.s k) i) (AW (p.s k) i)) (j+1) 8 (by omega);rw[Dn,List.length_append]at g;rw[List.length_append];rw[List.length_cons]at d l;omega
theorem zB3(s:AD){j:Nat}(h:j<8):∀w:World,(Instr.index 222 (.agg (BB s)) (.int .i64 (j:Int))).run Tryz.prog w = .ok (.agg #[.int .i64 (AK s j),.int .i64 (AW s j)]) w:=by
 intro w;obtain rfl | rfl | rfl | rfl | rfl | rfl | rfl | rfl:j=0\/j=1\/j=2\/j=3\/j=4\/j=5\/j=6\/j=7:=by omega
 all_goals kernel_rfl
theorem Qy(n₀ B N l:Nat)(p:A8)(sv:Value)(lo hi:Nat)(J Jx:List F9->World->Prop)(hn:n₀<=B)(hR:Ag p)(hJ:∀s W W',J s W->Below W.heap.size W W'->J s W')(hS:∀s W,J s W->Bb W lo hi sv p.n p.s)
 (hY:∀m pre x W,J pre W->pre.length<N->B<=W.heap.size->YieldAt Fence.wide m Tryz.prog l (LR x) W fun e W'=>(e = .returned (.bool true)/\J (pre ++ [x]) W'/\CH n₀ B W W')\/(e = .returned (.bool false)/\Jx (pre ++ [x]) W'))
 (L M:Int) (hL:0<=L/\L<=2) (hM:0<=M/\M<=100) (pC:L=2->M<64) (G:Int->Int->Int->List CR) (C:Int->Int->Prop) (I:PS n₀ B N l sv J Jx (L+1) G C (M*8+7)):PS n₀ B N l sv J Jx L (FC p L G) (LY p C) M:=by
 intro n num xs xb pre W hC h0 rD hB hj hN;obtain⟨a,c,rfl⟩:∃a c,sv = .slice a p.n c:=(by obtain⟨_,a,c,h,_⟩:=hS _ _ hj;exact⟨a,c,h⟩);have ha:=A9 W (.cells #[.int .i64 L,.int .i64 num] 133);have hb:=A9 (W.alloc (.cells #[.int .i64 L,.int .i64 num] 133)) (.cells #[.int .i64 xs,.int .i64 xb] 38);have hA:=A7 ha hb;have HX:=AT ((Ad.new W (.int .i64 L) (.int .i64 num) 133).A0 hb);have K:=Ad.new (W.alloc (.cells #[.int .i64 L,.int .i64 num] 133)) (.int .i64 xs) (.int .i64 xb) 38;rw[World.size_alloc]at K;have HY:=AT K;have F:=hJ _ _ _ hj hA;have aA:((W.alloc (.cells #[.int .i64 L,.int .i64 num] 133)).alloc (.cells #[.int .i64 xs,.int .i64 xb] 38)).heap.size=W.heap.size+1+1:=(by rw[World.size_alloc,World.size_alloc]);have HZ:=AT aA;clear ha hb K hj;obtain⟨⟨x0,-⟩,⟨x1,-⟩⟩:=HX.out;obtain⟨⟨y0,-⟩,⟨y1,-⟩⟩:=HY.out;by_cases g:Nil xs xb
 · have HN:=AT g
   have dC:=AT F;obtain⟨rfl,rfl⟩:=g;clear F aA;refine callsIn_of_wp Tryz.func149 rfl trivial ?_ rfl;simp only[Tryz.ntmps149,List.size_toArray,List.length_cons,List.length_nil,Nat.reduceAdd,Nat.reduceSub,Array.replicate_succ,Array.replicate_zero,List.push_toArray,List.append_toArray,List.nil_append,List.cons_append]
   gi_wp2
   go_ret;exact⟨true,rfl,fun _=>⟨⟨[],by rw[show FC p L G num 0 0 = [] from if_pos HN.out];rfl,by rw[List.append_nil];exact dC.out⟩,CH.Co hA (by omega)⟩,fun h=>(by cases h)⟩
 have y:FC p L G num xs xb=((L,num),(xs,xb)) :: Dn (fun i=>G (num*8+i) (AK (p.s xs.toNat) i) (AW (p.s xs.toNat) i)) 8:=if_neg g;have e0:=P2 g;obtain⟨o,w⟩:=hC.resolve_left g;have Hf:=AT (F5 hR o);rw[y]at hN ⊢;have oB:(Lit.int .i64 xs).wf=true/\(Lit.int .i64 xb).wf=true/\(L=2->0<=num/\num<64):=by
  have h1:=o.2.2.1;have h2:=o.2.1;have h3:=o.1;have h4:=hR.1;have h5:=Hf.out.1.2;have h6:=o.2.2.2;exact⟨WalkArith.wf_i64 (by omega),WalkArith.wf_i64 (by omega),fun e=>⟨h0,by have:=pC e;omega⟩⟩
 obtain⟨k,rfl⟩:=Int.eq_ofNat_of_zero_le o.2.1;rw[Int.toNat_natCast]at Hf w hN ⊢;have hk:k<p.n:=(by have:=o.2.2.1;omega);have vD:(k:Int)<(p.n:Int):=(by omega);have jC:=AT hN;have vA:=AT w;have aB:=AT I;have mD:=AT hY;rw[List.length_cons]at hN;have sC:=hY (n - 1) pre ⟨((L,num),((k:Int),xb)),oB⟩ _ F (by omega) (by rw[HZ.out];omega);clear g hC o y F aA I w hN hY;obtain⟨fn,tmps,assign,body,K,Z⟩:=sC;unfold LR at K;dsimp only at K;have E:∀k:Nat,(Fence.wide.depth.isSome=true->1<=k):=fun k h=>by simp[Fence.wide]at h
 rcases e0 with e0 | ⟨e0,e1⟩
 all_goals
  refine callsIn_of_wp Tryz.func149 rfl trivial ?_ rfl;simp only[Tryz.ntmps149,List.size_toArray,List.length_cons,List.length_nil,Nat.reduceAdd,Nat.reduceSub,Array.replicate_succ,Array.replicate_zero,List.push_toArray,List.append_toArray,List.nil_append,List.cons_append]
  gi_wp2
  refine⟨E _,Z.mono ?_⟩;rintro e W2 (⟨rfl,Y,q⟩ | ⟨rfl,pB⟩);rotate_left
  · have mC:=AT pB
    clear pB Z K x0 x1 y0 y1
    gi_wp2
    go_ret;exact⟨false,rfl,fun h=>(by cases h),fun _=>⟨_,mC.out⟩⟩
  have iA:=AT Y;have hz:=HZ.out;have lA:=AT (J6 (CH.Co (n₀:=n₀) (B:=B) hA (by omega)) q);have S:=AT (show Ad W2 W.heap.size (.int .i64 L) (.int .i64 num)from⟨q.cell hB HX.out.1,q.cell hB HX.out.2⟩);have sA:=AT (show Ad W2 (W.heap.size+1) (.int .i64 (k:Int)) (.int .i64 xb)from⟨q.cell (by omega) HY.out.1,q.cell (by omega) HY.out.2⟩);have T:=AT (show W.heap.size+1+1<=W2.heap.size by have:=q.size;omega);obtain⟨b,off,ka,kc,rfl,lB⟩:=(hS _ _ Y).cells hk;have HC:=AT lB.slot;obtain⟨q0,q1,q2,-⟩:=lB;clear Y q Z K x0 x1 y0 y1 HX HY hA hz;obtain⟨⟨x0,-⟩,⟨x1,-⟩⟩:=S.out;obtain⟨⟨y0,-⟩,⟨y1,-⟩⟩:=sA.out
  gi_wp2
  refine⟨trivial,E _,(callsIn_wide.2 (OT _ _ _ lo hi (p.s k) _ HC.out (Kf Hf.out))).mono ?_⟩;rintro e W3 ⟨rfl,v⟩;have jA:=AT (hJ _ _ _ iA.out v);have mA:=AT (J6 lA.out (CH.Co v (by have:=T.out;omega)));have oA:=AT (S.out.A0 v);have tA:=AT (show W.heap.size+1+1<=W3.heap.size by have:=T.out;have:=v.size;omega);clear v q0 q1 q2 x0 x1 y0 y1 iA lA S sA T HC
  gi_wp2
  gi_loopw [25] (fun i wr=>∃(j:Nat) (ys:List F9),j<=8/\i = .int .i64 j/\ys.map (·.1)=((L,num),((k:Int),xb)) :: Dn (fun i=>G (num*8+i) (AK (p.s k) i) (AW (p.s k) i)) j/\J (pre ++ ys) wr/\CH n₀ B W wr/\Ad wr W.heap.size (.int .i64 L) (.int .i64 num)/\W.heap.size+1+1<=wr.heap.size) (fun i _=>8 - (intOf i).toNat)
  case atStart=>exact⟨0,[⟨((L,num),((k:Int),xb)),oB⟩],by omega,rfl,rfl,jA.out,mA.out,oA.out,tA.out⟩
  case round=>
   obtain⟨j,ys,sD,rfl,rB,cB,fB,iB,jB⟩:=hrel;have X:=AT rB;have O:=AT cB;have P:=AT fB;have rA:=AT iB;have U:=AT jB;clear rB cB fB iB jB jA mA oA tA;by_cases H:j<8
   · have jD:(j:Int)<8:=by omega
     have vC:=zB3 (p.s k) H;have D:=A9 wr (.cells #[.int .i64 (AK (p.s k) j),.int .i64 (AW (p.s k) j)] 38);have A:=AT (Ad.new wr (.int .i64 (AK (p.s k) j)) (.int .i64 (AW (p.s k) j)) 38);have z:=AT (rA.out.A0 D);have kA:=AT (hJ _ _ _ O.out D);have u:=AT (show W.heap.size+1+1<=wr.heap.size/\(wr.alloc (.cells #[.int .i64 (AK (p.s k) j),.int .i64 (AW (p.s k) j)] 38)).heap.size=wr.heap.size+1 from⟨U.out,World.size_alloc _ _⟩);have nA:=AT (J6 P.out (CH.Co D (by have:=U.out;omega)));have iC:=AT (zGp jC.out X.out H);clear D O P rA U
     gi_wp2
     clear vC;generalize wr.alloc (.cells #[.int .i64 (AK (p.s k) j),.int .i64 (AW (p.s k) j)] 38)=W4 at A z kA u nA ⊢;generalize wr.heap.size=V at A u ⊢;obtain⟨⟨x0,-⟩,⟨x1,-⟩⟩:=z.out;obtain⟨⟨y0,-⟩,⟨y1,-⟩⟩:=A.out
     gi_region_with (first
      | (refine⟨trivial,E _,?_⟩;gi_at_call 197;refine(callsIn_wide.2 (zCq L num j hL ⟨h0,by omega⟩ H _)).mono ?_;rintro e W5 ⟨rfl,kB⟩;have d:=Cp kB;obtain⟨⟨z0,-⟩,⟨z1,-⟩⟩:=A.out.A0 d;obtain⟨⟨m0,-⟩,⟨m1,-⟩⟩:=z.out.A0 d)
      | (refine⟨trivial,E _,?_⟩;gi_at_call 149;refine(aB.out (n - 1) (num*8+j) _ _ (pre ++ ys) _ (vA.out j H) (by omega) (by omega) (by have:=d.size;have:=u.out;omega) (hJ _ _ _ kA.out d) iC.out).mono ?_;rintro e W6 ⟨t,rfl,mB,nB⟩))
     all_goals
      have Q:=AT mB;have R:=AT nB;clear mB nB;cases t
     all_goals first
      | (have HQ:=AT (R.out rfl)
         clear Q R
         gi_wp2
         go_ret;exact⟨false,rfl,fun h=>(by cases h),fun _=>HQ.out⟩)
      | (obtain⟨⟨zs,sB,bB⟩,eB⟩:=Q.out rfl
         have nC:=AT sB;have eC:=AT bB;have r:=AT eB;have pA:=AT (z.out.A0 d);have kC:=AT (show W.heap.size+1+1<=W5.heap.size by have:=u.out;have:=d.size;omega);have fC:=AT (J6 nA.out (CH.Co d (by have:=u.out;omega)));clear Q R sB bB eB kB d x0 x1 y0 y1 z0 z1 m0 m1
         gi_wp2
         go_roundw
         case rel=>exact⟨j+1,ys ++ zs,by omega,by go_num,by rw[List.map_append,X.out,nC.out];rfl,by rw[<-List.append_assoc];exact eC.out,J6 fC.out r.out,⟨r.out.cell hB pA.out.1,r.out.cell hB pA.out.2⟩,by have:=r.out.size;have:=kC.out;omega⟩
         case measure=>simp[intOf];omega)
   · obtain rfl:j=8:=by omega
     gi_wp2
     go_ret;exact⟨true,rfl,fun _=>⟨⟨ys,X.out,O.out⟩,P.out⟩,fun h=>(by cases h)⟩
theorem zFh{xs xb:Int}(h:Nil xs xb\/Lp p xs xb):LY p Nil xs xb:=by
 rcases h with h | h
 ·exact Or.inl h
 ·refine Or.inr ⟨h.1,fun i hi=>?_⟩;have a:=h.2.1;exact⟨by unfold AK BA;rw[if_neg (by omega)],by unfold AW BA;rw[if_neg (by omega)]⟩
theorem zAF{rs rb:Int}(h:As p rs rb):LY p (LY p (LY p Nil)) rs rb:=by
 rcases h with h | ⟨h,c,_⟩
 ·exact Or.inl h
 ·refine Or.inr ⟨h.1,fun i hi=>?_⟩;rcases c.1 i hi with h | ⟨h,b⟩
  ·exact Or.inl h
  ·exact Or.inr ⟨h.1,fun j a=>zFh (b.1 j a)⟩
theorem zCA{β : Type}{W0:Nat}{J:β->World->Prop}(h:AbidesFrom W0 J):∀s W a,J s W->Below W.heap.size W a->J s a:=fun s W a hs b=>
 h s W a none hs (JD b none) (fun r e=>by cases e)
theorem Bb.keep{w':World}{lo:Nat}{f:Nat->AD}(h:Bb w lo hi v n f)(a:Below n₀ w w')(c:hi<=n₀):Bb w' lo hi v n f:=
 h.same (fun k _ b=>a.block k (by omega))
theorem zEi(n₀ B n l K I lo hi:Nat)(p:A8)(sv v1 v4 v5:Value)(Y Z:Int)(rs rb:Int)(J Jx:List F9->World->Prop)(hn:n₀<=B)(S:hi<=n₀)(F:Ag p)(Q:As p rs rb)
 (L:∀s W b,J s W->Below W.heap.size W b->J s b)
 (N:∀pre x W,J pre W->pre.length<(CG p rs rb).length->YieldAt Fence.wide (n - 1) Tryz.prog l (LR x) W fun e b=>(e = .returned (.bool true)/\J (pre ++ [x]) b/\CH n₀ B W b)\/(e = .returned (.bool false)/\Jx (pre ++ [x]) b))
 (W:World) (P:B<=W.heap.size) (X:Aj W K sv v1 (.int .i64 Y) (.int .i64 Z) v4 v5) (V:Ad W I (.int .i64 rs) (.int .i64 rb)) (M:Bb W lo hi sv p.n p.s) (O:J [] W) :
 CallsIn Fence.wide n Tryz.prog 148 #[.func (.yield l) #[] #[],.pointer (some ⟨K,0,none⟩),.pointer (some ⟨I,0,none⟩)] W fun e b=>(∃v,e = .returned v)/\((∃C:List F9,C.map (·.1)=CG p rs rb/\J C b)\/(∃q,True/\Jx q b)):=by
 have G:∀k:Nat,(Fence.wide.depth.isSome=true->1<=k):=fun k h=>by simp[Fence.wide]at h
 obtain⟨a,c,rfl⟩:∃a c,sv = .slice a p.n c:=by obtain⟨_,a,c,h,_⟩:=M;exact⟨a,c,h⟩
 have r:=zEp n₀ B (CG p rs rb).length l p (.slice a p.n c) (fun s W=>J s W/\Bb W lo hi (.slice a p.n c) p.n p.s) Jx hn (fun s W b h u=>⟨L s W b h.1 u,h.2.A0 u⟩) 3 511 ⟨a,p.n,c,rfl⟩;have d:∀s W b,(J s W/\Bb W lo hi (.slice a p.n c) p.n p.s)->Below W.heap.size W b->(J s b/\Bb b lo hi (.slice a p.n c) p.n p.s):=fun s W b h u=>⟨L s W b h.1 u,h.2.A0 u⟩
 have g:∀m pre x W,(J pre W/\Bb W lo hi (.slice a p.n c) p.n p.s)->pre.length<(CG p rs rb).length->B<=W.heap.size->YieldAt Fence.wide m Tryz.prog l (LR x) W fun e b=>(e = .returned (.bool true)/\(J (pre ++ [x]) b/\Bb b lo hi (.slice a p.n c) p.n p.s)/\CH n₀ B W b)\/(e = .returned (.bool false)/\Jx (pre ++ [x]) b):=fun m pre x W A T _=>
  zEw m (YieldAt.mono (N pre x W A.1 T) fun e b h=>h.elim (fun ⟨R,h1,h2⟩=>.inl ⟨R,⟨h1,A.2.keep h2.1 S⟩,h2⟩) .inr)
 have o:=Qy n₀ B (CG p rs rb).length l p (.slice a p.n c) lo hi _ Jx hn F d (fun s W h=>h.2) g 2 63 (by omega) (by omega) (by omega) _ _ r;have j:=Qy n₀ B (CG p rs rb).length l p (.slice a p.n c) lo hi _ Jx hn F d (fun s W h=>h.2) g 1 7 (by omega) (by omega) (by omega) _ _ o;have i:=Qy n₀ B (CG p rs rb).length l p (.slice a p.n c) lo hi _ Jx hn F d (fun s W h=>h.2) g 0 0 (by omega) (by omega) (by omega) _ _ j;have w:=i (n - 1) 0 rs rb [] W (zAF Q) (by omega) (by omega) P ⟨O,M⟩ (by rw[List.length_nil,Nat.zero_add];exact Nat.le_refl _);clear r o j i N g d;obtain⟨x0,x1,x2,x3,x4,x5⟩:=X.c;obtain⟨⟨y0,-⟩,⟨y1,-⟩⟩:=V;refine callsIn_of_wp Tryz.func148 rfl trivial ?_ rfl;simp only[Tryz.ntmps148,List.size_toArray,List.length_cons,List.length_nil,Nat.reduceAdd,Nat.reduceSub,Array.replicate_succ,Array.replicate_zero,List.push_toArray,List.append_toArray,List.nil_append,List.cons_append]
 gi_wp2
 refine⟨trivial,G _,w.mono ?_⟩;rintro e W1 ⟨t,rfl,y,z⟩;have D:=AT y;have E:=AT z;clear y z w
 gi_wp2
 go_end0;refine⟨⟨_,rfl⟩,?_⟩;cases t
 ·obtain⟨q,U⟩:=E.out rfl;exact .inr ⟨q,trivial,U⟩
 ·obtain⟨⟨C,H,A⟩,_⟩:=D.out rfl;exact .inl ⟨C,H,by simpa using A.1⟩
open Go.Maps
attribute [go_sem] Oper.semAt_some
theorem Yp(a v1 b c:Value)(W:A5)(rs rb:Int)(w:World) :
 Calls Tryz.prog 95 #[BS a v1 b c W,.agg #[.int .i64 rs,.int .i64 rb]] w fun e w'=>e = .returned (.func (.func 148) #[] #[.pointer (some ⟨w.heap.size,0,none⟩),.pointer (some ⟨w.heap.size+1,0,none⟩)])/\Aj w' w.heap.size a v1 (.int .i64 W.time) (.int .i64 W.next) b c/\Ad w' (w.heap.size+1) (.int .i64 rs) (.int .i64 rb)/\Below w.heap.size w w'/\w'.heap.size=w.heap.size+2:=by
 have k:=A9 w (.cells #[a,v1,.int .i64 W.time,.int .i64 W.next,b,c] 30);have g:=A9 (w.alloc (.cells #[a,v1,.int .i64 W.time,.int .i64 W.next,b,c] 30)) (.cells #[.int .i64 rs,.int .i64 rb] 38);have h:=AT ((Aj.new w a v1 (.int .i64 W.time) (.int .i64 W.next) b c 30).A0 g);have d:=Ad.new (w.alloc (.cells #[a,v1,.int .i64 W.time,.int .i64 W.next,b,c] 30)) (.int .i64 rs) (.int .i64 rb) 38;rw[World.size_alloc]at d;have i:=AT d;have j:=AT (show((w.alloc (.cells #[a,v1,.int .i64 W.time,.int .i64 W.next,b,c] 30)).alloc (.cells #[.int .i64 rs,.int .i64 rb] 38)).heap.size=w.heap.size+2 by rw[World.size_alloc,World.size_alloc]);clear d;have l:∀(fn:Fn) (first cap:Array Value) (w:World),(Instr.makeFunc fn first cap).run Tryz.prog w = .ok (.func fn first cap) w:=fun _ _ _ _=>rfl
 go_enter Tryz.func95,Tryz.ntmps95;go_wp2;go_ret;exact⟨rfl,h.out,i.out,A7 k g,j.out⟩
theorem Yd(n₀ B n c b lo hi:Nat)(p:A8)(sv v1 g h:Value)(d e rs rb:Int)(w:World)(hn:n₀<=B)(x:B<=w.heap.size)(r:hi<=n₀)(k:Ag p)(o:As p rs rb)(u:Aj w c sv v1 (.int .i64 d) (.int .i64 e) g h)(t:Ad w b (.int .i64 rs) (.int .i64 rb))(m:Bb w lo hi sv p.n p.s) :
 SeqStopsK Fence.wide n Tryz.prog 148 #[.pointer (some ⟨c,0,none⟩),.pointer (some ⟨b,0,none⟩)] LR (CH n₀ B) (fun v=>v.map (·.1)=CG p rs rb) (fun _=>True) (CG p rs rb).length w:=fun l J Jx W a j _ q i=>
 zEi n₀ B n l c b lo hi p sv v1 g h d e rs rb J Jx hn r k o (zCA j) q W (by have:=a.size;omega) (u.A0 a) (t.A0 a) (m.A0 a) i
theorem Gj{X Y:World}{row:Option Nat}(h:AJ X b o v)(k:X.grownBy Y row)(l:∀r,row=some r->B<=r/\∃ob:Obj,X.heap[r]?=some ob/\ob.isCells=false):AJ Y b o v:=by
 obtain⟨ob,i,j⟩:=ZR h.1;have c:some b≠row:=fun e=>by
  obtain⟨_,ob',d,g⟩:=l b e.symm;rw[i]at d;cases d;rw[j]at g;exact absurd g (by simp)
 have e:=k.block b h.lt c;exact⟨(World.cell?_of_block (a:=⟨b,o,none⟩) e).trans h.1,(World.frozen?_of_block (a:=⟨b,o,none⟩) e).trans h.2⟩
theorem Rm(a:n₀<=b)(d:b<B)(v:Value):CH n₀ B W (W.setCell ⟨b,o,none⟩ v):=
 ⟨(Below.refl n₀ W).setCell (p:=⟨b,o,none⟩) a v,fun k ob e c _=>(Below.heap_setCell W ⟨b,o,none⟩ v k (by simp;omega)).trans c⟩
theorem Vd{L:Int}{m:Nat}(h:∀num xs xb,(G num xs xb).length<=m)(num xs xb:Int):(FC p L G num xs xb).length<=1+m*8:=by
 unfold FC;by_cases hn:Nil xs xb
 ·rw[if_pos hn];simp
 ·rw[if_neg hn,List.length_cons];have:=VO (f:=fun i=>G (num*8+i) (AK (p.s xs.toNat) i) (AW (p.s xs.toNat) i)) (fun i=>h _ _ _) 8;omega
theorem zEr(p:A8)(rs rb:Int):(CG p rs rb).length<=73:=by
 have b:∀num xs xb,(KO p num xs xb).length<=1:=fun num xs xb=>by
  rw[QM];by_cases hn:Nil xs xb
  ·rw[if_pos hn];simp
  ·rw[if_neg hn];simp
 have a:∀num xs xb,(KN p num xs xb).length<=9:=fun num xs xb=>Vd b num xs xb
 exact Vd a 0 rs rb
end Go.Proofs.YtibhefllijahkaaGreatDoor
