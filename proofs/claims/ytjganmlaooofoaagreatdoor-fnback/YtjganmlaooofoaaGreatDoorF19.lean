/- A part of the proof. -/
import Derived.Test.YtjganmlaooofoaaGreatDoorF18
import Derived.Test.YtjganmlaooofoaaGreatDoorF16
set_option linter.unusedVariables false
set_option maxRecDepth 20000
set_option maxHeartbeats 4000000
namespace Go.Proofs.YtjganmlaooofoaaGreatDoor
open Go.RowKit Go.Maps
def zVW(vd:Value)(m:zF3):List Value:=[.int .i64 m.zeL,.int .i64 m.time,.int .i64 m.rs,.int .i64 m.rb,vd]
def mrow(W:zB)(vd:Nat->Value):Nat->List Value
 | 0=>[]
 | k+1=>mrow W vd k ++ zVW (vd k) (zI W k)
theorem zKC(W:zB)(vd:Nat->Value):∀n,(mrow W vd n).length=n*5
 | 0=>rfl
 | n+1=>by simp[mrow,zKC W vd n,zVW];omega
theorem zGV{W:zB}{vd:Nat->Value}:∀{n i j:Nat},i<n->j<5->(mrow W vd n)[i*5+j]?=(zVW (vd i) (zI W i))[j]?
 | 0,i,j,hi,_=>absurd hi (Nat.not_lt_zero _)
 | n+1,i,j,hi,hj=>by
  unfold mrow;by_cases e:i=n
  ·subst e;rw[List.getElem?_append_right (by rw[zKC];omega),zKC,show i*5+j - i*5=j by omega]
  ·rw[List.getElem?_append_left (by rw[zKC];omega),zGV (by omega) hj]
def zMF(w:World)(lo hi:Nat)(W:zB)(vd:Nat->Value):Prop:=∀i,i<memN W->qn w lo hi (vd i) (zI W i).dn (zI W i).ds (zI W i).db
def zIx(w:World)(base:Nat)(v:Value)(W:zB)(vd:Nat->Value)(n:Nat):Prop:=w.ownsRow base 143 5 v n (mrow W vd n)
theorem zIx.zeF{w w1:World}{base:Nat}{v:Value}{W:zB}{vd:Nat->Value}{n:Nat}(h:zIx w base v W vd n)(hb:Below w.heap.size w w1):zIx w1 base v W vd n:=
 h.kept (zC0 hb none) (by cases v.ownBlock<;>simp)
theorem zIx.lt{w:World}{base:Nat}{v:Value}{W:zB}{vd:Nat->Value}{n:Nat}(h:zIx w base v W vd n){q:Nat}(hq:v.ownBlock=some q):base<=q/\q<w.heap.size:=by
 rcases h.2 with⟨rfl,_⟩ | ⟨g,cap,aA,rfl,hb,hg,_⟩
 ·simp[Value.ownBlock]at hq
 ·simp only[Value.ownBlock,Option.some.injEq]at hq;subst hq;exact⟨hb,(Array.getElem?_eq_some_iff.1 hg).1⟩
theorem zIx.next{w2:World}{base g cap:Nat}{W:zB}{vd:Nat->Value}{n:Nat}(h:w2.ownsRow base 143 5 (.slice (some ⟨g,0,none⟩) (n+1) cap) (n+1) (mrow W vd n ++ zVW (vd n) (zI W n))):zIx w2 base (.slice (some ⟨g,0,none⟩) (n+1) cap) W vd (n+1):=h
structure zIv (w:World) (lo hi:Nat) (v:Value) (W:zB) (vd:Nat->Value):Prop where
 zeQ:∃a c,v = .slice a (memN W) c/\memN W<=c
 cells:∀i,i<memN W->∃g c,v = .slice (some ⟨g,0,none⟩) (memN W) c/\w.cell? ⟨g,i*5,none⟩=some (.int .i64 (zI W i).zeL)/\w.cell? ⟨g,i*5+1,none⟩=some (.int .i64 (zI W i).time)/\w.cell? ⟨g,i*5+2,none⟩=some (.int .i64 (zI W i).rs)/\w.cell? ⟨g,i*5+3,none⟩=some (.int .i64 (zI W i).rb)/\w.cell? ⟨g,i*5+4,none⟩=some (vd i)
 dead:zMF w lo hi W vd
theorem zIv.zeF{w w1:World}{lo hi:Nat}{v:Value}{W:zB}{vd:Nat->Value}(h:zIv w lo hi v W vd)(t:Below w.heap.size w w1):zIv w1 lo hi v W vd where
 zeQ:=h.zeQ
 cells:=fun i aA=>by
  obtain⟨g,c,e,h0,h1,h2,h3,h4⟩:=h.cells i aA;exact⟨g,c,e,(t.cell (zH h0)).trans h0,(t.cell (zH h1)).trans h1,(t.cell (zH h2)).trans h2,(t.cell (zH h3)).trans h3,(t.cell (zH h4)).trans h4⟩
 dead:=fun i aA=>(h.dead i aA).zeF t
theorem zIx.at{w:World}{base lo hi:Nat}{v:Value}{W:zB}{vd:Nat->Value}(h:zIx w base v W vd (memN W))(hd:zMF w lo hi W vd):zIv w lo hi v W vd where
 zeQ:=zs h
 cells:=fun i bA=>by
  obtain⟨g,cap,e,cA,hb,dA,aA⟩:=zCm h (by omega);refine⟨g,cap,e,?_,?_,?_,?_,?_⟩
  ·exact(aA (i*5) _ (by have:=zGV (W:=W) (vd:=vd) bA (show 0<5 by omega);rw[Nat.add_zero]at this;rw[this];rfl)).1
  ·exact(aA (i*5+1) _ (by rw[zGV bA (by omega)];rfl)).1
  ·exact(aA (i*5+2) _ (by rw[zGV bA (by omega)];rfl)).1
  ·exact(aA (i*5+3) _ (by rw[zGV bA (by omega)];rfl)).1
  ·exact(aA (i*5+4) _ (by rw[zGV bA (by omega)];rfl)).1
 dead:=hd
theorem za6:(Tryz.prog.info? 143).map (fun i=>(i.zero,i.size,i.bytes))=some (some (.agg #[.int .i64 0,.int .i64 0,.int .i64 0,.int .i64 0,.slice none 0 0]),5,56):=by kernel_rfl
theorem zGC(v0 v1 v2 v3:Value)(lo hi:Nat)(W:zB)(w:World)(h:yO w lo hi v0 v1 v2 v3 W)(hs:W.sn<=8)(hp:W.pn<=20) :
  Calls Tryz.prog 116 #[zA8 v0 v1 v2 v3 W] w fun e w'=>∃v vd,e = .returned v/\zIv w' lo hi v W vd/\Below w.heap.size w w':=by
 have Hp:=zC h;obtain⟨m1,a,c,rfl,mc,-⟩:=id h.zeJ;obtain⟨m2,a',c',rfl,fC,-⟩:=id h.zeK;unfold maxLen at m1 m2;obtain⟨vs,oB,iB⟩:=h.zeJ.vals;obtain⟨vt,pB,jB⟩:=h.zeK.vals;have cC:∃vd:Nat->Value,(∀i,i<W.pn->vd i=vs i)/\(∀i,i<W.sn->vd (W.pn+i)=vt i)/\zMF w lo hi W vd:=by
  refine⟨fun i=>if i<W.pn then vs i else vt (i - W.pn),fun i lA=>if_pos lA,fun i lA=>?_,fun i lA=>?_⟩
  ·show(if W.pn+i<W.pn then vs (W.pn+i)else vt (W.pn+i - W.pn))=vt i;rw[if_neg (by omega),show W.pn+i - W.pn=i by omega]
  ·show qn w lo hi (if i<W.pn then vs i else vt (i - W.pn)) _ _ _;by_cases pA:i<W.pn
   ·rw[if_pos pA,zx pA];exact oB i pA
   ·have e:=qN W (i - W.pn);rw[show W.pn+(i - W.pn)=i by omega]at e;rw[if_neg pA,e];unfold memN at lA;exact pB _ (by omega)
 obtain⟨vd,kB,lB,mB⟩:=cC;have sB:=zC iB;have tB:=zC jB;have vB:=zC kB;have aC:=zC lB;have bC:=zC mB;clear h oB iB pB jB kB lB mB;obtain⟨i0,nB,fB⟩:=Option.map_eq_some_iff.1 za6;simp only[Prod.mk.injEq]at fB;have HI:=zC (And.intro nB fB);clear nB fB;have ha:=zD w (.cells #[v0,v1,.int .i64 W.time,.int .i64 W.next,.slice a' W.sn c',.slice a W.pn c] 30);have HB:=zC (zAN.new w v0 v1 (.int .i64 W.time) (.int .i64 W.next) (.slice a' W.sn c') (.slice a W.pn c) 30);obtain⟨x0,x2,x4,x6,x8,gB⟩:=HB.out.c;go_enter Tryz.func116,Tryz.ntmps116;go_wp2;clear x0 x2 x4 x6 x8 gB
 go_loopw [3,11] (fun v i wr=>∃k:Nat,k<=W.pn/\i = .int .i64 k/\zIx wr (w.heap.size+1) v W vd k/\zAN wr w.heap.size v0 v1 (.int .i64 W.time) (.int .i64 W.next) (.slice a' W.sn c') (.slice a W.pn c)/\Below w.heap.size w wr) (fun _ i _=>W.pn - (intOf i).toNat)
 case atStart=>exact⟨0,Nat.zero_le _,rfl,World.ownsRow_nil _ _ _ _,HB.out,ha⟩
 case round=>
  clear HB ha;obtain⟨k,hk,rfl,gA,hX,hb⟩:=hrel;have cA:=zC gA;have HX:=zC hX;clear gA hX;by_cases jA:k<W.pn
  ·have bB:(k:Int)<(W.pn:Int):=(by omega);obtain⟨b,off,rfl,oA⟩:=sB.out k jA;have bA:=oA.zeF hb;rw[<-vB.out k jA]at bA;obtain⟨-,ad,cd,kA,-,-⟩:=id bA.dead;have tA:=zC kA;rw[kA]at bA;clear kA oA;have iA:=zD wr (.cells #[.int .i64 (W.zeJ k).id,.string (W.zeJ k).name,.string (W.zeJ k).set,.int .i64 (W.zeJ k).zeL,.int .i64 (W.zeJ k).time,.int .i64 (W.zeJ k).rs,.int .i64 (W.zeJ k).rb,.slice ad (W.zeJ k).dn cd] 41);have rA:=zC (zF0.new wr (.int .i64 (W.zeJ k).id) (.string (W.zeJ k).name) (.string (W.zeJ k).set) (.int .i64 (W.zeJ k).zeL) (.int .i64 (W.zeJ k).time) (.int .i64 (W.zeJ k).rs) (.int .i64 (W.zeJ k).rb) (.slice ad (W.zeJ k).dn cd) 41);have eA:=zD (wr.alloc (.cells #[.int .i64 (W.zeJ k).id,.string (W.zeJ k).name,.string (W.zeJ k).set,.int .i64 (W.zeJ k).zeL,.int .i64 (W.zeJ k).time,.int .i64 (W.zeJ k).rs,.int .i64 (W.zeJ k).rb,.slice ad (W.zeJ k).dn cd] 41)) (.cells #[.int .i64 (W.zeJ k).zeL,.int .i64 (W.zeJ k).time,.int .i64 (W.zeJ k).rs,.int .i64 (W.zeJ k).rb,.slice ad (W.zeJ k).dn cd] 143);have HN:=zC (World.news_of_block (heap_alloc_last (wr.alloc (.cells #[.int .i64 (W.zeJ k).id,.string (W.zeJ k).name,.string (W.zeJ k).set,.int .i64 (W.zeJ k).zeL,.int .i64 (W.zeJ k).time,.int .i64 (W.zeJ k).rs,.int .i64 (W.zeJ k).rb,.slice ad (W.zeJ k).dn cd] 41)) (.cells #[.int .i64 (W.zeJ k).zeL,.int .i64 (W.zeJ k).time,.int .i64 (W.zeJ k).rs,.int .i64 (W.zeJ k).rb,.slice ad (W.zeJ k).dn cd] 143)));have dA:=zC ((cA.out.zeF iA).zeF eA);have sA:=zC ((HX.out.zeF iA).zeF eA);have mA:=zA (zA hb iA) eA;have dC:=HX.out.1.lt;have eB:(wr.alloc (.cells #[.int .i64 (W.zeJ k).id,.string (W.zeJ k).name,.string (W.zeJ k).set,.int .i64 (W.zeJ k).zeL,.int .i64 (W.zeJ k).time,.int .i64 (W.zeJ k).rs,.int .i64 (W.zeJ k).rb,.slice ad (W.zeJ k).dn cd] 41)).heap.size=wr.heap.size+1:=World.size_alloc _ _;have eC:=eA.size;rw[eB]at HN;have q0:=bA.c0;have q1:=bA.c1;have q2:=bA.c2;have q3:=bA.c3;have q4:=bA.c4;have q5:=bA.c5;have q6:=bA.c6;have q7:=bA.c7;obtain⟨⟨⟨y0,-⟩,⟨y1,-⟩,⟨y2,-⟩,⟨y3,-⟩⟩,⟨y4,-⟩,⟨y5,-⟩,⟨y6,-⟩,⟨y7,-⟩⟩:=rA.out;clear bA iA eA cA HX;go_wp2_with (first
    | (at_builtin;refine wpList_append_lies _ rfl _ _ 140 rfl (w.heap.size+1) 143 i0 (.agg #[.int .i64 0,.int .i64 0,.int .i64 0,.int .i64 0,.slice none 0 0]) 5 56 (by kernel_rfl) HI.out.1 HI.out.2.1 HI.out.2.2.1 HI.out.2.2.2 rfl (by decide) _ _ _ rfl dA.out ⟨wr.heap.size+1,0,none⟩ 1 1 [.int .i64 (W.zeJ k).zeL,.int .i64 (W.zeJ k).time,.int .i64 (W.zeJ k).rs,.int .i64 (W.zeJ k).rb,.slice ad (W.zeJ k).dn cd] rfl rfl HN.out (by simp[Value.oneCell']) (by decide) (by unfold maxLen;omega) (by omega) (by omega) _ rfl ?_;intro g' vA w8 fA aA aB cB)
    | go_in)
   go_roundw
   case rel=>
    have nA:∀q,Value.ownBlock _=some q->w.heap.size+1<=q:=fun q hq=>(dA.out.lt hq).1
    refine⟨k+1,by omega,by go_num,?_,sA.out.grown aA (fun q hq=>by have:=nA q hq;omega),mA.grown aA mA.size (fun q hq=>by have:=nA q hq;omega)⟩;refine zIx.next ?_;rw[zx jA,tA.out];exact fA
   case measure=>simp[intOf];omega
  ·obtain rfl:k=W.pn:=(by omega);obtain⟨x0,x2,x4,x6,x8,gB⟩:=HX.out.c;go_wp2;clear x0 x2 x4 x6 x8 gB
   go_loopw [3,31] (fun v i wr=>∃k:Nat,k<=W.sn/\i = .int .i64 k/\zIx wr (w.heap.size+1) v W vd (W.pn+k)/\zAN wr w.heap.size v0 v1 (.int .i64 W.time) (.int .i64 W.next) (.slice a' W.sn c') (.slice a W.pn c)/\Below w.heap.size w wr) (fun _ i _=>W.sn - (intOf i).toNat)
   case atStart=>exact⟨0,Nat.zero_le _,rfl,cA.out,HX.out,hb⟩
   case round=>
    clear HX hb cA hk jA;obtain⟨k,hk,rfl,gA,hX,hb⟩:=hrel;have cA:=zC gA;have HX:=zC hX;clear gA hX;by_cases jA:k<W.sn
    ·have bB:(k:Int)<(W.sn:Int):=(by omega);obtain⟨b,off,rfl,oA⟩:=tB.out k jA;have bA:=oA.zeF hb;rw[<-aC.out k jA]at bA;obtain⟨-,ad,cd,kA,-,-⟩:=id bA.dead;have tA:=zC kA;rw[kA]at bA;clear kA oA;have iA:=zD wr (.cells #[.string (W.zeK k).name,.int .i64 (W.zeK k).origin,.int .i64 (W.zeK k).zeL,.int .i64 (W.zeK k).rs,.int .i64 (W.zeK k).rb,.slice ad (W.zeK k).dn cd] 44);have rA:=zC (zAN.new wr (.string (W.zeK k).name) (.int .i64 (W.zeK k).origin) (.int .i64 (W.zeK k).zeL) (.int .i64 (W.zeK k).rs) (.int .i64 (W.zeK k).rb) (.slice ad (W.zeK k).dn cd) 44);have rB:=zC (HX.out.zeF iA);have eA:=zD (wr.alloc (.cells #[.string (W.zeK k).name,.int .i64 (W.zeK k).origin,.int .i64 (W.zeK k).zeL,.int .i64 (W.zeK k).rs,.int .i64 (W.zeK k).rb,.slice ad (W.zeK k).dn cd] 44)) (.cells #[.int .i64 (W.zeK k).zeL,.int .i64 W.time,.int .i64 (W.zeK k).rs,.int .i64 (W.zeK k).rb,.slice ad (W.zeK k).dn cd] 143);have HN:=zC (World.news_of_block (heap_alloc_last (wr.alloc (.cells #[.string (W.zeK k).name,.int .i64 (W.zeK k).origin,.int .i64 (W.zeK k).zeL,.int .i64 (W.zeK k).rs,.int .i64 (W.zeK k).rb,.slice ad (W.zeK k).dn cd] 44)) (.cells #[.int .i64 (W.zeK k).zeL,.int .i64 W.time,.int .i64 (W.zeK k).rs,.int .i64 (W.zeK k).rb,.slice ad (W.zeK k).dn cd] 143)));have dA:=zC ((cA.out.zeF iA).zeF eA);have sA:=zC ((HX.out.zeF iA).zeF eA);have mA:=zA (zA hb iA) eA;have dC:=HX.out.1.lt;have eB:(wr.alloc (.cells #[.string (W.zeK k).name,.int .i64 (W.zeK k).origin,.int .i64 (W.zeK k).zeL,.int .i64 (W.zeK k).rs,.int .i64 (W.zeK k).rb,.slice ad (W.zeK k).dn cd] 44)).heap.size=wr.heap.size+1:=World.size_alloc _ _;have eC:=eA.size;rw[eB]at HN;have q0:=bA.c0;have q1:=bA.c1;have q2:=bA.c2;have q3:=bA.c3;have q4:=bA.c4;have q5:=bA.c5;obtain⟨y0,y1,y2,y3,y4,y5⟩:=rA.out.c;obtain⟨z0,z2,z4,z6,z8,iC⟩:=rB.out.c;clear bA iA eA cA HX;go_wp2_with (first
      | (at_builtin;refine wpList_append_lies _ rfl _ _ 140 rfl (w.heap.size+1) 143 i0 (.agg #[.int .i64 0,.int .i64 0,.int .i64 0,.int .i64 0,.slice none 0 0]) 5 56 (by kernel_rfl) HI.out.1 HI.out.2.1 HI.out.2.2.1 HI.out.2.2.2 rfl (by decide) _ _ _ rfl dA.out ⟨wr.heap.size+1,0,none⟩ 1 1 [.int .i64 (W.zeK k).zeL,.int .i64 W.time,.int .i64 (W.zeK k).rs,.int .i64 (W.zeK k).rb,.slice ad (W.zeK k).dn cd] rfl rfl HN.out (by simp[Value.oneCell']) (by decide) (by unfold maxLen;omega) (by omega) (by omega) _ rfl ?_;intro g' vA w8 fA aA aB cB)
      | go_in)
     go_roundw
     case rel=>
      have nA:∀q,Value.ownBlock _=some q->w.heap.size+1<=q:=fun q hq=>(dA.out.lt hq).1
      refine⟨k+1,by omega,by go_num,?_,sA.out.grown aA (fun q hq=>by have:=nA q hq;omega),mA.grown aA mA.size (fun q hq=>by have:=nA q hq;omega)⟩;show zIx w8 (w.heap.size+1) _ W vd (W.pn+k+1);refine zIx.next ?_;rw[qN,tA.out];exact fA
     case measure=>simp[intOf];omega
    ·obtain rfl:k=W.sn:=(by omega);go_wp2;go_ret;exact⟨_,vd,rfl,zIx.at cA.out (fun i lA=>(bC.out i lA).zeF hb),hb⟩
def zHV(w:World)(b:Nat)(v0 v1 v2 v3 v4:Value):Prop:=zY w b 0 v0/\zY w b 1 v1/\zY w b 2 v2/\zY w b 3 v3/\zY w b 4 v4
theorem zHV.zeF{w w':World}{b:Nat}{v0 v1 v2 v3 v4:Value}(h:zHV w b v0 v1 v2 v3 v4)(t:Below w.heap.size w w'):zHV w' b v0 v1 v2 v3 v4:=⟨h.1.zeF t,h.2.1.zeF t,h.2.2.1.zeF t,h.2.2.2.1.zeF t,h.2.2.2.2.zeF t⟩
theorem zHV.new(w:World)(v0 v1 v2 v3 v4:Value)(t:TypeId):zHV (w.alloc (.cells #[v0,v1,v2,v3,v4] t)) w.heap.size v0 v1 v2 v3 v4:=by
 have hb:(w.alloc (.cells #[v0,v1,v2,v3,v4] t)).heap[w.heap.size]?=some (.cells #[v0,v1,v2,v3,v4] t):=heap_alloc_new _ _;exact⟨zK hb rfl,zK hb rfl,zK hb rfl,zK hb rfl,zK hb rfl⟩
def zCs(W:zB):Prop:=∀i,i<memN W->(Lit.int .i64 (zI W i).zeL).wf=true
def zMG(W:zB)(i:Nat):Prop:=(zE W (zI W i).zeL).id=(zI W i).zeL
theorem zEE(v:Value)(s:zl)(w:World):(Instr.field 41 (zCi v s) 0).run Tryz.prog w = .ok (.int .i64 s.id) w/\(Instr.field 41 (zCi v s) 2).run Tryz.prog w = .ok (.string s.set) w/\(Instr.field 41 (zCi v s) 3).run Tryz.prog w = .ok (.int .i64 s.zeL) w/\(Instr.field 41 (zCi v s) 4).run Tryz.prog w = .ok (.int .i64 s.time) w:=by
 refine⟨?_,?_,?_,?_⟩<;>kernel_rfl
theorem zNi(v0 v1 v2 v3:Value)(lo hi:Nat)(W:zB)(A:Nat)(w:World)(h:yO w lo hi v0 v1 v2 v3 W)(hs:W.sn<=8)(hp:W.pn<=20)(hA:zDT w lo hi W A)(hD:zEU W)(nA:zCs W) :
  Calls Tryz.prog 69 #[zA8 v0 v1 v2 v3 W,zKc A] w fun e w'=>zL (∀i,i<memN W->zMG W i) e/\Below w.heap.size w w':=by
 have Hp:=zC h;have HA:=zC hA;have HD:=zC hD;have oA:=zC nA;clear h hA hD nA;have ha:=zD w (.cells #[v0,v1,.int .i64 W.time,.int .i64 W.next,v2,v3] 30);obtain⟨x0,x2,x4,x6,x8,vA⟩:=(zAN.new w v0 v1 (.int .i64 W.time) (.int .i64 W.next) v2 v3 30).c;go_enter Tryz.func69,Tryz.ntmps69;go_wp2_with fail;clear x0 x2 x4 x6 x8 vA;generalize w.alloc (.cells #[v0,v1,.int .i64 W.time,.int .i64 W.next,v2,v3] 30)=W0 at ha ⊢;refine(zGC v0 v1 v2 v3 lo hi W W0 (Hp.out.zeF ha) hs hp).mono ?_;rintro e w1 ⟨vm,vd,rfl,hm,jA⟩;have HM:=zC hm;have eA:=zA ha jA;obtain⟨am,cm,rfl,aB⟩:=id hm.zeQ;have bB:memN W<=28:=by unfold memN;omega
 clear ha jA hm;go_wp2
 go_loopw [10] (fun i wr=>∃k:Nat,k<=memN W/\i = .int .i64 k/\(∀j,j<k->zMG W j)/\Below w1.heap.size w1 wr) (fun i _=>memN W - (intOf i).toNat)
 case atStart=>exact⟨0,Nat.zero_le _,rfl,fun j hj=>absurd hj (Nat.not_lt_zero _),Below.refl _ _⟩
 case round=>
  obtain⟨k,hk,rfl,bA,hb⟩:=hrel;have aA:=zC bA;clear bA;by_cases cA:k<memN W;rotate_left
  ·obtain rfl:k=memN W:=(by omega);go_wp2;go_ret;exact⟨zL.yes aA.out,zA eA hb⟩
  have sA:(k:Int)<(memN W:Int):=(by omega);obtain⟨g,cg,e,q0,q1,q2,q3,q4⟩:=(HM.out.zeF hb).cells k cA;obtain⟨-,ad,cd,mA,-,-⟩:=id ((HM.out.zeF hb).dead k cA);rw[mA]at q4;cases e;have gA:=zD wr (.cells #[.int .i64 (zI W k).zeL,.int .i64 (zI W k).time,.int .i64 (zI W k).rs,.int .i64 (zI W k).rb,.slice ad (zI W k).dn cd] 143);have HV:=zC (zHV.new wr (.int .i64 (zI W k).zeL) (.int .i64 (zI W k).time) (.int .i64 (zI W k).rs) (.int .i64 (zI W k).rb) (.slice ad (zI W k).dn cd) 143);have dA:=zC (HA.out.zeF (zA eA (zA hb gA)));have kA:=zA hb gA;have pA:=zC (oA.out k cA);have iA:=zC (show zMG W k↔(zE W (zI W k).zeL).id=(zI W k).zeL from Iff.rfl);clear mA gA;generalize zI W k=m at *;go_wp2_with fail;clear q0 q1 q2 q3 q4;generalize wr.alloc (.cells #[.int .i64 m.zeL,.int .i64 m.time,.int .i64 m.rs,.int .i64 m.rb,.slice ad m.dn cd] 143)=W2 at HV dA kA ⊢;generalize wr.heap.size=V at HV ⊢;obtain⟨⟨y0,-⟩,-⟩:=HV.out;go_region_held3 (fun w'=>w'.cell? ⟨V,0,none⟩=some (.int .i64 m.zeL)) (go_keep)
   (first | (go_at_call 89;refine(zDh lo hi W A m.zeL _ ?_ HD.out pA.out hp).mono ?_;(exact dA.out.zeF (Below.refl _ _).drew);rintro e w6 ⟨aa,ca,rfl,tA,fA⟩;have rA:=fun w=>(zEE (.slice aa (zE W m.zeL).dn ca) (zE W m.zeL) w).1;obtain⟨⟨z0,_⟩,_⟩:=HV.out.zeF (qF fA)))
  have lA:=zI2 kA fA;clear fA tA rA z0 y0 dA;by_cases he:(zE W m.zeL).id=m.zeL
  ·have hd:((zE W m.zeL).id != m.zeL)=false:=(by simp[he]);have He:=zC (iA.out.2 he);clear he;go_wp2;go_roundw
   case rel=>exact⟨k+1,by omega,by go_num,yJ cA aA.out He.out,lA⟩
   case measure=>simp[intOf];omega
  ·have hd:((zE W m.zeL).id != m.zeL)=true:=(by simp[he]);have He:=zC (fun h=>he (iA.out.1 h));clear he;go_wp2;go_ret;exact⟨zL.no fun h=>He.out (h k cA),zA eA lA⟩
theorem zTq(v:Value)(n lo hi:Nat)(f g:Nat->Int)(x y:Int)(w:World)(h1:qn w lo hi v n f g) :
  Calls Tryz.prog 182 #[v,.agg #[.int .i64 x,.int .i64 y]] w fun e w'=>∃r:Int,e = .returned (.int .i64 r)/\(0<=r↔PIn n f g x y)/\Below w.heap.size w w':=by
 have Hp:=zC h1;obtain⟨m1,a,c,rfl,mc,-⟩:=id h1;unfold maxLen at m1;clear h1;have ha:=zD w (.cells #[.int .i64 x,.int .i64 y] 38);have HB:=zC (zAT.new w (.int .i64 x) (.int .i64 y) 38);go_enter Tryz.func182,Tryz.ntmps182;go_wp2
 go_loopw [8] (fun i wr=>∃k:Nat,k<=n/\i = .int .i64 k/\¬PIn k f g x y/\zAT wr w.heap.size (.int .i64 x) (.int .i64 y)/\Below w.heap.size w wr) (fun i _=>n - (intOf i).toNat)
 case atStart=>exact⟨0,Nat.zero_le _,rfl,fun ⟨j,hj,_⟩=>absurd hj (Nat.not_lt_zero _),HB.out,ha⟩
 case round=>
  obtain⟨k,hk,rfl,dA,hX,hb⟩:=hrel;have bA:=zC dA;have HX:=zC hX;clear dA hX;obtain⟨⟨x0,x1⟩,⟨x2,x3⟩⟩:=HX.out;by_cases cA:k<n
  ·have eA:(k:Int)<(n:Int):=(by omega);obtain⟨b,off,rfl,q0,q1⟩:=(Hp.out.zeF hb).cellsD cA;by_cases he:f k=x/\g k=y
   ·have H:=zC (show PIn n f g x y from⟨k,cA,he.1,he.2⟩);rw[he.1]at q0;rw[he.2]at q1;clear he;go_wp2
    go_quiet (fail)
    go_wp2;go_ret;exact⟨k,rfl,⟨fun _=>H.out,fun _=>by omega⟩,zCx hb _⟩
   ·have H:=zC he;have e0:(x == f k)=false\/(x == f k)=true/\(y == g k)=false:=by
     by_cases h:f k=x
     ·right;refine⟨by simp[h],?_⟩;have:¬y=g k:=fun h'=>he ⟨h,h'.symm⟩
      simp[this]
     ·left;have:¬x=f k:=fun h'=>h h'.symm
      simp[this]
    clear he;rcases e0 with e0 | ⟨e0,e1⟩
    all_goals
     go_wp2
     go_quiet (fail)
     go_wp2;go_roundw
     case rel=>
      refine⟨k+1,by omega,by go_num,?_,HX.out.zeF (zCx (Below.refl _ _) _),zCx hb _⟩;rintro⟨j,hj,aA⟩;by_cases e:j=k
      ·subst e;exact H.out ⟨aA.1,aA.2⟩
      ·exact bA.out ⟨j,by omega,aA⟩
     case measure=>simp[intOf];omega
  ·obtain rfl:k=n:=(by omega);go_wp2;go_ret;exact⟨-1,rfl,⟨fun h=>absurd h (by decide),fun h=>absurd h bA.out⟩,hb⟩
theorem zIe(v:Value)(n lo hi:Nat)(f g:Nat->Int)(x y:Int)(w:World)(h1:qn w lo hi v n f g) :
  Calls Tryz.prog 165 #[v,.agg #[.int .i64 x,.int .i64 y]] w fun e w'=>zL (PIn n f g x y) e/\Below w.heap.size w w':=by
 have Hp:=zC h1;clear h1;have ha:=zD w (.cells #[.int .i64 x,.int .i64 y] 38);obtain⟨⟨x0,-⟩,⟨x2,-⟩⟩:=zAT.new w (.int .i64 x) (.int .i64 y) 38;go_enter Tryz.func165,Tryz.ntmps165;go_wp2_with fail;refine(zTq v n lo hi f g x y _ (Hp.out.zeF ha)).mono ?_;rintro e w1 ⟨r,rfl,hr,aA⟩;have Hr:=zC hr;have hB:=zA ha aA;clear hr aA x0 x2 ha;go_wp2;go_ret;refine⟨⟨_,rfl,?_⟩,hB⟩;have:=Hr.out;simp only[decide_eq_true_eq];exact this
theorem zRw(v:Value)(n lo hi:Nat)(f g:Nat->Int)(x y:Int)(T:Nat)(w:World)(h1:qn w lo hi v n f g)(hT:w.cell? ⟨T,0,none⟩=some v) :
  Calls Tryz.prog 164 #[.agg #[.int .i64 x,.int .i64 y],.pointer (some ⟨T,0,none⟩)] w fun e w'=>zL (PIn n f g x y) e/\Below w.heap.size w w':=by
 have Hp:=zC h1;obtain⟨m1,a,c,rfl,mc,-⟩:=id h1;clear h1;have ha:=zD w (.cells #[.int .i64 x,.int .i64 y] 38);obtain⟨⟨x0,-⟩,⟨x2,-⟩⟩:=zAT.new w (.int .i64 x) (.int .i64 y) 38;have cA:=(ha.cell (p:=⟨T,0,none⟩) (zH hT)).trans hT;clear hT;go_enter Tryz.func164,Tryz.ntmps164;go_wp2_with fail;refine(zIe _ n lo hi f g x y _ (Hp.out.zeF ha)).mono ?_;rintro e w1 ⟨⟨t1,rfl,bA⟩,aA⟩;have Ht:=zC bA;have hB:=zA ha aA;clear bA aA x0 x2 ha cA;go_wp2;go_ret;exact⟨⟨_,rfl,Ht.out⟩,hB⟩
theorem zTo(v:Value)(n lo hi:Nat)(f g:Nat->Int)(x y:Int)(T:Nat)(w:World)(h1:qn w lo hi v n f g)(hT:w.cell? ⟨T,0,none⟩=some v) :
  Calls Tryz.prog 166 #[.agg #[.int .i64 x,.int .i64 y],.pointer (some ⟨T,0,none⟩)] w fun e w'=>zL (PIn n f g x y) e/\Below w.heap.size w w':=by
 have Hp:=zC h1;obtain⟨m1,a,c,rfl,mc,-⟩:=id h1;clear h1;have ha:=zD w (.cells #[.int .i64 x,.int .i64 y] 38);obtain⟨⟨x0,-⟩,⟨x2,-⟩⟩:=zAT.new w (.int .i64 x) (.int .i64 y) 38;have cA:=(ha.cell (p:=⟨T,0,none⟩) (zH hT)).trans hT;clear hT;go_enter Tryz.func166,Tryz.ntmps166;go_wp2_with fail;refine(zIe _ n lo hi f g x y _ (Hp.out.zeF ha)).mono ?_;rintro e w1 ⟨⟨t1,rfl,bA⟩,aA⟩;have Ht:=zC bA;have hB:=zA ha aA;clear bA aA x0 x2 ha cA;go_wp2;go_ret;exact⟨⟨_,rfl,Ht.out⟩,hB⟩
theorem zEO(v0 v1 v2 v3:Value)(lo hi:Nat)(W:zB)(xs xb:Int)(w:World)(h:yO w lo hi v0 v1 v2 v3 W)(hR:zg W.pool)(hT:za W.pool xs xb) :
  Calls Tryz.prog 121 #[zA8 v0 v1 v2 v3 W,.agg #[.int .i64 xs,.int .i64 xb]] w fun e w'=>∃v,e = .returned v/\zBd w' w.heap.size v (zM W.pool xs xb)/\Below w.heap.size w w':=by
 have Hp:=zC h;have HR:=zC hR;have HT:=zC (show Nil xs xb\/qp W.pool xs xb from hT.imp id (fun h=>h.1.1));obtain⟨m0,a0,c0,rfl,eA,-⟩:=id h.pool.1;clear h hR hT;have ha:=zD w (.cells #[.slice a0 W.pool.n c0,v1,.int .i64 W.time,.int .i64 W.next,v2,v3] 30);have hB:=zAN.new w (.slice a0 W.pool.n c0) v1 (.int .i64 W.time) (.int .i64 W.next) v2 v3 30;have hz:(w.alloc (.cells #[.slice a0 W.pool.n c0,v1,.int .i64 W.time,.int .i64 W.next,v2,v3] 30)).heap.size=w.heap.size+1:=World.size_alloc _ _;have bA:=zD (w.alloc (.cells #[.slice a0 W.pool.n c0,v1,.int .i64 W.time,.int .i64 W.next,v2,v3] 30)) (.cells #[.int .i64 xs,.int .i64 xb] 38);have hX:=zAT.new (w.alloc (.cells #[.slice a0 W.pool.n c0,v1,.int .i64 W.time,.int .i64 W.next,v2,v3] 30)) (.int .i64 xs) (.int .i64 xb) 38;rw[hz]at hX;have aA:=zA ha bA;obtain⟨⟨x0,-⟩,⟨x2,-⟩,-⟩:=hB.zeF bA;obtain⟨⟨y0,-⟩,⟨y2,-⟩⟩:=hX;clear hB ha bA;go_enter Tryz.func121,Tryz.ntmps121;go_wp2_with fail;clear x0 x2 y0 y2;generalize (w.alloc (.cells #[.slice a0 W.pool.n c0,v1,.int .i64 W.time,.int .i64 W.next,v2,v3] 30)).alloc (.cells #[.int .i64 xs,.int .i64 xb] 38)=W0 at aA ⊢;refine(zK0 W.pool HR.out _ lo hi xs xb W0 (Hp.out.pool.1.zeF aA) HT.out).mono ?_;rintro e w1 ⟨v,rfl,hr,cA⟩;have Hr:=zC hr;have hB:=zA aA cA;have dA:=aA.size;clear hr cA;go_wp2;go_ret;exact⟨v,rfl,zBd.mono Hr.out dA,hB⟩
theorem zIr(n:Int)(w:World):Calls Tryz.prog 169 #[.int .i64 n] w fun e w'=>zL (zDd n) e/\w'=w:=by
 by_cases h1:0<=n
 ·by_cases h2:n<=1000000
  ·go_enter Tryz.func169,Tryz.ntmps169;go_wp2;go_ret;exact⟨zL.yes ⟨h1,h2⟩,rfl⟩
  ·go_enter Tryz.func169,Tryz.ntmps169;go_wp2;go_ret;exact⟨zL.no fun h=>by have:=h.2;omega,rfl⟩
 ·go_enter Tryz.func169,Tryz.ntmps169;go_wp2;go_ret;exact⟨zL.no fun h=>by have:=h.1;omega,rfl⟩
theorem zTM(x y t:Int)(T:Nat)(w:World)(hT:w.cell? ⟨T,0,none⟩=some (.int .i64 t)):Calls Tryz.prog 170 #[.agg #[.int .i64 x,.int .i64 y],.pointer (some ⟨T,0,none⟩)] w fun e w'=>zL (t<y) e/\Below w.heap.size w w':=by
 have aA:=zD w (.cells #[.int .i64 x,.int .i64 y] 38);have bA:=(aA.cell (p:=⟨T,0,none⟩) (zH hT)).trans hT;by_cases h:t<y
 ·go_enter Tryz.func170,Tryz.ntmps170;go_wp2;go_ret;exact⟨⟨_,rfl,by simpa using h⟩,aA⟩
 ·go_enter Tryz.func170,Tryz.ntmps170;go_wp2;go_ret;exact⟨⟨_,rfl,by simpa using h⟩,aA⟩
def zHW(l l':List (Int×Int))(w w':World)(v v':Value):Prop:=zBd w' w.heap.size v l/\zBd w' w.heap.size v' l'/\(∀q,v.ownBlock=some q->v'.ownBlock≠some q)/\Below w.heap.size w w'
theorem zGh{w1 w2:World}{base g cap:Nat}{v v':Value}{l l':List (Int×Int)}{x y:Int}(h':zBd w1 base v' l')(ha:∀q,v.ownBlock=some q->v'.ownBlock≠some q)
  (aA:w2.ownsRow base 38 2 (.slice (some ⟨g,0,none⟩) (l.length+1) cap) (l.length+1) (pcl l ++ [.int .i64 x,.int .i64 y])) (hg:w1.grownBy w2 v.ownBlock) (bA:v.ownBlock=some g\/g=w1.heap.size) :
  zBd w2 base (.slice (some ⟨g,0,none⟩) (l.length+1) cap) (l ++ [(x,y)])/\zBd w2 base v' l'/\(∀q,(Value.slice (some ⟨g,0,none⟩) (l.length+1) cap).ownBlock=some q->v'.ownBlock≠some q):=by
 refine⟨?_,h'.zeG hg (fun q hq e=>ha q e hq),fun q hq e=>?_⟩
 ·unfold zBd;rw[zJK,List.length_append];exact aA
 ·simp only[Value.ownBlock,Option.some.injEq]at hq;subst hq;rcases bA with h | h
  ·exact ha _ h e
  ·have:=(h'.lt e).2;omega
theorem zZp(v:Value)(n lo hi T:Nat)(f g:Nat->Int)(t:Int)(w:World)(h1:qn w lo hi v n f g)(hn:n<=200)(hT:w.cell? ⟨T,0,none⟩=some (.int .i64 t)) :
  Calls Tryz.prog 163 #[v,.func (.func 170) #[] #[.pointer (some ⟨T,0,none⟩)]] w fun e w'=>∃vy vo,e = .returned (.tuple #[vy,vo])/\zHW (ye f g t n) (zD4 f g t n) w w' vy vo:=by
 have Hp:=zi h1;have HT:=zi hT;obtain⟨m1,a,c,rfl,mc,_⟩:=id h1;clear h1 hT;obtain⟨i0,tA,oA⟩:=Option.map_eq_some_iff.1 zMy;simp only[Prod.mk.injEq]at oA;have HI:=zi (And.intro tA oA);clear tA oA;go_enter Tryz.func163,Tryz.ntmps163;go_wp2
 go_loopw [6,7,12] (fun vy vo i wr=>∃k:Nat,k<=n/\i = .int .i64 k/\zHW (ye f g t k) (zD4 f g t k) w wr vy vo) (fun _ _ i _=>n - (intOf i).toNat)
 case atStart=>exact⟨0,Nat.zero_le _,rfl,zBd.nil _ _,zBd.nil _ _,fun q hq=>by simp[Value.ownBlock]at hq,Below.refl _ _⟩
 case round=>
  obtain⟨k,hk,rfl,hy,ho,sA,hb⟩:=hrel;have Hy:=zi hy;have Ho:=zi ho;have iA:=zi sA;have cB:=zFJ f g t k;clear hy ho sA;by_cases eB:k<n
  ·have fB:(k:Int)<(n:Int):=(by omega);obtain⟨b,off,rfl,q0,q1⟩:=(Hp.out.zeF hb).cellsD eB;have fA:=zD wr (.cells #[.int .i64 (f k),.int .i64 (g k)] 38);have HV:=zi (zAT.new wr (.int .i64 (f k)) (.int .i64 (g k)) 38);have mA:=zA hb fA;have pA:=zi ((mA.cell (p:=⟨T,0,none⟩) (zH HT.out)).trans HT.out);have gB:∀(fn:Fn) (first cap:Array Value) (w:World),(Instr.makeFunc fn first cap).run Tryz.prog w = .ok (.func fn first cap) w:=fun _ _ _ _=>rfl
   go_wp2_with fail;refine(zTM (f k) (g k) t T _ pA.out).mono ?_;rintro e w1 ⟨⟨s,rfl,hs⟩,dA⟩;have bB:=zi ((Hy.out.zeF fA).zeF dA);have aB:=zi ((Ho.out.zeF fA).zeF dA);have vA:=zi (HV.out.zeF dA);have rA:=zA mA dA;clear dA mA fA Hy Ho HV q0 q1 pA;have iB:=rA.size;obtain⟨⟨x0,x1⟩,⟨x2,x3⟩⟩:=vA.out;have gA:=zD w1 (.cells #[.int .i64 (f k),.int .i64 (g k)] 38);have kA:=zi (bB.out.zeF gA);have jA:=zi (aB.out.zeF gA);have eA:=zA rA gA;have jB:(w1.alloc (.cells #[.int .i64 (f k),.int .i64 (g k)] 38)).heap.size=w1.heap.size+1:=World.size_alloc _ _;have HN:=zi (World.news_of_block (heap_alloc_last w1 (.cells #[.int .i64 (f k),.int .i64 (g k)] 38)));clear gA;by_cases hq:t<g k
   ·obtain rfl:s=true:=hs.2 hq;have ey:ye f g t (k+1)=ye f g t k ++ [(f k,g k)]:=if_pos hq;have eo:zD4 f g t (k+1)=zD4 f g t k:=if_pos hq;clear hs hq;go_wp2_with (first
     | (at_builtin;refine wpList_append_lies _ rfl _ _ 39 rfl w.heap.size 38 i0 (.agg #[.int .i64 0,.int .i64 0]) 2 16 (by kernel_rfl) HI.out.1 HI.out.2.1 HI.out.2.2.1 HI.out.2.2.2 rfl (by decide) _ _ _ rfl kA.out ⟨w1.heap.size,0,none⟩ 1 1 [.int .i64 (f k),.int .i64 (g k)] rfl rfl HN.out (by simp[Value.oneCell']) (by decide) (by unfold maxLen;omega) (by omega) (by omega) _ rfl ?_;intro g' lA w4 bA aA cA nA)
     | go_in)
    go_roundw
    case rel=>
     obtain⟨r1,r2,r3⟩:=zGh jA.out iA.out bA aA cA;exact⟨k+1,by omega,by go_num,by rw[ey];exact r1,by rw[eo];exact r2,r3,eA.grown aA eA.size (fun q hq=>(kA.out.lt hq).1)⟩
    case measure=>simp[intOf];omega
   ·obtain rfl:s=false:=qj hs hq;have ey:ye f g t (k+1)=ye f g t k:=if_neg hq;have eo:zD4 f g t (k+1)=zD4 f g t k ++ [(f k,g k)]:=if_neg hq;clear hs hq;go_wp2_with (first
     | (at_builtin;refine wpList_append_lies _ rfl _ _ 39 rfl w.heap.size 38 i0 (.agg #[.int .i64 0,.int .i64 0]) 2 16 (by kernel_rfl) HI.out.1 HI.out.2.1 HI.out.2.2.1 HI.out.2.2.2 rfl (by decide) _ _ _ rfl jA.out ⟨w1.heap.size,0,none⟩ 1 1 [.int .i64 (f k),.int .i64 (g k)] rfl rfl HN.out (by simp[Value.oneCell']) (by decide) (by unfold maxLen;omega) (by omega) (by omega) _ rfl ?_;intro g' lA w4 bA aA cA nA)
     | go_in)
    go_roundw
    case rel=>
     obtain⟨r1,r2,r3⟩:=zGh kA.out (fun q h h'=>iA.out q h' h) bA aA cA;exact⟨k+1,by omega,by go_num,by rw[ey];exact r2,by rw[eo];exact r1,fun q h h'=>r3 q h' h,eA.grown aA eA.size (fun q hq=>(jA.out.lt hq).1)⟩
    case measure=>simp[intOf];omega
  ·obtain rfl:k=n:=(by omega);go_wp2
   go_ret2
   exact⟨_,_,rfl,Hy.out,Ho.out,iA.out,hb⟩
def zdN(n:Nat)(f g:Nat->Int)(t:Int)(l:List (Int×Int)):Prop:=(zA4 n f g/\zDd t->l=ye f g t n)/\(¬(zA4 n f g/\zDd t)->l = [])
def zdM(n:Nat)(f g:Nat->Int)(t:Int)(l:List (Int×Int)):Prop:=(zA4 n f g/\zDd t->l=zD4 f g t n)/\(¬(zA4 n f g/\zDd t)->l = [])
def zac(n:Nat)(f g:Nat->Int)(t:Int)(w:World)(e:Ending)(w':World):Prop:=∃vy vo l l',e = .returned (.agg #[vy,vo])/\zdN n f g t l/\zdM n f g t l'/\zHW l l' w w' vy vo
theorem zDQ(v:Value)(n lo hi:Nat)(f g:Nat->Int)(t:Int)(w:World)(h1:qn w lo hi v n f g) :
  Calls Tryz.prog 120 #[v,.int .i64 t] w (zac n f g t w):=by
 have Hp:=zi h1;obtain⟨m1,a,c,rfl,mc,_⟩:=id h1;clear h1;have nA:∀(fn:Fn) (first cap:Array Value) (w:World),(Instr.makeFunc fn first cap).run Tryz.prog w = .ok (.func fn first cap) w:=fun _ _ _ _=>rfl
 have ha:=zD w (.cells #[.int .i64 t] 2);have gA:=zD (w.alloc (.cells #[.int .i64 t] 2)) (.cells #[.slice none 0 0,.slice none 0 0] 148);have hA:=zA ha gA;have HT:=zi (show zY ((w.alloc (.cells #[.int .i64 t] 2)).alloc (.cells #[.slice none 0 0,.slice none 0 0] 148)) w.heap.size 0 (.int .i64 t)from zY.zeF ⟨by rw[World.cell?_alloc_at _ _ _ _ rfl];rfl,World.frozen?_alloc_at _ _ _ _ rfl⟩ gA);have HR:=zi (zAT.new (w.alloc (.cells #[.int .i64 t] 2)) (.slice none 0 0) (.slice none 0 0) 148);rw[World.size_alloc]at HR;clear ha gA;by_cases ho:zA4 n f g
 ·have Ho:=zi ho;clear ho;by_cases hq:zDd t
  ·have Hq:=zi hq;clear hq;go_enter Tryz.func120,Tryz.ntmps120;go_wp2_with fail;generalize (w.alloc (.cells #[.int .i64 t] 2)).alloc (.cells #[.slice none 0 0,.slice none 0 0] 148)=W at HT HR hA ⊢;refine(zAf _ n lo hi f g _ (Hp.out.zeF hA)).mono ?_;rintro e w1 ⟨⟨s,rfl,hs⟩,aA⟩;obtain rfl:s=true:=hs.2 Ho.out;have eA:=zi (HT.out.zeF aA);have dA:=zi (HR.out.zeF aA);have cA:=zA hA aA;clear hs aA hA HT HR;obtain⟨x0,x1⟩:=eA.out;go_wp2_with (first
    | (go_at_call 169;refine(zIr t _).mono ?_;rintro e w2 ⟨⟨s,rfl,hs⟩,rfl⟩;obtain rfl:s=true:=hs.2 Hq.out;clear hs)
    | fail)
   go_wp2_with fail;refine(zZp _ n lo hi w.heap.size f g t _ (Hp.out.zeF cA) Ho.out.1 eA.out.1).mono ?_;rintro e w3 ⟨vy,vo,rfl,bA⟩;have iA:=bA.2.2.2;have mA:=zs bA.1;have jA:=zs bA.2.1;obtain⟨ya,yc,rfl,_⟩:=mA;obtain⟨oa,oc,rfl,_⟩:=jA;have kA:=zi (dA.out.zeF iA);have HN:=zi bA;have fA:w.heap.size+1<w2.heap.size:=dA.out.1.lt;have lA:=zA cA iA;clear bA iA x0 x1 eA dA;obtain⟨⟨x0,x1⟩,⟨x2,x3⟩⟩:=kA.out;go_wp2;refine bodyPost_ret (v:=.agg #[.slice ya (ye f g t n).length yc,.slice oa (zD4 f g t n).length oc]) (by simp[results,Tryz.results120,go_sem, *]) rfl ?_;refine⟨_,_,ye f g t n,zD4 f g t n,rfl,⟨fun _=>rfl,fun h=>absurd ⟨Ho.out,Hq.out⟩ h⟩,⟨fun _=>rfl,fun h=>absurd ⟨Ho.out,Hq.out⟩ h⟩,?_,?_,HN.out.2.2.1,(lA.setCell (by show w.heap.size<=w.heap.size+1;omega) _).setCell (by show w.heap.size<=w.heap.size+1;omega) _⟩
   ·exact(((zBd.put HN.out.1 fA _).put fA _)).mono cA.size
   ·exact(((zBd.put HN.out.2.1 fA _).put fA _)).mono cA.size
  ·have Hq:=zi hq;clear hq;go_enter Tryz.func120,Tryz.ntmps120;go_wp2_with fail;generalize (w.alloc (.cells #[.int .i64 t] 2)).alloc (.cells #[.slice none 0 0,.slice none 0 0] 148)=W at HT HR hA ⊢;refine(zAf _ n lo hi f g _ (Hp.out.zeF hA)).mono ?_;rintro e w1 ⟨⟨s,rfl,hs⟩,aA⟩;obtain rfl:s=true:=hs.2 Ho.out;have eA:=zi (HT.out.zeF aA);have dA:=zi (HR.out.zeF aA);have cA:=zA hA aA;clear hs aA hA HT HR;obtain⟨x0,x1⟩:=eA.out;obtain⟨⟨y0,y1⟩,⟨y2,y3⟩⟩:=dA.out;go_wp2_with (first
    | (go_at_call 169;refine(zIr t _).mono ?_;rintro e w2 ⟨⟨s,rfl,hs⟩,rfl⟩;obtain rfl:s=false:=qj hs Hq.out;clear hs)
    | fail)
   go_wp2;refine bodyPost_ret (v:=.agg #[.slice none 0 0,.slice none 0 0]) (by simp[results,Tryz.results120,go_sem, *]) rfl ?_;exact⟨_,_,[],[],rfl,⟨fun h=>absurd h.2 Hq.out,fun _=>rfl⟩,⟨fun h=>absurd h.2 Hq.out,fun _=>rfl⟩,zBd.nil _ _,zBd.nil _ _,fun q hq=>by simp[Value.ownBlock]at hq,(cA.setCell (by show w.heap.size<=w.heap.size+1;omega) _).setCell (by show w.heap.size<=w.heap.size+1;omega) _⟩
 ·have Ho:=zi ho;clear ho;go_enter Tryz.func120,Tryz.ntmps120;go_wp2_with fail;generalize (w.alloc (.cells #[.int .i64 t] 2)).alloc (.cells #[.slice none 0 0,.slice none 0 0] 148)=W at HT HR hA ⊢;refine(zAf _ n lo hi f g _ (Hp.out.zeF hA)).mono ?_;rintro e w1 ⟨⟨s,rfl,hs⟩,aA⟩;obtain rfl:s=false:=qj hs Ho.out;have dA:=zi (HR.out.zeF aA);have cA:=zA hA aA;clear hs aA hA HT HR;obtain⟨⟨y0,y1⟩,⟨y2,y3⟩⟩:=dA.out;go_wp2;refine bodyPost_ret (v:=.agg #[.slice none 0 0,.slice none 0 0]) (by simp[results,Tryz.results120,go_sem, *]) rfl ?_;exact⟨_,_,[],[],rfl,⟨fun h=>absurd h.1 Ho.out,fun _=>rfl⟩,⟨fun h=>absurd h.1 Ho.out,fun _=>rfl⟩,zBd.nil _ _,zBd.nil _ _,fun q hq=>by simp[Value.ownBlock]at hq,(cA.setCell (by show w.heap.size<=w.heap.size+1;omega) _).setCell (by show w.heap.size<=w.heap.size+1;omega) _⟩
theorem zRW{l m:List (Int×Int)}{k:Nat}(hk:k<l.length)(h:(zh l k,zn l k)∈m):yd (l.take (k+1)) m=yd (l.take k) m ++ [(zh l k,zn l k)]:=by
 unfold zh zn at h ⊢;rw[zBS hk]at h ⊢;unfold yd;rw[List.take_succ_eq_append_getElem hk,List.filter_append,List.filter_cons];simp only[List.filter_nil];rw[if_pos (by simp;exact h)]
theorem zUo{l m:List (Int×Int)}{k:Nat}(hk:k<l.length)(h:(zh l k,zn l k)∉m):yd (l.take (k+1)) m=yd (l.take k) m:=by
 unfold zh zn at h;rw[zBS hk]at h;unfold yd;rw[List.take_succ_eq_append_getElem hk,List.filter_append,List.filter_cons];simp only[List.filter_nil];rw[if_neg (by simp;exact h),List.append_nil]
theorem zRV(l m:List (Int×Int))(k:Nat):(yd (l.take k) m).length<=k/\(zB3 (l.take k) m).length<=k:=by
 refine⟨?_,zSC l m k⟩;unfold yd;exact Nat.le_trans (List.length_filter_le _ _) (by rw[List.length_take];omega)
theorem zGE(v v2:Value)(lo hi fB eB T:Nat)(l m:List (Int×Int))(w:World)(h1:qn w lo hi v l.length (zh l) (zn l))(hn:l.length<=200)(h2:qn w fB eB v2 m.length (zh m) (zn m))(hT:w.cell? ⟨T,0,none⟩=some v2) :
  Calls Tryz.prog 163 #[v,.func (.func 164) #[] #[.pointer (some ⟨T,0,none⟩)]] w fun e w'=>∃vy vo,e = .returned (.tuple #[vy,vo])/\zHW (yd l m) (zB3 l m) w w' vy vo:=by
 have Hp:=zi h1;have HT:=zi hT;have gB:=zi h2;obtain⟨m1,a,c,rfl,mc,_⟩:=id h1;clear h1 hT h2;unfold maxLen at m1;obtain⟨i0,cB,sA⟩:=Option.map_eq_some_iff.1 zMy;simp only[Prod.mk.injEq]at sA;have HI:=zi (And.intro cB sA);clear cB sA;go_enter Tryz.func163,Tryz.ntmps163;go_wp2
 go_loopw [6,7,12] (fun vy vo i wr=>∃k:Nat,k<=l.length/\i = .int .i64 k/\zHW (yd (l.take k) m) (zB3 (l.take k) m) w wr vy vo) (fun _ _ i _=>l.length - (intOf i).toNat)
 case atStart=>exact⟨0,Nat.zero_le _,rfl,zBd.nil _ _,zBd.nil _ _,fun q hq=>by simp[Value.ownBlock]at hq,Below.refl _ _⟩
 case round=>
  obtain⟨k,hk,rfl,hy,ho,bB,hb⟩:=hrel;have Hy:=zi hy;have Ho:=zi ho;have kA:=zi bB;have lB:=zRV l m k;clear hy ho bB;by_cases eA:k<l.length
  ·have mB:(k:Int)<(l.length:Int):=(by omega);obtain⟨b,off,rfl,q0,q1⟩:=(Hp.out.zeF hb).cellsD eA;have iA:=zD wr (.cells #[.int .i64 (zh l k),.int .i64 (zn l k)] 38);have HV:=zi (zAT.new wr (.int .i64 (zh l k)) (.int .i64 (zn l k)) 38);have fA:=zA hb iA;have vA:=zi ((fA.cell (p:=⟨T,0,none⟩) (zH HT.out)).trans HT.out);have tA:=zi (gB.out.zeF fA);have nB:∀(fn:Fn) (first cap:Array Value) (w:World),(Instr.makeFunc fn first cap).run Tryz.prog w = .ok (.func fn first cap) w:=fun _ _ _ _=>rfl
   go_wp2_with fail;refine(zRw v2 m.length fB eB (zh m) (zn m) (zh l k) (zn l k) T _ tA.out vA.out).mono ?_;rintro e w1 ⟨⟨s,rfl,hs⟩,dA⟩;have kB:=zi ((Hy.out.zeF iA).zeF dA);have jB:=zi ((Ho.out.zeF iA).zeF dA);have iB:=zi (HV.out.zeF dA);have aB:=zA fA dA;clear dA fA iA Hy Ho HV q0 q1 vA tA;have oB:=aB.size;obtain⟨⟨x0,x1⟩,⟨x2,x3⟩⟩:=iB.out;have jA:=zD w1 (.cells #[.int .i64 (zh l k),.int .i64 (zn l k)] 38);have mA:=zi (kB.out.zeF jA);have lA:=zi (jB.out.zeF jA);have gA:=zA aB jA;have pB:(w1.alloc (.cells #[.int .i64 (zh l k),.int .i64 (zn l k)] 38)).heap.size=w1.heap.size+1:=World.size_alloc _ _;have HN:=zi (World.news_of_block (heap_alloc_last w1 (.cells #[.int .i64 (zh l k),.int .i64 (zn l k)] 38)));clear jA;by_cases hq:(zh l k,zn l k)∈m
   ·obtain rfl:s=true:=hs.2 (zFd.2 hq);have ey:=zi (zRW eA hq);have eo:=zi (zQd eA hq);clear hs hq;go_wp2_with (first
     | (at_builtin;refine wpList_append_lies _ rfl _ _ 39 rfl w.heap.size 38 i0 (.agg #[.int .i64 0,.int .i64 0]) 2 16 (by kernel_rfl) HI.out.1 HI.out.2.1 HI.out.2.2.1 HI.out.2.2.2 rfl (by decide) _ _ _ rfl mA.out ⟨w1.heap.size,0,none⟩ 1 1 [.int .i64 (zh l k),.int .i64 (zn l k)] rfl rfl HN.out (by simp[Value.oneCell']) (by decide) (by unfold maxLen;omega) (by omega) (by omega) _ rfl ?_;intro g' nA w4 bA aA cA oA)
     | go_in)
    go_roundw
    case rel=>
     obtain⟨r1,r2,r3⟩:=zGh lA.out kA.out bA aA cA;exact⟨k+1,by omega,by go_num,by rw[ey.out];exact r1,by rw[eo.out];exact r2,r3,gA.grown aA gA.size (fun q hq=>(mA.out.lt hq).1)⟩
    case measure=>simp[intOf];omega
   ·obtain rfl:s=false:=qj hs (fun h=>hq (zFd.1 h));have ey:=zi (zUo eA hq);have eo:=zi (zNB eA hq);clear hs hq;go_wp2_with (first
     | (at_builtin;refine wpList_append_lies _ rfl _ _ 39 rfl w.heap.size 38 i0 (.agg #[.int .i64 0,.int .i64 0]) 2 16 (by kernel_rfl) HI.out.1 HI.out.2.1 HI.out.2.2.1 HI.out.2.2.2 rfl (by decide) _ _ _ rfl lA.out ⟨w1.heap.size,0,none⟩ 1 1 [.int .i64 (zh l k),.int .i64 (zn l k)] rfl rfl HN.out (by simp[Value.oneCell']) (by decide) (by unfold maxLen;omega) (by omega) (by omega) _ rfl ?_;intro g' nA w4 bA aA cA oA)
     | go_in)
    go_roundw
    case rel=>
     obtain⟨r1,r2,r3⟩:=zGh mA.out (fun q h h'=>kA.out q h' h) bA aA cA;exact⟨k+1,by omega,by go_num,by rw[ey.out];exact r2,by rw[eo.out];exact r1,fun q h h'=>r3 q h' h,gA.grown aA gA.size (fun q hq=>(lA.out.lt hq).1)⟩
    case measure=>simp[intOf];omega
  ·obtain rfl:k=l.length:=(by omega);have rA:=Hy.out;have pA:=Ho.out;rw[List.take_length]at rA pA;have HY:=zi rA;have HO:=zi pA;clear rA pA Hy Ho;go_wp2
   go_ret2
   exact⟨_,_,rfl,HY.out,HO.out,kA.out,hb⟩
theorem zHD(v v2:Value)(lo hi fB eB T:Nat)(l m:List (Int×Int))(w:World)(h1:qn w lo hi v l.length (zh l) (zn l))(hn:l.length<=200)(h2:qn w fB eB v2 m.length (zh m) (zn m))(hT:w.cell? ⟨T,0,none⟩=some v2) :
  Calls Tryz.prog 163 #[v,.func (.func 166) #[] #[.pointer (some ⟨T,0,none⟩)]] w fun e w'=>∃vy vo,e = .returned (.tuple #[vy,vo])/\zHW (yd l m) (zB3 l m) w w' vy vo:=by
 have Hp:=zi h1;have HT:=zi hT;have gB:=zi h2;obtain⟨m1,a,c,rfl,mc,_⟩:=id h1;clear h1 hT h2;unfold maxLen at m1;obtain⟨i0,cB,sA⟩:=Option.map_eq_some_iff.1 zMy;simp only[Prod.mk.injEq]at sA;have HI:=zi (And.intro cB sA);clear cB sA;go_enter Tryz.func163,Tryz.ntmps163;go_wp2
 go_loopw [6,7,12] (fun vy vo i wr=>∃k:Nat,k<=l.length/\i = .int .i64 k/\zHW (yd (l.take k) m) (zB3 (l.take k) m) w wr vy vo) (fun _ _ i _=>l.length - (intOf i).toNat)
 case atStart=>exact⟨0,Nat.zero_le _,rfl,zBd.nil _ _,zBd.nil _ _,fun q hq=>by simp[Value.ownBlock]at hq,Below.refl _ _⟩
 case round=>
  obtain⟨k,hk,rfl,hy,ho,bB,hb⟩:=hrel;have Hy:=zi hy;have Ho:=zi ho;have kA:=zi bB;have lB:=zRV l m k;clear hy ho bB;by_cases eA:k<l.length
  ·have mB:(k:Int)<(l.length:Int):=(by omega);obtain⟨b,off,rfl,q0,q1⟩:=(Hp.out.zeF hb).cellsD eA;have iA:=zD wr (.cells #[.int .i64 (zh l k),.int .i64 (zn l k)] 38);have HV:=zi (zAT.new wr (.int .i64 (zh l k)) (.int .i64 (zn l k)) 38);have fA:=zA hb iA;have vA:=zi ((fA.cell (p:=⟨T,0,none⟩) (zH HT.out)).trans HT.out);have tA:=zi (gB.out.zeF fA);have nB:∀(fn:Fn) (first cap:Array Value) (w:World),(Instr.makeFunc fn first cap).run Tryz.prog w = .ok (.func fn first cap) w:=fun _ _ _ _=>rfl
   go_wp2_with fail;refine(zTo v2 m.length fB eB (zh m) (zn m) (zh l k) (zn l k) T _ tA.out vA.out).mono ?_;rintro e w1 ⟨⟨s,rfl,hs⟩,dA⟩;have kB:=zi ((Hy.out.zeF iA).zeF dA);have jB:=zi ((Ho.out.zeF iA).zeF dA);have iB:=zi (HV.out.zeF dA);have aB:=zA fA dA;clear dA fA iA Hy Ho HV q0 q1 vA tA;have oB:=aB.size;obtain⟨⟨x0,x1⟩,⟨x2,x3⟩⟩:=iB.out;have jA:=zD w1 (.cells #[.int .i64 (zh l k),.int .i64 (zn l k)] 38);have mA:=zi (kB.out.zeF jA);have lA:=zi (jB.out.zeF jA);have gA:=zA aB jA;have pB:(w1.alloc (.cells #[.int .i64 (zh l k),.int .i64 (zn l k)] 38)).heap.size=w1.heap.size+1:=World.size_alloc _ _;have HN:=zi (World.news_of_block (heap_alloc_last w1 (.cells #[.int .i64 (zh l k),.int .i64 (zn l k)] 38)));clear jA;by_cases hq:(zh l k,zn l k)∈m
   ·obtain rfl:s=true:=hs.2 (zFd.2 hq);have ey:=zi (zRW eA hq);have eo:=zi (zQd eA hq);clear hs hq;go_wp2_with (first
     | (at_builtin;refine wpList_append_lies _ rfl _ _ 39 rfl w.heap.size 38 i0 (.agg #[.int .i64 0,.int .i64 0]) 2 16 (by kernel_rfl) HI.out.1 HI.out.2.1 HI.out.2.2.1 HI.out.2.2.2 rfl (by decide) _ _ _ rfl mA.out ⟨w1.heap.size,0,none⟩ 1 1 [.int .i64 (zh l k),.int .i64 (zn l k)] rfl rfl HN.out (by simp[Value.oneCell']) (by decide) (by unfold maxLen;omega) (by omega) (by omega) _ rfl ?_;intro g' nA w4 bA aA cA oA)
     | go_in)
    go_roundw
    case rel=>
     obtain⟨r1,r2,r3⟩:=zGh lA.out kA.out bA aA cA;exact⟨k+1,by omega,by go_num,by rw[ey.out];exact r1,by rw[eo.out];exact r2,r3,gA.grown aA gA.size (fun q hq=>(mA.out.lt hq).1)⟩
    case measure=>simp[intOf];omega
   ·obtain rfl:s=false:=qj hs (fun h=>hq (zFd.1 h));have ey:=zi (zUo eA hq);have eo:=zi (zNB eA hq);clear hs hq;go_wp2_with (first
     | (at_builtin;refine wpList_append_lies _ rfl _ _ 39 rfl w.heap.size 38 i0 (.agg #[.int .i64 0,.int .i64 0]) 2 16 (by kernel_rfl) HI.out.1 HI.out.2.1 HI.out.2.2.1 HI.out.2.2.2 rfl (by decide) _ _ _ rfl lA.out ⟨w1.heap.size,0,none⟩ 1 1 [.int .i64 (zh l k),.int .i64 (zn l k)] rfl rfl HN.out (by simp[Value.oneCell']) (by decide) (by unfold maxLen;omega) (by omega) (by omega) _ rfl ?_;intro g' nA w4 bA aA cA oA)
     | go_in)
    go_roundw
    case rel=>
     obtain⟨r1,r2,r3⟩:=zGh mA.out (fun q h h'=>kA.out q h' h) bA aA cA;exact⟨k+1,by omega,by go_num,by rw[ey.out];exact r2,by rw[eo.out];exact r1,fun q h h'=>r3 q h' h,gA.grown aA gA.size (fun q hq=>(lA.out.lt hq).1)⟩
    case measure=>simp[intOf];omega
  ·obtain rfl:k=l.length:=(by omega);have rA:=Hy.out;have pA:=Ho.out;rw[List.take_length]at rA pA;have HY:=zi rA;have HO:=zi pA;clear rA pA Hy Ho;go_wp2
   go_ret2
   exact⟨_,_,rfl,HY.out,HO.out,kA.out,hb⟩
theorem zBr(v v':Value)(n lo hi n' sA rA:Nat)(f g f' g':Nat->Int)(w:World)(h1:qn w lo hi v n f g)(h2:qn w sA rA v' n' f' g') :
  Calls Tryz.prog 167 #[v,v'] w fun e w'=>zL (zGJ n f g n' f' g') e/\Below w.heap.size w w':=by
 have Hp:=zi h1;have pA:=zi h2;obtain⟨m1,a,c,rfl,mc,_⟩:=id h1;obtain⟨m2,a',c',rfl,kB,_⟩:=id h2;unfold maxLen at m1 m2;clear h1 h2;by_cases ho:zA4 n f g
 ·have Ho:=zi ho;clear ho;by_cases oA:zA4 n' f' g'
  ·have cA:=zi oA;clear oA;go_enter Tryz.func167,Tryz.ntmps167;go_wp2_with fail;refine(zAf _ n lo hi f g _ Hp.out).mono ?_;rintro e w1 ⟨⟨t,rfl,ht⟩,bA⟩;obtain rfl:t=true:=ht.2 Ho.out;clear ht;go_wp2_with fail;refine(zAf _ n' sA rA f' g' _ (pA.out.zeF bA)).mono ?_;rintro e w2 ⟨⟨t,rfl,ht⟩,kA⟩;obtain rfl:t=true:=ht.2 cA.out;have iA:=zA bA kA;clear ht bA kA;go_wp2_with fail;refine(zIp _ n lo hi f g _ (Hp.out.zeF iA) Ho.out.1 Ho.out.2.1).mono ?_;rintro e w3 ⟨rfl,hm,cB⟩;have Hm:=zi hm;have aB:=zA iA cB;have hz:w.heap.size<=w2.heap.size:=iA.size;clear hm cB iA;go_wp2
   go_loopw [20] (fun i wr=>∃(k:Nat) (D:DataW Unit),k<=n'/\i = .int .i64 k/\zXp wr w2.heap.size n D/\zGI n f g f' k D/\(∀j,j<k->PIn n f g (f' j) (g' j))/\Below w.heap.size w wr) (fun i _=>n' - (intOf i).toNat)
   case atStart=>exact⟨0,_,Nat.zero_le _,rfl,Hm.out,zGI.start Ho.out f',fun j hj=>absurd hj (Nat.not_lt_zero _),aB⟩
   case round=>
    obtain⟨k,D,hk,rfl,mA,eA,eB,hb⟩:=hrel;have dA:=zi mA;have aA:=zi eA;have vA:=zi eB;clear mA eA eB Hm aB;by_cases fA:k<n'
    ·have fB:(k:Int)<(n':Int):=(by omega);obtain⟨b,off,rfl,q0,q1⟩:=(pA.out.zeF hb).cellsD fA;have lA:keyOf Tryz.prog 2 (.int .i64 (f' k))=some (zEg (f' k)):=keyOf_int_mk za7 (zN5 (cA.out.2.1 k fA).1 (by have:=(cA.out.2.1 k fA).2.1;omega));have jA:=zi lA;clear lA;have bA:=hb.alloc hb.size (.cells #[.int .i64 (f' k),.int .i64 (g' k)] 38);have jB:w2.heap.size<=wr.heap.size:=Nat.le_of_lt dA.out.lt;go_wp2_with (first
      | (at_lookup;refine wpList_lookup_own_int _ rfl _ _ 210 rfl 2 2 .i64 zcz zZO za7 (zd7 _) w2.heap.size n D rfl (dA.out.alloc _) _ _ rfl jA.out ?_;intro c0 bB iB)
      | (at_delete;refine wpList_delete_own _ rfl _ _ 210 2 rfl 2 zcz zZO _ w2.heap.size n D rfl (dA.out.alloc _) _ _ rfl jA.out ?_;intro w4 nA gA)
      | go_in)
     ·have gB:c0≠g' k:=by
       have h:(c0 != g' k)=true:=(by assumption);simpa using h
      go_ret;exact⟨zL.no (aA.out.no Ho.out cA.out fA (show D.atKey (zEg (f' k)) (zGu 0)=zGu c0 from bB) gB),bA⟩
     ·have he:c0=g' k:=by
       have h:(c0 != g' k)=false:=(by assumption);simpa using h
      subst he;have tA:D.atKey (zEg (f' k)) (zGu 0)=zGu (g' k):=bB;go_roundw
      case rel=>exact⟨k+1,_,by omega,by go_num,nA,aA.out.next cA.out fA tA,yJ fA vA.out (aA.out.in cA.out fA tA),bA.grown gA.grown bA.size (fun j hj=>by cases hj;exact hz)⟩
      case measure=>simp[intOf];omega
    ·obtain rfl:k=n':=(by omega);go_wp2_with (first
      | (at_len;refine wpList_len_own _ rfl _ 210 rfl 2 2 zZO _ w2.heap.size n D rfl dA.out ?_)
      | go_in)
     go_ret;refine⟨⟨_,rfl,?_⟩,hb⟩;have He:=aA.out.end Ho.out cA.out vA.out;rw[<-He];simp
  ·have cA:=zi oA;clear oA;go_enter Tryz.func167,Tryz.ntmps167;go_wp2_with fail;refine(zAf _ n lo hi f g _ Hp.out).mono ?_;rintro e w1 ⟨⟨t,rfl,ht⟩,bA⟩;obtain rfl:t=true:=ht.2 Ho.out;clear ht;go_wp2_with fail;refine(zAf _ n' sA rA f' g' _ (pA.out.zeF bA)).mono ?_;rintro e w2 ⟨⟨t,rfl,ht⟩,kA⟩;obtain rfl:t=false:=qj ht cA.out;have iA:=zA bA kA;clear ht bA kA;go_wp2;go_ret;exact⟨zL.no fun h=>cA.out h.2.1,iA⟩
 ·have Ho:=zi ho;clear ho;go_enter Tryz.func167,Tryz.ntmps167;go_wp2_with fail;refine(zAf _ n lo hi f g _ Hp.out).mono ?_;rintro e w1 ⟨⟨t,rfl,ht⟩,bA⟩;obtain rfl:t=false:=qj ht Ho.out;clear ht;go_wp2;go_ret;exact⟨zL.no fun h=>Ho.out h.1,bA⟩
end Go.Proofs.YtjganmlaooofoaaGreatDoor
