/- A part of the proof. -/
import Derived.Test.YtmgeglgboadfiaaGreatDoorU7
set_option linter.unusedVariables false
set_option maxRecDepth 20000
set_option maxHeartbeats 4000000
namespace Go.Proofs.YtmgeglgboadfiaaGreatDoor
open Go.RowKit Go.Maps
def zLw(vd:Value)(m:zDH):List Value:=[.int .i64 m.zPH,.int .i64 m.time,.int .i64 m.rs,.int .i64 m.rb,vd]
def mrow(W:zE)(vd:Nat->Value):Nat->List Value
 | 0=>[]
 | k+1=>mrow W vd k ++ zLw (vd k) (zJ W k)
theorem zE4(W:zE)(vd:Nat->Value):∀n,(mrow W vd n).length=n*5
 | 0=>rfl
 | n+1=>by simp[mrow,zE4 W vd n,zLw];omega
theorem zCh{W:zE}{vd:Nat->Value}:∀{n i j:Nat},i<n->j<5->(mrow W vd n)[i*5+j]?=(zLw (vd i) (zJ W i))[j]?
 | 0,i,j,hi,_=>absurd hi (Nat.not_lt_zero _)
 | n+1,i,j,hi,hj=>by
  unfold mrow;by_cases e:i=n
  ·subst e;rw[List.getElem?_append_right (by rw[zE4];omega),zE4,show i*5+j - i*5=j by omega]
  ·rw[List.getElem?_append_left (by rw[zE4];omega),zCh (by omega) hj]
def zGH(w:World)(lo hi:Nat)(W:zE)(vd:Nat->Value):Prop:=∀i,i<zm W->zR w lo hi (vd i) (zJ W i).dn (zJ W i).ds (zJ W i).db
def zEH(w:World)(base:Nat)(v:Value)(W:zE)(vd:Nat->Value)(n:Nat):Prop:=w.ownsRow base 224 5 v n (mrow W vd n)
theorem zEH.zO9{w w1:World}{base:Nat}{v:Value}{W:zE}{vd:Nat->Value}{n:Nat}(h:zEH w base v W vd n)(hb:Below w.heap.size w w1):zEH w1 base v W vd n:=
 h.kept (yW hb none) (by cases v.ownBlock<;>simp)
theorem zEH.lt{w:World}{base:Nat}{v:Value}{W:zE}{vd:Nat->Value}{n:Nat}(h:zEH w base v W vd n){q:Nat}(hq:v.ownBlock=some q):base<=q/\q<w.heap.size:=by
 rcases h.2 with⟨rfl,_⟩ | ⟨g,cap,aA,rfl,hb,hg,_⟩
 ·simp[Value.ownBlock]at hq
 ·simp only[Value.ownBlock,Option.some.injEq]at hq;subst hq;exact⟨hb,(Array.getElem?_eq_some_iff.1 hg).1⟩
theorem zEH.next{w2:World}{base g cap:Nat}{W:zE}{vd:Nat->Value}{n:Nat}(h:w2.ownsRow base 224 5 (.slice (some ⟨g,0,none⟩) (n+1) cap) (n+1) (mrow W vd n ++ zLw (vd n) (zJ W n))):zEH w2 base (.slice (some ⟨g,0,none⟩) (n+1) cap) W vd (n+1):=h
structure zDI (w:World) (lo hi:Nat) (v:Value) (W:zE) (vd:Nat->Value):Prop where
 zPO:∃a c,v = .slice a (zm W) c/\zm W<=c
 cells:∀i,i<zm W->∃g c,v = .slice (some ⟨g,0,none⟩) (zm W) c/\w.cell? ⟨g,i*5,none⟩=some (.int .i64 (zJ W i).zPH)/\w.cell? ⟨g,i*5+1,none⟩=some (.int .i64 (zJ W i).time)/\w.cell? ⟨g,i*5+2,none⟩=some (.int .i64 (zJ W i).rs)/\w.cell? ⟨g,i*5+3,none⟩=some (.int .i64 (zJ W i).rb)/\w.cell? ⟨g,i*5+4,none⟩=some (vd i)
 zPK:zGH w lo hi W vd
theorem zDI.zO9{w w1:World}{lo hi:Nat}{v:Value}{W:zE}{vd:Nat->Value}(h:zDI w lo hi v W vd)(t:Below w.heap.size w w1):zDI w1 lo hi v W vd where
 zPO:=h.zPO
 cells:=fun i aA=>by
  obtain⟨g,c,e,h0,h1,h2,h3,h4⟩:=h.cells i aA;exact⟨g,c,e,(t.cell (zD h0)).trans h0,(t.cell (zD h1)).trans h1,(t.cell (zD h2)).trans h2,(t.cell (zD h3)).trans h3,(t.cell (zD h4)).trans h4⟩
 zPK:=fun i aA=>(h.zPK i aA).zO9 t
theorem zEH.at{w:World}{base lo hi:Nat}{v:Value}{W:zE}{vd:Nat->Value}(h:zEH w base v W vd (zm W))(hd:zGH w lo hi W vd):zDI w lo hi v W vd where
 zPO:=za h
 cells:=fun i bA=>by
  obtain⟨g,cap,e,cA,hb,dA,aA⟩:=yK h (by omega);refine⟨g,cap,e,?_,?_,?_,?_,?_⟩
  ·exact(aA (i*5) _ (by have:=zCh (W:=W) (vd:=vd) bA (show 0<5 by omega);rw[Nat.add_zero]at this;rw[this];rfl)).1
  ·exact(aA (i*5+1) _ (by rw[zCh bA (by omega)];rfl)).1
  ·exact(aA (i*5+2) _ (by rw[zCh bA (by omega)];rfl)).1
  ·exact(aA (i*5+3) _ (by rw[zCh bA (by omega)];rfl)).1
  ·exact(aA (i*5+4) _ (by rw[zCh bA (by omega)];rfl)).1
 zPK:=hd
theorem zLo:(Tryz.prog.info? 224).map (fun i=>(i.zero,i.size,i.bytes))=some (some (.agg #[.int .i64 0,.int .i64 0,.int .i64 0,.int .i64 0,.slice none 0 0]),5,56):=by kernel_rfl
theorem zBQ(v0 v1 v2 v3:Value)(lo hi:Nat)(W:zE)(w:World)(h:zd w lo hi v0 v1 v2 v3 W)(hs:W.sn<=8)(hp:W.pn<=20) :
  Calls Tryz.prog 181 #[zt v0 v1 v2 v3 W] w fun e w'=>∃v vd,e = .returned v/\zDI w' lo hi v W vd/\Below w.heap.size w w':=by
 have Hp:=zB h;obtain⟨m1,a,c,rfl,mc,-⟩:=id h.zPD;obtain⟨m2,a',c',rfl,eC,-⟩:=id h.zPG;unfold maxLen at m1 m2;obtain⟨vs,nB,gB⟩:=h.zPD.vals;obtain⟨vt,oB,iB⟩:=h.zPG.vals;have bC:∃vd:Nat->Value,(∀i,i<W.pn->vd i=vs i)/\(∀i,i<W.sn->vd (W.pn+i)=vt i)/\zGH w lo hi W vd:=by
  refine⟨fun i=>if i<W.pn then vs i else vt (i - W.pn),fun i lA=>if_pos lA,fun i lA=>?_,fun i lA=>?_⟩
  ·show(if W.pn+i<W.pn then vs (W.pn+i)else vt (W.pn+i - W.pn))=vt i;rw[if_neg (by omega),show W.pn+i - W.pn=i by omega]
  ·show zR w lo hi (if i<W.pn then vs i else vt (i - W.pn)) _ _ _;by_cases pA:i<W.pn
   ·rw[if_pos pA,qA pA];exact nB i pA
   ·have e:=qz W (i - W.pn);rw[show W.pn+(i - W.pn)=i by omega]at e;rw[if_neg pA,e];unfold zm at lA;exact oB _ (by omega)
 obtain⟨vd,jB,kB,lB⟩:=bC;have rB:=zB gB;have sB:=zB iB;have tB:=zB jB;have vB:=zB kB;have aC:=zB lB;clear h nB gB oB iB jB kB lB;obtain⟨i0,mB,eB⟩:=Option.map_eq_some_iff.1 zLo;simp only[Prod.mk.injEq]at eB;have HI:=zB (And.intro mB eB);clear mB eB;have ha:=zC w (.cells #[v0,v1,.int .i64 W.time,.int .i64 W.next,.slice a' W.sn c',.slice a W.pn c] 37);have HB:=zB (zg.new w v0 v1 (.int .i64 W.time) (.int .i64 W.next) (.slice a' W.sn c') (.slice a W.pn c) 37);obtain⟨⟨x0,-⟩,⟨x2,-⟩,⟨x4,-⟩,⟨x6,-⟩,⟨x8,-⟩,⟨fB,-⟩⟩:=HB.out;go_enter Tryz.func181,Tryz.ntmps181;go_wp2;clear x0 x2 x4 x6 x8 fB
 go_loopw [3,11] (fun v i wr=>∃k:Nat,k<=W.pn/\i = .int .i64 k/\zEH wr (w.heap.size+1) v W vd k/\zg wr w.heap.size v0 v1 (.int .i64 W.time) (.int .i64 W.next) (.slice a' W.sn c') (.slice a W.pn c)/\Below w.heap.size w wr) (fun _ i _=>W.pn - (intOf i).toNat)
 case atStart=>exact⟨0,Nat.zero_le _,rfl,World.ownsRow_nil _ _ _ _,HB.out,ha⟩
 case round=>
  clear HB ha;obtain⟨k,hk,rfl,gA,hX,hb⟩:=hrel;have cA:=zB gA;have HX:=zB hX;clear gA hX;by_cases jA:k<W.pn
  ·have bB:(k:Int)<(W.pn:Int):=(by omega);obtain⟨b,off,rfl,oA⟩:=rB.out k jA;have bA:=oA.zO9 hb;rw[<-tB.out k jA]at bA;obtain⟨-,ad,cd,kA,-,-⟩:=id bA.zPK;have tA:=zB kA;rw[kA]at bA;clear kA oA;have iA:=zC wr (.cells #[.int .i64 (W.zPD k).id,.string (W.zPD k).name,.string (W.zPD k).set,.int .i64 (W.zPD k).zPH,.int .i64 (W.zPD k).time,.int .i64 (W.zPD k).rs,.int .i64 (W.zPD k).rb,.slice ad (W.zPD k).dn cd] 99);have rA:=zB (yx.new wr (.int .i64 (W.zPD k).id) (.string (W.zPD k).name) (.string (W.zPD k).set) (.int .i64 (W.zPD k).zPH) (.int .i64 (W.zPD k).time) (.int .i64 (W.zPD k).rs) (.int .i64 (W.zPD k).rb) (.slice ad (W.zPD k).dn cd) 99);have eA:=zC (wr.alloc (.cells #[.int .i64 (W.zPD k).id,.string (W.zPD k).name,.string (W.zPD k).set,.int .i64 (W.zPD k).zPH,.int .i64 (W.zPD k).time,.int .i64 (W.zPD k).rs,.int .i64 (W.zPD k).rb,.slice ad (W.zPD k).dn cd] 99)) (.cells #[.int .i64 (W.zPD k).zPH,.int .i64 (W.zPD k).time,.int .i64 (W.zPD k).rs,.int .i64 (W.zPD k).rb,.slice ad (W.zPD k).dn cd] 224);have HN:=zB (World.news_of_block (heap_alloc_last (wr.alloc (.cells #[.int .i64 (W.zPD k).id,.string (W.zPD k).name,.string (W.zPD k).set,.int .i64 (W.zPD k).zPH,.int .i64 (W.zPD k).time,.int .i64 (W.zPD k).rs,.int .i64 (W.zPD k).rb,.slice ad (W.zPD k).dn cd] 99)) (.cells #[.int .i64 (W.zPD k).zPH,.int .i64 (W.zPD k).time,.int .i64 (W.zPD k).rs,.int .i64 (W.zPD k).rb,.slice ad (W.zPD k).dn cd] 224)));have dA:=zB ((cA.out.zO9 iA).zO9 eA);have sA:=zB ((HX.out.zO9 iA).zO9 eA);have mA:=zA (zA hb iA) eA;have cC:=HX.out.1.lt;have dB:(wr.alloc (.cells #[.int .i64 (W.zPD k).id,.string (W.zPD k).name,.string (W.zPD k).set,.int .i64 (W.zPD k).zPH,.int .i64 (W.zPD k).time,.int .i64 (W.zPD k).rs,.int .i64 (W.zPD k).rb,.slice ad (W.zPD k).dn cd] 99)).heap.size=wr.heap.size+1:=World.size_alloc _ _;have dC:=eA.size;rw[dB]at HN;have q0:=bA.c0;have q1:=bA.c1;have q2:=bA.c2;have q3:=bA.c3;have q4:=bA.c4;have q5:=bA.c5;have q6:=bA.c6;have q7:=bA.c7;obtain⟨⟨⟨y0,-⟩,⟨y1,-⟩,⟨y2,-⟩,⟨y3,-⟩⟩,⟨y4,-⟩,⟨y5,-⟩,⟨y6,-⟩,⟨y7,-⟩⟩:=rA.out;clear bA iA eA cA HX;go_wp2_with (first
    | (at_builtin;refine wpList_append_lies _ rfl _ _ 220 rfl (w.heap.size+1) 224 i0 (.agg #[.int .i64 0,.int .i64 0,.int .i64 0,.int .i64 0,.slice none 0 0]) 5 56 (by kernel_rfl) HI.out.1 HI.out.2.1 HI.out.2.2.1 HI.out.2.2.2 rfl (by decide) _ _ _ rfl dA.out ⟨wr.heap.size+1,0,none⟩ 1 1 [.int .i64 (W.zPD k).zPH,.int .i64 (W.zPD k).time,.int .i64 (W.zPD k).rs,.int .i64 (W.zPD k).rb,.slice ad (W.zPD k).dn cd] rfl rfl HN.out (by simp[Value.oneCell']) (by decide) (by unfold maxLen;omega) (by omega) (by omega) _ rfl ?_;intro g' vA w8 fA aA aB cB)
    | go_in)
   go_roundw
   case rel=>
    have nA:∀q,Value.ownBlock _=some q->w.heap.size+1<=q:=fun q hq=>(dA.out.lt hq).1
    refine⟨k+1,by omega,by go_num,?_,sA.out.grown aA (fun q hq=>by have:=nA q hq;omega),mA.grown aA mA.size (fun q hq=>by have:=nA q hq;omega)⟩;refine zEH.next ?_;rw[qA jA,tA.out];exact fA
   case measure=>simp[intOf];omega
  ·obtain rfl:k=W.pn:=(by omega);obtain⟨⟨x0,-⟩,⟨x2,-⟩,⟨x4,-⟩,⟨x6,-⟩,⟨x8,-⟩,⟨fB,-⟩⟩:=HX.out;go_wp2;clear x0 x2 x4 x6 x8 fB
   go_loopw [3,31] (fun v i wr=>∃k:Nat,k<=W.sn/\i = .int .i64 k/\zEH wr (w.heap.size+1) v W vd (W.pn+k)/\zg wr w.heap.size v0 v1 (.int .i64 W.time) (.int .i64 W.next) (.slice a' W.sn c') (.slice a W.pn c)/\Below w.heap.size w wr) (fun _ i _=>W.sn - (intOf i).toNat)
   case atStart=>exact⟨0,Nat.zero_le _,rfl,cA.out,HX.out,hb⟩
   case round=>
    clear HX hb cA hk jA;obtain⟨k,hk,rfl,gA,hX,hb⟩:=hrel;have cA:=zB gA;have HX:=zB hX;clear gA hX;by_cases jA:k<W.sn
    ·have bB:(k:Int)<(W.sn:Int):=(by omega);obtain⟨b,off,rfl,oA⟩:=sB.out k jA;have bA:=oA.zO9 hb;rw[<-vB.out k jA]at bA;obtain⟨-,ad,cd,kA,-,-⟩:=id bA.zPK;have tA:=zB kA;rw[kA]at bA;clear kA oA;have iA:=zC wr (.cells #[.string (W.zPG k).name,.int .i64 (W.zPG k).origin,.int .i64 (W.zPG k).zPH,.int .i64 (W.zPG k).rs,.int .i64 (W.zPG k).rb,.slice ad (W.zPG k).dn cd] 67);have rA:=zB (zg.new wr (.string (W.zPG k).name) (.int .i64 (W.zPG k).origin) (.int .i64 (W.zPG k).zPH) (.int .i64 (W.zPG k).rs) (.int .i64 (W.zPG k).rb) (.slice ad (W.zPG k).dn cd) 67);have pB:=zB (HX.out.zO9 iA);have eA:=zC (wr.alloc (.cells #[.string (W.zPG k).name,.int .i64 (W.zPG k).origin,.int .i64 (W.zPG k).zPH,.int .i64 (W.zPG k).rs,.int .i64 (W.zPG k).rb,.slice ad (W.zPG k).dn cd] 67)) (.cells #[.int .i64 (W.zPG k).zPH,.int .i64 W.time,.int .i64 (W.zPG k).rs,.int .i64 (W.zPG k).rb,.slice ad (W.zPG k).dn cd] 224);have HN:=zB (World.news_of_block (heap_alloc_last (wr.alloc (.cells #[.string (W.zPG k).name,.int .i64 (W.zPG k).origin,.int .i64 (W.zPG k).zPH,.int .i64 (W.zPG k).rs,.int .i64 (W.zPG k).rb,.slice ad (W.zPG k).dn cd] 67)) (.cells #[.int .i64 (W.zPG k).zPH,.int .i64 W.time,.int .i64 (W.zPG k).rs,.int .i64 (W.zPG k).rb,.slice ad (W.zPG k).dn cd] 224)));have dA:=zB ((cA.out.zO9 iA).zO9 eA);have sA:=zB ((HX.out.zO9 iA).zO9 eA);have mA:=zA (zA hb iA) eA;have cC:=HX.out.1.lt;have dB:(wr.alloc (.cells #[.string (W.zPG k).name,.int .i64 (W.zPG k).origin,.int .i64 (W.zPG k).zPH,.int .i64 (W.zPG k).rs,.int .i64 (W.zPG k).rb,.slice ad (W.zPG k).dn cd] 67)).heap.size=wr.heap.size+1:=World.size_alloc _ _;have dC:=eA.size;rw[dB]at HN;have q0:=bA.c0;have q1:=bA.c1;have q2:=bA.c2;have q3:=bA.c3;have q4:=bA.c4;have q5:=bA.c5;obtain⟨⟨y0,-⟩,⟨y1,-⟩,⟨y2,-⟩,⟨y3,-⟩,⟨y4,-⟩,⟨y5,-⟩⟩:=rA.out;obtain⟨⟨z0,-⟩,⟨z2,-⟩,⟨z4,-⟩,⟨z6,-⟩,⟨z8,-⟩,⟨fC,-⟩⟩:=pB.out;clear bA iA eA cA HX;go_wp2_with (first
      | (at_builtin;refine wpList_append_lies _ rfl _ _ 220 rfl (w.heap.size+1) 224 i0 (.agg #[.int .i64 0,.int .i64 0,.int .i64 0,.int .i64 0,.slice none 0 0]) 5 56 (by kernel_rfl) HI.out.1 HI.out.2.1 HI.out.2.2.1 HI.out.2.2.2 rfl (by decide) _ _ _ rfl dA.out ⟨wr.heap.size+1,0,none⟩ 1 1 [.int .i64 (W.zPG k).zPH,.int .i64 W.time,.int .i64 (W.zPG k).rs,.int .i64 (W.zPG k).rb,.slice ad (W.zPG k).dn cd] rfl rfl HN.out (by simp[Value.oneCell']) (by decide) (by unfold maxLen;omega) (by omega) (by omega) _ rfl ?_;intro g' vA w8 fA aA aB cB)
      | go_in)
     go_roundw
     case rel=>
      have nA:∀q,Value.ownBlock _=some q->w.heap.size+1<=q:=fun q hq=>(dA.out.lt hq).1
      refine⟨k+1,by omega,by go_num,?_,sA.out.grown aA (fun q hq=>by have:=nA q hq;omega),mA.grown aA mA.size (fun q hq=>by have:=nA q hq;omega)⟩;show zEH w8 (w.heap.size+1) _ W vd (W.pn+k+1);refine zEH.next ?_;rw[qz,tA.out];exact fA
     case measure=>simp[intOf];omega
    ·obtain rfl:k=W.sn:=(by omega);go_wp2;go_ret;exact⟨_,vd,rfl,zEH.at cA.out (fun i lA=>(aC.out i lA).zO9 hb),hb⟩
def zCU(w:World)(b:Nat)(v0 v1 v2 v3 v4:Value):Prop:=zQ w b 0 v0/\zQ w b 1 v1/\zQ w b 2 v2/\zQ w b 3 v3/\zQ w b 4 v4
theorem zCU.zO9{w w':World}{b:Nat}{v0 v1 v2 v3 v4:Value}(h:zCU w b v0 v1 v2 v3 v4)(t:Below w.heap.size w w'):zCU w' b v0 v1 v2 v3 v4:=⟨h.1.zO9 t,h.2.1.zO9 t,h.2.2.1.zO9 t,h.2.2.2.1.zO9 t,h.2.2.2.2.zO9 t⟩
theorem zCU.new(w:World)(v0 v1 v2 v3 v4:Value)(t:TypeId):zCU (w.alloc (.cells #[v0,v1,v2,v3,v4] t)) w.heap.size v0 v1 v2 v3 v4:=by
 have hb:(w.alloc (.cells #[v0,v1,v2,v3,v4] t)).heap[w.heap.size]?=some (.cells #[v0,v1,v2,v3,v4] t):=heap_alloc_new _ _;exact⟨zH hb rfl,zH hb rfl,zH hb rfl,zH hb rfl,zH hb rfl⟩
def zAr(W:zE):Prop:=∀i,i<zm W->(Lit.int .i64 (zJ W i).zPH).wf=true
def zGJ(W:zE)(i:Nat):Prop:=(zK W (zJ W i).zPH).id=(zJ W i).zPH
theorem zCr(v:Value)(s:zY)(w:World):(Instr.field 99 (qX v s) 0).run Tryz.prog w = .ok (.int .i64 s.id) w/\(Instr.field 99 (qX v s) 2).run Tryz.prog w = .ok (.string s.set) w/\(Instr.field 99 (qX v s) 3).run Tryz.prog w = .ok (.int .i64 s.zPH) w/\(Instr.field 99 (qX v s) 4).run Tryz.prog w = .ok (.int .i64 s.time) w:=by
 refine⟨?_,?_,?_,?_⟩<;>kernel_rfl
theorem zGs(v0 v1 v2 v3:Value)(lo hi:Nat)(W:zE)(A:Nat)(w:World)(h:zd w lo hi v0 v1 v2 v3 W)(hs:W.sn<=8)(hp:W.pn<=20)(hA:zAq w lo hi W A)(hD:yy W)(nA:zAr W) :
  Calls Tryz.prog 205 #[zt v0 v1 v2 v3 W,zEJ A] w fun e w'=>zG (∀i,i<zm W->zGJ W i) e/\Below w.heap.size w w':=by
 have Hp:=zB h;have HA:=zB hA;have HD:=zB hD;have oA:=zB nA;clear h hA hD nA;have ha:=zC w (.cells #[v0,v1,.int .i64 W.time,.int .i64 W.next,v2,v3] 37);obtain⟨⟨x0,-⟩,⟨x2,-⟩,⟨x4,-⟩,⟨x6,-⟩,⟨x8,-⟩,⟨vA,-⟩⟩:=zg.new w v0 v1 (.int .i64 W.time) (.int .i64 W.next) v2 v3 37;go_enter Tryz.func205,Tryz.ntmps205;go_wp2_with fail;clear x0 x2 x4 x6 x8 vA;generalize w.alloc (.cells #[v0,v1,.int .i64 W.time,.int .i64 W.next,v2,v3] 37)=W0 at ha ⊢;refine(zBQ v0 v1 v2 v3 lo hi W W0 (Hp.out.zO9 ha) hs hp).mono ?_;rintro e w1 ⟨vm,vd,rfl,hm,jA⟩;have HM:=zB hm;have eA:=zA ha jA;obtain⟨am,cm,rfl,aB⟩:=id hm.zPO;have bB:zm W<=28:=by unfold zm;omega
 clear ha jA hm;go_wp2
 go_loopw [10] (fun i wr=>∃k:Nat,k<=zm W/\i = .int .i64 k/\(∀j,j<k->zGJ W j)/\Below w1.heap.size w1 wr) (fun i _=>zm W - (intOf i).toNat)
 case atStart=>exact⟨0,Nat.zero_le _,rfl,fun j hj=>absurd hj (Nat.not_lt_zero _),Below.refl _ _⟩
 case round=>
  obtain⟨k,hk,rfl,bA,hb⟩:=hrel;have aA:=zB bA;clear bA;by_cases cA:k<zm W;rotate_left
  ·obtain rfl:k=zm W:=(by omega);go_wp2;go_ret;exact⟨zG.yes aA.out,zA eA hb⟩
  have sA:(k:Int)<(zm W:Int):=(by omega);obtain⟨g,cg,e,q0,q1,q2,q3,q4⟩:=(HM.out.zO9 hb).cells k cA;obtain⟨-,ad,cd,mA,-,-⟩:=id ((HM.out.zO9 hb).zPK k cA);rw[mA]at q4;cases e;have gA:=zC wr (.cells #[.int .i64 (zJ W k).zPH,.int .i64 (zJ W k).time,.int .i64 (zJ W k).rs,.int .i64 (zJ W k).rb,.slice ad (zJ W k).dn cd] 224);have HV:=zB (zCU.new wr (.int .i64 (zJ W k).zPH) (.int .i64 (zJ W k).time) (.int .i64 (zJ W k).rs) (.int .i64 (zJ W k).rb) (.slice ad (zJ W k).dn cd) 224);have dA:=zB (HA.out.zO9 (zA eA (zA hb gA)));have kA:=zA hb gA;have pA:=zB (oA.out k cA);have iA:=zB (show zGJ W k↔(zK W (zJ W k).zPH).id=(zJ W k).zPH from Iff.rfl);clear mA gA;generalize zJ W k=m at *;go_wp2_with fail;clear q0 q1 q2 q3 q4;generalize wr.alloc (.cells #[.int .i64 m.zPH,.int .i64 m.time,.int .i64 m.rs,.int .i64 m.rb,.slice ad m.dn cd] 224)=W2 at HV dA kA ⊢;generalize wr.heap.size=V at HV ⊢;obtain⟨⟨y0,-⟩,-⟩:=HV.out;go_region_held3 (fun w'=>w'.cell? ⟨V,0,none⟩=some (.int .i64 m.zPH)) (go_keep)
   (first | (go_at_call 190;refine(zA9 lo hi W A m.zPH _ ?_ HD.out pA.out hp).mono ?_;(exact dA.out.zO9 (Below.refl _ _).drew);rintro e w6 ⟨aa,ca,rfl,tA,fA⟩;have rA:=fun w=>(zCr (.slice aa (zK W m.zPH).dn ca) (zK W m.zPH) w).1;obtain⟨⟨z0,_⟩,_⟩:=HV.out.zO9 (zI fA)))
  have lA:=qZ kA fA;clear fA tA rA z0 y0 dA;by_cases he:(zK W m.zPH).id=m.zPH
  ·have hd:((zK W m.zPH).id != m.zPH)=false:=(by simp[he]);have He:=zB (iA.out.2 he);clear he;go_wp2;go_roundw
   case rel=>exact⟨k+1,by omega,by go_num,zr cA aA.out He.out,lA⟩
   case measure=>simp[intOf];omega
  ·have hd:((zK W m.zPH).id != m.zPH)=true:=(by simp[he]);have He:=zB (fun h=>he (iA.out.1 h));clear he;go_wp2;go_ret;exact⟨zG.no fun h=>He.out (h k cA),zA eA lA⟩
theorem zK3(v:Value)(n lo hi:Nat)(f g:Nat->Int)(x y:Int)(w:World)(h1:zR w lo hi v n f g) :
  Calls Tryz.prog 228 #[v,.agg #[.int .i64 x,.int .i64 y]] w fun e w'=>∃r:Int,e = .returned (.int .i64 r)/\(0<=r↔PIn n f g x y)/\Below w.heap.size w w':=by
 have Hp:=zB h1;obtain⟨m1,a,c,rfl,mc,-⟩:=id h1;unfold maxLen at m1;clear h1;have ha:=zC w (.cells #[.int .i64 x,.int .i64 y] 61);have HB:=zB (zp.new w (.int .i64 x) (.int .i64 y) 61);go_enter Tryz.func228,Tryz.ntmps228;go_wp2
 go_loopw [8] (fun i wr=>∃k:Nat,k<=n/\i = .int .i64 k/\¬PIn k f g x y/\zp wr w.heap.size (.int .i64 x) (.int .i64 y)/\Below w.heap.size w wr) (fun i _=>n - (intOf i).toNat)
 case atStart=>exact⟨0,Nat.zero_le _,rfl,fun ⟨j,hj,_⟩=>absurd hj (Nat.not_lt_zero _),HB.out,ha⟩
 case round=>
  obtain⟨k,hk,rfl,dA,hX,hb⟩:=hrel;have bA:=zB dA;have HX:=zB hX;clear dA hX;obtain⟨⟨x0,x1⟩,⟨x2,x3⟩⟩:=HX.out;by_cases cA:k<n
  ·have eA:(k:Int)<(n:Int):=(by omega);obtain⟨b,off,rfl,q0,q1⟩:=(Hp.out.zO9 hb).zPC cA;by_cases he:f k=x/\g k=y
   ·have H:=zB (show PIn n f g x y from⟨k,cA,he.1,he.2⟩);rw[he.1]at q0;rw[he.2]at q1;clear he;go_wp2
    go_quiet (fail)
    go_wp2;go_ret;exact⟨k,rfl,⟨fun _=>H.out,fun _=>by omega⟩,zh hb _⟩
   ·have H:=zB he;have e0:(x == f k)=false\/(x == f k)=true/\(y == g k)=false:=by
     by_cases h:f k=x
     ·right;refine⟨by simp[h],?_⟩;have:¬y=g k:=fun h'=>he ⟨h,h'.symm⟩
      simp[this]
     ·left;have:¬x=f k:=fun h'=>h h'.symm
      simp[this]
    clear he;rcases e0 with e0 | ⟨e0,e1⟩
    all_goals
     go_wp2
     go_quiet (fail)
     go_wp2;go_roundw
     case rel=>
      refine⟨k+1,by omega,by go_num,?_,HX.out.zO9 (zh (Below.refl _ _) _),zh hb _⟩;rintro⟨j,hj,aA⟩;by_cases e:j=k
      ·subst e;exact H.out ⟨aA.1,aA.2⟩
      ·exact bA.out ⟨j,by omega,aA⟩
     case measure=>simp[intOf];omega
  ·obtain rfl:k=n:=(by omega);go_wp2;go_ret;exact⟨-1,rfl,⟨fun h=>absurd h (by decide),fun h=>absurd h bA.out⟩,hb⟩
theorem zD7(v:Value)(n lo hi:Nat)(f g:Nat->Int)(x y:Int)(w:World)(h1:zR w lo hi v n f g) :
  Calls Tryz.prog 220 #[v,.agg #[.int .i64 x,.int .i64 y]] w fun e w'=>zG (PIn n f g x y) e/\Below w.heap.size w w':=by
 have Hp:=zB h1;clear h1;have ha:=zC w (.cells #[.int .i64 x,.int .i64 y] 61);obtain⟨⟨x0,-⟩,⟨x2,-⟩⟩:=zp.new w (.int .i64 x) (.int .i64 y) 61;go_enter Tryz.func220,Tryz.ntmps220;go_wp2_with fail;refine(zK3 v n lo hi f g x y _ (Hp.out.zO9 ha)).mono ?_;rintro e w1 ⟨r,rfl,hr,aA⟩;have Hr:=zB hr;have hB:=zA ha aA;clear hr aA x0 x2 ha;go_wp2;go_ret;refine⟨⟨_,rfl,?_⟩,hB⟩;have:=Hr.out;simp only[decide_eq_true_eq];exact this
theorem zJt(v:Value)(n lo hi:Nat)(f g:Nat->Int)(x y:Int)(T:Nat)(w:World)(h1:zR w lo hi v n f g)(hT:w.cell? ⟨T,0,none⟩=some v) :
  Calls Tryz.prog 231 #[.agg #[.int .i64 x,.int .i64 y],.pointer (some ⟨T,0,none⟩)] w fun e w'=>zG (PIn n f g x y) e/\Below w.heap.size w w':=by
 have Hp:=zB h1;obtain⟨m1,a,c,rfl,mc,-⟩:=id h1;clear h1;have ha:=zC w (.cells #[.int .i64 x,.int .i64 y] 61);obtain⟨⟨x0,-⟩,⟨x2,-⟩⟩:=zp.new w (.int .i64 x) (.int .i64 y) 61;have cA:=(ha.cell (p:=⟨T,0,none⟩) (zD hT)).trans hT;clear hT;go_enter Tryz.func231,Tryz.ntmps231;go_wp2_with fail;refine(zD7 _ n lo hi f g x y _ (Hp.out.zO9 ha)).mono ?_;rintro e w1 ⟨⟨t1,rfl,bA⟩,aA⟩;have Ht:=zB bA;have hB:=zA ha aA;clear bA aA x0 x2 ha cA;go_wp2;go_ret;exact⟨⟨_,rfl,Ht.out⟩,hB⟩
theorem zK1(v:Value)(n lo hi:Nat)(f g:Nat->Int)(x y:Int)(T:Nat)(w:World)(h1:zR w lo hi v n f g)(hT:w.cell? ⟨T,0,none⟩=some v) :
  Calls Tryz.prog 232 #[.agg #[.int .i64 x,.int .i64 y],.pointer (some ⟨T,0,none⟩)] w fun e w'=>zG (PIn n f g x y) e/\Below w.heap.size w w':=by
 have Hp:=zB h1;obtain⟨m1,a,c,rfl,mc,-⟩:=id h1;clear h1;have ha:=zC w (.cells #[.int .i64 x,.int .i64 y] 61);obtain⟨⟨x0,-⟩,⟨x2,-⟩⟩:=zp.new w (.int .i64 x) (.int .i64 y) 61;have cA:=(ha.cell (p:=⟨T,0,none⟩) (zD hT)).trans hT;clear hT;go_enter Tryz.func232,Tryz.ntmps232;go_wp2_with fail;refine(zD7 _ n lo hi f g x y _ (Hp.out.zO9 ha)).mono ?_;rintro e w1 ⟨⟨t1,rfl,bA⟩,aA⟩;have Ht:=zB bA;have hB:=zA ha aA;clear bA aA x0 x2 ha cA;go_wp2;go_ret;exact⟨⟨_,rfl,Ht.out⟩,hB⟩
theorem zBH(v0 v1 v2 v3:Value)(lo hi:Nat)(W:zE)(xs xb:Int)(w:World)(h:zd w lo hi v0 v1 v2 v3 W)(hR:qB W.zPE)(hT:zz W.zPE xs xb) :
  Calls Tryz.prog 226 #[zt v0 v1 v2 v3 W,.agg #[.int .i64 xs,.int .i64 xb]] w fun e w'=>∃v,e = .returned v/\qE w' w.heap.size v (zX W.zPE xs xb)/\Below w.heap.size w w':=by
 have Hp:=zB h;have HR:=zB hR;have HT:=zB (show Nil xs xb\/zx W.zPE xs xb from hT.imp id (fun h=>h.1.1));obtain⟨m0,a0,c0,rfl,eA,-⟩:=id h.zPE.1;clear h hR hT;have ha:=zC w (.cells #[.slice a0 W.zPE.n c0,v1,.int .i64 W.time,.int .i64 W.next,v2,v3] 37);have hB:=zg.new w (.slice a0 W.zPE.n c0) v1 (.int .i64 W.time) (.int .i64 W.next) v2 v3 37;have hz:(w.alloc (.cells #[.slice a0 W.zPE.n c0,v1,.int .i64 W.time,.int .i64 W.next,v2,v3] 37)).heap.size=w.heap.size+1:=World.size_alloc _ _;have bA:=zC (w.alloc (.cells #[.slice a0 W.zPE.n c0,v1,.int .i64 W.time,.int .i64 W.next,v2,v3] 37)) (.cells #[.int .i64 xs,.int .i64 xb] 61);have hX:=zp.new (w.alloc (.cells #[.slice a0 W.zPE.n c0,v1,.int .i64 W.time,.int .i64 W.next,v2,v3] 37)) (.int .i64 xs) (.int .i64 xb) 61;rw[hz]at hX;have aA:=zA ha bA;obtain⟨⟨x0,-⟩,⟨x2,-⟩,-⟩:=hB.zO9 bA;obtain⟨⟨y0,-⟩,⟨y2,-⟩⟩:=hX;clear hB ha bA;go_enter Tryz.func226,Tryz.ntmps226;go_wp2_with fail;clear x0 x2 y0 y2;generalize (w.alloc (.cells #[.slice a0 W.zPE.n c0,v1,.int .i64 W.time,.int .i64 W.next,v2,v3] 37)).alloc (.cells #[.int .i64 xs,.int .i64 xb] 61)=W0 at aA ⊢;refine(zIG W.zPE HR.out _ lo hi xs xb W0 (Hp.out.zPE.1.zO9 aA) HT.out).mono ?_;rintro e w1 ⟨v,rfl,hr,cA⟩;have Hr:=zB hr;have hB:=zA aA cA;have dA:=aA.size;clear hr cA;go_wp2;go_ret;exact⟨v,rfl,qE.mono Hr.out dA,hB⟩
theorem zEE(n:Int)(w:World):Calls Tryz.prog 187 #[.int .i64 n] w fun e w'=>zG (zA8 n) e/\w'=w:=by
 by_cases h1:0<=n
 ·by_cases h2:n<=1000000
  ·go_enter Tryz.func187,Tryz.ntmps187;go_wp2;go_ret;exact⟨zG.yes ⟨h1,h2⟩,rfl⟩
  ·go_enter Tryz.func187,Tryz.ntmps187;go_wp2;go_ret;exact⟨zG.no fun h=>by have:=h.2;omega,rfl⟩
 ·go_enter Tryz.func187,Tryz.ntmps187;go_wp2;go_ret;exact⟨zG.no fun h=>by have:=h.1;omega,rfl⟩
theorem zKo(x y t:Int)(T:Nat)(w:World)(hT:w.cell? ⟨T,0,none⟩=some (.int .i64 t)):Calls Tryz.prog 189 #[.agg #[.int .i64 x,.int .i64 y],.pointer (some ⟨T,0,none⟩)] w fun e w'=>zG (t<y) e/\Below w.heap.size w w':=by
 have aA:=zC w (.cells #[.int .i64 x,.int .i64 y] 61);have bA:=(aA.cell (p:=⟨T,0,none⟩) (zD hT)).trans hT;by_cases h:t<y
 ·go_enter Tryz.func189,Tryz.ntmps189;go_wp2;go_ret;exact⟨⟨_,rfl,by simpa using h⟩,aA⟩
 ·go_enter Tryz.func189,Tryz.ntmps189;go_wp2;go_ret;exact⟨⟨_,rfl,by simpa using h⟩,aA⟩
def zCJ(l l':List (Int×Int))(w w':World)(v v':Value):Prop:=qE w' w.heap.size v l/\qE w' w.heap.size v' l'/\(∀q,v.ownBlock=some q->v'.ownBlock≠some q)/\Below w.heap.size w w'
theorem zBW{w1 w2:World}{base g cap:Nat}{v v':Value}{l l':List (Int×Int)}{x y:Int}(h':qE w1 base v' l')(ha:∀q,v.ownBlock=some q->v'.ownBlock≠some q)
  (aA:w2.ownsRow base 61 2 (.slice (some ⟨g,0,none⟩) (l.length+1) cap) (l.length+1) (pcl l ++ [.int .i64 x,.int .i64 y])) (hg:w1.grownBy w2 v.ownBlock) (bA:v.ownBlock=some g\/g=w1.heap.size) :
  qE w2 base (.slice (some ⟨g,0,none⟩) (l.length+1) cap) (l ++ [(x,y)])/\qE w2 base v' l'/\(∀q,(Value.slice (some ⟨g,0,none⟩) (l.length+1) cap).ownBlock=some q->v'.ownBlock≠some q):=by
 refine⟨?_,h'.zPF hg (fun q hq e=>ha q e hq),fun q hq e=>?_⟩
 ·unfold qE;rw[zBG,List.length_append];exact aA
 ·simp only[Value.ownBlock,Option.some.injEq]at hq;subst hq;rcases bA with h | h
  ·exact ha _ h e
  ·have:=(h'.lt e).2;omega
theorem zNb(v:Value)(n lo hi T:Nat)(f g:Nat->Int)(t:Int)(w:World)(h1:zR w lo hi v n f g)(hn:n<=200)(hT:w.cell? ⟨T,0,none⟩=some (.int .i64 t)) :
  Calls Tryz.prog 188 #[v,.func (.func 189) #[] #[.pointer (some ⟨T,0,none⟩)]] w fun e w'=>∃vy vo,e = .returned (.tuple #[vy,vo])/\zCJ (zy f g t n) (zAJ f g t n) w w' vy vo:=by
 have Hp:=zT h1;have HT:=zT hT;obtain⟨m1,a,c,rfl,mc,_⟩:=id h1;clear h1 hT;obtain⟨i0,tA,oA⟩:=Option.map_eq_some_iff.1 zBy;simp only[Prod.mk.injEq]at oA;have HI:=zT (And.intro tA oA);clear tA oA;go_enter Tryz.func188,Tryz.ntmps188;go_wp2
 go_loopw [6,7,12] (fun vy vo i wr=>∃k:Nat,k<=n/\i = .int .i64 k/\zCJ (zy f g t k) (zAJ f g t k) w wr vy vo) (fun _ _ i _=>n - (intOf i).toNat)
 case atStart=>exact⟨0,Nat.zero_le _,rfl,qE.nil _ _,qE.nil _ _,fun q hq=>by simp[Value.ownBlock]at hq,Below.refl _ _⟩
 case round=>
  obtain⟨k,hk,rfl,hy,ho,sA,hb⟩:=hrel;have Hy:=zT hy;have Ho:=zT ho;have iA:=zT sA;have cB:=zBL f g t k;clear hy ho sA;by_cases dB:k<n
  ·have eB:(k:Int)<(n:Int):=(by omega);obtain⟨b,off,rfl,q0,q1⟩:=(Hp.out.zO9 hb).zPC dB;have fA:=zC wr (.cells #[.int .i64 (f k),.int .i64 (g k)] 61);have HV:=zT (zp.new wr (.int .i64 (f k)) (.int .i64 (g k)) 61);have mA:=zA hb fA;have pA:=zT ((mA.cell (p:=⟨T,0,none⟩) (zD HT.out)).trans HT.out);have fB:∀(fn:Fn) (first cap:Array Value) (w:World),(Instr.makeFunc fn first cap).run Tryz.prog w = .ok (.func fn first cap) w:=fun _ _ _ _=>rfl
   go_wp2_with fail;refine(zKo (f k) (g k) t T _ pA.out).mono ?_;rintro e w1 ⟨⟨s,rfl,hs⟩,dA⟩;have bB:=zT ((Hy.out.zO9 fA).zO9 dA);have aB:=zT ((Ho.out.zO9 fA).zO9 dA);have vA:=zT (HV.out.zO9 dA);have rA:=zA mA dA;clear dA mA fA Hy Ho HV q0 q1 pA;have gB:=rA.size;obtain⟨⟨x0,x1⟩,⟨x2,x3⟩⟩:=vA.out;have gA:=zC w1 (.cells #[.int .i64 (f k),.int .i64 (g k)] 61);have kA:=zT (bB.out.zO9 gA);have jA:=zT (aB.out.zO9 gA);have eA:=zA rA gA;have iB:(w1.alloc (.cells #[.int .i64 (f k),.int .i64 (g k)] 61)).heap.size=w1.heap.size+1:=World.size_alloc _ _;have HN:=zT (World.news_of_block (heap_alloc_last w1 (.cells #[.int .i64 (f k),.int .i64 (g k)] 61)));clear gA;by_cases hq:t<g k
   ·obtain rfl:s=true:=hs.2 hq;have ey:zy f g t (k+1)=zy f g t k ++ [(f k,g k)]:=if_pos hq;have eo:zAJ f g t (k+1)=zAJ f g t k:=if_pos hq;clear hs hq;go_wp2_with (first
     | (at_builtin;refine wpList_append_lies _ rfl _ _ 62 rfl w.heap.size 61 i0 (.agg #[.int .i64 0,.int .i64 0]) 2 16 (by kernel_rfl) HI.out.1 HI.out.2.1 HI.out.2.2.1 HI.out.2.2.2 rfl (by decide) _ _ _ rfl kA.out ⟨w1.heap.size,0,none⟩ 1 1 [.int .i64 (f k),.int .i64 (g k)] rfl rfl HN.out (by simp[Value.oneCell']) (by decide) (by unfold maxLen;omega) (by omega) (by omega) _ rfl ?_;intro g' lA w4 bA aA cA nA)
     | go_in)
    go_roundw
    case rel=>
     obtain⟨r1,r2,r3⟩:=zBW jA.out iA.out bA aA cA;exact⟨k+1,by omega,by go_num,by rw[ey];exact r1,by rw[eo];exact r2,r3,eA.grown aA eA.size (fun q hq=>(kA.out.lt hq).1)⟩
    case measure=>simp[intOf];omega
   ·obtain rfl:s=false:=zW hs hq;have ey:zy f g t (k+1)=zy f g t k:=if_neg hq;have eo:zAJ f g t (k+1)=zAJ f g t k ++ [(f k,g k)]:=if_neg hq;clear hs hq;go_wp2_with (first
     | (at_builtin;refine wpList_append_lies _ rfl _ _ 62 rfl w.heap.size 61 i0 (.agg #[.int .i64 0,.int .i64 0]) 2 16 (by kernel_rfl) HI.out.1 HI.out.2.1 HI.out.2.2.1 HI.out.2.2.2 rfl (by decide) _ _ _ rfl jA.out ⟨w1.heap.size,0,none⟩ 1 1 [.int .i64 (f k),.int .i64 (g k)] rfl rfl HN.out (by simp[Value.oneCell']) (by decide) (by unfold maxLen;omega) (by omega) (by omega) _ rfl ?_;intro g' lA w4 bA aA cA nA)
     | go_in)
    go_roundw
    case rel=>
     obtain⟨r1,r2,r3⟩:=zBW kA.out (fun q h h'=>iA.out q h' h) bA aA cA;exact⟨k+1,by omega,by go_num,by rw[ey];exact r2,by rw[eo];exact r1,fun q h h'=>r3 q h' h,eA.grown aA eA.size (fun q hq=>(jA.out.lt hq).1)⟩
    case measure=>simp[intOf];omega
  ·obtain rfl:k=n:=(by omega);go_wp2
   go_ret2
   exact⟨_,_,rfl,Hy.out,Ho.out,iA.out,hb⟩
def zOm(n:Nat)(f g:Nat->Int)(t:Int)(l:List (Int×Int)):Prop:=(qN n f g/\zA8 t->l=zy f g t n)/\(¬(qN n f g/\zA8 t)->l = [])
def zOl(n:Nat)(f g:Nat->Int)(t:Int)(l:List (Int×Int)):Prop:=(qN n f g/\zA8 t->l=zAJ f g t n)/\(¬(qN n f g/\zA8 t)->l = [])
def zNv(n:Nat)(f g:Nat->Int)(t:Int)(w:World)(e:Ending)(w':World):Prop:=∃vy vo l l',e = .returned (.agg #[vy,vo])/\zOm n f g t l/\zOl n f g t l'/\zCJ l l' w w' vy vo
theorem zAa(v:Value)(n lo hi:Nat)(f g:Nat->Int)(t:Int)(w:World)(h1:zR w lo hi v n f g) :
  Calls Tryz.prog 151 #[v,.int .i64 t] w (zNv n f g t w):=by
 have Hp:=zT h1;obtain⟨m1,a,c,rfl,mc,_⟩:=id h1;clear h1;have nA:∀(fn:Fn) (first cap:Array Value) (w:World),(Instr.makeFunc fn first cap).run Tryz.prog w = .ok (.func fn first cap) w:=fun _ _ _ _=>rfl
 have ha:=zC w (.cells #[.int .i64 t] 2);have gA:=zC (w.alloc (.cells #[.int .i64 t] 2)) (.cells #[.slice none 0 0,.slice none 0 0] 201);have hA:=zA ha gA;have HT:=zT (show zQ ((w.alloc (.cells #[.int .i64 t] 2)).alloc (.cells #[.slice none 0 0,.slice none 0 0] 201)) w.heap.size 0 (.int .i64 t)from zQ.zO9 ⟨by rw[World.cell?_alloc_at _ _ _ _ rfl];rfl,World.frozen?_alloc_at _ _ _ _ rfl⟩ gA);have HR:=zT (zp.new (w.alloc (.cells #[.int .i64 t] 2)) (.slice none 0 0) (.slice none 0 0) 201);rw[World.size_alloc]at HR;clear ha gA;by_cases ho:qN n f g
 ·have Ho:=zT ho;clear ho;by_cases hq:zA8 t
  ·have Hq:=zT hq;clear hq;go_enter Tryz.func151,Tryz.ntmps151;go_wp2_with fail;generalize (w.alloc (.cells #[.int .i64 t] 2)).alloc (.cells #[.slice none 0 0,.slice none 0 0] 201)=W at HT HR hA ⊢;refine(qh _ n lo hi f g _ (Hp.out.zO9 hA)).mono ?_;rintro e w1 ⟨⟨s,rfl,hs⟩,aA⟩;obtain rfl:s=true:=hs.2 Ho.out;have eA:=zT (HT.out.zO9 aA);have dA:=zT (HR.out.zO9 aA);have cA:=zA hA aA;clear hs aA hA HT HR;obtain⟨x0,x1⟩:=eA.out;go_wp2_with (first
    | (go_at_call 187;refine(zEE t _).mono ?_;rintro e w2 ⟨⟨s,rfl,hs⟩,rfl⟩;obtain rfl:s=true:=hs.2 Hq.out;clear hs)
    | fail)
   go_wp2_with fail;refine(zNb _ n lo hi w.heap.size f g t _ (Hp.out.zO9 cA) Ho.out.1 eA.out.1).mono ?_;rintro e w3 ⟨vy,vo,rfl,bA⟩;have iA:=bA.2.2.2;have mA:=za bA.1;have jA:=za bA.2.1;obtain⟨ya,yc,rfl,_⟩:=mA;obtain⟨oa,oc,rfl,_⟩:=jA;have kA:=zT (dA.out.zO9 iA);have HN:=zT bA;have fA:w.heap.size+1<w2.heap.size:=dA.out.1.lt;have lA:=zA cA iA;clear bA iA x0 x1 eA dA;obtain⟨⟨x0,x1⟩,⟨x2,x3⟩⟩:=kA.out;go_wp2;refine bodyPost_ret (v:=.agg #[.slice ya (zy f g t n).length yc,.slice oa (zAJ f g t n).length oc]) (by simp[results,Tryz.results151,go_sem, *]) rfl ?_;refine⟨_,_,zy f g t n,zAJ f g t n,rfl,⟨fun _=>rfl,fun h=>absurd ⟨Ho.out,Hq.out⟩ h⟩,⟨fun _=>rfl,fun h=>absurd ⟨Ho.out,Hq.out⟩ h⟩,?_,?_,HN.out.2.2.1,(lA.setCell (by show w.heap.size<=w.heap.size+1;omega) _).setCell (by show w.heap.size<=w.heap.size+1;omega) _⟩
   ·exact(((qE.put HN.out.1 fA _).put fA _)).mono cA.size
   ·exact(((qE.put HN.out.2.1 fA _).put fA _)).mono cA.size
  ·have Hq:=zT hq;clear hq;go_enter Tryz.func151,Tryz.ntmps151;go_wp2_with fail;generalize (w.alloc (.cells #[.int .i64 t] 2)).alloc (.cells #[.slice none 0 0,.slice none 0 0] 201)=W at HT HR hA ⊢;refine(qh _ n lo hi f g _ (Hp.out.zO9 hA)).mono ?_;rintro e w1 ⟨⟨s,rfl,hs⟩,aA⟩;obtain rfl:s=true:=hs.2 Ho.out;have eA:=zT (HT.out.zO9 aA);have dA:=zT (HR.out.zO9 aA);have cA:=zA hA aA;clear hs aA hA HT HR;obtain⟨x0,x1⟩:=eA.out;obtain⟨⟨y0,y1⟩,⟨y2,y3⟩⟩:=dA.out;go_wp2_with (first
    | (go_at_call 187;refine(zEE t _).mono ?_;rintro e w2 ⟨⟨s,rfl,hs⟩,rfl⟩;obtain rfl:s=false:=zW hs Hq.out;clear hs)
    | fail)
   go_wp2;refine bodyPost_ret (v:=.agg #[.slice none 0 0,.slice none 0 0]) (by simp[results,Tryz.results151,go_sem, *]) rfl ?_;exact⟨_,_,[],[],rfl,⟨fun h=>absurd h.2 Hq.out,fun _=>rfl⟩,⟨fun h=>absurd h.2 Hq.out,fun _=>rfl⟩,qE.nil _ _,qE.nil _ _,fun q hq=>by simp[Value.ownBlock]at hq,(cA.setCell (by show w.heap.size<=w.heap.size+1;omega) _).setCell (by show w.heap.size<=w.heap.size+1;omega) _⟩
 ·have Ho:=zT ho;clear ho;go_enter Tryz.func151,Tryz.ntmps151;go_wp2_with fail;generalize (w.alloc (.cells #[.int .i64 t] 2)).alloc (.cells #[.slice none 0 0,.slice none 0 0] 201)=W at HT HR hA ⊢;refine(qh _ n lo hi f g _ (Hp.out.zO9 hA)).mono ?_;rintro e w1 ⟨⟨s,rfl,hs⟩,aA⟩;obtain rfl:s=false:=zW hs Ho.out;have dA:=zT (HR.out.zO9 aA);have cA:=zA hA aA;clear hs aA hA HT HR;obtain⟨⟨y0,y1⟩,⟨y2,y3⟩⟩:=dA.out;go_wp2;refine bodyPost_ret (v:=.agg #[.slice none 0 0,.slice none 0 0]) (by simp[results,Tryz.results151,go_sem, *]) rfl ?_;exact⟨_,_,[],[],rfl,⟨fun h=>absurd h.1 Ho.out,fun _=>rfl⟩,⟨fun h=>absurd h.1 Ho.out,fun _=>rfl⟩,qE.nil _ _,qE.nil _ _,fun q hq=>by simp[Value.ownBlock]at hq,(cA.setCell (by show w.heap.size<=w.heap.size+1;omega) _).setCell (by show w.heap.size<=w.heap.size+1;omega) _⟩
theorem zJd{l m:List (Int×Int)}{k:Nat}(hk:k<l.length)(h:(zk l k,zn l k)∈m):qH (l.take (k+1)) m=qH (l.take k) m ++ [(zk l k,zn l k)]:=by
 unfold zk zn at h ⊢;rw[yC hk]at h ⊢;unfold qH;rw[List.take_succ_eq_append_getElem hk,List.filter_append,List.filter_cons];simp only[List.filter_nil];rw[if_pos (by simp;exact h)]
theorem zLg{l m:List (Int×Int)}{k:Nat}(hk:k<l.length)(h:(zk l k,zn l k)∉m):qH (l.take (k+1)) m=qH (l.take k) m:=by
 unfold zk zn at h;rw[yC hk]at h;unfold qH;rw[List.take_succ_eq_append_getElem hk,List.filter_append,List.filter_cons];simp only[List.filter_nil];rw[if_neg (by simp;exact h),List.append_nil]
theorem zJc(l m:List (Int×Int))(k:Nat):(qH (l.take k) m).length<=k/\(yu (l.take k) m).length<=k:=by
 refine⟨?_,zJ2 l m k⟩;unfold qH;exact Nat.le_trans (List.length_filter_le _ _) (by rw[List.length_take];omega)
theorem zCO(v v2:Value)(lo hi eB dB T:Nat)(l m:List (Int×Int))(w:World)(h1:zR w lo hi v l.length (zk l) (zn l))(hn:l.length<=200)(h2:zR w eB dB v2 m.length (zk m) (zn m))(hT:w.cell? ⟨T,0,none⟩=some v2) :
  Calls Tryz.prog 188 #[v,.func (.func 231) #[] #[.pointer (some ⟨T,0,none⟩)]] w fun e w'=>∃vy vo,e = .returned (.tuple #[vy,vo])/\zCJ (qH l m) (yu l m) w w' vy vo:=by
 have Hp:=zT h1;have HT:=zT hT;have fB:=zT h2;obtain⟨m1,a,c,rfl,mc,_⟩:=id h1;clear h1 hT h2;unfold maxLen at m1;obtain⟨i0,cB,sA⟩:=Option.map_eq_some_iff.1 zBy;simp only[Prod.mk.injEq]at sA;have HI:=zT (And.intro cB sA);clear cB sA;go_enter Tryz.func188,Tryz.ntmps188;go_wp2
 go_loopw [6,7,12] (fun vy vo i wr=>∃k:Nat,k<=l.length/\i = .int .i64 k/\zCJ (qH (l.take k) m) (yu (l.take k) m) w wr vy vo) (fun _ _ i _=>l.length - (intOf i).toNat)
 case atStart=>exact⟨0,Nat.zero_le _,rfl,qE.nil _ _,qE.nil _ _,fun q hq=>by simp[Value.ownBlock]at hq,Below.refl _ _⟩
 case round=>
  obtain⟨k,hk,rfl,hy,ho,bB,hb⟩:=hrel;have Hy:=zT hy;have Ho:=zT ho;have kA:=zT bB;have kB:=zJc l m k;clear hy ho bB;by_cases eA:k<l.length
  ·have lB:(k:Int)<(l.length:Int):=(by omega);obtain⟨b,off,rfl,q0,q1⟩:=(Hp.out.zO9 hb).zPC eA;have iA:=zC wr (.cells #[.int .i64 (zk l k),.int .i64 (zn l k)] 61);have HV:=zT (zp.new wr (.int .i64 (zk l k)) (.int .i64 (zn l k)) 61);have fA:=zA hb iA;have vA:=zT ((fA.cell (p:=⟨T,0,none⟩) (zD HT.out)).trans HT.out);have tA:=zT (fB.out.zO9 fA);have mB:∀(fn:Fn) (first cap:Array Value) (w:World),(Instr.makeFunc fn first cap).run Tryz.prog w = .ok (.func fn first cap) w:=fun _ _ _ _=>rfl
   go_wp2_with fail;refine(zJt v2 m.length eB dB (zk m) (zn m) (zk l k) (zn l k) T _ tA.out vA.out).mono ?_;rintro e w1 ⟨⟨s,rfl,hs⟩,dA⟩;have jB:=zT ((Hy.out.zO9 iA).zO9 dA);have iB:=zT ((Ho.out.zO9 iA).zO9 dA);have gB:=zT (HV.out.zO9 dA);have aB:=zA fA dA;clear dA fA iA Hy Ho HV q0 q1 vA tA;have nB:=aB.size;obtain⟨⟨x0,x1⟩,⟨x2,x3⟩⟩:=gB.out;have jA:=zC w1 (.cells #[.int .i64 (zk l k),.int .i64 (zn l k)] 61);have mA:=zT (jB.out.zO9 jA);have lA:=zT (iB.out.zO9 jA);have gA:=zA aB jA;have oB:(w1.alloc (.cells #[.int .i64 (zk l k),.int .i64 (zn l k)] 61)).heap.size=w1.heap.size+1:=World.size_alloc _ _;have HN:=zT (World.news_of_block (heap_alloc_last w1 (.cells #[.int .i64 (zk l k),.int .i64 (zn l k)] 61)));clear jA;by_cases hq:(zk l k,zn l k)∈m
   ·obtain rfl:s=true:=hs.2 (zAc.2 hq);have ey:=zT (zJd eA hq);have eo:=zT (zI2 eA hq);clear hs hq;go_wp2_with (first
     | (at_builtin;refine wpList_append_lies _ rfl _ _ 62 rfl w.heap.size 61 i0 (.agg #[.int .i64 0,.int .i64 0]) 2 16 (by kernel_rfl) HI.out.1 HI.out.2.1 HI.out.2.2.1 HI.out.2.2.2 rfl (by decide) _ _ _ rfl mA.out ⟨w1.heap.size,0,none⟩ 1 1 [.int .i64 (zk l k),.int .i64 (zn l k)] rfl rfl HN.out (by simp[Value.oneCell']) (by decide) (by unfold maxLen;omega) (by omega) (by omega) _ rfl ?_;intro g' nA w4 bA aA cA oA)
     | go_in)
    go_roundw
    case rel=>
     obtain⟨r1,r2,r3⟩:=zBW lA.out kA.out bA aA cA;exact⟨k+1,by omega,by go_num,by rw[ey.out];exact r1,by rw[eo.out];exact r2,r3,gA.grown aA gA.size (fun q hq=>(mA.out.lt hq).1)⟩
    case measure=>simp[intOf];omega
   ·obtain rfl:s=false:=zW hs (fun h=>hq (zAc.1 h));have ey:=zT (zLg eA hq);have eo:=zT (zGh eA hq);clear hs hq;go_wp2_with (first
     | (at_builtin;refine wpList_append_lies _ rfl _ _ 62 rfl w.heap.size 61 i0 (.agg #[.int .i64 0,.int .i64 0]) 2 16 (by kernel_rfl) HI.out.1 HI.out.2.1 HI.out.2.2.1 HI.out.2.2.2 rfl (by decide) _ _ _ rfl lA.out ⟨w1.heap.size,0,none⟩ 1 1 [.int .i64 (zk l k),.int .i64 (zn l k)] rfl rfl HN.out (by simp[Value.oneCell']) (by decide) (by unfold maxLen;omega) (by omega) (by omega) _ rfl ?_;intro g' nA w4 bA aA cA oA)
     | go_in)
    go_roundw
    case rel=>
     obtain⟨r1,r2,r3⟩:=zBW mA.out (fun q h h'=>kA.out q h' h) bA aA cA;exact⟨k+1,by omega,by go_num,by rw[ey.out];exact r2,by rw[eo.out];exact r1,fun q h h'=>r3 q h' h,gA.grown aA gA.size (fun q hq=>(lA.out.lt hq).1)⟩
    case measure=>simp[intOf];omega
  ·obtain rfl:k=l.length:=(by omega);have rA:=Hy.out;have pA:=Ho.out;rw[List.take_length]at rA pA;have HY:=zT rA;have HO:=zT pA;clear rA pA Hy Ho;go_wp2
   go_ret2
   exact⟨_,_,rfl,HY.out,HO.out,kA.out,hb⟩
theorem zC4(v v2:Value)(lo hi eB dB T:Nat)(l m:List (Int×Int))(w:World)(h1:zR w lo hi v l.length (zk l) (zn l))(hn:l.length<=200)(h2:zR w eB dB v2 m.length (zk m) (zn m))(hT:w.cell? ⟨T,0,none⟩=some v2) :
  Calls Tryz.prog 188 #[v,.func (.func 232) #[] #[.pointer (some ⟨T,0,none⟩)]] w fun e w'=>∃vy vo,e = .returned (.tuple #[vy,vo])/\zCJ (qH l m) (yu l m) w w' vy vo:=by
 have Hp:=zT h1;have HT:=zT hT;have fB:=zT h2;obtain⟨m1,a,c,rfl,mc,_⟩:=id h1;clear h1 hT h2;unfold maxLen at m1;obtain⟨i0,cB,sA⟩:=Option.map_eq_some_iff.1 zBy;simp only[Prod.mk.injEq]at sA;have HI:=zT (And.intro cB sA);clear cB sA;go_enter Tryz.func188,Tryz.ntmps188;go_wp2
 go_loopw [6,7,12] (fun vy vo i wr=>∃k:Nat,k<=l.length/\i = .int .i64 k/\zCJ (qH (l.take k) m) (yu (l.take k) m) w wr vy vo) (fun _ _ i _=>l.length - (intOf i).toNat)
 case atStart=>exact⟨0,Nat.zero_le _,rfl,qE.nil _ _,qE.nil _ _,fun q hq=>by simp[Value.ownBlock]at hq,Below.refl _ _⟩
 case round=>
  obtain⟨k,hk,rfl,hy,ho,bB,hb⟩:=hrel;have Hy:=zT hy;have Ho:=zT ho;have kA:=zT bB;have kB:=zJc l m k;clear hy ho bB;by_cases eA:k<l.length
  ·have lB:(k:Int)<(l.length:Int):=(by omega);obtain⟨b,off,rfl,q0,q1⟩:=(Hp.out.zO9 hb).zPC eA;have iA:=zC wr (.cells #[.int .i64 (zk l k),.int .i64 (zn l k)] 61);have HV:=zT (zp.new wr (.int .i64 (zk l k)) (.int .i64 (zn l k)) 61);have fA:=zA hb iA;have vA:=zT ((fA.cell (p:=⟨T,0,none⟩) (zD HT.out)).trans HT.out);have tA:=zT (fB.out.zO9 fA);have mB:∀(fn:Fn) (first cap:Array Value) (w:World),(Instr.makeFunc fn first cap).run Tryz.prog w = .ok (.func fn first cap) w:=fun _ _ _ _=>rfl
   go_wp2_with fail;refine(zK1 v2 m.length eB dB (zk m) (zn m) (zk l k) (zn l k) T _ tA.out vA.out).mono ?_;rintro e w1 ⟨⟨s,rfl,hs⟩,dA⟩;have jB:=zT ((Hy.out.zO9 iA).zO9 dA);have iB:=zT ((Ho.out.zO9 iA).zO9 dA);have gB:=zT (HV.out.zO9 dA);have aB:=zA fA dA;clear dA fA iA Hy Ho HV q0 q1 vA tA;have nB:=aB.size;obtain⟨⟨x0,x1⟩,⟨x2,x3⟩⟩:=gB.out;have jA:=zC w1 (.cells #[.int .i64 (zk l k),.int .i64 (zn l k)] 61);have mA:=zT (jB.out.zO9 jA);have lA:=zT (iB.out.zO9 jA);have gA:=zA aB jA;have oB:(w1.alloc (.cells #[.int .i64 (zk l k),.int .i64 (zn l k)] 61)).heap.size=w1.heap.size+1:=World.size_alloc _ _;have HN:=zT (World.news_of_block (heap_alloc_last w1 (.cells #[.int .i64 (zk l k),.int .i64 (zn l k)] 61)));clear jA;by_cases hq:(zk l k,zn l k)∈m
   ·obtain rfl:s=true:=hs.2 (zAc.2 hq);have ey:=zT (zJd eA hq);have eo:=zT (zI2 eA hq);clear hs hq;go_wp2_with (first
     | (at_builtin;refine wpList_append_lies _ rfl _ _ 62 rfl w.heap.size 61 i0 (.agg #[.int .i64 0,.int .i64 0]) 2 16 (by kernel_rfl) HI.out.1 HI.out.2.1 HI.out.2.2.1 HI.out.2.2.2 rfl (by decide) _ _ _ rfl mA.out ⟨w1.heap.size,0,none⟩ 1 1 [.int .i64 (zk l k),.int .i64 (zn l k)] rfl rfl HN.out (by simp[Value.oneCell']) (by decide) (by unfold maxLen;omega) (by omega) (by omega) _ rfl ?_;intro g' nA w4 bA aA cA oA)
     | go_in)
    go_roundw
    case rel=>
     obtain⟨r1,r2,r3⟩:=zBW lA.out kA.out bA aA cA;exact⟨k+1,by omega,by go_num,by rw[ey.out];exact r1,by rw[eo.out];exact r2,r3,gA.grown aA gA.size (fun q hq=>(mA.out.lt hq).1)⟩
    case measure=>simp[intOf];omega
   ·obtain rfl:s=false:=zW hs (fun h=>hq (zAc.1 h));have ey:=zT (zLg eA hq);have eo:=zT (zGh eA hq);clear hs hq;go_wp2_with (first
     | (at_builtin;refine wpList_append_lies _ rfl _ _ 62 rfl w.heap.size 61 i0 (.agg #[.int .i64 0,.int .i64 0]) 2 16 (by kernel_rfl) HI.out.1 HI.out.2.1 HI.out.2.2.1 HI.out.2.2.2 rfl (by decide) _ _ _ rfl lA.out ⟨w1.heap.size,0,none⟩ 1 1 [.int .i64 (zk l k),.int .i64 (zn l k)] rfl rfl HN.out (by simp[Value.oneCell']) (by decide) (by unfold maxLen;omega) (by omega) (by omega) _ rfl ?_;intro g' nA w4 bA aA cA oA)
     | go_in)
    go_roundw
    case rel=>
     obtain⟨r1,r2,r3⟩:=zBW mA.out (fun q h h'=>kA.out q h' h) bA aA cA;exact⟨k+1,by omega,by go_num,by rw[ey.out];exact r2,by rw[eo.out];exact r1,fun q h h'=>r3 q h' h,gA.grown aA gA.size (fun q hq=>(lA.out.lt hq).1)⟩
    case measure=>simp[intOf];omega
  ·obtain rfl:k=l.length:=(by omega);have rA:=Hy.out;have pA:=Ho.out;rw[List.take_length]at rA pA;have HY:=zT rA;have HO:=zT pA;clear rA pA Hy Ho;go_wp2
   go_ret2
   exact⟨_,_,rfl,HY.out,HO.out,kA.out,hb⟩
theorem yS(v v':Value)(n lo hi n' sA rA:Nat)(f g f' g':Nat->Int)(w:World)(h1:zR w lo hi v n f g)(h2:zR w sA rA v' n' f' g') :
  Calls Tryz.prog 233 #[v,v'] w fun e w'=>zG (zDJ n f g n' f' g') e/\Below w.heap.size w w':=by
 have Hp:=zT h1;have pA:=zT h2;obtain⟨m1,a,c,rfl,mc,_⟩:=id h1;obtain⟨m2,a',c',rfl,jB,_⟩:=id h2;unfold maxLen at m1 m2;clear h1 h2;by_cases ho:qN n f g
 ·have Ho:=zT ho;clear ho;by_cases oA:qN n' f' g'
  ·have cA:=zT oA;clear oA;go_enter Tryz.func233,Tryz.ntmps233;go_wp2_with fail;refine(qh _ n lo hi f g _ Hp.out).mono ?_;rintro e w1 ⟨⟨t,rfl,ht⟩,bA⟩;obtain rfl:t=true:=ht.2 Ho.out;clear ht;go_wp2_with fail;refine(qh _ n' sA rA f' g' _ (pA.out.zO9 bA)).mono ?_;rintro e w2 ⟨⟨t,rfl,ht⟩,kA⟩;obtain rfl:t=true:=ht.2 cA.out;have iA:=zA bA kA;clear ht bA kA;go_wp2_with fail;refine(zEC _ n lo hi f g _ (Hp.out.zO9 iA) Ho.out.1 Ho.out.2.1).mono ?_;rintro e w3 ⟨rfl,hm,cB⟩;have Hm:=zT hm;have aB:=zA iA cB;have hz:w.heap.size<=w2.heap.size:=iA.size;clear hm cB iA;go_wp2
   go_loopw [20] (fun i wr=>∃(k:Nat) (D:DataW Unit),k<=n'/\i = .int .i64 k/\zMt wr w2.heap.size n D/\zCV n f g f' k D/\(∀j,j<k->PIn n f g (f' j) (g' j))/\Below w.heap.size w wr) (fun i _=>n' - (intOf i).toNat)
   case atStart=>exact⟨0,_,Nat.zero_le _,rfl,Hm.out,zCV.start Ho.out f',fun j hj=>absurd hj (Nat.not_lt_zero _),aB⟩
   case round=>
    obtain⟨k,D,hk,rfl,mA,eA,dB,hb⟩:=hrel;have dA:=zT mA;have aA:=zT eA;have vA:=zT dB;clear mA eA dB Hm aB;by_cases fA:k<n'
    ·have eB:(k:Int)<(n':Int):=(by omega);obtain⟨b,off,rfl,q0,q1⟩:=(pA.out.zO9 hb).zPC fA;have lA:keyOf Tryz.prog 2 (.int .i64 (f' k))=some (zBT (f' k)):=keyOf_int_mk zN2 (zHK (cA.out.2.1 k fA).1 (by have:=(cA.out.2.1 k fA).2.1;omega));have jA:=zT lA;clear lA;have bA:=hb.alloc hb.size (.cells #[.int .i64 (f' k),.int .i64 (g' k)] 61);have iB:w2.heap.size<=wr.heap.size:=Nat.le_of_lt dA.out.lt;go_wp2_with (first
      | (at_lookup;refine wpList_lookup_own_int _ rfl _ _ 243 rfl 2 2 .i64 zOb zNR zN2 (zO3 _) w2.heap.size n D rfl (dA.out.alloc _) _ _ rfl jA.out ?_;intro c0 bB gB)
      | (at_delete;refine wpList_delete_own _ rfl _ _ 243 2 rfl 2 zOb zNR _ w2.heap.size n D rfl (dA.out.alloc _) _ _ rfl jA.out ?_;intro w4 nA gA)
      | go_in)
     ·have fB:c0≠g' k:=by
       have h:(c0 != g' k)=true:=(by assumption);simpa using h
      go_ret;exact⟨zG.no (aA.out.no Ho.out cA.out fA (show D.atKey (zBT (f' k)) (zCo 0)=zCo c0 from bB) fB),bA⟩
     ·have he:c0=g' k:=by
       have h:(c0 != g' k)=false:=(by assumption);simpa using h
      subst he;have tA:D.atKey (zBT (f' k)) (zCo 0)=zCo (g' k):=bB;go_roundw
      case rel=>exact⟨k+1,_,by omega,by go_num,nA,aA.out.next cA.out fA tA,zr fA vA.out (aA.out.in cA.out fA tA),bA.grown gA.grown bA.size (fun j hj=>by cases hj;exact hz)⟩
      case measure=>simp[intOf];omega
    ·obtain rfl:k=n':=(by omega);go_wp2_with (first
      | (at_len;refine wpList_len_own _ rfl _ 243 rfl 2 2 zNR _ w2.heap.size n D rfl dA.out ?_)
      | go_in)
     go_ret;refine⟨⟨_,rfl,?_⟩,hb⟩;have He:=aA.out.end Ho.out cA.out vA.out;rw[<-He];simp
  ·have cA:=zT oA;clear oA;go_enter Tryz.func233,Tryz.ntmps233;go_wp2_with fail;refine(qh _ n lo hi f g _ Hp.out).mono ?_;rintro e w1 ⟨⟨t,rfl,ht⟩,bA⟩;obtain rfl:t=true:=ht.2 Ho.out;clear ht;go_wp2_with fail;refine(qh _ n' sA rA f' g' _ (pA.out.zO9 bA)).mono ?_;rintro e w2 ⟨⟨t,rfl,ht⟩,kA⟩;obtain rfl:t=false:=zW ht cA.out;have iA:=zA bA kA;clear ht bA kA;go_wp2;go_ret;exact⟨zG.no fun h=>cA.out h.2.1,iA⟩
 ·have Ho:=zT ho;clear ho;go_enter Tryz.func233,Tryz.ntmps233;go_wp2_with fail;refine(qh _ n lo hi f g _ Hp.out).mono ?_;rintro e w1 ⟨⟨t,rfl,ht⟩,bA⟩;obtain rfl:t=false:=zW ht Ho.out;clear ht;go_wp2;go_ret;exact⟨zG.no fun h=>Ho.out h.1,bA⟩
end Go.Proofs.YtmgeglgboadfiaaGreatDoor
