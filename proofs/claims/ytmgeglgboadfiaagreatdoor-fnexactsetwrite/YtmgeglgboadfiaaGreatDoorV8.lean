/- What impl.membersOf answers: the snapshots and the sets, with what both have. -/
import Derived.Test.YtmgeglgboadfiaaGreatDoorV7
set_option linter.unusedVariables false
set_option maxRecDepth 20000
set_option maxHeartbeats 4000000
namespace Go.Proofs.YtmgeglgboadfiaaGreatDoor
open Go.RowKit Go.Maps
def zNh(vd:Value)(m:zE6):List Value:=[.int .i64 m.zRh,.int .i64 m.time,.int .i64 m.rs,.int .i64 m.rb,vd]
def mrow(W:zH)(vd:Nat->Value):Nat->List Value
 | 0=>[]
 | k+1=>mrow W vd k ++ zNh (vd k) (zO W k)
theorem zGL(W:zH)(vd:Nat->Value):∀n,(mrow W vd n).length=n*5
 | 0=>rfl
 | n+1=>by simp[mrow,zGL W vd n,zNh];omega
theorem zDP{W:zH}{vd:Nat->Value}:∀{n i j:Nat},i<n->j<5->(mrow W vd n)[i*5+j]?=(zNh (vd i) (zO W i))[j]?
 | 0,i,j,hi,_=>absurd hi (Nat.not_lt_zero _)
 | n+1,i,j,hi,hj=>by
  unfold mrow;by_cases e:i=n
  ·subst e;rw[List.getElem?_append_right (by rw[zGL];omega),zGL,show i*5+j - i*5=j by omega]
  ·rw[List.getElem?_append_left (by rw[zGL];omega),zDP (by omega) hj]
def zIZ(w:World)(lo hi:Nat)(W:zH)(vd:Nat->Value):Prop:=∀i,i<zq W->zU w lo hi (vd i) (zO W i).dn (zO W i).ds (zO W i).db
def zFW(w:World)(base:Nat)(v:Value)(W:zH)(vd:Nat->Value)(n:Nat):Prop:=w.ownsRow base 224 5 v n (mrow W vd n)
theorem zFW.zRX{w w1:World}{base:Nat}{v:Value}{W:zH}{vd:Nat->Value}{n:Nat}(h:zFW w base v W vd n)(hb:Below w.heap.size w w1):zFW w1 base v W vd n:=
 h.kept (yt hb none) (by cases v.ownBlock<;>simp)
theorem zFW.lt{w:World}{base:Nat}{v:Value}{W:zH}{vd:Nat->Value}{n:Nat}(h:zFW w base v W vd n){q:Nat}(hq:v.ownBlock=some q):base<=q/\q<w.heap.size:=by
 rcases h.2 with⟨rfl,_⟩ | ⟨g,bA,aA,rfl,hb,hg,_⟩
 ·simp[Value.ownBlock]at hq
 ·simp only[Value.ownBlock,Option.some.injEq]at hq;subst hq;exact⟨hb,(Array.getElem?_eq_some_iff.1 hg).1⟩
theorem zFW.next{w2:World}{base g aA:Nat}{W:zH}{vd:Nat->Value}{n:Nat}(h:w2.ownsRow base 224 5 (.slice (some ⟨g,0,none⟩) (n+1) aA) (n+1) (mrow W vd n ++ zNh (vd n) (zO W n))):zFW w2 base (.slice (some ⟨g,0,none⟩) (n+1) aA) W vd (n+1):=h
structure zFd (w:World) (lo hi:Nat) (v:Value) (W:zH) (vd:Nat->Value):Prop where
 form:∃a c,v = .slice a (zq W) c/\zq W<=c
 cells:∀i,i<zq W->∃g c,v = .slice (some ⟨g,0,none⟩) (zq W) c/\w.cell? ⟨g,i*5,none⟩=some (.int .i64 (zO W i).zRh)/\w.cell? ⟨g,i*5+1,none⟩=some (.int .i64 (zO W i).time)/\w.cell? ⟨g,i*5+2,none⟩=some (.int .i64 (zO W i).rs)/\w.cell? ⟨g,i*5+3,none⟩=some (.int .i64 (zO W i).rb)/\w.cell? ⟨g,i*5+4,none⟩=some (vd i)
 zRl:zIZ w lo hi W vd
theorem zFd.zRX{w w1:World}{lo hi:Nat}{v:Value}{W:zH}{vd:Nat->Value}(h:zFd w lo hi v W vd)(t:Below w.heap.size w w1):zFd w1 lo hi v W vd where
 form:=h.form
 cells:=fun i hi'=>by
  obtain⟨g,c,e,h0,h1,h2,h3,h4⟩:=h.cells i hi';exact⟨g,c,e,(t.cell (zD h0)).trans h0,(t.cell (zD h1)).trans h1,(t.cell (zD h2)).trans h2,(t.cell (zD h3)).trans h3,(t.cell (zD h4)).trans h4⟩
 zRl:=fun i hi'=>(h.zRl i hi').zRX t
theorem zFW.at{w:World}{base lo hi:Nat}{v:Value}{W:zH}{vd:Nat->Value}(h:zFW w base v W vd (zq W))(hd:zIZ w lo hi W vd):zFd w lo hi v W vd where
 form:=zY h
 cells:=fun i hi'=>by
  obtain⟨g,bA,e,dA,hb,cA,aA⟩:=qY h (by omega);refine⟨g,bA,e,?_,?_,?_,?_,?_⟩
  ·exact(aA (i*5) _ (by have:=zDP (W:=W) (vd:=vd) hi' (show 0<5 by omega);rw[Nat.add_zero]at this;rw[this];rfl)).1
  ·exact(aA (i*5+1) _ (by rw[zDP hi' (by omega)];rfl)).1
  ·exact(aA (i*5+2) _ (by rw[zDP hi' (by omega)];rfl)).1
  ·exact(aA (i*5+3) _ (by rw[zDP hi' (by omega)];rfl)).1
  ·exact(aA (i*5+4) _ (by rw[zDP hi' (by omega)];rfl)).1
 zRl:=hd
theorem zQT:(Tryz.prog.info? 224).map (fun i=>(i.zero,i.size,i.bytes))=some (some (.agg #[.int .i64 0,.int .i64 0,.int .i64 0,.int .i64 0,.slice none 0 0]),5,56):=by kernel_rfl
theorem zDN(v0 v1 v2 v3:Value)(lo hi:Nat)(W:zH)(w:World)(h:zk w lo hi v0 v1 v2 v3 W)(hs:W.sn<=8)(hp:W.pn<=20) :
  Calls Tryz.prog 181 #[zz v0 v1 v2 v3 W] w fun e w'=>∃v vd,e = .returned v/\zFd w' lo hi v W vd/\Below w.heap.size w w':=by
 have Hp:=zB h;obtain⟨m1,a,c,rfl,mc,-⟩:=id h.zRe;obtain⟨m2,a',c',rfl,dC,-⟩:=id h.zRg;unfold maxLen at m1 m2;obtain⟨vs,fB,iB⟩:=h.zRe.vals;obtain⟨vt,nB,mB⟩:=h.zRg.vals;have pB:∃vd:Nat->Value,(∀i,i<W.pn->vd i=vs i)/\(∀i,i<W.sn->vd (W.pn+i)=vt i)/\zIZ w lo hi W vd:=by
  refine⟨fun i=>if i<W.pn then vs i else vt (i - W.pn),fun i hi'=>if_pos hi',fun i hi'=>?_,fun i hi'=>?_⟩
  ·show(if W.pn+i<W.pn then vs (W.pn+i)else vt (W.pn+i - W.pn))=vt i;rw[if_neg (by omega),show W.pn+i - W.pn=i by omega]
  ·show zU w lo hi (if i<W.pn then vs i else vt (i - W.pn)) _ _ _;by_cases oA:i<W.pn
   ·rw[if_pos oA,qQ oA];exact fB i oA
   ·have e:=yF W (i - W.pn);rw[show W.pn+(i - W.pn)=i by omega]at e;rw[if_neg oA,e];unfold zq at hi';exact nB _ (by omega)
 obtain⟨vd,gB,jB,kB⟩:=pB;have oB:=zB iB;have vB:=zB mB;have aC:=zB gB;have rB:=zB jB;have tB:=zB kB;clear h fB iB nB mB gB jB kB;obtain⟨i0,lB,vA⟩:=Option.map_eq_some_iff.1 zQT;simp only[Prod.mk.injEq]at vA;have HI:=zB (And.intro lB vA);clear lB vA;have ha:=zC w (.cells #[v0,v1,.int .i64 W.time,.int .i64 W.next,.slice a' W.sn c',.slice a W.pn c] 37);have HB:=zB (zi.zRZ w v0 v1 (.int .i64 W.time) (.int .i64 W.next) (.slice a' W.sn c') (.slice a W.pn c) 37);obtain⟨⟨x0,-⟩,⟨x2,-⟩,⟨x4,-⟩,⟨x6,-⟩,⟨x8,-⟩,⟨rA,-⟩⟩:=HB.out;go_enter Tryz.func181,Tryz.ntmps181;go_wp2;clear x0 x2 x4 x6 x8 rA
 go_loopw [3,11] (fun v i wr=>∃k:Nat,k<=W.pn/\i = .int .i64 k/\zFW wr (w.heap.size+1) v W vd k/\zi wr w.heap.size v0 v1 (.int .i64 W.time) (.int .i64 W.next) (.slice a' W.sn c') (.slice a W.pn c)/\Below w.heap.size w wr) (fun _ i _=>W.pn - (intOf i).toNat)
 case atStart=>exact⟨0,Nat.zero_le _,rfl,World.ownsRow_nil _ _ _ _,HB.out,ha⟩
 case round=>
  clear HB ha;obtain⟨k,hk,rfl,fA,hX,hb⟩:=hrel;have dA:=zB fA;have HX:=zB hX;clear fA hX;by_cases jA:k<W.pn
  ·have cB:(k:Int)<(W.pn:Int):=(by omega);obtain⟨b,off,rfl,mA⟩:=oB.out k jA;have aA:=mA.zRX hb;rw[<-aC.out k jA]at aA;obtain⟨-,ad,cd,kA,-,-⟩:=id aA.zRl;have eB:=zB kA;rw[kA]at aA;clear kA mA;have iA:=zC wr (.cells #[.int .i64 (W.zRe k).id,.string (W.zRe k).name,.string (W.zRe k).set,.int .i64 (W.zRe k).zRh,.int .i64 (W.zRe k).time,.int .i64 (W.zRe k).rs,.int .i64 (W.zRe k).rb,.slice ad (W.zRe k).dn cd] 99);have pA:=zB (zCP.zRZ wr (.int .i64 (W.zRe k).id) (.string (W.zRe k).name) (.string (W.zRe k).set) (.int .i64 (W.zRe k).zRh) (.int .i64 (W.zRe k).time) (.int .i64 (W.zRe k).rs) (.int .i64 (W.zRe k).rb) (.slice ad (W.zRe k).dn cd) 99);have eA:=zC (wr.alloc (.cells #[.int .i64 (W.zRe k).id,.string (W.zRe k).name,.string (W.zRe k).set,.int .i64 (W.zRe k).zRh,.int .i64 (W.zRe k).time,.int .i64 (W.zRe k).rs,.int .i64 (W.zRe k).rb,.slice ad (W.zRe k).dn cd] 99)) (.cells #[.int .i64 (W.zRe k).zRh,.int .i64 (W.zRe k).time,.int .i64 (W.zRe k).rs,.int .i64 (W.zRe k).rb,.slice ad (W.zRe k).dn cd] 224);have HN:=zB (World.news_of_block (heap_alloc_last (wr.alloc (.cells #[.int .i64 (W.zRe k).id,.string (W.zRe k).name,.string (W.zRe k).set,.int .i64 (W.zRe k).zRh,.int .i64 (W.zRe k).time,.int .i64 (W.zRe k).rs,.int .i64 (W.zRe k).rb,.slice ad (W.zRe k).dn cd] 99)) (.cells #[.int .i64 (W.zRe k).zRh,.int .i64 (W.zRe k).time,.int .i64 (W.zRe k).rs,.int .i64 (W.zRe k).rb,.slice ad (W.zRe k).dn cd] 224)));have cA:=zB ((dA.out.zRX iA).zRX eA);have tA:=zB ((HX.out.zRX iA).zRX eA);have nA:=zA (zA hb iA) eA;have cC:=HX.out.1.lt;have bB:(wr.alloc (.cells #[.int .i64 (W.zRe k).id,.string (W.zRe k).name,.string (W.zRe k).set,.int .i64 (W.zRe k).zRh,.int .i64 (W.zRe k).time,.int .i64 (W.zRe k).rs,.int .i64 (W.zRe k).rb,.slice ad (W.zRe k).dn cd] 99)).heap.size=wr.heap.size+1:=World.size_alloc _ _;have bC:=eA.size;rw[bB]at HN;have q0:=aA.c0;have q1:=aA.c1;have q2:=aA.c2;have q3:=aA.c3;have q4:=aA.c4;have q5:=aA.c5;have q6:=aA.c6;have q7:=aA.c7;obtain⟨⟨⟨y0,-⟩,⟨y1,-⟩,⟨y2,-⟩,⟨y3,-⟩⟩,⟨y4,-⟩,⟨y5,-⟩,⟨y6,-⟩,⟨y7,-⟩⟩:=pA.out;clear aA iA eA dA HX;go_wp2_with (first
    | (at_builtin;refine wpList_append_lies _ rfl _ _ 220 rfl (w.heap.size+1) 224 i0 (.agg #[.int .i64 0,.int .i64 0,.int .i64 0,.int .i64 0,.slice none 0 0]) 5 56 (by kernel_rfl) HI.out.1 HI.out.2.1 HI.out.2.2.1 HI.out.2.2.2 rfl (by decide) _ _ _ rfl cA.out ⟨wr.heap.size+1,0,none⟩ 1 1 [.int .i64 (W.zRe k).zRh,.int .i64 (W.zRe k).time,.int .i64 (W.zRe k).rs,.int .i64 (W.zRe k).rb,.slice ad (W.zRe k).dn cd] rfl rfl HN.out (by simp[Value.oneCell']) (by decide) (by unfold maxLen;omega) (by omega) (by omega) _ rfl ?_;intro g' dB w8 gA bA sA aB)
    | go_in)
   go_roundw
   case rel=>
    have lA:∀q,Value.ownBlock _=some q->w.heap.size+1<=q:=fun q hq=>(cA.out.lt hq).1
    refine⟨k+1,by omega,by go_num,?_,tA.out.grown bA (fun q hq=>by have:=lA q hq;omega),nA.grown bA nA.size (fun q hq=>by have:=lA q hq;omega)⟩;refine zFW.next ?_;rw[qQ jA,eB.out];exact gA
   case measure=>simp[intOf];omega
  ·obtain rfl:k=W.pn:=(by omega);obtain⟨⟨x0,-⟩,⟨x2,-⟩,⟨x4,-⟩,⟨x6,-⟩,⟨x8,-⟩,⟨rA,-⟩⟩:=HX.out;go_wp2;clear x0 x2 x4 x6 x8 rA
   go_loopw [3,31] (fun v i wr=>∃k:Nat,k<=W.sn/\i = .int .i64 k/\zFW wr (w.heap.size+1) v W vd (W.pn+k)/\zi wr w.heap.size v0 v1 (.int .i64 W.time) (.int .i64 W.next) (.slice a' W.sn c') (.slice a W.pn c)/\Below w.heap.size w wr) (fun _ i _=>W.sn - (intOf i).toNat)
   case atStart=>exact⟨0,Nat.zero_le _,rfl,dA.out,HX.out,hb⟩
   case round=>
    clear HX hb dA hk jA;obtain⟨k,hk,rfl,fA,hX,hb⟩:=hrel;have dA:=zB fA;have HX:=zB hX;clear fA hX;by_cases jA:k<W.sn
    ·have cB:(k:Int)<(W.sn:Int):=(by omega);obtain⟨b,off,rfl,mA⟩:=vB.out k jA;have aA:=mA.zRX hb;rw[<-rB.out k jA]at aA;obtain⟨-,ad,cd,kA,-,-⟩:=id aA.zRl;have eB:=zB kA;rw[kA]at aA;clear kA mA;have iA:=zC wr (.cells #[.string (W.zRg k).name,.int .i64 (W.zRg k).origin,.int .i64 (W.zRg k).zRh,.int .i64 (W.zRg k).rs,.int .i64 (W.zRg k).rb,.slice ad (W.zRg k).dn cd] 67);have pA:=zB (zi.zRZ wr (.string (W.zRg k).name) (.int .i64 (W.zRg k).origin) (.int .i64 (W.zRg k).zRh) (.int .i64 (W.zRg k).rs) (.int .i64 (W.zRg k).rb) (.slice ad (W.zRg k).dn cd) 67);have sB:=zB (HX.out.zRX iA);have eA:=zC (wr.alloc (.cells #[.string (W.zRg k).name,.int .i64 (W.zRg k).origin,.int .i64 (W.zRg k).zRh,.int .i64 (W.zRg k).rs,.int .i64 (W.zRg k).rb,.slice ad (W.zRg k).dn cd] 67)) (.cells #[.int .i64 (W.zRg k).zRh,.int .i64 W.time,.int .i64 (W.zRg k).rs,.int .i64 (W.zRg k).rb,.slice ad (W.zRg k).dn cd] 224);have HN:=zB (World.news_of_block (heap_alloc_last (wr.alloc (.cells #[.string (W.zRg k).name,.int .i64 (W.zRg k).origin,.int .i64 (W.zRg k).zRh,.int .i64 (W.zRg k).rs,.int .i64 (W.zRg k).rb,.slice ad (W.zRg k).dn cd] 67)) (.cells #[.int .i64 (W.zRg k).zRh,.int .i64 W.time,.int .i64 (W.zRg k).rs,.int .i64 (W.zRg k).rb,.slice ad (W.zRg k).dn cd] 224)));have cA:=zB ((dA.out.zRX iA).zRX eA);have tA:=zB ((HX.out.zRX iA).zRX eA);have nA:=zA (zA hb iA) eA;have cC:=HX.out.1.lt;have bB:(wr.alloc (.cells #[.string (W.zRg k).name,.int .i64 (W.zRg k).origin,.int .i64 (W.zRg k).zRh,.int .i64 (W.zRg k).rs,.int .i64 (W.zRg k).rb,.slice ad (W.zRg k).dn cd] 67)).heap.size=wr.heap.size+1:=World.size_alloc _ _;have bC:=eA.size;rw[bB]at HN;have q0:=aA.c0;have q1:=aA.c1;have q2:=aA.c2;have q3:=aA.c3;have q4:=aA.c4;have q5:=aA.c5;obtain⟨⟨y0,-⟩,⟨y1,-⟩,⟨y2,-⟩,⟨y3,-⟩,⟨y4,-⟩,⟨y5,-⟩⟩:=pA.out;obtain⟨⟨z0,-⟩,⟨z2,-⟩,⟨z4,-⟩,⟨z6,-⟩,⟨z8,-⟩,⟨eC,-⟩⟩:=sB.out;clear aA iA eA dA HX;go_wp2_with (first
      | (at_builtin;refine wpList_append_lies _ rfl _ _ 220 rfl (w.heap.size+1) 224 i0 (.agg #[.int .i64 0,.int .i64 0,.int .i64 0,.int .i64 0,.slice none 0 0]) 5 56 (by kernel_rfl) HI.out.1 HI.out.2.1 HI.out.2.2.1 HI.out.2.2.2 rfl (by decide) _ _ _ rfl cA.out ⟨wr.heap.size+1,0,none⟩ 1 1 [.int .i64 (W.zRg k).zRh,.int .i64 W.time,.int .i64 (W.zRg k).rs,.int .i64 (W.zRg k).rb,.slice ad (W.zRg k).dn cd] rfl rfl HN.out (by simp[Value.oneCell']) (by decide) (by unfold maxLen;omega) (by omega) (by omega) _ rfl ?_;intro g' dB w8 gA bA sA aB)
      | go_in)
     go_roundw
     case rel=>
      have lA:∀q,Value.ownBlock _=some q->w.heap.size+1<=q:=fun q hq=>(cA.out.lt hq).1
      refine⟨k+1,by omega,by go_num,?_,tA.out.grown bA (fun q hq=>by have:=lA q hq;omega),nA.grown bA nA.size (fun q hq=>by have:=lA q hq;omega)⟩;show zFW w8 (w.heap.size+1) _ W vd (W.pn+k+1);refine zFW.next ?_;rw[yF,eB.out];exact gA
     case measure=>simp[intOf];omega
    ·obtain rfl:k=W.sn:=(by omega);go_wp2;go_ret;exact⟨_,vd,rfl,zFW.at dA.out (fun i hi'=>(tB.out i hi').zRX hb),hb⟩
def zEG(w:World)(b:Nat)(v0 v1 v2 v3 v4:Value):Prop:=zW w b 0 v0/\zW w b 1 v1/\zW w b 2 v2/\zW w b 3 v3/\zW w b 4 v4
theorem zEG.zRX{w w':World}{b:Nat}{v0 v1 v2 v3 v4:Value}(h:zEG w b v0 v1 v2 v3 v4)(t:Below w.heap.size w w'):zEG w' b v0 v1 v2 v3 v4:=⟨h.1.zRX t,h.2.1.zRX t,h.2.2.1.zRX t,h.2.2.2.1.zRX t,h.2.2.2.2.zRX t⟩
theorem zEG.zRZ(w:World)(v0 v1 v2 v3 v4:Value)(t:TypeId):zEG (w.alloc (.cells #[v0,v1,v2,v3,v4] t)) w.heap.size v0 v1 v2 v3 v4:=by
 have hb:(w.alloc (.cells #[v0,v1,v2,v3,v4] t)).heap[w.heap.size]?=some (.cells #[v0,v1,v2,v3,v4] t):=heap_alloc_new _ _;exact⟨zJ hb rfl,zJ hb rfl,zJ hb rfl,zJ hb rfl,zJ hb rfl⟩
def zCQ(W:zH):Prop:=∀i,i<zq W->(Lit.int .i64 (zO W i).zRh).wf=true
def zHh(W:zH)(i:Nat):Prop:=(zN W (zO W i).zRh).id=(zO W i).zRh
theorem zDn(v:Value)(s:zl)(w:World):(Instr.field 99 (yd v s) 0).run Tryz.prog w = .ok (.int .i64 s.id) w/\(Instr.field 99 (yd v s) 2).run Tryz.prog w = .ok (.string s.set) w/\(Instr.field 99 (yd v s) 3).run Tryz.prog w = .ok (.int .i64 s.zRh) w/\(Instr.field 99 (yd v s) 4).run Tryz.prog w = .ok (.int .i64 s.time) w:=by
 refine⟨?_,?_,?_,?_⟩<;>kernel_rfl
theorem zIM(v0 v1 v2 v3:Value)(lo hi:Nat)(W:zH)(A:Nat)(w:World)(h:zk w lo hi v0 v1 v2 v3 W)(hs:W.sn<=8)(hp:W.pn<=20)(hA:zBW w lo hi W A)(hD:zCU W)(nA:zCQ W) :
  Calls Tryz.prog 205 #[zz v0 v1 v2 v3 W,zGX A] w fun e w'=>zG (∀i,i<zq W->zHh W i) e/\Below w.heap.size w w':=by
 have Hp:=zB h;have HA:=zB hA;have HD:=zB hD;have pA:=zB nA;clear h hA hD nA;have ha:=zC w (.cells #[v0,v1,.int .i64 W.time,.int .i64 W.next,v2,v3] 37);obtain⟨⟨x0,-⟩,⟨x2,-⟩,⟨x4,-⟩,⟨x6,-⟩,⟨x8,-⟩,⟨oA,-⟩⟩:=zi.zRZ w v0 v1 (.int .i64 W.time) (.int .i64 W.next) v2 v3 37;go_enter Tryz.func205,Tryz.ntmps205;go_wp2_with fail;clear x0 x2 x4 x6 x8 oA;generalize w.alloc (.cells #[v0,v1,.int .i64 W.time,.int .i64 W.next,v2,v3] 37)=W0 at ha ⊢;refine(zDN v0 v1 v2 v3 lo hi W W0 (Hp.out.zRX ha) hs hp).mono ?_;rintro e w1 ⟨vm,vd,rfl,hm,jA⟩;have HM:=zB hm;have fA:=zA ha jA;obtain⟨am,cm,rfl,aB⟩:=id hm.form;have bB:zq W<=28:=by unfold zq;omega
 clear ha jA hm;go_wp2
 go_loopw [10] (fun i wr=>∃k:Nat,k<=zq W/\i = .int .i64 k/\(∀j,j<k->zHh W j)/\Below w1.heap.size w1 wr) (fun i _=>zq W - (intOf i).toNat)
 case atStart=>exact⟨0,Nat.zero_le _,rfl,fun j hj=>absurd hj (Nat.not_lt_zero _),Below.refl _ _⟩
 case round=>
  obtain⟨k,hk,rfl,bA,hb⟩:=hrel;have cA:=zB bA;clear bA;by_cases aA:k<zq W;rotate_left
  ·obtain rfl:k=zq W:=(by omega);go_wp2;go_ret;exact⟨zG.yes cA.out,zA fA hb⟩
  have rA:(k:Int)<(zq W:Int):=(by omega);obtain⟨g,cg,e,q0,q1,q2,q3,q4⟩:=(HM.out.zRX hb).cells k aA;obtain⟨-,ad,cd,lA,-,-⟩:=id ((HM.out.zRX hb).zRl k aA);rw[lA]at q4;cases e;have gA:=zC wr (.cells #[.int .i64 (zO W k).zRh,.int .i64 (zO W k).time,.int .i64 (zO W k).rs,.int .i64 (zO W k).rb,.slice ad (zO W k).dn cd] 224);have HV:=zB (zEG.zRZ wr (.int .i64 (zO W k).zRh) (.int .i64 (zO W k).time) (.int .i64 (zO W k).rs) (.int .i64 (zO W k).rb) (.slice ad (zO W k).dn cd) 224);have dA:=zB (HA.out.zRX (zA fA (zA hb gA)));have kA:=zA hb gA;have tA:=zB (pA.out k aA);have mA:=zB (show zHh W k↔(zN W (zO W k).zRh).id=(zO W k).zRh from Iff.rfl);clear lA gA;generalize zO W k=m at *;go_wp2_with fail;clear q0 q1 q2 q3 q4;generalize wr.alloc (.cells #[.int .i64 m.zRh,.int .i64 m.time,.int .i64 m.rs,.int .i64 m.rb,.slice ad m.dn cd] 224)=W2 at HV dA kA ⊢;generalize wr.heap.size=V at HV ⊢;obtain⟨⟨y0,-⟩,-⟩:=HV.out;go_region_held3 (fun w'=>w'.cell? ⟨V,0,none⟩=some (.int .i64 m.zRh)) (go_keep)
   (first | (go_at_call 190;refine(zBt lo hi W A m.zRh _ ?_ HD.out tA.out hp).mono ?_;(exact dA.out.zRX (Below.refl _ _).drew);rintro e w6 ⟨aa,ca,rfl,sA,eA⟩;have vA:=fun w=>(zDn (.slice aa (zN W m.zRh).dn ca) (zN W m.zRh) w).1;obtain⟨⟨z0,_⟩,_⟩:=HV.out.zRX (zK eA)))
  have iA:=qd kA eA;clear eA sA vA z0 y0 dA;by_cases he:(zN W m.zRh).id=m.zRh
  ·have hd:((zN W m.zRh).id != m.zRh)=false:=(by simp[he]);have He:=zB (mA.out.2 he);clear he;go_wp2;go_roundw
   case rel=>exact⟨k+1,by omega,by go_num,zo aA cA.out He.out,iA⟩
   case measure=>simp[intOf];omega
  ·have hd:((zN W m.zRh).id != m.zRh)=true:=(by simp[he]);have He:=zB (fun h=>he (mA.out.1 h));clear he;go_wp2;go_ret;exact⟨zG.no fun h=>He.out (h k aA),zA fA iA⟩
theorem zM9(v:Value)(n lo hi:Nat)(f g:Nat->Int)(x y:Int)(w:World)(h1:zU w lo hi v n f g) :
  Calls Tryz.prog 228 #[v,.agg #[.int .i64 x,.int .i64 y]] w fun e w'=>∃r:Int,e = .returned (.int .i64 r)/\(0<=r↔PIn n f g x y)/\Below w.heap.size w w':=by
 have Hp:=zB h1;obtain⟨m1,a,c,rfl,mc,-⟩:=id h1;unfold maxLen at m1;clear h1;have ha:=zC w (.cells #[.int .i64 x,.int .i64 y] 61);have HB:=zB (zc.zRZ w (.int .i64 x) (.int .i64 y) 61);go_enter Tryz.func228,Tryz.ntmps228;go_wp2
 go_loopw [8] (fun i wr=>∃k:Nat,k<=n/\i = .int .i64 k/\¬PIn k f g x y/\zc wr w.heap.size (.int .i64 x) (.int .i64 y)/\Below w.heap.size w wr) (fun i _=>n - (intOf i).toNat)
 case atStart=>exact⟨0,Nat.zero_le _,rfl,fun ⟨j,hj,_⟩=>absurd hj (Nat.not_lt_zero _),HB.out,ha⟩
 case round=>
  obtain⟨k,hk,rfl,cA,hX,hb⟩:=hrel;have bA:=zB cA;have HX:=zB hX;clear cA hX;obtain⟨⟨x0,x1⟩,⟨x2,x3⟩⟩:=HX.out;by_cases dA:k<n
  ·have eA:(k:Int)<(n:Int):=(by omega);obtain⟨b,off,rfl,q0,q1⟩:=(Hp.out.zRX hb).zRb dA;by_cases he:f k=x/\g k=y
   ·have H:=zB (show PIn n f g x y from⟨k,dA,he.1,he.2⟩);rw[he.1]at q0;rw[he.2]at q1;clear he;go_wp2
    go_quiet (fail)
    go_wp2;go_ret;exact⟨k,rfl,⟨fun _=>H.out,fun _=>by omega⟩,zg hb _⟩
   ·have H:=zB he;have e0:(x == f k)=false\/(x == f k)=true/\(y == g k)=false:=by
     by_cases h:f k=x
     ·right;refine⟨by simp[h],?_⟩;have:¬y=g k:=fun h'=>he ⟨h,h'.symm⟩
      simp[this]
     ·left;have:¬x=f k:=fun h'=>h h'.symm
      simp[this]
    clear he;rcases e0 with e0 | ⟨e0,e1⟩
    all_goals
     go_wp2
     go_quiet (fail)
     go_wp2;go_roundw
     case rel=>
      refine⟨k+1,by omega,by go_num,?_,HX.out.zRX (zg (Below.refl _ _) _),zg hb _⟩;rintro⟨j,hj,aA⟩;by_cases e:j=k
      ·subst e;exact H.out ⟨aA.1,aA.2⟩
      ·exact bA.out ⟨j,by omega,aA⟩
     case measure=>simp[intOf];omega
  ·obtain rfl:k=n:=(by omega);go_wp2;go_ret;exact⟨-1,rfl,⟨fun h=>absurd h (by decide),fun h=>absurd h bA.out⟩,hb⟩
theorem zE9(v:Value)(n lo hi:Nat)(f g:Nat->Int)(x y:Int)(w:World)(h1:zU w lo hi v n f g) :
  Calls Tryz.prog 220 #[v,.agg #[.int .i64 x,.int .i64 y]] w fun e w'=>zG (PIn n f g x y) e/\Below w.heap.size w w':=by
 have Hp:=zB h1;clear h1;have ha:=zC w (.cells #[.int .i64 x,.int .i64 y] 61);obtain⟨⟨x0,-⟩,⟨x2,-⟩⟩:=zc.zRZ w (.int .i64 x) (.int .i64 y) 61;go_enter Tryz.func220,Tryz.ntmps220;go_wp2_with fail;refine(zM9 v n lo hi f g x y _ (Hp.out.zRX ha)).mono ?_;rintro e w1 ⟨r,rfl,hr,aA⟩;have Hr:=zB hr;have hB:=zA ha aA;clear hr aA x0 x2 ha;go_wp2;go_ret;refine⟨⟨_,rfl,?_⟩,hB⟩;have:=Hr.out;simp only[decide_eq_true_eq];exact this
theorem zMC(v:Value)(n lo hi:Nat)(f g:Nat->Int)(x y:Int)(T:Nat)(w:World)(h1:zU w lo hi v n f g)(hT:w.cell? ⟨T,0,none⟩=some v) :
  Calls Tryz.prog 231 #[.agg #[.int .i64 x,.int .i64 y],.pointer (some ⟨T,0,none⟩)] w fun e w'=>zG (PIn n f g x y) e/\Below w.heap.size w w':=by
 have Hp:=zB h1;obtain⟨m1,a,c,rfl,mc,-⟩:=id h1;clear h1;have ha:=zC w (.cells #[.int .i64 x,.int .i64 y] 61);obtain⟨⟨x0,-⟩,⟨x2,-⟩⟩:=zc.zRZ w (.int .i64 x) (.int .i64 y) 61;have cA:=(ha.cell (p:=⟨T,0,none⟩) (zD hT)).trans hT;clear hT;go_enter Tryz.func231,Tryz.ntmps231;go_wp2_with fail;refine(zE9 _ n lo hi f g x y _ (Hp.out.zRX ha)).mono ?_;rintro e w1 ⟨⟨t1,rfl,bA⟩,aA⟩;have Ht:=zB bA;have hB:=zA ha aA;clear bA aA x0 x2 ha cA;go_wp2;go_ret;exact⟨⟨_,rfl,Ht.out⟩,hB⟩
theorem zND(v:Value)(n lo hi:Nat)(f g:Nat->Int)(x y:Int)(T:Nat)(w:World)(h1:zU w lo hi v n f g)(hT:w.cell? ⟨T,0,none⟩=some v) :
  Calls Tryz.prog 232 #[.agg #[.int .i64 x,.int .i64 y],.pointer (some ⟨T,0,none⟩)] w fun e w'=>zG (PIn n f g x y) e/\Below w.heap.size w w':=by
 have Hp:=zB h1;obtain⟨m1,a,c,rfl,mc,-⟩:=id h1;clear h1;have ha:=zC w (.cells #[.int .i64 x,.int .i64 y] 61);obtain⟨⟨x0,-⟩,⟨x2,-⟩⟩:=zc.zRZ w (.int .i64 x) (.int .i64 y) 61;have cA:=(ha.cell (p:=⟨T,0,none⟩) (zD hT)).trans hT;clear hT;go_enter Tryz.func232,Tryz.ntmps232;go_wp2_with fail;refine(zE9 _ n lo hi f g x y _ (Hp.out.zRX ha)).mono ?_;rintro e w1 ⟨⟨t1,rfl,bA⟩,aA⟩;have Ht:=zB bA;have hB:=zA ha aA;clear bA aA x0 x2 ha cA;go_wp2;go_ret;exact⟨⟨_,rfl,Ht.out⟩,hB⟩
theorem zBw(v0 v1 v2 v3:Value)(lo hi:Nat)(W:zH)(xs xb:Int)(w:World)(h:zk w lo hi v0 v1 v2 v3 W)(hR:zx W.zRd)(hT:qH W.zRd xs xb) :
  Calls Tryz.prog 226 #[zz v0 v1 v2 v3 W,.agg #[.int .i64 xs,.int .i64 xb]] w fun e w'=>∃v,e = .returned v/\zw w' w.heap.size v (zR W.zRd xs xb)/\Below w.heap.size w w':=by
 have Hp:=zB h;have HR:=zB hR;have HT:=zB (show Nil xs xb\/zr W.zRd xs xb from hT.imp id (fun h=>h.1.1));obtain⟨m0,a0,c0,rfl,eA,-⟩:=id h.zRd.1;clear h hR hT;have ha:=zC w (.cells #[.slice a0 W.zRd.n c0,v1,.int .i64 W.time,.int .i64 W.next,v2,v3] 37);have hB:=zi.zRZ w (.slice a0 W.zRd.n c0) v1 (.int .i64 W.time) (.int .i64 W.next) v2 v3 37;have hz:(w.alloc (.cells #[.slice a0 W.zRd.n c0,v1,.int .i64 W.time,.int .i64 W.next,v2,v3] 37)).heap.size=w.heap.size+1:=World.size_alloc _ _;have bA:=zC (w.alloc (.cells #[.slice a0 W.zRd.n c0,v1,.int .i64 W.time,.int .i64 W.next,v2,v3] 37)) (.cells #[.int .i64 xs,.int .i64 xb] 61);have hX:=zc.zRZ (w.alloc (.cells #[.slice a0 W.zRd.n c0,v1,.int .i64 W.time,.int .i64 W.next,v2,v3] 37)) (.int .i64 xs) (.int .i64 xb) 61;rw[hz]at hX;have aA:=zA ha bA;obtain⟨⟨x0,-⟩,⟨x2,-⟩,-⟩:=hB.zRX bA;obtain⟨⟨y0,-⟩,⟨y2,-⟩⟩:=hX;clear hB ha bA;go_enter Tryz.func226,Tryz.ntmps226;go_wp2_with fail;clear x0 x2 y0 y2;generalize (w.alloc (.cells #[.slice a0 W.zRd.n c0,v1,.int .i64 W.time,.int .i64 W.next,v2,v3] 37)).alloc (.cells #[.int .i64 xs,.int .i64 xb] 61)=W0 at aA ⊢;refine(zJX W.zRd HR.out _ lo hi xs xb W0 (Hp.out.zRd.1.zRX aA) HT.out).mono ?_;rintro e w1 ⟨v,rfl,hr,cA⟩;have Hr:=zB hr;have hB:=zA aA cA;have dA:=aA.size;clear hr cA;go_wp2;go_ret;exact⟨v,rfl,zw.mono Hr.out dA,hB⟩
theorem zFB(n:Int)(w:World):Calls Tryz.prog 187 #[.int .i64 n] w fun e w'=>zG (zCE n) e/\w'=w:=by
 by_cases h1:0<=n
 ·by_cases h2:n<=1000000
  ·go_enter Tryz.func187,Tryz.ntmps187;go_wp2;go_ret;exact⟨zG.yes ⟨h1,h2⟩,rfl⟩
  ·go_enter Tryz.func187,Tryz.ntmps187;go_wp2;go_ret;exact⟨zG.no fun h=>by have:=h.2;omega,rfl⟩
 ·go_enter Tryz.func187,Tryz.ntmps187;go_wp2;go_ret;exact⟨zG.no fun h=>by have:=h.1;omega,rfl⟩
theorem zM3(x y t:Int)(T:Nat)(w:World)(hT:w.cell? ⟨T,0,none⟩=some (.int .i64 t)):Calls Tryz.prog 189 #[.agg #[.int .i64 x,.int .i64 y],.pointer (some ⟨T,0,none⟩)] w fun e w'=>zG (t<y) e/\Below w.heap.size w w':=by
 have aA:=zC w (.cells #[.int .i64 x,.int .i64 y] 61);have bA:=(aA.cell (p:=⟨T,0,none⟩) (zD hT)).trans hT;by_cases h:t<y
 ·go_enter Tryz.func189,Tryz.ntmps189;go_wp2;go_ret;exact⟨⟨_,rfl,by simpa using h⟩,aA⟩
 ·go_enter Tryz.func189,Tryz.ntmps189;go_wp2;go_ret;exact⟨⟨_,rfl,by simpa using h⟩,aA⟩
def zDL(l l':List (Int×Int))(w w':World)(v v':Value):Prop:=zw w' w.heap.size v l/\zw w' w.heap.size v' l'/\(∀q,v.ownBlock=some q->v'.ownBlock≠some q)/\Below w.heap.size w w'
theorem zB9{w1 w2:World}{base g bA:Nat}{v v':Value}{l l':List (Int×Int)}{x y:Int}(h':zw w1 base v' l')(ha:∀q,v.ownBlock=some q->v'.ownBlock≠some q)
  (aA:w2.ownsRow base 61 2 (.slice (some ⟨g,0,none⟩) (l.length+1) bA) (l.length+1) (pcl l ++ [.int .i64 x,.int .i64 y])) (hg:w1.grownBy w2 v.ownBlock) (cA:v.ownBlock=some g\/g=w1.heap.size) :
  zw w2 base (.slice (some ⟨g,0,none⟩) (l.length+1) bA) (l ++ [(x,y)])/\zw w2 base v' l'/\(∀q,(Value.slice (some ⟨g,0,none⟩) (l.length+1) bA).ownBlock=some q->v'.ownBlock≠some q):=by
 refine⟨?_,h'.zRf hg (fun q hq e=>ha q e hq),fun q hq e=>?_⟩
 ·unfold zw;rw[zBD,List.length_append];exact aA
 ·simp only[Value.ownBlock,Option.some.injEq]at hq;subst hq;rcases cA with h | h
  ·exact ha _ h e
  ·have:=(h'.lt e).2;omega
theorem zPg(v:Value)(n lo hi T:Nat)(f g:Nat->Int)(t:Int)(w:World)(h1:zU w lo hi v n f g)(hn:n<=200)(hT:w.cell? ⟨T,0,none⟩=some (.int .i64 t)) :
  Calls Tryz.prog 188 #[v,.func (.func 189) #[] #[.pointer (some ⟨T,0,none⟩)]] w fun e w'=>∃vy vo,e = .returned (.tuple #[vy,vo])/\zDL (qZ f g t n) (zBi f g t n) w w' vy vo:=by
 have Hp:=zX h1;have HT:=zX hT;obtain⟨m1,a,c,rfl,mc,_⟩:=id h1;clear h1 hT;obtain⟨i0,rA,kA⟩:=Option.map_eq_some_iff.1 zA1;simp only[Prod.mk.injEq]at kA;have HI:=zX (And.intro rA kA);clear rA kA;go_enter Tryz.func188,Tryz.ntmps188;go_wp2
 go_loopw [6,7,12] (fun vy vo i wr=>∃k:Nat,k<=n/\i = .int .i64 k/\zDL (qZ f g t k) (zBi f g t k) w wr vy vo) (fun _ _ i _=>n - (intOf i).toNat)
 case atStart=>exact⟨0,Nat.zero_le _,rfl,zw.nil _ _,zw.nil _ _,fun q hq=>by simp[Value.ownBlock]at hq,Below.refl _ _⟩
 case round=>
  obtain⟨k,hk,rfl,hy,ho,vA,hb⟩:=hrel;have Hy:=zX hy;have Ho:=zX ho;have oA:=zX vA;have dB:=zCc f g t k;clear hy ho vA;by_cases cB:k<n
  ·have eB:(k:Int)<(n:Int):=(by omega);obtain⟨b,off,rfl,q0,q1⟩:=(Hp.out.zRX hb).zRb cB;have eA:=zC wr (.cells #[.int .i64 (f k),.int .i64 (g k)] 61);have HV:=zX (zc.zRZ wr (.int .i64 (f k)) (.int .i64 (g k)) 61);have jA:=zA hb eA;have sA:=zX ((jA.cell (p:=⟨T,0,none⟩) (zD HT.out)).trans HT.out);have gB:∀(fn:Fn) (first tA:Array Value) (w:World),(Instr.makeFunc fn first tA).run Tryz.prog w = .ok (.func fn first tA) w:=fun _ _ _ _=>rfl
   go_wp2_with fail;refine(zM3 (f k) (g k) t T _ sA.out).mono ?_;rintro e w1 ⟨⟨s,rfl,hs⟩,dA⟩;have aB:=zX ((Hy.out.zRX eA).zRX dA);have bB:=zX ((Ho.out.zRX eA).zRX dA);have fB:=zX (HV.out.zRX dA);have pA:=zA jA dA;clear dA jA eA Hy Ho HV q0 q1 sA;have jB:=pA.size;obtain⟨⟨x0,x1⟩,⟨x2,x3⟩⟩:=fB.out;have fA:=zC w1 (.cells #[.int .i64 (f k),.int .i64 (g k)] 61);have mA:=zX (aB.out.zRX fA);have iA:=zX (bB.out.zRX fA);have gA:=zA pA fA;have iB:(w1.alloc (.cells #[.int .i64 (f k),.int .i64 (g k)] 61)).heap.size=w1.heap.size+1:=World.size_alloc _ _;have HN:=zX (World.news_of_block (heap_alloc_last w1 (.cells #[.int .i64 (f k),.int .i64 (g k)] 61)));clear fA;by_cases hq:t<g k
   ·obtain rfl:s=true:=hs.2 hq;have ey:qZ f g t (k+1)=qZ f g t k ++ [(f k,g k)]:=if_pos hq;have eo:zBi f g t (k+1)=zBi f g t k:=if_pos hq;clear hs hq;go_wp2_with (first
     | (at_builtin;refine wpList_append_lies _ rfl _ _ 62 rfl w.heap.size 61 i0 (.agg #[.int .i64 0,.int .i64 0]) 2 16 (by kernel_rfl) HI.out.1 HI.out.2.1 HI.out.2.2.1 HI.out.2.2.2 rfl (by decide) _ _ _ rfl mA.out ⟨w1.heap.size,0,none⟩ 1 1 [.int .i64 (f k),.int .i64 (g k)] rfl rfl HN.out (by simp[Value.oneCell']) (by decide) (by unfold maxLen;omega) (by omega) (by omega) _ rfl ?_;intro g' nA w4 bA aA cA lA)
     | go_in)
    go_roundw
    case rel=>
     obtain⟨r1,r2,r3⟩:=zB9 iA.out oA.out bA aA cA;exact⟨k+1,by omega,by go_num,by rw[ey];exact r1,by rw[eo];exact r2,r3,gA.grown aA gA.size (fun q hq=>(mA.out.lt hq).1)⟩
    case measure=>simp[intOf];omega
   ·obtain rfl:s=false:=zQ hs hq;have ey:qZ f g t (k+1)=qZ f g t k:=if_neg hq;have eo:zBi f g t (k+1)=zBi f g t k ++ [(f k,g k)]:=if_neg hq;clear hs hq;go_wp2_with (first
     | (at_builtin;refine wpList_append_lies _ rfl _ _ 62 rfl w.heap.size 61 i0 (.agg #[.int .i64 0,.int .i64 0]) 2 16 (by kernel_rfl) HI.out.1 HI.out.2.1 HI.out.2.2.1 HI.out.2.2.2 rfl (by decide) _ _ _ rfl iA.out ⟨w1.heap.size,0,none⟩ 1 1 [.int .i64 (f k),.int .i64 (g k)] rfl rfl HN.out (by simp[Value.oneCell']) (by decide) (by unfold maxLen;omega) (by omega) (by omega) _ rfl ?_;intro g' nA w4 bA aA cA lA)
     | go_in)
    go_roundw
    case rel=>
     obtain⟨r1,r2,r3⟩:=zB9 mA.out (fun q h h'=>oA.out q h' h) bA aA cA;exact⟨k+1,by omega,by go_num,by rw[ey];exact r2,by rw[eo];exact r1,fun q h h'=>r3 q h' h,gA.grown aA gA.size (fun q hq=>(iA.out.lt hq).1)⟩
    case measure=>simp[intOf];omega
  ·obtain rfl:k=n:=(by omega);go_wp2
   go_ret2
   exact⟨_,_,rfl,Hy.out,Ho.out,oA.out,hb⟩
def zQ0(n:Nat)(f g:Nat->Int)(t:Int)(l:List (Int×Int)):Prop:=(qm n f g/\zCE t->l=qZ f g t n)/\(¬(qm n f g/\zCE t)->l = [])
def zQ9(n:Nat)(f g:Nat->Int)(t:Int)(l:List (Int×Int)):Prop:=(qm n f g/\zCE t->l=zBi f g t n)/\(¬(qm n f g/\zCE t)->l = [])
def zQd(n:Nat)(f g:Nat->Int)(t:Int)(w:World)(e:Ending)(w':World):Prop:=∃vy vo l l',e = .returned (.agg #[vy,vo])/\zQ0 n f g t l/\zQ9 n f g t l'/\zDL l l' w w' vy vo
theorem zA2(v:Value)(n lo hi:Nat)(f g:Nat->Int)(t:Int)(w:World)(h1:zU w lo hi v n f g) :
  Calls Tryz.prog 151 #[v,.int .i64 t] w (zQd n f g t w):=by
 have Hp:=zX h1;obtain⟨m1,a,c,rfl,mc,_⟩:=id h1;clear h1;have oA:∀(fn:Fn) (first kA:Array Value) (w:World),(Instr.makeFunc fn first kA).run Tryz.prog w = .ok (.func fn first kA) w:=fun _ _ _ _=>rfl
 have ha:=zC w (.cells #[.int .i64 t] 2);have jA:=zC (w.alloc (.cells #[.int .i64 t] 2)) (.cells #[.slice none 0 0,.slice none 0 0] 201);have hA:=zA ha jA;have HT:=zX (show zW ((w.alloc (.cells #[.int .i64 t] 2)).alloc (.cells #[.slice none 0 0,.slice none 0 0] 201)) w.heap.size 0 (.int .i64 t)from zW.zRX ⟨by rw[World.cell?_alloc_at _ _ _ _ rfl];rfl,World.frozen?_alloc_at _ _ _ _ rfl⟩ jA);have HR:=zX (zc.zRZ (w.alloc (.cells #[.int .i64 t] 2)) (.slice none 0 0) (.slice none 0 0) 201);rw[World.size_alloc]at HR;clear ha jA;by_cases ho:qm n f g
 ·have Ho:=zX ho;clear ho;by_cases hq:zCE t
  ·have Hq:=zX hq;clear hq;go_enter Tryz.func151,Tryz.ntmps151;go_wp2_with fail;generalize (w.alloc (.cells #[.int .i64 t] 2)).alloc (.cells #[.slice none 0 0,.slice none 0 0] 201)=W at HT HR hA ⊢;refine(qg _ n lo hi f g _ (Hp.out.zRX hA)).mono ?_;rintro e w1 ⟨⟨s,rfl,hs⟩,aA⟩;obtain rfl:s=true:=hs.2 Ho.out;have eA:=zX (HT.out.zRX aA);have dA:=zX (HR.out.zRX aA);have cA:=zA hA aA;clear hs aA hA HT HR;obtain⟨x0,x1⟩:=eA.out;go_wp2_with (first
    | (go_at_call 187;refine(zFB t _).mono ?_;rintro e w2 ⟨⟨s,rfl,hs⟩,rfl⟩;obtain rfl:s=true:=hs.2 Hq.out;clear hs)
    | fail)
   go_wp2_with fail;refine(zPg _ n lo hi w.heap.size f g t _ (Hp.out.zRX cA) Ho.out.1 eA.out.1).mono ?_;rintro e w3 ⟨vy,vo,rfl,bA⟩;have gA:=bA.2.2.2;have nA:=zY bA.1;have iA:=zY bA.2.1;obtain⟨ya,yc,rfl,_⟩:=nA;obtain⟨oa,oc,rfl,_⟩:=iA;have mA:=zX (dA.out.zRX gA);have HN:=zX bA;have fA:w.heap.size+1<w2.heap.size:=dA.out.1.lt;have lA:=zA cA gA;clear bA gA x0 x1 eA dA;obtain⟨⟨x0,x1⟩,⟨x2,x3⟩⟩:=mA.out;go_wp2;refine bodyPost_ret (v:=.agg #[.slice ya (qZ f g t n).length yc,.slice oa (zBi f g t n).length oc]) (by simp[results,Tryz.results151,go_sem, *]) rfl ?_;refine⟨_,_,qZ f g t n,zBi f g t n,rfl,⟨fun _=>rfl,fun h=>absurd ⟨Ho.out,Hq.out⟩ h⟩,⟨fun _=>rfl,fun h=>absurd ⟨Ho.out,Hq.out⟩ h⟩,?_,?_,HN.out.2.2.1,(lA.setCell (by show w.heap.size<=w.heap.size+1;omega) _).setCell (by show w.heap.size<=w.heap.size+1;omega) _⟩
   ·exact(((zw.put HN.out.1 fA _).put fA _)).mono cA.size
   ·exact(((zw.put HN.out.2.1 fA _).put fA _)).mono cA.size
  ·have Hq:=zX hq;clear hq;go_enter Tryz.func151,Tryz.ntmps151;go_wp2_with fail;generalize (w.alloc (.cells #[.int .i64 t] 2)).alloc (.cells #[.slice none 0 0,.slice none 0 0] 201)=W at HT HR hA ⊢;refine(qg _ n lo hi f g _ (Hp.out.zRX hA)).mono ?_;rintro e w1 ⟨⟨s,rfl,hs⟩,aA⟩;obtain rfl:s=true:=hs.2 Ho.out;have eA:=zX (HT.out.zRX aA);have dA:=zX (HR.out.zRX aA);have cA:=zA hA aA;clear hs aA hA HT HR;obtain⟨x0,x1⟩:=eA.out;obtain⟨⟨y0,y1⟩,⟨y2,y3⟩⟩:=dA.out;go_wp2_with (first
    | (go_at_call 187;refine(zFB t _).mono ?_;rintro e w2 ⟨⟨s,rfl,hs⟩,rfl⟩;obtain rfl:s=false:=zQ hs Hq.out;clear hs)
    | fail)
   go_wp2;refine bodyPost_ret (v:=.agg #[.slice none 0 0,.slice none 0 0]) (by simp[results,Tryz.results151,go_sem, *]) rfl ?_;exact⟨_,_,[],[],rfl,⟨fun h=>absurd h.2 Hq.out,fun _=>rfl⟩,⟨fun h=>absurd h.2 Hq.out,fun _=>rfl⟩,zw.nil _ _,zw.nil _ _,fun q hq=>by simp[Value.ownBlock]at hq,(cA.setCell (by show w.heap.size<=w.heap.size+1;omega) _).setCell (by show w.heap.size<=w.heap.size+1;omega) _⟩
 ·have Ho:=zX ho;clear ho;go_enter Tryz.func151,Tryz.ntmps151;go_wp2_with fail;generalize (w.alloc (.cells #[.int .i64 t] 2)).alloc (.cells #[.slice none 0 0,.slice none 0 0] 201)=W at HT HR hA ⊢;refine(qg _ n lo hi f g _ (Hp.out.zRX hA)).mono ?_;rintro e w1 ⟨⟨s,rfl,hs⟩,aA⟩;obtain rfl:s=false:=zQ hs Ho.out;have dA:=zX (HR.out.zRX aA);have cA:=zA hA aA;clear hs aA hA HT HR;obtain⟨⟨y0,y1⟩,⟨y2,y3⟩⟩:=dA.out;go_wp2;refine bodyPost_ret (v:=.agg #[.slice none 0 0,.slice none 0 0]) (by simp[results,Tryz.results151,go_sem, *]) rfl ?_;exact⟨_,_,[],[],rfl,⟨fun h=>absurd h.1 Ho.out,fun _=>rfl⟩,⟨fun h=>absurd h.1 Ho.out,fun _=>rfl⟩,zw.nil _ _,zw.nil _ _,fun q hq=>by simp[Value.ownBlock]at hq,(cA.setCell (by show w.heap.size<=w.heap.size+1;omega) _).setCell (by show w.heap.size<=w.heap.size+1;omega) _⟩
theorem zLU{l m:List (Int×Int)}{k:Nat}(hk:k<l.length)(h:(zf l k,zh l k)∈m):qO (l.take (k+1)) m=qO (l.take k) m ++ [(zf l k,zh l k)]:=by
 unfold zf zh at h ⊢;rw[yD hk]at h ⊢;unfold qO;rw[List.take_succ_eq_append_getElem hk,List.filter_append,List.filter_cons];simp only[List.filter_nil];rw[if_pos (by simp;exact h)]
theorem zNo{l m:List (Int×Int)}{k:Nat}(hk:k<l.length)(h:(zf l k,zh l k)∉m):qO (l.take (k+1)) m=qO (l.take k) m:=by
 unfold zf zh at h;rw[yD hk]at h;unfold qO;rw[List.take_succ_eq_append_getElem hk,List.filter_append,List.filter_cons];simp only[List.filter_nil];rw[if_neg (by simp;exact h),List.append_nil]
theorem zL6(l m:List (Int×Int))(k:Nat):(qO (l.take k) m).length<=k/\(zAV (l.take k) m).length<=k:=by
 refine⟨?_,zML l m k⟩;unfold qO;exact Nat.le_trans (List.length_filter_le _ _) (by rw[List.length_take];omega)
theorem zDG(v v2:Value)(lo hi cB vA T:Nat)(l m:List (Int×Int))(w:World)(h1:zU w lo hi v l.length (zf l) (zh l))(hn:l.length<=200)(h2:zU w cB vA v2 m.length (zf m) (zh m))(hT:w.cell? ⟨T,0,none⟩=some v2) :
  Calls Tryz.prog 188 #[v,.func (.func 231) #[] #[.pointer (some ⟨T,0,none⟩)]] w fun e w'=>∃vy vo,e = .returned (.tuple #[vy,vo])/\zDL (qO l m) (zAV l m) w w' vy vo:=by
 have Hp:=zX h1;have HT:=zX hT;have lB:=zX h2;obtain⟨m1,a,c,rfl,mc,_⟩:=id h1;clear h1 hT h2;unfold maxLen at m1;obtain⟨i0,bB,mA⟩:=Option.map_eq_some_iff.1 zA1;simp only[Prod.mk.injEq]at mA;have HI:=zX (And.intro bB mA);clear bB mA;go_enter Tryz.func188,Tryz.ntmps188;go_wp2
 go_loopw [6,7,12] (fun vy vo i wr=>∃k:Nat,k<=l.length/\i = .int .i64 k/\zDL (qO (l.take k) m) (zAV (l.take k) m) w wr vy vo) (fun _ _ i _=>l.length - (intOf i).toNat)
 case atStart=>exact⟨0,Nat.zero_le _,rfl,zw.nil _ _,zw.nil _ _,fun q hq=>by simp[Value.ownBlock]at hq,Below.refl _ _⟩
 case round=>
  obtain⟨k,hk,rfl,hy,ho,fB,hb⟩:=hrel;have Hy:=zX hy;have Ho:=zX ho;have rA:=zX fB;have jB:=zL6 l m k;clear hy ho fB;by_cases dA:k<l.length
  ·have kB:(k:Int)<(l.length:Int):=(by omega);obtain⟨b,off,rfl,q0,q1⟩:=(Hp.out.zRX hb).zRb dA;have gA:=zC wr (.cells #[.int .i64 (zf l k),.int .i64 (zh l k)] 61);have HV:=zX (zc.zRZ wr (.int .i64 (zf l k)) (.int .i64 (zh l k)) 61);have fA:=zA hb gA;have dB:=zX ((fA.cell (p:=⟨T,0,none⟩) (zD HT.out)).trans HT.out);have aB:=zX (lB.out.zRX fA);have nB:∀(fn:Fn) (first eB:Array Value) (w:World),(Instr.makeFunc fn first eB).run Tryz.prog w = .ok (.func fn first eB) w:=fun _ _ _ _=>rfl
   go_wp2_with fail;refine(zMC v2 m.length cB vA (zf m) (zh m) (zf l k) (zh l k) T _ aB.out dB.out).mono ?_;rintro e w1 ⟨⟨s,rfl,hs⟩,eA⟩;have gB:=zX ((Hy.out.zRX gA).zRX eA);have iB:=zX ((Ho.out.zRX gA).zRX eA);have mB:=zX (HV.out.zRX eA);have tA:=zA fA eA;clear eA fA gA Hy Ho HV q0 q1 dB aB;have pB:=tA.size;obtain⟨⟨x0,x1⟩,⟨x2,x3⟩⟩:=mB.out;have iA:=zC w1 (.cells #[.int .i64 (zf l k),.int .i64 (zh l k)] 61);have oA:=zX (gB.out.zRX iA);have kA:=zX (iB.out.zRX iA);have jA:=zA tA iA;have oB:(w1.alloc (.cells #[.int .i64 (zf l k),.int .i64 (zh l k)] 61)).heap.size=w1.heap.size+1:=World.size_alloc _ _;have HN:=zX (World.news_of_block (heap_alloc_last w1 (.cells #[.int .i64 (zf l k),.int .i64 (zh l k)] 61)));clear iA;by_cases hq:(zf l k,zh l k)∈m
   ·obtain rfl:s=true:=hs.2 (zBa.2 hq);have ey:=zX (zLU dA hq);have eo:=zX (zKd dA hq);clear hs hq;go_wp2_with (first
     | (at_builtin;refine wpList_append_lies _ rfl _ _ 62 rfl w.heap.size 61 i0 (.agg #[.int .i64 0,.int .i64 0]) 2 16 (by kernel_rfl) HI.out.1 HI.out.2.1 HI.out.2.2.1 HI.out.2.2.2 rfl (by decide) _ _ _ rfl oA.out ⟨w1.heap.size,0,none⟩ 1 1 [.int .i64 (zf l k),.int .i64 (zh l k)] rfl rfl HN.out (by simp[Value.oneCell']) (by decide) (by unfold maxLen;omega) (by omega) (by omega) _ rfl ?_;intro g' pA w4 bA aA cA nA)
     | go_in)
    go_roundw
    case rel=>
     obtain⟨r1,r2,r3⟩:=zB9 kA.out rA.out bA aA cA;exact⟨k+1,by omega,by go_num,by rw[ey.out];exact r1,by rw[eo.out];exact r2,r3,jA.grown aA jA.size (fun q hq=>(oA.out.lt hq).1)⟩
    case measure=>simp[intOf];omega
   ·obtain rfl:s=false:=zQ hs (fun h=>hq (zBa.1 h));have ey:=zX (zNo dA hq);have eo:=zX (zH9 dA hq);clear hs hq;go_wp2_with (first
     | (at_builtin;refine wpList_append_lies _ rfl _ _ 62 rfl w.heap.size 61 i0 (.agg #[.int .i64 0,.int .i64 0]) 2 16 (by kernel_rfl) HI.out.1 HI.out.2.1 HI.out.2.2.1 HI.out.2.2.2 rfl (by decide) _ _ _ rfl kA.out ⟨w1.heap.size,0,none⟩ 1 1 [.int .i64 (zf l k),.int .i64 (zh l k)] rfl rfl HN.out (by simp[Value.oneCell']) (by decide) (by unfold maxLen;omega) (by omega) (by omega) _ rfl ?_;intro g' pA w4 bA aA cA nA)
     | go_in)
    go_roundw
    case rel=>
     obtain⟨r1,r2,r3⟩:=zB9 oA.out (fun q h h'=>rA.out q h' h) bA aA cA;exact⟨k+1,by omega,by go_num,by rw[ey.out];exact r2,by rw[eo.out];exact r1,fun q h h'=>r3 q h' h,jA.grown aA jA.size (fun q hq=>(kA.out.lt hq).1)⟩
    case measure=>simp[intOf];omega
  ·obtain rfl:k=l.length:=(by omega);have lA:=Hy.out;have sA:=Ho.out;rw[List.take_length]at lA sA;have HY:=zX lA;have HO:=zX sA;clear lA sA Hy Ho;go_wp2
   go_ret2
   exact⟨_,_,rfl,HY.out,HO.out,rA.out,hb⟩
theorem zDw(v v2:Value)(lo hi cB vA T:Nat)(l m:List (Int×Int))(w:World)(h1:zU w lo hi v l.length (zf l) (zh l))(hn:l.length<=200)(h2:zU w cB vA v2 m.length (zf m) (zh m))(hT:w.cell? ⟨T,0,none⟩=some v2) :
  Calls Tryz.prog 188 #[v,.func (.func 232) #[] #[.pointer (some ⟨T,0,none⟩)]] w fun e w'=>∃vy vo,e = .returned (.tuple #[vy,vo])/\zDL (qO l m) (zAV l m) w w' vy vo:=by
 have Hp:=zX h1;have HT:=zX hT;have lB:=zX h2;obtain⟨m1,a,c,rfl,mc,_⟩:=id h1;clear h1 hT h2;unfold maxLen at m1;obtain⟨i0,bB,mA⟩:=Option.map_eq_some_iff.1 zA1;simp only[Prod.mk.injEq]at mA;have HI:=zX (And.intro bB mA);clear bB mA;go_enter Tryz.func188,Tryz.ntmps188;go_wp2
 go_loopw [6,7,12] (fun vy vo i wr=>∃k:Nat,k<=l.length/\i = .int .i64 k/\zDL (qO (l.take k) m) (zAV (l.take k) m) w wr vy vo) (fun _ _ i _=>l.length - (intOf i).toNat)
 case atStart=>exact⟨0,Nat.zero_le _,rfl,zw.nil _ _,zw.nil _ _,fun q hq=>by simp[Value.ownBlock]at hq,Below.refl _ _⟩
 case round=>
  obtain⟨k,hk,rfl,hy,ho,fB,hb⟩:=hrel;have Hy:=zX hy;have Ho:=zX ho;have rA:=zX fB;have jB:=zL6 l m k;clear hy ho fB;by_cases dA:k<l.length
  ·have kB:(k:Int)<(l.length:Int):=(by omega);obtain⟨b,off,rfl,q0,q1⟩:=(Hp.out.zRX hb).zRb dA;have gA:=zC wr (.cells #[.int .i64 (zf l k),.int .i64 (zh l k)] 61);have HV:=zX (zc.zRZ wr (.int .i64 (zf l k)) (.int .i64 (zh l k)) 61);have fA:=zA hb gA;have dB:=zX ((fA.cell (p:=⟨T,0,none⟩) (zD HT.out)).trans HT.out);have aB:=zX (lB.out.zRX fA);have nB:∀(fn:Fn) (first eB:Array Value) (w:World),(Instr.makeFunc fn first eB).run Tryz.prog w = .ok (.func fn first eB) w:=fun _ _ _ _=>rfl
   go_wp2_with fail;refine(zND v2 m.length cB vA (zf m) (zh m) (zf l k) (zh l k) T _ aB.out dB.out).mono ?_;rintro e w1 ⟨⟨s,rfl,hs⟩,eA⟩;have gB:=zX ((Hy.out.zRX gA).zRX eA);have iB:=zX ((Ho.out.zRX gA).zRX eA);have mB:=zX (HV.out.zRX eA);have tA:=zA fA eA;clear eA fA gA Hy Ho HV q0 q1 dB aB;have pB:=tA.size;obtain⟨⟨x0,x1⟩,⟨x2,x3⟩⟩:=mB.out;have iA:=zC w1 (.cells #[.int .i64 (zf l k),.int .i64 (zh l k)] 61);have oA:=zX (gB.out.zRX iA);have kA:=zX (iB.out.zRX iA);have jA:=zA tA iA;have oB:(w1.alloc (.cells #[.int .i64 (zf l k),.int .i64 (zh l k)] 61)).heap.size=w1.heap.size+1:=World.size_alloc _ _;have HN:=zX (World.news_of_block (heap_alloc_last w1 (.cells #[.int .i64 (zf l k),.int .i64 (zh l k)] 61)));clear iA;by_cases hq:(zf l k,zh l k)∈m
   ·obtain rfl:s=true:=hs.2 (zBa.2 hq);have ey:=zX (zLU dA hq);have eo:=zX (zKd dA hq);clear hs hq;go_wp2_with (first
     | (at_builtin;refine wpList_append_lies _ rfl _ _ 62 rfl w.heap.size 61 i0 (.agg #[.int .i64 0,.int .i64 0]) 2 16 (by kernel_rfl) HI.out.1 HI.out.2.1 HI.out.2.2.1 HI.out.2.2.2 rfl (by decide) _ _ _ rfl oA.out ⟨w1.heap.size,0,none⟩ 1 1 [.int .i64 (zf l k),.int .i64 (zh l k)] rfl rfl HN.out (by simp[Value.oneCell']) (by decide) (by unfold maxLen;omega) (by omega) (by omega) _ rfl ?_;intro g' pA w4 bA aA cA nA)
     | go_in)
    go_roundw
    case rel=>
     obtain⟨r1,r2,r3⟩:=zB9 kA.out rA.out bA aA cA;exact⟨k+1,by omega,by go_num,by rw[ey.out];exact r1,by rw[eo.out];exact r2,r3,jA.grown aA jA.size (fun q hq=>(oA.out.lt hq).1)⟩
    case measure=>simp[intOf];omega
   ·obtain rfl:s=false:=zQ hs (fun h=>hq (zBa.1 h));have ey:=zX (zNo dA hq);have eo:=zX (zH9 dA hq);clear hs hq;go_wp2_with (first
     | (at_builtin;refine wpList_append_lies _ rfl _ _ 62 rfl w.heap.size 61 i0 (.agg #[.int .i64 0,.int .i64 0]) 2 16 (by kernel_rfl) HI.out.1 HI.out.2.1 HI.out.2.2.1 HI.out.2.2.2 rfl (by decide) _ _ _ rfl kA.out ⟨w1.heap.size,0,none⟩ 1 1 [.int .i64 (zf l k),.int .i64 (zh l k)] rfl rfl HN.out (by simp[Value.oneCell']) (by decide) (by unfold maxLen;omega) (by omega) (by omega) _ rfl ?_;intro g' pA w4 bA aA cA nA)
     | go_in)
    go_roundw
    case rel=>
     obtain⟨r1,r2,r3⟩:=zB9 oA.out (fun q h h'=>rA.out q h' h) bA aA cA;exact⟨k+1,by omega,by go_num,by rw[ey.out];exact r2,by rw[eo.out];exact r1,fun q h h'=>r3 q h' h,jA.grown aA jA.size (fun q hq=>(kA.out.lt hq).1)⟩
    case measure=>simp[intOf];omega
  ·obtain rfl:k=l.length:=(by omega);have lA:=Hy.out;have sA:=Ho.out;rw[List.take_length]at lA sA;have HY:=zX lA;have HO:=zX sA;clear lA sA Hy Ho;go_wp2
   go_ret2
   exact⟨_,_,rfl,HY.out,HO.out,rA.out,hb⟩
theorem yf(v v':Value)(n lo hi n' lo' hi':Nat)(f g f' g':Nat->Int)(w:World)(h1:zU w lo hi v n f g)(h2:zU w lo' hi' v' n' f' g') :
  Calls Tryz.prog 233 #[v,v'] w fun e w'=>zG (zES n f g n' f' g') e/\Below w.heap.size w w':=by
 have Hp:=zX h1;have pA:=zX h2;obtain⟨m1,a,c,rfl,mc,_⟩:=id h1;obtain⟨m2,a',c',rfl,fB,_⟩:=id h2;unfold maxLen at m1 m2;clear h1 h2;by_cases ho:qm n f g
 ·have Ho:=zX ho;clear ho;by_cases oA:qm n' f' g'
  ·have cA:=zX oA;clear oA;go_enter Tryz.func233,Tryz.ntmps233;go_wp2_with fail;refine(qg _ n lo hi f g _ Hp.out).mono ?_;rintro e w1 ⟨⟨t,rfl,ht⟩,bA⟩;obtain rfl:t=true:=ht.2 Ho.out;clear ht;go_wp2_with fail;refine(qg _ n' lo' hi' f' g' _ (pA.out.zRX bA)).mono ?_;rintro e w2 ⟨⟨t,rfl,ht⟩,kA⟩;obtain rfl:t=true:=ht.2 cA.out;have iA:=zA bA kA;clear ht bA kA;go_wp2_with fail;refine(zFE _ n lo hi f g _ (Hp.out.zRX iA) Ho.out.1 Ho.out.2.1).mono ?_;rintro e w3 ⟨rfl,hm,bB⟩;have Hm:=zX hm;have aB:=zA iA bB;have hz:w.heap.size<=w2.heap.size:=iA.size;clear hm bB iA;go_wp2
   go_loopw [20] (fun i wr=>∃(k:Nat) (D:DataW Unit),k<=n'/\i = .int .i64 k/\zPq wr w2.heap.size n D/\zDW n f g f' k D/\(∀j,j<k->PIn n f g (f' j) (g' j))/\Below w.heap.size w wr) (fun i _=>n' - (intOf i).toNat)
   case atStart=>exact⟨0,_,Nat.zero_le _,rfl,Hm.out,zDW.start Ho.out f',fun j hj=>absurd hj (Nat.not_lt_zero _),aB⟩
   case round=>
    obtain⟨k,D,hk,rfl,mA,eA,tA,hb⟩:=hrel;have dA:=zX mA;have aA:=zX eA;have vA:=zX tA;clear mA eA tA Hm aB;by_cases fA:k<n'
    ·have dB:(k:Int)<(n':Int):=(by omega);obtain⟨b,off,rfl,q0,q1⟩:=(pA.out.zRX hb).zRb fA;have lA:keyOf Tryz.prog 2 (.int .i64 (f' k))=some (zB7 (f' k)):=keyOf_int_mk zQN (zHv (cA.out.2.1 k fA).1 (by have:=(cA.out.2.1 k fA).2.1;omega));have nA:=zX lA;clear lA;have bA:=hb.alloc hb.size (.cells #[.int .i64 (f' k),.int .i64 (g' k)] 61);have gB:w2.heap.size<=wr.heap.size:=Nat.le_of_lt dA.out.lt;go_wp2_with (first
      | (at_lookup;refine wpList_lookup_own_int _ rfl _ _ 243 rfl 2 2 .i64 zQz zP4 zQN (zRO _) w2.heap.size n D rfl (dA.out.alloc _) _ _ rfl nA.out ?_;intro c0 rA eB)
      | (at_delete;refine wpList_delete_own _ rfl _ _ 243 2 rfl 2 zQz zP4 _ w2.heap.size n D rfl (dA.out.alloc _) _ _ rfl nA.out ?_;intro w4 jA gA)
      | go_in)
     ·have cB:c0≠g' k:=by
       have h:(c0 != g' k)=true:=(by assumption);simpa using h
      go_ret;exact⟨zG.no (aA.out.no Ho.out cA.out fA (show D.atKey (zB7 (f' k)) (zDh 0)=zDh c0 from rA) cB),bA⟩
     ·have he:c0=g' k:=by
       have h:(c0 != g' k)=false:=(by assumption);simpa using h
      subst he;have sA:D.atKey (zB7 (f' k)) (zDh 0)=zDh (g' k):=rA;go_roundw
      case rel=>exact⟨k+1,_,by omega,by go_num,jA,aA.out.next cA.out fA sA,zo fA vA.out (aA.out.in cA.out fA sA),bA.grown gA.grown bA.size (fun j hj=>by cases hj;exact hz)⟩
      case measure=>simp[intOf];omega
    ·obtain rfl:k=n':=(by omega);go_wp2_with (first
      | (at_len;refine wpList_len_own _ rfl _ 243 rfl 2 2 zP4 _ w2.heap.size n D rfl dA.out ?_)
      | go_in)
     go_ret;refine⟨⟨_,rfl,?_⟩,hb⟩;have He:=aA.out.end Ho.out cA.out vA.out;rw[<-He];simp
  ·have cA:=zX oA;clear oA;go_enter Tryz.func233,Tryz.ntmps233;go_wp2_with fail;refine(qg _ n lo hi f g _ Hp.out).mono ?_;rintro e w1 ⟨⟨t,rfl,ht⟩,bA⟩;obtain rfl:t=true:=ht.2 Ho.out;clear ht;go_wp2_with fail;refine(qg _ n' lo' hi' f' g' _ (pA.out.zRX bA)).mono ?_;rintro e w2 ⟨⟨t,rfl,ht⟩,kA⟩;obtain rfl:t=false:=zQ ht cA.out;have iA:=zA bA kA;clear ht bA kA;go_wp2;go_ret;exact⟨zG.no fun h=>cA.out h.2.1,iA⟩
 ·have Ho:=zX ho;clear ho;go_enter Tryz.func233,Tryz.ntmps233;go_wp2_with fail;refine(qg _ n lo hi f g _ Hp.out).mono ?_;rintro e w1 ⟨⟨t,rfl,ht⟩,bA⟩;obtain rfl:t=false:=zQ ht Ho.out;clear ht;go_wp2;go_ret;exact⟨zG.no fun h=>Ho.out h.1,bA⟩
end Go.Proofs.YtmgeglgboadfiaaGreatDoor
