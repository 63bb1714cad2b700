/- A part of the proof. -/
import Derived.Test.YtbplmbafodlboaaGreatDoorC18
set_option linter.unusedVariables false
set_option maxRecDepth 20000
set_option maxHeartbeats 4000000
namespace Go.Proofs.YtbplmbafodlboaaGreatDoor
open Go.RowKit Go.Maps
def zP7(vd:Value)(s:zAV):Value:=.agg #[.string s.name,.int .i64 s.origin,.int .i64 s.zc2,.int .i64 s.rs,.int .i64 s.rb,vd]
def zDr(vd:Value)(s:zz):Value:=.agg #[.int .i64 s.id,.string s.name,.string s.set,.int .i64 s.zc2,.int .i64 s.time,.int .i64 s.rs,.int .i64 s.rb,vd]
def zQK(w:World)(lo hi n:Nat)(f:Nat->zAV)(vd:Nat->Value):Prop:=∀i,i<n->qo w lo hi (vd i) (f i).dn (f i).ds (f i).db
def zHf(w:World)(lo hi n:Nat)(f:Nat->zz)(vd:Nat->Value):Prop:=∀i,i<n->qo w lo hi (vd i) (f i).dn (f i).ds (f i).db
open Classical in
theorem zCl.vals{w:World}{lo hi:Nat}{a:Option Addr}{n c:Nat}{f:Nat->zAV}(h:zCl w lo hi (.slice a n c) n f):∃vd:Nat->Value,zQK w lo hi n f vd/\∀i,i<n->∃b off,a=some ⟨b,off,none⟩/\zDd w b (off+i*6) lo hi (vd i) (f i):=by
 have hx:∀i,∃v,i<n->∃b off,a=some ⟨b,off,none⟩/\zDd w b (off+i*6) lo hi v (f i):=fun i=>by
  by_cases aA:i<n
  ·obtain⟨b,off,vd,ha,hs⟩:=h.cells aA;exact⟨vd,fun _=>⟨b,off,ha,hs⟩⟩
  ·exact⟨undef,fun h=>absurd h aA⟩
 refine⟨fun i=>(hx i).choose,fun i aA=>?_,fun i aA=>(hx i).choose_spec aA⟩;obtain⟨b,off,_,hs⟩:=(hx i).choose_spec aA;exact hs.dead
open Classical in
theorem zBq.vals{w:World}{lo hi:Nat}{a:Option Addr}{n c:Nat}{f:Nat->zz}(h:zBq w lo hi (.slice a n c) n f):∃vd:Nat->Value,zHf w lo hi n f vd/\∀i,i<n->∃b off,a=some ⟨b,off,none⟩/\zC7 w b (off+i*8) lo hi (vd i) (f i):=by
 have hx:∀i,∃v,i<n->∃b off,a=some ⟨b,off,none⟩/\zC7 w b (off+i*8) lo hi v (f i):=fun i=>by
  by_cases aA:i<n
  ·obtain⟨b,off,vd,ha,hs⟩:=h.cells aA;exact⟨vd,fun _=>⟨b,off,ha,hs⟩⟩
  ·exact⟨undef,fun h=>absurd h aA⟩
 refine⟨fun i=>(hx i).choose,fun i aA=>?_,fun i aA=>(hx i).choose_spec aA⟩;obtain⟨b,off,_,hs⟩:=(hx i).choose_spec aA;exact hs.dead
theorem zYs:Tryz.prog.underlying 183=some (.map 9 72):=by kernel_rfl
theorem zYw:Tryz.prog.underlying 188=some (.map 2 75):=by kernel_rfl
theorem zWs:Tryz.prog.underlying 204=some (.map 205 2):=by kernel_rfl
def zEG(w:World)(W:zB)(M n:Nat)(vd:Nat->Value):Prop:=w.ownsMap Tryz.prog 9 zEu M n (putD (fun i=>zGz (W.zc1 i).name) (fun i=>zP7 (vd i) (W.zc1 i)) n)
def zE9(w:World)(W:zB)(M n:Nat)(vd:Nat->Value):Prop:=w.ownsMap Tryz.prog 2 zEu M n (putD (fun i=>zPX (W.zcy i).id) (fun i=>zDr (vd i) (W.zcy i)) n)
theorem zEG.zcw{w w':World}{W:zB}{M n:Nat}{vd:Nat->Value}(h:zEG w W M n vd)(t:Below w.heap.size w w'):zEG w' W M n vd:=h.kept (zCx t none) (by simp)
theorem zE9.zcw{w w':World}{W:zB}{M n:Nat}{vd:Nat->Value}(h:zE9 w W M n vd)(t:Below w.heap.size w w'):zE9 w' W M n vd:=h.kept (zCx t none) (by simp)
theorem zND(v0 v1 v2 v3:Value)(lo hi:Nat)(W:zB)(w:World)(h:zAF w lo hi v0 v1 v2 v3 W)(hn:W.sn<=8) :
  Calls Tryz.prog 138 #[zB8 v0 v1 v2 v3 W] w fun e w'=>∃vd,e = .returned (.map (some (w.heap.size+1)))/\zEG w' W (w.heap.size+1) W.sn vd/\zQK w lo hi W.sn W.zc1 vd/\Below w.heap.size w w':=by
 have Hp:=zC h;obtain⟨m1,a,c,rfl,mc,-⟩:=id h.zc1;unfold maxLen at m1;obtain⟨vd,rA,oA⟩:=h.zc1.vals;have vA:=zC rA;have tA:=zC oA;clear h rA oA;have ha:=zD w (.cells #[v0,v1,.int .i64 W.time,.int .i64 W.next,.slice a W.sn c,v3] 30);have HB:=zC (zAM.new w v0 v1 (.int .i64 W.time) (.int .i64 W.next) (.slice a W.sn c) v3 30);have kA:(w.alloc (.cells #[v0,v1,.int .i64 W.time,.int .i64 W.next,.slice a W.sn c,v3] 30)).heap.size=w.heap.size+1:=World.size_alloc _ _;have hm:=World.ownsMap_made (w.alloc (.cells #[v0,v1,.int .i64 W.time,.int .i64 W.next,.slice a W.sn c,v3] 30)) Tryz.prog 9 zEu;rw[kA]at hm;have HM:=zC hm;have lA:=zC (HB.out.zcw (zD _ (.map #[] 0)));have mA:=zC (zA ha (zD _ (.map #[] 0)));have fB:=@run_makeMap Tryz.prog;obtain⟨x0,x2,x4,x6,x8,eB⟩:=lA.out.c;clear hm;go_enter Tryz.func138,Tryz.ntmps138;go_wp2;clear x0 x2 x4 x6 x8 eB ha
 go_loopw [10] (fun i wr=>∃k:Nat,k<=W.sn/\i = .int .i64 k/\zEG wr W (w.heap.size+1) k vd/\Below w.heap.size w wr/\w.heap.size+2<=wr.heap.size) (fun i _=>W.sn - (intOf i).toNat)
 case atStart=>exact⟨0,Nat.zero_le _,rfl,HM.out,mA.out,by rw[World.size_alloc,kA];omega⟩
 case round=>
  clear HM lA mA HB kA;obtain⟨k,hk,rfl,eA,hb,hz⟩:=hrel;have cA:=zC eA;clear eA;by_cases bB:k<W.sn
  ·have cB:(k:Int)<(W.sn:Int):=(by omega);obtain⟨b,off,rfl,pA⟩:=tA.out k bB;have bA:=pA.zcw hb;obtain⟨-,ad,cd,jA,-,-⟩:=id bA.dead;have aB:=zC jA;rw[jA]at bA;clear jA pA;have gA:=zD wr (.cells #[.string (W.zc1 k).name,.int .i64 (W.zc1 k).origin,.int .i64 (W.zc1 k).zc2,.int .i64 (W.zc1 k).rs,.int .i64 (W.zc1 k).rb,.slice ad (W.zc1 k).dn cd] 72);have sA:=zC (zAM.new wr (.string (W.zc1 k).name) (.int .i64 (W.zc1 k).origin) (.int .i64 (W.zc1 k).zc2) (.int .i64 (W.zc1 k).rs) (.int .i64 (W.zc1 k).rb) (.slice ad (W.zc1 k).dn cd) 72);have nA:=zA hb gA;have q0:=bA.c0;have q1:=bA.c1;have q2:=bA.c2;have q3:=bA.c3;have q4:=bA.c4;have q5:=bA.c5;have iA:=zC (zT4 bA.zc5);obtain⟨⟨y0,y1⟩,⟨y2,y3⟩,⟨y4,y5⟩,⟨y6,y7⟩,⟨y8,y9⟩,⟨iB,jB⟩⟩:=sA.out;have dA:=zC (cA.out.zcw gA);have gB:=gA.size;clear bA gA;go_wp2_with (first
    | (at_mapUpdate;refine wpList_mapUpdate_own _ rfl _ _ _ 183 rfl 9 72 zbf zYs zEu (w.heap.size+1) k _ rfl dA.out (by unfold maxLen;omega) _ _ _ rfl rfl iA.out _ [] (zEL _) ?_;intro w1 fA aA)
    | go_in)
   go_roundw
   case rel=>
    refine⟨k+1,by omega,by go_num,?_,nA.grown aA nA.size (fun j hj=>by cases hj;omega),by have:=aA.size;omega⟩;unfold zEG putD zP7;rw[aB.out];exact fA
   case measure=>simp[intOf];omega
  ·obtain rfl:k=W.sn:=(by omega);go_wp2;go_ret;exact⟨vd,rfl,cA.out,vA.out,hb⟩
def zWg(n:Nat)(f:Nat->zz):Prop:=∀i,i<n->(Lit.int .i64 (f i).id).wf=true
theorem zNr(v0 v1 v2 v3:Value)(lo hi:Nat)(W:zB)(w:World)(h:zAF w lo hi v0 v1 v2 v3 W)(hn:W.pn<=20)(tA:zWg W.pn W.zcy) :
  Calls Tryz.prog 143 #[zB8 v0 v1 v2 v3 W] w fun e w'=>∃vd,e = .returned (.map (some (w.heap.size+1)))/\zE9 w' W (w.heap.size+1) W.pn vd/\zHf w lo hi W.pn W.zcy vd/\Below w.heap.size w w':=by
 have Hp:=zC h;have eB:=zC tA;obtain⟨m1,a,c,rfl,mc,-⟩:=id h.zcy;unfold maxLen at m1;obtain⟨vd,sA,oA⟩:=h.zcy.vals;have bB:=zC sA;have aB:=zC oA;clear h sA oA tA;have ha:=zD w (.cells #[v0,v1,.int .i64 W.time,.int .i64 W.next,v2,.slice a W.pn c] 30);have HB:=zC (zAM.new w v0 v1 (.int .i64 W.time) (.int .i64 W.next) v2 (.slice a W.pn c) 30);have kA:(w.alloc (.cells #[v0,v1,.int .i64 W.time,.int .i64 W.next,v2,.slice a W.pn c] 30)).heap.size=w.heap.size+1:=World.size_alloc _ _;have hm:=World.ownsMap_made (w.alloc (.cells #[v0,v1,.int .i64 W.time,.int .i64 W.next,v2,.slice a W.pn c] 30)) Tryz.prog 2 zEu;rw[kA]at hm;have HM:=zC hm;have lA:=zC (HB.out.zcw (zD _ (.map #[] 0)));have mA:=zC (zA ha (zD _ (.map #[] 0)));have iB:=@run_makeMap Tryz.prog;obtain⟨x0,x2,x4,x6,x8,gB⟩:=lA.out.c;clear hm;go_enter Tryz.func143,Tryz.ntmps143;go_wp2;clear x0 x2 x4 x6 x8 gB ha
 go_loopw [10] (fun i wr=>∃k:Nat,k<=W.pn/\i = .int .i64 k/\zE9 wr W (w.heap.size+1) k vd/\Below w.heap.size w wr/\w.heap.size+2<=wr.heap.size) (fun i _=>W.pn - (intOf i).toNat)
 case atStart=>exact⟨0,Nat.zero_le _,rfl,HM.out,mA.out,by rw[World.size_alloc,kA];omega⟩
 case round=>
  clear HM lA mA HB kA;obtain⟨k,hk,rfl,eA,hb,hz⟩:=hrel;have cA:=zC eA;clear eA;by_cases pA:k<W.pn
  ·have fB:(k:Int)<(W.pn:Int):=(by omega);obtain⟨b,off,rfl,rA⟩:=aB.out k pA;have bA:=rA.zcw hb;obtain⟨-,ad,cd,jA,-,-⟩:=id bA.dead;have cB:=zC jA;rw[jA]at bA;clear jA rA;have gA:=zD wr (.cells #[.int .i64 (W.zcy k).id,.string (W.zcy k).name,.string (W.zcy k).set,.int .i64 (W.zcy k).zc2,.int .i64 (W.zcy k).time,.int .i64 (W.zcy k).rs,.int .i64 (W.zcy k).rb,.slice ad (W.zcy k).dn cd] 75);have vA:=zC (zGO.new wr (.int .i64 (W.zcy k).id) (.string (W.zcy k).name) (.string (W.zcy k).set) (.int .i64 (W.zcy k).zc2) (.int .i64 (W.zcy k).time) (.int .i64 (W.zcy k).rs) (.int .i64 (W.zcy k).rb) (.slice ad (W.zcy k).dn cd) 75);have nA:=zA hb gA;have q0:=bA.c0;have q1:=bA.c1;have q2:=bA.c2;have q3:=bA.c3;have q4:=bA.c4;have q5:=bA.c5;have q6:=bA.c6;have q7:=bA.c7;have iA:=zC (zT3 (eB.out k pA));obtain⟨⟨⟨y0,-⟩,⟨y1,-⟩,⟨y2,-⟩,⟨y3,-⟩⟩,⟨y4,-⟩,⟨y5,-⟩,⟨y6,-⟩,⟨y7,-⟩⟩:=vA.out;have dA:=zC (cA.out.zcw gA);have jB:=gA.size;clear bA gA;go_wp2_with (first
    | (at_mapUpdate;refine wpList_mapUpdate_own _ rfl _ _ _ 188 rfl 2 75 zcC zYw zEu (w.heap.size+1) k _ rfl dA.out (by unfold maxLen;omega) _ _ _ rfl rfl iA.out _ [] (zEL _) ?_;intro w1 fA aA)
    | go_in)
   go_roundw
   case rel=>
    refine⟨k+1,by omega,by go_num,?_,nA.grown aA nA.size (fun j hj=>by cases hj;omega),by have:=aA.size;omega⟩;unfold zE9 putD zDr;rw[cB.out];exact fA
   case measure=>simp[intOf];omega
  ·obtain rfl:k=W.pn:=(by omega);go_wp2;go_ret;exact⟨vd,rfl,cA.out,bB.out,hb⟩
def zE5(n:Nat)(f:Nat->zz):Prop:=∀i,i<n->∀k,k<i->¬((f k).set=(f i).set/\(f k).name=(f i).name)
theorem zE5.iff{n:Nat}{f:Nat->zz}{key:Nat->Lit}(hk:∀i,i<n->keyOf Tryz.prog 205 (.agg #[.string (f i).set,.string (f i).name])=some (key i)):zIy n key↔zE5 n f:=by
 constructor
 ·intro h i hi k aA e;refine h i hi k aA ?_;have h1:=hk i hi;have h2:=hk k (by omega);rw[e.1,e.2,h1]at h2;exact(Option.some.inj h2).symm
 ·intro h i hi k aA e;have h1:=hk i hi;have h2:=hk k (by omega);rw[e]at h2;have:=zbg.inj h2 h1;simp only[Value.agg.injEq,Array.mk.injEq,List.cons.injEq,Value.string.injEq,and_true]at this;exact h i hi k aA this
theorem zMs(v:Value)(n lo hi:Nat)(f:Nat->zz)(w:World)(h:zBq w lo hi v n f)(hn:n<=20) :
  Calls Tryz.prog 140 #[v] w fun e w'=>zL (zE5 n f) e/\Below w.heap.size w w':=by
 have Hp:=zC h;obtain⟨m1,a,c,rfl,mc,-⟩:=id h;unfold maxLen at m1;have iA:∀i,∃l,WideAt.IsKeyLit l/\(i<n->keyOf Tryz.prog 205 (.agg #[.string (f i).set,.string (f i).name])=some l):=fun i=>by
  by_cases mA:i<n
  ·obtain⟨b,off,vd,_,hs⟩:=h.cells mA;obtain⟨l,hl⟩:=zZp hs.zc5.2 hs.zc5.1;exact⟨l,zbg.key hl,fun _=>hl⟩
  ·exact⟨.string [],trivial,fun h=>absurd h mA⟩
 obtain⟨key,nA,oA⟩:∃key:Nat->Lit,zGR key/\∀i,i<n->keyOf Tryz.prog 205 (.agg #[.string (f i).set,.string (f i).name])=some (key i):=⟨fun i=>(iA i).choose,fun i=>(iA i).choose_spec.1,fun i=>(iA i).choose_spec.2⟩;have sA:=zC nA;have kA:=zC oA;clear h iA nA oA;have HM:=zC (World.ownsMap_made w Tryz.prog 205 zEu);have aB:=@run_makeMap Tryz.prog;go_enter Tryz.func140,Tryz.ntmps140;go_wp2
 go_loopw [9] (fun i wr=>∃k:Nat,k<=n/\i = .int .i64 k/\wr.ownsMap Tryz.prog 205 zEu w.heap.size k (putD key (fun i=>.int .i64 (f i).id) k)/\Below w.heap.size w wr/\w.heap.size+1<=wr.heap.size) (fun i _=>n - (intOf i).toNat)
 case atStart=>exact⟨0,Nat.zero_le _,rfl,HM.out,zD _ _,by rw[World.size_alloc];omega⟩
 case round=>
  clear HM;obtain⟨k,hk,rfl,eA,hb,hz⟩:=hrel;have cA:=zC eA;clear eA;by_cases pA:k<n
  ·have vA:(k:Int)<(n:Int):=(by omega);obtain⟨b,off,vd,rfl,bA⟩:=(Hp.out.zcw hb).cells pA;obtain⟨-,ad,cd,rfl,-,-⟩:=id bA.dead;have gA:=zD wr (.cells #[.int .i64 (f k).id,.string (f k).name,.string (f k).set,.int .i64 (f k).zc2,.int .i64 (f k).time,.int .i64 (f k).rs,.int .i64 (f k).rb,.slice ad (f k).dn cd] 75);have rA:=zC (zGO.new wr (.int .i64 (f k).id) (.string (f k).name) (.string (f k).set) (.int .i64 (f k).zc2) (.int .i64 (f k).time) (.int .i64 (f k).rs) (.int .i64 (f k).rb) (.slice ad (f k).dn cd) 75);have lA:=zA hb gA;have q0:=bA.c0;have q1:=bA.c1;have q2:=bA.c2;have q3:=bA.c3;have q4:=bA.c4;have q5:=bA.c5;have q6:=bA.c6;have q7:=bA.c7;have jA:=zC (kA.out k pA);obtain⟨⟨⟨y0,-⟩,⟨y1,-⟩,⟨y2,-⟩,⟨y3,-⟩⟩,⟨y4,-⟩,⟨y5,-⟩,⟨y6,-⟩,⟨y7,-⟩⟩:=rA.out;have dA:=zC (cA.out.kept (zCx gA none) (by simp));have bB:=gA.size;clear bA gA;go_wp2_with (first
    | (at_mapUpdate;refine wpList_mapUpdate_own _ rfl _ _ _ 204 rfl 205 2 zbg zWs zEu w.heap.size k _ rfl dA.out (by unfold maxLen;omega) _ _ _ rfl rfl jA.out _ [] (zEL _) ?_;intro w1 fA aA)
    | go_in)
   go_roundw
   case rel=>exact⟨k+1,by omega,by go_num,fA,lA.grown aA lA.size (fun j hj=>by cases hj;omega),by have:=aA.size;omega⟩
   case measure=>simp[intOf];omega
  ·obtain rfl:k=n:=(by omega);have tA:=zC (zKB sA.out (fun i=>.int .i64 (f i).id) k);have HN:=zC (zE5.iff (f:=f) kA.out);go_wp2_with (first
    | (at_len;refine wpList_len_own _ rfl _ 204 rfl 205 2 zWs zEu w.heap.size k _ rfl cA.out ?_)
    | go_in)
   go_ret;refine⟨⟨_,rfl,?_⟩,hb⟩;have h1:=tA.out.2;have h2:=HN.out;simp only[beq_iff_eq,Int.natCast_inj];exact h1.trans h2
def zHL(f:Nat->zz):Nat->zz
 | 0=>zA9
 | k+1=>f k
def zLd(W:zB)(i:Nat):Prop:=zBW W (W.zcy i).set/\zDb (W.zcy i).name/\(W.zcy i).zc2<(W.zcy i).id/\Mid (zHL W.zcy i).id (W.zcy i).id W.next/\Mid (zHL W.zcy i).time (W.zcy i).time W.time
def zWp(W:zB):Prop:=W.pn<=20/\(∀i,i<W.pn->zLd W i)/\zE5 W.pn W.zcy
theorem zSC(w:World):(zeroValue 72).run Tryz.prog w = .ok (.agg #[.string ⟨#[]⟩,.int .i64 0,.int .i64 0,.int .i64 0,.int .i64 0,.slice none 0 0]) w:=by kernel_rfl
theorem zWO{W:zB}{vd:Nat->Value}(hd:∀i,i<W.sn->∃a n c,vd i = .slice a n c)(x:ByteArray):∃(s0:ByteArray) (i1 i2 i3 i4:Int) (a:Option Addr) (n c:Nat),(putD (fun i=>zGz (W.zc1 i).name) (fun i=>zP7 (vd i) (W.zc1 i)) W.sn).atKey (zGz x) (.held (.agg #[.string ⟨#[]⟩,.int .i64 0,.int .i64 0,.int .i64 0,.int .i64 0,.slice none 0 0])) = .held (.agg #[.string s0,.int .i64 i1,.int .i64 i2,.int .i64 i3,.int .i64 i4,.slice a n c]):=by
 have hk:zGR (fun i=>zGz (W.zc1 i).name):=fun i=>zQ1 _
 have:∀k,k<=W.sn->∃(s0:ByteArray) (i1 i2 i3 i4:Int) (a:Option Addr) (n c:Nat),(putD (fun i=>zGz (W.zc1 i).name) (fun i=>zP7 (vd i) (W.zc1 i)) k).atKey (zGz x) (.held (.agg #[.string ⟨#[]⟩,.int .i64 0,.int .i64 0,.int .i64 0,.int .i64 0,.slice none 0 0])) = .held (.agg #[.string s0,.int .i64 i1,.int .i64 i2,.int .i64 i3,.int .i64 i4,.slice a n c]):=by
  intro k
  induction k with
  | zero=>exact fun _=>⟨⟨#[]⟩,0,0,0,0,none,0,0,zKA hk _ (fun i hi=>absurd hi (Nat.not_lt_zero _)) _⟩
  | succ k ih=>
   intro aA;by_cases e:zGz (W.zc1 k).name=zGz x
   ·obtain⟨a,n,c,hv⟩:=hd k (by omega);refine⟨(W.zc1 k).name,(W.zc1 k).origin,(W.zc1 k).zc2,(W.zc1 k).rs,(W.zc1 k).rb,a,n,c,?_⟩;rw[<-e];refine(atKey_put_same (zE3 hk _ k).isMap (hk k) _ _).trans ?_;show DataW.held (zP7 (vd k) (W.zc1 k))=_;rw[hv];rfl
   ·obtain⟨s0,i1,i2,i3,i4,a,n,c,h⟩:=ih (by omega);exact⟨s0,i1,i2,i3,i4,a,n,c,(atKey_put_other (Ne.symm e) _ _).trans h⟩
 exact this W.sn (Nat.le_refl _)
theorem zYt{W:zB}{vd:Nat->Value}(x:ByteArray):Maps.has (putD (fun i=>zGz (W.zc1 i).name) (fun i=>zP7 (vd i) (W.zc1 i)) W.sn) (zGz x)=true↔zBW W x:=by
 rw[zHU (fun i=>zQ1 _)];constructor
 ·rintro⟨i,hi,e⟩;exact⟨i,hi,zXY e⟩
 ·rintro⟨i,hi,e⟩;exact⟨i,hi,by rw[e]⟩
abbrev put8(w:World)(b:Nat)(u0 u1 u2 u3 u4 u5 u6 u7:Value):World:=(((((((w.setCell ⟨b,0,none⟩ u0).setCell ⟨b,1,none⟩ u1).setCell ⟨b,2,none⟩ u2).setCell ⟨b,3,none⟩ u3).setCell ⟨b,4,none⟩ u4).setCell ⟨b,5,none⟩ u5).setCell ⟨b,6,none⟩ u6).setCell ⟨b,7,none⟩ u7
theorem zGO.put{w:World}{b:Nat}{v0 v1 v2 v3 v4 v5 v6 v7:Value}(h:zGO w b v0 v1 v2 v3 v4 v5 v6 v7)(u0 u1 u2 u3 u4 u5 u6 u7:Value):zGO (put8 w b u0 u1 u2 u3 u4 u5 u6 u7) b u0 u1 u2 u3 u4 u5 u6 u7:=by
 obtain⟨⟨h0,h1,h2,h3⟩,h4,h5,h6,h7⟩:=h;refine⟨⟨?_,?_,?_,?_⟩,?_,?_,?_,?_⟩
 ·exact(((((((h0.set _).other _ (Or.inr (by omega))).other _ (Or.inr (by omega))).other _ (Or.inr (by omega))).other _ (Or.inr (by omega))).other _ (Or.inr (by omega))).other _ (Or.inr (by omega))).other _ (Or.inr (by omega))
 ·exact(((((((h1.other _ (Or.inr (by omega))).set _).other _ (Or.inr (by omega))).other _ (Or.inr (by omega))).other _ (Or.inr (by omega))).other _ (Or.inr (by omega))).other _ (Or.inr (by omega))).other _ (Or.inr (by omega))
 ·exact(((((((h2.other _ (Or.inr (by omega))).other _ (Or.inr (by omega))).set _).other _ (Or.inr (by omega))).other _ (Or.inr (by omega))).other _ (Or.inr (by omega))).other _ (Or.inr (by omega))).other _ (Or.inr (by omega))
 ·exact(((((((h3.other _ (Or.inr (by omega))).other _ (Or.inr (by omega))).other _ (Or.inr (by omega))).set _).other _ (Or.inr (by omega))).other _ (Or.inr (by omega))).other _ (Or.inr (by omega))).other _ (Or.inr (by omega))
 ·exact(((((((h4.other _ (Or.inr (by omega))).other _ (Or.inr (by omega))).other _ (Or.inr (by omega))).other _ (Or.inr (by omega))).set _).other _ (Or.inr (by omega))).other _ (Or.inr (by omega))).other _ (Or.inr (by omega))
 ·exact(((((((h5.other _ (Or.inr (by omega))).other _ (Or.inr (by omega))).other _ (Or.inr (by omega))).other _ (Or.inr (by omega))).other _ (Or.inr (by omega))).set _).other _ (Or.inr (by omega))).other _ (Or.inr (by omega))
 ·exact(((((((h6.other _ (Or.inr (by omega))).other _ (Or.inr (by omega))).other _ (Or.inr (by omega))).other _ (Or.inr (by omega))).other _ (Or.inr (by omega))).other _ (Or.inr (by omega))).set _).other _ (Or.inr (by omega))
 ·exact(((((((h7.other _ (Or.inr (by omega))).other _ (Or.inr (by omega))).other _ (Or.inr (by omega))).other _ (Or.inr (by omega))).other _ (Or.inr (by omega))).other _ (Or.inr (by omega))).other _ (Or.inr (by omega))).set _
theorem zJ.put8(w:World)(b:Nat)(u0 u1 u2 u3 u4 u5 u6 u7:Value):zJ (fun k=>k=b) w (put8 w b u0 u1 u2 u3 u4 u5 u6 u7):=
 (((((((zJ.put w b 0 u0).trans (zJ.put _ b 1 u1)).trans (zJ.put _ b 2 u2)).trans (zJ.put _ b 3 u3)).trans (zJ.put _ b 4 u4)).trans (zJ.put _ b 5 u5)).trans (zJ.put _ b 6 u6)).trans (zJ.put _ b 7 u7)
theorem zEG.put8{w:World}{W:zB}{M n b:Nat}{vd:Nat->Value}(h:zEG w W M n vd)(hb:M≠b)(u0 u1 u2 u3 u4 u5 u6 u7:Value):zEG (Go.Proofs.YtbplmbafodlboaaGreatDoor.put8 w b u0 u1 u2 u3 u4 u5 u6 u7) W M n vd:=
 (((((((World.ownsMap.setCell h hb u0).setCell hb u1).setCell hb u2).setCell hb u3).setCell hb u4).setCell hb u5).setCell hb u6).setCell hb u7
theorem zSS{B:Nat}{w w':World}(h:Below B w w'){b:Nat}(hb:B<=b)(u0 u1 u2 u3 u4 u5 u6 u7:Value):Below B w (put8 w' b u0 u1 u2 u3 u4 u5 u6 u7):=
 (((((((h.setCell hb u0).setCell hb u1).setCell hb u2).setCell hb u3).setCell hb u4).setCell hb u5).setCell hb u6).setCell hb u7
theorem zNI(v0 v1 v2 v3:Value)(lo hi:Nat)(W:zB)(w:World)(h:zAF w lo hi v0 v1 v2 v3 W)(hs:W.sn<=8) :
  Calls Tryz.prog 115 #[zB8 v0 v1 v2 v3 W] w fun e w'=>zL (zWp W) e/\Below w.heap.size w w':=by
 have Hp:=zC h;obtain⟨m1,a,c,rfl,mc,-⟩:=id h.zcy;unfold maxLen at m1;clear h;have ha:=zD w (.cells #[v0,v1,.int .i64 W.time,.int .i64 W.next,v2,.slice a W.pn c] 30);have HB:=zC (zAM.new w v0 v1 (.int .i64 W.time) (.int .i64 W.next) v2 (.slice a W.pn c) 30);obtain⟨x0,x2,x4,x6,x8,iA⟩:=HB.out.c;by_cases hn:W.pn<=20;rotate_left
 ·have dC:(20:Int)<(W.pn:Int):=(by omega);go_enter Tryz.func115,Tryz.ntmps115;go_wp2;go_ret;exact⟨zL.no fun h=>hn h.1,ha⟩
 have dC:¬(20:Int)<(W.pn:Int):=by omega
 go_enter Tryz.func115,Tryz.ntmps115;go_wp2_with fail;clear x0 x2 x4 x6 x8 iA;generalize w.alloc (.cells #[v0,v1,.int .i64 W.time,.int .i64 W.next,v2,.slice a W.pn c] 30)=W0 at ha HB ⊢;refine(zND v0 v1 v2 _ lo hi W W0 (Hp.out.zcw ha) hs).mono ?_;rintro e w1 ⟨vd,rfl,gA,sB,iB⟩;have pB:∀i,i<W.sn->∃a n c,vd i = .slice a n c:=fun i bC=>by
  obtain⟨_,aa,cc,hv,_⟩:=sB i bC;exact⟨aa,_,cc,hv⟩
 have nA:=zC (zWO pB);have mA:=zC (zYt (W:=W) (vd:=vd));have rA:=zD w1 (.cells #[.int .i64 0,.string ⟨#[]⟩,.string ⟨#[]⟩,.int .i64 0,.int .i64 0,.int .i64 0,.int .i64 0,.slice none 0 0] 75);have cB:=zC ((HB.out.zcw iB).zcw rA);have sA:=zC (zGO.new w1 (.int .i64 0) (.string ⟨#[]⟩) (.string ⟨#[]⟩) (.int .i64 0) (.int .i64 0) (.int .i64 0) (.int .i64 0) (.slice none 0 0) 75);have tA:=zC (gA.zcw rA);have lB:=zC (zA (zA ha iB) rA);have nB:W0.heap.size+1<w1.heap.size:=gA.lt;have mB:=zC (show w.heap.size<W0.heap.size+1 by have:=HB.out.1.lt;omega);clear gA sB pB iB rA ha HB;obtain⟨x0,x2,x4,x6,x8,iA⟩:=cB.out.c;go_wp2;clear x0 x2 x4 x6 x8 iA;obtain⟨L,hL⟩:∃L,L=w1.heap.size:=⟨_,rfl⟩;rw[<-hL]at sA nB ⊢;obtain⟨M,hM⟩:∃M,M=W0.heap.size+1:=⟨_,rfl⟩;rw[<-hM]at tA nB mB ⊢;have fC:w.heap.size<L:=by have:=mB.out;omega
 go_loopw [18] (fun i wr=>∃(k:Nat) (al:Option Addr) (nl cl:Nat),k<=W.pn/\i = .int .i64 k/\(∀j,j<k->zLd W j)/\zGO wr L (.int .i64 (zHL W.zcy k).id) (.string (zHL W.zcy k).name) (.string (zHL W.zcy k).set) (.int .i64 (zHL W.zcy k).zc2) (.int .i64 (zHL W.zcy k).time) (.int .i64 (zHL W.zcy k).rs) (.int .i64 (zHL W.zcy k).rb) (.slice al nl cl)/\zAM wr w.heap.size v0 v1 (.int .i64 W.time) (.int .i64 W.next) v2 (.slice a W.pn c)/\zEG wr W M W.sn vd/\Below w.heap.size w wr) (fun i _=>W.pn - (intOf i).toNat)
 case atStart=>exact⟨0,none,0,0,Nat.zero_le _,rfl,fun j hj=>absurd hj (Nat.not_lt_zero _),sA.out,cB.out,tA.out,lB.out⟩
 case round=>
  clear sA cB tA lB hL hM;obtain⟨k,al,nl,cl,hk,rfl,oA,hV,hX,hM,hb⟩:=hrel;have lA:=zC oA;have HV:=zC hV;have HX:=zC hX;have HM:=zC hM;clear oA hV hX hM;obtain⟨x0,x2,x4,x6,x8,iA⟩:=HX.out.c;by_cases fA:k<W.pn
  ·have cC:(k:Int)<(W.pn:Int):=(by omega);obtain⟨b,off,iC,rfl,cA⟩:=(Hp.out.zcy.zcw hb).cells fA;obtain⟨-,ad,cd,rfl,-,-⟩:=id cA.dead;obtain⟨s0,i1,i2,i3,i4,sa,sn,sc,oB⟩:=nA.out (W.zcy k).set;have fB:=zC oB;have dA:=zC (zT4 cA.zc5.2);have eC:=cA.zc5.1;clear oB;have vB:wr.heap.size≠L:=(by have:=HV.out.1.1.lt;omega);have jA:=zD wr (.cells #[.int .i64 (W.zcy k).id,.string (W.zcy k).name,.string (W.zcy k).set,.int .i64 (W.zcy k).zc2,.int .i64 (W.zcy k).time,.int .i64 (W.zcy k).rs,.int .i64 (W.zcy k).rb,.slice ad (W.zcy k).dn cd] 75);have kA:=zD (wr.alloc (.cells #[.int .i64 (W.zcy k).id,.string (W.zcy k).name,.string (W.zcy k).set,.int .i64 (W.zcy k).zc2,.int .i64 (W.zcy k).time,.int .i64 (W.zcy k).rs,.int .i64 (W.zcy k).rb,.slice ad (W.zcy k).dn cd] 75)) (.cells #[.string s0,.int .i64 i1,.int .i64 i2,.int .i64 i3,.int .i64 i4,.slice sa sn sc] 72);have aB:=zC (zGO.new wr (.int .i64 (W.zcy k).id) (.string (W.zcy k).name) (.string (W.zcy k).set) (.int .i64 (W.zcy k).zc2) (.int .i64 (W.zcy k).time) (.int .i64 (W.zcy k).rs) (.int .i64 (W.zcy k).rb) (.slice ad (W.zcy k).dn cd) 75);have vA:=zC (HM.out.zcw jA);have pA:=zC (aB.out.zcw kA);have bB:=zC ((HV.out.zcw jA).zcw kA);have eB:=zC ((HX.out.zcw jA).zcw kA);have kB:=zC ((HM.out.zcw jA).zcw kA);have eA:=zA (zA hb jA) kA;have jB:((wr.alloc (.cells #[.int .i64 (W.zcy k).id,.string (W.zcy k).name,.string (W.zcy k).set,.int .i64 (W.zcy k).zc2,.int .i64 (W.zcy k).time,.int .i64 (W.zcy k).rs,.int .i64 (W.zcy k).rb,.slice ad (W.zcy k).dn cd] 75)).alloc (.cells #[.string s0,.int .i64 i1,.int .i64 i2,.int .i64 i3,.int .i64 i4,.slice sa sn sc] 72)).heap.size=wr.heap.size+2:=(by rw[World.size_alloc,World.size_alloc]);have q0:=cA.c0;have q1:=cA.c1;have q2:=cA.c2;have q3:=cA.c3;have q4:=cA.c4;have q5:=cA.c5;have q6:=cA.c6;have q7:=cA.c7;obtain⟨⟨⟨y0,-⟩,⟨y1,-⟩,⟨y2,-⟩,⟨y3,-⟩⟩,⟨y4,-⟩,⟨y5,-⟩,⟨y6,-⟩,⟨y7,-⟩⟩:=aB.out;obtain⟨⟨⟨z0,-⟩,⟨z1,-⟩,⟨z2,-⟩,⟨z3,-⟩⟩,⟨z4,-⟩,⟨z5,-⟩,⟨z6,-⟩,⟨z7,-⟩⟩:=pA.out;clear cA;by_cases bA:zBW W (W.zcy k).set;rotate_left
   ·have Hc:=zC (show Maps.has (putD (fun i=>zGz (W.zc1 i).name) (fun i=>zP7 (vd i) (W.zc1 i)) W.sn) (zGz (W.zcy k).set)=false by rw[Bool.eq_false_iff];exact fun h=>bA ((mA.out _).1 h));have Hn:=zC (show ¬zLd W k from fun h=>bA h.1);clear bA;go_wp2_with (first
     | (at_lookup;refine zEY _ rfl _ _ 183 rfl 9 72 zbf zYs (zSC _) M W.sn _ rfl vA.out _ _ rfl dA.out _ fB.out false Hc.out ?_)
     | go_in)
    go_ret;exact⟨zL.no fun h=>Hn.out (h.2.1 k fA),eA⟩
   have gB:=zC bA;have Hc:=zC ((mA.out _).2 bA);clear bA;go_wp2_with (first
    | (at_lookup;refine zEY _ rfl _ _ 183 rfl 9 72 zbf zYs (zSC _) M W.sn _ rfl vA.out _ _ rfl dA.out _ fB.out true Hc.out ?_)
    | fail)
   clear x0 x2 x4 x6 x8 iA y0 y1 y2 y3 y4 y5 y6 y7 z0 z1 z2 z3 z4 z5 z6 z7 q0 q1 q2 q3 q4 q5 q6 q7 aB vA HV HX HM hb jA kA dA fB Hc;generalize (wr.alloc (.cells #[.int .i64 (W.zcy k).id,.string (W.zcy k).name,.string (W.zcy k).set,.int .i64 (W.zcy k).zc2,.int .i64 (W.zcy k).time,.int .i64 (W.zcy k).rs,.int .i64 (W.zcy k).rb,.slice ad (W.zcy k).dn cd] 75)).alloc (.cells #[.string s0,.int .i64 i1,.int .i64 i2,.int .i64 i3,.int .i64 i4,.slice sa sn sc] 72)=W2 at pA bB eB kB eA jB ⊢;generalize wr.heap.size=V8 at pA vB ⊢;obtain⟨x0,x2,x4,x6,x8,iA⟩:=eB.out.c;obtain⟨⟨⟨z0,-⟩,⟨z1,-⟩,⟨z2,-⟩,⟨z3,-⟩⟩,⟨z4,-⟩,⟨z5,-⟩,⟨z6,-⟩,⟨z7,-⟩⟩:=pA.out;obtain⟨⟨⟨l0,m0⟩,⟨l1,n1⟩,⟨l2,n2⟩,⟨l3,n3⟩⟩,⟨l4,n4⟩,⟨l5,n5⟩,⟨l6,n6⟩,⟨l7,n7⟩⟩:=bB.out;refine(zJQ (W.zcy k).name _ eC).mono ?_;rintro e wn ⟨⟨tn,rfl,aA⟩,rfl⟩;by_cases hA:zDb (W.zcy k).name;rotate_left
   ·have Hn:=zC (show ¬zLd W k from fun h=>hA h.2.1);obtain rfl:tn=false:=yy aA hA;clear aA hA;go_wp2;go_ret;exact⟨zL.no fun h=>Hn.out (h.2.1 k fA),eA⟩
   have HA:=zC hA;obtain rfl:tn=true:=aA.2 hA;clear aA hA;by_cases hg:(W.zcy k).id<=(W.zcy k).zc2
   ·have Hn:=zC (show ¬zLd W k from fun h=>by have:=h.2.2.1;omega);go_wp2;go_ret;exact⟨zL.no fun h=>Hn.out (h.2.1 k fA),eA⟩
   have Hg:=zC (show(W.zcy k).zc2<(W.zcy k).id by omega);go_wp2_with fail;clear hg;refine(zKg _ _ _ _).mono ?_;rintro e wn ⟨⟨tn,rfl,aA⟩,rfl⟩;by_cases hB:Mid (zHL W.zcy k).id (W.zcy k).id W.next;rotate_left
   ·have Hn:=zC (show ¬zLd W k from fun h=>hB h.2.2.2.1);obtain rfl:tn=false:=yy aA hB;clear aA hB;go_wp2;go_ret;exact⟨zL.no fun h=>Hn.out (h.2.1 k fA),eA⟩
   have HB:=zC hB;obtain rfl:tn=true:=aA.2 hB;clear aA hB;go_wp2_with fail;refine(zKg _ _ _ _).mono ?_;rintro e wn ⟨⟨tn,rfl,aA⟩,rfl⟩;by_cases hB:Mid (zHL W.zcy k).time (W.zcy k).time W.time;rotate_left
   ·have Hn:=zC (show ¬zLd W k from fun h=>hB h.2.2.2.2);obtain rfl:tn=false:=yy aA hB;clear aA hB;go_wp2;go_ret;exact⟨zL.no fun h=>Hn.out (h.2.1 k fA),eA⟩
   have tB:=zC hB;obtain rfl:tn=true:=aA.2 hB;clear aA hB;go_wp2;go_roundw
   case rel=>exact⟨k+1,_,_,_,by omega,by go_num,yE fA lA.out ⟨gB.out,HA.out,Hg.out,HB.out,tB.out⟩,bB.out.put _ _ _ _ _ _ _ _,eB.out.zcx (zJ.put8 _ L _ _ _ _ _ _ _ _) (by omega),kB.out.put8 (by omega) _ _ _ _ _ _ _ _,zSS eA (by omega) _ _ _ _ _ _ _ _⟩
   case measure=>simp[intOf];omega
  ·obtain rfl:k=W.pn:=(by omega);go_wp2_with fail;clear x0 x2 x4 x6 x8 iA;refine(zMs _ W.pn lo hi W.zcy _ (Hp.out.zcy.zcw hb) hn).mono ?_;rintro e w6 ⟨⟨t6,rfl,rB⟩,aC⟩;have Ht:=zC rB;clear rB;go_wp2;go_ret;exact⟨⟨t6,rfl,Ht.out.trans ⟨fun hA=>⟨hn,lA.out,hA⟩,fun hA=>hA.2.2⟩⟩,zA hb aC⟩
def zFV(W:zB):Prop:=∀i,i<W.pn->∀j,j<i->(W.zcy j).id≠(W.zcy i).id
def zDY(w:World)(lo hi:Nat)(W:zB)(A:Nat):Prop:=∃M vd,zo w A 0 (.map (some M))/\zE9 w W M W.pn vd/\zHf w lo hi W.pn W.zcy vd
abbrev zJw(A:Nat):Value:=.func (.func 144) #[] #[.pointer (some ⟨A,0,none⟩)]
theorem zDY.zcw{w w':World}{lo hi:Nat}{W:zB}{A:Nat}(h:zDY w lo hi W A)(t:Below w.heap.size w w'):zDY w' lo hi W A:=by
 obtain⟨M,vd,h1,h2,h3⟩:=h;exact⟨M,vd,h1.zcw t,h2.zcw t,fun i aA=>(h3 i aA).zcw t⟩
theorem zWa(w:World):(zeroValue 75).run Tryz.prog w = .ok (.agg #[.int .i64 0,.string ⟨#[]⟩,.string ⟨#[]⟩,.int .i64 0,.int .i64 0,.int .i64 0,.int .i64 0,.slice none 0 0]) w:=by kernel_rfl
theorem zTS{W:zB}{w:World}{lo hi:Nat}{vd:Nat->Value}(hD:zFV W)(hd:zHf w lo hi W.pn W.zcy vd)(x:Int):∃a c,(putD (fun i=>zPX (W.zcy i).id) (fun i=>zDr (vd i) (W.zcy i)) W.pn).atKey (zPX x) (.held (.agg #[.int .i64 0,.string ⟨#[]⟩,.string ⟨#[]⟩,.int .i64 0,.int .i64 0,.int .i64 0,.int .i64 0,.slice none 0 0])) = .held (zDr (.slice a (zI W x).dn c) (zI W x))/\qo w lo hi (.slice a (zI W x).dn c) (zI W x).dn (zI W x).ds (zI W x).db:=by
 have hk:zGR (fun i=>zPX (W.zcy i).id):=fun i=>zXX _
 by_cases hx:∃k,zBD W x k
 ·obtain⟨k,aA⟩:=hx;rw[zBO aA];have hp:=hd k aA.1;obtain⟨_,a,c,hv,_⟩:=id hp;refine⟨a,c,?_,by rw[<-hv];exact hp⟩;have:=zP1 hk (fun i=>zDr (vd i) (W.zcy i)) (.held (.agg #[.int .i64 0,.string ⟨#[]⟩,.string ⟨#[]⟩,.int .i64 0,.int .i64 0,.int .i64 0,.int .i64 0,.slice none 0 0])) W.pn k aA.1 (fun j h1 h2 e=>hD j h2 k h1 (zQ0 e).symm);rw[aA.2.1]at this;rw[this,hv]
 ·have e:zI W x=zA9:=(by unfold zI;rw[dif_neg hx]);rw[e];refine⟨none,0,?_,⟨Nat.zero_le _,none,0,rfl,Nat.le_refl _,fun h=>absurd h (by simp[zA9])⟩⟩;refine zKA hk _ (fun i bA e2=>?_) _;exact hx (zKH (Nat.le_refl _) ⟨i,bA,zQ0 e2⟩)
theorem zEy(lo hi:Nat)(W:zB)(A:Nat)(x:Int)(w:World)(h:zDY w lo hi W A)(hD:zFV W)(hx:(Lit.int .i64 x).wf=true)(hn:W.pn<=20) :
  Calls Tryz.prog 144 #[.int .i64 x,.pointer (some ⟨A,0,none⟩)] w fun e w'=>∃a c,e = .returned (zDr (.slice a (zI W x).dn c) (zI W x))/\qo w lo hi (.slice a (zI W x).dn c) (zI W x).dn (zI W x).ds (zI W x).db/\Below w.heap.size w w':=by
 obtain⟨M,vd,hc,hm,hd⟩:=h;obtain⟨a,c,eA,hp⟩:=zTS hD hd x;have dA:=zC eA;have fA:=zC hp;have aA:=zC (zT3 hx);clear eA hp hd hx;unfold zDr at dA ⊢;generalize zI W x=S at *;have bA:=zD w (.cells #[.int .i64 0,.string ⟨#[]⟩,.string ⟨#[]⟩,.int .i64 0,.int .i64 0,.int .i64 0,.int .i64 0,.slice none 0 0] 75);have HM:=zC (hm.zcw bA);obtain⟨x0,-⟩:=hc.zcw bA;have cA:=zD w (.cells #[.int .i64 S.id,.string S.name,.string S.set,.int .i64 S.zc2,.int .i64 S.time,.int .i64 S.rs,.int .i64 S.rb,.slice a S.dn c] 75);obtain⟨⟨⟨y0,-⟩,⟨y1,-⟩,⟨y2,-⟩,⟨y3,-⟩⟩,⟨y4,-⟩,⟨y5,-⟩,⟨y6,-⟩,⟨y7,-⟩⟩:=zGO.new w (.int .i64 S.id) (.string S.name) (.string S.set) (.int .i64 S.zc2) (.int .i64 S.time) (.int .i64 S.rs) (.int .i64 S.rb) (.slice a S.dn c) 75;clear hm hc bA;go_enter Tryz.func144,Tryz.ntmps144;go_wp2_with (first
  | (at_lookup;refine zJn _ rfl _ _ 188 rfl 2 75 zcC zYw (zWa _) M W.pn _ rfl HM.out _ _ rfl aA.out _ dA.out ?_)
  | go_in)
 refine bodyPost_ret (v:=.agg #[.int .i64 S.id,.string S.name,.string S.set,.int .i64 S.zc2,.int .i64 S.time,.int .i64 S.rs,.int .i64 S.rb,.slice a S.dn c]) (by simp[results,Tryz.results144,go_sem,y0,y1,y2,y3,y4,y5,y6,y7]) rfl ⟨a,c,rfl,fA.out,cA⟩
theorem zQR(v0 v1 v2 v3:Value)(lo hi:Nat)(W:zB)(w:World)(h:zAF w lo hi v0 v1 v2 v3 W)(hn:W.pn<=20)(eA:zWg W.pn W.zcy) :
  Calls Tryz.prog 117 #[zB8 v0 v1 v2 v3 W] w fun e w'=>∃A,e = .returned (zJw A)/\zDY w' lo hi W A/\Below w.heap.size w w':=by
 have Hp:=zC h;clear h;have gA:∀(fn:Fn) (first cap:Array Value) (w:World),(Instr.makeFunc fn first cap).run Tryz.prog w = .ok (.func fn first cap) w:=fun _ _ _ _=>rfl
 have ha:=zD w (.cells #[v0,v1,.int .i64 W.time,.int .i64 W.next,v2,v3] 30);obtain⟨x0,x2,x4,x6,x8,fA⟩:=(zAM.new w v0 v1 (.int .i64 W.time) (.int .i64 W.next) v2 v3 30).c;go_enter Tryz.func117,Tryz.ntmps117;go_wp2_with fail;clear x0 x2 x4 x6 x8 fA;generalize w.alloc (.cells #[v0,v1,.int .i64 W.time,.int .i64 W.next,v2,v3] 30)=W0 at ha ⊢;refine(zNr v0 v1 v2 v3 lo hi W W0 (Hp.out.zcw ha) hn eA).mono ?_;rintro e w1 ⟨vd,rfl,hm,hd,bA⟩;have aA:=zD w1 (.cells #[.map (some (W0.heap.size+1))] 188);have hc:zo (w1.alloc (.cells #[.map (some (W0.heap.size+1))] 188)) w1.heap.size 0 (.map (some (W0.heap.size+1))):=zG (heap_alloc_new _ _) rfl;have HA:=zC (show zDY (w1.alloc (.cells #[.map (some (W0.heap.size+1))] 188)) lo hi W w1.heap.size from⟨_,vd,hc,hm.zcw aA,fun i dA=>((hd i dA).zcw bA).zcw aA⟩);have cA:=zA (zA ha bA) aA;clear hm hd bA aA hc;go_wp2;go_ret;exact⟨_,rfl,HA.out,cA⟩
def zUT(vd:Value)(m:zH2):List Value:=[.int .i64 m.zc2,.int .i64 m.time,.int .i64 m.rs,.int .i64 m.rb,vd]
def mrow(W:zB)(vd:Nat->Value):Nat->List Value
 | 0=>[]
 | k+1=>mrow W vd k ++ zUT (vd k) (zK W k)
theorem zJb(W:zB)(vd:Nat->Value):∀n,(mrow W vd n).length=n*5
 | 0=>rfl
 | n+1=>by simp[mrow,zJb W vd n,zUT];omega
theorem zF9{W:zB}{vd:Nat->Value}:∀{n i j:Nat},i<n->j<5->(mrow W vd n)[i*5+j]?=(zUT (vd i) (zK W i))[j]?
 | 0,i,j,hi,_=>absurd hi (Nat.not_lt_zero _)
 | n+1,i,j,hi,hj=>by
  unfold mrow;by_cases e:i=n
  ·subst e;rw[List.getElem?_append_right (by rw[zJb];omega),zJb,show i*5+j - i*5=j by omega]
  ·rw[List.getElem?_append_left (by rw[zJb];omega),zF9 (by omega) hj]
def zLW(w:World)(lo hi:Nat)(W:zB)(vd:Nat->Value):Prop:=∀i,i<memN W->qo w lo hi (vd i) (zK W i).dn (zK W i).ds (zK W i).db
def zIQ(w:World)(base:Nat)(v:Value)(W:zB)(vd:Nat->Value)(n:Nat):Prop:=w.ownsRow base 193 5 v n (mrow W vd n)
theorem zIQ.zcw{w w1:World}{base:Nat}{v:Value}{W:zB}{vd:Nat->Value}{n:Nat}(h:zIQ w base v W vd n)(hb:Below w.heap.size w w1):zIQ w1 base v W vd n:=
 h.kept (zCx hb none) (by cases v.ownBlock<;>simp)
theorem zIQ.lt{w:World}{base:Nat}{v:Value}{W:zB}{vd:Nat->Value}{n:Nat}(h:zIQ w base v W vd n){q:Nat}(hq:v.ownBlock=some q):base<=q/\q<w.heap.size:=by
 rcases h.2 with⟨rfl,_⟩ | ⟨g,cap,aA,rfl,hb,hg,_⟩
 ·simp[Value.ownBlock]at hq
 ·simp only[Value.ownBlock,Option.some.injEq]at hq;subst hq;exact⟨hb,(Array.getElem?_eq_some_iff.1 hg).1⟩
theorem zIQ.next{w2:World}{base g cap:Nat}{W:zB}{vd:Nat->Value}{n:Nat}(h:w2.ownsRow base 193 5 (.slice (some ⟨g,0,none⟩) (n+1) cap) (n+1) (mrow W vd n ++ zUT (vd n) (zK W n))):zIQ w2 base (.slice (some ⟨g,0,none⟩) (n+1) cap) W vd (n+1):=h
structure zIN (w:World) (lo hi:Nat) (v:Value) (W:zB) (vd:Nat->Value):Prop where
 zc4:∃a c,v = .slice a (memN W) c/\memN W<=c
 cells:∀i,i<memN W->∃g c,v = .slice (some ⟨g,0,none⟩) (memN W) c/\w.cell? ⟨g,i*5,none⟩=some (.int .i64 (zK W i).zc2)/\w.cell? ⟨g,i*5+1,none⟩=some (.int .i64 (zK W i).time)/\w.cell? ⟨g,i*5+2,none⟩=some (.int .i64 (zK W i).rs)/\w.cell? ⟨g,i*5+3,none⟩=some (.int .i64 (zK W i).rb)/\w.cell? ⟨g,i*5+4,none⟩=some (vd i)
 dead:zLW w lo hi W vd
theorem zIN.zcw{w w1:World}{lo hi:Nat}{v:Value}{W:zB}{vd:Nat->Value}(h:zIN w lo hi v W vd)(t:Below w.heap.size w w1):zIN w1 lo hi v W vd where
 zc4:=h.zc4
 cells:=fun i aA=>by
  obtain⟨g,c,e,h0,h1,h2,h3,h4⟩:=h.cells i aA;exact⟨g,c,e,(t.cell (zH h0)).trans h0,(t.cell (zH h1)).trans h1,(t.cell (zH h2)).trans h2,(t.cell (zH h3)).trans h3,(t.cell (zH h4)).trans h4⟩
 dead:=fun i aA=>(h.dead i aA).zcw t
theorem zIQ.at{w:World}{base lo hi:Nat}{v:Value}{W:zB}{vd:Nat->Value}(h:zIQ w base v W vd (memN W))(hd:zLW w lo hi W vd):zIN w lo hi v W vd where
 zc4:=qj h
 cells:=fun i bA=>by
  obtain⟨g,cap,e,cA,hb,dA,aA⟩:=zDE h (by omega);refine⟨g,cap,e,?_,?_,?_,?_,?_⟩
  ·exact(aA (i*5) _ (by have:=zF9 (W:=W) (vd:=vd) bA (show 0<5 by omega);rw[Nat.add_zero]at this;rw[this];rfl)).1
  ·exact(aA (i*5+1) _ (by rw[zF9 bA (by omega)];rfl)).1
  ·exact(aA (i*5+2) _ (by rw[zF9 bA (by omega)];rfl)).1
  ·exact(aA (i*5+3) _ (by rw[zF9 bA (by omega)];rfl)).1
  ·exact(aA (i*5+4) _ (by rw[zF9 bA (by omega)];rfl)).1
 dead:=hd
theorem zZk:(Tryz.prog.info? 193).map (fun i=>(i.zero,i.size,i.bytes))=some (some (.agg #[.int .i64 0,.int .i64 0,.int .i64 0,.int .i64 0,.slice none 0 0]),5,56):=by kernel_rfl
theorem zFv(v0 v1 v2 v3:Value)(lo hi:Nat)(W:zB)(w:World)(h:zAF w lo hi v0 v1 v2 v3 W)(hs:W.sn<=8)(hp:W.pn<=20) :
  Calls Tryz.prog 145 #[zB8 v0 v1 v2 v3 W] w fun e w'=>∃v vd,e = .returned v/\zIN w' lo hi v W vd/\Below w.heap.size w w':=by
 have Hp:=zC h;obtain⟨m1,a,c,rfl,mc,-⟩:=id h.zcy;obtain⟨m2,a',c',rfl,fC,-⟩:=id h.zc1;unfold maxLen at m1 m2;obtain⟨vs,oB,iB⟩:=h.zcy.vals;obtain⟨vt,pB,jB⟩:=h.zc1.vals;have cC:∃vd:Nat->Value,(∀i,i<W.pn->vd i=vs i)/\(∀i,i<W.sn->vd (W.pn+i)=vt i)/\zLW w lo hi W vd:=by
  refine⟨fun i=>if i<W.pn then vs i else vt (i - W.pn),fun i lA=>if_pos lA,fun i lA=>?_,fun i lA=>?_⟩
  ·show(if W.pn+i<W.pn then vs (W.pn+i)else vt (W.pn+i - W.pn))=vt i;rw[if_neg (by omega),show W.pn+i - W.pn=i by omega]
  ·show qo w lo hi (if i<W.pn then vs i else vt (i - W.pn)) _ _ _;by_cases pA:i<W.pn
   ·rw[if_pos pA,yR pA];exact oB i pA
   ·have e:=zAo W (i - W.pn);rw[show W.pn+(i - W.pn)=i by omega]at e;rw[if_neg pA,e];unfold memN at lA;exact pB _ (by omega)
 obtain⟨vd,kB,lB,mB⟩:=cC;have sB:=zC iB;have tB:=zC jB;have vB:=zC kB;have aC:=zC lB;have bC:=zC mB;clear h oB iB pB jB kB lB mB;obtain⟨i0,nB,fB⟩:=Option.map_eq_some_iff.1 zZk;simp only[Prod.mk.injEq]at fB;have HI:=zC (And.intro nB fB);clear nB fB;have ha:=zD w (.cells #[v0,v1,.int .i64 W.time,.int .i64 W.next,.slice a' W.sn c',.slice a W.pn c] 30);have HB:=zC (zAM.new w v0 v1 (.int .i64 W.time) (.int .i64 W.next) (.slice a' W.sn c') (.slice a W.pn c) 30);obtain⟨x0,x2,x4,x6,x8,gB⟩:=HB.out.c;go_enter Tryz.func145,Tryz.ntmps145;go_wp2;clear x0 x2 x4 x6 x8 gB
 go_loopw [3,11] (fun v i wr=>∃k:Nat,k<=W.pn/\i = .int .i64 k/\zIQ wr (w.heap.size+1) v W vd k/\zAM wr w.heap.size v0 v1 (.int .i64 W.time) (.int .i64 W.next) (.slice a' W.sn c') (.slice a W.pn c)/\Below w.heap.size w wr) (fun _ i _=>W.pn - (intOf i).toNat)
 case atStart=>exact⟨0,Nat.zero_le _,rfl,World.ownsRow_nil _ _ _ _,HB.out,ha⟩
 case round=>
  clear HB ha;obtain⟨k,hk,rfl,gA,hX,hb⟩:=hrel;have cA:=zC gA;have HX:=zC hX;clear gA hX;by_cases jA:k<W.pn
  ·have bB:(k:Int)<(W.pn:Int):=(by omega);obtain⟨b,off,rfl,oA⟩:=sB.out k jA;have bA:=oA.zcw hb;rw[<-vB.out k jA]at bA;obtain⟨-,ad,cd,kA,-,-⟩:=id bA.dead;have tA:=zC kA;rw[kA]at bA;clear kA oA;have iA:=zD wr (.cells #[.int .i64 (W.zcy k).id,.string (W.zcy k).name,.string (W.zcy k).set,.int .i64 (W.zcy k).zc2,.int .i64 (W.zcy k).time,.int .i64 (W.zcy k).rs,.int .i64 (W.zcy k).rb,.slice ad (W.zcy k).dn cd] 75);have rA:=zC (zGO.new wr (.int .i64 (W.zcy k).id) (.string (W.zcy k).name) (.string (W.zcy k).set) (.int .i64 (W.zcy k).zc2) (.int .i64 (W.zcy k).time) (.int .i64 (W.zcy k).rs) (.int .i64 (W.zcy k).rb) (.slice ad (W.zcy k).dn cd) 75);have eA:=zD (wr.alloc (.cells #[.int .i64 (W.zcy k).id,.string (W.zcy k).name,.string (W.zcy k).set,.int .i64 (W.zcy k).zc2,.int .i64 (W.zcy k).time,.int .i64 (W.zcy k).rs,.int .i64 (W.zcy k).rb,.slice ad (W.zcy k).dn cd] 75)) (.cells #[.int .i64 (W.zcy k).zc2,.int .i64 (W.zcy k).time,.int .i64 (W.zcy k).rs,.int .i64 (W.zcy k).rb,.slice ad (W.zcy k).dn cd] 193);have HN:=zC (World.news_of_block (heap_alloc_last (wr.alloc (.cells #[.int .i64 (W.zcy k).id,.string (W.zcy k).name,.string (W.zcy k).set,.int .i64 (W.zcy k).zc2,.int .i64 (W.zcy k).time,.int .i64 (W.zcy k).rs,.int .i64 (W.zcy k).rb,.slice ad (W.zcy k).dn cd] 75)) (.cells #[.int .i64 (W.zcy k).zc2,.int .i64 (W.zcy k).time,.int .i64 (W.zcy k).rs,.int .i64 (W.zcy k).rb,.slice ad (W.zcy k).dn cd] 193)));have dA:=zC ((cA.out.zcw iA).zcw eA);have sA:=zC ((HX.out.zcw iA).zcw eA);have mA:=zA (zA hb iA) eA;have dC:=HX.out.1.lt;have eB:(wr.alloc (.cells #[.int .i64 (W.zcy k).id,.string (W.zcy k).name,.string (W.zcy k).set,.int .i64 (W.zcy k).zc2,.int .i64 (W.zcy k).time,.int .i64 (W.zcy k).rs,.int .i64 (W.zcy k).rb,.slice ad (W.zcy k).dn cd] 75)).heap.size=wr.heap.size+1:=World.size_alloc _ _;have eC:=eA.size;rw[eB]at HN;have q0:=bA.c0;have q1:=bA.c1;have q2:=bA.c2;have q3:=bA.c3;have q4:=bA.c4;have q5:=bA.c5;have q6:=bA.c6;have q7:=bA.c7;obtain⟨⟨⟨y0,-⟩,⟨y1,-⟩,⟨y2,-⟩,⟨y3,-⟩⟩,⟨y4,-⟩,⟨y5,-⟩,⟨y6,-⟩,⟨y7,-⟩⟩:=rA.out;clear bA iA eA cA HX;go_wp2_with (first
    | (at_builtin;refine wpList_append_lies _ rfl _ _ 190 rfl (w.heap.size+1) 193 i0 (.agg #[.int .i64 0,.int .i64 0,.int .i64 0,.int .i64 0,.slice none 0 0]) 5 56 (by kernel_rfl) HI.out.1 HI.out.2.1 HI.out.2.2.1 HI.out.2.2.2 rfl (by decide) _ _ _ rfl dA.out ⟨wr.heap.size+1,0,none⟩ 1 1 [.int .i64 (W.zcy k).zc2,.int .i64 (W.zcy k).time,.int .i64 (W.zcy k).rs,.int .i64 (W.zcy k).rb,.slice ad (W.zcy k).dn cd] rfl rfl HN.out (by simp[Value.oneCell']) (by decide) (by unfold maxLen;omega) (by omega) (by omega) _ rfl ?_;intro g' vA w8 fA aA aB cB)
    | go_in)
   go_roundw
   case rel=>
    have nA:∀q,Value.ownBlock _=some q->w.heap.size+1<=q:=fun q hq=>(dA.out.lt hq).1
    refine⟨k+1,by omega,by go_num,?_,sA.out.grown aA (fun q hq=>by have:=nA q hq;omega),mA.grown aA mA.size (fun q hq=>by have:=nA q hq;omega)⟩;refine zIQ.next ?_;rw[yR jA,tA.out];exact fA
   case measure=>simp[intOf];omega
  ·obtain rfl:k=W.pn:=(by omega);obtain⟨x0,x2,x4,x6,x8,gB⟩:=HX.out.c;go_wp2;clear x0 x2 x4 x6 x8 gB
   go_loopw [3,31] (fun v i wr=>∃k:Nat,k<=W.sn/\i = .int .i64 k/\zIQ wr (w.heap.size+1) v W vd (W.pn+k)/\zAM wr w.heap.size v0 v1 (.int .i64 W.time) (.int .i64 W.next) (.slice a' W.sn c') (.slice a W.pn c)/\Below w.heap.size w wr) (fun _ i _=>W.sn - (intOf i).toNat)
   case atStart=>exact⟨0,Nat.zero_le _,rfl,cA.out,HX.out,hb⟩
   case round=>
    clear HX hb cA hk jA;obtain⟨k,hk,rfl,gA,hX,hb⟩:=hrel;have cA:=zC gA;have HX:=zC hX;clear gA hX;by_cases jA:k<W.sn
    ·have bB:(k:Int)<(W.sn:Int):=(by omega);obtain⟨b,off,rfl,oA⟩:=tB.out k jA;have bA:=oA.zcw hb;rw[<-aC.out k jA]at bA;obtain⟨-,ad,cd,kA,-,-⟩:=id bA.dead;have tA:=zC kA;rw[kA]at bA;clear kA oA;have iA:=zD wr (.cells #[.string (W.zc1 k).name,.int .i64 (W.zc1 k).origin,.int .i64 (W.zc1 k).zc2,.int .i64 (W.zc1 k).rs,.int .i64 (W.zc1 k).rb,.slice ad (W.zc1 k).dn cd] 72);have rA:=zC (zAM.new wr (.string (W.zc1 k).name) (.int .i64 (W.zc1 k).origin) (.int .i64 (W.zc1 k).zc2) (.int .i64 (W.zc1 k).rs) (.int .i64 (W.zc1 k).rb) (.slice ad (W.zc1 k).dn cd) 72);have rB:=zC (HX.out.zcw iA);have eA:=zD (wr.alloc (.cells #[.string (W.zc1 k).name,.int .i64 (W.zc1 k).origin,.int .i64 (W.zc1 k).zc2,.int .i64 (W.zc1 k).rs,.int .i64 (W.zc1 k).rb,.slice ad (W.zc1 k).dn cd] 72)) (.cells #[.int .i64 (W.zc1 k).zc2,.int .i64 W.time,.int .i64 (W.zc1 k).rs,.int .i64 (W.zc1 k).rb,.slice ad (W.zc1 k).dn cd] 193);have HN:=zC (World.news_of_block (heap_alloc_last (wr.alloc (.cells #[.string (W.zc1 k).name,.int .i64 (W.zc1 k).origin,.int .i64 (W.zc1 k).zc2,.int .i64 (W.zc1 k).rs,.int .i64 (W.zc1 k).rb,.slice ad (W.zc1 k).dn cd] 72)) (.cells #[.int .i64 (W.zc1 k).zc2,.int .i64 W.time,.int .i64 (W.zc1 k).rs,.int .i64 (W.zc1 k).rb,.slice ad (W.zc1 k).dn cd] 193)));have dA:=zC ((cA.out.zcw iA).zcw eA);have sA:=zC ((HX.out.zcw iA).zcw eA);have mA:=zA (zA hb iA) eA;have dC:=HX.out.1.lt;have eB:(wr.alloc (.cells #[.string (W.zc1 k).name,.int .i64 (W.zc1 k).origin,.int .i64 (W.zc1 k).zc2,.int .i64 (W.zc1 k).rs,.int .i64 (W.zc1 k).rb,.slice ad (W.zc1 k).dn cd] 72)).heap.size=wr.heap.size+1:=World.size_alloc _ _;have eC:=eA.size;rw[eB]at HN;have q0:=bA.c0;have q1:=bA.c1;have q2:=bA.c2;have q3:=bA.c3;have q4:=bA.c4;have q5:=bA.c5;obtain⟨y0,y1,y2,y3,y4,y5⟩:=rA.out.c;obtain⟨z0,z2,z4,z6,z8,iC⟩:=rB.out.c;clear bA iA eA cA HX;go_wp2_with (first
      | (at_builtin;refine wpList_append_lies _ rfl _ _ 190 rfl (w.heap.size+1) 193 i0 (.agg #[.int .i64 0,.int .i64 0,.int .i64 0,.int .i64 0,.slice none 0 0]) 5 56 (by kernel_rfl) HI.out.1 HI.out.2.1 HI.out.2.2.1 HI.out.2.2.2 rfl (by decide) _ _ _ rfl dA.out ⟨wr.heap.size+1,0,none⟩ 1 1 [.int .i64 (W.zc1 k).zc2,.int .i64 W.time,.int .i64 (W.zc1 k).rs,.int .i64 (W.zc1 k).rb,.slice ad (W.zc1 k).dn cd] rfl rfl HN.out (by simp[Value.oneCell']) (by decide) (by unfold maxLen;omega) (by omega) (by omega) _ rfl ?_;intro g' vA w8 fA aA aB cB)
      | go_in)
     go_roundw
     case rel=>
      have nA:∀q,Value.ownBlock _=some q->w.heap.size+1<=q:=fun q hq=>(dA.out.lt hq).1
      refine⟨k+1,by omega,by go_num,?_,sA.out.grown aA (fun q hq=>by have:=nA q hq;omega),mA.grown aA mA.size (fun q hq=>by have:=nA q hq;omega)⟩;show zIQ w8 (w.heap.size+1) _ W vd (W.pn+k+1);refine zIQ.next ?_;rw[zAo,tA.out];exact fA
     case measure=>simp[intOf];omega
    ·obtain rfl:k=W.sn:=(by omega);go_wp2;go_ret;exact⟨_,vd,rfl,zIQ.at cA.out (fun i lA=>(bC.out i lA).zcw hb),hb⟩
def zG0(w:World)(b:Nat)(v0 v1 v2 v3 v4:Value):Prop:=zo w b 0 v0/\zo w b 1 v1/\zo w b 2 v2/\zo w b 3 v3/\zo w b 4 v4
theorem zG0.zcw{w w':World}{b:Nat}{v0 v1 v2 v3 v4:Value}(h:zG0 w b v0 v1 v2 v3 v4)(t:Below w.heap.size w w'):zG0 w' b v0 v1 v2 v3 v4:=⟨h.1.zcw t,h.2.1.zcw t,h.2.2.1.zcw t,h.2.2.2.1.zcw t,h.2.2.2.2.zcw t⟩
theorem zG0.new(w:World)(v0 v1 v2 v3 v4:Value)(t:TypeId):zG0 (w.alloc (.cells #[v0,v1,v2,v3,v4] t)) w.heap.size v0 v1 v2 v3 v4:=by
 have hb:(w.alloc (.cells #[v0,v1,v2,v3,v4] t)).heap[w.heap.size]?=some (.cells #[v0,v1,v2,v3,v4] t):=heap_alloc_new _ _;exact⟨zG hb rfl,zG hb rfl,zG hb rfl,zG hb rfl,zG hb rfl⟩
def zCM(W:zB):Prop:=∀i,i<memN W->(Lit.int .i64 (zK W i).zc2).wf=true
def zLY(W:zB)(i:Nat):Prop:=(zI W (zK W i).zc2).id=(zK W i).zc2
theorem zGb(v:Value)(s:zz)(w:World):(Instr.field 75 (zDr v s) 0).run Tryz.prog w = .ok (.int .i64 s.id) w/\(Instr.field 75 (zDr v s) 2).run Tryz.prog w = .ok (.string s.set) w/\(Instr.field 75 (zDr v s) 3).run Tryz.prog w = .ok (.int .i64 s.zc2) w/\(Instr.field 75 (zDr v s) 4).run Tryz.prog w = .ok (.int .i64 s.time) w:=by
 refine⟨?_,?_,?_,?_⟩<;>kernel_rfl
theorem zM6(v0 v1 v2 v3:Value)(lo hi:Nat)(W:zB)(A:Nat)(w:World)(h:zAF w lo hi v0 v1 v2 v3 W)(hs:W.sn<=8)(hp:W.pn<=20)(hA:zDY w lo hi W A)(hD:zFV W)(nA:zCM W) :
  Calls Tryz.prog 118 #[zB8 v0 v1 v2 v3 W,zJw A] w fun e w'=>zL (∀i,i<memN W->zLY W i) e/\Below w.heap.size w w':=by
 have Hp:=zC h;have HA:=zC hA;have HD:=zC hD;have oA:=zC nA;clear h hA hD nA;have ha:=zD w (.cells #[v0,v1,.int .i64 W.time,.int .i64 W.next,v2,v3] 30);obtain⟨x0,x2,x4,x6,x8,vA⟩:=(zAM.new w v0 v1 (.int .i64 W.time) (.int .i64 W.next) v2 v3 30).c;go_enter Tryz.func118,Tryz.ntmps118;go_wp2_with fail;clear x0 x2 x4 x6 x8 vA;generalize w.alloc (.cells #[v0,v1,.int .i64 W.time,.int .i64 W.next,v2,v3] 30)=W0 at ha ⊢;refine(zFv v0 v1 v2 v3 lo hi W W0 (Hp.out.zcw ha) hs hp).mono ?_;rintro e w1 ⟨vm,vd,rfl,hm,jA⟩;have HM:=zC hm;have eA:=zA ha jA;obtain⟨am,cm,rfl,aB⟩:=id hm.zc4;have bB:memN W<=28:=by unfold memN;omega
 clear ha jA hm;go_wp2
 go_loopw [10] (fun i wr=>∃k:Nat,k<=memN W/\i = .int .i64 k/\(∀j,j<k->zLY W j)/\Below w1.heap.size w1 wr) (fun i _=>memN W - (intOf i).toNat)
 case atStart=>exact⟨0,Nat.zero_le _,rfl,fun j hj=>absurd hj (Nat.not_lt_zero _),Below.refl _ _⟩
 case round=>
  obtain⟨k,hk,rfl,bA,hb⟩:=hrel;have aA:=zC bA;clear bA;by_cases cA:k<memN W;rotate_left
  ·obtain rfl:k=memN W:=(by omega);go_wp2;go_ret;exact⟨zL.yes aA.out,zA eA hb⟩
  have sA:(k:Int)<(memN W:Int):=(by omega);obtain⟨g,cg,e,q0,q1,q2,q3,q4⟩:=(HM.out.zcw hb).cells k cA;obtain⟨-,ad,cd,mA,-,-⟩:=id ((HM.out.zcw hb).dead k cA);rw[mA]at q4;cases e;have gA:=zD wr (.cells #[.int .i64 (zK W k).zc2,.int .i64 (zK W k).time,.int .i64 (zK W k).rs,.int .i64 (zK W k).rb,.slice ad (zK W k).dn cd] 193);have HV:=zC (zG0.new wr (.int .i64 (zK W k).zc2) (.int .i64 (zK W k).time) (.int .i64 (zK W k).rs) (.int .i64 (zK W k).rb) (.slice ad (zK W k).dn cd) 193);have dA:=zC (HA.out.zcw (zA eA (zA hb gA)));have kA:=zA hb gA;have pA:=zC (oA.out k cA);have iA:=zC (show zLY W k↔(zI W (zK W k).zc2).id=(zK W k).zc2 from Iff.rfl);clear mA gA;generalize zK W k=m at *;go_wp2_with fail;clear q0 q1 q2 q3 q4;generalize wr.alloc (.cells #[.int .i64 m.zc2,.int .i64 m.time,.int .i64 m.rs,.int .i64 m.rb,.slice ad m.dn cd] 193)=W2 at HV dA kA ⊢;generalize wr.heap.size=V at HV ⊢;obtain⟨⟨y0,-⟩,-⟩:=HV.out;go_region_held3 (fun w'=>w'.cell? ⟨V,0,none⟩=some (.int .i64 m.zc2)) (go_keep)
   (first | (go_at_call 144;refine(zEy lo hi W A m.zc2 _ ?_ HD.out pA.out hp).mono ?_;(exact dA.out.zcw (Below.refl _ _).drew);rintro e w6 ⟨aa,ca,rfl,tA,fA⟩;have rA:=fun w=>(zGb (.slice aa (zI W m.zc2).dn ca) (zI W m.zc2) w).1;obtain⟨⟨z0,_⟩,_⟩:=HV.out.zcw (qU fA)))
  have lA:=zIU kA fA;clear fA tA rA z0 y0 dA;by_cases he:(zI W m.zc2).id=m.zc2
  ·have hd:((zI W m.zc2).id != m.zc2)=false:=(by simp[he]);have He:=zC (iA.out.2 he);clear he;go_wp2;go_roundw
   case rel=>exact⟨k+1,by omega,by go_num,yE cA aA.out He.out,lA⟩
   case measure=>simp[intOf];omega
  ·have hd:((zI W m.zc2).id != m.zc2)=true:=(by simp[he]);have He:=zC (fun h=>he (iA.out.1 h));clear he;go_wp2;go_ret;exact⟨zL.no fun h=>He.out (h k cA),zA eA lA⟩
end Go.Proofs.YtbplmbafodlboaaGreatDoor
