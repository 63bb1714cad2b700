/- A part of the proof. -/
import Derived.Test.YtbplmbafodlboaaGreatDoorF15
set_option linter.unusedVariables false
set_option maxRecDepth 20000
set_option maxHeartbeats 4000000
namespace Go.Proofs.YtbplmbafodlboaaGreatDoor
open Go.RowKit
section
variable {w : World} {g : Nat -> Bs} {fl : Fl}
theorem zHM{k n:Nat}{f:Nat->Nat->Tr}{u:Value}(hs:Sh w g (.s fl k n f) u):∃a c,u = .slice a n c/\n<=c/\(0<n->∃b o,a=some ⟨b,o,none⟩/\0<=b/\b<w.heap.size/\∀i,i<n->∀j,j<k->∃u,w.cell? ⟨b,o+i*k+j,none⟩=some u/\Sh w g (f i j) u):=by
 obtain⟨a,c,rfl,hc,hx⟩:=hs;refine⟨a,c,rfl,hc,fun h0=>?_⟩;obtain⟨b,o,ha,hb,-,aA⟩:=hx h0;refine⟨b,o,ha,Nat.zero_le _,hb,fun i hi j hj=>?_⟩;rw[Nat.add_assoc];exact aA i j hi hj
theorem zYd{n:Nat}{h:Nat->Int}{u:Value}(hs:Sh w g (.s fl 1 n (qh h)) u)(hn:n<=maxLen):zCR w 0 w.heap.size u n h:=by
 obtain⟨a,c,rfl,hc,hx⟩:=zHM hs;refine⟨hn,a,c,rfl,hc,fun h0=>?_⟩;obtain⟨b,o,ha,h1,h2,aA⟩:=hx h0;refine⟨b,o,ha,h1,h2,fun i hi=>?_⟩;obtain⟨u,hu,e⟩:=aA i hi 0 (by omega);rw[Nat.mul_one,Nat.add_zero]at hu;rw[hu,e.1]
theorem zO3{n:Nat}{f h:Nat->Int}{u:Value}(hs:Sh w g (.s fl 2 n (ptrsT f h)) u)(hn:n<=maxLen):qi w 0 w.heap.size u n f h:=by
 obtain⟨a,c,rfl,hc,hx⟩:=zHM hs;refine⟨hn,a,c,rfl,hc,fun h0=>?_⟩;obtain⟨b,o,ha,h1,h2,aA⟩:=hx h0;refine⟨b,o,ha,h1,h2,fun i hi=>?_⟩;obtain⟨u,hu,e⟩:=aA i hi 0 (by omega);obtain⟨u',bA,e'⟩:=aA i hi 1 (by omega);rw[Nat.add_zero]at hu;exact⟨by rw[hu,e.1],by rw[bA,e'.1]⟩
theorem zV5{n:Nat}{s:Nat->zM}{u:Value}(hs:Sh w g (.s fl 3 n (zU fl s)) u)(hn:n<=maxLen)(hk:∀i,i<n->(s i).kn<=maxLen/\(s i).data.size<=maxLen):zAR w 0 w.heap.size u n s:=by
 obtain⟨a,c,rfl,hc,hx⟩:=zHM hs;refine⟨hn,a,c,rfl,hc,fun h0=>?_⟩;obtain⟨b,o,ha,h1,h2,aA⟩:=hx h0;refine⟨b,o,ha,h1,h2,fun i hi=>?_⟩;obtain⟨u,hu,e⟩:=aA i hi 0 (by omega);obtain⟨u',bA,e'⟩:=aA i hi 1 (by omega);obtain⟨u2,cA,e2⟩:=aA i hi 2 (by omega);rw[Nat.add_zero]at hu;exact⟨u,u',u2,hu,bA,cA,e.1,zO3 e' (hk i hi).1,e2.1,(hk i hi).2⟩
theorem zYe{n:Nat}{s:Nat->zAJ}{u:Value}(hs:Sh w g (.s fl 6 n (setsE fl s)) u)(hn:n<=maxLen)(hk:∀i,i<n->(s i).dn<=maxLen/\(s i).name.size<=maxLen):zCd w 0 w.heap.size u n s:=by
 obtain⟨a,c,rfl,hc,hx⟩:=zHM hs;refine⟨hn,a,c,rfl,hc,fun h0=>?_⟩;obtain⟨b,o,ha,h1,h2,aA⟩:=hx h0;refine⟨b,o,ha,h1,h2,fun i hi=>?_⟩;obtain⟨u0,bA,e0⟩:=aA i hi 0 (by omega);obtain⟨u1,cA,e1⟩:=aA i hi 1 (by omega);obtain⟨u2,dA,e2⟩:=aA i hi 2 (by omega);obtain⟨u3,eA,e3⟩:=aA i hi 3 (by omega);obtain⟨u4,fA,e4⟩:=aA i hi 4 (by omega);obtain⟨u5,gA,e5⟩:=aA i hi 5 (by omega);rw[Nat.add_zero]at bA;exact⟨u5,by rw[bA,e0.1],by rw[cA,e1.1],by rw[dA,e2.1],by rw[eA,e3.1],by rw[fA,e4.1],gA,zO3 e5 (hk i hi).1,(hk i hi).2⟩
theorem zV6{n:Nat}{s:Nat->zu}{u:Value}(hs:Sh w g (.s fl 8 n (snapsE fl s)) u)(hn:n<=maxLen)(hk:∀i,i<n->(s i).dn<=maxLen/\(s i).name.size<=maxLen/\(s i).set.size<=maxLen):zBg w 0 w.heap.size u n s:=by
 obtain⟨a,c,rfl,hc,hx⟩:=zHM hs;refine⟨hn,a,c,rfl,hc,fun h0=>?_⟩;obtain⟨b,o,ha,h1,h2,aA⟩:=hx h0;refine⟨b,o,ha,h1,h2,fun i hi=>?_⟩;obtain⟨u0,bA,e0⟩:=aA i hi 0 (by omega);obtain⟨u1,cA,e1⟩:=aA i hi 1 (by omega);obtain⟨u2,dA,e2⟩:=aA i hi 2 (by omega);obtain⟨u3,eA,e3⟩:=aA i hi 3 (by omega);obtain⟨u4,fA,e4⟩:=aA i hi 4 (by omega);obtain⟨u5,gA,e5⟩:=aA i hi 5 (by omega);obtain⟨u6,iA,e6⟩:=aA i hi 6 (by omega);obtain⟨u7,jA,e7⟩:=aA i hi 7 (by omega);rw[Nat.add_zero]at bA;exact⟨u7,by rw[bA,e0.1],by rw[cA,e1.1],by rw[dA,e2.1],by rw[eA,e3.1],by rw[fA,e4.1],by rw[gA,e5.1],by rw[iA,e6.1],jA,zO3 e7 (hk i hi).1,(hk i hi).2⟩
end
def zPw(w:World)(g:Nat->Bs)(lo:Nat):Prop:=∀b,lo<=b->b<w.heap.size->g b = .fz none
section
variable {w : World} {g : Nat -> Bs} {lo hi : Nat}
theorem zPw.ok(h:zPw w g lo){b e:Nat}(h1:lo<=b)(h2:b<w.heap.size):(g b).ok .z e:=by
 rw[h b h1 h2];exact .inr fun l e=>by cases e
theorem zI2{b j:Nat}{v:Value}(h:w.cell? ⟨b,j,none⟩=some v):b<w.heap.size:=zH h
theorem zJW(hk:zPw w g lo){v:Value}{n:Nat}{f:Nat->Int}(h:zCR w lo hi v n f):Sh w g (.s .z 1 n (qh f)) v:=by
 obtain⟨h0,a,cap,rfl,hc,hx⟩:=h;refine⟨a,cap,rfl,hc,fun hn=>?_⟩;obtain⟨b,o,ha,h1,h2,h3⟩:=hx hn;have hb:=zI2 (h3 0 hn);refine⟨b,o,ha,hb,hk.ok h1 hb,fun i j hi hj=>?_⟩;cases (show j=0 by omega);exact⟨_,by rw[Nat.mul_one,Nat.add_zero];exact h3 i hi,rfl,rfl⟩
theorem zPZ(hk:zPw w g lo){v:Value}{n:Nat}{f f':Nat->Int}(h:qi w lo hi v n f f'):Sh w g (.s .z 2 n (ptrsT f f')) v:=by
 obtain⟨h0,a,cap,rfl,hc,hx⟩:=h;refine⟨a,cap,rfl,hc,fun hn=>?_⟩;obtain⟨b,o,ha,h1,h2,h3⟩:=hx hn;have hb:=zI2 (h3 0 hn).1;refine⟨b,o,ha,hb,hk.ok h1 hb,fun i j hi hj=>?_⟩
 match j,hj with
 | 0,_=>exact⟨_,(h3 i hi).1,rfl,rfl⟩
 | 1,_=>exact⟨_,(h3 i hi).2,rfl,rfl⟩
theorem zHF(hk:zPw w g lo){v:Value}{n:Nat}{f:Nat->zM}(h:zAR w lo hi v n f):Sh w g (.s .z 3 n (zU .z f)) v:=by
 obtain⟨h0,a,cap,rfl,hc,hx⟩:=h;refine⟨a,cap,rfl,hc,fun hn=>?_⟩;obtain⟨b,o,ha,h1,h2,h3⟩:=hx hn;have hb:b<w.heap.size:=by obtain⟨_,_,_,h,_⟩:=h3 0 hn;exact zI2 h
 refine⟨b,o,ha,hb,hk.ok h1 hb,fun i j hi hj=>?_⟩;obtain⟨v0,v1,v2,c0,c1,c2,e0,e1,e2,e3⟩:=h3 i hi
 match j,hj with
 | 0,_=>exact⟨_,c0,e0,rfl⟩
 | 1,_=>exact⟨_,c1,zPZ hk e1⟩
 | 2,_=>exact⟨_,c2,e2,rfl⟩
theorem zK8(hk:zPw w g lo){v:Value}{n:Nat}{f:Nat->zAJ}(h:zCd w lo hi v n f):Sh w g (.s .z 6 n (setsE .z f)) v:=by
 obtain⟨h0,a,cap,rfl,hc,hx⟩:=h;refine⟨a,cap,rfl,hc,fun hn=>?_⟩;obtain⟨b,o,ha,h1,h2,h3⟩:=hx hn;have hb:b<w.heap.size:=by obtain⟨_,h⟩:=h3 0 hn;exact zI2 h.c0
 refine⟨b,o,ha,hb,hk.ok h1 hb,fun i j hi hj=>?_⟩;obtain⟨vd,h⟩:=h3 i hi
 match j,hj with
 | 0,_=>exact⟨_,h.c0,rfl,rfl⟩
 | 1,_=>exact⟨_,h.c1,rfl,rfl⟩
 | 2,_=>exact⟨_,h.c2,rfl,rfl⟩
 | 3,_=>exact⟨_,h.c3,rfl,rfl⟩
 | 4,_=>exact⟨_,h.c4,rfl,rfl⟩
 | 5,_=>exact⟨_,h.c5,zPZ hk h.dead⟩
theorem zJX(hk:zPw w g lo){v:Value}{n:Nat}{f:Nat->zu}(h:zBg w lo hi v n f):Sh w g (.s .z 8 n (snapsE .z f)) v:=by
 obtain⟨h0,a,cap,rfl,hc,hx⟩:=h;refine⟨a,cap,rfl,hc,fun hn=>?_⟩;obtain⟨b,o,ha,h1,h2,h3⟩:=hx hn;have hb:b<w.heap.size:=by obtain⟨_,h⟩:=h3 0 hn;exact zI2 h.c0
 refine⟨b,o,ha,hb,hk.ok h1 hb,fun i j hi hj=>?_⟩;obtain⟨vd,h⟩:=h3 i hi
 match j,hj with
 | 0,_=>exact⟨_,h.c0,rfl,rfl⟩
 | 1,_=>exact⟨_,h.c1,rfl,rfl⟩
 | 2,_=>exact⟨_,h.c2,rfl,rfl⟩
 | 3,_=>exact⟨_,h.c3,rfl,rfl⟩
 | 4,_=>exact⟨_,h.c4,rfl,rfl⟩
 | 5,_=>exact⟨_,h.c5,rfl,rfl⟩
 | 6,_=>exact⟨_,h.c6,rfl,rfl⟩
 | 7,_=>exact⟨_,h.c7,zPZ hk h.dead⟩
end
set_option linter.unusedSimpArgs false
set_option maxRecDepth 20000
set_option maxHeartbeats 3200000
structure zAB where
 bn:Nat
 bf:Nat->Int
 pos:Nat
 mix:Int
 size:Int
def zDo(h:Nat->Int):Nat->Nat->Tr:=fun i _=>.v (.int .u8 (h i))
theorem zDK{h:Nat->Int}{i j:Nat}:zDo h i j = .v (.int .u8 (h i)):=rfl
abbrev srV(s:zAB):List Tr:=[.s .z 1 s.bn (zDo s.bf),.v (.int .i64 s.pos),.v (.int .u64 s.mix),.v (.int .i64 s.size)]
def zGx(f:Nat->Tr):zAB:=⟨zE9 (f 0),fun i=>match zCS (f 0) i 0 with | .v (.int _ x)=>x | _=>0,(qg (f 1)).toNat,match f 2 with | .v (.int _ x)=>x | _=>0,qg (f 3)⟩
def zYP(a b:Int):Int:=IntKind.u64.wrap ((BitVec.ofInt IntKind.u64.bits a ^^^ BitVec.ofInt IntKind.u64.bits b).toNat)
def za8(a b:Int):Int:=IntKind.u64.wrap (a*2 ^ (min b.toNat IntKind.u64.bits))
def zX5(a b:Int):Int:=a.fdiv (2 ^ (min b.toNat IntKind.u64.bits))
theorem zLg{a b:Int}:zAY .xor .u64 a .u64 b=some (True,.int .u64 (zYP a b)):=rfl
theorem zLe{a b:Int}:zAY .shl .u64 a .u64 b=some (0<=b,.int .u64 (za8 a b)):=rfl
theorem zLf{a b:Int}:zAY .shr .u64 a .u64 b=some (0<=b,.int .u64 (zX5 a b)):=rfl
theorem zIJ{a b:Int}:zAY .add .u64 a .u64 b=some (True,.int .u64 (IntKind.u64.wrap (a+b))):=rfl
theorem zIK{a b:Int}:zAY .mul .u64 a .u64 b=some (True,.int .u64 (IntKind.u64.wrap (a*b))):=rfl
theorem zIL{a b:Int}:zAY .rem .u64 a .u64 b=some (b≠0,.int .u64 (a.tmod b)):=rfl
theorem zLZ{a b:Int}:zAY .add .i64 a .i64 b=some (True,.int .i64 (IntKind.i64.wrap (a+b))):=rfl
theorem zLd{k:IntKind}{a b:Int}:zAY .lss k a k b=some (True,.bool (decide (a<b))):=by simp[zAY]
theorem zLc{k:IntKind}{a b:Int}:zAY .leq k a k b=some (True,.bool (decide (a<=b))):=by simp[zAY]
theorem zLb{k:IntKind}{a b:Int}:zAY .gtr k a k b=some (True,.bool (decide (a>b))):=by simp[zAY]
theorem zLa{k:IntKind}{a b:Int}:zAY .eql k a k b=some (True,.bool (a == b)):=by simp[zAY]
theorem zh{n:Nat}{h:Nat->Int}:(Tr.s .z 1 n (zDo h)).kept:=⟨by simp,fun _ _ _ _=>trivial⟩
theorem zaW{x:Int}(h0:0<=x)(h1:x<=1000000000000000000):IntKind.u64.wrap x=x:=by
 simp[IntKind.wrap,IntKind.bits];omega
def zav(m:Int):Int:=zYP m (za8 m 13)
def zaw(m:Int):Int:=zYP m (zX5 m 7)
def zax(m:Int):Int:=zYP m (za8 m 17)
def zVK(m:Int):Int:=zax (zaw (zav m))
def nS(s:zAB)(most:Int):zAB:=if most<=1 then s else {s with pos:=if s.pos<s.bn then s.pos+1 else s.pos,mix:=zVK s.mix}
def nV(s:zAB)(most:Int):Int:=if most<=1 then 0 else IntKind.i64.wrap ((IntKind.u64.wrap ((if s.pos<s.bn then s.bf s.pos else 0)+zX5 (zVK s.mix) 20)).tmod most)
structure qb (s:zAB):Prop where
 bn:s.bn<=2000000
 pos:s.pos<=s.bn
 byte:∀i,i<s.bn->0<=s.bf i/\s.bf i<256
 size:0<=s.size/\s.size<=12
theorem yS{s:zAB}(h:qb s)(m:Int):qb (nS s m):=by
 unfold nS;split
 ·exact h
 ·refine⟨h.bn,?_,h.byte,h.size⟩;have:=h.pos;dsimp only;split<;>omega
attribute [local go_sem] qW List.map_cons List.map_nil Tr.cv yo qG qw qv yn ym yk qu zAv zAx zAw zAs zAu zAt zCK zCM zCL qK zn qL zo qE qD qP yx zk zl yB qJ tmpsOf zAf yA qI zAr yu yq yp yr stpP opds opd opdC kap zAE qF zj coreU bin zAY zB6 get put dlO fgt zA6 zAz zA3 zA4 tyT yj yi Op.operands Call.operands evLoad evLen evStore evAlloc zAZ and_true true_and List.append_nil List.nil_append List.cons_append Ret resCv zBx yP cellM zBT zB3 qX StW StR hpT hpO hpV hpA hpL hpC sg nin zCD bdO tmW obW AvE CsE CvE Av.tup Av.ids Cv.ids inD ObE Ob.ids TrE.refl qH qx qy qM qN qO zm zb za yw zBd zCB zAy evCall argL argOf qj outOb obO yM zy cvO tot Tr.own rid partsOf fillC zT zBS frz frz1 evBuildSlice zc trs Cv.tr evSlice Option.toArray_none Option.toArray_some evMakeSlice evAppend dstOf srcOf zAq zA5 zA2 zA0 zA1 ikT qt qs qq qp RetP RetN zBe qR evLd evSt evStoreH zAP evAppendM evAppendT tlOf mvOf rowE shp evTake oOf evC evCallP evCallN evCallO unlast zAK zAp zAO argsF zCA qn pmC varT vT evField evConv dB0 Option.bind_some Option.bind_none Option.map_some Option.map_none Option.isSome_some Option.isSome_none
attribute [-go_sem] zAY
attribute [local go_sem] zLg zLe zLf zIJ zIK zIL zLZ zLd zLc zLb zLa zDK
noncomputable def mN:zW:=qZ (fun q:zAB×Int=>(true,srV q.1) :: [iT q.2]) (fun q=>qb q.1/\q.2<=1000000000000000000) (fun q=>[(true,srV (nS q.1 q.2)),iT (nV q.1 q.2)])
theorem zCP(s:zAB)(m:Int):mN ((true,srV s) :: [iT m])=some (qb s/\m<=1000000000000000000,[(true,srV (nS s m)),iT (nV s m)]):=zO (fun l=>(zGx (nth l 0),qg (nth l 1 0))) (fun _=>rfl) (s,m)
theorem zNf:zBh Tryz.prog 47 mN:=by
 refine zBM zs GOk.nil zr Tryz.func47 rfl Tryz.ntmps47 Tryz.results47 6 ?_;rintro⟨s,m⟩ hs;obtain⟨hs,hm⟩:qb s/\m<=1000000000000000000:=hs;have hb:=hs.bn;have hp:=hs.pos;refine⟨by simp,?_⟩;simp[go_sem,qB (show s.pos<=1000000000 by omega)];refine⟨fun h=>?_,fun h=>?_⟩
 ·rw[show nS s m=s from if_pos h];exact⟨⟨⟨TrE.refl _,zh⟩,rfl,rfl,rfl⟩,(if_pos h).symm⟩
 have h':¬m<=1:=by omega
 have hw:IntKind.u64.wrap m=m:=zaW (by omega) (by omega);have aA:m≠0:=by omega
 rw[hw];rw[show nS s m=_ from if_neg h',show nV s m=_ from if_neg h'];refine⟨by kernel_rfl,fun h1=>⟨h1,by kernel_rfl,by kernel_rfl,by kernel_rfl,by kernel_rfl,aA,⟨⟨TrE.refl _,zh⟩,?_,rfl,rfl⟩,?_⟩,fun h1=>⟨by kernel_rfl,by kernel_rfl,by kernel_rfl,aA,⟨⟨TrE.refl _,zh⟩,?_,rfl,rfl⟩,?_⟩⟩
 ·simp[h1]
 ·simp[h1,zVK,zav,zaw,zax,zaW (hs.byte _ h1).1 (by have:=(hs.byte _ h1).2;omega)]
 ·simp[Nat.not_lt.2 h1]
 ·simp[Nat.not_lt.2 h1,zVK,zav,zaw,zax]
set_option maxRecDepth 20000
set_option maxHeartbeats 3200000
theorem zPu(x:Int):0<=IntKind.u64.wrap x:=by
 simp[IntKind.wrap,IntKind.bits,IntKind.signed];omega
theorem zCa{x:Int}(h:-1000000000000000000<=x)(h':x<=1000000000000000000):IntKind.i64.wrap x=x:=by
 simp[IntKind.wrap,IntKind.bits,IntKind.signed];omega
theorem zFN(s:zAB){m:Int}(h:1<m)(h':m<=1000000000000000000):0<=nV s m/\nV s m<m:=by
 unfold nV;rw[if_neg (by omega)];have h0:=Int.tmod_nonneg m (zPu ((if s.pos<s.bn then s.bf s.pos else 0)+zX5 (zVK s.mix) 20));have h1:=Int.tmod_lt_of_pos (IntKind.u64.wrap ((if s.pos<s.bn then s.bf s.pos else 0)+zX5 (zVK s.mix) 20)) (show 0<m by omega);rw[zCa (by omega) (by omega)];exact⟨h0,h1⟩
theorem zJS(s:zAB){m:Int}(h':m<=1000000000000000000):0<=nV s m/\(nV s m<m\/nV s m=0):=by
 by_cases h:1<m
 ·exact⟨(zFN s h h').1,.inl (zFN s h h').2⟩
 ·have:nV s m=0:=if_pos (by omega);omega
attribute [local go_sem] qW List.map_cons List.map_nil Tr.cv yo qG qw qv yn ym yk qu zAv zAx zAw zAs zAu zAt zCK zCM zCL qK zn qL zo qE qD qP yx zk zl yB qJ tmpsOf zAf yA qI zAr yu yq yp yr stpP opds opd opdC kap zAE qF zj coreU bin zAY zB6 get put dlO fgt zA6 zAz zA3 zA4 tyT yj yi Op.operands Call.operands evLoad evLen evStore evAlloc zAZ and_true true_and List.append_nil List.nil_append List.cons_append Ret resCv zBx yP cellM zBT zB3 qX StW StR hpT hpO hpV hpA hpL hpC sg nin zCD bdO tmW obW AvE CsE CvE Av.tup Av.ids Cv.ids inD ObE Ob.ids TrE.refl qH qx qy qM qN qO zm zb za yw zBd zCB zAy evCall argL argOf qj outOb obO yM zy cvO tot Tr.own rid partsOf fillC zT zBS frz frz1 evBuildSlice zc trs Cv.tr evSlice Option.toArray_none Option.toArray_some evMakeSlice evAppend dstOf srcOf zAq zA5 zA2 zA0 zA1 ikT qt qs qq qp RetP RetN zBe qR evLd evSt evStoreH zAP evAppendM evAppendT tlOf mvOf rowE shp evTake oOf evC evCallP evCallN evCallO unlast zAK zAp zAO argsF zCA qn pmC varT vT evField evConv dB0 Option.bind_some Option.bind_none Option.map_some Option.map_none Option.isSome_some Option.isSome_none
attribute [-go_sem] zAY
attribute [local go_sem] zLg zLe zLf zIJ zIK zIL zLZ zLd zLc zLb zLa zDK
noncomputable def zbd:zW:=qZ (fun q:zAB×Int=>(true,srV q.1) :: [iT q.2]) (fun q=>qb q.1/\q.2<=1000000000000000000) (fun q=>(true,srV (nS q.1 q.2)) :: bR (nV q.1 q.2=0))
theorem zAH(s:zAB)(m:Int):zbd ((true,srV s) :: [iT m])=some (qb s/\m<=1000000000000000000,(true,srV (nS s m)) :: bR (nV s m=0)):=zO (fun l=>(zGx (nth l 0),qg (nth l 1 0))) (fun _=>rfl) (s,m)
theorem zJ7:zBh Tryz.prog 41 zbd:=by
 refine zBM zs (GOk.ptr zNf (zE Tryz.func47 rfl rfl) GOk.nil) zr Tryz.func41 rfl Tryz.ntmps41 Tryz.results41 5 ?_;rintro⟨s,m⟩ hs;obtain⟨hs,hm⟩:qb s/\m<=1000000000000000000:=hs;refine⟨by simp,?_⟩;simp[go_sem,zCP,hs,hm,zh]
noncomputable def zbZ:zW:=qZ (fun q:Int×Int=>[iT q.1,iT q.2]) (fun _=>True) (fun q=>[iT (max q.1 q.2)])
theorem zY3(a b:Int):zbZ [iT a,iT b]=some (True,[iT (max a b)]):=zO (fun l=>(qg (nth l 0 0),qg (nth l 1 0))) (fun _=>rfl) (a,b)
theorem zU4:zw Tryz.prog 69 zbZ:=by
 refine zQ zs GOk.nil zr Tryz.func69 rfl Tryz.ntmps69 Tryz.results69 5 ?_;rintro⟨a,b⟩ -;refine⟨by simp,?_⟩;simp[go_sem];omega
abbrev sT'(d:ByteArray):Bool×List Tr:=(false,[.v (.string d)])
def zZp:List Int:=[0,1,-1,2,1000,1001,2147483648,2147483647,-2147483648,4611686018427387904,9223372036854775807,-9223372036854775808,1000000,1000001]
def zLt(s:zAB):Int:=zZp.getD (nV s 14).toNat 0
noncomputable def zZ0:zW:=qZ (fun s:zAB=>[(true,srV s)]) (fun s=>qb s) (fun s=>[(true,srV (nS s 14)),iT (zLt s)])
theorem zE1(s:zAB):zZ0 [(true,srV s)]=some (qb s,[(true,srV (nS s 14)),iT (zLt s)]):=zO (fun l=>zGx (nth l 0)) (fun _=>rfl) s
theorem zO5:zBh Tryz.prog 83 zZ0:=by
 refine zBM (A:=fun _=>[]) zs (GOk.ptr zNf (zE Tryz.func47 rfl rfl) GOk.nil) zr Tryz.func83 rfl Tryz.ntmps83 Tryz.results83 3 ?_;rintro s hs;replace hs:qb s:=hs;have hv:=zFN s (m:=14) (by omega) (by omega);refine⟨by simp,?_⟩;rcases(show nV s 14=0\/nV s 14=1\/nV s 14=2\/nV s 14=3\/nV s 14=4\/nV s 14=5\/nV s 14=6\/nV s 14=7\/nV s 14=8\/nV s 14=9\/nV s 14=10\/nV s 14=11\/nV s 14=12\/nV s 14=13 by omega)with h | h | h | h | h | h | h | h | h | h | h | h | h | h<;>simp[go_sem,zCP,hs,h,zLt,zZp,zh]
def zK0(s:zAB):zAB:=if nV s 20=0 then nS (nS (nS s 20) 14) 4 else nS (nS s 20) 7
def zRE(s:zAB):Int:=if nV s 20=0 then [-1,63,64,zLt (nS s 20)].getD (nV (nS (nS s 20) 14) 4).toNat 0 else [0,1,2,7,8,9,63].getD (nV (nS s 20) 7).toNat 0
theorem zPV{s:zAB}(h:qb s):qb (zK0 s):=by
 unfold zK0;split
 ·exact yS (yS (yS h _) _) _
 ·exact yS (yS h _) _
noncomputable def zbb:zW:=qZ (fun s:zAB=>[(true,srV s)]) (fun s=>qb s) (fun s=>[(true,srV (zK0 s)),iT (zRE s)])
theorem zY4(s:zAB):zbb [(true,srV s)]=some (qb s,[(true,srV (zK0 s)),iT (zRE s)]):=zO (fun l=>zGx (nth l 0)) (fun _=>rfl) s
theorem zR2:zBh Tryz.prog 72 zbb:=by
 refine zBM (A:=fun _=>[]) zs (GOk.ptr zNf (zE Tryz.func47 rfl rfl) (GOk.ptr zJ7 (zE Tryz.func41 rfl rfl) (GOk.ptr zO5 (zE Tryz.func83 rfl rfl) GOk.nil))) zr Tryz.func72 rfl Tryz.ntmps72 Tryz.results72 3 ?_;rintro s hs;replace hs:qb s:=hs;have h1:=yS hs 20;have h2:=yS h1 14;refine⟨by simp,?_⟩;by_cases h0:nV s 20=0
 ·have hv:=zFN (nS (nS s 20) 14) (m:=4) (by omega) (by omega);rcases(show nV (nS (nS s 20) 14) 4=0\/nV (nS (nS s 20) 14) 4=1\/nV (nS (nS s 20) 14) 4=2\/nV (nS (nS s 20) 14) 4=3 by omega)with h | h | h | h<;>simp[go_sem,zCP,zAH,zE1,hs,h1,h2,h0,h,zK0,zRE,zh]
 ·have hv:=zFN (nS s 20) (m:=7) (by omega) (by omega);rcases(show nV (nS s 20) 7=0\/nV (nS s 20) 7=1\/nV (nS s 20) 7=2\/nV (nS s 20) 7=3\/nV (nS s 20) 7=4\/nV (nS s 20) 7=5\/nV (nS s 20) 7=6 by omega)with h | h | h | h | h | h | h<;>simp[go_sem,zCP,zAH,zE1,hs,h1,h2,h0,h,zK0,zRE,zh]
noncomputable def zQ2:zW:=qZ (fun q:zAB×Nat×(Nat->Nat->Tr)=>(true,srV q.1) :: [(false,[.s .b 1 q.2.1 q.2.2])]) (fun q=>qb q.1/\(0<q.2.1/\q.2.1<=1000000)/\∀i,i<q.2.1->∃t,q.2.2 i 0 = .v (.string t)) (fun q=>[(true,srV (nS q.1 q.2.1)),sT' (zEA (q.2.2 (nV q.1 q.2.1).toNat 0))])
theorem zW5(s:zAB)(n:Nat)(F:Nat->Nat->Tr):zQ2 ((true,srV s) :: [(false,[.s .b 1 n F])])=some (qb s/\(0<n/\n<=1000000)/\∀i,i<n->∃t,F i 0 = .v (.string t),[(true,srV (nS s n)),sT' (zEA (F (nV s n).toNat 0))]):=zO (fun l=>(zGx (nth l 0),zE9 (nth l 1 0),zCS (nth l 1 0))) (fun _=>rfl) (s,n,F)
theorem zUI:zBh Tryz.prog 74 zQ2:=by
 refine zBM zs (GOk.ptr zNf (zE Tryz.func47 rfl rfl) GOk.nil) zr Tryz.func74 rfl Tryz.ntmps74 Tryz.results74 5 ?_;rintro⟨s,n,F⟩ hs;obtain⟨hs,⟨hn,aA⟩,hF⟩:qb s/\(0<n/\n<=1000000)/\∀i,i<n->∃t,F i 0 = .v (.string t):=hs;have hv:=zJS s (m:=n) (by omega);obtain⟨t,ht⟩:=hF (nV s n).toNat (by omega);refine⟨by simp,?_⟩;simp[go_sem,zCP,hs,ht,zh,zEA];omega
set_option maxRecDepth 20000
set_option maxHeartbeats 3200000
theorem zbK{a b:Int}:zAY .quo .i64 a .i64 b=some (b≠0,.int .i64 (IntKind.i64.wrap (a.tdiv b))):=rfl
def zGi(l:List ByteArray):Nat->Nat->Tr:=fun p q=>(l.map fun t=>Tr.v (.string t))[p+q]?.getD (.v (.bool false))
theorem zRd{l:List ByteArray}{i:Nat}(h:i<l.length):zGi l i 0 = .v (.string (l.getD i ⟨#[]⟩)):=by
 unfold zGi;simp[h]
theorem zOP{fl:Fl}{n:Nat}(l:List ByteArray):(Tr.s fl 1 n (zGi l)).lend = .s .b 1 n (zGi l):=by
 show Tr.s .b 1 n (fun p q=>(zGi l p q).lend)=_;congr 1;funext p q;unfold zGi;rw[List.getElem?_map];cases l[p+q]?<;>rfl
theorem zJL{fl:Fl}{a b c:ByteArray}:(Tr.s fl 1 3 fun p q=>([.v (.string a),.v (.string b),.v (.string c)]:List Tr)[p+q]?.getD (.v (.bool false))).lend = .s .b 1 3 (zGi [a,b,c]):=zOP [a,b,c]
theorem zJM{fl:Fl}{a b c d e:ByteArray}:(Tr.s fl 1 5 fun p q=>([.v (.string a),.v (.string b),.v (.string c),.v (.string d),.v (.string e)]:List Tr)[p+q]?.getD (.v (.bool false))).lend = .s .b 1 5 (zGi [a,b,c,d,e]):=zOP [a,b,c,d,e]
theorem zMa(s:zAB)(l:List ByteArray)(h:0<l.length/\l.length<=1000000):zQ2 ((true,srV s) :: [(false,[.s .b 1 l.length (zGi l)])])=some (qb s,[(true,srV (nS s l.length)),sT' (l.getD (nV s l.length).toNat ⟨#[]⟩)]):=by
 have hv:=zJS s (m:=l.length) (by omega);rw[zW5,zRd (by omega)];have e:(qb s/\(0<l.length/\l.length<=1000000)/\∀i,i<l.length->∃t,zGi l i 0 = .v (.string t))=qb s:=by
  refine propext ⟨fun h=>h.1,fun hs=>⟨hs,h,fun i hi=>⟨_,zRd hi⟩⟩⟩
 rw[e];rfl
theorem zVF(s:zAB)(a b c:ByteArray):zQ2 ((true,srV s) :: [(false,[.s .b 1 3 (zGi [a,b,c])])])=some (qb s,[(true,srV (nS s 3)),sT' ([a,b,c].getD (nV s 3).toNat ⟨#[]⟩)]):=zMa s [a,b,c] ⟨by simp,by simp⟩
theorem zVG(s:zAB)(a b c d e:ByteArray):zQ2 ((true,srV s) :: [(false,[.s .b 1 5 (zGi [a,b,c,d,e])])])=some (qb s,[(true,srV (nS s 5)),sT' ([a,b,c,d,e].getD (nV s 5).toNat ⟨#[]⟩)]):=zMa s [a,b,c,d,e] ⟨by simp,by simp⟩
attribute [local go_sem] qW List.map_cons List.map_nil Tr.cv yo qG qw qv yn ym yk qu zAv zAx zAw zAs zAu zAt zCK zCM zCL qK zn qL zo qE qD qP yx zk zl yB qJ tmpsOf zAf yA qI zAr yu yq yp yr stpP opds opd opdC kap zAE qF zj coreU bin zAY zB6 get put dlO fgt zA6 zAz zA3 zA4 tyT yj yi Op.operands Call.operands evLoad evLen evStore evAlloc zAZ and_true true_and List.append_nil List.nil_append List.cons_append Ret resCv zBx yP cellM zBT zB3 qX StW StR hpT hpO hpV hpA hpL hpC sg nin zCD bdO tmW obW AvE CsE CvE Av.tup Av.ids Cv.ids inD ObE Ob.ids TrE.refl qH qx qy qM qN qO zm zb za yw zBd zCB zAy evCall argL argOf qj outOb obO yM zy cvO tot Tr.own rid partsOf fillC zT zBS frz frz1 evBuildSlice zc trs Cv.tr evSlice Option.toArray_none Option.toArray_some evMakeSlice evAppend dstOf srcOf zAq zA5 zA2 zA0 zA1 ikT qt qs qq qp RetP RetN zBe qR evLd evSt evStoreH zAP evAppendM evAppendT tlOf mvOf rowE shp evTake oOf evC evCallP evCallN evCallO unlast zAK zAp zAO argsF zCA qn pmC varT vT evField evConv dB0 Option.bind_some Option.bind_none Option.map_some Option.map_none Option.isSome_some Option.isSome_none
attribute [local go_sem] zJL zJM
attribute [-go_sem] zAY
attribute [local go_sem] zLg zLe zLf zIJ zIK zIL zLZ zLd zLc zLb zLa zbK zDK
def zaR:List ByteArray:=[⟨#[97]⟩,⟨#[97]⟩,⟨#[98]⟩,⟨#[99]⟩,⟨#[100]⟩]
def zRA(s:zAB):ByteArray:=zaR.getD (nV s 5).toNat ⟨#[]⟩
noncomputable def zWz:zW:=qZ (fun s:zAB=>[(true,srV s)]) (fun s=>qb s) (fun s=>[(true,srV (nS s 5)),sT' (zRA s)])
theorem zVD(s:zAB):zWz [(true,srV s)]=some (qb s,[(true,srV (nS s 5)),sT' (zRA s)]):=zO (fun l=>zGx (nth l 0)) (fun _=>rfl) s
theorem zSZ:zBh Tryz.prog 70 zWz:=by
 refine zBM (A:=fun _=>[]) zs (GOk.ptr zUI (zE Tryz.func74 rfl rfl) GOk.nil) zr Tryz.func70 rfl Tryz.ntmps70 Tryz.results70 3 ?_;rintro s hs;replace hs:qb s:=hs;refine⟨by simp,?_⟩;simp[go_sem,zVG,hs,zRA,zaR,zh]
def zWF(a b:Int):Nat->Nat->Tr:=yK (yK (fun _ q=>Tr.v ([Value.int IntKind.u8 0][q]?.getD (Value.bool false))) 0 0 [.v (.int .u8 (IntKind.u8.wrap a))]) 15 0 [.v (.int .u8 (IntKind.u8.wrap (IntKind.i64.wrap (97+b))))]
theorem zWG(a b:Int)(p:Nat):∃x,zWF a b p 0 = .v (.int .u8 x):=by
 unfold zWF yK;by_cases h1:p=15
 ·exact⟨IntKind.u8.wrap (IntKind.i64.wrap (97+b)),by simp[h1]⟩
 ·by_cases h2:p=0
  ·exact⟨IntKind.u8.wrap a,by simp[h2]⟩
  ·exact⟨0,by simp[h1,h2]⟩
def zTL(s:zAB):zAB:=nS (nS s 256) 3
def zTM(s:zAB):ByteArray:=zUU 16 (zWF (nV s 256) (nV (nS s 256) 3))
noncomputable def zZx:zW:=qZ (fun s:zAB=>[(true,srV s)]) (fun s=>qb s) (fun s=>[(true,srV (zTL s)),sT' (zTM s)])
theorem zWv(s:zAB):zZx [(true,srV s)]=some (qb s,[(true,srV (zTL s)),sT' (zTM s)]):=zO (fun l=>zGx (nth l 0)) (fun _=>rfl) s
theorem zSQ:zBh Tryz.prog 81 zZx:=by
 refine zBM (A:=fun _=>[]) zs (GOk.ptr zNf (zE Tryz.func47 rfl rfl) GOk.nil) zr Tryz.func81 rfl Tryz.ntmps81 Tryz.results81 4 ?_;rintro s hs;replace hs:qb s:=hs;have h1:=yS hs 256;refine⟨by simp,?_⟩;simp[go_sem,zCP,hs,h1,zh];exact⟨fun p _=>zWG _ _ p,⟨TrE.refl _,rfl,rfl,rfl⟩,rfl⟩
def zTw(f:Nat->Int):Nat->Int
 | 0=>88172645463325252
 | k+1=>IntKind.u64.wrap (zYP (zTw f k) (IntKind.u64.wrap (f k))*1099511628211)
def zB8(n:Nat)(f:Nat->Int):zAB:=⟨n,f,0,zTw f (min n 64),min ((n / 20:Nat):Int) 12⟩
noncomputable def zTt:zW:=qZ (fun q:Nat×(Nat->Int)=>[(false,[.s .z 1 q.1 (zDo q.2)])]) (fun q=>q.1<=2000000) (fun q=>[(true,srV (zB8 q.1 q.2))])
theorem zE2(n:Nat)(f:Nat->Int):zTt [(false,[.s .z 1 n (zDo f)])]=some (n<=2000000,[(true,srV (zB8 n f))]):=zO (fun l=>(zE9 (nth l 0 0),fun i=>match zCS (nth l 0 0) i 0 with | .v (.int _ x)=>x | _=>0)) (fun _=>rfl) (n,f)
theorem zJI:zOw Tryz.prog 24 zTt:=by
 refine zVh zs GOk.nil zr Tryz.func24 rfl Tryz.ntmps24 Tryz.results24 5 ?_;rintro⟨n,f⟩ hn;replace hn:n<=2000000:=hn;refine⟨by simp,?_⟩;simp[go_sem];refine yE (fun k:Nat=>⟨[(4,true,.i k),(3,true,.m false [.p 7 0]),(0,true,.m false [.s .z 1 n (zDo f)])],[(7,.var [.s .z 1 n (zDo f),.v i0,.v (.int .u64 (zTw f k)),.v i0])]⟩) (fun k=>n - k) (fun k=>k<=n/\k<=64) 0 (by simp[go_sem,zTw]) (by simp) ?_;rintro k ⟨hk,aA⟩;simp[go_sem,qB (show k<=1000000000 by omega)];refine⟨fun h1 h2=>⟨h1,by kernel_rfl,k+1,by omega,by omega,rfl,rfl⟩,fun h=>?_⟩;have hm:min n 64=k:=by omega
 rw[zCa (x:=(n:Int) / 20) (by omega) (by omega)];refine⟨fun h1=>⟨⟨TrE.refl _,zh⟩,rfl,by rw[<-hm];rfl,?_⟩,fun h1=>⟨⟨TrE.refl _,zh⟩,rfl,by rw[<-hm];rfl,?_⟩⟩
 ·show(12:Int)=min ((n / 20:Nat):Int) 12;omega
 ·show(n:Int) / 20=min ((n / 20:Nat):Int) 12;omega
theorem zKH{n:Nat}{f:Nat->Int}(h:n<=2000000)(hf:∀i,i<n->0<=f i/\f i<256):qb (zB8 n f):=⟨h,Nat.zero_le _,hf,by show 0<=min ((n / 20:Nat):Int) 12/\min ((n / 20:Nat):Int) 12<=12;omega⟩
def zWI(n:Nat)(f:Nat->Int):Int:=if nV (zB8 n f) 3=0 then [-1,0,200,201,zLt (nS (zB8 n f) 3)].getD (nV (nS (nS (zB8 n f) 3) 14) 5).toNat 0 else nV (nS (zB8 n f) 3) 30
noncomputable def zSe:zW:=qZ (fun q:Nat×(Nat->Int)=>[(false,[.s .z 1 q.1 (zDo q.2)])]) (fun q=>q.1<=2000000/\∀i,i<q.1->0<=q.2 i/\q.2 i<256) (fun q=>[iT (zWI q.1 q.2)])
theorem zHc(n:Nat)(f:Nat->Int):zSe [(false,[.s .z 1 n (zDo f)])]=some (n<=2000000/\∀i,i<n->0<=f i/\f i<256,[iT (zWI n f)]):=zO (fun l=>(zE9 (nth l 0 0),fun i=>match zCS (nth l 0 0) i 0 with | .v (.int _ x)=>x | _=>0)) (fun _=>rfl) (n,f)
theorem zLG:zw Tryz.prog 43 zSe:=by
 refine zQ zs (GOk.ptr zNf (zE Tryz.func47 rfl rfl) (GOk.ptr zJ7 (zE Tryz.func41 rfl rfl) (GOk.ptr zO5 (zE Tryz.func83 rfl rfl) (GOk.new zJI (zE Tryz.func24 rfl rfl) GOk.nil)))) zr Tryz.func43 rfl Tryz.ntmps43 Tryz.results43 4 ?_;rintro⟨n,f⟩ hn;obtain⟨hn,hf⟩:n<=2000000/\∀i,i<n->0<=f i/\f i<256:=hn;have hs:=zKH hn hf;have h1:=yS hs 3;have h2:=yS h1 14;have eD:zWI n f=if nV (zB8 n f) 3=0 then [-1,0,200,201,zLt (nS (zB8 n f) 3)].getD (nV (nS (nS (zB8 n f) 3) 14) 5).toNat 0 else nV (nS (zB8 n f) 3) 30:=rfl
 refine⟨by simp,?_⟩;by_cases h0:nV (zB8 n f) 3=0
 ·have hv:=zFN (nS (nS (zB8 n f) 3) 14) (m:=5) (by omega) (by omega);rcases(show nV (nS (nS (zB8 n f) 3) 14) 5=0\/nV (nS (nS (zB8 n f) 3) 14) 5=1\/nV (nS (nS (zB8 n f) 3) 14) 5=2\/nV (nS (nS (zB8 n f) 3) 14) 5=3\/nV (nS (nS (zB8 n f) 3) 14) 5=4 by omega)with h | h | h | h | h<;>simp[go_sem,zE2,zCP,zAH,zE1,hn,hs,h1,h2,h0,h,eD,zh]
 ·simp[go_sem,zE2,zCP,zAH,zE1,hn,hs,h1,h2,h0,eD,zh]
theorem zKp:zw Tryz.prog 18 zSe:=by
 refine zQ zs (GOk.keep zLG (zE Tryz.func43 rfl rfl) GOk.nil) zr Tryz.func18 rfl Tryz.ntmps18 Tryz.results18 3 ?_;rintro⟨n,f⟩ hn;obtain⟨hn,hf⟩:n<=2000000/\∀i,i<n->0<=f i/\f i<256:=hn;refine⟨by simp,?_⟩;simp[go_sem,zHc,hn];exact hf
set_option maxRecDepth 20000
set_option maxHeartbeats 1600000
theorem zOF{W:zC}{x:Int}:(zBl W.pn fun k=>(W.zb9 k).id=x)<0↔¬zCO W x:=by
 rcases zLz (zJB W.pn fun k=>(W.zb9 k).id=x)with⟨h,h1,-⟩ | ⟨h,h1⟩
 ·exact⟨fun e=>absurd e (by omega),fun e=>absurd h e⟩
 ·rw[h1];exact⟨fun _=>h,fun _=>by decide⟩
theorem zME{W:zC}{x:Int}:(0<=zBl W.pn fun k=>(W.zb9 k).id=x)↔zCO W x:=by
 rw[<-Int.not_lt,zOF,Classical.not_not]
theorem zCu{W:zC}{x:ByteArray}:(zBl W.sn fun k=>(W.zcC k).name=x)<0↔¬zBo W x:=by
 rcases zUq (zJB W.sn fun k=>(W.zcC k).name=x)with⟨h,h1⟩ | ⟨h,h1⟩
 ·exact⟨fun e=>absurd e (by omega),fun e=>absurd h e⟩
 ·rw[h1];exact⟨fun _=>h,fun _=>by decide⟩
theorem zBa{W:zC}{x:ByteArray}:(0<=zBl W.sn fun k=>(W.zcC k).name=x)↔zBo W x:=by
 rw[<-Int.not_lt,zCu,Classical.not_not]
theorem zaX{k:Nat}(h:k<=1000000000):IntKind.i64.wrap ((k:Int) - 1)=(k:Int) - 1:=by
 unfold IntKind.wrap;simp[IntKind.signed,IntKind.bits];omega
theorem tn1{k:Nat}:((k:Int) - 1).toNat=k - 1:=by omega
attribute [local go_sem] qW List.map_cons List.map_nil Tr.cv yo qG qw qv yn ym yk qu zAv zAx zAw zAs zAu zAt zCK zCM zCL qK zn qL zo qE qD qP yx zk zl yB qJ tmpsOf zAf yA qI zAr yu yq yp yr stpP opds opd opdC kap zAE qF zj coreU bin zAY zB6 get put dlO fgt zA6 zAz zA3 zA4 tyT yj yi Op.operands Call.operands evLoad evLen evStore evAlloc zAZ and_true true_and List.append_nil List.nil_append List.cons_append Ret resCv zBx yP cellM zBT zB3 qX StW StR hpT hpO hpV hpA hpL hpC sg nin zCD bdO tmW obW AvE CsE CvE Av.tup Av.ids Cv.ids inD ObE Ob.ids TrE.refl qH qx qy qM qN qO zm zb za yw zBd zCB zAy evCall argL argOf qj outOb obO yM zy cvO tot Tr.own rid partsOf fillC zT zBS frz frz1 evBuildSlice zc trs Cv.tr evSlice Option.toArray_none Option.toArray_some evMakeSlice evAppend dstOf srcOf zAq zA5 zA2 zA0 zA1 ikT qt qs qq qp RetP RetN zBe qR evLd evSt evStoreH zAP evAppendM evAppendT tlOf mvOf rowE shp evTake oOf evC evCallP evCallN evCallO unlast zAK zAp zAO argsF zCA qn pmC varT vT evField evConv dB0 Option.bind_some Option.bind_none Option.map_some Option.map_none Option.isSome_some Option.isSome_none
attribute [local go_sem] yF zY zAk yN qk zAS zAT zAU zAV zAW zAX yX yY yZ yb yd ye yf yg yG qe
noncomputable def zZ5:zW:=qZ (fun s:ByteArray=>[sT s]) (fun _=>True) (fun s=>bR (zDT s))
theorem zDd(s:ByteArray):zZ5 [sT s]=some (True,bR (zDT s)):=zO (fun l=>zEA (nth l 0 0)) (fun _=>rfl) s
theorem zET:zw Tryz.prog 85 zZ5:=by
 refine zQ zs GOk.nil zr Tryz.func85 rfl Tryz.ntmps85 Tryz.results85 5 ?_;rintro s -;refine⟨by simp,?_⟩;simp[go_sem];refine⟨fun h=>?_,fun h1 h2=>?_⟩
 ·exact fun hN=>by have h1:=hN.1;have h2:=hN.2.1;omega
 refine yE (fun k:Nat=>⟨[(0,true,.m false [.v (.string s)]),(3,true,.i k)],[]⟩) (fun k=>s.size - k) (fun k=>k<=s.size/\∀j,(h:j<k)->(h':j<s.size)->zGB j (s[j].toNat:Int)) 0 (by simp[go_sem]) (by simp) ?_;rintro k ⟨hk,aA⟩;simp[go_sem,qB (show k<=1000000000 by omega)];refine⟨fun hl=>?_,fun hl=>⟨by omega,by omega,fun j hj=>aA j (by omega) hj⟩⟩;have e:s[k]?.getD 0=s[k]:=by simp[hl]
 rw[e];obtain⟨c,hc⟩:∃c:Int,c=(s[k].toNat:Int):=⟨_,rfl⟩;have ho:zDT s->zGB k c:=fun hN=>hc▸hN.2.2 k hl
 have hn:zGB k c->∀j,(h:j<k+1)->(h':j<s.size)->zGB j (s[j].toNat:Int):=fun h j hj bA=>by
  by_cases e:j=k
  ·subst e;rw[<-hc];exact h
  ·exact aA j (by omega) bA
 rw[<-hc];unfold zGB at ho;refine⟨hl,fun a b c=>⟨⟨a,b⟩,c⟩,fun a b c=>⟨⟨a,b⟩,c⟩,fun a b=>⟨a,b⟩,fun a b hN=>?_,fun h=>⟨k+1,⟨by omega,hn ?_⟩,by omega,rfl⟩⟩
 ·have:=ho hN;omega
 ·unfold zGB;omega
noncomputable def zW1:zW:=qZ (fun W:zC=>[woT W]) (fun W=>W.sn<=1000000/\W.pn<=1000000) (fun W=>bR (zBk W))
theorem zVE(W:zC):zW1 [woT W]=some (W.sn<=1000000/\W.pn<=1000000,bR (zBk W)):=zO (fun l=>zC1 (nth l 0)) (fun _=>rfl) W
theorem zQn:zw Tryz.prog 56 zW1:=by
 refine zQ zs (GOk.cons zG5 (zE Tryz.func45 rfl rfl) (GOk.cons zDN (zE Tryz.func66 rfl rfl) (GOk.cons zDI (zE Tryz.func68 rfl rfl) (GOk.cons zET (zE Tryz.func85 rfl rfl) GOk.nil)))) zr Tryz.func56 rfl Tryz.ntmps56 Tryz.results56 8 ?_;rintro W ⟨hn,hm⟩;refine⟨by simp,?_⟩;simp[go_sem,zMX];refine⟨fun h hN=>?_,fun a1 a2 b1 b2 c1 c2=>?_⟩
 ·obtain⟨h1,h2,h3,h4,-⟩:=hN;unfold zHQ at h1 h2;omega
 refine yE (fun k:Nat=>⟨[(1,true,.m false [.p 1 0]),(3,true,.i k)],[(1,.var ((woL W).map Tr.cv))]⟩) (fun k=>W.sn - k) (fun k=>k<=W.sn/\∀i,i<k->zLQ W i) 0 (by simp[go_sem]) (by simp) ?_;rintro k ⟨hk,cA⟩;simp[go_sem,qB (show k<=1000000000 by omega),zDd,zCI,zAN,hm,hn,zOF,zME,zCu,zBa,zaX (show k<=1000000000 by omega),tn1];refine⟨fun hl=>?_,fun hl=>?_⟩
 ·have hS:zBk W->zLQ W k:=fun hN=>hN.2.2.2.2.1 k hl
  have hI:zLQ W k->∃a':Nat,(a'<=W.sn/\∀i,i<a'->zLQ W i)/\W.sn - a'<W.sn - k/\(k:Int)+1=(a':Int):=fun h=>⟨k+1,⟨by omega,qz hl cA h⟩,by omega,rfl⟩
  obtain⟨Q,hQ⟩:∃Q,Q=zLQ W k:=⟨_,rfl⟩;rw[<-hQ]at hS hI;unfold zLQ zC8 at hQ;refine⟨hl,fun _ _=>⟨by omega,by omega⟩,?_,?_,?_,?_,?_,by kernel_rfl,fun h hN=>?_,fun h1 h2 h3 h4=>hI ?_⟩
  ·grind
  ·grind
  ·grind
  ·grind
  ·grind
  ·have:=hS hN
   grind
  ·grind
 cases (show k=W.sn by omega);refine yE (fun k:Nat=>⟨[(1,true,.m false [.p 1 0]),(5,true,.i k)],[(1,.var ((woL W).map Tr.cv))]⟩) (fun k=>W.pn - k) (fun k=>k<=W.pn/\∀i,i<k->zRt W i) 0 (by simp[go_sem]) (by simp) ?_;rintro k ⟨hk,aA⟩;simp[go_sem,qB (show k<=1000000000 by omega),zDd,zCI,zAN,hm,hn,zOF,zME,zCu,zBa,zaX (show k<=1000000000 by omega),tn1];refine⟨fun hl=>?_,fun hl=>⟨⟨a1,a2⟩,⟨b1,b2⟩,by omega,by omega,cA,fun i hi=>aA i (by omega)⟩⟩;have hS:zBk W->zRt W k:=fun hN=>hN.2.2.2.2.2 k hl
 refine⟨hl,fun h hN=>?_,fun s1 s2 s3 s4 s5 s6=>⟨fun _=>⟨by omega,by omega⟩,fun _ _=>⟨by omega,by omega⟩,?_,?_,?_,?_,by kernel_rfl,fun h hN=>?_,fun p1 p2=>?_⟩⟩
 ·obtain⟨q1,q2,q3,q4,q5,q6⟩:=(hS hN).1
  grind
 ·grind
 ·grind
 ·grind
 ·grind
 ·obtain⟨q1,q2⟩:=(hS hN).2.1
  grind
 have hB:zZk W k:=⟨p1,p2⟩;refine yE (fun j:Nat=>⟨[(1,true,.m false [.p 1 0]),(5,true,.i k),(6,true,.m false [.p 6 0]),(7,true,.i j)],[(6,.var [.v (.int .i64 (W.zb9 k).id),.v (.string (W.zb9 k).name),.v (.string (W.zb9 k).set),.v (.int .i64 (W.zb9 k).zcD),.v (.int .i64 (W.zb9 k).time),.v (.int .i64 (W.zb9 k).rs),.v (.int .i64 (W.zb9 k).rb),.s .b 2 (W.zb9 k).dn (ptrsT (W.zb9 k).ds (W.zb9 k).db)]),(1,.var ((woL W).map Tr.cv))]⟩) (fun j=>k - j) (fun j=>j<=k/\zZl W k j) 0 (by simp[go_sem]) ⟨Nat.zero_le _,fun j hj=>absurd hj (Nat.not_lt_zero _)⟩ ?_;rintro j ⟨hj,hc⟩;simp[go_sem,qB (show j<=1000000000 by omega),qB (show k<=1000000000 by omega)];refine⟨fun bA=>⟨by omega,fun _=>by omega,by kernel_rfl,fun g1 g2 hN=>(hS hN).2.2 j bA ⟨zCY g1,zCY g2⟩,fun g=>⟨j+1,⟨by omega,fun i hi=>?_⟩,by omega,rfl⟩⟩,fun bA=>⟨k+1,⟨by omega,qz hl aA ⟨⟨s1,s2,s3,s4,s5,s6⟩,hB,fun i hi=>hc i (by omega)⟩⟩,by omega,rfl⟩⟩;by_cases e:i=j
 ·subst e;exact fun h=>g (congrArg ByteArray.toList h.1) (congrArg ByteArray.toList h.2)
 ·exact hc i (by omega)
open Go.Maps
open Classical in
noncomputable def zDh(W:zC)(name:ByteArray):Nat->Nat
 | 0=>0
 | k+1=>zDh W name k+(if (W.zb9 k).set=name then 1 else 0)
theorem zMr{W:zC}{name:ByteArray}{k:Nat}(h:(W.zb9 k).set=name):zDh W name (k+1)=zDh W name k+1:=by simp[zDh,h]
theorem zPd{W:zC}{name:ByteArray}{k:Nat}(h:¬(W.zb9 k).set=name):zDh W name (k+1)=zDh W name k:=by simp[zDh,h]
theorem zK9(W:zC)(name:ByteArray):∀k,zDh W name k<=k
 | 0=>Nat.le_refl _
 | k+1=>by
  have:=zK9 W name k;by_cases h:(W.zb9 k).set=name
  ·rw[zMr h];omega
  ·rw[zPd h];omega
inductive Steps (W:zC) (name:ByteArray) (start:Int):Nat->Int->Prop
 | zero:Steps W name start 0 start
 | next {n:Nat} {x:Int} {k:Nat}:Steps W name start n x->zBQ W x k->(W.zb9 k).set=name->Steps W name start (n+1) (W.zb9 k).zcD
def zGe(W:zC)(name:ByteArray)(x:Int):Prop:=∃k,zBQ W x k/\(W.zb9 k).set=name
def zGo(W:zC)(name:ByteArray)(start origin:Int):Prop:=∃n e,Steps W name start n e/\¬zGe W name e/\n=zDh W name W.pn/\e=origin
theorem Steps.det{W:zC}{name:ByteArray}{start:Int}:∀{n:Nat} {x y:Int},Steps W name start n x->Steps W name start n y->x=y
 | 0,_,_,.zero,.zero=>rfl
 | n+1,_,_,.next h hk _,.next h' hk' _=>by
  have e:=Steps.det h h';subst e;rw[zBQ.uniq hk hk']
theorem Steps.less{W:zC}{name:ByteArray}{start:Int}:∀{n m:Nat} {x:Int},Steps W name start m x->n<m->∃y,Steps W name start n y/\zGe W name y
 | n,0,_,_,h=>absurd h (Nat.not_lt_zero _)
 | n,m+1,_,.next (x:=x) h hk hs,hl=>by
  by_cases e:n=m
  ·subst e;exact⟨x,h,_,hk,hs⟩
  ·exact Steps.less h (by omega)
theorem Steps.end{W:zC}{name:ByteArray}{start:Int}{n m:Nat}{x y:Int}(h:Steps W name start n x)(hx:¬zGe W name x)(h':Steps W name start m y)(hy:¬zGe W name y):n=m/\x=y:=by
 have e:n=m:=by
  rcases Nat.lt_trichotomy n m with hl | hl | hl
  ·obtain⟨z,hz,ho⟩:=h'.less hl;rw[h.det hz]at hx;exact absurd ho hx
  ·exact hl
  ·obtain⟨z,hz,ho⟩:=h.less hl;rw[h'.det hz]at hy;exact absurd ho hy
 subst e;exact⟨rfl,h.det h'⟩
theorem zQu{W:zC}{name:ByteArray}{start origin:Int}{n:Nat}{x:Int}(h:Steps W name start n x)(hx:¬zGe W name x):zGo W name start origin↔n=zDh W name W.pn/\x=origin:=by
 constructor
 ·rintro⟨m,y,hs,hy,h1,h2⟩;obtain⟨rfl,rfl⟩:=h.end hx hs hy;exact⟨h1,h2⟩
 ·rintro⟨h1,h2⟩;exact⟨n,x,h,hx,h1,h2⟩
theorem zCO.no{W:zC}{x:Int}(h:zCO W x):∃k,zBQ W x k:=zKG (Nat.le_refl _) h
structure zEm (W:zC):Prop where
 ids:∀k,k<W.pn->1<=(W.zb9 k).id/\(W.zb9 k).id<900000
 zcD:∀k,k<W.pn->(W.zb9 k).zcD=0\/zCO W (W.zb9 k).zcD
 less:∀k,k<W.pn->(W.zb9 k).zcD<(W.zb9 k).id
 zcC:∀k,k<W.sn->(W.zcC k).zcD=0\/zCO W (W.zcC k).zcD
 zcE:∀k,k<W.sn->(W.zcC k).name.toList.isEmpty=false
theorem zEm.pos{W:zC}(h:zEm W):zOq W:=fun k hk=>(h.ids k hk).1
theorem zCO.range{W:zC}(h:zEm W){x:Int}(hx:zCO W x):1<=x/\x<900000:=by
 obtain⟨k,hk,rfl⟩:=hx;exact h.ids k hk
theorem zFa{s:ByteArray}(h:zDT s):s.toList.isEmpty=false:=by
 have:=h.1;rw[Go.ByteArray.toList_eq];cases s with
 | mk d=>
  cases hd:d.toList with
  | nil=>
   have h0:d.size=0:=(by rw[<-Array.length_toList,hd];rfl);have h1:1<=d.size:=this;omega
  | cons a l=>simp
theorem zBk.prevOk{W:zC}(h:zBk W):zEm W where
 ids:=fun k hk=>⟨(h.2.2.2.2.2 k hk).1.1,by have:=(h.2.2.2.2.2 k hk).1.2.1;have:=h.2.1.2;omega⟩
 zcD:=fun k hk=>by
  by_cases e:(W.zb9 k).zcD=0
  ·exact Or.inl e
  ·exact Or.inr ((h.2.2.2.2.2 k hk).2.1.2 e).2
 less:=fun k hk=>by
  by_cases e:(W.zb9 k).zcD=0
  ·have:=(h.2.2.2.2.2 k hk).1.1;omega
  ·exact((h.2.2.2.2.2 k hk).2.1.2 e).1
 zcC:=fun k hk=>by
  by_cases e:(W.zcC k).zcD=0
  ·exact Or.inl e
  ·exact Or.inr ((h.2.2.2.2.1 k hk).2.2.1 e)
 zcE:=fun k hk=>zFa (h.2.2.2.2.1 k hk).1
structure zDG (W:zC) (name:ByteArray) (start:Int) (n:Nat) (x:Int):Prop where
 steps:Steps W name start n x
 there:x=0\/zCO W x
 least:0<=x
 sum:(n:Int)+x<=900000
theorem zDG.start{W:zC}(h:zEm W)(name:ByteArray){x:Int}(hx:x=0\/zCO W x):zDG W name x 0 x where
 steps:=.zero
 there:=hx
 least:=by rcases hx with rfl | hx;exact Int.le_refl _;have:=hx.range h;omega
 sum:=by rcases hx with rfl | hx;decide;have:=hx.range h;omega
theorem zDG.next{W:zC}(h:zEm W){name:ByteArray}{start:Int}{n:Nat}{x:Int}(hw:zDG W name start n x){k:Nat}(hk:zBQ W x k)(hs:(W.zb9 k).set=name):zDG W name start (n+1) (W.zb9 k).zcD where
 steps:=hw.steps.next hk hs
 there:=h.zcD k hk.1
 least:=by rcases h.zcD k hk.1 with e | e;omega;have:=e.range h;omega
 sum:=by have h1:=h.less k hk.1;have h2:=hw.sum;have h3:=hk.2.1;omega
theorem zJV{W:zC}(h:zEm W)(name:ByteArray):¬zGe W name 0:=fun ⟨k,hk,_⟩=>by
 have:=(h.ids k hk.1).1;have:=hk.2.1;omega
theorem zMm{W:zC}{name:ByteArray}{x:Int}{k:Nat}(hk:zBQ W x k)(hs:¬(W.zb9 k).set=name):¬zGe W name x:=fun ⟨j,hj,e⟩=>hs (by rw[zBQ.uniq hk hj];exact e)
set_option linter.unusedSimpArgs false
set_option maxRecDepth 20000
set_option maxHeartbeats 1600000
def zIp(W:zC)(i:Nat):Prop:=zGo W (W.zcC i).name (W.zcC i).zcD (W.zcC i).origin
attribute [local go_sem] qW List.map_cons List.map_nil Tr.cv yo qG qw qv yn ym yk qu zAv zAx zAw zAs zAu zAt zCK zCM zCL qK zn qL zo qE qD qP yx zk zl yB qJ tmpsOf zAf yA qI zAr yu yq yp yr stpP opds opd opdC kap zAE qF zj coreU bin zAY zB6 get put dlO fgt zA6 zAz zA3 zA4 tyT yj yi Op.operands Call.operands evLoad evLen evStore evAlloc zAZ and_true true_and List.append_nil List.nil_append List.cons_append Ret resCv zBx yP cellM zBT zB3 qX StW StR hpT hpO hpV hpA hpL hpC sg nin zCD bdO tmW obW AvE CsE CvE Av.tup Av.ids Cv.ids inD ObE Ob.ids TrE.refl qH qx qy qM qN qO zm zb za yw zBd zCB zAy evCall argL argOf qj outOb obO yM zy cvO tot Tr.own rid partsOf fillC zT zBS frz frz1 evBuildSlice zc trs Cv.tr evSlice Option.toArray_none Option.toArray_some evMakeSlice evAppend dstOf srcOf zAq zA5 zA2 zA0 zA1 ikT qt qs qq qp RetP RetN zBe qR evLd evSt evStoreH zAP evAppendM evAppendT tlOf mvOf rowE shp evTake oOf evC evCallP evCallN evCallO unlast zAK zAp zAO argsF zCA qn pmC varT vT evField evConv dB0 Option.bind_some Option.bind_none Option.map_some Option.map_none Option.isSome_some Option.isSome_none
attribute [local go_sem] yF zY zAk yN qk zAS zAT zAU zAV zAW zAX yX yY yZ yb yd ye yf yg yG qe
noncomputable def zTh:zW:=qZ (fun W:zC=>[woT W]) (fun W=>zBk W) (fun W=>bR (∀i,i<W.sn->zIp W i))
theorem zSc(W:zC):zTh [woT W]=some (zBk W,bR (∀i,i<W.sn->zIp W i)):=zO (fun l=>zC1 (nth l 0)) (fun _=>rfl) W
theorem zPN:zw Tryz.prog 57 zTh:=by
 refine zQ zs (GOk.cons zDI (zE Tryz.func68 rfl rfl) GOk.nil) zr Tryz.func57 rfl Tryz.ntmps57 Tryz.results57 8 ?_;rintro W hN;replace hN:zBk W:=hN;have eA:W.sn<=8:=hN.2.2.1;have dA:W.pn<=20:=hN.2.2.2.1;have hm:W.pn<=1000000:=by omega
 have hP:=hN.prevOk;refine⟨by simp,?_⟩;simp[go_sem];refine yE (fun k:Nat=>⟨[(1,true,.m false [.p 1 0]),(3,true,.i k)],[(1,.var ((woL W).map Tr.cv))]⟩) (fun k=>W.sn - k) (fun k=>k<=W.sn/\∀i,i<k->zIp W i) 0 (by simp[go_sem]) (by simp) ?_;rintro k ⟨hk,cA⟩;simp[go_sem,qB (show k<=1000000000 by omega)];refine⟨fun hl=>?_,fun hl i hi=>cA i (by omega)⟩;refine yE (fun j:Nat=>⟨[(1,true,.m false [.p 1 0]),(3,true,.i k),(4,true,.m false [.v (.int .i64 0)]),(5,true,.i (zDh W (W.zcC k).name j)),(6,true,.i j)],[(1,.var ((woL W).map Tr.cv))]⟩) (fun j=>W.pn - j) (fun j=>j<=W.pn) 0 (by simp[go_sem,zDh]) (Nat.zero_le _) ?_;rintro j hj;have ho:=zK9 W (W.zcC k).name j;simp[go_sem,qB (show j<=1000000000 by omega),qB (show zDh W (W.zcC k).name j<=1000000000 by omega)];refine⟨fun bA=>⟨bA,hl,by kernel_rfl,fun h=>⟨j+1,bA,by omega,by rw[zMr (zCY h)];rfl,rfl⟩,fun h=>⟨j+1,bA,by omega,by rw[zPd fun e=>h (congrArg ByteArray.toList e)],rfl⟩⟩,fun bA=>⟨hl,?_⟩⟩;cases (show j=W.pn by omega);refine yE (fun q:Nat×Int=>⟨[(1,true,.m false [.p 1 0]),(3,true,.i k),(4,true,.i q.1),(5,true,.i (zDh W (W.zcC k).name W.pn)),(7,true,.m false [.v (.int .i64 q.2)])],[(1,.var ((woL W).map Tr.cv))]⟩) (fun q=>1000000 - q.1) (fun q=>zDG W (W.zcC k).name (W.zcC k).zcD q.1 q.2) (0,(W.zcC k).zcD) (by simp[go_sem]) (zDG.start hP _ (hP.zcC k hl)) ?_;rintro⟨a,x⟩ hw;replace hw:zDG W (W.zcC k).name (W.zcC k).zcD a x:=hw;have ha:a<=900000:=by have:=hw.least;have:=hw.sum;omega
 simp[go_sem,zCI,hm,qB (show a<=1000000000 by omega),qB (show k<=1000000000 by omega)];have aA:¬zGe W (W.zcC k).name x->(¬(a:Int)=(zDh W (W.zcC k).name W.pn:Nat)\/¬x=(W.zcC k).origin->∃x,x<W.sn/\¬zIp W x)/\((a:Int)=(zDh W (W.zcC k).name W.pn:Nat)->x=(W.zcC k).origin->∃a':Nat,(a'<=W.sn/\∀i,i<a'->zIp W i)/\W.sn - a'<W.sn - k/\(k:Int)+1=(a':Int)):=fun ho=>by
  have hi:=zQu (origin:=(W.zcC k).origin) hw.steps ho;refine⟨fun h=>⟨k,hl,fun hc=>?_⟩,fun h1 h2=>⟨k+1,⟨by omega,qz hl cA (hi.2 ⟨by exact_mod_cast h1,h2⟩)⟩,by omega,rfl⟩⟩;obtain⟨g1,g2⟩:=hi.1 hc;exact h.elim (fun h=>h (by exact_mod_cast g1)) (fun h=>h g2)
 by_cases hx:x=0
 ·subst hx;exact⟨fun h=>absurd rfl h,fun h=>absurd rfl h,by kernel_rfl,fun h=>absurd rfl h,fun _=>⟨fun _=>hl,aA (zJV hP _)⟩⟩
 ·obtain⟨q,hq⟩:=(hw.there.resolve_left hx).no;have e:(zBl W.pn fun k=>(W.zb9 k).id=x)=q:=zFj hq.1 hq.2.1 hq.2.2;have:=hq.1;rw[e,Int.toNat_natCast];exact⟨fun _=>⟨by omega,by omega⟩,fun _=>hl,by kernel_rfl,fun _ h=>⟨⟨by omega,by omega⟩,by kernel_rfl,a+1,_,hw.next hP hq (zCY h),by omega,rfl,rfl⟩,fun h=>⟨fun _=>hl,aA (zMm hq fun e=>h hx (congrArg ByteArray.toList e))⟩⟩
set_option maxRecDepth 20000
set_option maxHeartbeats 1600000
attribute [local go_sem] qW List.map_cons List.map_nil Tr.cv yo qG qw qv yn ym yk qu zAv zAx zAw zAs zAu zAt zCK zCM zCL qK zn qL zo qE qD qP yx zk zl yB qJ tmpsOf zAf yA qI zAr yu yq yp yr stpP opds opd opdC kap zAE qF zj coreU bin zAY zB6 get put dlO fgt zA6 zAz zA3 zA4 tyT yj yi Op.operands Call.operands evLoad evLen evStore evAlloc zAZ and_true true_and List.append_nil List.nil_append List.cons_append Ret resCv zBx yP cellM zBT zB3 qX StW StR hpT hpO hpV hpA hpL hpC sg nin zCD bdO tmW obW AvE CsE CvE Av.tup Av.ids Cv.ids inD ObE Ob.ids TrE.refl qH qx qy qM qN qO zm zb za yw zBd zCB zAy evCall argL argOf qj outOb obO yM zy cvO tot Tr.own rid partsOf fillC zT zBS frz frz1 evBuildSlice zc trs Cv.tr evSlice Option.toArray_none Option.toArray_some evMakeSlice evAppend dstOf srcOf zAq zA5 zA2 zA0 zA1 ikT qt qs qq qp RetP RetN zBe qR evLd evSt evStoreH zAP evAppendM evAppendT tlOf mvOf rowE shp evTake oOf evC evCallP evCallN evCallO unlast zAK zAp zAO argsF zCA qn pmC varT vT evField evConv dB0 Option.bind_some Option.bind_none Option.map_some Option.map_none Option.isSome_some Option.isSome_none
abbrev psT(n:Nat)(f g:Nat->Int):Bool×List Tr:=(false,[.s .b 2 n (ptrsT f g)])
abbrev psO(l:List (Int×Int)):Bool×List Tr:=(false,[.s .o 2 l.length (ptL l)])
def zUm(a:Tr):Nat×(Nat->Int)×(Nat->Int):=(zE9 a,fun i=>qg (zCS a i 0),fun i=>qg (zCS a i 1))
noncomputable def mIn:zW:=qZ (fun q:(Nat×(Nat->Int)×(Nat->Int))×Int×Int=>[psT q.1.1 q.1.2.1 q.1.2.2,pT q.2.1 q.2.2]) (fun q=>q.1.1<=1000000) (fun q=>bR (PIn q.1.1 q.1.2.1 q.1.2.2 q.2.1 q.2.2))
theorem zPQ(n:Nat)(f g:Nat->Int)(a b:Int):mIn [psT n f g,pT a b]=some (n<=1000000,bR (PIn n f g a b)):=zO (fun l=>(zUm (nth l 0 0),qg (nth l 1 0),qg (nth l 1 1))) (fun _=>rfl) ((n,f,g),a,b)
theorem zJK:zw Tryz.prog 65 mIn:=by
 refine zQ zs GOk.nil zr Tryz.func65 rfl Tryz.ntmps65 Tryz.results65 6 ?_;rintro⟨⟨n,f,g⟩,a,b⟩ hn;replace hn:n<=1000000:=hn;refine⟨by simp,?_⟩;simp[go_sem];refine yE (fun k:Nat=>⟨[(3,true,.m false [.p 3 0]),(0,true,.m false [.s .b 2 n (ptrsT f g)]),(5,true,.i k)],[(3,.var [.v (.int .i64 a),.v (.int .i64 b)])]⟩) (fun k=>n - k) (fun k=>k<=n/\∀i,i<k->¬(f i=a/\g i=b)) 0 (by simp[go_sem]) (by simp) ?_;rintro k ⟨hk,aA⟩;simp[go_sem,qB (show k<=1000000000 by omega)];refine⟨fun hl=>⟨hl,by kernel_rfl,fun h1 h2=>⟨k,hl,h1,h2⟩,fun h=>⟨k+1,⟨by omega,fun i hi h1 h2=>?_⟩,by omega,rfl⟩⟩,fun hl ⟨j,h1,h2⟩=>aA j (by omega) h2⟩;rcases Nat.lt_succ_iff_lt_or_eq.1 hi with h3 | rfl
 ·exact aA i h3 ⟨h1,h2⟩
 ·exact h h1 h2
noncomputable def zXD:zW:=qZ (fun q:(Nat×(Nat->Int)×(Nat->Int))×Int=>[psT q.1.1 q.1.2.1 q.1.2.2,iT q.2]) (fun q=>q.1.1<=1000000) (fun q=>[psO (zAc q.1.2.1 q.1.2.2 q.2 q.1.1),psO (zES q.1.2.1 q.1.2.2 q.2 q.1.1)])
theorem zFq(n:Nat)(f g:Nat->Int)(t:Int):zXD [psT n f g,iT t]=some (n<=1000000,[psO (zAc f g t n),psO (zES f g t n)]):=zO (fun l=>(zUm (nth l 0 0),qg (nth l 1 0))) (fun _=>rfl) ((n,f,g),t)
theorem zFM:zw Tryz.prog 106 zXD:=by
 refine zQ zs GOk.nil zr Tryz.func106 rfl Tryz.ntmps106 Tryz.results106 9 ?_;rintro⟨⟨n,f,g⟩,t⟩ hn;replace hn:n<=1000000:=hn;refine⟨by simp,?_⟩;simp[go_sem];refine yE (fun k:Nat=>⟨[(6,true,.m false [.h 7]),(7,true,.m false [.h 8]),(0,true,.m false [.s .b 2 n (ptrsT f g)]),(1,true,.i t),(8,true,.i k)],[(7,.row 2 (zAc f g t k).length (ptL (zAc f g t k))),(8,.row 2 (zES f g t k).length (ptL (zES f g t k)))]⟩) (fun k=>n - k) (fun k=>k<=n) 0 (by simp[go_sem,zAc,zES];exact zJa rfl) (by simp) ?_;rintro k hk;have hl:=zF5 f g t k;simp[go_sem,qB (show k<=1000000000 by omega)];refine⟨fun aA=>⟨aA,fun h=>⟨aA,by omega,k+1,by omega,by omega,by omega,zDC zEW (by simp[zAc,h]),zDD (by simp[zES,h])⟩,fun h=>⟨aA,by omega,k+1,by omega,by omega,by omega,zDD (by simp[zAc,Int.not_lt.2 h]),zDC zEW (by simp[zES,Int.not_lt.2 h])⟩⟩,fun aA=>?_⟩;cases (show k=n from by omega);exact⟨⟨zDD rfl,zDB⟩,zDD rfl,zDB⟩
noncomputable def zaE:zW:=qZ (fun q:Nat×(Nat->Int)×(Nat->Int)=>[psT q.1 q.2.1 q.2.2]) (fun q=>q.1<=1000000) (fun q=>bR (zAF q.1 q.2.1 q.2.2))
theorem zW7(n:Nat)(f g:Nat->Int):zaE [psT n f g]=some (n<=1000000,bR (zAF n f g)):=zO (fun l=>zUm (nth l 0 0)) (fun _=>rfl) (n,f,g)
theorem zOt:zw Tryz.prog 64 zaE:=by
 refine zQ zs (GOk.cons zG5 (zE Tryz.func45 rfl rfl) (GOk.cons zG4 (zE Tryz.func101 rfl rfl) GOk.nil)) zr Tryz.func64 rfl Tryz.ntmps64 Tryz.results64 5 ?_;rintro⟨n,f,g⟩ hn;replace hn:n<=1000000:=hn;refine⟨by simp,?_⟩;simp[go_sem];refine⟨fun h1 h=>by have:=h.1;omega,fun h1=>?_⟩;refine yE (fun k:Nat=>⟨[(0,true,.m false [.s .b 2 n (ptrsT f g)]),(3,true,.i k)],[]⟩) (fun k=>n - k) (fun k=>k<=n/\∀i,i<k->zGp (f i) (g i)/\∀j,j<i->f j≠f i) 0 (by simp[go_sem]) (by simp) ?_;rintro k ⟨hk,cA⟩;simp[go_sem,qB (show k<=1000000000 by omega),zMX,zJ2];refine⟨fun hl=>?_,fun hl=>⟨by omega,fun i hi=>(cA i (by omega)).1,fun i hi=>(cA i (by omega)).2⟩⟩;refine⟨hl,fun _ _=>hl,fun h h'=>?_,fun g1 g2 g3=>?_⟩
 ·have:=(h'.2.1 k hl);unfold zGp at this;unfold zBW at h;omega
 refine yE (fun j:Nat=>⟨[(0,true,.m false [.s .b 2 n (ptrsT f g)]),(3,true,.i k),(4,true,.i j)],[]⟩) (fun j=>k - j) (fun j=>j<=k/\∀i,i<j->f i≠f k) 0 (by simp[go_sem]) (by simp) ?_;rintro j ⟨hj,aA⟩;simp[go_sem,qB (show j<=1000000000 by omega),qB (show k<=1000000000 by omega)];exact⟨fun bA=>⟨by omega,hl,by kernel_rfl,fun h h'=>h'.2.2 k hl j bA h,fun h=>⟨j+1,⟨by omega,qz bA aA h⟩,by omega,rfl⟩⟩,fun bA=>⟨k+1,⟨by omega,qz hl cA ⟨by unfold zGp;unfold zBW at g3;omega,fun i hi=>aA i (by omega)⟩⟩,by omega,rfl⟩⟩
noncomputable def zaH:zW:=qZ (fun q:(Nat×(Nat->Int)×(Nat->Int))×Nat×(Nat->Int)×(Nat->Int)=>[psT q.1.1 q.1.2.1 q.1.2.2,psT q.2.1 q.2.2.1 q.2.2.2]) (fun q=>q.1.1<=1000000/\q.2.1<=1000000) (fun q=>bR (zFf q.1.1 q.1.2.1 q.1.2.2 q.2.1 q.2.2.1 q.2.2.2))
theorem zMb(n:Nat)(f g:Nat->Int)(n':Nat)(f' g':Nat->Int):zaH [psT n f g,psT n' f' g']=some (n<=1000000/\n'<=1000000,bR (zFf n f g n' f' g')):=zO (fun l=>(zUm (nth l 0 0),zUm (nth l 1 0))) (fun _=>rfl) ((n,f,g),n',f',g')
theorem zKN:zw Tryz.prog 34 zaH:=by
 refine zQ zs (GOk.cons zOt (zE Tryz.func64 rfl rfl) (GOk.cons zJK (zE Tryz.func65 rfl rfl) GOk.nil)) zr Tryz.func34 rfl Tryz.ntmps34 Tryz.results34 6 ?_;rintro⟨⟨n,f,g⟩,n',f',g'⟩ ⟨hn,aA⟩;replace hn:n<=1000000:=hn;replace aA:n'<=1000000:=aA;refine⟨by simp,?_⟩;simp[go_sem,zW7,hn,aA];refine⟨fun h h'=>?_,fun h1 h2 h3=>?_⟩
 ·have:=h'.2.2.1;rcases h with(h | h) | h
  ·exact h h'.1
  ·exact h h'.2.1
  ·omega
 refine yE (fun k:Nat=>⟨[(0,true,.m false [.s .b 2 n (ptrsT f g)]),(1,true,.m false [.s .b 2 n' (ptrsT f' g')]),(5,true,.i k)],[]⟩) (fun k=>n - k) (fun k=>k<=n/\∀i,i<k->PIn n' f' g' (f i) (g i)) 0 (by simp[go_sem]) (by simp) ?_;rintro k ⟨hk,bA⟩;simp[go_sem,qB (show k<=1000000000 by omega),zPQ,aA];exact⟨fun hl=>⟨hl,fun h h'=>h (h'.2.2.2 k hl),fun h=>⟨k+1,⟨by omega,qz hl bA h⟩,by omega,rfl⟩⟩,fun hl=>⟨h1,h2,by omega,fun i hi=>bA i (by omega)⟩⟩
theorem zPO{l m:List (Int×Int)}{k:Nat}(hk:k<l.length)(h:(zx l k,qS l k)∈m):zB7 (l.take (k+1)) m=zB7 (l.take k) m:=by
 unfold zx qS at h;rw[zBL hk]at h;unfold zB7;rw[List.take_succ_eq_append_getElem hk,List.filter_append,List.filter_cons];simp only[List.filter_nil];rw[if_neg (by simp;exact h),List.append_nil]
theorem zMR{l m:List (Int×Int)}{k:Nat}(hk:k<l.length)(h:(zx l k,qS l k)∉m):zB7 (l.take (k+1)) m=zB7 (l.take k) m ++ [(zx l k,qS l k)]:=by
 unfold zx qS at h ⊢;rw[zBL hk]at h ⊢;unfold zB7;rw[List.take_succ_eq_append_getElem hk,List.filter_append,List.filter_cons];simp only[List.filter_nil];rw[if_pos (by simp;exact h)]
theorem zQr(l m:List (Int×Int))(k:Nat):(zB7 (l.take k) m).length<=k:=by
 unfold zB7;exact Nat.le_trans (List.length_filter_le _ _) (by rw[List.length_take];omega)
end Go.Proofs.YtbplmbafodlboaaGreatDoor
