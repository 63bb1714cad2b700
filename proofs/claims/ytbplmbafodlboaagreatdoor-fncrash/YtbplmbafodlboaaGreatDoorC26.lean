/- A part of the proof. -/
import Derived.Test.YtbplmbafodlboaaGreatDoorC25
set_option linter.unusedVariables false
set_option maxRecDepth 20000
set_option maxHeartbeats 4000000
namespace Go.Proofs.YtbplmbafodlboaaGreatDoor
open Go.RowKit
set_option linter.unusedSimpArgs false
set_option maxRecDepth 20000
set_option maxHeartbeats 3200000
open Classical in
noncomputable def zEg(S:zx):zE8:=if zBM S then⟨⟨S.zcz,S.zcz⟩,0⟩else zAj 1
attribute [local go_sem] qX List.map_cons List.map_nil Tr.cv yp qD qs qq yo yn ym qp zAu zAw zAv zAr zAt zAs zCF zCH zCG qH zl qI zm qB qA qM yx zi zj qw qG tmpsOf zAf qv qF zAp yv yr yq yu stpP opds opd opdC kap zAG qC zh coreU bin zAb zB0 get put dlO fgt zA8 zA1 zA5 zA6 tyT yj yi Op.operands Call.operands evLoad evLen evStore evAlloc zAa and_true true_and List.append_nil List.nil_append List.cons_append Ret resCv zBs yQ cellM zBV zBw qY StW StR hpT hpO hpV hpA hpL hpC sg nin zB6 bdO tmW obW AvE CsE CvE Av.tup Av.ids Cv.ids inD ObE Ob.ids TrE.refl qE qt qu qJ qK qL zk ze zb yw zBc zB1 zAy evCall argL argOf qh outOb obO yL zy cvO tot Tr.own rid partsOf fillC zW zBU frz frz1 evBuildSlice zc trs Cv.tr evSlice Option.toArray_none Option.toArray_some evMakeSlice evAppend dstOf srcOf zBC zA7 zA4 zA2 zA3 ikT qn qm ql qk RetP RetN zBd qQ evLd evSt evStoreH zAX evAppendM evAppendT tlOf mvOf rowE shp evTake oOf evC evCallP evCallN evCallO unlast zAW zBB zAU argsF zB5 qy pmC varT vT evField evConv dB0 Option.bind_some Option.bind_none Option.map_some Option.map_none Option.isSome_some Option.isSome_none
attribute [local go_sem] yC zX zAg yI qe zAO zAP zAQ zAR zAS zAT yV yW yX yY yZ yb yd ye qz qV
attribute [-go_sem] zX
attribute [local go_sem] yS zBX zBY yg yG
theorem zTP{fl:Fl}(f:Nat->zM)(n k:Nat)(t:zM)(h:zDu (f k) t):TrE (.s fl 3 n (yK (zY .z f) k 0 [.v (.int .i64 t.birth),.s .z 2 t.kn (ptrsT t.ks t.kb),.v (.string t.data)])) (.s fl 3 n (zY .z f)):=by
 obtain⟨h1,⟨h2,h3⟩,h4⟩:=h;refine⟨.inl rfl,rfl,rfl,fun i j hi hj=>?_⟩;by_cases e:i=k
 ·subst e
  match j,hj with
  | 0,_=>exact TrE.of_eq (by simp[yK,zY,h1])
  | 1,_=>
   simp only[yK,zY];simp;refine⟨.inl rfl,rfl,h2.symm,fun a b ha hb=>TrE.of_eq ?_⟩;have:=h3 a (by omega)
   match b,hb with
   | 0,_=>simp[ptrsT,this.1]
   | 1,_=>simp[ptrsT,this.2]
  | 2,_=>exact TrE.of_eq (by simp[yK,zY,h4])
 ·exact TrE.of_eq (by simp[yK,e])
noncomputable def zRS:za:=qZ (fun S:zx=>[stT S]) (fun S=>qO S.zc0/\qO S.zcz) (fun S=>[soO (zEg S)])
theorem zFd(S:zx):zRS [stT S]=some (qO S.zc0/\qO S.zcz,[soO (zEg S)]):=zO (fun l=>zLu (nth l 0)) (fun _=>rfl) S
theorem zNb:zp Tryz.prog 7 zRS:=by
 refine zR zs (GOk.cons zEI (zF Tryz.func9 rfl rfl) (GOk.cons zBm (zF Tryz.func27 rfl rfl) (GOk.cons zD1 (zF Tryz.func28 rfl rfl) (GOk.cons zMU (zF Tryz.func29 rfl rfl) GOk.nil)))) zr Tryz.func7 rfl Tryz.ntmps7 Tryz.results7 5 ?_;rintro S ⟨h1,h2⟩;replace h1:qO S.zc0:=h1;replace h2:qO S.zcz:=h2;have hS:zEe S:=⟨h1.toSmallW,h2.toSmallW⟩;refine⟨by simp,?_⟩;by_cases a:zBM S;rotate_left
 ·have e:zEg S=zAj 1:=if_neg a;simp[go_sem,zCC,hS,a,e,zAj,noW,zEi]
 have e:zEg S=⟨⟨S.zcz,S.zcz⟩,0⟩:=if_pos a;have hN:=h2.n;simp[go_sem,zCC,yJ,hS,h2,a,e];refine yF (fun k:Nat=>⟨[(4,true,.i k),(3,true,.m false [.p 3 0]),(2,true,.m false [.p 2 0]),(1,true,.m false [.p 1 0])],[(3,.var [.h 61,.h 62,.v (.int .i64 S.zcz.time),.v (.int .i64 S.zcz.next),.h 63,.h 64]),(64,.row 8 S.zcz.pn (snapsE .z S.zcz.zcy)),(63,.row 6 S.zcz.sn (setsE .o S.zcz.zc1)),(62,.row 1 S.zcz.pool.hn (qx S.zcz.pool.h)),(61,.row 3 S.zcz.pool.n (zY .z S.zcz.pool.s)),(2,.var [.v n0,.v n0,.v i0,.v i0,.v n0,.v n0,.v n0,.v n0,.v i0,.v i0,.v n0,.v n0,.v i0]),(1,.var ((stT S).2.map Tr.cv))]⟩) (fun k=>S.zcz.pool.n - k) (fun k=>k<=S.zcz.pool.n) 0 (by simp[go_sem]) (Nat.zero_le _) ?_;intro k hk;simp[go_sem,qN (show k<=1000000000 by omega),zFM,zRP,yJ,h2];refine⟨fun hl=>⟨hl,fun hf=>⟨by have:=a.many;omega,h1.kn k (by have:=a.many;omega),hl,by kernel_rfl,k+1,by omega,by omega,rfl,zTP S.zcz.pool.s S.zcz.pool.n k (S.zc0.pool.s k) (a.slots k hl hf)⟩,fun _=>⟨k+1,by omega,by omega,rfl⟩⟩,fun hl=>⟨by kernel_rfl,zU,zd,zt,zf,zU,zd,zt,zf⟩⟩
set_option maxRecDepth 20000
set_option maxHeartbeats 3200000
attribute [local go_sem] qX List.map_cons List.map_nil Tr.cv yp qD qs qq yo yn ym qp zAu zAw zAv zAr zAt zAs zCF zCH zCG qH zl qI zm qB qA qM yx zi zj qw qG tmpsOf zAf qv qF zAp yv yr yq yu stpP opds opd opdC kap zAG qC zh coreU bin zAb zB0 get put dlO fgt zA8 zA1 zA5 zA6 tyT yj yi Op.operands Call.operands evLoad evLen evStore evAlloc zAa and_true true_and List.append_nil List.nil_append List.cons_append Ret resCv zBs yQ cellM zBV zBw qY StW StR hpT hpO hpV hpA hpL hpC sg nin zB6 bdO tmW obW AvE CsE CvE Av.tup Av.ids Cv.ids inD ObE Ob.ids TrE.refl qE qt qu qJ qK qL zk ze zb yw zBc zB1 zAy evCall argL argOf qh outOb obO yL zy cvO tot Tr.own rid partsOf fillC zW zBU frz frz1 evBuildSlice zc trs Cv.tr evSlice Option.toArray_none Option.toArray_some evMakeSlice evAppend dstOf srcOf zBC zA7 zA4 zA2 zA3 ikT qn qm ql qk RetP RetN zBd qQ evLd evSt evStoreH zAX evAppendM evAppendT tlOf mvOf rowE shp evTake oOf evC evCallP evCallN evCallO unlast zAW zBB zAU argsF zB5 qy pmC varT vT evField evConv dB0 Option.bind_some Option.bind_none Option.map_some Option.map_none Option.isSome_some Option.isSome_none
attribute [local go_sem] yC zX zAg yI qe zAO zAP zAQ zAR zAS zAT yV yW yX yY yZ yb yd ye qz qV
attribute [-go_sem] zX zAb
attribute [local go_sem] yS zBX zBY yg yG zHo zHp zKf zKd zKe zG6 zG7 zG8 zKY zKc zKb zKa zKZ zCj
def zFg(s:zAK)(p:zE):zAK×Int×Int:=if nV s 8=0\/p.n=0 then(nS (nS (nS s 8) 14) 4,zQg (nS s 8),nV (nS (nS s 8) 14) 4)else(nS (nS s 8) p.n,nV (nS s 8) p.n,(p.s (nV (nS s 8) p.n).toNat).birth)
noncomputable def za2:za:=qZ (fun q:zAK×zE=>(true,srV q.1) :: [poT q.2.n q.2.s q.2.hn q.2.h]) (fun q=>qi q.1/\q.2.n<=1000000) (fun q=>[(true,srV (zFg q.1 q.2).1),pT (zFg q.1 q.2).2.1 (zFg q.1 q.2).2.2])
theorem zXt(s:zAK)(p:zE):za2 ((true,srV s) :: [poT p.n p.s p.hn p.h])=some (qi s/\p.n<=1000000,[(true,srV (zFg s p).1),pT (zFg s p).2.1 (zFg s p).2.2]):=zO (fun l=>(zHB (nth l 0),zDm (nth l 1 0) (nth l 1 1))) (fun _=>rfl) (s,p)
theorem zVj:zBr Tryz.prog 82 za2:=by
 refine zBa zs (GOk.ptr zPm (zF Tryz.func47 rfl rfl) (GOk.ptr zPt (zF Tryz.func41 rfl rfl) (GOk.ptr zTt (zF Tryz.func83 rfl rfl) GOk.nil))) zr Tryz.func82 rfl Tryz.ntmps82 Tryz.results82 6 ?_;rintro⟨s,p⟩ hs;obtain⟨hs,hp⟩:qi s/\p.n<=1000000:=hs;have h1:=zAI hs 8;have h2:=zAI h1 14;refine⟨by simp,?_⟩;by_cases h0:nV s 8=0
 ·simp[go_sem,zCq,zBH,zHN,hs,h1,h2,h0,zFg,zw]
 by_cases hn:p.n=0
 ·simp[go_sem,zCq,zBH,zHN,hs,h1,h2,h0,hn,zFg,zw]
 have hv:=zJc (nS s 8) (m:=p.n) (by omega);simp[go_sem,zCq,zBH,zHN,hs,h1,h2,h0,hn,zFg,zw];exact⟨by omega,hv.1,by omega⟩
noncomputable def stepAt(s:zAK)(W:zB)(x:ByteArray)(a:Int):Nat->zAK×zDe
 | 0=>(s,zCZ W x)
 | 1=>(zLG s,zK6 W x (zRc s))
 | 2 | 3 | 4=>(nS s 3,zEX W x ([⟨#[115,49]⟩,⟨#[115,50]⟩,⟨#[115,51]⟩].getD (nV s 3).toNat ⟨#[]⟩))
 | 5=>(s,sdE W a)
 | 6 | 7=>(nS s 3,zEz W a ([⟨#[98]⟩,⟨#[99]⟩,⟨#[100]⟩].getD (nV s 3).toNat ⟨#[]⟩))
 | 8=>(s,zKh W x)
 | 9=>(s,zKy W x)
 | 10=>(s,zRh W x)
 | 11=>(s,⟨{W with pool:=zA0 W.pool},0,0,0⟩)
 | _=>(zTq (zLG s),zHb W x (zRc s) (zTr (zLG s)))
noncomputable def zBe(s:zAK)(W:zB):zAK×zDe:=stepAt (nS (nS (nS s (max 1 W.next)) 5) 16) W (zRZ (nS s (max 1 W.next))) (1+nV s (max 1 W.next)) (nV (nS (nS s (max 1 W.next)) 5) 16).toNat
noncomputable def zbA:za:=qZ (fun q:zAK×zB=>(true,srV q.1) :: [woT q.2]) (fun q=>qi q.1/\qO q.2/\q.2.next<=1000000000) (fun q=>[(true,srV (zBe q.1 q.2).1),wuO (zBe q.1 q.2).2])
theorem zHO(s:zAK)(W:zB):zbA ((true,srV s) :: [woT W])=some (qi s/\qO W/\W.next<=1000000000,[(true,srV (zBe s W).1),wuO (zBe s W).2]):=zO (fun l=>(zHB (nth l 0),zCX (nth l 1))) (fun _=>rfl) (s,W)
theorem zMY:zBr Tryz.prog 40 zbA:=by
 refine zBa zs (GOk.cons zBm (zF Tryz.func27 rfl rfl) (GOk.cons zKR (zF Tryz.func36 rfl rfl) (GOk.ptr zPm (zF Tryz.func47 rfl rfl) (GOk.cons zJu (zF Tryz.func48 rfl rfl) (GOk.cons zVi (zF Tryz.func69 rfl rfl) (GOk.ptr zSz (zF Tryz.func70 rfl rfl) (GOk.cons zSM (zF Tryz.func71 rfl rfl) (GOk.ptr zSW (zF Tryz.func72 rfl rfl) (GOk.cons zSN (zF Tryz.func73 rfl rfl) (GOk.ptr zUu (zF Tryz.func74 rfl rfl) (GOk.cons zLc (zF Tryz.func75 rfl rfl) (GOk.cons zQF (zF Tryz.func76 rfl rfl) (GOk.cons zNa (zF Tryz.func77 rfl rfl) (GOk.cons zQJ (zF Tryz.func78 rfl rfl) (GOk.cons zSK (zF Tryz.func79 rfl rfl) (GOk.cons zQL (zF Tryz.func80 rfl rfl) (GOk.ptr zSr (zF Tryz.func81 rfl rfl) GOk.nil))))))))))))))))) zr Tryz.func40 rfl Tryz.ntmps40 Tryz.results40 70 ?_;rintro⟨s,W⟩ hs;obtain⟨hs,hW,hx⟩:qi s/\qO W/\W.next<=1000000000:=hs;have hm:max 1 W.next<=1000000000000000000:=by omega
 have hi:=zJc s hm;have hw:IntKind.i64.wrap (1+nV s (max 1 W.next))=1+nV s (max 1 W.next):=zCh (by omega) (by omega);obtain⟨t,ht⟩:∃t,zBe s W=t:=⟨_,rfl⟩;obtain⟨a,ea⟩:∃a,1+nV s (max 1 W.next)=a:=⟨_,rfl⟩;rw[ea]at hw;obtain⟨s1,e1⟩:∃s1,nS s (max 1 W.next)=s1:=⟨_,rfl⟩;obtain⟨x,ex⟩:∃x,zRZ s1=x:=⟨_,rfl⟩;obtain⟨s2,e2⟩:∃s2,nS s1 5=s2:=⟨_,rfl⟩;obtain⟨s3,e3⟩:∃s3,nS s2 16=s3:=⟨_,rfl⟩;obtain⟨v,hv⟩:∃v:Nat,nV s2 16=v:=⟨_,(Int.toNat_of_nonneg (zJc s2 (m:=16) (by omega)).1).symm⟩;have h1:qi s1:=e1▸zAI hs _;have h2:qi s2:=e2▸zAI h1 5;have h3:qi s3:=e3▸zAI h2 16;have hn:=hW.n;have hh:=hW.hn;have hk:(∀i,i<W.pool.n->(W.pool.s i).kn<=1000000)↔True:=⟨fun _=>trivial,fun _=>hW.kn⟩;have hq:t=stepAt s3 W x a v:=by
  rw[<-ht];unfold zBe;rw[e1,e2,e3,ex,ea,hv];rfl
 have q0:v=0->t=(s3,zCZ W x):=fun h=>by rw[hq,h];rfl
 have q1:v=1->t=(zLG s3,zK6 W x (zRc s3)):=fun h=>by rw[hq,h];rfl
 have q2:v=2\/v=3\/v=4->t=(nS s3 3,zEX W x ([⟨#[115,49]⟩,⟨#[115,50]⟩,⟨#[115,51]⟩].getD (nV s3 3).toNat ⟨#[]⟩)):=fun h=>by rcases h with h | h | h<;>(rw[hq,h];rfl)
 have q5:v=5->t=(s3,sdE W a):=fun h=>by rw[hq,h];rfl
 have q6:v=6\/v=7->t=(nS s3 3,zEz W a ([⟨#[98]⟩,⟨#[99]⟩,⟨#[100]⟩].getD (nV s3 3).toNat ⟨#[]⟩)):=fun h=>by rcases h with h | h<;>(rw[hq,h];rfl)
 have q8:v=8->t=(s3,zKh W x):=fun h=>by rw[hq,h];rfl
 have q9:v=9->t=(s3,zKy W x):=fun h=>by rw[hq,h];rfl
 have aA:v=10->t=(s3,zRh W x):=fun h=>by rw[hq,h];rfl
 have bA:v=11->t=(s3,⟨{W with pool:=zA0 W.pool},0,0,0⟩):=fun h=>by rw[hq,h];rfl
 have cA:12<=v->t=(zTq (zLG s3),zHb W x (zRc s3) (zTr (zLG s3))):=fun h=>by
  obtain⟨w,rfl⟩:∃w,v=w+12:=⟨v - 12,by omega⟩;rw[hq];rfl
 clear hq;refine⟨by simp,?_⟩;show ev _ _ _ _ _ _ (zNt _ _ [(true,srV (zBe s W).1),wuO (zBe s W).2]);rw[ht];simp[go_sem,zZu,zCq,zVu,zZv,zXi,zVw,zIj,zX6,zV2,zRR,zVt,zbh,zXj,zXw,zZw,yJ,zRT,hs,hW,h1,h2,h3,e1,e2,e3,ex,ea,hm,hw,hv,hn,hh,hk,zPo h3]
 repeat' first | refine⟨fun _=>?_,fun _=>?_⟩ | fail
 all_goals first
  | (exfalso;omega)
  | rw[q0 (by omega)]
  | rw[q1 (by omega)]
  | rw[q2 (by omega)]
  | rw[q5 (by omega)]
  | rw[q6 (by omega)]
  | rw[q8 (by omega)]
  | rw[q9 (by omega)]
  | rw[aA (by omega)]
  | rw[bA (by omega)]
  | rw[cA (by omega)]
 all_goals first
  | exact⟨⟨⟨TrE.refl _,zw⟩,rfl,rfl,rfl⟩,⟨TrE.refl _,zU⟩,⟨TrE.refl _,zd⟩,rfl,rfl,⟨TrE.refl _,zt⟩,⟨TrE.refl _,zf⟩,rfl,rfl,rfl⟩
  | exact⟨by as_aux_lemma=>kernel_rfl,⟨⟨TrE.refl _,zw⟩,rfl,rfl,rfl⟩,⟨TrE.refl _,zU⟩,⟨TrE.refl _,zd⟩,rfl,rfl,⟨TrE.refl _,zt⟩,⟨TrE.refl _,zf⟩,rfl,rfl,rfl⟩
structure zFU (c:Nat) (s:zAV):Prop where
  dn:s.dn<=450+c
  name:s.name.size<=8000
  zc2:0<=s.zc2/\s.zc2<=1000000
structure zFz (c:Nat) (s:zz):Prop where
  dn:s.dn<=450+c
  name:s.name.size<=8000
  set:s.set.size<=8000
  zc2:0<=s.zc2/\s.zc2<=1000000
structure zB4 (c:Nat) (W:zB):Prop where
  pool:yD W.pool<=19000+c
  sn:W.sn<=9
  pn:W.pn<=21
  next:0<=W.next/\W.next<=900001
  zc1:∀i,i<W.sn->zFU c (W.zc1 i)
  zcy:∀i,i<W.pn->zFz c (W.zcy i)
theorem zCQ{c:Nat}{e:Int}:zB4 c (yM e).world:=⟨by show yD (zEi 0)<=_;exact Nat.zero_le _,Nat.zero_le _,Nat.zero_le _,by show(0:Int)<=0/\(0:Int)<=900001;omega,fun i hi=>absurd hi (Nat.not_lt_zero _),fun i hi=>absurd hi (Nat.not_lt_zero _)⟩
structure zQH (W:zB):Prop where
  pool:yD W.pool<=10000
  sn:W.sn<=8
  pn:W.pn<=20
  next:1<=W.next/\W.next<=900000
  zc1:∀i,i<W.sn->(W.zc1 i).dn<=200/\(W.zc1 i).name.size<=20/\0<=(W.zc1 i).zc2/\(W.zc1 i).zc2<=900000
  zcy:∀i,i<W.pn->(W.zcy i).dn<=200/\(W.zcy i).name.size<=20/\(W.zcy i).set.size<=20/\0<=(W.zcy i).zc2/\(W.zcy i).zc2<=900000
theorem zGi{W:zB}(h:zAL W):zQH W:=by
  obtain⟨n1,n2,n3,n4,n5,n6⟩:=h.zc3;have hp:=h.zc3.prevOk;have hd:=zRq h;have pr:∀x,x=0\/zB2 W x->0<=x/\x<=900000:=fun x hx=>by
    rcases hx with rfl | hx
    · omega
    · have:=hx.range hp;omega
  refine⟨zFh h.right,n3,n4,n2,fun i hi=>⟨hd.1 i hi,(n5 i hi).1.2.1,pr _ (hp.zc1 i hi)⟩,fun i hi=>⟨hd.2 i hi,(n6 i hi).1.2.2.2.2.1.2.1,?_,pr _ (hp.zc2 i hi)⟩⟩;obtain⟨j,hj,e⟩:=(n6 i hi).1.2.2.2.2.2;rw[<-e];exact(n5 j hj).1.2.1
theorem zQH.set{W:zB}(h:zQH W){i:Nat}(hi:i<W.sn):zFU 0 (W.zc1 i):=by
  obtain⟨h1,h2,h3,h4⟩:=h.zc1 i hi;exact⟨by omega,by omega,h3,by omega⟩
theorem zQH.snap{W:zB}(h:zQH W){i:Nat}(hi:i<W.pn):zFz 0 (W.zcy i):=by
  obtain⟨h1,h2,h3,h4,h5⟩:=h.zcy i hi;exact⟨by omega,by omega,by omega,h4,by omega⟩
theorem zB4.up{c:Nat}{W:zB}(h:zB4 0 W):zB4 c W:=⟨Nat.le_trans h.pool (by omega),h.sn,h.pn,h.next,fun i hi=>⟨Nat.le_trans (h.zc1 i hi).dn (by omega),(h.zc1 i hi).name,(h.zc1 i hi).zc2⟩,fun i hi=>⟨Nat.le_trans (h.zcy i hi).dn (by omega),(h.zcy i hi).name,(h.zcy i hi).set,(h.zcy i hi).zc2⟩⟩
theorem zFR(p:zE)(l:List (Int×Int)):yD (yN p l)=yD p+l.length:=by
  obtain⟨h1,h2,h3⟩:=zB9 l p;unfold yD;rw[h1,h2,h3];omega
theorem zRu{f:Nat->zM}{j:Nat}:∀{n:Nat},j<n->zCg (f j)<=zBK f n:=fun h=>zNG f h
theorem zB4.zc5{c:Nat}{W:zB}(h:zB4 c W)(hc:c<=10):qO W:=by
  have hp:=h.pool;have h1:W.pool.n<=yD W.pool:=(by unfold yD;omega);have h2:W.pool.hn<=yD W.pool:=Nat.le_add_left ..;have h3:zBK W.pool.s W.pool.n<=yD W.pool:=(by unfold yD;omega);have hs:=h.sn;have hn:=h.pn;refine⟨⟨by omega,by omega,by omega,by omega,fun i hi=>?_,fun i hi=>?_⟩,fun i hi=>?_⟩
  · have:=(h.zc1 i hi).dn;omega
  · have:=(h.zcy i hi).dn;omega
  · have:=zRu (f:=W.pool.s) hi
    have:(W.pool.s i).kn<=zCg (W.pool.s i):=Nat.le_add_right ..;omega
theorem zK0{f g:Nat->zM}:∀{n:Nat},(∀i,i<n->zCg (f i)<=zCg (g i))->zBK f n<=zBK g n
  | 0,_=>Nat.le_refl _
  | n+1,h=>Nat.add_le_add (zK0 fun i hi=>h i (by omega)) (h n (by omega))
theorem zOr(p:zE):yD (zA0 p)<=yD p:=by
  by_cases h:zq p/\zq (zBj p)
  · rw[zGK h.1 h.2]
    have:zBK (zBj p).s p.n<=zBK p.s p.n:=zK0 fun i hi=>by
      show zCg ((zDG p p.hn).s i)<=_;unfold zDG;dsimp only;split
      · exact Nat.zero_le _
      · exact Nat.le_refl _
    show p.n+zBK (zBj p).s p.n+0<=p.n+zBK p.s p.n+p.hn;omega
  · rw[zGt h];exact Nat.le_refl _
theorem zZM(W:zB)(x:ByteArray):zH3 W x<=W.sn:=by
  by_cases h:∃k,k<W.sn/\¬zCN (W.zc1 k).name x/\∀j,j<k->zCN (W.zc1 j).name x
  · obtain⟨k,h1,h2,h3⟩:=h
    rw[zQQ h1 h2 h3];omega
  · unfold zH3
    rw[dif_neg h];exact Nat.le_refl _
theorem zQp{W:zB}(L:zQH W){x:ByteArray}(hx:x.size<=8000){o p rs rb:Int}(hp:0<=p/\p<=1000000):zB4 0 (zGU W (zH3 W x) (zD9 x o p rs rb)):=by
  have hs:=L.sn;refine⟨by have:=L.pool;show yD W.pool<=_;omega,by show W.sn+1<=9;omega,by have:=L.pn;show W.pn<=_;omega,by have:=L.next;show 0<=W.next/\W.next<=_;omega,fun i hi=>?_,fun i hi=>L.snap hi⟩;replace hi:i<W.sn+1:=hi;show zFU 0 (ins W.zc1 (zH3 W x) (zD9 x o p rs rb) i);have hk:zH3 W x<=W.sn:=zZM W x;rcases Nat.lt_trichotomy i (zH3 W x)with e | e | e
  · rw[zXM e];exact L.set (by omega)
  · rw[e,zXK];exact⟨Nat.zero_le _,hx,hp⟩
  · rw[zXL e];exact L.set (by omega)
theorem zES(W:zB)(x:ByteArray):zB4 0 (zCZ W x).world:=by
  unfold zCZ
  repeat' split
  all_goals first
    | exact zCQ
    | exact zQp (zGi (by rename_i h _;exact h.1)) (by omega) (by omega)
theorem zMD(W:zB)(id:Int)(x:ByteArray):zB4 0 (zEz W id x).world:=by
  unfold zEz
  repeat' split
  all_goals first
    | exact zCQ
    | (rename_i h8 hR hH _
       have:=hH.range hR.1.zc3.prevOk;exact zQp (zGi hR.1) (by omega) (by omega))
theorem zGc(W:zB)(x a:ByteArray):zB4 0 (zEX W x a).world:=by
  unfold zEX
  repeat' split
  all_goals first
    | exact zCQ
    | skip
  rename_i h8 hR hH _ h20
  have L:=zGi hR.1;have hp:=L.pn;have hn:=L.next;have hs:=L.sn;refine⟨by have:=L.pool;show yD W.pool<=_;omega,by show W.sn<=9;omega,by show W.pn+1<=21;omega,by show 0<=W.next+1/\W.next+1<=_;omega,fun i hi=>?_,fun i hi=>?_⟩
  · replace hi:i<W.sn:=hi
    show zFU 0 (if i=zCR W x then {W.zc1 (zCR W x)with zc2:=W.next,dn:=0}else W.zc1 i);split
    · rename_i e
      have g:=L.set hi;rw[<-e];exact⟨Nat.zero_le _,g.name,by show 0<=W.next/\W.next<=_;omega⟩
    · exact L.set hi
  · replace hi:i<W.pn+1:=hi
    show zFz 0 (if i=W.pn then zGJ W (zCR W x) a x else W.zcy i);split
    · have hk:=zHX hH
      have aA:=zBZ.2 hH;have g:=L.set (i:=zCR W x) (by show(zBn W.sn fun k=>(W.zc1 k).name=x).toNat<W.sn;omega);exact⟨g.dn,by show a.size<=8000;omega,by show x.size<=8000;omega,g.zc2⟩
    · exact L.snap (by omega)
theorem zNW(W:zB)(k:Nat)(t:Int):(zH1 W k t).length<=73:=Nat.le_trans (zBy ..) (yz ..)
theorem zVX(W:zB)(x:ByteArray):zB4 0 (zKy W x).world:=by
  unfold zKy zUx
  repeat' split
  all_goals first
    | exact zCQ
    | skip
  rename_i h8 hR hH hK
  have L:=zGi hR;have hy:=zNW W (zCR W x) (W.zcy (zIH W (W.zc1 (zCR W x)).zc2)).time;refine⟨?_,by have:=L.sn;show W.sn<=9;omega,by have:=L.pn;show W.pn<=21;omega,by have:=L.next;show 0<=W.next/\W.next<=_;omega,fun i hi=>?_,fun i hi=>L.snap hi⟩
  · show yD (yN W.pool _)<=_
    rw[zFR];have:=L.pool;omega
  · replace hi:i<W.sn:=hi
    show zFU 0 (if i=zCR W x then {W.zc1 (zCR W x)with rs:=_,rb:=_,dn:=0}else W.zc1 i);split
    · rename_i e
      have g:=L.set hi;rw[<-e];exact⟨Nat.zero_le _,g.name,g.zc2⟩
    · exact L.set hi
theorem zVW(W:zB)(x:ByteArray):zB4 0 (zKh W x).world:=by
  unfold zKh
  repeat' split
  all_goals first
    | exact zCQ
    | skip
  rename_i h8 hR hH hK
  have L:=zGi hR;have hy:=zNW W (zCR W x) (zI W (W.zc1 (zCR W x)).zc2).time;refine⟨?_,by have:=L.sn;show W.sn - 1<=9;omega,by have:=L.pn;show W.pn<=21;omega,by have:=L.next;show 0<=W.next/\W.next<=_;omega,fun i hi=>?_,fun i hi=>L.snap hi⟩
  · show yD (yN W.pool _)<=_
    rw[zFR];have:=L.pool;omega
  · replace hi:i<W.sn - 1:=hi
    show zFU 0 (if i<zCR W x then W.zc1 i else W.zc1 (i+1));split
    · exact L.set (by omega)
    · exact L.set (by omega)
theorem zXA(W:zB)(x:ByteArray):zB4 0 (zRh W x).world:=by
  unfold zRh zYY
  repeat' split
  all_goals first
    | exact zCQ
    | skip
  rename_i h8 hR hH _ _
  have L:=zGi hR;refine⟨by have:=L.pool;show yD W.pool<=_;omega,by have:=L.sn;show W.sn<=9;omega,by have:=L.pn;show W.pn<=21;omega,by have:=L.next;show 0<=W.next/\W.next<=_;omega,fun i hi=>?_,fun i hi=>?_⟩
  · replace hi:i<W.sn:=hi
    have g:=L.set hi;unfold zYZ;dsimp only;split
    · rename_i e;rw[<-e];exact⟨g.dn,g.name,g.zc2⟩
    · split
      · rename_i e;rw[<-e];exact⟨g.dn,g.name,g.zc2⟩
      · exact g
  · replace hi:i<W.pn:=hi
    have g:=L.snap hi;unfold zYZ zLE;dsimp only;split
    · exact⟨g.dn,g.name,by show x.size<=8000;omega,g.zc2⟩
    · exact g
theorem zQq{W:zB}(L:zQH W){k:Nat}{t:zEP}(h1:yD t.pool<=yD W.pool+40)(h2:t.old.length<=3):zB4 0 (zFu W k t).world:=by
  unfold zFu;split;rotate_left
  · exact zCQ
  have hy:(zZr W k t).length<=t.old.length:=zBy ..;have ho:(zcF W k t).length<=t.old.length:=zHS ..;refine⟨?_,by have:=L.sn;show W.sn<=9;omega,by have:=L.pn;show W.pn<=21;omega,by have:=L.next;show 0<=W.next/\W.next<=_;omega,fun i hi=>?_,fun i hi=>L.snap hi⟩
  · show yD (yN t.pool _)<=_
    rw[zFR];have:=L.pool;omega
  · replace hi:i<W.sn:=hi
    show zFU 0 (if i=k then zMb W k t else W.zc1 i);split
    · rename_i e
      subst e;have g:=L.set hi;have g':=(L.zc1 i hi).1;refine⟨?_,g.name,g.zc2⟩;show(zXa W i t).length<=_;unfold zXa;rw[List.length_append,zHx];omega
    · exact L.set hi
theorem zSj(W:zB)(x:ByteArray)(aA:Int)(d:ByteArray):zB4 0 (zHb W x aA d).world:=by
  unfold zHb
  repeat' split
  all_goals first
    | exact zCQ
    | (rename_i h8 hR hH
       exact zQq (zGi hR) (zHc ..).1 (zHc ..).2)
theorem zVZ(W:zB)(x:ByteArray)(aA:Int):zB4 0 (zK6 W x aA).world:=by
  unfold zK6
  repeat' split
  all_goals first
    | exact zCQ
    | (rename_i h8 hR hH
       exact zQq (zGi hR) (zIs ..).1 (zIs ..).2)
theorem zXB{W:zB}(L:zQH W){x:Int}{k:Nat}(hk:k<W.pn):zB4 0 (sdK W x k).world:=by
  have gk:=L.snap hk;have bA:=(L.zcy k hk).1;have aA:∀{f:Nat->zz},(∀i,i<W.pn->zFz 0 (f i))->∀i,i<W.pn - 1->zFz 0 (del f k i):=fun {f} hf i hi=>by
    unfold del;split
    · exact hf i (by omega)
    · exact hf (i+1) (by omega)
  have hl:∀(n:Nat) (f h:Nat->Int),(sdD W (W.zcy k) n f h).length<=200+n:=fun n f h=>by
    unfold sdD;rw[List.length_append,zHx];have:(sdO W (W.zcy k) n f h).length<=n:=zHS ..;omega
  have hs:=L.sn;have hp:=L.pn;have hn:=L.next;have hq:=L.pool;unfold sdK;split
  · rename_i h
    have hi:=h.choose_spec.1;generalize h.choose=i at hi ⊢;have g:=L.set hi;have g':=(L.zc1 i hi).1;have hy:(zNn W k i).length<=(W.zc1 i).dn:=zBy ..;refine⟨by show yD (yN W.pool _)<=_;rw[zFR];omega,by show W.sn<=9;omega,by show W.pn - 1<=21;omega,by show 0<=W.next/\W.next<=_;omega,fun j hj=>?_,aA fun j hj=>L.snap hj⟩;show zFU 0 (if j=i then zU3 W (W.zcy k) (W.zc1 i)else W.zc1 j);split
    · exact⟨Nat.le_trans (hl ..) (by omega),g.name,gk.zc2⟩
    · exact L.set hj
  split
  · rename_i h
    have hi:=h.choose_spec.1;generalize h.choose=i at hi ⊢;have g:=L.snap hi;have g':=(L.zcy i hi).1;have hy:(zRp W k i).length<=(W.zcy i).dn:=zBy ..;refine⟨by show yD (yN W.pool _)<=_;rw[zFR];omega,by show W.sn<=9;omega,by show W.pn - 1<=21;omega,by show 0<=W.next/\W.next<=_;omega,fun j hj=>L.set hj,aA fun j hj=>?_⟩;show zFz 0 (if j=i then zP6 W (W.zcy k) (W.zcy i)else W.zcy j);split
    · exact⟨Nat.le_trans (hl ..) (by omega),g.name,g.set,gk.zc2⟩
    · exact L.snap hj
  · exact⟨by show yD W.pool<=_;omega,by show W.sn<=9;omega,by show W.pn - 1<=21;omega,by show 0<=W.next/\W.next<=_;omega,fun j hj=>L.set hj,aA fun j hj=>L.snap hj⟩
theorem zZi(W:zB)(x:Int):zB4 0 (sdE W x).world:=by
  unfold sdE
  repeat' split
  all_goals first
    | exact zCQ
    | skip
  rename_i hR hH h1
  refine zXB (zGi hR) ?_;have hk:=zOM hH;have aA:=zJP.2 hH;show(zBn W.pn fun k=>(W.zcy k).id=x).toNat<W.pn;omega
theorem zVY{c:Nat}{W:zB}(h:zB4 c W):zB4 c {W with pool:=zA0 W.pool}:=⟨Nat.le_trans (zOr _) h.pool,h.sn,h.pn,h.next,h.zc1,h.zcy⟩
set_option linter.unusedSimpArgs false
set_option maxRecDepth 20000
set_option maxHeartbeats 3200000
theorem zTg{a b:Int}:zAb .mul .i64 a .i64 b=some (True,.int .i64 (IntKind.i64.wrap (a*b))):=rfl
theorem zTh{a b:Int}:zAb .sub .i64 a .i64 b=some (True,.int .i64 (IntKind.i64.wrap (a - b))):=rfl
theorem zHl{c:Nat}{W:zB}(h:zB4 c W)(s:zAK):zB4 c (zBe s W).2.world:=by
 unfold zBe;generalize nV (nS (nS s (max 1 W.next)) 5) 16=v;generalize nS (nS (nS s (max 1 W.next)) 5) 16=s3;unfold stepAt;split
 ·exact(zES ..).up
 ·exact(zVZ ..).up
 ·exact(zGc ..).up
 ·exact(zGc ..).up
 ·exact(zGc ..).up
 ·exact(zZi ..).up
 ·exact(zMD ..).up
 ·exact(zMD ..).up
 ·exact(zVW ..).up
 ·exact(zVX ..).up
 ·exact(zXA ..).up
 ·exact zVY h
 ·exact(zSj ..).up
theorem zHa{s:zAK}(h:qi s)(W:zB):qi (zBe s W).1:=by
 have h3:=zAI (zAI (zAI h (max 1 W.next)) 5) 16;unfold zBe;generalize nV (nS (nS s (max 1 W.next)) 5) 16=v;generalize nS (nS (nS s (max 1 W.next)) 5) 16=s3 at h3;unfold stepAt;split<;>dsimp only
 all_goals first
  | exact h3
  | exact zAI h3 _
  | exact zPo h3
  | exact zAI (zAI (zPo h3) _) _
theorem zRd(x:Int):qO (nwW x):=by
 unfold nwW;split
 ·refine⟨⟨by show x.toNat<=_;omega,Nat.zero_le _,Nat.zero_le _,Nat.zero_le _,fun i hi=>absurd hi (Nat.not_lt_zero _),fun i hi=>absurd hi (Nat.not_lt_zero _)⟩,fun i hi=>Nat.zero_le _⟩
 ·exact⟨⟨Nat.zero_le _,Nat.zero_le _,Nat.zero_le _,Nat.zero_le _,fun i hi=>absurd hi (Nat.not_lt_zero _),fun i hi=>absurd hi (Nat.not_lt_zero _)⟩,fun i hi=>Nat.zero_le _⟩
noncomputable def runW:Nat->zAK->zB->zAK×zB
 | 0,s,W=>(s,W)
 | r+1,s,W=>if (zBe s W).2.code=0 then runW r (zBe s W).1 (zBe s W).2.world else runW r (zBe s W).1 W
theorem zP5:∀(r:Nat) {s:zAK} {W:zB},qi s->zB4 0 W->qi (runW r s W).1/\zB4 0 (runW r s W).2
 | 0,s,W,hs,hW=>⟨hs,hW⟩
 | r+1,s,W,hs,hW=>by
  unfold runW;split
  ·exact zP5 r (zHa hs W) (zHl hW s)
  ·exact zP5 r (zHa hs W) hW
noncomputable def spoilAt(s:zAK)(W:zB):Nat->zAK×zB
 | 0=>(nS s 3,{W with time:=[0,900000,900001].getD (nV s 3).toNat 0})
 | 1=>(s,{W with next:=1})
 | 2=>if 0<W.sn then(s,{W with zc1:=fun i=>if i=0 then {W.zc1 0 with dn:=(zDq (W.zc1 0).dn (W.zc1 0).ds (W.zc1 0).db ++ [(1,1)]).length,ds:=qP (zDq (W.zc1 0).dn (W.zc1 0).ds (W.zc1 0).db ++ [(1,1)]),db:=qb (zDq (W.zc1 0).dn (W.zc1 0).ds (W.zc1 0).db ++ [(1,1)])}else W.zc1 i})else(s,W)
 | 3=>if 0<W.pn then(nS s 3,{W with zcy:=fun i=>if i=0 then {W.zcy 0 with zc2:=1+nV s 3}else W.zcy i})else(s,W)
 | 4=>if 0<W.sn then((zFg s W.pool).1,{W with zc1:=fun i=>if i=0 then {W.zc1 0 with rs:=(zFg s W.pool).2.1,rb:=(zFg s W.pool).2.2}else W.zc1 i})else(s,W)
 | _=>(nS s 5,{W with pool:=zHH W.pool (nV s 5)})
noncomputable def zFj(s:zAK)(W:zB):zAK×zB:=if nV s 20=0 then spoilAt (nS (nS s 20) 6) W (nV (nS s 20) 6).toNat else(nS s 20,W)
noncomputable def zCs(s:zAK):zAK×zB:=
 let q:=runW (nV (nS s 60) (12+2*(nS s 60).size)).toNat (nS (nS s 60) (12+2*(nS s 60).size)) (zCZ (nwW (20+nV s 60)) ⟨#[97]⟩).world
 zFj q.1 q.2
attribute [local go_sem] qX List.map_cons List.map_nil Tr.cv yp qD qs qq yo yn ym qp zAu zAw zAv zAr zAt zAs zCF zCH zCG qH zl qI zm qB qA qM yx zi zj qw qG tmpsOf zAf qv qF zAp yv yr yq yu stpP opds opd opdC kap zAG qC zh coreU bin zAb zB0 get put dlO fgt zA8 zA1 zA5 zA6 tyT yj yi Op.operands Call.operands evLoad evLen evStore evAlloc zAa and_true true_and List.append_nil List.nil_append List.cons_append Ret resCv zBs yQ cellM zBV zBw qY StW StR hpT hpO hpV hpA hpL hpC sg nin zB6 bdO tmW obW AvE CsE CvE Av.tup Av.ids Cv.ids inD ObE Ob.ids TrE.refl qE qt qu qJ qK qL zk ze zb yw zBc zB1 zAy evCall argL argOf qh outOb obO yL zy cvO tot Tr.own rid partsOf fillC zW zBU frz frz1 evBuildSlice zc trs Cv.tr evSlice Option.toArray_none Option.toArray_some evMakeSlice evAppend dstOf srcOf zBC zA7 zA4 zA2 zA3 ikT qn qm ql qk RetP RetN zBd qQ evLd evSt evStoreH zAX evAppendM evAppendT tlOf mvOf rowE shp evTake oOf evC evCallP evCallN evCallO unlast zAW zBB zAU argsF zB5 qy pmC varT vT evField evConv dB0 Option.bind_some Option.bind_none Option.map_some Option.map_none Option.isSome_some Option.isSome_none
attribute [local go_sem] yC zX zAg yI qe zAO zAP zAQ zAR zAS zAT yV yW yX yY yZ yb yd ye qz qV
attribute [-go_sem] zX zAb
attribute [local go_sem] yS zBX zBY yg yG zHo zHp zKf zKd zKe zG6 zG7 zG8 zKY zTg zTh zKc zKb zKa zKZ zCj
noncomputable def zX9:za:=qZ (fun s:zAK=>[(true,srV s)]) (fun s=>qi s) (fun s=>[(true,srV (zCs s).1),woO (zCs s).2])
theorem zV1(s:zAK):zX9 [(true,srV s)]=some (qi s,[(true,srV (zCs s).1),woO (zCs s).2]):=zO (fun l=>zHB (nth l 0)) (fun _=>rfl) s
theorem zQ8:zBr Tryz.prog 42 zX9:=by
 refine zBa (A:=fun _=>[]) zs (GOk.cons zKV (zF Tryz.func23 rfl rfl) (GOk.ptr zMY (zF Tryz.func40 rfl rfl) (GOk.ptr zPt (zF Tryz.func41 rfl rfl) (GOk.ptr zPm (zF Tryz.func47 rfl rfl) (GOk.cons zJu (zF Tryz.func48 rfl rfl) (GOk.ptr zVj (zF Tryz.func82 rfl rfl) GOk.nil)))))) zr Tryz.func42 rfl Tryz.ntmps42 Tryz.results42 88 ?_;rintro s hs;replace hs:qi s:=hs;obtain⟨t,ht⟩:∃t,zCs s=t:=⟨_,rfl⟩;obtain⟨s1,e1⟩:∃s1,nS s 60=s1:=⟨_,rfl⟩;have h1:qi s1:=e1▸zAI hs _;have hv:=zGA s (m:=60) (by omega) (by omega);have hz:=h1.size;have gA:IntKind.i64.wrap (20+nV s 60)=20+nV s 60:=zCh (by omega) (by omega);have iA:IntKind.i64.wrap (2*s1.size)=2*s1.size:=zCh (by omega) (by omega);have jA:IntKind.i64.wrap (12+2*s1.size)=12+2*s1.size:=zCh (by omega) (by omega);have hm:12+2*s1.size<=1000000000000000000:=by omega
 obtain⟨s2,e2⟩:∃s2,nS s1 (12+2*s1.size)=s2:=⟨_,rfl⟩;have h2:qi s2:=e2▸zAI h1 _;obtain⟨K,hK⟩:∃K:Nat,nV s1 (12+2*s1.size)=K:=⟨_,(Int.toNat_of_nonneg (zJc s1 hm).1).symm⟩;have eA:K<40:=by have:=(zGA s1 (m:=12+2*s1.size) (by omega) hm).2;omega
 have hN:qO (nwW (20+nV s 60)):=zRd _;obtain⟨o,eo⟩:∃o,zCZ (nwW (20+nV s 60)) ⟨#[97]⟩=o:=⟨_,rfl⟩;have hg:zB4 0 o.world:=eo▸zES _ _;have hq:t=zFj (runW K s2 o.world).1 (runW K s2 o.world).2:=by
  rw[<-ht];show zFj (runW (nV (nS s 60) (12+2*(nS s 60).size)).toNat (nS (nS s 60) (12+2*(nS s 60).size)) (zCZ (nwW (20+nV s 60)) ⟨#[97]⟩).world).1 (runW (nV (nS s 60) (12+2*(nS s 60).size)).toNat (nS (nS s 60) (12+2*(nS s 60).size)) (zCZ (nwW (20+nV s 60)) ⟨#[97]⟩).world).2=_;rw[e1,e2,hK,eo];rfl
 refine⟨by simp,?_⟩;show ev _ _ _ _ _ _ (zNt _ _ [(true,srV (zCs s).1),woO (zCs s).2]);rw[ht];simp[go_sem,zCq,zRW,zIj,hs,h1,e1,e2,gA,iA,jA,hm,hK,hN,eo];refine yF (fun q:Nat×zAK×zB=>⟨[(4,true,.i q.1),(3,true,.m false [.p 3 0]),(2,true,.m false [.p 2 0]),(0,true,.m false [.p 0 0])],[(0,.var [.s .z 1 q.2.1.bn (zFC q.2.1.bf),.v (.int .i64 q.2.1.pos),.v (.int .u64 q.2.1.mix),.v (.int .i64 q.2.1.size)]),(3,.var [.h 61,.h 62,.v (.int .i64 q.2.2.time),.v (.int .i64 q.2.2.next),.h 63,.h 64]),(64,.row 8 q.2.2.pn (snapsE .z q.2.2.zcy)),(63,.row 6 q.2.2.sn (setsE .o q.2.2.zc1)),(62,.row 1 q.2.2.pool.hn (qx q.2.2.pool.h)),(61,.row 3 q.2.2.pool.n (zY .z q.2.2.pool.s)),(2,.var [.v n0,.v n0,.v i0,.v i0,.v n0,.v n0])]⟩) (fun q=>q.1) (fun q=>q.1<40/\qi q.2.1/\zB4 0 q.2.2/\t=zFj (runW q.1 q.2.1 q.2.2).1 (runW q.1 q.2.1 q.2.2).2) (K,s2,o.world) (by simp[go_sem]) ⟨eA,h2,hg,hq⟩ ?_;rintro⟨r,s,W⟩ ⟨dA,hs,hW,hq⟩;replace dA:r<40:=dA;replace hs:qi s:=hs;replace hW:zB4 0 W:=hW;replace hq:t=zFj (runW r s W).1 (runW r s W).2:=hq;have hC:=hW.zc5 (by omega);have hx:=hW.next;cases r with
 | succ r=>
  have hr:IntKind.i64.wrap (r:Int)=r:=zCh (by omega) (by omega);have cA:=hq;unfold runW at cA;by_cases hc:(zBe s W).2.code=0
  ·rw[if_pos hc]at cA;simp[go_sem,zHO,hs,hC,show W.next<=1000000000 by omega,hc,hr];exact⟨r,(zBe s W).1,(zBe s W).2.world,⟨by omega,zHa hs W,zHl hW s,cA⟩,by omega,rfl,⟨TrE.refl _,rfl,rfl,rfl⟩,⟨rfl,rfl⟩,TrE.refl _,TrE.refl _,TrE.refl _,TrE.refl _⟩
  ·rw[if_neg hc]at cA;simp[go_sem,zHO,hs,hC,show W.next<=1000000000 by omega,hc,hr];exact⟨r,(zBe s W).1,W,⟨by omega,zHa hs W,hW,cA⟩,by omega,rfl,⟨TrE.refl _,rfl,rfl,rfl⟩,⟨rfl,rfl⟩,TrE.refl _,TrE.refl _,TrE.refl _,TrE.refl _⟩
 | zero=>
  replace hq:t=zFj s W:=hq;unfold zFj at hq;by_cases aA:nV s 20=0;rotate_left
  ·rw[if_neg aA]at hq;simp[go_sem,zBH,hs,aA,hq,zw,zU,zd,zt,zf]
  rw[if_pos aA]at hq;obtain⟨a,ea⟩:∃a,nS s 20=a:=⟨_,rfl⟩;obtain⟨b,eb⟩:∃b,nS a 6=b:=⟨_,rfl⟩;obtain⟨v,bA⟩:∃v:Nat,nV a 6=v:=⟨_,(Int.toNat_of_nonneg (zJc a (m:=6) (by omega)).1).symm⟩;have ha:qi a:=ea▸zAI hs _;have hb:qi b:=eb▸zAI ha _;rw[ea,eb,bA]at hq;have hn:=hC.n;have lA:=zGA b (m:=3) (by omega) (by omega);have hw:IntKind.i64.wrap (1+nV b 3)=1+nV b 3:=zCh (by omega) (by omega);have fA:v<6:=(by have:=(zGA a (m:=6) (by omega) (by omega)).2;omega);have hd:=fun h=>(hW.zc1 0 h).dn
  rcases(show v=0\/v=1\/v=2\/v=3\/v=4\/v=5 by omega)with e | e | e | e | e | e<;>subst e
  ·have q:t=(nS b 3,{W with time:=[0,900000,900001].getD (nV b 3).toNat 0}):=hq;rcases(show nV b 3=0\/nV b 3=1\/nV b 3=2 by omega)with h3 | h3 | h3<;>simp[go_sem,zBH,zCq,hs,ha,hb,aA,ea,eb,bA,h3,q,zw,zU,zd,zt,zf]
  ·have q:t=(b,{W with next:=1}):=hq;simp[go_sem,zBH,zCq,hs,ha,hb,aA,ea,eb,bA,q,zw,zU,zd,zt,zf]
  ·replace hq:t=if 0<W.sn then _ else _:=hq
   by_cases h0:0<W.sn
   ·rw[if_pos h0]at hq;simp[go_sem,zBH,zCq,hs,ha,hb,aA,ea,eb,bA,h0,hq,zw,zU,zd,zt,zf];have kA:=hd h0;refine⟨by omega,by kernel_rfl,⟨.inl rfl,rfl,rfl,fun i j hi hj=>?_⟩⟩;by_cases e:i=0
    ·subst e
     match j,hj with
     | 0,_ | 1,_ | 2,_ | 3,_ | 4,_=>exact TrE.of_eq (by simp[yK,setsE])
     | 5,_=>
      have:=zJF (n:=(W.zc1 0).dn) (m:=(W.zc1 0).dn+1) (f:=(W.zc1 0).ds) (g:=(W.zc1 0).db) (l:=[(1,1)]) (F:=zAC (ptrsT (W.zc1 0).ds (W.zc1 0).db) (W.zc1 0).dn fun p q=>(([.v (.int .i64 1),.v (.int .i64 1)]:List Tr)[p*2+q]?.getD (.v (.bool false))).nt) rfl (fun a b ha hb=>by
       unfold zAC;split
       ·rfl
       ·have:a - (W.zc1 0).dn=0:=(by omega);rw[this]
        match b,hb with
        | 0,_ | 1,_=>rfl)
      simpa[yK,setsE]using this
    ·exact TrE.of_eq (by unfold setsE;simp[yK,e])
   ·rw[if_neg h0]at hq;simp[go_sem,zBH,zCq,hs,ha,hb,aA,ea,eb,bA,h0,hq,zw,zU,zd,zt,zf]
  ·replace hq:t=if 0<W.pn then _ else _:=hq
   by_cases h0:0<W.pn
   ·rw[if_pos h0]at hq;simp[go_sem,zBH,zCq,hs,ha,hb,aA,ea,eb,bA,h0,hq,hw,zw,zU,zd,zt,zf];refine⟨by kernel_rfl,⟨.inl rfl,rfl,rfl,fun i j hi hj=>TrE.of_eq ?_⟩⟩;by_cases e:i=0
    ·subst e
     match j,hj with
     | 0,_ | 1,_ | 2,_ | 3,_ | 4,_ | 5,_ | 6,_ | 7,_=>simp[yK,snapsE]
    ·unfold snapsE;simp[yK,e]
   ·rw[if_neg h0]at hq;simp[go_sem,zBH,zCq,hs,ha,hb,aA,ea,eb,bA,h0,hq,zw,zU,zd,zt,zf]
  ·replace hq:t=if 0<W.sn then _ else _:=hq
   by_cases h0:0<W.sn
   ·rw[if_pos h0]at hq;simp[go_sem,zBH,zCq,zXt,hs,ha,hb,aA,ea,eb,bA,h0,hq,hn,zw,zU,zd,zt,zf];refine⟨by kernel_rfl,⟨.inl rfl,rfl,rfl,fun i j hi hj=>TrE.of_eq ?_⟩⟩;by_cases e:i=0
    ·subst e
     match j,hj with
     | 0,_ | 1,_ | 2,_ | 3,_ | 4,_ | 5,_=>simp[yK,setsE]
    ·unfold setsE;simp[yK,e]
   ·rw[if_neg h0]at hq;simp[go_sem,zBH,zCq,hs,ha,hb,aA,ea,eb,bA,h0,hq,zw,zU,zd,zt,zf]
  ·have q:t=(nS b 5,{W with pool:=zHH W.pool (nV b 5)}):=hq;simp[go_sem,zBH,zCq,hs,ha,hb,aA,ea,eb,bA,q,zw,zU,zd,zt,zf];have:=hC.hn;exact⟨by omega,by kernel_rfl,TrE.refl _,zJ3⟩
set_option maxRecDepth 20000
set_option maxHeartbeats 3200000
theorem zaD{s:zAK}(h:qi s)(p:zE):qi (zFg s p).1:=by
 unfold zFg;split
 ·exact zAI (zAI (zAI h 8) 14) 4
 ·exact zAI (zAI h 8) p.n
theorem zTT{s:zAK}{W:zB}(hs:qi s)(h:zB4 0 W)(v:Nat):qi (spoilAt s W v).1/\zB4 1 (spoilAt s W v).2:=by
 have g:zB4 1 W:=h.up;unfold spoilAt;split
 ·exact⟨zAI hs 3,⟨g.pool,g.sn,g.pn,g.next,g.zc1,g.zcy⟩⟩
 ·exact⟨hs,⟨g.pool,g.sn,g.pn,by show(0:Int)<=1/\(1:Int)<=900001;omega,g.zc1,g.zcy⟩⟩
 ·split
  ·rename_i h0
   have h1:=h.zc1 0 h0;refine⟨hs,⟨g.pool,g.sn,g.pn,g.next,fun i hi=>?_,g.zcy⟩⟩;dsimp only;split
   ·refine⟨?_,h1.name,h1.zc2⟩;have:=h1.dn;simp only[List.length_append,zHx,List.length_cons,List.length_nil];omega
   ·exact g.zc1 i hi
  ·exact⟨hs,g⟩
 ·split
  ·rename_i h0
   have h1:=g.zcy 0 h0;have hv:=zGA s (m:=3) (by omega) (by omega);refine⟨zAI hs 3,⟨g.pool,g.sn,g.pn,g.next,g.zc1,fun i hi=>?_⟩⟩;dsimp only;split
   ·exact⟨h1.dn,h1.name,h1.set,by dsimp only;omega⟩
   ·exact g.zcy i hi
  ·exact⟨hs,g⟩
 ·split
  ·rename_i h0
   have h1:=g.zc1 0 h0;refine⟨zaD hs _,⟨g.pool,g.sn,g.pn,g.next,fun i hi=>?_,g.zcy⟩⟩;dsimp only;split
   ·exact⟨h1.dn,h1.name,h1.zc2⟩
   ·exact g.zc1 i hi
  ·exact⟨hs,g⟩
 ·refine⟨zAI hs 5,⟨?_,g.sn,g.pn,g.next,g.zc1,g.zcy⟩⟩;have:=h.pool;show W.pool.n+zBK W.pool.s W.pool.n+(W.pool.hn+1)<=19000+1;unfold yD at this;omega
theorem zUf(x:Int):zB4 0 (nwW x):=by
 have hz:∀n,zBK (fun _=>zCU) n=0:=fun n=>by
  induction n with
  | zero=>rfl
  | succ n ih=>show zBK (fun _=>zCU) n+0=0;rw[ih]
 unfold nwW;split
 ·refine⟨?_,Nat.zero_le _,Nat.zero_le _,by show(0:Int)<=1/\(1:Int)<=900001;omega,fun i hi=>absurd hi (Nat.not_lt_zero _),fun i hi=>absurd hi (Nat.not_lt_zero _)⟩;show x.toNat+zBK (fun _=>zCU) x.toNat+0<=_;rw[hz];omega
 ·exact zCQ (e:=1)
theorem zZB{s:zAK}(hs:qi s):qi (zCs s).1/\zB4 1 (zCs s).2:=by
 have h:=zP5 (nV (nS s 60) (12+2*(nS s 60).size)).toNat (zAI (zAI hs 60) (12+2*(nS s 60).size)) (zES (nwW (20+nV s 60)) ⟨#[97]⟩);unfold zCs zFj;dsimp only;split
 ·exact zTT (zAI (zAI h.1 20) 6) h.2 _
 ·exact⟨zAI h.1 20,h.2.up⟩
def zBI(c:Nat)(S:zx):Prop:=zB4 c S.zc0/\zB4 c S.zcz
theorem zBI.zc5{c:Nat}{S:zx}(h:zBI c S)(hc:c<=10):qO S.zc0/\qO S.zcz:=⟨h.1.zc5 hc,h.2.zc5 hc⟩
theorem zQr{c:Nat}{e:Int}:zBI c (zAj e).store:=⟨zCQ (e:=0),zCQ (e:=0)⟩
theorem zKk{c:Nat}{S:zx}(h:zBI c S):zBI c (zDs S).store:=by
 have g:zB4 c (zFk S):=⟨Nat.le_trans (zOr _) h.1.pool,h.1.sn,h.1.pn,h.1.next,h.1.zc1,h.1.zcy⟩;unfold zDs
 repeat' split
 all_goals first
  | exact zQr
  | exact⟨g,g⟩
theorem zQs{c:Nat}{S:zx}{W:zB}(h:zBI c S)(hW:zB4 c W):zBI c (zIK S W).store:=by
 unfold zIK
 repeat' split
 all_goals first
  | exact zQr
  | exact⟨hW,h.2⟩
noncomputable def zHZ(s:zAK)(S:zx):zAK×zx:=
 if nV s 5=0 then(nS s 5,if (zDs S).code=0 then(zDs S).store else S)
 else((zBe (nS s 5) S.zc0).1,if (zBe (nS s 5) S.zc0).2.code=0 then(if (zIK S (zBe (nS s 5) S.zc0).2.world).code=0 then(zIK S (zBe (nS s 5) S.zc0).2.world).store else S)else S)
theorem zR1{s:zAK}{S:zx}(hs:qi s)(h:zBI 0 S):qi (zHZ s S).1/\zBI 0 (zHZ s S).2:=by
 unfold zHZ;split
 ·refine⟨zAI hs 5,?_⟩;dsimp only;split
  ·exact zKk h
  ·exact h
 ·refine⟨zHa (zAI hs 5) _,?_⟩;dsimp only
  repeat' split
  all_goals first
   | exact zQs h (zHl h.1 _)
   | exact h
noncomputable def zIo:Nat->zAK->zx->zAK×zx
 | 0,s,S=>(s,S)
 | r+1,s,S=>zIo r (zHZ s S).1 (zHZ s S).2
theorem zU0:∀(r:Nat) {s:zAK} {S:zx},qi s->zBI 0 S->qi (zIo r s S).1/\zBI 0 (zIo r s S).2
 | 0,s,S,hs,hS=>⟨hs,hS⟩
 | r+1,s,S,hs,hS=>by
  obtain⟨h1,h2⟩:=zR1 hs hS;exact zU0 r h1 h2
noncomputable def spoilSt(s:zAK)(S:zx):Nat->zAK×zx
 | 0=>(nS s 2,{S with zcz:={S.zcz with time:=IntKind.i64.wrap (S.zc0.time+nV s 2)}})
 | 1=>(s,{S with zcz:={S.zcz with pool:={S.zcz.pool with hn:=1,h:=fun _=>0}}})
 | _=>((zCs s).1,{S with zc0:=(zCs s).2})
noncomputable def zEv(s:zAK)(S:zx):zAK×zx:=if nV s 20=0 then spoilSt (nS (nS s 20) 3) S (nV (nS s 20) 3).toNat else(nS s 20,S)
noncomputable def zDF(s:zAK):zAK×zx:=
 let q:=zIo (nV (nS s 40) (10+2*(nS s 40).size)).toNat (nS (nS s 40) (10+2*(nS s 40).size)) ⟨(zCZ (nwW (30+nV s 40)) ⟨#[97]⟩).world,nwW (30+nV s 40)⟩
 zEv q.1 q.2
theorem zYz{s:zAK}(hs:qi s):qi (zDF s).1/\zBI 1 (zDF s).2:=by
 have h:=zU0 (nV (nS s 40) (10+2*(nS s 40).size)).toNat (S:=⟨(zCZ (nwW (30+nV s 40)) ⟨#[97]⟩).world,nwW (30+nV s 40)⟩) (zAI (zAI hs 40) (10+2*(nS s 40).size)) ⟨zES _ _,zUf _⟩;unfold zDF;dsimp only;generalize zIo _ _ _=q at h;obtain⟨h1,h2⟩:=h;have g:zBI 1 q.2:=⟨h2.1.up,h2.2.up⟩;unfold zEv;split
 ·unfold spoilSt;split
  ·exact⟨zAI (zAI (zAI h1 20) 3) 2,g.1,⟨g.2.pool,g.2.sn,g.2.pn,g.2.next,g.2.zc1,g.2.zcy⟩⟩
  ·refine⟨zAI (zAI h1 20) 3,g.1,⟨?_,g.2.sn,g.2.pn,g.2.next,g.2.zc1,g.2.zcy⟩⟩;have:=h2.2.pool;unfold yD at this;show q.2.zcz.pool.n+zBK q.2.zcz.pool.s q.2.zcz.pool.n+1<=_;omega
  ·have w:=zZB (zAI (zAI h1 20) 3);exact⟨w.1,w.2,g.2⟩
 ·exact⟨zAI h1 20,g⟩
attribute [local go_sem] qX List.map_cons List.map_nil Tr.cv yp qD qs qq yo yn ym qp zAu zAw zAv zAr zAt zAs zCF zCH zCG qH zl qI zm qB qA qM yx zi zj qw qG tmpsOf zAf qv qF zAp yv yr yq yu stpP opds opd opdC kap zAG qC zh coreU bin zAb zB0 get put dlO fgt zA8 zA1 zA5 zA6 tyT yj yi Op.operands Call.operands evLoad evLen evStore evAlloc zAa and_true true_and List.append_nil List.nil_append List.cons_append Ret resCv zBs yQ cellM zBV zBw qY StW StR hpT hpO hpV hpA hpL hpC sg nin zB6 bdO tmW obW AvE CsE CvE Av.tup Av.ids Cv.ids inD ObE Ob.ids TrE.refl qE qt qu qJ qK qL zk ze zb yw zBc zB1 zAy evCall argL argOf qh outOb obO yL zy cvO tot Tr.own rid partsOf fillC zW zBU frz frz1 evBuildSlice zc trs Cv.tr evSlice Option.toArray_none Option.toArray_some evMakeSlice evAppend dstOf srcOf zBC zA7 zA4 zA2 zA3 ikT qn qm ql qk RetP RetN zBd qQ evLd evSt evStoreH zAX evAppendM evAppendT tlOf mvOf rowE shp evTake oOf evC evCallP evCallN evCallO unlast zAW zBB zAU argsF zB5 qy pmC varT vT evField evConv dB0 Option.bind_some Option.bind_none Option.map_some Option.map_none Option.isSome_some Option.isSome_none
attribute [local go_sem] yC zX zAg yI qe zAO zAP zAQ zAR zAS zAT yV yW yX yY yZ yb yd ye qz qV
attribute [-go_sem] zX zAb
attribute [local go_sem] yS zBX zBY yg yG zHo zHp zKf zKd zKe zG6 zG7 zG8 zKY zTg zTh zKc zKb zKa zKZ zCj
noncomputable def zX2:za:=qZ (fun s:zAK=>[(true,srV s)]) (fun s=>qi s) (fun s=>[(true,srV (zDF s).1),stO (zDF s).2])
theorem zOc(s:zAK):zX2 [(true,srV s)]=some (qi s,[(true,srV (zDF s).1),stO (zDF s).2]):=zO (fun l=>zHB (nth l 0)) (fun _=>rfl) s
theorem zKu:zBr Tryz.prog 25 zX2:=by
 refine zBa (A:=fun _=>[]) zs (GOk.cons zI6 (zF Tryz.func14 rfl rfl) (GOk.cons zPB (zF Tryz.func19 rfl rfl) (GOk.cons zQN (zF Tryz.func21 rfl rfl) (GOk.ptr zMY (zF Tryz.func40 rfl rfl) (GOk.ptr zPt (zF Tryz.func41 rfl rfl) (GOk.ptr zQ8 (zF Tryz.func42 rfl rfl) (GOk.ptr zPm (zF Tryz.func47 rfl rfl) (GOk.cons zJu (zF Tryz.func48 rfl rfl) GOk.nil)))))))) zr Tryz.func25 rfl Tryz.ntmps25 Tryz.results25 72 ?_;rintro s hs;replace hs:qi s:=hs;obtain⟨t,ht⟩:∃t,zDF s=t:=⟨_,rfl⟩;obtain⟨s1,e1⟩:∃s1,nS s 40=s1:=⟨_,rfl⟩;have h1:qi s1:=e1▸zAI hs _;have hv:=zGA s (m:=40) (by omega) (by omega);have hz:=h1.size;have fA:IntKind.i64.wrap (30+nV s 40)=30+nV s 40:=zCh (by omega) (by omega);have gA:IntKind.i64.wrap (2*s1.size)=2*s1.size:=zCh (by omega) (by omega);have iA:IntKind.i64.wrap (10+2*s1.size)=10+2*s1.size:=zCh (by omega) (by omega);have hm:10+2*s1.size<=1000000000000000000:=by omega
 obtain⟨s2,e2⟩:∃s2,nS s1 (10+2*s1.size)=s2:=⟨_,rfl⟩;have h2:qi s2:=e2▸zAI h1 _;obtain⟨K,hK⟩:∃K:Nat,nV s1 (10+2*s1.size)=K:=⟨_,(Int.toNat_of_nonneg (zJc s1 hm).1).symm⟩;have dA:K<40:=by have:=(zGA s1 (m:=10+2*s1.size) (by omega) hm).2;omega
 obtain⟨Z,eZ⟩:∃Z,nwW (30+nV s 40)=Z:=⟨_,rfl⟩;have hN:qO Z:=eZ▸zRd _;obtain⟨o,eo⟩:∃o,zCZ Z ⟨#[97]⟩=o:=⟨_,rfl⟩;have hg:zBI 0 ⟨o.world,Z⟩:=⟨eo▸zES _ _,eZ▸zUf _⟩;have hq:t=zEv (zIo K s2 ⟨o.world,Z⟩).1 (zIo K s2 ⟨o.world,Z⟩).2:=by
  rw[<-ht];show zEv (zIo (nV (nS s 40) (10+2*(nS s 40).size)).toNat (nS (nS s 40) (10+2*(nS s 40).size)) ⟨(zCZ (nwW (30+nV s 40)) ⟨#[97]⟩).world,nwW (30+nV s 40)⟩).1 (zIo (nV (nS s 40) (10+2*(nS s 40).size)).toNat (nS (nS s 40) (10+2*(nS s 40).size)) ⟨(zCZ (nwW (30+nV s 40)) ⟨#[97]⟩).world,nwW (30+nV s 40)⟩).2=_;rw[e1,e2,hK,eZ,eo];rfl
 refine⟨by simp,?_⟩;show ev _ _ _ _ _ _ (zNt _ _ [(true,srV (zDF s).1),stO (zDF s).2]);rw[ht];simp[go_sem,zCq,zV0,zIj,hs,h1,e1,e2,fA,gA,iA,hm,hK,hN,eZ,eo];refine yF (fun q:Nat×zAK×zx=>⟨[(4,true,.i q.1),(3,true,.m false [.p 3 0]),(2,true,.m false [.p 2 0]),(0,true,.m false [.p 0 0])],[(0,.var [.s .z 1 q.2.1.bn (zFC q.2.1.bf),.v (.int .i64 q.2.1.pos),.v (.int .u64 q.2.1.mix),.v (.int .i64 q.2.1.size)]),(3,.var [.h 61,.h 62,.v (.int .i64 q.2.2.zc0.time),.v (.int .i64 q.2.2.zc0.next),.h 63,.h 64,.h 65,.h 66,.v (.int .i64 q.2.2.zcz.time),.v (.int .i64 q.2.2.zcz.next),.h 67,.h 68]),(68,.row 8 q.2.2.zcz.pn (snapsE .z q.2.2.zcz.zcy)),(67,.row 6 q.2.2.zcz.sn (setsE .o q.2.2.zcz.zc1)),(66,.row 1 q.2.2.zcz.pool.hn (qx q.2.2.zcz.pool.h)),(65,.row 3 q.2.2.zcz.pool.n (zY .z q.2.2.zcz.pool.s)),(64,.row 8 q.2.2.zc0.pn (snapsE .z q.2.2.zc0.zcy)),(63,.row 6 q.2.2.zc0.sn (setsE .o q.2.2.zc0.zc1)),(62,.row 1 q.2.2.zc0.pool.hn (qx q.2.2.zc0.pool.h)),(61,.row 3 q.2.2.zc0.pool.n (zY .z q.2.2.zc0.pool.s)),(2,.var [.v n0,.v n0,.v i0,.v i0,.v n0,.v n0,.v n0,.v n0,.v i0,.v i0,.v n0,.v n0])]⟩) (fun q=>q.1) (fun q=>q.1<40/\qi q.2.1/\zBI 0 q.2.2/\t=zEv (zIo q.1 q.2.1 q.2.2).1 (zIo q.1 q.2.1 q.2.2).2) (K,s2,⟨o.world,Z⟩) (by simp[go_sem]) ⟨dA,h2,hg,hq⟩ ?_;rintro⟨r,s,S⟩ ⟨cA,hs,hS,hq⟩;replace cA:r<40:=cA;replace hs:qi s:=hs;replace hS:zBI 0 S:=hS;replace hq:t=zEv (zIo r s S).1 (zIo r s S).2:=hq;have hC:=hS.zc5 (by omega);have hx:=hS.1.next;cases r with
 | succ r=>
  have hr:IntKind.i64.wrap (r:Int)=r:=zCh (by omega) (by omega);obtain⟨g1,g2⟩:=zR1 hs hS;replace hq:t=zEv (zIo r (zHZ s S).1 (zHZ s S).2).1 (zIo r (zHZ s S).1 (zHZ s S).2).2:=hq;obtain⟨q,eq⟩:∃q,zHZ s S=q:=⟨_,rfl⟩;rw[eq]at g1 g2 hq;unfold zHZ at eq;have h5:=zAI hs 5;by_cases h0:nV s 5=0
  ·rw[if_pos h0]at eq;by_cases hc:(zDs S).code=0
   ·rw[if_pos hc]at eq;subst eq;simp[go_sem,zBH,zD6,hs,hC,h0,hc,hr];exact⟨r,_,_,⟨by omega,g1,g2,hq⟩,by omega,rfl,⟨TrE.refl _,rfl,rfl,rfl⟩,⟨rfl,rfl,rfl,rfl⟩,TrE.refl _,TrE.refl _,TrE.refl _,TrE.refl _,TrE.refl _,TrE.refl _,TrE.refl _,TrE.refl _⟩
   ·rw[if_neg hc]at eq;subst eq;simp[go_sem,zBH,zD6,hs,hC,h0,hc,hr];exact⟨r,_,_,⟨by omega,g1,g2,hq⟩,by omega,rfl,⟨TrE.refl _,rfl,rfl,rfl⟩,⟨rfl,rfl,rfl,rfl⟩,TrE.refl _,TrE.refl _,TrE.refl _,TrE.refl _,TrE.refl _,TrE.refl _,TrE.refl _,TrE.refl _⟩
  rw[if_neg h0]at eq;have hW:=(zHl hS.1 (nS s 5)).zc5 (by omega);by_cases hc:(zBe (nS s 5) S.zc0).2.code=0;rotate_left
  ·rw[if_neg hc]at eq;subst eq;simp[go_sem,zBH,zHO,hs,h5,hC,show S.zc0.next<=1000000000 by omega,h0,hc,hr];exact⟨r,_,_,⟨by omega,g1,g2,hq⟩,by omega,rfl,⟨TrE.refl _,rfl,rfl,rfl⟩,⟨rfl,rfl,rfl,rfl⟩,TrE.refl _,TrE.refl _,TrE.refl _,TrE.refl _,TrE.refl _,TrE.refl _,TrE.refl _,TrE.refl _⟩
  rw[if_pos hc]at eq;by_cases hd:(zIK S (zBe (nS s 5) S.zc0).2.world).code=0
  ·rw[if_pos hd]at eq;subst eq;simp[go_sem,zBH,zHO,zRV,hs,h5,hC,hW,show S.zc0.next<=1000000000 by omega,h0,hc,hd,hr];exact⟨r,_,_,⟨by omega,g1,g2,hq⟩,by omega,rfl,⟨TrE.refl _,rfl,rfl,rfl⟩,⟨rfl,rfl,rfl,rfl⟩,TrE.refl _,TrE.refl _,TrE.refl _,TrE.refl _,TrE.refl _,TrE.refl _,TrE.refl _,TrE.refl _⟩
  ·rw[if_neg hd]at eq;subst eq;simp[go_sem,zBH,zHO,zRV,hs,h5,hC,hW,show S.zc0.next<=1000000000 by omega,h0,hc,hd,hr];exact⟨r,_,_,⟨by omega,g1,g2,hq⟩,by omega,rfl,⟨TrE.refl _,rfl,rfl,rfl⟩,⟨rfl,rfl,rfl,rfl⟩,TrE.refl _,TrE.refl _,TrE.refl _,TrE.refl _,TrE.refl _,TrE.refl _,TrE.refl _,TrE.refl _⟩
 | zero=>
  replace hq:t=zEv s S:=hq;unfold zEv at hq;by_cases aA:nV s 20=0;rotate_left
  ·rw[if_neg aA]at hq;simp[go_sem,zBH,hs,aA,hq,zw,zU,zd,zt,zf]
  rw[if_pos aA]at hq;obtain⟨a,ea⟩:∃a,nS s 20=a:=⟨_,rfl⟩;obtain⟨b,eb⟩:∃b,nS a 3=b:=⟨_,rfl⟩;obtain⟨v,bA⟩:∃v:Nat,nV a 3=v:=⟨_,(Int.toNat_of_nonneg (zJc a (m:=3) (by omega)).1).symm⟩;have ha:qi a:=ea▸zAI hs _;have hb:qi b:=eb▸zAI ha _;rw[ea,eb,bA]at hq;have eA:v<3:=(by have:=(zGA a (m:=3) (by omega) (by omega)).2;omega);rcases(show v=0\/v=1\/v=2 by omega)with e | e | e<;>subst e
  ·have q:t=(nS b 2,{S with zcz:={S.zcz with time:=IntKind.i64.wrap (S.zc0.time+nV b 2)}}):=hq;simp[go_sem,zBH,zCq,hs,ha,hb,aA,ea,eb,bA,q,zw,zU,zd,zt,zf];show _=true;kernel_rfl
  ·have q:t=(b,{S with zcz:={S.zcz with pool:={S.zcz.pool with hn:=1,h:=fun _=>0}}}):=hq;simp[go_sem,zBH,zCq,hs,ha,hb,aA,ea,eb,bA,q,zw,zU,zd,zt,zf];refine⟨.inl rfl,rfl,rfl,fun i j hi hj=>TrE.of_eq ?_⟩;cases (show i=0 by omega);cases (show j=0 by omega);rfl
  ·have q:t=((zCs b).1,{S with zc0:=(zCs b).2}):=hq;simp[go_sem,zBH,zCq,zV1,hs,ha,hb,aA,ea,eb,bA,q,zw,zU,zd,zt,zf]
set_option maxRecDepth 20000
set_option maxHeartbeats 3200000
abbrev byT(n:Nat)(f:Nat->Int):Bool×List Tr:=(false,[.s .z 1 n (zFC f)])
def zGP(n:Nat)(f:Nat->Int):Prop:=n<=2000000/\∀i,i<n->0<=f i/\f i<256
attribute [local go_sem] qX List.map_cons List.map_nil Tr.cv yp qD qs qq yo yn ym qp zAu zAw zAv zAr zAt zAs zCF zCH zCG qH zl qI zm qB qA qM yx zi zj qw qG tmpsOf zAf qv qF zAp yv yr yq yu stpP opds opd opdC kap zAG qC zh coreU bin zAb zB0 get put dlO fgt zA8 zA1 zA5 zA6 tyT yj yi Op.operands Call.operands evLoad evLen evStore evAlloc zAa and_true true_and List.append_nil List.nil_append List.cons_append Ret resCv zBs yQ cellM zBV zBw qY StW StR hpT hpO hpV hpA hpL hpC sg nin zB6 bdO tmW obW AvE CsE CvE Av.tup Av.ids Cv.ids inD ObE Ob.ids TrE.refl qE qt qu qJ qK qL zk ze zb yw zBc zB1 zAy evCall argL argOf qh outOb obO yL zy cvO tot Tr.own rid partsOf fillC zW zBU frz frz1 evBuildSlice zc trs Cv.tr evSlice Option.toArray_none Option.toArray_some evMakeSlice evAppend dstOf srcOf zBC zA7 zA4 zA2 zA3 ikT qn qm ql qk RetP RetN zBd qQ evLd evSt evStoreH zAX evAppendM evAppendT tlOf mvOf rowE shp evTake oOf evC evCallP evCallN evCallO unlast zAW zBB zAU argsF zB5 qy pmC varT vT evField evConv dB0 Option.bind_some Option.bind_none Option.map_some Option.map_none Option.isSome_some Option.isSome_none
attribute [local go_sem] yC zX zAg yI qe zAO zAP zAQ zAR zAS zAT yV yW yX yY yZ yb yd ye qz qV
attribute [-go_sem] zX zAb
attribute [local go_sem] yS zBX zBY yg yG zHo zHp zKf zKd zKe zG6 zG7 zG8 zKY zTg zTh zKc zKb zKa zKZ zCj
end Go.Proofs.YtbplmbafodlboaaGreatDoor
