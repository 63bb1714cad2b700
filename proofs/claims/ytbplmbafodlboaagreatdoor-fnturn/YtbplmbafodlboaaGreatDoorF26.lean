/- A part of the proof. -/
import Derived.Test.YtbplmbafodlboaaGreatDoorF25
set_option linter.unusedVariables false
set_option maxRecDepth 20000
set_option maxHeartbeats 4000000
namespace Go.Proofs.YtbplmbafodlboaaGreatDoor
open Go.RowKit
set_option linter.unusedSimpArgs false
set_option maxRecDepth 20000
set_option maxHeartbeats 3200000
attribute [local go_sem] qW List.map_cons List.map_nil Tr.cv yo qG qw qv yn ym yk qu zAv zAx zAw zAs zAu zAt zCK zCM zCL qK zn qL zo qE qD qP yx zk zl yB qJ tmpsOf zAf yA qI zAr yu yq yp yr stpP opds opd opdC kap zAE qF zj coreU bin zAY zB6 get put dlO fgt zA6 zAz zA3 zA4 tyT yj yi Op.operands Call.operands evLoad evLen evStore evAlloc zAZ and_true true_and List.append_nil List.nil_append List.cons_append Ret resCv zBx yP cellM zBT zB3 qX StW StR hpT hpO hpV hpA hpL hpC sg nin zCD bdO tmW obW AvE CsE CvE Av.tup Av.ids Cv.ids inD ObE Ob.ids TrE.refl qH qx qy qM qN qO zm zb za yw zBd zCB zAy evCall argL argOf qj outOb obO yM zy cvO tot Tr.own rid partsOf fillC zT zBS frz frz1 evBuildSlice zc trs Cv.tr evSlice Option.toArray_none Option.toArray_some evMakeSlice evAppend dstOf srcOf zAq zA5 zA2 zA0 zA1 ikT qt qs qq qp RetP RetN zBe qR evLd evSt evStoreH zAP evAppendM evAppendT tlOf mvOf rowE shp evTake oOf evC evCallP evCallN evCallO unlast zAK zAp zAO argsF zCA qn pmC varT vT evField evConv dB0 Option.bind_some Option.bind_none Option.map_some Option.map_none Option.isSome_some Option.isSome_none
attribute [local go_sem] yF zY zAk yN qk zAS zAT zAU zAV zAW zAX yX yY yZ yb yd ye yf yg yG qe
attribute [-go_sem] zY zAY
attribute [local go_sem] yV zBi zBj zAA yO zJL zJM zLg zLe zLf zIJ zIK zIL zLZ zLd zLc zLb zLa zDK
def zFP(s:zAB)(p:zF):zAB×Int×Int:=if nV s 8=0\/p.n=0 then(nS (nS (nS s 8) 14) 4,zLt (nS s 8),nV (nS (nS s 8) 14) 4)else(nS (nS s 8) p.n,nV (nS s 8) p.n,(p.s (nV (nS s 8) p.n).toNat).birth)
noncomputable def zaD:zW:=qZ (fun q:zAB×zF=>(true,srV q.1) :: [poT q.2.n q.2.s q.2.hn q.2.h]) (fun q=>qb q.1/\q.2.n<=1000000) (fun q=>[(true,srV (zFP q.1 q.2).1),pT (zFP q.1 q.2).2.1 (zFP q.1 q.2).2.2])
theorem zW6(s:zAB)(p:zF):zaD ((true,srV s) :: [poT p.n p.s p.hn p.h])=some (qb s/\p.n<=1000000,[(true,srV (zFP s p).1),pT (zFP s p).2.1 (zFP s p).2.2]):=zO (fun l=>(zGx (nth l 0),zEt (nth l 1 0) (nth l 1 1))) (fun _=>rfl) (s,p)
theorem zU5:zBh Tryz.prog 82 zaD:=by
 refine zBM zs (GOk.ptr zNf (zE Tryz.func47 rfl rfl) (GOk.ptr zJ7 (zE Tryz.func41 rfl rfl) (GOk.ptr zO5 (zE Tryz.func83 rfl rfl) GOk.nil))) zr Tryz.func82 rfl Tryz.ntmps82 Tryz.results82 6 ?_;rintro⟨s,p⟩ hs;obtain⟨hs,hp⟩:qb s/\p.n<=1000000:=hs;have h1:=yS hs 8;have h2:=yS h1 14;refine⟨by simp,?_⟩;by_cases h0:nV s 8=0
 ·simp[go_sem,zCP,zAH,zE1,hs,h1,h2,h0,zFP,zh]
 by_cases hn:p.n=0
 ·simp[go_sem,zCP,zAH,zE1,hs,h1,h2,h0,hn,zFP,zh]
 have hv:=zJS (nS s 8) (m:=p.n) (by omega);simp[go_sem,zCP,zAH,zE1,hs,h1,h2,h0,hn,zFP,zh];exact⟨by omega,hv.1,by omega⟩
noncomputable def stepAt(s:zAB)(W:zC)(x:ByteArray)(a:Int):Nat->zAB×zDX
 | 0=>(s,zCU W x)
 | 1=>(zK0 s,zKn W x (zRE s))
 | 2 | 3 | 4=>(nS s 3,zEJ W x ([⟨#[115,49]⟩,⟨#[115,50]⟩,⟨#[115,51]⟩].getD (nV s 3).toNat ⟨#[]⟩))
 | 5=>(s,sdE W a)
 | 6 | 7=>(nS s 3,zEf W a ([⟨#[98]⟩,⟨#[99]⟩,⟨#[100]⟩].getD (nV s 3).toNat ⟨#[]⟩))
 | 8=>(s,zKS W x)
 | 9=>(s,zKg W x)
 | 10=>(s,zRH W x)
 | 11=>(s,⟨{W with pool:=zE8 W.pool},0,0,0⟩)
 | _=>(zTL (zK0 s),zHO W x (zRE s) (zTM (zK0 s)))
noncomputable def zBJ(s:zAB)(W:zC):zAB×zDX:=stepAt (nS (nS (nS s (max 1 W.next)) 5) 16) W (zRA (nS s (max 1 W.next))) (1+nV s (max 1 W.next)) (nV (nS (nS s (max 1 W.next)) 5) 16).toNat
noncomputable def zaL:zW:=qZ (fun q:zAB×zC=>(true,srV q.1) :: [woT q.2]) (fun q=>qb q.1/\qU q.2/\q.2.next<=1000000000) (fun q=>[(true,srV (zBJ q.1 q.2).1),wuO (zBJ q.1 q.2).2])
theorem zEF(s:zAB)(W:zC):zaL ((true,srV s) :: [woT W])=some (qb s/\qU W/\W.next<=1000000000,[(true,srV (zBJ s W).1),wuO (zBJ s W).2]):=zO (fun l=>(zGx (nth l 0),zC1 (nth l 1))) (fun _=>rfl) (s,W)
theorem zIa:zBh Tryz.prog 40 zaL:=by
 refine zBM zs (GOk.cons zBs (zE Tryz.func27 rfl rfl) (GOk.cons zKM (zE Tryz.func36 rfl rfl) (GOk.ptr zNf (zE Tryz.func47 rfl rfl) (GOk.cons zJo (zE Tryz.func48 rfl rfl) (GOk.cons zU4 (zE Tryz.func69 rfl rfl) (GOk.ptr zSZ (zE Tryz.func70 rfl rfl) (GOk.cons zRr (zE Tryz.func71 rfl rfl) (GOk.ptr zR2 (zE Tryz.func72 rfl rfl) (GOk.cons zRs (zE Tryz.func73 rfl rfl) (GOk.ptr zUI (zE Tryz.func74 rfl rfl) (GOk.cons zLR (zE Tryz.func75 rfl rfl) (GOk.cons zPv (zE Tryz.func76 rfl rfl) (GOk.cons zNT (zE Tryz.func77 rfl rfl) (GOk.cons zP0 (zE Tryz.func78 rfl rfl) (GOk.cons zRp (zE Tryz.func79 rfl rfl) (GOk.cons zP2 (zE Tryz.func80 rfl rfl) (GOk.ptr zSQ (zE Tryz.func81 rfl rfl) GOk.nil))))))))))))))))) zr Tryz.func40 rfl Tryz.ntmps40 Tryz.results40 70 ?_;rintro⟨s,W⟩ hs;obtain⟨hs,hW,hx⟩:qb s/\qU W/\W.next<=1000000000:=hs;have hm:max 1 W.next<=1000000000000000000:=by omega
 have hi:=zJS s hm;have hw:IntKind.i64.wrap (1+nV s (max 1 W.next))=1+nV s (max 1 W.next):=zCa (by omega) (by omega);obtain⟨t,ht⟩:∃t,zBJ s W=t:=⟨_,rfl⟩;obtain⟨a,ea⟩:∃a,1+nV s (max 1 W.next)=a:=⟨_,rfl⟩;rw[ea]at hw;obtain⟨s1,e1⟩:∃s1,nS s (max 1 W.next)=s1:=⟨_,rfl⟩;obtain⟨x,ex⟩:∃x,zRA s1=x:=⟨_,rfl⟩;obtain⟨s2,e2⟩:∃s2,nS s1 5=s2:=⟨_,rfl⟩;obtain⟨s3,e3⟩:∃s3,nS s2 16=s3:=⟨_,rfl⟩;obtain⟨v,hv⟩:∃v:Nat,nV s2 16=v:=⟨_,(Int.toNat_of_nonneg (zJS s2 (m:=16) (by omega)).1).symm⟩;have h1:qb s1:=e1▸yS hs _;have h2:qb s2:=e2▸yS h1 5;have h3:qb s3:=e3▸yS h2 16;have hn:=hW.n;have hh:=hW.hn;have hk:(∀i,i<W.pool.n->(W.pool.s i).kn<=1000000)↔True:=⟨fun _=>trivial,fun _=>hW.kn⟩;have hq:t=stepAt s3 W x a v:=by
  rw[<-ht];unfold zBJ;rw[e1,e2,e3,ex,ea,hv];rfl
 have q0:v=0->t=(s3,zCU W x):=fun h=>by rw[hq,h];rfl
 have q1:v=1->t=(zK0 s3,zKn W x (zRE s3)):=fun h=>by rw[hq,h];rfl
 have q2:v=2\/v=3\/v=4->t=(nS s3 3,zEJ W x ([⟨#[115,49]⟩,⟨#[115,50]⟩,⟨#[115,51]⟩].getD (nV s3 3).toNat ⟨#[]⟩)):=fun h=>by rcases h with h | h | h<;>(rw[hq,h];rfl)
 have q5:v=5->t=(s3,sdE W a):=fun h=>by rw[hq,h];rfl
 have q6:v=6\/v=7->t=(nS s3 3,zEf W a ([⟨#[98]⟩,⟨#[99]⟩,⟨#[100]⟩].getD (nV s3 3).toNat ⟨#[]⟩)):=fun h=>by rcases h with h | h<;>(rw[hq,h];rfl)
 have q8:v=8->t=(s3,zKS W x):=fun h=>by rw[hq,h];rfl
 have q9:v=9->t=(s3,zKg W x):=fun h=>by rw[hq,h];rfl
 have aA:v=10->t=(s3,zRH W x):=fun h=>by rw[hq,h];rfl
 have bA:v=11->t=(s3,⟨{W with pool:=zE8 W.pool},0,0,0⟩):=fun h=>by rw[hq,h];rfl
 have cA:12<=v->t=(zTL (zK0 s3),zHO W x (zRE s3) (zTM (zK0 s3))):=fun h=>by
  obtain⟨w,rfl⟩:∃w,v=w+12:=⟨v - 12,by omega⟩;rw[hq];rfl
 clear hq;refine⟨by simp,?_⟩;show ev _ _ _ _ _ _ (zNo _ _ [(true,srV (zBJ s W).1),wuO (zBJ s W).2]);rw[ht];simp[go_sem,zY3,zCP,zVD,zY4,zWv,zVF,zIc,zXI,zVI,zQ5,zVC,zas,zWw,zW9,zY5,yL,zQ6,hs,hW,h1,h2,h3,e1,e2,e3,ex,ea,hm,hw,hv,hn,hh,hk,zPV h3]
 repeat' first | refine⟨fun _=>?_,fun _=>?_⟩ | fail
 all_goals first
  | (exfalso;omega)
  | rw[q0 (by omega)]
  | rw[q1 (by omega)]
  | rw[q2 (by omega)]
  | rw[q5 (by omega)]
  | rw[q6 (by omega)]
  | rw[q8 (by omega)]
  | rw[q9 (by omega)]
  | rw[aA (by omega)]
  | rw[bA (by omega)]
  | rw[cA (by omega)]
 all_goals first
  | exact⟨⟨⟨TrE.refl _,zh⟩,rfl,rfl,rfl⟩,⟨TrE.refl _,zR⟩,⟨TrE.refl _,zX⟩,rfl,rfl,⟨TrE.refl _,zp⟩,⟨TrE.refl _,zd⟩,rfl,rfl,rfl⟩
  | exact⟨by as_aux_lemma=>kernel_rfl,⟨⟨TrE.refl _,zh⟩,rfl,rfl,rfl⟩,⟨TrE.refl _,zR⟩,⟨TrE.refl _,zX⟩,rfl,rfl,⟨TrE.refl _,zp⟩,⟨TrE.refl _,zd⟩,rfl,rfl,rfl⟩
structure zFB (c:Nat) (s:zAJ):Prop where
  dn:s.dn<=450+c
  name:s.name.size<=8000
  zcD:0<=s.zcD/\s.zcD<=1000000
structure zFd (c:Nat) (s:zu):Prop where
  dn:s.dn<=450+c
  name:s.name.size<=8000
  set:s.set.size<=8000
  zcD:0<=s.zcD/\s.zcD<=1000000
structure zBc (c:Nat) (W:zC):Prop where
  pool:qo W.pool<=19000+c
  sn:W.sn<=9
  pn:W.pn<=21
  next:0<=W.next/\W.next<=900001
  zcC:∀i,i<W.sn->zFB c (W.zcC i)
  zb9:∀i,i<W.pn->zFd c (W.zb9 i)
theorem zCH{c:Nat}{e:Int}:zBc c (yD e).world:=⟨by show qo (zCC 0)<=_;exact Nat.zero_le _,Nat.zero_le _,Nat.zero_le _,by show(0:Int)<=0/\(0:Int)<=900001;omega,fun i hi=>absurd hi (Nat.not_lt_zero _),fun i hi=>absurd hi (Nat.not_lt_zero _)⟩
structure zPx (W:zC):Prop where
  pool:qo W.pool<=10000
  sn:W.sn<=8
  pn:W.pn<=20
  next:1<=W.next/\W.next<=900000
  zcC:∀i,i<W.sn->(W.zcC i).dn<=200/\(W.zcC i).name.size<=20/\0<=(W.zcC i).zcD/\(W.zcC i).zcD<=900000
  zb9:∀i,i<W.pn->(W.zb9 i).dn<=200/\(W.zb9 i).name.size<=20/\(W.zb9 i).set.size<=20/\0<=(W.zb9 i).zcD/\(W.zb9 i).zcD<=900000
theorem zGR{W:zC}(h:zB9 W):zPx W:=by
  obtain⟨n1,n2,n3,n4,n5,n6⟩:=h.zcE;have hp:=h.zcE.prevOk;have hd:=zRP h;have pr:∀x,x=0\/zCO W x->0<=x/\x<=900000:=fun x hx=>by
    rcases hx with rfl | hx
    · omega
    · have:=hx.range hp;omega
  refine⟨zFQ h.right,n3,n4,n2,fun i hi=>⟨hd.1 i hi,(n5 i hi).1.2.1,pr _ (hp.zcC i hi)⟩,fun i hi=>⟨hd.2 i hi,(n6 i hi).1.2.2.2.2.1.2.1,?_,pr _ (hp.zcD i hi)⟩⟩;obtain⟨j,hj,e⟩:=(n6 i hi).1.2.2.2.2.2;rw[<-e];exact(n5 j hj).1.2.1
theorem zPx.set{W:zC}(h:zPx W){i:Nat}(hi:i<W.sn):zFB 0 (W.zcC i):=by
  obtain⟨h1,h2,h3,h4⟩:=h.zcC i hi;exact⟨by omega,by omega,h3,by omega⟩
theorem zPx.snap{W:zC}(h:zPx W){i:Nat}(hi:i<W.pn):zFd 0 (W.zb9 i):=by
  obtain⟨h1,h2,h3,h4,h5⟩:=h.zb9 i hi;exact⟨by omega,by omega,by omega,h4,by omega⟩
theorem zBc.up{c:Nat}{W:zC}(h:zBc 0 W):zBc c W:=⟨Nat.le_trans h.pool (by omega),h.sn,h.pn,h.next,fun i hi=>⟨Nat.le_trans (h.zcC i hi).dn (by omega),(h.zcC i hi).name,(h.zcC i hi).zcD⟩,fun i hi=>⟨Nat.le_trans (h.zb9 i hi).dn (by omega),(h.zb9 i hi).name,(h.zb9 i hi).set,(h.zb9 i hi).zcD⟩⟩
theorem zE5(p:zF)(l:List (Int×Int)):qo (yH p l)=qo p+l.length:=by
  obtain⟨h1,h2,h3⟩:=zB0 l p;unfold qo;rw[h1,h2,h3];omega
theorem zRS{f:Nat->zM}{j:Nat}:∀{n:Nat},j<n->zCv (f j)<=zBU f n:=fun h=>zM6 f h
theorem zBc.zcG{c:Nat}{W:zC}(h:zBc c W)(hc:c<=10):qU W:=by
  have hp:=h.pool;have h1:W.pool.n<=qo W.pool:=(by unfold qo;omega);have h2:W.pool.hn<=qo W.pool:=Nat.le_add_left ..;have h3:zBU W.pool.s W.pool.n<=qo W.pool:=(by unfold qo;omega);have hs:=h.sn;have hn:=h.pn;refine⟨⟨by omega,by omega,by omega,by omega,fun i hi=>?_,fun i hi=>?_⟩,fun i hi=>?_⟩
  · have:=(h.zcC i hi).dn;omega
  · have:=(h.zb9 i hi).dn;omega
  · have:=zRS (f:=W.pool.s) hi
    have:(W.pool.s i).kn<=zCv (W.pool.s i):=Nat.le_add_right ..;omega
theorem zKi{f g:Nat->zM}:∀{n:Nat},(∀i,i<n->zCv (f i)<=zCv (g i))->zBU f n<=zBU g n
  | 0,_=>Nat.le_refl _
  | n+1,h=>Nat.add_le_add (zKi fun i hi=>h i (by omega)) (h n (by omega))
theorem zOg(p:zF):qo (zE8 p)<=qo p:=by
  by_cases h:zz p/\zz (zH8 p)
  · rw[zNB h.1 h.2]
    have:zBU (zH8 p).s p.n<=zBU p.s p.n:=zKi fun i hi=>by
      show zCv ((zDA p p.hn).s i)<=_;unfold zDA;dsimp only;split
      · exact Nat.zero_le _
      · exact Nat.le_refl _
    show p.n+zBU (zH8 p).s p.n+0<=p.n+zBU p.s p.n+p.hn;omega
  · rw[zLC h];exact Nat.le_refl _
theorem zYW(W:zC)(x:ByteArray):zHq W x<=W.sn:=by
  by_cases h:∃k,k<W.sn/\¬zC8 (W.zcC k).name x/\∀j,j<k->zC8 (W.zcC j).name x
  · obtain⟨k,h1,h2,h3⟩:=h
    rw[zP6 h1 h2 h3];omega
  · unfold zHq
    rw[dif_neg h];exact Nat.le_refl _
theorem zQX{W:zC}(L:zPx W){x:ByteArray}(hx:x.size<=8000){o p rs rb:Int}(hp:0<=p/\p<=1000000):zBc 0 (zGD W (zHq W x) (zDw x o p rs rb)):=by
  have hs:=L.sn;refine⟨by have:=L.pool;show qo W.pool<=_;omega,by show W.sn+1<=9;omega,by have:=L.pn;show W.pn<=_;omega,by have:=L.next;show 0<=W.next/\W.next<=_;omega,fun i hi=>?_,fun i hi=>L.snap hi⟩;replace hi:i<W.sn+1:=hi;show zFB 0 (ins W.zcC (zHq W x) (zDw x o p rs rb) i);have hk:zHq W x<=W.sn:=zYW W x;rcases Nat.lt_trichotomy i (zHq W x)with e | e | e
  · rw[zWb e];exact L.set (by omega)
  · rw[e,zWZ];exact⟨Nat.zero_le _,hx,hp⟩
  · rw[zWa e];exact L.set (by omega)
theorem zEC(W:zC)(x:ByteArray):zBc 0 (zCU W x).world:=by
  unfold zCU
  repeat' split
  all_goals first
    | exact zCH
    | exact zQX (zGR (by rename_i h _;exact h.1)) (by omega) (by omega)
theorem zL7(W:zC)(id:Int)(x:ByteArray):zBc 0 (zEf W id x).world:=by
  unfold zEf
  repeat' split
  all_goals first
    | exact zCH
    | (rename_i h8 hR hH _
       have:=hH.range hR.1.zcE.prevOk;exact zQX (zGR hR.1) (by omega) (by omega))
theorem zGL(W:zC)(x a:ByteArray):zBc 0 (zEJ W x a).world:=by
  unfold zEJ
  repeat' split
  all_goals first
    | exact zCH
    | skip
  rename_i h8 hR hH _ h20
  have L:=zGR hR.1;have hp:=L.pn;have hn:=L.next;have hs:=L.sn;refine⟨by have:=L.pool;show qo W.pool<=_;omega,by show W.sn<=9;omega,by show W.pn+1<=21;omega,by show 0<=W.next+1/\W.next+1<=_;omega,fun i hi=>?_,fun i hi=>?_⟩
  · replace hi:i<W.sn:=hi
    show zFB 0 (if i=zCJ W x then {W.zcC (zCJ W x)with zcD:=W.next,dn:=0}else W.zcC i);split
    · rename_i e
      have g:=L.set hi;rw[<-e];exact⟨Nat.zero_le _,g.name,by show 0<=W.next/\W.next<=_;omega⟩
    · exact L.set hi
  · replace hi:i<W.pn+1:=hi
    show zFd 0 (if i=W.pn then zF2 W (zCJ W x) a x else W.zb9 i);split
    · have hk:=zHL hH
      have aA:=zBa.2 hH;have g:=L.set (i:=zCJ W x) (by show(zBl W.sn fun k=>(W.zcC k).name=x).toNat<W.sn;omega);exact⟨g.dn,by show a.size<=8000;omega,by show x.size<=8000;omega,g.zcD⟩
    · exact L.snap (by omega)
theorem zNP(W:zC)(k:Nat)(t:Int):(zHo W k t).length<=73:=Nat.le_trans (zBv ..) (yR ..)
theorem zUu(W:zC)(x:ByteArray):zBc 0 (zKg W x).world:=by
  unfold zKg zUL
  repeat' split
  all_goals first
    | exact zCH
    | skip
  rename_i h8 hR hH hK
  have L:=zGR hR;have hy:=zNP W (zCJ W x) (W.zb9 (zH5 W (W.zcC (zCJ W x)).zcD)).time;refine⟨?_,by have:=L.sn;show W.sn<=9;omega,by have:=L.pn;show W.pn<=21;omega,by have:=L.next;show 0<=W.next/\W.next<=_;omega,fun i hi=>?_,fun i hi=>L.snap hi⟩
  · show qo (yH W.pool _)<=_
    rw[zE5];have:=L.pool;omega
  · replace hi:i<W.sn:=hi
    show zFB 0 (if i=zCJ W x then {W.zcC (zCJ W x)with rs:=_,rb:=_,dn:=0}else W.zcC i);split
    · rename_i e
      have g:=L.set hi;rw[<-e];exact⟨Nat.zero_le _,g.name,g.zcD⟩
    · exact L.set hi
theorem zUt(W:zC)(x:ByteArray):zBc 0 (zKS W x).world:=by
  unfold zKS
  repeat' split
  all_goals first
    | exact zCH
    | skip
  rename_i h8 hR hH hK
  have L:=zGR hR;have hy:=zNP W (zCJ W x) (zI W (W.zcC (zCJ W x)).zcD).time;refine⟨?_,by have:=L.sn;show W.sn - 1<=9;omega,by have:=L.pn;show W.pn<=21;omega,by have:=L.next;show 0<=W.next/\W.next<=_;omega,fun i hi=>?_,fun i hi=>L.snap hi⟩
  · show qo (yH W.pool _)<=_
    rw[zE5];have:=L.pool;omega
  · replace hi:i<W.sn - 1:=hi
    show zFB 0 (if i<zCJ W x then W.zcC i else W.zcC (i+1));split
    · exact L.set (by omega)
    · exact L.set (by omega)
theorem zWO(W:zC)(x:ByteArray):zBc 0 (zRH W x).world:=by
  unfold zRH zXm
  repeat' split
  all_goals first
    | exact zCH
    | skip
  rename_i h8 hR hH _ _
  have L:=zGR hR;refine⟨by have:=L.pool;show qo W.pool<=_;omega,by have:=L.sn;show W.sn<=9;omega,by have:=L.pn;show W.pn<=21;omega,by have:=L.next;show 0<=W.next/\W.next<=_;omega,fun i hi=>?_,fun i hi=>?_⟩
  · replace hi:i<W.sn:=hi
    have g:=L.set hi;unfold zXn;dsimp only;split
    · rename_i e;rw[<-e];exact⟨g.dn,g.name,g.zcD⟩
    · split
      · rename_i e;rw[<-e];exact⟨g.dn,g.name,g.zcD⟩
      · exact g
  · replace hi:i<W.pn:=hi
    have g:=L.snap hi;unfold zXn zKy;dsimp only;split
    · exact⟨g.dn,g.name,by show x.size<=8000;omega,g.zcD⟩
    · exact g
theorem zQY{W:zC}(L:zPx W){k:Nat}{t:zD9}(h1:qo t.pool<=qo W.pool+40)(h2:t.old.length<=3):zBc 0 (zFY W k t).world:=by
  unfold zFY;split;rotate_left
  · exact zCH
  have hy:(zY0 W k t).length<=t.old.length:=zBv ..;have ho:(zbR W k t).length<=t.old.length:=zHG ..;refine⟨?_,by have:=L.sn;show W.sn<=9;omega,by have:=L.pn;show W.pn<=21;omega,by have:=L.next;show 0<=W.next/\W.next<=_;omega,fun i hi=>?_,fun i hi=>L.snap hi⟩
  · show qo (yH t.pool _)<=_
    rw[zE5];have:=L.pool;omega
  · replace hi:i<W.sn:=hi
    show zFB 0 (if i=k then zMS W k t else W.zcC i);split
    · rename_i e
      subst e;have g:=L.set hi;have g':=(L.zcC i hi).1;refine⟨?_,g.name,g.zcD⟩;show(zWn W i t).length<=_;unfold zWn;rw[List.length_append,zHk];omega
    · exact L.set hi
theorem zSI(W:zC)(x:ByteArray)(aA:Int)(d:ByteArray):zBc 0 (zHO W x aA d).world:=by
  unfold zHO
  repeat' split
  all_goals first
    | exact zCH
    | (rename_i h8 hR hH
       exact zQY (zGR hR) (zHP ..).1 (zHP ..).2)
theorem zUw(W:zC)(x:ByteArray)(aA:Int):zBc 0 (zKn W x aA).world:=by
  unfold zKn
  repeat' split
  all_goals first
    | exact zCH
    | (rename_i h8 hR hH
       exact zQY (zGR hR) (zIk ..).1 (zIk ..).2)
theorem zWP{W:zC}(L:zPx W){x:Int}{k:Nat}(hk:k<W.pn):zBc 0 (sdK W x k).world:=by
  have gk:=L.snap hk;have bA:=(L.zb9 k hk).1;have aA:∀{f:Nat->zu},(∀i,i<W.pn->zFd 0 (f i))->∀i,i<W.pn - 1->zFd 0 (del f k i):=fun {f} hf i hi=>by
    unfold del;split
    · exact hf i (by omega)
    · exact hf (i+1) (by omega)
  have hl:∀(n:Nat) (f h:Nat->Int),(sdD W (W.zb9 k) n f h).length<=200+n:=fun n f h=>by
    unfold sdD;rw[List.length_append,zHk];have:(sdO W (W.zb9 k) n f h).length<=n:=zHG ..;omega
  have hs:=L.sn;have hp:=L.pn;have hn:=L.next;have hq:=L.pool;unfold sdK;split
  · rename_i h
    have hi:=h.choose_spec.1;generalize h.choose=i at hi ⊢;have g:=L.set hi;have g':=(L.zcC i hi).1;have hy:(zNi W k i).length<=(W.zcC i).dn:=zBv ..;refine⟨by show qo (yH W.pool _)<=_;rw[zE5];omega,by show W.sn<=9;omega,by show W.pn - 1<=21;omega,by show 0<=W.next/\W.next<=_;omega,fun j hj=>?_,aA fun j hj=>L.snap hj⟩;show zFB 0 (if j=i then zUR W (W.zb9 k) (W.zcC i)else W.zcC j);split
    · exact⟨Nat.le_trans (hl ..) (by omega),g.name,gk.zcD⟩
    · exact L.set hj
  split
  · rename_i h
    have hi:=h.choose_spec.1;generalize h.choose=i at hi ⊢;have g:=L.snap hi;have g':=(L.zb9 i hi).1;have hy:(zRO W k i).length<=(W.zb9 i).dn:=zBv ..;refine⟨by show qo (yH W.pool _)<=_;rw[zE5];omega,by show W.sn<=9;omega,by show W.pn - 1<=21;omega,by show 0<=W.next/\W.next<=_;omega,fun j hj=>L.set hj,aA fun j hj=>?_⟩;show zFd 0 (if j=i then zPm W (W.zb9 k) (W.zb9 i)else W.zb9 j);split
    · exact⟨Nat.le_trans (hl ..) (by omega),g.name,g.set,gk.zcD⟩
    · exact L.snap hj
  · exact⟨by show qo W.pool<=_;omega,by show W.sn<=9;omega,by show W.pn - 1<=21;omega,by show 0<=W.next/\W.next<=_;omega,fun j hj=>L.set hj,aA fun j hj=>L.snap hj⟩
theorem zYs(W:zC)(x:Int):zBc 0 (sdE W x).world:=by
  unfold sdE
  repeat' split
  all_goals first
    | exact zCH
    | skip
  rename_i hR hH h1
  refine zWP (zGR hR) ?_;have hk:=zOE hH;have aA:=zME.2 hH;show(zBl W.pn fun k=>(W.zb9 k).id=x).toNat<W.pn;omega
theorem zUv{c:Nat}{W:zC}(h:zBc c W):zBc c {W with pool:=zE8 W.pool}:=⟨Nat.le_trans (zOg _) h.pool,h.sn,h.pn,h.next,h.zcC,h.zb9⟩
set_option linter.unusedSimpArgs false
set_option maxRecDepth 20000
set_option maxHeartbeats 3200000
theorem zV7{a b:Int}:zAY .mul .i64 a .i64 b=some (True,.int .i64 (IntKind.i64.wrap (a*b))):=rfl
theorem zV8{a b:Int}:zAY .sub .i64 a .i64 b=some (True,.int .i64 (IntKind.i64.wrap (a - b))):=rfl
theorem zFl{c:Nat}{W:zC}(h:zBc c W)(s:zAB):zBc c (zBJ s W).2.world:=by
 unfold zBJ;generalize nV (nS (nS s (max 1 W.next)) 5) 16=v;generalize nS (nS (nS s (max 1 W.next)) 5) 16=s3;unfold stepAt;split
 ·exact(zEC ..).up
 ·exact(zUw ..).up
 ·exact(zGL ..).up
 ·exact(zGL ..).up
 ·exact(zGL ..).up
 ·exact(zYs ..).up
 ·exact(zL7 ..).up
 ·exact(zL7 ..).up
 ·exact(zUt ..).up
 ·exact(zUu ..).up
 ·exact(zWO ..).up
 ·exact zUv h
 ·exact(zSI ..).up
theorem zE6{s:zAB}(h:qb s)(W:zC):qb (zBJ s W).1:=by
 have h3:=yS (yS (yS h (max 1 W.next)) 5) 16;unfold zBJ;generalize nV (nS (nS s (max 1 W.next)) 5) 16=v;generalize nS (nS (nS s (max 1 W.next)) 5) 16=s3 at h3;unfold stepAt;split<;>dsimp only
 all_goals first
  | exact h3
  | exact yS h3 _
  | exact zPV h3
  | exact yS (yS (zPV h3) _) _
theorem zRF(x:Int):qU (nwW x):=by
 unfold nwW;split
 ·refine⟨⟨by show x.toNat<=_;omega,Nat.zero_le _,Nat.zero_le _,Nat.zero_le _,fun i hi=>absurd hi (Nat.not_lt_zero _),fun i hi=>absurd hi (Nat.not_lt_zero _)⟩,fun i hi=>Nat.zero_le _⟩
 ·exact⟨⟨Nat.zero_le _,Nat.zero_le _,Nat.zero_le _,Nat.zero_le _,fun i hi=>absurd hi (Nat.not_lt_zero _),fun i hi=>absurd hi (Nat.not_lt_zero _)⟩,fun i hi=>Nat.zero_le _⟩
noncomputable def runW:Nat->zAB->zC->zAB×zC
 | 0,s,W=>(s,W)
 | r+1,s,W=>if (zBJ s W).2.code=0 then runW r (zBJ s W).1 (zBJ s W).2.world else runW r (zBJ s W).1 W
theorem zPl:∀(r:Nat) {s:zAB} {W:zC},qb s->zBc 0 W->qb (runW r s W).1/\zBc 0 (runW r s W).2
 | 0,s,W,hs,hW=>⟨hs,hW⟩
 | r+1,s,W,hs,hW=>by
  unfold runW;split
  ·exact zPl r (zE6 hs W) (zFl hW s)
  ·exact zPl r (zE6 hs W) hW
noncomputable def spoilAt(s:zAB)(W:zC):Nat->zAB×zC
 | 0=>(nS s 3,{W with time:=[0,900000,900001].getD (nV s 3).toNat 0})
 | 1=>(s,{W with next:=1})
 | 2=>if 0<W.sn then(s,{W with zcC:=fun i=>if i=0 then {W.zcC 0 with dn:=(zDj (W.zcC 0).dn (W.zcC 0).ds (W.zcC 0).db ++ [(1,1)]).length,ds:=zx (zDj (W.zcC 0).dn (W.zcC 0).ds (W.zcC 0).db ++ [(1,1)]),db:=qS (zDj (W.zcC 0).dn (W.zcC 0).ds (W.zcC 0).db ++ [(1,1)])}else W.zcC i})else(s,W)
 | 3=>if 0<W.pn then(nS s 3,{W with zb9:=fun i=>if i=0 then {W.zb9 0 with zcD:=1+nV s 3}else W.zb9 i})else(s,W)
 | 4=>if 0<W.sn then((zFP s W.pool).1,{W with zcC:=fun i=>if i=0 then {W.zcC 0 with rs:=(zFP s W.pool).2.1,rb:=(zFP s W.pool).2.2}else W.zcC i})else(s,W)
 | _=>(nS s 5,{W with pool:=zG3 W.pool (nV s 5)})
noncomputable def zFS(s:zAB)(W:zC):zAB×zC:=if nV s 20=0 then spoilAt (nS (nS s 20) 6) W (nV (nS s 20) 6).toNat else(nS s 20,W)
noncomputable def zBw(s:zAB):zAB×zC:=
 let q:=runW (nV (nS s 60) (12+2*(nS s 60).size)).toNat (nS (nS s 60) (12+2*(nS s 60).size)) (zCU (nwW (20+nV s 60)) ⟨#[97]⟩).world
 zFS q.1 q.2
attribute [local go_sem] qW List.map_cons List.map_nil Tr.cv yo qG qw qv yn ym yk qu zAv zAx zAw zAs zAu zAt zCK zCM zCL qK zn qL zo qE qD qP yx zk zl yB qJ tmpsOf zAf yA qI zAr yu yq yp yr stpP opds opd opdC kap zAE qF zj coreU bin zAY zB6 get put dlO fgt zA6 zAz zA3 zA4 tyT yj yi Op.operands Call.operands evLoad evLen evStore evAlloc zAZ and_true true_and List.append_nil List.nil_append List.cons_append Ret resCv zBx yP cellM zBT zB3 qX StW StR hpT hpO hpV hpA hpL hpC sg nin zCD bdO tmW obW AvE CsE CvE Av.tup Av.ids Cv.ids inD ObE Ob.ids TrE.refl qH qx qy qM qN qO zm zb za yw zBd zCB zAy evCall argL argOf qj outOb obO yM zy cvO tot Tr.own rid partsOf fillC zT zBS frz frz1 evBuildSlice zc trs Cv.tr evSlice Option.toArray_none Option.toArray_some evMakeSlice evAppend dstOf srcOf zAq zA5 zA2 zA0 zA1 ikT qt qs qq qp RetP RetN zBe qR evLd evSt evStoreH zAP evAppendM evAppendT tlOf mvOf rowE shp evTake oOf evC evCallP evCallN evCallO unlast zAK zAp zAO argsF zCA qn pmC varT vT evField evConv dB0 Option.bind_some Option.bind_none Option.map_some Option.map_none Option.isSome_some Option.isSome_none
attribute [local go_sem] yF zY zAk yN qk zAS zAT zAU zAV zAW zAX yX yY yZ yb yd ye yf yg yG qe
attribute [-go_sem] zY zAY
attribute [local go_sem] yV zBi zBj zAA yO zJL zJM zLg zLe zLf zIJ zIK zIL zLZ zV7 zV8 zLd zLc zLb zLa zDK
noncomputable def zXN:zW:=qZ (fun s:zAB=>[(true,srV s)]) (fun s=>qb s) (fun s=>[(true,srV (zBw s).1),woO (zBw s).2])
theorem zHg(s:zAB):zXN [(true,srV s)]=some (qb s,[(true,srV (zBw s).1),woO (zBw s).2]):=zO (fun l=>zGx (nth l 0)) (fun _=>rfl) s
theorem zKc:zBh Tryz.prog 42 zXN:=by
 refine zBM (A:=fun _=>[]) zs (GOk.cons zGs (zE Tryz.func23 rfl rfl) (GOk.ptr zIa (zE Tryz.func40 rfl rfl) (GOk.ptr zJ7 (zE Tryz.func41 rfl rfl) (GOk.ptr zNf (zE Tryz.func47 rfl rfl) (GOk.cons zJo (zE Tryz.func48 rfl rfl) (GOk.ptr zU5 (zE Tryz.func82 rfl rfl) GOk.nil)))))) zr Tryz.func42 rfl Tryz.ntmps42 Tryz.results42 88 ?_;rintro s hs;replace hs:qb s:=hs;obtain⟨t,ht⟩:∃t,zBw s=t:=⟨_,rfl⟩;obtain⟨s1,e1⟩:∃s1,nS s 60=s1:=⟨_,rfl⟩;have h1:qb s1:=e1▸yS hs _;have hv:=zFN s (m:=60) (by omega) (by omega);have hz:=h1.size;have gA:IntKind.i64.wrap (20+nV s 60)=20+nV s 60:=zCa (by omega) (by omega);have iA:IntKind.i64.wrap (2*s1.size)=2*s1.size:=zCa (by omega) (by omega);have jA:IntKind.i64.wrap (12+2*s1.size)=12+2*s1.size:=zCa (by omega) (by omega);have hm:12+2*s1.size<=1000000000000000000:=by omega
 obtain⟨s2,e2⟩:∃s2,nS s1 (12+2*s1.size)=s2:=⟨_,rfl⟩;have h2:qb s2:=e2▸yS h1 _;obtain⟨K,hK⟩:∃K:Nat,nV s1 (12+2*s1.size)=K:=⟨_,(Int.toNat_of_nonneg (zJS s1 hm).1).symm⟩;have eA:K<40:=by have:=(zFN s1 (m:=12+2*s1.size) (by omega) hm).2;omega
 have hN:qU (nwW (20+nV s 60)):=zRF _;obtain⟨o,eo⟩:∃o,zCU (nwW (20+nV s 60)) ⟨#[97]⟩=o:=⟨_,rfl⟩;have hg:zBc 0 o.world:=eo▸zEC _ _;have hq:t=zFS (runW K s2 o.world).1 (runW K s2 o.world).2:=by
  rw[<-ht];show zFS (runW (nV (nS s 60) (12+2*(nS s 60).size)).toNat (nS (nS s 60) (12+2*(nS s 60).size)) (zCU (nwW (20+nV s 60)) ⟨#[97]⟩).world).1 (runW (nV (nS s 60) (12+2*(nS s 60).size)).toNat (nS (nS s 60) (12+2*(nS s 60).size)) (zCU (nwW (20+nV s 60)) ⟨#[97]⟩).world).2=_;rw[e1,e2,hK,eo];rfl
 refine⟨by simp,?_⟩;show ev _ _ _ _ _ _ (zNo _ _ [(true,srV (zBw s).1),woO (zBw s).2]);rw[ht];simp[go_sem,zCP,zHA,zIc,hs,h1,e1,e2,gA,iA,jA,hm,hK,hN,eo];refine yE (fun q:Nat×zAB×zC=>⟨[(4,true,.i q.1),(3,true,.m false [.p 3 0]),(2,true,.m false [.p 2 0]),(0,true,.m false [.p 0 0])],[(0,.var [.s .z 1 q.2.1.bn (zDo q.2.1.bf),.v (.int .i64 q.2.1.pos),.v (.int .u64 q.2.1.mix),.v (.int .i64 q.2.1.size)]),(3,.var [.h 61,.h 62,.v (.int .i64 q.2.2.time),.v (.int .i64 q.2.2.next),.h 63,.h 64]),(64,.row 8 q.2.2.pn (snapsE .z q.2.2.zb9)),(63,.row 6 q.2.2.sn (setsE .o q.2.2.zcC)),(62,.row 1 q.2.2.pool.hn (qh q.2.2.pool.h)),(61,.row 3 q.2.2.pool.n (zU .z q.2.2.pool.s)),(2,.var [.v n0,.v n0,.v i0,.v i0,.v n0,.v n0])]⟩) (fun q=>q.1) (fun q=>q.1<40/\qb q.2.1/\zBc 0 q.2.2/\t=zFS (runW q.1 q.2.1 q.2.2).1 (runW q.1 q.2.1 q.2.2).2) (K,s2,o.world) (by simp[go_sem]) ⟨eA,h2,hg,hq⟩ ?_;rintro⟨r,s,W⟩ ⟨dA,hs,hW,hq⟩;replace dA:r<40:=dA;replace hs:qb s:=hs;replace hW:zBc 0 W:=hW;replace hq:t=zFS (runW r s W).1 (runW r s W).2:=hq;have hC:=hW.zcG (by omega);have hx:=hW.next;cases r with
 | succ r=>
  have hr:IntKind.i64.wrap (r:Int)=r:=zCa (by omega) (by omega);have cA:=hq;unfold runW at cA;by_cases hc:(zBJ s W).2.code=0
  ·rw[if_pos hc]at cA;simp[go_sem,zEF,hs,hC,show W.next<=1000000000 by omega,hc,hr];exact⟨r,(zBJ s W).1,(zBJ s W).2.world,⟨by omega,zE6 hs W,zFl hW s,cA⟩,by omega,rfl,⟨TrE.refl _,rfl,rfl,rfl⟩,⟨rfl,rfl⟩,TrE.refl _,TrE.refl _,TrE.refl _,TrE.refl _⟩
  ·rw[if_neg hc]at cA;simp[go_sem,zEF,hs,hC,show W.next<=1000000000 by omega,hc,hr];exact⟨r,(zBJ s W).1,W,⟨by omega,zE6 hs W,hW,cA⟩,by omega,rfl,⟨TrE.refl _,rfl,rfl,rfl⟩,⟨rfl,rfl⟩,TrE.refl _,TrE.refl _,TrE.refl _,TrE.refl _⟩
 | zero=>
  replace hq:t=zFS s W:=hq;unfold zFS at hq;by_cases aA:nV s 20=0;rotate_left
  ·rw[if_neg aA]at hq;simp[go_sem,zAH,hs,aA,hq,zh,zR,zX,zp,zd]
  rw[if_pos aA]at hq;obtain⟨a,ea⟩:∃a,nS s 20=a:=⟨_,rfl⟩;obtain⟨b,eb⟩:∃b,nS a 6=b:=⟨_,rfl⟩;obtain⟨v,bA⟩:∃v:Nat,nV a 6=v:=⟨_,(Int.toNat_of_nonneg (zJS a (m:=6) (by omega)).1).symm⟩;have ha:qb a:=ea▸yS hs _;have hb:qb b:=eb▸yS ha _;rw[ea,eb,bA]at hq;have hn:=hC.n;have lA:=zFN b (m:=3) (by omega) (by omega);have hw:IntKind.i64.wrap (1+nV b 3)=1+nV b 3:=zCa (by omega) (by omega);have fA:v<6:=(by have:=(zFN a (m:=6) (by omega) (by omega)).2;omega);have hd:=fun h=>(hW.zcC 0 h).dn
  rcases(show v=0\/v=1\/v=2\/v=3\/v=4\/v=5 by omega)with e | e | e | e | e | e<;>subst e
  ·have q:t=(nS b 3,{W with time:=[0,900000,900001].getD (nV b 3).toNat 0}):=hq;rcases(show nV b 3=0\/nV b 3=1\/nV b 3=2 by omega)with h3 | h3 | h3<;>simp[go_sem,zAH,zCP,hs,ha,hb,aA,ea,eb,bA,h3,q,zh,zR,zX,zp,zd]
  ·have q:t=(b,{W with next:=1}):=hq;simp[go_sem,zAH,zCP,hs,ha,hb,aA,ea,eb,bA,q,zh,zR,zX,zp,zd]
  ·replace hq:t=if 0<W.sn then _ else _:=hq
   by_cases h0:0<W.sn
   ·rw[if_pos h0]at hq;simp[go_sem,zAH,zCP,hs,ha,hb,aA,ea,eb,bA,h0,hq,zh,zR,zX,zp,zd];have kA:=hd h0;refine⟨by omega,by kernel_rfl,⟨.inl rfl,rfl,rfl,fun i j hi hj=>?_⟩⟩;by_cases e:i=0
    ·subst e
     match j,hj with
     | 0,_ | 1,_ | 2,_ | 3,_ | 4,_=>exact TrE.of_eq (by simp[yK,setsE])
     | 5,_=>
      have:=zI6 (n:=(W.zcC 0).dn) (m:=(W.zcC 0).dn+1) (f:=(W.zcC 0).ds) (g:=(W.zcC 0).db) (l:=[(1,1)]) (F:=yU (ptrsT (W.zcC 0).ds (W.zcC 0).db) (W.zcC 0).dn fun p q=>(([.v (.int .i64 1),.v (.int .i64 1)]:List Tr)[p*2+q]?.getD (.v (.bool false))).nt) rfl (fun a b ha hb=>by
       unfold yU;split
       ·rfl
       ·have:a - (W.zcC 0).dn=0:=(by omega);rw[this]
        match b,hb with
        | 0,_ | 1,_=>rfl)
      simpa[yK,setsE]using this
    ·exact TrE.of_eq (by unfold setsE;simp[yK,e])
   ·rw[if_neg h0]at hq;simp[go_sem,zAH,zCP,hs,ha,hb,aA,ea,eb,bA,h0,hq,zh,zR,zX,zp,zd]
  ·replace hq:t=if 0<W.pn then _ else _:=hq
   by_cases h0:0<W.pn
   ·rw[if_pos h0]at hq;simp[go_sem,zAH,zCP,hs,ha,hb,aA,ea,eb,bA,h0,hq,hw,zh,zR,zX,zp,zd];refine⟨by kernel_rfl,⟨.inl rfl,rfl,rfl,fun i j hi hj=>TrE.of_eq ?_⟩⟩;by_cases e:i=0
    ·subst e
     match j,hj with
     | 0,_ | 1,_ | 2,_ | 3,_ | 4,_ | 5,_ | 6,_ | 7,_=>simp[yK,snapsE]
    ·unfold snapsE;simp[yK,e]
   ·rw[if_neg h0]at hq;simp[go_sem,zAH,zCP,hs,ha,hb,aA,ea,eb,bA,h0,hq,zh,zR,zX,zp,zd]
  ·replace hq:t=if 0<W.sn then _ else _:=hq
   by_cases h0:0<W.sn
   ·rw[if_pos h0]at hq;simp[go_sem,zAH,zCP,zW6,hs,ha,hb,aA,ea,eb,bA,h0,hq,hn,zh,zR,zX,zp,zd];refine⟨by kernel_rfl,⟨.inl rfl,rfl,rfl,fun i j hi hj=>TrE.of_eq ?_⟩⟩;by_cases e:i=0
    ·subst e
     match j,hj with
     | 0,_ | 1,_ | 2,_ | 3,_ | 4,_ | 5,_=>simp[yK,setsE]
    ·unfold setsE;simp[yK,e]
   ·rw[if_neg h0]at hq;simp[go_sem,zAH,zCP,hs,ha,hb,aA,ea,eb,bA,h0,hq,zh,zR,zX,zp,zd]
  ·have q:t=(nS b 5,{W with pool:=zG3 W.pool (nV b 5)}):=hq;simp[go_sem,zAH,zCP,hs,ha,hb,aA,ea,eb,bA,q,zh,zR,zX,zp,zd];have:=hC.hn;exact⟨by omega,by kernel_rfl,TrE.refl _,zJz⟩
set_option maxRecDepth 20000
set_option maxHeartbeats 3200000
theorem zZN{s:zAB}(h:qb s)(p:zF):qb (zFP s p).1:=by
 unfold zFP;split
 ·exact yS (yS (yS h 8) 14) 4
 ·exact yS (yS h 8) p.n
theorem zS0{s:zAB}{W:zC}(hs:qb s)(h:zBc 0 W)(v:Nat):qb (spoilAt s W v).1/\zBc 1 (spoilAt s W v).2:=by
 have g:zBc 1 W:=h.up;unfold spoilAt;split
 ·exact⟨yS hs 3,⟨g.pool,g.sn,g.pn,g.next,g.zcC,g.zb9⟩⟩
 ·exact⟨hs,⟨g.pool,g.sn,g.pn,by show(0:Int)<=1/\(1:Int)<=900001;omega,g.zcC,g.zb9⟩⟩
 ·split
  ·rename_i h0
   have h1:=h.zcC 0 h0;refine⟨hs,⟨g.pool,g.sn,g.pn,g.next,fun i hi=>?_,g.zb9⟩⟩;dsimp only;split
   ·refine⟨?_,h1.name,h1.zcD⟩;have:=h1.dn;simp only[List.length_append,zHk,List.length_cons,List.length_nil];omega
   ·exact g.zcC i hi
  ·exact⟨hs,g⟩
 ·split
  ·rename_i h0
   have h1:=g.zb9 0 h0;have hv:=zFN s (m:=3) (by omega) (by omega);refine⟨yS hs 3,⟨g.pool,g.sn,g.pn,g.next,g.zcC,fun i hi=>?_⟩⟩;dsimp only;split
   ·exact⟨h1.dn,h1.name,h1.set,by dsimp only;omega⟩
   ·exact g.zb9 i hi
  ·exact⟨hs,g⟩
 ·split
  ·rename_i h0
   have h1:=g.zcC 0 h0;refine⟨zZN hs _,⟨g.pool,g.sn,g.pn,g.next,fun i hi=>?_,g.zb9⟩⟩;dsimp only;split
   ·exact⟨h1.dn,h1.name,h1.zcD⟩
   ·exact g.zcC i hi
  ·exact⟨hs,g⟩
 ·refine⟨yS hs 5,⟨?_,g.sn,g.pn,g.next,g.zcC,g.zb9⟩⟩;have:=h.pool;show W.pool.n+zBU W.pool.s W.pool.n+(W.pool.hn+1)<=19000+1;unfold qo at this;omega
theorem zT5(x:Int):zBc 0 (nwW x):=by
 have hz:∀n,zBU (fun _=>zDl) n=0:=fun n=>by
  induction n with
  | zero=>rfl
  | succ n ih=>show zBU (fun _=>zDl) n+0=0;rw[ih]
 unfold nwW;split
 ·refine⟨?_,Nat.zero_le _,Nat.zero_le _,by show(0:Int)<=1/\(1:Int)<=900001;omega,fun i hi=>absurd hi (Nat.not_lt_zero _),fun i hi=>absurd hi (Nat.not_lt_zero _)⟩;show x.toNat+zBU (fun _=>zDl) x.toNat+0<=_;rw[hz];omega
 ·exact zCH (e:=1)
theorem zNK{s:zAB}(hs:qb s):qb (zBw s).1/\zBc 1 (zBw s).2:=by
 have h:=zPl (nV (nS s 60) (12+2*(nS s 60).size)).toNat (yS (yS hs 60) (12+2*(nS s 60).size)) (zEC (nwW (20+nV s 60)) ⟨#[97]⟩);unfold zBw zFS;dsimp only;split
 ·exact zS0 (yS (yS h.1 20) 6) h.2 _
 ·exact⟨yS h.1 20,h.2.up⟩
def zBP(c:Nat)(S:qC):Prop:=zBc c S.zcB/\zBc c S.zcA
theorem zBP.zcG{c:Nat}{S:qC}(h:zBP c S)(hc:c<=10):qU S.zcB/\qU S.zcA:=⟨h.1.zcG hc,h.2.zcG hc⟩
theorem zQZ{c:Nat}{e:Int}:zBP c (zAI e).store:=⟨zCH (e:=0),zCH (e:=0)⟩
theorem zQa{c:Nat}{S:qC}(h:zBP c S):zBP c (zH9 S).store:=by
 have g:zBc c (zKm S):=⟨Nat.le_trans (zOg _) h.1.pool,h.1.sn,h.1.pn,h.1.next,h.1.zcC,h.1.zb9⟩;unfold zH9
 repeat' split
 all_goals first
  | exact zQZ
  | exact⟨g,g⟩
theorem zQb{c:Nat}{S:qC}{W:zC}(h:zBP c S)(hW:zBc c W):zBP c (zEK S W).store:=by
 unfold zEK
 repeat' split
 all_goals first
  | exact zQZ
  | exact⟨hW,h.2⟩
noncomputable def zHN(s:zAB)(S:qC):zAB×qC:=
 if nV s 5=0 then(nS s 5,if (zH9 S).code=0 then(zH9 S).store else S)
 else((zBJ (nS s 5) S.zcB).1,if (zBJ (nS s 5) S.zcB).2.code=0 then(if (zEK S (zBJ (nS s 5) S.zcB).2.world).code=0 then(zEK S (zBJ (nS s 5) S.zcB).2.world).store else S)else S)
theorem zRZ{s:zAB}{S:qC}(hs:qb s)(h:zBP 0 S):qb (zHN s S).1/\zBP 0 (zHN s S).2:=by
 unfold zHN;split
 ·refine⟨yS hs 5,?_⟩;dsimp only;split
  ·exact zQa h
  ·exact h
 ·refine⟨zE6 (yS hs 5) _,?_⟩;dsimp only
  repeat' split
  all_goals first
   | exact zQb h (zFl h.1 _)
   | exact h
noncomputable def zIi:Nat->zAB->qC->zAB×qC
 | 0,s,S=>(s,S)
 | r+1,s,S=>zIi r (zHN s S).1 (zHN s S).2
theorem zUO:∀(r:Nat) {s:zAB} {S:qC},qb s->zBP 0 S->qb (zIi r s S).1/\zBP 0 (zIi r s S).2
 | 0,s,S,hs,hS=>⟨hs,hS⟩
 | r+1,s,S,hs,hS=>by
  obtain⟨h1,h2⟩:=zRZ hs hS;exact zUO r h1 h2
noncomputable def spoilSt(s:zAB)(S:qC):Nat->zAB×qC
 | 0=>(nS s 2,{S with zcA:={S.zcA with time:=IntKind.i64.wrap (S.zcB.time+nV s 2)}})
 | 1=>(s,{S with zcA:={S.zcA with pool:={S.zcA.pool with hn:=1,h:=fun _=>0}}})
 | _=>((zBw s).1,{S with zcB:=(zBw s).2})
noncomputable def zEa(s:zAB)(S:qC):zAB×qC:=if nV s 20=0 then spoilSt (nS (nS s 20) 3) S (nV (nS s 20) 3).toNat else(nS s 20,S)
noncomputable def zC5(s:zAB):zAB×qC:=
 let q:=zIi (nV (nS s 40) (10+2*(nS s 40).size)).toNat (nS (nS s 40) (10+2*(nS s 40).size)) ⟨(zCU (nwW (30+nV s 40)) ⟨#[97]⟩).world,nwW (30+nV s 40)⟩
 zEa q.1 q.2
theorem zRc{s:zAB}(hs:qb s):qb (zC5 s).1/\zBP 1 (zC5 s).2:=by
 have h:=zUO (nV (nS s 40) (10+2*(nS s 40).size)).toNat (S:=⟨(zCU (nwW (30+nV s 40)) ⟨#[97]⟩).world,nwW (30+nV s 40)⟩) (yS (yS hs 40) (10+2*(nS s 40).size)) ⟨zEC _ _,zT5 _⟩;unfold zC5;dsimp only;generalize zIi _ _ _=q at h;obtain⟨h1,h2⟩:=h;have g:zBP 1 q.2:=⟨h2.1.up,h2.2.up⟩;unfold zEa;split
 ·unfold spoilSt;split
  ·exact⟨yS (yS (yS h1 20) 3) 2,g.1,⟨g.2.pool,g.2.sn,g.2.pn,g.2.next,g.2.zcC,g.2.zb9⟩⟩
  ·refine⟨yS (yS h1 20) 3,g.1,⟨?_,g.2.sn,g.2.pn,g.2.next,g.2.zcC,g.2.zb9⟩⟩;have:=h2.2.pool;unfold qo at this;show q.2.zcA.pool.n+zBU q.2.zcA.pool.s q.2.zcA.pool.n+1<=_;omega
  ·have w:=zNK (yS (yS h1 20) 3);exact⟨w.1,w.2,g.2⟩
 ·exact⟨yS h1 20,g⟩
attribute [local go_sem] qW List.map_cons List.map_nil Tr.cv yo qG qw qv yn ym yk qu zAv zAx zAw zAs zAu zAt zCK zCM zCL qK zn qL zo qE qD qP yx zk zl yB qJ tmpsOf zAf yA qI zAr yu yq yp yr stpP opds opd opdC kap zAE qF zj coreU bin zAY zB6 get put dlO fgt zA6 zAz zA3 zA4 tyT yj yi Op.operands Call.operands evLoad evLen evStore evAlloc zAZ and_true true_and List.append_nil List.nil_append List.cons_append Ret resCv zBx yP cellM zBT zB3 qX StW StR hpT hpO hpV hpA hpL hpC sg nin zCD bdO tmW obW AvE CsE CvE Av.tup Av.ids Cv.ids inD ObE Ob.ids TrE.refl qH qx qy qM qN qO zm zb za yw zBd zCB zAy evCall argL argOf qj outOb obO yM zy cvO tot Tr.own rid partsOf fillC zT zBS frz frz1 evBuildSlice zc trs Cv.tr evSlice Option.toArray_none Option.toArray_some evMakeSlice evAppend dstOf srcOf zAq zA5 zA2 zA0 zA1 ikT qt qs qq qp RetP RetN zBe qR evLd evSt evStoreH zAP evAppendM evAppendT tlOf mvOf rowE shp evTake oOf evC evCallP evCallN evCallO unlast zAK zAp zAO argsF zCA qn pmC varT vT evField evConv dB0 Option.bind_some Option.bind_none Option.map_some Option.map_none Option.isSome_some Option.isSome_none
attribute [local go_sem] yF zY zAk yN qk zAS zAT zAU zAV zAW zAX yX yY yZ yb yd ye yf yg yG qe
attribute [-go_sem] zY zAY
attribute [local go_sem] yV zBi zBj zAA yO zJL zJM zLg zLe zLf zIJ zIK zIL zLZ zV7 zV8 zLd zLc zLb zLa zDK
noncomputable def zXF:zW:=qZ (fun s:zAB=>[(true,srV s)]) (fun s=>qb s) (fun s=>[(true,srV (zC5 s).1),stO (zC5 s).2])
theorem zJ3(s:zAB):zXF [(true,srV s)]=some (qb s,[(true,srV (zC5 s).1),stO (zC5 s).2]):=zO (fun l=>zGx (nth l 0)) (fun _=>rfl) s
theorem zQq:zBh Tryz.prog 25 zXF:=by
 refine zBM (A:=fun _=>[]) zs (GOk.cons zOy (zE Tryz.func14 rfl rfl) (GOk.cons zIx (zE Tryz.func19 rfl rfl) (GOk.cons zKO (zE Tryz.func21 rfl rfl) (GOk.ptr zIa (zE Tryz.func40 rfl rfl) (GOk.ptr zJ7 (zE Tryz.func41 rfl rfl) (GOk.ptr zKc (zE Tryz.func42 rfl rfl) (GOk.ptr zNf (zE Tryz.func47 rfl rfl) (GOk.cons zJo (zE Tryz.func48 rfl rfl) GOk.nil)))))))) zr Tryz.func25 rfl Tryz.ntmps25 Tryz.results25 72 ?_;rintro s hs;replace hs:qb s:=hs;obtain⟨t,ht⟩:∃t,zC5 s=t:=⟨_,rfl⟩;obtain⟨s1,e1⟩:∃s1,nS s 40=s1:=⟨_,rfl⟩;have h1:qb s1:=e1▸yS hs _;have hv:=zFN s (m:=40) (by omega) (by omega);have hz:=h1.size;have fA:IntKind.i64.wrap (30+nV s 40)=30+nV s 40:=zCa (by omega) (by omega);have gA:IntKind.i64.wrap (2*s1.size)=2*s1.size:=zCa (by omega) (by omega);have iA:IntKind.i64.wrap (10+2*s1.size)=10+2*s1.size:=zCa (by omega) (by omega);have hm:10+2*s1.size<=1000000000000000000:=by omega
 obtain⟨s2,e2⟩:∃s2,nS s1 (10+2*s1.size)=s2:=⟨_,rfl⟩;have h2:qb s2:=e2▸yS h1 _;obtain⟨K,hK⟩:∃K:Nat,nV s1 (10+2*s1.size)=K:=⟨_,(Int.toNat_of_nonneg (zJS s1 hm).1).symm⟩;have dA:K<40:=by have:=(zFN s1 (m:=10+2*s1.size) (by omega) hm).2;omega
 obtain⟨Z,eZ⟩:∃Z,nwW (30+nV s 40)=Z:=⟨_,rfl⟩;have hN:qU Z:=eZ▸zRF _;obtain⟨o,eo⟩:∃o,zCU Z ⟨#[97]⟩=o:=⟨_,rfl⟩;have hg:zBP 0 ⟨o.world,Z⟩:=⟨eo▸zEC _ _,eZ▸zT5 _⟩;have hq:t=zEa (zIi K s2 ⟨o.world,Z⟩).1 (zIi K s2 ⟨o.world,Z⟩).2:=by
  rw[<-ht];show zEa (zIi (nV (nS s 40) (10+2*(nS s 40).size)).toNat (nS (nS s 40) (10+2*(nS s 40).size)) ⟨(zCU (nwW (30+nV s 40)) ⟨#[97]⟩).world,nwW (30+nV s 40)⟩).1 (zIi (nV (nS s 40) (10+2*(nS s 40).size)).toNat (nS (nS s 40) (10+2*(nS s 40).size)) ⟨(zCU (nwW (30+nV s 40)) ⟨#[97]⟩).world,nwW (30+nV s 40)⟩).2=_;rw[e1,e2,hK,eZ,eo];rfl
 refine⟨by simp,?_⟩;show ev _ _ _ _ _ _ (zNo _ _ [(true,srV (zC5 s).1),stO (zC5 s).2]);rw[ht];simp[go_sem,zCP,zHf,zIc,hs,h1,e1,e2,fA,gA,iA,hm,hK,hN,eZ,eo];refine yE (fun q:Nat×zAB×qC=>⟨[(4,true,.i q.1),(3,true,.m false [.p 3 0]),(2,true,.m false [.p 2 0]),(0,true,.m false [.p 0 0])],[(0,.var [.s .z 1 q.2.1.bn (zDo q.2.1.bf),.v (.int .i64 q.2.1.pos),.v (.int .u64 q.2.1.mix),.v (.int .i64 q.2.1.size)]),(3,.var [.h 61,.h 62,.v (.int .i64 q.2.2.zcB.time),.v (.int .i64 q.2.2.zcB.next),.h 63,.h 64,.h 65,.h 66,.v (.int .i64 q.2.2.zcA.time),.v (.int .i64 q.2.2.zcA.next),.h 67,.h 68]),(68,.row 8 q.2.2.zcA.pn (snapsE .z q.2.2.zcA.zb9)),(67,.row 6 q.2.2.zcA.sn (setsE .o q.2.2.zcA.zcC)),(66,.row 1 q.2.2.zcA.pool.hn (qh q.2.2.zcA.pool.h)),(65,.row 3 q.2.2.zcA.pool.n (zU .z q.2.2.zcA.pool.s)),(64,.row 8 q.2.2.zcB.pn (snapsE .z q.2.2.zcB.zb9)),(63,.row 6 q.2.2.zcB.sn (setsE .o q.2.2.zcB.zcC)),(62,.row 1 q.2.2.zcB.pool.hn (qh q.2.2.zcB.pool.h)),(61,.row 3 q.2.2.zcB.pool.n (zU .z q.2.2.zcB.pool.s)),(2,.var [.v n0,.v n0,.v i0,.v i0,.v n0,.v n0,.v n0,.v n0,.v i0,.v i0,.v n0,.v n0])]⟩) (fun q=>q.1) (fun q=>q.1<40/\qb q.2.1/\zBP 0 q.2.2/\t=zEa (zIi q.1 q.2.1 q.2.2).1 (zIi q.1 q.2.1 q.2.2).2) (K,s2,⟨o.world,Z⟩) (by simp[go_sem]) ⟨dA,h2,hg,hq⟩ ?_;rintro⟨r,s,S⟩ ⟨cA,hs,hS,hq⟩;replace cA:r<40:=cA;replace hs:qb s:=hs;replace hS:zBP 0 S:=hS;replace hq:t=zEa (zIi r s S).1 (zIi r s S).2:=hq;have hC:=hS.zcG (by omega);have hx:=hS.1.next;cases r with
 | succ r=>
  have hr:IntKind.i64.wrap (r:Int)=r:=zCa (by omega) (by omega);obtain⟨g1,g2⟩:=zRZ hs hS;replace hq:t=zEa (zIi r (zHN s S).1 (zHN s S).2).1 (zIi r (zHN s S).1 (zHN s S).2).2:=hq;obtain⟨q,eq⟩:∃q,zHN s S=q:=⟨_,rfl⟩;rw[eq]at g1 g2 hq;unfold zHN at eq;have h5:=yS hs 5;by_cases h0:nV s 5=0
  ·rw[if_pos h0]at eq;by_cases hc:(zH9 S).code=0
   ·rw[if_pos hc]at eq;subst eq;simp[go_sem,zAH,zMc,hs,hC,h0,hc,hr];exact⟨r,_,_,⟨by omega,g1,g2,hq⟩,by omega,rfl,⟨TrE.refl _,rfl,rfl,rfl⟩,⟨rfl,rfl,rfl,rfl⟩,TrE.refl _,TrE.refl _,TrE.refl _,TrE.refl _,TrE.refl _,TrE.refl _,TrE.refl _,TrE.refl _⟩
   ·rw[if_neg hc]at eq;subst eq;simp[go_sem,zAH,zMc,hs,hC,h0,hc,hr];exact⟨r,_,_,⟨by omega,g1,g2,hq⟩,by omega,rfl,⟨TrE.refl _,rfl,rfl,rfl⟩,⟨rfl,rfl,rfl,rfl⟩,TrE.refl _,TrE.refl _,TrE.refl _,TrE.refl _,TrE.refl _,TrE.refl _,TrE.refl _,TrE.refl _⟩
  rw[if_neg h0]at eq;have hW:=(zFl hS.1 (nS s 5)).zcG (by omega);by_cases hc:(zBJ (nS s 5) S.zcB).2.code=0;rotate_left
  ·rw[if_neg hc]at eq;subst eq;simp[go_sem,zAH,zEF,hs,h5,hC,show S.zcB.next<=1000000000 by omega,h0,hc,hr];exact⟨r,_,_,⟨by omega,g1,g2,hq⟩,by omega,rfl,⟨TrE.refl _,rfl,rfl,rfl⟩,⟨rfl,rfl,rfl,rfl⟩,TrE.refl _,TrE.refl _,TrE.refl _,TrE.refl _,TrE.refl _,TrE.refl _,TrE.refl _,TrE.refl _⟩
  rw[if_pos hc]at eq;by_cases hd:(zEK S (zBJ (nS s 5) S.zcB).2.world).code=0
  ·rw[if_pos hd]at eq;subst eq;simp[go_sem,zAH,zEF,zG9,hs,h5,hC,hW,show S.zcB.next<=1000000000 by omega,h0,hc,hd,hr];exact⟨r,_,_,⟨by omega,g1,g2,hq⟩,by omega,rfl,⟨TrE.refl _,rfl,rfl,rfl⟩,⟨rfl,rfl,rfl,rfl⟩,TrE.refl _,TrE.refl _,TrE.refl _,TrE.refl _,TrE.refl _,TrE.refl _,TrE.refl _,TrE.refl _⟩
  ·rw[if_neg hd]at eq;subst eq;simp[go_sem,zAH,zEF,zG9,hs,h5,hC,hW,show S.zcB.next<=1000000000 by omega,h0,hc,hd,hr];exact⟨r,_,_,⟨by omega,g1,g2,hq⟩,by omega,rfl,⟨TrE.refl _,rfl,rfl,rfl⟩,⟨rfl,rfl,rfl,rfl⟩,TrE.refl _,TrE.refl _,TrE.refl _,TrE.refl _,TrE.refl _,TrE.refl _,TrE.refl _,TrE.refl _⟩
 | zero=>
  replace hq:t=zEa s S:=hq;unfold zEa at hq;by_cases aA:nV s 20=0;rotate_left
  ·rw[if_neg aA]at hq;simp[go_sem,zAH,hs,aA,hq,zh,zR,zX,zp,zd]
  rw[if_pos aA]at hq;obtain⟨a,ea⟩:∃a,nS s 20=a:=⟨_,rfl⟩;obtain⟨b,eb⟩:∃b,nS a 3=b:=⟨_,rfl⟩;obtain⟨v,bA⟩:∃v:Nat,nV a 3=v:=⟨_,(Int.toNat_of_nonneg (zJS a (m:=3) (by omega)).1).symm⟩;have ha:qb a:=ea▸yS hs _;have hb:qb b:=eb▸yS ha _;rw[ea,eb,bA]at hq;have eA:v<3:=(by have:=(zFN a (m:=3) (by omega) (by omega)).2;omega);rcases(show v=0\/v=1\/v=2 by omega)with e | e | e<;>subst e
  ·have q:t=(nS b 2,{S with zcA:={S.zcA with time:=IntKind.i64.wrap (S.zcB.time+nV b 2)}}):=hq;simp[go_sem,zAH,zCP,hs,ha,hb,aA,ea,eb,bA,q,zh,zR,zX,zp,zd];show _=true;kernel_rfl
  ·have q:t=(b,{S with zcA:={S.zcA with pool:={S.zcA.pool with hn:=1,h:=fun _=>0}}}):=hq;simp[go_sem,zAH,zCP,hs,ha,hb,aA,ea,eb,bA,q,zh,zR,zX,zp,zd];refine⟨.inl rfl,rfl,rfl,fun i j hi hj=>TrE.of_eq ?_⟩;cases (show i=0 by omega);cases (show j=0 by omega);rfl
  ·have q:t=((zBw b).1,{S with zcB:=(zBw b).2}):=hq;simp[go_sem,zAH,zCP,zHg,hs,ha,hb,aA,ea,eb,bA,q,zh,zR,zX,zp,zd]
set_option maxRecDepth 20000
set_option maxHeartbeats 3200000
open Classical in
noncomputable def zDa(n:Nat)(f:Nat->Int):qC×zC:=
 let q:=zC5 (zB8 n f)
 let y:=zBJ q.1 q.2.zcB
 if y.2.code=0 then(if nV y.1 6=0 then(q.2,(zBw (nS y.1 6)).2)else(q.2,y.2.world))else(q.2,(zBw y.1).2)
abbrev byT(n:Nat)(f:Nat->Int):Bool×List Tr:=(false,[.s .z 1 n (zDo f)])
def zHR(n:Nat)(f:Nat->Int):Prop:=n<=2000000/\∀i,i<n->0<=f i/\f i<256
theorem zQN{n:Nat}{f:Nat->Int}(h:zHR n f):zBP 1 (zDa n f).1/\zBc 1 (zDa n f).2:=by
 have hs:=zRc (zKH h.1 h.2);unfold zDa;dsimp only;generalize zC5 (zB8 n f)=q at hs;have hy:=zE6 hs.1 q.2.zcB;have hg:=zFl hs.2.1 q.1;split
 ·split
  ·exact⟨hs.2,(zNK (yS hy 6)).2⟩
  ·exact⟨hs.2,hg⟩
 ·exact⟨hs.2,(zNK hy).2⟩
attribute [local go_sem] qW List.map_cons List.map_nil Tr.cv yo qG qw qv yn ym yk qu zAv zAx zAw zAs zAu zAt zCK zCM zCL qK zn qL zo qE qD qP yx zk zl yB qJ tmpsOf zAf yA qI zAr yu yq yp yr stpP opds opd opdC kap zAE qF zj coreU bin zAY zB6 get put dlO fgt zA6 zAz zA3 zA4 tyT yj yi Op.operands Call.operands evLoad evLen evStore evAlloc zAZ and_true true_and List.append_nil List.nil_append List.cons_append Ret resCv zBx yP cellM zBT zB3 qX StW StR hpT hpO hpV hpA hpL hpC sg nin zCD bdO tmW obW AvE CsE CvE Av.tup Av.ids Cv.ids inD ObE Ob.ids TrE.refl qH qx qy qM qN qO zm zb za yw zBd zCB zAy evCall argL argOf qj outOb obO yM zy cvO tot Tr.own rid partsOf fillC zT zBS frz frz1 evBuildSlice zc trs Cv.tr evSlice Option.toArray_none Option.toArray_some evMakeSlice evAppend dstOf srcOf zAq zA5 zA2 zA0 zA1 ikT qt qs qq qp RetP RetN zBe qR evLd evSt evStoreH zAP evAppendM evAppendT tlOf mvOf rowE shp evTake oOf evC evCallP evCallN evCallO unlast zAK zAp zAO argsF zCA qn pmC varT vT evField evConv dB0 Option.bind_some Option.bind_none Option.map_some Option.map_none Option.isSome_some Option.isSome_none
attribute [local go_sem] yF zY zAk yN qk zAS zAT zAU zAV zAW zAX yX yY yZ yb yd ye yf yg yG qe
attribute [-go_sem] zY zAY
attribute [local go_sem] yV zBi zBj zAA yO zJL zJM zLg zLe zLf zIJ zIK zIL zLZ zV7 zV8 zLd zLc zLb zLa zDK
noncomputable def zOQ:zW:=qZ (fun q:Nat×(Nat->Int)=>[byT q.1 q.2]) (fun q=>zHR q.1 q.2) (fun q=>[stO (zDa q.1 q.2).1,woO (zDa q.1 q.2).2])
theorem zGS(n:Nat)(f:Nat->Int):zOQ [byT n f]=some (zHR n f,[stO (zDa n f).1,woO (zDa n f).2]):=zO (fun l=>(zE9 (nth l 0 0),fun i=>match zCS (nth l 0 0) i 0 with | .v (.int _ x)=>x | _=>0)) (fun _=>rfl) (n,f)
theorem zJj:zw Tryz.prog 16 zOQ:=by
 refine zQ zs (GOk.new zJI (zE Tryz.func24 rfl rfl) (GOk.ptr zQq (zE Tryz.func25 rfl rfl) (GOk.ptr zIa (zE Tryz.func40 rfl rfl) (GOk.ptr zJ7 (zE Tryz.func41 rfl rfl) (GOk.ptr zKc (zE Tryz.func42 rfl rfl) GOk.nil))))) zr Tryz.func16 rfl Tryz.ntmps16 Tryz.results16 7 ?_;rintro⟨n,f⟩ hb;replace hb:zHR n f:=hb;have h0:=zKH hb.1 hb.2;have hn:=hb.1;obtain⟨q,eq⟩:∃q,zC5 (zB8 n f)=q:=⟨_,rfl⟩;have hq:=eq▸zRc h0;have hC:=hq.2.1.zcG (c:=1) (by omega);have hx:=hq.2.1.next;obtain⟨y,ey⟩:∃y,zBJ q.1 q.2.zcB=y:=⟨_,rfl⟩;have hy:=ey▸zE6 hq.1 q.2.zcB;have h6:=yS hy 6;have eD:zDa n f=if y.2.code=0 then(if nV y.1 6=0 then(q.2,(zBw (nS y.1 6)).2)else(q.2,y.2.world))else(q.2,(zBw y.1).2):=by
  rw[<-ey,<-eq];rfl
 refine⟨by simp,?_⟩;by_cases hc:y.2.code=0
 ·by_cases h1:nV y.1 6=0
  ·rw[if_pos hc,if_pos h1]at eD;simp[go_sem,zE2,zJ3,zEF,zAH,zHg,hn,h0,hq.1,hC,show q.2.zcB.next<=1000000000 by omega,hy,h6,eq,ey,hc,h1,eD,zh,zR,zX,zp,zd];show _=true;kernel_rfl
  ·rw[if_pos hc,if_neg h1]at eD;simp[go_sem,zE2,zJ3,zEF,zAH,zHg,hn,h0,hq.1,hC,show q.2.zcB.next<=1000000000 by omega,hy,h6,eq,ey,hc,h1,eD,zh,zR,zX,zp,zd];show _=true;kernel_rfl
 ·rw[if_neg hc]at eD;have aA:(y.2.code == 0)=false:=(by simp[hc]);simp[go_sem,aA,zE2,zJ3,zEF,zAH,zHg,hn,h0,hq.1,hC,show q.2.zcB.next<=1000000000 by omega,hy,h6,eq,ey,hc,eD,zh,zR,zX,zp,zd];show _=true;kernel_rfl
end Go.Proofs.YtbplmbafodlboaaGreatDoor
