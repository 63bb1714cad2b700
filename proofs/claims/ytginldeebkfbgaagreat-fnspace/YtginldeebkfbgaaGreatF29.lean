/- A part of the proof. -/
import Derived.Test.YtginldeebkfbgaaGreatF28
set_option linter.unusedVariables false
set_option maxRecDepth 20000
set_option maxHeartbeats 4000000
namespace Go.Proofs.YtginldeebkfbgaaGreat
open Go.RowKit Go.Maps
theorem zDx.nil{w w':World}(h:Below w.heap.size w w'):zDx [] w (.returned (.slice none 0 0)) w':=⟨_,rfl,zFP.nil _ _,h⟩
theorem zVX(p:zF):zW p 0 0:=Or.inl ⟨rfl,rfl⟩
theorem zM1(v0 v1 v2 v3:Value)(lo hi:Nat)(W:zB)(x:ByteArray)(w:World)(h:ye w lo hi v0 v1 v2 v3 W)(hh:hi<=w.heap.size)(iA:zDN W)(hx:x.size<=maxLen):Calls Tryz.prog 5 #[zAY v0 v1 v2 v3 W,.string x] w (zDx (zBJ W x) w):=by
 have Hp:=zC h;have kA:=zC iA;have Hx:=zC hx;clear h iA hx;have dA:=zD w (.cells #[v0,v1,.int .i64 W.time,.int .i64 W.next,v2,v3] 30);have HX:=zC (zAb.new w v0 v1 (.int .i64 W.time) (.int .i64 W.next) v2 v3 30);obtain⟨x0,x1,x2,x3,x4,x5⟩:=HX.out.c;go_enter Tryz.func5,Tryz.ntmps5;go_wp2_with fail;generalize w.alloc (.cells #[v0,v1,.int .i64 W.time,.int .i64 W.next,v2,v3] 30)=W0 at HX dA x0 x1 x2 x3 x4 x5 ⊢;refine(zA6 v0 v1 v2 v3 lo hi W W0 (Hp.out.zbd dA) kA.out).mono ?_;rintro e w1 ⟨⟨t,rfl,ht⟩,fA⟩;have Ht:=zC (ht.trans (zCv W));have bA:=zA dA fA;have eA:=zC (HX.out.zbd fA);clear x0 x1 x2 x3 x4 x5 fA dA HX ht;cases t
 ·have HA:=zC (show zBJ W x = [] from zE6 (fun h=>absurd (Ht.out.2 h) (by simp)));go_wp2;go_ret;rw[HA.out];exact zDx.nil bA
 ·have HW:=zC (Ht.out.1 (by simp));have HA:=zC (show zBJ W x=zBk W.pool (zBc W x).rs (zBc W x).rb 0 0 64 from zDZ HW.out);have HT:=zC (zRI HW.out x);have hf:=zNg;obtain⟨x0,x1,x2,x3,x4,x5⟩:=eA.out.c;go_wp2_with fail;go_region_held3 (fun w'=>w'.cell? ⟨w.heap.size,0,none⟩=some v0/\w'.cell? ⟨w.heap.size,1,none⟩=some v1/\w'.cell? ⟨w.heap.size,2,none⟩=some (.int .i64 W.time)/\w'.cell? ⟨w.heap.size,3,none⟩=some (.int .i64 W.next)/\w'.cell? ⟨w.heap.size,4,none⟩=some v2/\w'.cell? ⟨w.heap.size,5,none⟩=some v3) (go_keep)
   (first
    | (go_at_call 22;refine(zEq v0 v1 v2 v3 lo hi W _ ((Hp.out.zbd bA).zbd (Below.refl _ _).drew) HW.out.zbj.2.2.1).mono ?_;rintro e w2 ⟨vd,rfl,hm,hd,nA⟩;have aA:=qW nA;obtain⟨a,c,mA,hp⟩:=zHt (HW.out.zbj.dist) hd x;have pA:=zRK (M:=w1.heap.size+1) hm Hx.out mA;obtain⟨z0,z1,z2,z3,z4,z5⟩:=(eA.out.zbd aA).c)
    | (go_at_call 21;refine(zHD v0 v1 v2 v3 lo hi W _ _ _ _ _ ((Hp.out.zbd bA).zbd aA) (by have:=aA.size;have:=bA.size;omega) HW.out.right HT.out (zVX _)).mono ?_;rintro e w3 ⟨vi,rfl,gA,oA⟩;have cA:=zA aA oA;obtain⟨k0,k1,k2,k3,k4,k5⟩:=(eA.out.zbd cA).c))
  have jA:=zC gA;clear gA;go_wp2;go_ret;have lA:=zA bA cA;rw[HA.out];exact⟨_,rfl,jA.out.mono (by have:=bA.size;have:=aA.size;omega),lA⟩
theorem zKW(v0 v1 v2 v3:Value)(lo hi:Nat)(W:zB)(x y:Int)(w:World)(h:ye w lo hi v0 v1 v2 v3 W)(hh:hi<=w.heap.size)(bB:zDN W)(hx:(Lit.int .i64 x).wf=true)(hy:(Lit.int .i64 y).wf=true):Calls Tryz.prog 12 #[zAY v0 v1 v2 v3 W,.int .i64 x,.int .i64 y] w (zDx (ym W x y) w):=by
 have Hp:=zC h;have fB:=zC bB;have Hx:=zC hx;have Hy:=zC hy;clear h bB hx hy;have fA:=zD w (.cells #[v0,v1,.int .i64 W.time,.int .i64 W.next,v2,v3] 30);have HX:=zC (zAb.new w v0 v1 (.int .i64 W.time) (.int .i64 W.next) v2 v3 30);obtain⟨x0,x1,x2,x3,x4,x5⟩:=HX.out.c;go_enter Tryz.func12,Tryz.ntmps12;go_wp2_with fail;generalize w.alloc (.cells #[v0,v1,.int .i64 W.time,.int .i64 W.next,v2,v3] 30)=W0 at HX fA x0 x1 x2 x3 x4 x5 ⊢;refine(zA6 v0 v1 v2 v3 lo hi W W0 (Hp.out.zbd fA) fB.out).mono ?_;rintro e w1 ⟨⟨t,rfl,ht⟩,mA⟩;have Ht:=zC (ht.trans (zCv W));have bA:=zA fA mA;have gA:=zC (HX.out.zbd mA);clear x0 x1 x2 x3 x4 x5 mA fA HX ht;cases t
 ·have HA:=zC (show ym W x y = [] from zBe (fun h=>absurd (Ht.out.2 h.1) (by simp)));go_wp2;go_ret;rw[HA.out];exact zDx.nil bA
 have HW:=zC (Ht.out.1 (by simp));have HI:=zC ((zCv W).2 HW.out).zbj;have rA:=HW.out.zbj.2.2.2.1;obtain⟨x0,x1,x2,x3,x4,x5⟩:=gA.out.c;go_wp2_with fail;refine(zNn v0 v1 v2 v3 lo hi W x w1 (Hp.out.zbd bA) rA HI.out.idsWf HI.out.dist Hx.out).mono ?_;rintro e w2 ⟨⟨t2,rfl,vA⟩,nA⟩;have kA:=zC vA;have cA:=zA bA nA;have iA:=zC (gA.out.zbd nA);clear x0 x1 x2 x3 x4 x5 nA bA gA vA;cases t2
 ·have HA:=zC (show ym W x y = [] from zBe (fun h=>absurd (kA.out.2 h.2.1) (by simp)));go_wp2;go_ret;rw[HA.out];exact zDx.nil cA
 obtain⟨x0,x1,x2,x3,x4,x5⟩:=iA.out.c;go_wp2_with fail;refine(zNn v0 v1 v2 v3 lo hi W y w2 (Hp.out.zbd cA) rA HI.out.idsWf HI.out.dist Hy.out).mono ?_;rintro e w3 ⟨⟨t3,rfl,aB⟩,oA⟩;have lA:=zC aB;have dA:=zA cA oA;have jA:=zC (iA.out.zbd oA);clear x0 x1 x2 x3 x4 x5 oA cA iA aB;cases t3
 ·have HA:=zC (show ym W x y = [] from zBe (fun h=>absurd (lA.out.2 h.2.2) (by simp)));go_wp2;go_ret;rw[HA.out];exact zDx.nil dA
 have HA:=zC (zB2 ⟨HW.out,kA.out.1 (by simp),lA.out.1 (by simp)⟩);have HT:=zC (show ∀y,zW W.pool (zE W y).rs (zE W y).rb from zHB HW.out.zbg);have hf:=zH6;clear Ht kA lA;obtain⟨x0,x1,x2,x3,x4,x5⟩:=jA.out.c;go_wp2_with fail;refine(zD1 v0 v1 v2 v3 lo hi W w3 (Hp.out.zbd dA) rA HI.out.idsWf).mono ?_;rintro e w4 ⟨vd,rfl,hm,hd,pA⟩;obtain⟨a,c,sA,hp⟩:=zEr HI.out.dist hd x;have kB:=zHd (M:=w3.heap.size+1) hm Hx.out sA;obtain⟨a',c',aA,jB⟩:=zEr HI.out.dist hd y;have iB:=zHd (M:=w3.heap.size+1) hm Hy.out aA;have eA:=zA dA pA;have eB:=zC (jA.out.zbd pA);clear x0 x1 x2 x3 x4 x5 pA dA jA hm hd sA hp aA jB;obtain⟨x0,x1,x2,x3,x4,x5⟩:=eB.out.c;go_wp2_with fail;refine(zHD v0 v1 v2 v3 lo hi W _ _ _ _ _ (Hp.out.zbd eA) (by have:=eA.size;omega) HW.out.right (HT.out x) (HT.out y)).mono ?_;rintro e w5 ⟨vi,rfl,tA,gB⟩;have cB:=zC tA;clear tA;go_wp2;go_ret;rw[HA.out];exact⟨_,rfl,cB.out.mono eA.size,zA eA gB⟩
theorem wf_i64{x:Int}(h:-1000000000000000000<=x)(h':x<=1000000000000000000):(Lit.int .i64 x).wf=true:=by
 show(decide (IntKind.min .i64<=_) && decide (_<=IntKind.max .i64))=true;simp[IntKind.min,IntKind.max,IntKind.signed,IntKind.bits];omega
theorem zEZ{w:World}{g:Nat->Bs}{W:zB}{y:Value}{c:Nat}(hc:c<=10)(hW:zAd c W)(h:zKP w g (woT W) y):∃v0 v1 v2 v3,y=zAY v0 v1 v2 v3 W/\ye w 0 w.heap.size v0 v1 v2 v3 W:=by
 obtain⟨ds,rfl,aA⟩:=h;obtain⟨t0,t1,t2,t3,rfl,hA⟩:=zX1 hc hW aA;exact⟨t0,t1,t2,t3,rfl,hA⟩
theorem zKp{x:Int}{w w':World}{g0:Nat->Bs}(hz:∀b,∃r,g0 b = .fz r)(hb:Below w.heap.size w w'):∃v g,Ending.returned (.int .i64 x) = .returned v/\Kp w g0 w' g/\zPn w' g [iT x] v:=
 ⟨_,_,rfl,zLr hz hb,_,⟨_,[],_,rfl,rfl,⟨_,_,rfl,⟨rfl,rfl⟩,rfl⟩,rfl⟩,rfl⟩
theorem zXQ{p:Prop}{e:Ending}{w w':World}{g0:Nat->Bs}(hz:∀b,∃r,g0 b = .fz r)(h:zJ p e)(hb:Below w.heap.size w w'):∃v g,e = .returned v/\Kp w g0 w' g/\zPn w' g (bR p) v:=by
 obtain⟨b,rfl,hp⟩:=h;refine⟨_,_,rfl,zLr hz hb,_,⟨_,[],_,rfl,rfl,⟨_,_,rfl,⟨?_,rfl⟩,rfl⟩,rfl⟩,rfl⟩;by_cases h:p
 ·rw[zBa.2 h,hp.2 h]
 ·rw[zCL.2 h,Bool.eq_false_iff.2 fun e=>h (hp.1 e)]
abbrev nuZ(l:List Int):Bool×List Tr:=(false,[.s .z 1 l.length (qf (zU3 l))])
theorem zYb{w:World}{b:Nat}{v:Value}{n:Nat}{f:Nat->Int}(h:zS4 w b v n f){lo:Nat}(hb:0<n->lo<=b/\b<w.heap.size):zC6 w lo w.heap.size v n f:=by
 obtain⟨hm,a,c,rfl,hc,hx,-⟩:=h;refine⟨hm,a,c,rfl,hc,fun h0=>?_⟩;obtain⟨o,ha,hi⟩:=hx h0;obtain⟨h1,h2⟩:=hb h0;exact⟨b,o,ha,h1,h2,fun i h=>(hi i h).1⟩
theorem zQ6{l:List Int}(hm:l.length<=maxLen){e:Ending}{w w':World}{g0:Nat->Bs}(hz:∀b,∃r,g0 b = .fz r)(h:zDx l w e w'):∃v g,e = .returned v/\Kp w g0 w' g/\zPn w' g [nuZ l] v:=by
 obtain⟨v,rfl,hr,hb⟩:=h;obtain⟨b,ho,hl⟩:=hr.own hm;exact⟨_,_,rfl,zLr hz hb,_,⟨_,[],_,rfl,rfl,⟨_,_,rfl,⟨zYz zWR (zYb ho hl),zSL⟩,rfl⟩,rfl⟩,rfl⟩
noncomputable def zW7:zR:=qE (fun q:zB×ByteArray=>[woT q.1,sT q.2]) (fun q=>zAd 1 q.1/\q.2.size<=8000) (fun q=>[iT (zD2 q.1 q.2:Nat)])
theorem zUz(W:zB)(x:ByteArray):zW7 [woT W,sT x]=some (zAd 1 W/\x.size<=8000,[iT (zD2 W x:Nat)]):=zK (fun l=>(zB7 (nth l 0),zDJ (nth l 1 0))) (fun _=>rfl) (W,x)
theorem zXz:zd Tryz.prog 9 zW7:=fun w=>by
 refine zDC ?_;rintro⟨W,x⟩ ⟨hC,hx⟩ g0 ys hz hy;replace hC:zAd 1 W:=hC;replace hx:x.size<=8000:=hx;obtain⟨y,y',rfl,h1,⟨T,eT,hT⟩⟩:=zBZ hy;cases eT;obtain⟨v0,v1,v2,v3,rfl,hA⟩:=zEZ (by omega) hC h1;rw[hT.1];refine(zO0 v0 v1 v2 v3 0 w.heap.size W x w hA (Nat.le_refl _) hC.wf (Nat.le_trans hx (by decide))).mono ?_;rintro e w' ⟨rfl,hb⟩;exact zKp hz hb
noncomputable def zN7:zR:=qE (fun q:zB×Int=>[woT q.1,iT q.2]) (fun q=>zAd 1 q.1/\-1000000000000000000<=q.2/\q.2<=1000000000000000000) (fun q=>[iT (zBY q.1 q.2:Nat)])
theorem zPD(W:zB)(x:Int):zN7 [woT W,iT x]=some (zAd 1 W/\-1000000000000000000<=x/\x<=1000000000000000000,[iT (zBY W x:Nat)]):=zK (fun l=>(zB7 (nth l 0),qC (nth l 1 0))) (fun _=>rfl) (W,x)
theorem zRa:zd Tryz.prog 14 zN7:=fun w=>by
 refine zDC ?_;rintro⟨W,x⟩ ⟨hC,hx⟩ g0 ys hz hy;replace hC:zAd 1 W:=hC;obtain⟨y,y',rfl,h1,⟨T,eT,hT⟩⟩:=zBZ hy;cases eT;obtain⟨v0,v1,v2,v3,rfl,hA⟩:=zEZ (by omega) hC h1;rw[hT.1];refine(zKX v0 v1 v2 v3 0 w.heap.size W x w hA (Nat.le_refl _) hC.wf (wf_i64 hx.1 hx.2)).mono ?_;rintro e w' ⟨rfl,hb⟩;exact zKp hz hb
noncomputable def zTW:zR:=qE (fun q:zB×Int=>[woT q.1,iT q.2]) (fun q=>zAd 1 q.1/\-1000000000000000000<=q.2/\q.2<=1000000000000000000) (fun q=>[iT (zEe q.1 q.2:Nat)])
theorem zSY(W:zB)(x:Int):zTW [woT W,iT x]=some (zAd 1 W/\-1000000000000000000<=x/\x<=1000000000000000000,[iT (zEe W x:Nat)]):=zK (fun l=>(zB7 (nth l 0),qC (nth l 1 0))) (fun _=>rfl) (W,x)
theorem zUO:zd Tryz.prog 16 zTW:=fun w=>by
 refine zDC ?_;rintro⟨W,x⟩ ⟨hC,hx⟩ g0 ys hz hy;replace hC:zAd 1 W:=hC;obtain⟨y,y',rfl,h1,⟨T,eT,hT⟩⟩:=zBZ hy;cases eT;obtain⟨v0,v1,v2,v3,rfl,hA⟩:=zEZ (by omega) hC h1;rw[hT.1];refine(zM0 v0 v1 v2 v3 0 w.heap.size W x w hA (Nat.le_refl _) hC.wf (wf_i64 hx.1 hx.2)).mono ?_;rintro e w' ⟨rfl,hb⟩;exact zKp hz hb
noncomputable def zTe:zR:=qE (fun q:zB×ByteArray=>[woT q.1,sT q.2]) (fun q=>zAd 1 q.1/\q.2.size<=8000) (fun q=>[nuZ (zBJ q.1 q.2)])
theorem zSb(W:zB)(x:ByteArray):zTe [woT W,sT x]=some (zAd 1 W/\x.size<=8000,[nuZ (zBJ W x)]):=zK (fun l=>(zB7 (nth l 0),zDJ (nth l 1 0))) (fun _=>rfl) (W,x)
theorem zU5:zd Tryz.prog 5 zTe:=fun w=>by
 refine zDC ?_;rintro⟨W,x⟩ ⟨hC,hx⟩ g0 ys hz hy;replace hC:zAd 1 W:=hC;replace hx:x.size<=8000:=hx;obtain⟨y,y',rfl,h1,⟨T,eT,hT⟩⟩:=zBZ hy;cases eT;obtain⟨v0,v1,v2,v3,rfl,hA⟩:=zEZ (by omega) hC h1;rw[hT.1];refine(zM1 v0 v1 v2 v3 0 w.heap.size W x w hA (Nat.le_refl _) hC.wf (Nat.le_trans hx (by decide))).mono ?_;exact fun e w' h=>zQ6 (Nat.le_trans (zI2 W x) (by decide)) hz h
theorem zRo{α β : Type}{R:α->β->Prop}{x0 x1 x2:α}{ys:List β}(h:zm R [x0,x1,x2] ys):∃y0 y1 y2,ys = [y0,y1,y2]/\R x0 y0/\R x1 y1/\R x2 y2:=by
 cases h with
 | cons a0 h=>
  obtain⟨y1,y2,rfl,a1,a2⟩:=zBZ h;exact⟨_,y1,y2,rfl,a0,a1,a2⟩
noncomputable def zN1:zR:=qE (fun q:zB×Int×Int=>[woT q.1,iT q.2.1,iT q.2.2]) (fun q=>zAd 1 q.1/\(-1000000000000000000<=q.2.1/\q.2.1<=1000000000000000000)/\-1000000000000000000<=q.2.2/\q.2.2<=1000000000000000000) (fun q=>[nuZ (ym q.1 q.2.1 q.2.2)])
theorem zPB(W:zB)(x z:Int):zN1 [woT W,iT x,iT z]=some (zAd 1 W/\(-1000000000000000000<=x/\x<=1000000000000000000)/\-1000000000000000000<=z/\z<=1000000000000000000,[nuZ (ym W x z)]):=zK (fun l=>(zB7 (nth l 0),qC (nth l 1 0),qC (nth l 2 0))) (fun _=>rfl) (W,x,z)
theorem zQC:zd Tryz.prog 12 zN1:=fun w=>by
 refine zDC ?_;rintro⟨W,x,z⟩ ⟨hC,hx,aA⟩ g0 ys hz hy;replace hC:zAd 1 W:=hC;obtain⟨y,y',bA,rfl,h1,⟨T,eT,hT⟩,⟨U,eU,hU⟩⟩:=zRo hy;cases eT;cases eU;obtain⟨v0,v1,v2,v3,rfl,hA⟩:=zEZ (by omega) hC h1;rw[hT.1,hU.1];refine(zKW v0 v1 v2 v3 0 w.heap.size W x z w hA (Nat.le_refl _) hC.wf (wf_i64 hx.1 hx.2) (wf_i64 aA.1 aA.2)).mono ?_;exact fun e w' h=>zQ6 (Nat.le_trans (zGo W x z) (by decide)) hz h
noncomputable def zbI:zR:=qE (fun W:zB=>[woT W]) (fun W=>zAd 1 W) (fun W=>bR (ql W))
theorem zYn(W:zB):zbI [woT W]=some (zAd 1 W,bR (ql W)):=zK (fun l=>zB7 (nth l 0)) (fun _=>rfl) W
theorem zar:zd Tryz.prog 7 zbI:=fun w=>by
 refine zDC ?_;rintro W hC g0 ys hz hy;replace hC:zAd 1 W:=hC;obtain⟨y,rfl,h1⟩:=zB0 hy;obtain⟨v0,v1,v2,v3,rfl,hA⟩:=zEZ (by omega) hC h1;refine(zA6 v0 v1 v2 v3 0 w.heap.size W w hA hC.wf).mono ?_;rintro e w' ⟨he,hb⟩;rw[zCv]at he;exact zXQ hz he hb
noncomputable def zWv:zR:=qE (fun p:zF=>[poT p.n p.s p.hn p.h]) (fun p=>(p.n<=1000000/\p.hn<=1000000)/\∀i,i<p.n->(p.s i).kn<=maxLen/\(p.s i).data.size<=maxLen) (fun p=>[iT (zGZ p)])
theorem zUy(p:zF):zWv [poT p.n p.s p.hn p.h]=some ((p.n<=1000000/\p.hn<=1000000)/\∀i,i<p.n->(p.s i).kn<=maxLen/\(p.s i).data.size<=maxLen,[iT (zGZ p)]):=zK (fun l=>zEi (nth l 0 0) (nth l 0 1)) (fun _=>rfl) p
theorem zXc:zd Tryz.prog 19 zWv:=fun w=>by
 refine zDC ?_;rintro p hC g0 ys hz hy;obtain⟨⟨h1,h2⟩,h3⟩:(p.n<=1000000/\p.hn<=1000000)/\∀i,i<p.n->(p.s i).kn<=maxLen/\(p.s i).data.size<=maxLen:=hC;obtain⟨y,rfl,⟨ds,rfl,aA⟩⟩:=zB0 hy;obtain⟨a,b,rfl,ha,hb⟩:=zBZ aA;have hm:1000000<=maxLen:=by decide
 refine(zFW a b 0 w.heap.size p w ⟨zP2 ha (by omega) h3,zS8 hb (by omega)⟩).mono ?_;rintro e w' ⟨rfl,hb⟩;exact zKp hz hb
set_option linter.unusedSimpArgs false
set_option maxRecDepth 20000
set_option maxHeartbeats 3200000
def zKu(n:Nat)(f:Nat->Int):Prop:=∀i,i<n->0<=f i/\f i<256
def zIO(w:World)(a:Option Addr)(n:Nat):Prop:=0<n->∃b o,a=some ⟨b,o,none⟩/\b<w.heap.size/\∀i,i<n->∃x:Int,w.cell? ⟨b,o+i,none⟩=some (.int .u8 x)/\0<=x/\x<256
open Classical in
theorem zP8{w:World}{a:Option Addr}{n c:Nat}(h:zIO w a n)(hc:n<=c):∃f,zKu n f/\Sh w (fun _=>.fz none) (.s .z 1 n (zEh f)) (.slice a n c):=by
 by_cases h0:0<n
 ·obtain⟨b,o,rfl,hb,hx⟩:=h h0;refine⟨fun i=>if hi:i<n then(hx i hi).choose else 0,fun i hi=>?_,_,_,rfl,hc,fun _=>⟨b,o,rfl,hb,.inr (fun l e=>by cases e),fun i j hi hj=>?_⟩⟩
  ·simp only[dif_pos hi];exact(hx i hi).choose_spec.2
  ·cases (show j=0 by omega);refine⟨_,by rw[Nat.mul_one,Nat.add_zero];exact(hx i hi).choose_spec.1,?_,rfl⟩;simp only[dif_pos hi]
 ·exact⟨fun _=>0,fun i hi=>by omega,_,_,rfl,hc,fun h=>absurd h h0⟩
set_option maxRecDepth 20000
set_option maxHeartbeats 3200000
theorem zQ1(s:yi):(zKC s).size<=8000:=by
 have h:∀i,(zXJ.getD i ⟨#[]⟩).size<=8000:=fun i=>by
  match i with
  | 0 | 1 | 2 | 3 | 4=>decide
  | i+5=>exact Nat.zero_le _
 exact h _
theorem zWH{s:yi}{W:zB}(hW:zAd 1 W):-1000000000000000000<=idV s W/\idV s W<=1000000000000000000:=by
 unfold idV;have h9:∀t:yi,-1000000000000000000<=IntKind.i64.wrap (nV t 9 - 1)/\IntKind.i64.wrap (nV t 9 - 1)<=1000000000000000000:=fun t=>by
  have:=zG7 t (m:=9) (by omega) (by omega);rw[zCN (by omega) (by omega)];omega
 have hp:=hW.pn;split
 ·exact h9 _
 split
 ·exact h9 _
 ·have h1:=zIz (nS s 5) (m:=W.pn) (by omega);have:=(hW.zbg (nV (nS s 5) W.pn).toNat (by omega)).id;omega
theorem zPI{l:List Int}{i:Nat}:zU3 l i=l[i]?.getD 0:=List.getD_eq_getElem?_getD ..
attribute [local go_sem] qX List.map_cons List.map_nil Tr.cv yq qK yA qz yp yo yn qy zBE zBG zBF zBB zBD zBC zCa zCc zCb qP zr qQ zt qI qH qU zAA zo zp yE qO tmpsOf zAo yD qN zBA yw yu yr yx yv stpP opds opd opdC kap zAB qJ zn coreU bin zAe zCK get put dlO fgt zBR zBK zBO zBP tyT yk yj Op.operands Call.operands evLoad evLen evStore evAlloc zAj and_true true_and List.append_nil List.nil_append List.cons_append Ret resCv zB3 yV cellM zBh zCE qV StW StR hpT hpO hpV hpA hpL hpC sg nin zCU bdO tmW obW AvE CsE CvE Av.tup Av.ids Cv.ids inD ObE Ob.ids TrE.refl qM yB yC qR qS qT zq zb zX yz zBa zCL zBH evCall argL argOf qZ outOb obO yM qA cvO tot Tr.own rid partsOf fillC zS zBf frz frz1 evBuildSlice zc trs Cv.tr evSlice Option.toArray_none Option.toArray_some evMakeSlice evAppend dstOf srcOf zA3 zBQ zBN zBL zBM ikT qx qw qv qu RetP RetN zBr qD evLd evSt evStoreH zAh evAppendM evAppendT tlOf mvOf rowE shp evTake oOf evC evCallP evCallN evCallO unlast zAO zA1 zAa argsF zCR qg pmC varT vT evField evConv dB0 Option.bind_some Option.bind_none Option.map_some Option.map_none Option.isSome_some Option.isSome_none
attribute [local go_sem] yL za zA7 yd qr zAv zAw zAx zAy zAz zA0 zAD zAE zAF zAG zAH zAI zAJ zAK yS qp
attribute [-go_sem] za
attribute [local go_sem] zAV zCF zCG zAf yy zDk
noncomputable def zQn:zR:=qE (fun q:(Nat×(Nat->Int))×Nat×(Nat->Int)=>[byT q.1.1 q.1.2,byT q.2.1 q.2.2]) (fun q=>zKu q.1.1 q.1.2/\zKu q.2.1 q.2.2) (fun _=>tT)
theorem zRf:zd Tryz.prog 3 zQn:=by
 refine zP zl (GOk.cons zU5 (zG Tryz.func5 rfl rfl) (GOk.cons zVn (zG Tryz.func6 rfl rfl) (GOk.cons zar (zG Tryz.func7 rfl rfl) (GOk.cons yO (zG Tryz.func8 rfl rfl) (GOk.cons zXz (zG Tryz.func9 rfl rfl) (GOk.cons zX9 (zG Tryz.func10 rfl rfl) (GOk.cons zQC (zG Tryz.func12 rfl rfl) (GOk.cons zRd (zG Tryz.func13 rfl rfl) (GOk.cons zRa (zG Tryz.func14 rfl rfl) (GOk.cons zRn (zG Tryz.func15 rfl rfl) (GOk.cons zUO (zG Tryz.func16 rfl rfl) (GOk.cons zYi (zG Tryz.func17 rfl rfl) (GOk.cons zPt (zG Tryz.func18 rfl rfl) (GOk.cons zXc (zG Tryz.func19 rfl rfl) (GOk.keep zPh (zG Tryz.func4 rfl rfl) (GOk.keep zKv (zG Tryz.func11 rfl rfl) GOk.nil)))))))))))))))) zk Tryz.func3 rfl Tryz.ntmps3 Tryz.results3 22 ?_;rintro⟨⟨n,f⟩,m,h⟩ ⟨h1,h2⟩;replace h1:zKu n f:=h1;replace h2:zKu m h:=h2;refine⟨by simp,?_⟩;by_cases b1:1048576<n
 ·simp[go_sem,show(1048576:Int)<n by omega]
 by_cases b2:1048576<m
 ·simp[go_sem,show ¬(1048576:Int)<n by omega,show(1048576:Int)<m by omega]
 have q1:¬(1048576:Int)<n:=by omega
 have q2:¬(1048576:Int)<m:=by omega
 have hb:zEJ n f:=⟨by omega,h1⟩;have cA:zEJ m h:=⟨by omega,h2⟩;obtain⟨⟨W,x⟩,eW⟩:∃d,zEO n f=d:=⟨_,rfl⟩;obtain⟨⟨V,a,b⟩,eV⟩:∃d,zEG m h=d:=⟨_,rfl⟩;have hW:zAd 1 W:=by have:=(zJD (zHe hb.1 hb.2)).2;unfold zEO at eW;rw[<-(Prod.mk.inj eW).1];exact this
 have hx:x.size<=8000:=by unfold zEO at eW;rw[<-(Prod.mk.inj eW).2];exact zQ1 _
 have gV:=(zJD (zHe cA.1 cA.2)).2;have hV:zAd 1 V:=by unfold zEG at eV;rw[<-(Prod.mk.inj eV).1];exact gV
 have ha:-1000000000000000000<=a/\a<=1000000000000000000:=by unfold zEG at eV;rw[<-(Prod.mk.inj (Prod.mk.inj eV).2).1];exact zWH gV
 have nA:-1000000000000000000<=b/\b<=1000000000000000000:=by unfold zEG at eV;rw[<-(Prod.mk.inj (Prod.mk.inj eV).2).2];exact zWH gV
 have cW:=(hW.zbk (c:=1) (by omega)).toSmallW;have cV:=(hV.zbk (c:=1) (by omega)).toSmallW;obtain⟨P,hP⟩:∃P,zBJ W x=P:=⟨_,rfl⟩;simp[go_sem,q1,q2,zKB,zSb,zUu,zYn,yX,zUz,zW8,hb,cA,eW,hW,hx,cW,hP];have hu:∀i,i+1<P.length->P[i]?.getD 0<P[i+1]?.getD 0:=fun i hi=>by
  have:=zQ8 W x (i:=i) (by rw[hP];exact hi)
  rwa [hP,List.getD_eq_getElem?_getD,List.getD_eq_getElem?_getD]at this
 have rA:P.length<=64:=hP▸zI2 W x;obtain⟨Q,hQ⟩:∃Q,ym V a b=Q:=⟨_,rfl⟩;have kA:ym V b a=Q:=by rw[zKU];exact hQ
 have lA:=zKT V a;have sA:Q.length<=64:=hQ▸zGo V a b;have mA:=zVs V a;refine⟨by kernel_rfl,?_⟩;refine qY (fun k:Nat=>⟨[(9,true,.i k),(8,true,.m false [.h 1040]),(7,true,.m false [.s .z 1 P.length (qf (zU3 P))]),(5,true,.m false [.p 5 0]),(1,true,.m false [.s .z 1 m (zEh h)])],[(1040,.row 1 P.length (inL P)),(5,.var [.h 1032,.h 2032,.v (.int .i64 W.time),.v (.int .i64 W.next),.h 5032,.h 6032]),(6032,.row 8 W.pn (snapsE .z W.zbg)),(5032,.row 6 W.sn (setsE .o W.zbh)),(2032,.row 1 W.pool.hn (qf W.pool.h)),(1032,.row 3 W.pool.n (zY .z W.pool.s))]⟩) (fun k=>P.length - k) (fun k=>k<=P.length) 0 (by simp[go_sem]) (Nat.zero_le _) ?_;intro k hk;simp[go_sem,ze (show k<=1000000000 by omega),zPI,zSa,zPB,zQl,zPD,zQx,zSY,yX,cA,eV,hV,cV,cW,ha,nA,hQ,kA,lA];refine⟨fun hl=>?_,fun hl=>⟨by kernel_rfl,mA,fun _=>?_⟩⟩
 ·have hw:0<k->IntKind.i64.wrap (k - 1)=((k - 1:Nat):Int):=fun h=>by rw[zCN (by omega) (by omega)];omega
  refine⟨hl,fun h0=>by rw[hw h0];omega,fun _=>hl,by kernel_rfl,fun h0=>?_,fun _=>⟨k+1,by omega,by omega,rfl⟩⟩;have:=hu (k - 1) (by omega);rw[hw h0,Int.toNat_natCast]
  rwa [show k - 1+1=k by omega]at this
 refine qY (fun k:Nat=>⟨[(16,true,.i k),(15,true,.m false [.h 1110]),(14,true,.m false [.s .z 1 Q.length (qf (zU3 Q))]),(13,true,.m false [.s .z 1 Q.length (qf (zU3 Q))]),(5,true,.m false [.p 5 0])],[(1110,.row 1 Q.length (inL Q)),(5,.var [.h 1032,.h 2032,.v (.int .i64 W.time),.v (.int .i64 W.next),.h 5032,.h 6032]),(6032,.row 8 W.pn (snapsE .z W.zbg)),(5032,.row 6 W.sn (setsE .o W.zbh)),(2032,.row 1 W.pool.hn (qf W.pool.h)),(1032,.row 3 W.pool.n (zY .z W.pool.s))]⟩) (fun k=>Q.length - k) (fun k=>k<=Q.length) 0 (by simp[go_sem]) (Nat.zero_le _) ?_;intro i hi;by_cases hS:ql W;rotate_left
 ·simp[go_sem,ze (show i<=1000000000 by omega),zPI,yX,cW,hS];exact fun hl=>⟨hl,by kernel_rfl,i+1,by omega,by omega,rfl⟩
 simp[go_sem,ze (show i<=1000000000 by omega),zPI,yX,cW,hS];refine⟨fun hl=>⟨hl,by kernel_rfl,i+1,by omega,by omega,rfl⟩,fun hl=>?_⟩;have hR:=hS.right;have gA:W.pool.n<=200:=hR.1;have aA:W.pool.hn<=1000000:=by have:=zEl hR;omega
 have aB:W.sn<=8:=hS.zbj.2.2.1;have oA:W.pn<=20:=hS.zbj.2.2.2.1;obtain⟨C,hC⟩:∃C:Nat->Nat,∀i,C i=cnt (InW W) i:=⟨_,fun _=>rfl⟩;have iA:∀i,C i<=i:=fun i=>by have:=zOn (InW W) i;rw[hC];omega
 have bA:=zVS hS;rw[<-hC]at bA;have vA:0<=zGZ W.pool:=by rw[show zGZ W.pool=(roomN W.pool.s W.pool.n:Int)from if_pos hR];omega
 have fA:∀i,i<W.pool.n->(W.pool.s i).kn<=maxLen/\(W.pool.s i).data.size<=maxLen:=fun i hi=>hW.slot (by omega) hi
 have pA:IntKind.i64.wrap (zGZ W.pool+W.pool.hn)=zGZ W.pool+W.pool.hn:=zCN (by omega) (by omega);refine qY (fun i:Nat=>⟨[(18,true,.i i),(17,true,.i (C i)),(5,true,.m false [.p 5 0])],[(5,.var [.h 1032,.h 2032,.v (.int .i64 W.time),.v (.int .i64 W.next),.h 5032,.h 6032]),(6032,.row 8 W.pn (snapsE .z W.zbg)),(5032,.row 6 W.sn (setsE .o W.zbh)),(2032,.row 1 W.pool.hn (qf W.pool.h)),(1032,.row 3 W.pool.n (zY .z W.pool.s))]⟩) (fun i=>W.pool.n - i) (fun i=>i<=W.pool.n) 0 (by simp[go_sem,hC,cnt]) (Nat.zero_le _) ?_;intro i hi;have tA:=iA i;simp[go_sem,zUy,aA,fA,show W.pool.n<=1000000 by omega,pA];refine⟨fun hl=>?_,fun hl=>⟨fA,by kernel_rfl,?_⟩⟩;rotate_left
 ·obtain rfl:i=W.pool.n:=(by omega);rw[bA];exact zCN (by omega) (by omega)
 obtain⟨D,hD⟩:∃D:Nat->Bool,∀k,D k=true↔∃j,j<k/\((i:Int),(W.pool.s i).birth)∈zH W.pool (W.zbh j).rs (W.zbh j).rb:=⟨fun k=>dB _,fun k=>zBa⟩;obtain⟨E,hE⟩:∃E:Nat->Bool,∀k,E k=true↔D W.sn=true\/∃j,j<k/\((i:Int),(W.pool.s i).birth)∈zH W.pool (W.zbg j).rs (W.zbg j).rb:=⟨fun k=>dB _,fun k=>zBa⟩;have eA:E W.pn=true↔InW W i:=by rw[hE,hD];rfl
 have jA:D 0=false:=Bool.eq_false_iff.2 fun h=>by obtain⟨j,hj,_⟩:=(hD 0).1 h;omega
 have dA:E 0=D W.sn:=Bool.eq_iff_iff.2 ⟨fun h=>((hE 0).1 h).resolve_right fun ⟨j,hj,_⟩=>by omega,fun h=>(hE 0).2 (.inl h)⟩;refine qY (fun k:Nat=>⟨[(20,true,.i k),(19,true,.m false [.v (.bool (D k))]),(18,true,.i i),(17,true,.i (C i)),(5,true,.m false [.p 5 0])],[(5,.var [.h 1032,.h 2032,.v (.int .i64 W.time),.v (.int .i64 W.next),.h 5032,.h 6032]),(6032,.row 8 W.pn (snapsE .z W.zbg)),(5032,.row 6 W.sn (setsE .o W.zbh)),(2032,.row 1 W.pool.hn (qf W.pool.h)),(1032,.row 3 W.pool.n (zY .z W.pool.s))]⟩) (fun k=>W.sn - k) (fun k=>k<=W.sn) 0 (by simp[go_sem,jA]) (Nat.zero_le _) ?_;intro k hk;have hL:∀a b,(zH W.pool a b).length<=1000000:=fun a b=>by have:=qc W.pool a b;omega
 cases hd:D k
 case' false=>
  simp[go_sem,zBl,zGH,hR,hd,ze (show k<=1000000000 by omega),zKG,hL];refine⟨fun h3=>⟨h3,(hS.zbh k h3).1,hl,by kernel_rfl,k+1,by omega,by omega,rfl,Bool.eq_iff_iff.2 (zBa.trans ?_)⟩,fun h3=>?_⟩
  ·rw[hD];refine⟨fun h=>⟨k,Nat.lt_succ_self _,h⟩,fun ⟨j,hj,h⟩=>?_⟩;rcases Nat.lt_succ_iff_lt_or_eq.1 hj with hj | rfl
   ·exact absurd ((hD k).2 ⟨j,hj,h⟩) (by rw[hd];exact Bool.false_ne_true)
   ·exact h
 case' true=>
  simp[go_sem,zBl,zGH,hR,hd,ze (show k<=1000000000 by omega),zKG,hL];refine⟨fun h3=>⟨by kernel_rfl,k+1,by omega,by omega,rfl,(hD _).2 (by obtain⟨j,hj,h⟩:=(hD k).1 hd;exact⟨j,by omega,h⟩)⟩,fun h3=>?_⟩
 all_goals
  have e0:E 0=D k:=(by rw[dA,show W.sn=k by omega]);refine qY (fun k:Nat=>⟨[(21,true,.i k),(19,true,.m false [.v (.bool (E k))]),(18,true,.i i),(17,true,.i (C i)),(5,true,.m false [.p 5 0])],[(5,.var [.h 1032,.h 2032,.v (.int .i64 W.time),.v (.int .i64 W.next),.h 5032,.h 6032]),(6032,.row 8 W.pn (snapsE .z W.zbg)),(5032,.row 6 W.sn (setsE .o W.zbh)),(2032,.row 1 W.pool.hn (qf W.pool.h)),(1032,.row 3 W.pool.n (zY .z W.pool.s))]⟩) (fun k=>W.pn - k) (fun k=>k<=W.pn) 0 (by simp[go_sem,e0,hd]) (Nat.zero_le _) ?_;clear hd h3 hk e0 dA k;intro k hk;cases hd:E k
  case' false=>
   simp[go_sem,zBl,zGH,hR,hd,ze (show k<=1000000000 by omega),ze (show i<=1000000000 by omega),zKG,hL];refine⟨fun h3=>⟨h3,hS.zbg k h3,hl,by kernel_rfl,k+1,by omega,by omega,rfl,Bool.eq_iff_iff.2 (zBa.trans ?_)⟩,fun h3=>⟨i+1,by omega,by omega,rfl,?_⟩⟩
   ·rw[hE];refine⟨fun h=>.inr ⟨k,Nat.lt_succ_self _,h⟩,fun h=>?_⟩;have hn:¬E k=true:=(by rw[hd];exact Bool.false_ne_true);rcases h with h | ⟨j,hj,h⟩
    ·exact absurd ((hE k).2 (.inl h)) hn
    ·rcases Nat.lt_succ_iff_lt_or_eq.1 hj with hj | rfl
     ·exact absurd ((hE k).2 (.inr ⟨j,hj,h⟩)) hn
     ·exact h
   ·obtain rfl:k=W.pn:=(by omega);rw[hC (i+1),cnt,if_neg (fun h=>by rw[eA.2 h]at hd;cases hd),<-hC];rfl
  case' true=>
   simp[go_sem,zBl,zGH,hR,hd,ze (show k<=1000000000 by omega),ze (show i<=1000000000 by omega),ze (show C i<=1000000000 by omega),zKG,hL];refine⟨fun h3=>⟨by kernel_rfl,k+1,by omega,by omega,rfl,(hE _).2 (((hE k).1 hd).imp id fun ⟨j,hj,h⟩=>⟨j,by omega,h⟩)⟩,fun h3=>⟨i+1,by omega,by omega,rfl,?_⟩⟩;obtain rfl:k=W.pn:=(by omega);rw[hC (i+1),cnt,if_pos (eA.1 hd),<-hC];rfl
theorem zOs(a0 a1:Option Addr)(n0 c0 n1 c1:Nat)(w:World)(h0:zIO w a0 n0)(h1:zIO w a1 n1)(aA:n0<=c0)(bA:n1<=c1) :
  Calls Tryz.prog 3 #[.slice a0 n0 c0,.slice a1 n1 c1] w fun e w'=>e = .returned (.bool true)/\Below w.heap.size w w':=by
 obtain⟨f,hf,sf⟩:=zP8 h0 aA;obtain⟨g,hg,sg⟩:=zP8 h1 bA;have fA:zQn [byT n0 f,byT n1 g]=some (zKu n0 f/\zKu n1 g,tT):=zK (fun l=>((zEu (nth l 0 0),fun i=>match zCA (nth l 0 0) i 0 with | .v (.int _ x)=>x | _=>0),zEu (nth l 1 0),fun i=>match zCA (nth l 1 0) i 0 with | .v (.int _ x)=>x | _=>0)) (fun _=>rfl) ((n0,f),n1,g);refine(zRf w _ _ _ fA ⟨hf,hg⟩ (fun _=>.fz none) [.slice a0 n0 c0,.slice a1 n1 c1] (fun b=>⟨none,rfl⟩) (.cons ⟨_,rfl,sf⟩ (.cons ⟨_,rfl,sg⟩ .nil))).mono ?_;rintro e w' ⟨v,k,rfl,hk,ys,hr,hv⟩;obtain⟨y,iA,cs,rfl,dA,cA,eA⟩:=hr;cases eA;cases hv;obtain⟨u,gA,rfl,h2,h3⟩:=cA;cases h3;cases dA;refine⟨by rw[h2.1],⟨hk.os,hk.tape,hk.output,hk.size,fun b hb=>(hk.fz b none rfl hb).1⟩⟩
end Go.Proofs.YtginldeebkfbgaaGreat
