/- A part of the proof. -/
import Derived.Test.YtginldeebkfbgaaGreatF21
set_option linter.unusedVariables false
set_option maxRecDepth 20000
set_option maxHeartbeats 4000000
namespace Go.Proofs.YtginldeebkfbgaaGreat
open Go.RowKit Go.Maps
def zIS(P:Int×Int->Prop)(K:Nat)(D:DataW Value):Prop:=IsMap D/\∀s b kl,keyOf Tryz.prog 44 (.agg #[.int .i64 s,.int .i64 b])=some kl->∃c:Int,D.atKey kl (.held (.int .i64 0)) = .held (.int .i64 c)/\0<=c/\c<=K/\(c=0↔¬P (s,b))
theorem zIS.has{P:Int×Int->Prop}{K:Nat}{D:DataW Value}(h:zIS P K D):zas P D:=fun s b kl hk=>by
 obtain⟨c,h1,_,_,h4⟩:=h.2 s b kl hk;exact⟨c,h1,h4⟩
theorem zIS.iff{P Q:Int×Int->Prop}{K L:Nat}{D:DataW Value}(h:zIS P K D)(aA:K<=L)(he:∀x,P x↔Q x):zIS Q L D:=⟨h.1,fun s b kl hk=>by
 obtain⟨c,h1,h2,h3,h4⟩:=h.2 s b kl hk;exact⟨c,h1,h2,by omega,by rw[h4,he]⟩⟩
theorem zIS.none:zIS (fun _=>False) 0 (.map []:DataW Value):=⟨⟨_,rfl⟩,fun s b kl _=>⟨0,rfl,Int.le_refl _,Int.le_refl _,by simp⟩⟩
theorem zIS.more{P:Int×Int->Prop}{K:Nat}{D:DataW Value}(h:zIS P K D){xs xb c:Int}{kx:Lit}(aA:keyOf Tryz.prog 44 (.agg #[.int .i64 xs,.int .i64 xb])=some kx)(bA:0<=c)(cA:c<=K):zIS (fun y=>P y\/y=(xs,xb)) (K+1) (D.put kx (.held (.int .i64 (c+1)))):=by
 obtain⟨es,rfl⟩:=h.1;refine⟨⟨_,rfl⟩,fun s b kl hk=>?_⟩;by_cases e:kl=kx
 ·subst e;have e2:=zUp.inj hk aA;simp only[Value.agg.injEq,Array.mk.injEq,List.cons.injEq,Value.int.injEq,true_and,and_true]at e2;obtain⟨rfl,rfl⟩:=e2;exact⟨c+1,atKey_put_same ⟨_,rfl⟩ (zUp.key aA) _ _,by omega,by omega,⟨fun h0=>by omega,fun hn=>absurd (Or.inr rfl) hn⟩⟩
 ·obtain⟨d,h1,h2,h3,h4⟩:=h.2 s b kl hk;refine⟨d,(atKey_put_other e _ _).trans h1,h2,by omega,?_⟩;rw[h4];constructor
  ·rintro hn (hp | hp)
   ·exact hn hp
   ·injection hp with p1 p2;subst p1 p2;rw[hk]at aA;exact e (Option.some.inj aA)
  ·exact fun hn hp=>hn (Or.inl hp)
theorem zM2{n₀ B M:Nat}{X Y:World}(h:X.grownBy Y (some M))(h1:n₀<=M)(h2:M<B)(h3:n₀<=X.heap.size):yN n₀ B X Y:=
 ⟨(Below.refl n₀ X).grown h h3 (fun k e=>by cases e;exact h1),fun k o hk ho _=>(h.block k (Array.getElem?_eq_some_iff.1 ho).1 (fun e=>by cases e;omega)).trans ho⟩
def zBz(n₀ B:Nat):List Deferred->World->Prop
 | [],_=>True
 | d :: ds,w=>(∃r,d = {target:=.collected r,args:=#[]}/\n₀<=r/\r<B/\w.heap[r]?=some (.deferred (some []))/\∀q,({target:=.collected q,args:=#[]}:Deferred)∈ds->q≠r)/\zBz n₀ B ds w
theorem zBz.kept{n₀ B:Nat}{X Y:World}(h:∀r,n₀<=r->r<B->X.heap[r]?=some (.deferred (some []))->Y.heap[r]?=some (.deferred (some []))):∀{ds:List Deferred},zBz n₀ B ds X->zBz n₀ B ds Y
 | [],_=>trivial
 | d :: ds,⟨⟨r,h1,h2,h3,h4,h5⟩,h6⟩=>⟨⟨r,h1,h2,h3,h r h2 h3 h4,h5⟩,zBz.kept h h6⟩
theorem zBz.zbd{n₀ B:Nat}{X Y:World}{ds:List Deferred}(h:zBz n₀ B ds X)(hb:Below X.heap.size X Y):zBz n₀ B ds Y:=h.kept (fun r _ _ hr=>(hb.block r (Array.getElem?_eq_some_iff.1 hr).1).trans hr)
theorem zBz.mono{n₀ B C:Nat}{X:World}(hc:B<=C):∀{ds:List Deferred},zBz n₀ B ds X->zBz n₀ C ds X
 | [],_=>trivial
 | d :: ds,⟨⟨r,h1,h2,h3,h4,h5⟩,h6⟩=>⟨⟨r,h1,h2,by omega,h4,h5⟩,zBz.mono hc h6⟩
theorem zBz.lt{n₀ B:Nat}{X:World}:∀{ds:List Deferred},zBz n₀ B ds X->∀q,({target:=.collected q,args:=#[]}:Deferred)∈ds->q<B
 | d :: ds,⟨⟨r,h1,h2,h3,h4,h5⟩,h6⟩,q,hq=>by
  rcases List.mem_cons.1 hq with e | e
  ·rw[h1]at e;simp only[Deferred.mk.injEq,Target.collected.injEq,and_true]at e;omega
  ·exact zBz.lt h6 q e
theorem zBz.more{n₀ B r:Nat}{X:World}{ds:List Deferred}(h:zBz n₀ B ds X)(hB:B<=r)(hn:n₀<=r)(hr:X.heap[r]?=some (.deferred (some []))):zBz n₀ (r+1) ({target:=.collected r,args:=#[]} :: ds) X:=
 ⟨⟨r,rfl,hn,by omega,hr,fun q hq=>by have:=h.lt q hq;omega⟩,h.mono (by omega)⟩
theorem zBz.put{n₀ B r:Nat}{X:World}{o:Obj}:∀{ds:List Deferred},zBz n₀ B ds X->(∀q,({target:=.collected q,args:=#[]}:Deferred)∈ds->q≠r)->zBz n₀ B ds (X.putObj r o)
 | [],_,_=>trivial
 | d :: ds,⟨⟨q,h1,h2,h3,h4,h5⟩,h6⟩,hne=>⟨⟨q,h1,h2,h3,(World.putObj_heap_other (hne q (by rw[h1];exact List.mem_cons_self))).trans h4,h5⟩,zBz.put h6 (fun q hq=>hne q (List.mem_cons_of_mem _ hq))⟩
theorem zIs{n₀ B n:Nat}{F:Fence}{P:Program}{fn:Func}{tmps:Array Value}{R:Ending->World->Prop}(J:World->Prop)(hJ:∀X r,J X->n₀<=r->X.heap[r]?=some (.deferred (some []))->J (X.putObj r (.deferred none)))
  (aA:∀X,J X->LeavesInM F n P fn tmps R [] .returning X):∀(ds:List Deferred) (X:World),zBz n₀ B ds X->J X->LeavesInM F n P fn tmps R ds .returning X
 | [],X,_,h=>aA X h
 | d :: ds,X,⟨⟨r,h1,h2,h3,h4,h5⟩,h6⟩,h=>⟨by simp,.inl ⟨r,_,by rw[h1],run_takeDeferred h4,zIs J hJ aA ds _ (zBz.put h6 h5) (hJ X r h h2 h4)⟩⟩
open Go.Shelf
attribute [local go_sem] Oper.semAt_some
def zEN(W:zB)(qs qb:Nat->Int)(k:Nat)(y:Int×Int):Prop:=∃i,i<k/\y∈zH W.pool (qs i) (qb i)
theorem zRu{X Y:World}{M b o:Nat}{v:Value}(h:yT X b o v)(hg:X.grownBy Y (some M))(aA:b≠M):yT Y b o v:=
 ⟨(hg.cell_far _ (zO h.1) (fun e=>aA (Option.some.inj e))).trans h.1,(hg.frozen_far _ (zO h.1) (fun e=>aA (Option.some.inj e))).trans h.2⟩
def zau(w:World)(v0 v1 v2 v3:Value)(W:zB)(qs qb:Nat->Int)(k:Nat)(ds:List Deferred)(wr:World):Prop:=
 yT wr (w.heap.size+1+1) 0 (.map (some (w.heap.size+1)))/\zAb wr w.heap.size v0 v1 (.int .i64 W.time) (.int .i64 W.next) v2 v3/\(∃nm D,wr.ownsMap Tryz.prog 44 zCz (w.heap.size+1) nm D/\nm<=73*k/\zIS (zEN W qs qb k) (73*k) D)/\(∃B,zBz (w.heap.size+3) B ds wr/\B<=wr.heap.size)/\Below w.heap.size w wr/\w.heap.size+3<=wr.heap.size
theorem zMm(v0 v1 v2 v3:Value)(lo hi:Nat)(W:zB)(oa:Option Addr)(nr oc:Nat)(qs qb:Nat->Int)(rC iC:Nat)(w:World)(h:ye w lo hi v0 v1 v2 v3 W)(hh:hi<=w.heap.size)(hR:zf W.pool)(hO:qk w rC iC (.slice oa nr oc) nr qs qb)(dD:nr<=100)(hT:∀i,i<nr->zW W.pool (qs i) (qb i)) :
  Calls Tryz.prog 80 #[zAY v0 v1 v2 v3 W,.slice oa nr oc] w (zOY (zEN W qs qb nr) w):=by
 have Hp:=zM h;have HO:=zM hO;have HT:=zM hT;clear h hO hT;have nC:(nr:Int)<=100:=by omega
 have gB:=zD w (.cells #[v0,v1,.int .i64 W.time,.int .i64 W.next,v2,v3] 30);have aB:(w.alloc (.cells #[v0,v1,.int .i64 W.time,.int .i64 W.next,v2,v3] 30)).heap.size=w.heap.size+1:=World.size_alloc _ _;have hm:=World.ownsMap_made (w.alloc (.cells #[v0,v1,.int .i64 W.time,.int .i64 W.next,v2,v3] 30)) Tryz.prog 44 zCz;rw[aB]at hm;have fA:=zD (w.alloc (.cells #[v0,v1,.int .i64 W.time,.int .i64 W.next,v2,v3] 30)) (.map #[] 0);have iB:=zA gB fA;have bB:((w.alloc (.cells #[v0,v1,.int .i64 W.time,.int .i64 W.next,v2,v3] 30)).alloc (.map #[] 0)).heap.size=w.heap.size+2:=by rw[World.size_alloc,aB]
 have lA:=zD ((w.alloc (.cells #[v0,v1,.int .i64 W.time,.int .i64 W.next,v2,v3] 30)).alloc (.map #[] 0)) (.cells #[.map (some (w.heap.size+1))] 98);have hc:yT (((w.alloc (.cells #[v0,v1,.int .i64 W.time,.int .i64 W.next,v2,v3] 30)).alloc (.map #[] 0)).alloc (.cells #[.map (some (w.heap.size+1))] 98)) (w.heap.size+2) 0 (.map (some (w.heap.size+1))):=by
  have:=zL (i:=0) (heap_alloc_new ((w.alloc (.cells #[v0,v1,.int .i64 W.time,.int .i64 W.next,v2,v3] 30)).alloc (.map #[] 0)) (.cells #[.map (some (w.heap.size+1))] 98)) rfl;rw[bB]at this;exact this
 have HC:=zM hc;have HX:=zM (((zAb.new w v0 v1 (.int .i64 W.time) (.int .i64 W.next) v2 v3 30).zbd fA).zbd lA);have HM:=zM (hm.kept (yK lA none) (by simp));have HB:=zM (zA iB lA);have HZ:=zM (show(((w.alloc (.cells #[v0,v1,.int .i64 W.time,.int .i64 W.next,v2,v3] 30)).alloc (.map #[] 0)).alloc (.cells #[.map (some (w.heap.size+1))] 98)).heap.size=w.heap.size+3 by rw[World.size_alloc,bB]);clear hm gB iB lA hc bB fA;have lC:=@run_makeMap Tryz.prog;refine(callsIn_wide (n:=3)).1 ?_;refine callsIn_of_wp_marks Tryz.func80 rfl trivial ?_ rfl;simp only[Tryz.ntmps80,List.size_toArray,List.length_cons,List.length_nil,Nat.reduceAdd,Nat.reduceSub,Array.replicate_succ,Array.replicate_zero,List.push_toArray,List.append_toArray,List.nil_append,List.cons_append]
 gi_wp2
 generalize ((w.alloc (.cells #[v0,v1,.int .i64 W.time,.int .i64 W.next,v2,v3] 30)).alloc (.map #[] 0)).alloc (.cells #[.map (some (w.heap.size+1))] 98)=W3 at HC HX HM HB HZ ⊢;have fB:=zM (show yT W3 (w.heap.size+1+1) 0 (.map (some (w.heap.size+1)))from HC.out);clear HC aB lC;refine wpIn_loop (fun a' wr=>∃(u7 pB rB u16 sB tB vB cB:Value) (ds:List Deferred) (k:Nat),k<=nr/\zau w v0 v1 v2 v3 W qs qb k ds wr/\a' = {tmps:=#[zAY v0 v1 v2 v3 W,.slice oa nr oc,.pointer (some ⟨w.heap.size,0,none⟩),undef,.map none,.pointer (some ⟨w.heap.size+1+1,0,none⟩),undef,u7,undef,undef,.map (some (w.heap.size+1)),.slice oa nr oc,.int .i64 nr,.int .i64 k,pB,rB,u16,sB,tB,vB,undef,undef,undef,undef,undef,undef,undef,undef,cB,undef],defers:=ds}) (fun a' _=>nr - (intOf (a'.tmps.getD 13 undef)).toNat) ?_ ?_
 ·exact⟨_,_,_,_,_,_,_,_,[],0,Nat.zero_le _,⟨fB.out,HX.out,⟨0,.map [],HM.out,Nat.zero_le _,zIS.none.iff (Nat.le_refl _) (fun x=>⟨False.elim,fun ⟨i,hi,_⟩=>absurd hi (Nat.not_lt_zero _)⟩)⟩,⟨w.heap.size+3,trivial,by have:=HZ.out;omega⟩,HB.out,by have:=HZ.out;omega⟩,rfl⟩
 clear fB HX HM HB HZ;clear W3;rintro _ wr ⟨u7,pB,rB,u16,sB,tB,vB,cB,ds,k,hk,⟨hc,hx,⟨nm,D,hm,mC,hd⟩,⟨B0,oB,sC⟩,hb,hz⟩,rfl⟩;have Hm:=zM hm;have Hd:=zM hd;have rA:=zM oB;have Hc:=zM hc;have Hx:=zM hx;clear hm hd oB hc hx;by_cases nB:k<nr;rotate_left
 ·obtain rfl:k=nr:=(by omega);obtain⟨c0,-⟩:=Hc.out
  gi_wp2
  refine zIs (n₀:=w.heap.size+3) (B:=B0) (fun X=>(X.ownsMap Tryz.prog 44 zCz (w.heap.size+1) nm D/\Below w.heap.size w X)/\w.heap.size+1<X.heap.size) ?_ ?_ ds wr rA.out ⟨⟨Hm.out,hb⟩,by omega⟩
  ·rintro X r ⟨⟨h1,h2⟩,h3⟩ hr hX;exact⟨⟨h1.kept (grownBy_putObj' X r _) (by simp;omega),h2.trans (belowK_b (w:=w) (Nat.le_refl _) X r _ _ (by omega) hX rfl rfl)⟩,by simp;omega⟩
  ·rintro X ⟨⟨h1,h2⟩,h3⟩;exact⟨_,results_tmp rfl _ _ _,⟨_,_,_,rfl,h1,by omega,h3,Hd.out.has,h2⟩⟩
 have jC:(k:Int)<(nr:Int):=by omega
 obtain⟨b,off,rfl,q0,q1⟩:=(HO.out.zbd hb).cellsD nB;have ha:=zD wr (.cells #[.int .i64 (qs k),.int .i64 (qb k)] 44);have HY:=zM (yG.new wr (.int .i64 (qs k)) (.int .i64 (qb k)) 44);have kA:=zM (Hx.out.zbd ha);have nA:=zM (show(wr.alloc (.cells #[.int .i64 (qs k),.int .i64 (qb k)] 44)).heap.size=wr.heap.size+1 from World.size_alloc _ _);have mA:=zM (zA hb ha);have pA:=zM (Hm.out.kept (yK ha none) (by simp));have cA:=zM (rA.out.zbd ha);have oA:=zM (Hc.out.zbd ha);obtain⟨x0,x1,x2,x3,x4,x5⟩:=kA.out.c;obtain⟨⟨y0,-⟩,⟨y1,-⟩⟩:=HY.out;clear ha Hm rA Hc Hx
 gi_wp2
 clear x0 x1 x2 x3 x4 x5 y0 y1 q0 q1;generalize wr.alloc (.cells #[.int .i64 (qs k),.int .i64 (qb k)] 44)=W4 at HY kA nA mA pA cA oA ⊢;refine⟨trivial,(callsIn_wide.2 (zHI v0 v1 v2 v3 W (qs k) (qb k) W4)).mono ?_⟩;rintro e w5 ⟨rfl,kB,jB,eA,pC⟩;have aC:=zM (kA.out.zbd eA);have eB:=zM (zA mA.out eA);have cC:=zM (pA.out.kept (yK eA none) (by simp));have sA:=zM (cA.out.zbd eA);have bC:=zM (oA.out.zbd eA);have fD:w.heap.size+3<=w5.heap.size/\B0<=w5.heap.size:=by have:=nA.out;omega
 have jA:=zHJ w.heap.size w5.heap.size 2 W4.heap.size (W4.heap.size+1) lo hi W.pool v0 v1 v2 v3 W.time W.next (qs k) (qb k) w5 (by omega) (Nat.le_refl _) hh hR (HT.out k nB) kB jB (Hp.out.pool.1.zbd eB.out);clear eA kB jB pC kA mA pA cA oA nA HY
 gi_wp2
 have hN:=zOP W.pool (qs k) (qb k);refine wpIn_rangeFunc_ownH rfl (by omega) (gf:=113) (lb:=#[.pointer (some ⟨W4.heap.size,0,none⟩),.pointer (some ⟨W4.heap.size+1,0,none⟩)]) rfl trivial (enters_of Tryz.func113 (by kernel_rfl) rfl) jA zCt (zJa (by omega)) (Below.refl _ _) (fun _=>rfl)
  (fun bA X=>((yT X (w.heap.size+1+1) 0 (.map (some (w.heap.size+1)))/\zAb X w.heap.size v0 v1 (.int .i64 W.time) (.int .i64 W.next) v2 v3)/\(∃nm D,X.ownsMap Tryz.prog 44 zCz (w.heap.size+1) nm D/\nm<=73*k+bA.length/\zIS (fun y=>zEN W qs qb k y\/y∈bA.map (·.1.2)) (73*k+bA.length) D))/\zBz (w.heap.size+3) B0 ds X/\Below w.heap.size w X)
  (fun _ _ _=>False)
  (fun s X Y row hs hg hr=>by
   obtain⟨⟨⟨i1,i2⟩,nm,D,i3,i4,i5⟩,i6,i7⟩:=hs;exact⟨⟨⟨zAn i1 hg hr,zAn i2.1 hg hr,zAn i2.2.1 hg hr,zAn i2.2.2.1 hg hr,zAn i2.2.2.2.1 hg hr,zAn i2.2.2.2.2.1 hg hr,zAn i2.2.2.2.2.2 hg hr⟩,nm,D,i3.kept hg (fun e=>by have:=(hr _ e.symm).1;omega),i4,i5⟩,i6.kept (fun r h1 h2 h3=>(hg.block r (Array.getElem?_eq_some_iff.1 h3).1 (fun e=>by have:=(hr _ e.symm).1;omega)).trans h3),ownFrom_below (β:=Unit) (Nat.le_refl _) (by omega) () X Y row i7 hg hr⟩)
  (fun _ _ _ _ _ hs _ _=>hs)
  ⟨⟨⟨bC.out,aC.out⟩,nm,D,cC.out,mC,Hd.out.iff (Nat.le_refl _) (fun y=>by simp)⟩,sA.out,eB.out⟩
  (fun x a' X=>∃Bx,w.heap.size+3<=Bx/\yG X Bx (.int .i64 x.1.2.1) (.int .i64 x.1.2.2)/\a' = {tmps:=#[zAY v0 v1 v2 v3 W,.slice (some ⟨b,off,none⟩) nr oc,.pointer (some ⟨w.heap.size,0,none⟩),undef,.map none,.pointer (some ⟨w.heap.size+1+1,0,none⟩),undef,.pointer (some ⟨wr.heap.size,0,none⟩),undef,.pointer (some ⟨Bx,0,none⟩),.map (some (w.heap.size+1)),.slice (some ⟨b,off,none⟩) nr oc,.int .i64 nr,.int .i64 k,.bool true,.pointer (some ⟨b,off+k*2,none⟩),.agg #[.int .i64 (qs k),.int .i64 (qb k)],.agg #[v0,v1,.int .i64 W.time,.int .i64 W.next,v2,v3],.agg #[.int .i64 (qs k),.int .i64 (qb k)],.func (.func 113) #[] #[.pointer (some ⟨W4.heap.size,0,none⟩),.pointer (some ⟨W4.heap.size+1,0,none⟩)],.agg #[.int .i64 x.1.1.1,.int .i64 x.1.1.2],.agg #[.int .i64 x.1.2.1,.int .i64 x.1.2.2],undef,undef,undef,undef,undef,undef,cB,undef],defers:=[]})
  (fun x a' _ X Y row hs hg hr=>by obtain⟨Bx,h1,h2,h3⟩:=hs;exact⟨Bx,h1,⟨zAn h2.1 hg hr,zAn h2.2 hg hr⟩,h3⟩)
  ?assign ?body ?done ?stop
 case assign=>
  rintro l bA x X K ⟨⟨⟨i1,i2⟩,nm,D,i3,i4,i5⟩,i6,i7⟩ hK;have ha:=zD X (.cells #[.int .i64 x.1.2.1,.int .i64 x.1.2.2] 44);have hy:=yG.new X (.int .i64 x.1.2.1) (.int .i64 x.1.2.2) 44;have HK:=zM (hK _ _ ((KeepsOthers.alloc _ _).from _) (yN.of_below ha i7.size) ⟨⟨⟨i1.zbd ha,i2.zbd ha⟩,nm,D,i3.kept (yK ha none) (by simp),i4,i5⟩,i6.zbd ha,zA i7 ha⟩ ⟨X.heap.size,by have:=i1.lt;omega,hy,rfl⟩);clear ha hy hK i1 i2 i3 i4 i5 i6 i7
  gi_wp2
  exact HK.out
 case body=>
  rintro l bA x a' X hl - ⟨⟨⟨i1,i2⟩,nm,D,i3,i4,i5⟩,i6,i7⟩ ⟨Bx,tC,lB,rfl⟩ kC;obtain⟨kl,iA⟩:=zO3 x.2.1 x.2.2.1;obtain⟨c,tA,fA,dC,eC⟩:=i5.2 _ _ kl iA;have gA:Below X.heap.size X X.drew:=(Below.refl _ X).drew;have dA:=i3.kept (yK gA none) (by simp);have bD:=zQU dA iA tA;obtain⟨ev,st,wa,wb,he,cD,oC,aA,fC,mB⟩:=zJT dA zWV zJW (by unfold maxLen;omega) zUI iA tA (val:=.int .i64 (IntKind.i64.wrap (c+1)));have aD:c<=10000:=(by omega);rw[zIN (n:=c+1) (by omega) (by omega)]at aA;have hg:=zC9 (yK gA (some (w.heap.size+1))) mB;have HI:=zM (show KeepsFrom w5.heap.size X wb/\yN w.heap.size w5.heap.size X wb/\((yT wb (w.heap.size+1+1) 0 (.map (some (w.heap.size+1)))/\zAb wb w.heap.size v0 v1 (.int .i64 W.time) (.int .i64 W.next) v2 v3)/\(∃nm D,wb.ownsMap Tryz.prog 44 zCz (w.heap.size+1) nm D/\nm<=73*k+(bA ++ [x]).length/\zIS (fun y=>zEN W qs qb k y\/y∈(bA ++ [x]).map (·.1.2)) (73*k+(bA ++ [x]).length) D))/\zBz (w.heap.size+3) B0 ds wb/\Below w.heap.size w wb from by
   refine⟨KeepsFrom.of_grownBy hg (fun j e=>by cases e;omega),zM2 hg (by omega) (by omega) i7.size,⟨⟨zRu i1 hg (by omega),i2.side hg (by omega)⟩,nm+1,_,aA,by rw[List.length_append];simp;omega,?_⟩,i6.kept (fun r h1 h2 h3=>(hg.block r (Array.getElem?_eq_some_iff.1 h3).1 (fun e=>by cases e;omega)).trans h3),i7.grown hg i7.size (fun j e=>by cases e;omega)⟩;refine(i5.more iA fA dC).iff (by rw[List.length_append];simp;omega) (fun y=>?_);rw[List.map_append,List.mem_append];simp[or_assoc])
  obtain⟨⟨y0,-⟩,⟨y1,-⟩⟩:=lB.zbd gA;obtain⟨c0,-⟩:=i1.zbd gA;clear aA fC mB hg dA i1 i2 i3 i5 i6 i7 tA eC iA lB gA jA;unfold goInt at he oC
  gi_wp2
  gi_region
  all_goals exact HI.out
 case done=>
  rintro Dd ys X hD vA ⟨⟨⟨i1,i2⟩,nm,D,i3,i4,i5⟩,i6,i7⟩ hK;have hv:ys.map (·.1.2)=zH W.pool (qs k) (qb k):=by
   rw[<-zOQ,<-vA,List.map_map];rfl
  have eD:ys.length<=73:=by
   have:=congrArg List.length vA;rw[List.length_map]at this;omega
  have vC:=(Array.getElem?_eq_some_iff.1 hK).1;have HR:=zM (show zau w v0 v1 v2 v3 W qs qb (k+1) ({target:=.collected Dd,args:=#[]} :: ds) X from⟨i1,i2,⟨nm,D,i3,by omega,i5.iff (by omega) (fun y=>by
   rw[hv];constructor
   ·rintro(⟨i,hi,hy⟩ | hy)
    ·exact⟨i,by omega,hy⟩
    ·exact⟨k,by omega,hy⟩
   ·rintro⟨i,hi,hy⟩;by_cases e:i=k
    ·subst e;exact Or.inr hy
    ·exact Or.inl ⟨i,by omega,hy⟩)⟩,⟨Dd+1,i6.more (by omega) (by omega) hK,by omega⟩,i7,by omega⟩)
  clear i1 i2 i3 i4 i5 i6 i7 hv vA
  gi_wp2
  exact⟨⟨_,_,_,_,_,_,_,_,_,k+1,by omega,HR.out,rfl⟩,by simp[intOf];omega⟩
 case stop=>
  rintro Dd c bA X _ _ h _;exact h.elim
def zK0(W:zB)(x:Int)(y:Int×Int):Prop:=y∈zH W.pool (zE W (zE W x).zbi).rs (zE W (zE W x).zbi).rb
open Classical in
noncomputable def zBY(W:zB)(x:Int):Nat:=if ql W then zA5 (zK0 W x) (zH W.pool (zE W x).rs (zE W x).rb)else 0
theorem zFJ{W:zB}{x:Int}(h:¬ql W):zBY W x=0:=if_neg h
theorem zDb{W:zB}{x:Int}(h:ql W):zBY W x=zA5 (zK0 W x) (zH W.pool (zE W x).rs (zE W x).rb):=if_pos h
theorem zKf{W:zB}{x:Int}(h:∀k,k<W.pn->(W.zbg k).id≠x):zBY W x=0:=by
 by_cases hS:ql W
 ·rw[zDb hS,zFx h];show zA5 _ (zH W.pool 0 0)=0;rw[zGS];rfl
 ·exact zFJ hS
theorem zLK{P Q:Int×Int->Prop}(h:∀x,P x↔Q x)(l:List (Int×Int)):zA5 P l=zA5 Q l:=by
 have:P=Q:=funext fun x=>propext (h x)
 rw[this]
noncomputable def zKd(W:zB)(x:Int):Nat->List (Int×Int)
 | 0=>[]
 | k+1=>if (W.zbg k).id=x then zKd W x k else zKd W x k ++ [((W.zbg k).rs,(W.zbg k).rb)]
noncomputable def zHl(W:zB)(x:Int):Nat->List (Int×Int)
 | 0=>zKd W x W.pn
 | k+1=>zHl W x k ++ [((W.zbh k).rs,(W.zbh k).rb)]
theorem zJd{W:zB}{x:Int}{k:Nat}(h:(W.zbg k).id=x):zKd W x (k+1)=zKd W x k:=if_pos h
theorem zIE{W:zB}{x:Int}{k:Nat}(h:¬(W.zbg k).id=x):zKd W x (k+1)=zKd W x k ++ [((W.zbg k).rs,(W.zbg k).rb)]:=if_neg h
theorem zJe{W:zB}{x:Int}{k:Nat}:zHl W x (k+1)=zHl W x k ++ [((W.zbh k).rs,(W.zbh k).rb)]:=rfl
theorem zMK(W:zB)(x:Int):∀k,(zKd W x k).length<=k
 | 0=>Nat.le_refl _
 | k+1=>by
  have:=zMK W x k;by_cases h:(W.zbg k).id=x
  ·rw[zJd h];omega
  ·rw[zIE h,List.length_append];simp;omega
theorem zML(W:zB)(x:Int):∀k,(zHl W x k).length<=W.pn+k
 | 0=>zMK W x W.pn
 | k+1=>by
  have:=zML W x k;rw[zJe,List.length_append];simp;omega
theorem zQ5{W:zB}{x:Int}{y:Int×Int}:∀k,y∈zKd W x k↔∃i,i<k/\(W.zbg i).id≠x/\y=((W.zbg i).rs,(W.zbg i).rb)
 | 0=>by simp[zKd]
 | k+1=>by
  have ih:=zQ5 (W:=W) (x:=x) (y:=y) k;by_cases h:(W.zbg k).id=x
  ·rw[zJd h,ih];constructor
   ·rintro⟨i,hi,h1,h2⟩;exact⟨i,by omega,h1,h2⟩
   ·rintro⟨i,hi,h1,h2⟩;by_cases e:i=k
    ·subst e;exact absurd h h1
    ·exact⟨i,by omega,h1,h2⟩
  ·rw[zIE h,List.mem_append,ih,List.mem_singleton];constructor
   ·rintro(⟨i,hi,h1,h2⟩ | h2)
    ·exact⟨i,by omega,h1,h2⟩
    ·exact⟨k,by omega,h,h2⟩
   ·rintro⟨i,hi,h1,h2⟩;by_cases e:i=k
    ·subst e;exact Or.inr h2
    ·exact Or.inl ⟨i,by omega,h1,h2⟩
theorem zMM{W:zB}{x:Int}{y:Int×Int}:∀k,y∈zHl W x k↔(∃i,i<W.pn/\(W.zbg i).id≠x/\y=((W.zbg i).rs,(W.zbg i).rb))\/∃i,i<k/\y=((W.zbh i).rs,(W.zbh i).rb)
 | 0=>by
  rw[show zHl W x 0=zKd W x W.pn from rfl,zQ5];constructor
  ·exact Or.inl
  ·rintro(h | ⟨i,hi,_⟩)
   ·exact h
   ·exact absurd hi (Nat.not_lt_zero _)
 | k+1=>by
  rw[zJe,List.mem_append,zMM k,List.mem_singleton];constructor
  ·rintro((h | ⟨i,hi,h2⟩) | h)
   ·exact Or.inl h
   ·exact Or.inr ⟨i,by omega,h2⟩
   ·exact Or.inr ⟨k,by omega,h⟩
  ·rintro(h | ⟨i,hi,h2⟩)
   ·exact Or.inl (Or.inl h)
   ·by_cases e:i=k
    ·subst e;exact Or.inr h2
    ·exact Or.inl (Or.inr ⟨i,by omega,h2⟩)
theorem zMN(v0 v1 v2 v3:Value)(lo hi:Nat)(W:zB)(x:Int)(w:World)(h:ye w lo hi v0 v1 v2 v3 W)(sB:W.sn<=8)(rB:W.pn<=20) :
  Calls Tryz.prog 55 #[zAY v0 v1 v2 v3 W,.int .i64 x] w fun e w'=>∃v,e = .returned v/\zBS w' (w.heap.size+1) v (zHl W x W.sn)/\Below w.heap.size w w':=by
 have Hp:=zC h;obtain⟨m1,a,c,rfl,mc,_⟩:=id h.zbg;obtain⟨m2,a',c',rfl,tB,_⟩:=id h.zbh;clear h;obtain⟨i0,kB,iB⟩:=Option.map_eq_some_iff.1 zIo;simp only[Prod.mk.injEq]at iB;have HI:=zC (And.intro kB iB);clear kB iB m1 m2;have nB:(W.sn:Int)<=8:=by omega
 have mB:(W.pn:Int)<=20:=by omega
 have ha:=zD w (.cells #[v0,v1,.int .i64 W.time,.int .i64 W.next,.slice a' W.sn c',.slice a W.pn c] 30);have pA:=zC (zAb.new w v0 v1 (.int .i64 W.time) (.int .i64 W.next) (.slice a' W.sn c') (.slice a W.pn c) 30);obtain⟨x0,x2,x4,x6,x8,jB⟩:=pA.out.c;go_enter Tryz.func55,Tryz.ntmps55;go_wp2;clear x0 x2 x4 x6 x8 jB;generalize w.alloc (.cells #[v0,v1,.int .i64 W.time,.int .i64 W.next,.slice a' W.sn c',.slice a W.pn c] 30)=W0 at ha pA ⊢
 go_loopw [5,13] (fun vr i wr=>∃k:Nat,k<=W.pn/\i = .int .i64 k/\zBS wr (w.heap.size+1) vr (zKd W x k)/\zAb wr w.heap.size v0 v1 (.int .i64 W.time) (.int .i64 W.next) (.slice a' W.sn c') (.slice a W.pn c)/\Below w.heap.size w wr) (fun _ i _=>W.pn - (intOf i).toNat)
 case atStart=>exact⟨0,Nat.zero_le _,rfl,zBS.nil _ _,pA.out,ha⟩
 case round=>
  clear pA ha;obtain⟨k,hk,rfl,gA,hX,hb⟩:=hrel;have cA:=zC gA;have HX:=zC hX;clear gA hX;by_cases cB:k<W.pn;rotate_left
  ·obtain rfl:k=W.pn:=(by omega);obtain⟨x0,x2,x4,x6,x8,jB⟩:=HX.out.c;go_wp2;clear x0 x2 x4 x6 x8 jB
   go_loopw [5,30] (fun vr i wr=>∃k:Nat,k<=W.sn/\i = .int .i64 k/\zBS wr (w.heap.size+1) vr (zHl W x k)/\zAb wr w.heap.size v0 v1 (.int .i64 W.time) (.int .i64 W.next) (.slice a' W.sn c') (.slice a W.pn c)/\Below w.heap.size w wr) (fun _ i _=>W.sn - (intOf i).toNat)
   case atStart=>exact⟨0,Nat.zero_le _,rfl,cA.out,HX.out,hb⟩
   case round=>
    clear cA HX hb;obtain⟨k,hk,rfl,gA,hX,hb⟩:=hrel;have cA:=zC gA;have HX:=zC hX;clear gA hX;by_cases cB:k<W.sn;rotate_left
    ·obtain rfl:k=W.sn:=(by omega);go_wp2;go_ret;exact⟨_,rfl,cA.out,hb⟩
    have eB:(k:Int)<(W.sn:Int):=(by omega);obtain⟨b,off,vd,rfl,bA⟩:=(Hp.out.zbh.zbd hb).cells cB;obtain⟨-,ad,cd,rfl,-,-⟩:=id bA.dead;have q0:=bA.c0;have q1:=bA.c1;have q2:=bA.c2;have q3:=bA.c3;have q4:=bA.c4;have q5:=bA.c5;clear bA;have jA:=zD wr (.cells #[.string (W.zbh k).name,.int .i64 (W.zbh k).origin,.int .i64 (W.zbh k).zbi,.int .i64 (W.zbh k).rs,.int .i64 (W.zbh k).rb,.slice ad (W.zbh k).dn cd] 46);have HV:=zC (zAb.new wr (.string (W.zbh k).name) (.int .i64 (W.zbh k).origin) (.int .i64 (W.zbh k).zbi) (.int .i64 (W.zbh k).rs) (.int .i64 (W.zbh k).rb) (.slice ad (W.zbh k).dn cd) 46);have oA:(wr.alloc (.cells #[.string (W.zbh k).name,.int .i64 (W.zbh k).origin,.int .i64 (W.zbh k).zbi,.int .i64 (W.zbh k).rs,.int .i64 (W.zbh k).rb,.slice ad (W.zbh k).dn cd] 46)).heap.size=wr.heap.size+1:=World.size_alloc _ _;have iA:=zD (wr.alloc (.cells #[.string (W.zbh k).name,.int .i64 (W.zbh k).origin,.int .i64 (W.zbh k).zbi,.int .i64 (W.zbh k).rs,.int .i64 (W.zbh k).rb,.slice ad (W.zbh k).dn cd] 46)) (.cells #[.int .i64 (W.zbh k).rs,.int .i64 (W.zbh k).rb] 44);have sA:=zA hb jA;have lA:=zA sA iA;have eA:=zC (cA.out.zbd jA);have rA:=zC (HX.out.zbd jA);have dA:=zC (eA.out.zbd iA);have tA:=zC (rA.out.zbd iA);have kA:=World.news_of_block (heap_alloc_last (wr.alloc (.cells #[.string (W.zbh k).name,.int .i64 (W.zbh k).origin,.int .i64 (W.zbh k).zbi,.int .i64 (W.zbh k).rs,.int .i64 (W.zbh k).rb,.slice ad (W.zbh k).dn cd] 46)) (.cells #[.int .i64 (W.zbh k).rs,.int .i64 (W.zbh k).rb] 44));rw[oA]at kA;have HN:=zC kA;have oB:((wr.alloc (.cells #[.string (W.zbh k).name,.int .i64 (W.zbh k).origin,.int .i64 (W.zbh k).zbi,.int .i64 (W.zbh k).rs,.int .i64 (W.zbh k).rb,.slice ad (W.zbh k).dn cd] 46)).alloc (.cells #[.int .i64 (W.zbh k).rs,.int .i64 (W.zbh k).rb] 44)).heap.size=wr.heap.size+2:=(by rw[World.size_alloc,oA]);have bB:=zML W x k;have pB:=zO HX.out.1.1;obtain⟨y0,y1,y2,y3,y4,y5⟩:=HV.out.c;clear kA jA iA cA HX;go_wp2_with (first
      | (at_builtin;refine wpList_append_lies _ rfl _ _ 41 rfl (w.heap.size+1) 44 i0 (.agg #[.int .i64 0,.int .i64 0]) 2 16 (by kernel_rfl) HI.out.1 HI.out.2.1 HI.out.2.2.1 HI.out.2.2.2 rfl (by decide) _ _ _ rfl dA.out ⟨wr.heap.size+1,0,none⟩ 1 1 [.int .i64 (W.zbh k).rs,.int .i64 (W.zbh k).rb] rfl rfl HN.out (by simp[Value.oneCell']) (by decide) (by unfold maxLen;omega) (by omega) (by omega) _ rfl ?_;intro g' vA w8 fA aA aB fB)
      | go_in)
    go_roundw
    case rel=>
     have nA:∀q,Value.ownBlock _=some q->w.heap.size+1<=q:=fun q hq=>(dA.out.lt hq).1
     refine⟨k+1,by omega,by go_num,?_,tA.out.grown aA (fun q hq=>by have:=nA q hq;omega),lA.grown aA lA.size (fun q hq=>by have:=nA q hq;omega)⟩;rw[zJe];exact zBS.next fA
    case measure=>simp[intOf];omega
  have eB:(k:Int)<(W.pn:Int):=(by omega);obtain⟨b,off,vd,rfl,bA⟩:=(Hp.out.zbg.zbd hb).cells cB;obtain⟨-,ad,cd,rfl,-,-⟩:=id bA.dead;have q0:=bA.c0;have q1:=bA.c1;have q2:=bA.c2;have q3:=bA.c3;have q4:=bA.c4;have q5:=bA.c5;have q6:=bA.c6;have q7:=bA.c7;clear bA;have jA:=zD wr (.cells #[.int .i64 (W.zbg k).id,.string (W.zbg k).name,.string (W.zbg k).set,.int .i64 (W.zbg k).zbi,.int .i64 (W.zbg k).time,.int .i64 (W.zbg k).rs,.int .i64 (W.zbg k).rb,.slice ad (W.zbg k).dn cd] 50);have HV:=zC (zFL.new wr (.int .i64 (W.zbg k).id) (.string (W.zbg k).name) (.string (W.zbg k).set) (.int .i64 (W.zbg k).zbi) (.int .i64 (W.zbg k).time) (.int .i64 (W.zbg k).rs) (.int .i64 (W.zbg k).rb) (.slice ad (W.zbg k).dn cd) 50);have oA:(wr.alloc (.cells #[.int .i64 (W.zbg k).id,.string (W.zbg k).name,.string (W.zbg k).set,.int .i64 (W.zbg k).zbi,.int .i64 (W.zbg k).time,.int .i64 (W.zbg k).rs,.int .i64 (W.zbg k).rb,.slice ad (W.zbg k).dn cd] 50)).heap.size=wr.heap.size+1:=World.size_alloc _ _;have iA:=zD (wr.alloc (.cells #[.int .i64 (W.zbg k).id,.string (W.zbg k).name,.string (W.zbg k).set,.int .i64 (W.zbg k).zbi,.int .i64 (W.zbg k).time,.int .i64 (W.zbg k).rs,.int .i64 (W.zbg k).rb,.slice ad (W.zbg k).dn cd] 50)) (.cells #[.int .i64 (W.zbg k).rs,.int .i64 (W.zbg k).rb] 44);have sA:=zA hb jA;have lA:=zA sA iA;have eA:=zC (cA.out.zbd jA);have rA:=zC (HX.out.zbd jA);have dA:=zC (eA.out.zbd iA);have tA:=zC (rA.out.zbd iA);have kA:=World.news_of_block (heap_alloc_last (wr.alloc (.cells #[.int .i64 (W.zbg k).id,.string (W.zbg k).name,.string (W.zbg k).set,.int .i64 (W.zbg k).zbi,.int .i64 (W.zbg k).time,.int .i64 (W.zbg k).rs,.int .i64 (W.zbg k).rb,.slice ad (W.zbg k).dn cd] 50)) (.cells #[.int .i64 (W.zbg k).rs,.int .i64 (W.zbg k).rb] 44));rw[oA]at kA;have HN:=zC kA;have oB:((wr.alloc (.cells #[.int .i64 (W.zbg k).id,.string (W.zbg k).name,.string (W.zbg k).set,.int .i64 (W.zbg k).zbi,.int .i64 (W.zbg k).time,.int .i64 (W.zbg k).rs,.int .i64 (W.zbg k).rb,.slice ad (W.zbg k).dn cd] 50)).alloc (.cells #[.int .i64 (W.zbg k).rs,.int .i64 (W.zbg k).rb] 44)).heap.size=wr.heap.size+2:=(by rw[World.size_alloc,oA]);have bB:=zMK W x k;have pB:=zO HX.out.1.1;obtain⟨⟨⟨y0,-⟩,⟨y1,-⟩,⟨y2,-⟩,⟨y3,-⟩⟩,⟨y4,-⟩,⟨y5,-⟩,⟨y6,-⟩,⟨y7,-⟩⟩:=HV.out;clear kA jA iA cA HX;by_cases mA:(W.zbg k).id=x
  ·have gB:((W.zbg k).id != x)=false:=(by simp[mA]);have lB:=zC mA;clear mA;go_wp2;go_roundw
   case rel=>exact⟨k+1,by omega,by go_num,by rw[zJd lB.out];exact eA.out,rA.out,sA⟩
   case measure=>simp[intOf];omega
  ·have gB:((W.zbg k).id != x)=true:=(by simp[mA]);go_wp2_with (first
     | (at_builtin;refine wpList_append_lies _ rfl _ _ 41 rfl (w.heap.size+1) 44 i0 (.agg #[.int .i64 0,.int .i64 0]) 2 16 (by kernel_rfl) HI.out.1 HI.out.2.1 HI.out.2.2.1 HI.out.2.2.2 rfl (by decide) _ _ _ rfl dA.out ⟨wr.heap.size+1,0,none⟩ 1 1 [.int .i64 (W.zbg k).rs,.int .i64 (W.zbg k).rb] rfl rfl HN.out (by simp[Value.oneCell']) (by decide) (by unfold maxLen;omega) (by omega) (by omega) _ rfl ?_;intro g' vA w8 fA aA aB fB)
     | go_in)
   go_roundw
   case rel=>
    have nA:∀q,Value.ownBlock _=some q->w.heap.size+1<=q:=fun q hq=>(dA.out.lt hq).1
    refine⟨k+1,by omega,by go_num,?_,tA.out.grown aA (fun q hq=>by have:=nA q hq;omega),lA.grown aA lA.size (fun q hq=>by have:=nA q hq;omega)⟩;rw[zIE mA];exact zBS.next fA
   case measure=>simp[intOf];omega
theorem zR7(v:Value)(s:yY)(w:World):(Instr.field 50 (zCX v s) 3).run Tryz.prog w = .ok (.int .i64 s.zbi) w:=by kernel_rfl
theorem zVx(a b:Int)(w:World):(Instr.buildSlice 41 1 #[(0,.agg #[.int .i64 a,.int .i64 b])]).run Tryz.prog w = .ok (.slice (some ⟨w.heap.size,0,none⟩) 1 1) (w.alloc (.cells #[.int .i64 a,.int .i64 b] 44)):=by kernel_rfl
theorem zac(a b:Int)(w:World):qk (w.alloc (.cells #[.int .i64 a,.int .i64 b] 44)) 0 (w.heap.size+1) (.slice (some ⟨w.heap.size,0,none⟩) 1 1) 1 (fun _=>a) (fun _=>b):=by
  have h:=yG.new w (.int .i64 a) (.int .i64 b) 44;refine⟨by unfold maxLen;omega,_,_,rfl,Nat.le_refl _,fun _=>⟨_,_,rfl,Nat.zero_le _,by omega,fun i hi=>?_⟩⟩;obtain rfl:i=0:=(by omega);exact⟨h.1.1,h.2.1⟩
theorem zKS{W:zB}(h:zDN W)(x:Int):(Lit.int .i64 (zE W x).zbi).wf=true:=by
  by_cases hx:∃k,zAl W x k
  · obtain⟨k,hk⟩:=hx
    rw[zAc hk];have:=h k (by unfold zj;have:=hk.1;omega);rw[qq hk.1]at this;exact this
  · have e:zE W x=zAL:=by unfold zE;rw[dif_neg hx]
    rw[e];rfl
theorem zKX(v0 v1 v2 v3:Value)(lo hi:Nat)(W:zB)(x:Int)(w:World)(h:ye w lo hi v0 v1 v2 v3 W)(hh:hi<=w.heap.size)(pA:zDN W)(hx:(Lit.int .i64 x).wf=true):Calls Tryz.prog 14 #[zAY v0 v1 v2 v3 W,.int .i64 x] w fun e w'=>e = .returned (.int .i64 (zBY W x))/\Below w.heap.size w w':=by
  have Hp:=zC h;have oA:=zC pA;have Hx:=zC hx;clear h pA hx;have iA:=zD w (.cells #[v0,v1,.int .i64 W.time,.int .i64 W.next,v2,v3] 30);have HX:=zC (zAb.new w v0 v1 (.int .i64 W.time) (.int .i64 W.next) v2 v3 30);obtain⟨x0,x1,x2,x3,x4,x5⟩:=HX.out.c;go_enter Tryz.func14,Tryz.ntmps14;go_wp2_with fail;generalize w.alloc (.cells #[v0,v1,.int .i64 W.time,.int .i64 W.next,v2,v3] 30)=W0 at HX iA x0 x1 x2 x3 x4 x5 ⊢;refine(zA6 v0 v1 v2 v3 lo hi W W0 (Hp.out.zbd iA) oA.out).mono ?_;rintro e w1 ⟨⟨t,rfl,ht⟩,lA⟩;have Ht:=zC (ht.trans (zCv W));have gA:=zA iA lA;have jA:=zC (HX.out.zbd lA);clear x0 x1 x2 x3 x4 x5 lA iA HX ht;cases t
  · have HA:=zC (show zBY W x=0 from zFJ (fun h=>absurd (Ht.out.2 h) (by simp)))
    go_wp2;go_ret;exact⟨by rw[HA.out];rfl,gA⟩
  · have HW:=zC (Ht.out.1 rfl)
    have HI:=zC ((zCv W).2 HW.out).zbj;have HT:=zC (show ∀y,zW W.pool (zE W y).rs (zE W y).rb from zHB HW.out.zbg);obtain⟨x0,x1,x2,x3,x4,x5⟩:=jA.out.c;go_wp2_with fail;refine(zJu v0 v1 v2 v3 lo hi W w1 (Hp.out.zbd gA) HW.out.zbj.2.2.2.1 HI.out.idsWf).mono ?_;rintro e w2 ⟨A,rfl,hA,mA⟩;have HA:=zC hA;have kA:=zA gA mA;have dA:=zC (jA.out.zbd mA);have HQ:=zC (show(Lit.int .i64 (zE W x).zbi).wf=true from zKS oA.out x);clear x0 x1 x2 x3 x4 x5 hA mA gA jA;have eB:=zH6;have fB:=zR7;have cB:=zVx;obtain⟨x0,x1,x2,x3,x4,x5⟩:=dA.out.c;go_wp2_with fail;go_region_held3 (fun w'=>w'.cell? ⟨w.heap.size,0,none⟩=some v0/\w'.cell? ⟨w.heap.size,1,none⟩=some v1/\w'.cell? ⟨w.heap.size,2,none⟩=some (.int .i64 W.time)/\w'.cell? ⟨w.heap.size,3,none⟩=some (.int .i64 W.next)/\w'.cell? ⟨w.heap.size,4,none⟩=some v2/\w'.cell? ⟨w.heap.size,5,none⟩=some v3) (go_keep)
      (first
        | (go_at_call 66;refine(zCq lo hi W A x _ (HA.out.zbd (Below.refl _ _).drew) HI.out.dist Hx.out HW.out.zbj.2.2.2.1).mono ?_;rintro e w3 ⟨a3,c3,rfl,-,tA⟩;have aA:=qW tA;obtain⟨z0,z1,z2,z3,z4,z5⟩:=(dA.out.zbd aA).c)
        | (go_at_call 66;refine(zCq lo hi W A x _ (HA.out.zbd aA) HI.out.dist Hx.out HW.out.zbj.2.2.2.1).mono ?_;rintro e w4 ⟨a4,c4,rfl,-,vA⟩;have bA:=zA aA vA;obtain⟨k0,k1,k2,k3,k4,k5⟩:=(dA.out.zbd bA).c)
        | (go_at_call 66;refine(zCq lo hi W A (zE W x).zbi _ (HA.out.zbd bA) HI.out.dist HQ.out HW.out.zbj.2.2.2.1).mono ?_;rintro e w5 ⟨a5,c5,rfl,-,aB⟩;have eA:=zA bA aB;obtain⟨l0,l1,l2,l3,l4,l5⟩:=(dA.out.zbd eA).c)
        | (go_at_call 45
           have sA:=zD w5 (.cells #[.int .i64 (zE W (zE W x).zbi).rs,.int .i64 (zE W (zE W x).zbi).rb] 44);have cA:=zA eA sA;have nA:=(Hp.out.zbd kA).zbd cA;have rA:hi<=(w5.alloc (.cells #[.int .i64 (zE W (zE W x).zbi).rs,.int .i64 (zE W (zE W x).zbi).rb] 44)).heap.size:=(by have:=cA.size;have:=kA.size;omega);refine(zF2 v0 v1 v2 v3 lo hi W _ _ _ (zEN W (fun _=>(zE W (zE W x).zbi).rs) (fun _=>(zE W (zE W x).zbi).rb) 1) _ nA rA HW.out.right (HT.out x) (fun w' hb=>zMm v0 v1 v2 v3 lo hi W _ 1 1 (fun _=>(zE W (zE W x).zbi).rs) (fun _=>(zE W (zE W x).zbi).rb) 0 (w5.heap.size+1) w' (nA.zbd hb) (Nat.le_trans rA hb.size) HW.out.right ((zac _ _ w5).zbd hb) (by omega) (fun _ _=>HT.out _))).mono ?_;rintro e w6 ⟨rfl,bB⟩;have fA:=zA cA bB;obtain⟨m0,m1,m2,m3,m4,m5⟩:=(dA.out.zbd fA).c))
    go_wp2;go_ret;refine⟨?_,zA kA fA⟩;rw[zDb HW.out,zLK (P:=zK0 W x) (Q:=zEN W (fun _=>(zE W (zE W x).zbi).rs) (fun _=>(zE W (zE W x).zbi).rb) 1) (fun y=>⟨fun h=>⟨0,by omega,h⟩,fun ⟨_,_,h⟩=>h⟩)];rfl
def zRg(W:zB)(x:Int)(y:Int×Int):Prop:=∃r,r∈zHl W x W.sn/\y∈zH W.pool r.1 r.2
open Classical in
noncomputable def zEe(W:zB)(x:Int):Nat:=if ql W then zA5 (zRg W x) (zH W.pool (zE W x).rs (zE W x).rb)else 0
theorem zJv{W:zB}{x:Int}(h:¬ql W):zEe W x=0:=if_neg h
theorem zIb{W:zB}{x:Int}(h:ql W):zEe W x=zA5 (zRg W x) (zH W.pool (zE W x).rs (zE W x).rb):=if_pos h
theorem zPW{W:zB}{l:List (Int×Int)}{y:Int×Int}:zEN W (zi l) (zu l) l.length y↔∃r,r∈l/\y∈zH W.pool r.1 r.2:=by
  constructor
  · rintro⟨i,hi,h⟩
    exact⟨(zi l i,zu l i),zC3.1 ⟨i,hi,rfl,rfl⟩,h⟩
  · rintro⟨⟨a,b⟩,hr,h⟩
    obtain⟨i,hi,e1,e2⟩:=zC3.2 hr;exact⟨i,hi,by rw[e1,e2];exact h⟩
theorem zad{W:zB}(h:ql W){x:Int}{r:Int×Int}(hr:r∈zHl W x W.sn):zW W.pool r.1 r.2:=by
  rcases(zMM W.sn).1 hr with⟨i,hi,-,rfl⟩ | ⟨i,hi,rfl⟩
  · exact h.zbg i hi
  · exact(h.zbh i hi).1
theorem zM0(v0 v1 v2 v3:Value)(lo hi:Nat)(W:zB)(x:Int)(w:World)(h:ye w lo hi v0 v1 v2 v3 W)(hh:hi<=w.heap.size)(nA:zDN W)(hx:(Lit.int .i64 x).wf=true):Calls Tryz.prog 16 #[zAY v0 v1 v2 v3 W,.int .i64 x] w fun e w'=>e = .returned (.int .i64 (zEe W x))/\Below w.heap.size w w':=by
  have Hp:=zC h;have sA:=zC nA;have Hx:=zC hx;clear h nA hx;have fA:=zD w (.cells #[v0,v1,.int .i64 W.time,.int .i64 W.next,v2,v3] 30);have HX:=zC (zAb.new w v0 v1 (.int .i64 W.time) (.int .i64 W.next) v2 v3 30);obtain⟨x0,x1,x2,x3,x4,x5⟩:=HX.out.c;go_enter Tryz.func16,Tryz.ntmps16;go_wp2_with fail;generalize w.alloc (.cells #[v0,v1,.int .i64 W.time,.int .i64 W.next,v2,v3] 30)=W0 at HX fA x0 x1 x2 x3 x4 x5 ⊢;refine(zA6 v0 v1 v2 v3 lo hi W W0 (Hp.out.zbd fA) sA.out).mono ?_;rintro e w1 ⟨⟨t,rfl,ht⟩,gA⟩;have Ht:=zC (ht.trans (zCv W));have cA:=zA fA gA;have eA:=zC (HX.out.zbd gA);clear x0 x1 x2 x3 x4 x5 gA fA HX ht;cases t
  · have HA:=zC (show zEe W x=0 from zJv (fun h=>absurd (Ht.out.2 h) (by simp)))
    go_wp2;go_ret;exact⟨by rw[HA.out];rfl,cA⟩
  · have HW:=zC (Ht.out.1 rfl)
    have HI:=zC ((zCv W).2 HW.out).zbj;have HT:=zC (show ∀y,zW W.pool (zE W y).rs (zE W y).rb from zHB HW.out.zbg);have gB:=zML W x W.sn;have cB:=HW.out.zbj.2.2.1;have lA:=HW.out.zbj.2.2.2.1;have eB:=zH6;obtain⟨x0,x1,x2,x3,x4,x5⟩:=eA.out.c;go_wp2_with fail;go_region_held3 (fun w'=>w'.cell? ⟨w.heap.size,0,none⟩=some v0/\w'.cell? ⟨w.heap.size,1,none⟩=some v1/\w'.cell? ⟨w.heap.size,2,none⟩=some (.int .i64 W.time)/\w'.cell? ⟨w.heap.size,3,none⟩=some (.int .i64 W.next)/\w'.cell? ⟨w.heap.size,4,none⟩=some v2/\w'.cell? ⟨w.heap.size,5,none⟩=some v3) (go_keep)
      (first
        | (go_at_call 51;refine(zD1 v0 v1 v2 v3 lo hi W _ ((Hp.out.zbd cA).zbd (Below.refl _ _).drew) lA HI.out.idsWf).mono ?_;rintro e w2 ⟨vd,rfl,hm,hd,tA⟩;have bA:=qW tA;obtain⟨a,c,jA,hp⟩:=zEr HI.out.dist hd x;have fB:=zHd (M:=w1.heap.size+1) hm Hx.out jA;have rA:=zC hm;have pA:=zC jA;obtain⟨z0,z1,z2,z3,z4,z5⟩:=(eA.out.zbd bA).c)
        | (go_at_call 55;refine(zMN v0 v1 v2 v3 lo hi W x _ ((Hp.out.zbd cA).zbd bA) cB lA).mono ?_;rintro e w3 ⟨vo,rfl,mA,kA⟩;have aA:=zA bA kA;have bB:=mA.atW (by omega);obtain⟨ao,co,rfl,-⟩:=qo mA;have aB:=zHd (M:=w1.heap.size+1) (rA.out.zbd kA) Hx.out pA.out;obtain⟨k0,k1,k2,k3,k4,k5⟩:=(eA.out.zbd aA).c)
        | (go_at_call 45
           have iA:=(Hp.out.zbd cA).zbd aA;have oA:hi<=w3.heap.size:=(by have:=aA.size;have:=cA.size;omega);refine(zF2 v0 v1 v2 v3 lo hi W _ _ _ (zEN W (zi (zHl W x W.sn)) (zu (zHl W x W.sn)) (zHl W x W.sn).length) _ iA oA HW.out.right (HT.out x) (fun w' hb=>zMm v0 v1 v2 v3 lo hi W _ _ _ _ _ 0 w3.heap.size w' (iA.zbd hb) (Nat.le_trans oA hb.size) HW.out.right (bB.zbd hb) (by omega) (fun i hi=>zad HW.out (zC3.1 ⟨i,hi,rfl,rfl⟩)))).mono ?_;rintro e w4 ⟨rfl,vA⟩;have dA:=zA aA vA;obtain⟨m0,m1,m2,m3,m4,m5⟩:=(eA.out.zbd dA).c))
    all_goals
      go_wp2;go_ret;refine⟨?_,zA cA dA⟩;rw[zIb HW.out,zLK (P:=zRg W x) (Q:=zEN W (zi (zHl W x W.sn)) (zu (zHl W x W.sn)) (zHl W x W.sn).length) (fun y=>zPW.symm)];rfl
theorem zNJ(p:zF)(a b c d:Int):∀n,(zBk p a b c d n).Pairwise (· < ·)/\∀x,x∈zBk p a b c d n->x<n
 | 0=>⟨.nil,fun x h=>by cases h⟩
 | n+1=>by
  obtain⟨h1,h2⟩:=zNJ p a b c d n;by_cases h:zCd p a b c d n
  ·rw[zC8 h];refine⟨List.pairwise_append.2 ⟨h1,List.pairwise_singleton _ _,fun x hx y hy=>?_⟩,fun x hx=>?_⟩
   ·obtain rfl:=List.mem_singleton.1 hy;exact h2 x hx
   ·rcases List.mem_append.1 hx with hx | hx
    ·have:=h2 x hx;omega
    ·obtain rfl:=List.mem_singleton.1 hx;omega
  ·rw[zDD h];exact⟨h1,fun x hx=>by have:=h2 x hx;omega⟩
theorem zGm(p:zF)(a b c d:Int):∀n,zBk p a b c d n=zBk p c d a b n
 | 0=>rfl
 | n+1=>by
  have e:zCd p a b c d n↔zCd p c d a b n:=(by unfold zCd;rw[eq_comm,eq_comm (a:=zCm p a b n)]);by_cases h:zCd p a b c d n
  ·rw[zC8 h,zC8 (e.1 h),zGm p a b c d n]
  ·rw[zDD h,zDD (fun g=>h (e.2 g)),zGm p a b c d n]
theorem zQ8(W:zB)(x:ByteArray){i:Nat}(hi:i+1<(zBJ W x).length):(zBJ W x).getD i 0<(zBJ W x).getD (i+1) 0:=by
 have h:(zBJ W x).Pairwise (· < ·):=by
  by_cases hS:ql W
  ·rw[zDZ hS];exact(zNJ _ _ _ _ _ _).1
  ·rw[zE6 hS];exact .nil
 have:=List.pairwise_iff_getElem.1 h i (i+1) (by omega) hi (by omega);rw[List.getD_eq_getElem?_getD,List.getD_eq_getElem?_getD,List.getElem?_eq_getElem hi,List.getElem?_eq_getElem (show i<_ by omega)];exact this
theorem zKU(W:zB)(x y:Int):ym W x y=ym W y x:=by
 by_cases h:ql W/\zAC W x/\zAC W y
 ·rw[zB2 h,zB2 ⟨h.1,h.2.2,h.2.1⟩,zGm]
 ·rw[zBe h,zBe fun g=>h ⟨g.1,g.2.2,g.2.1⟩]
theorem zKT(W:zB)(x:Int):ym W x x = []:=by
 by_cases h:ql W/\zAC W x/\zAC W x
 ·rw[zB2 h,zGl]
 ·rw[zBe h]
theorem zQF{P Q:Int×Int->Prop}{l:List (Int×Int)}(h:∀x,P x->Q x):zA5 Q l<=zA5 P l:=by
 unfold zA5;rw[<-List.countP_eq_length_filter,<-List.countP_eq_length_filter];refine List.countP_mono_left fun x _ hx=>?_
 simp only[decide_eq_true_eq]at hx ⊢;exact fun g=>hx (h x g)
theorem zVs(W:zB)(x:Int):zEe W x<=zBY W x:=by
 by_cases hS:ql W;rotate_left
 ·rw[zJv hS];exact Nat.zero_le _
 rw[zIb hS,zDb hS];by_cases hx:∃k,zAl W x k;rotate_left
 ·have:zE W x=zAL:=dif_neg hx;rw[this];show zA5 _ (zH W.pool 0 0)<=_;rw[zGS];exact Nat.zero_le _
 obtain⟨k,hk⟩:=hx;refine zQF fun y hy=>?_
 unfold zK0 at hy;by_cases hp:∃j,zAl W (zE W x).zbi j
 ·obtain⟨j,hj⟩:=hp;rw[zAc hj]at hy;have aA:¬(W.zbg j).id=x:=by
   have h1:=hS.zbj.zbf.less k hk.1;have h2:=hj.2.1;rw[zAc hk]at h2;have h3:=hk.2.1;omega
  exact⟨_,(zMM W.sn).2 (.inl ⟨j,hj.1,aA,rfl⟩),hy⟩
 ·have:zE W (zE W x).zbi=zAL:=dif_neg hp;rw[this]at hy;have:y∈zH W.pool 0 0:=hy;rw[zGS]at this;cases this
def InW(W:zB)(i:Nat):Prop:=(∃j,j<W.sn/\((i:Int),(W.pool.s i).birth)∈zH W.pool (W.zbh j).rs (W.zbh j).rb)\/∃j,j<W.pn/\((i:Int),(W.pool.s i).birth)∈zH W.pool (W.zbg j).rs (W.zbg j).rb
theorem zYY{W:zB}(h:ql W){i:Nat}(hi:i<W.pool.n):InW W i↔(¬yZ (W.pool.s i)/\¬Has W.pool.hn W.pool.h i):=by
 rw[<-h.reach i hi];constructor
 ·rintro(⟨j,hj,hm⟩ | ⟨j,hj,hm⟩)
  ·exact⟨W.pn+j,by unfold zj;omega,_,by rw[zAi];exact hm⟩
  ·exact⟨j,by unfold zj;omega,_,by rw[qq hj];exact hm⟩
 ·rintro⟨m,hm,b,hb⟩;have hT:=(zJB h.right h.zbj h.zbg fun j hj=>(h.zbh j hj).1).tree m hm;have hp:=(zB6 h.right hT hb).1;obtain rfl:(W.pool.s i).birth=b:=(by have:=hp.2.2.2;rwa [Int.toNat_natCast]at this);by_cases hs:m<W.pn
  ·rw[qq hs]at hb;exact .inr ⟨m,hs,hb⟩
  ·have e:=zAi W (m - W.pn);rw[show W.pn+(m - W.pn)=m by omega]at e;rw[e]at hb;exact .inl ⟨m - W.pn,by unfold zj at hm;omega,hb⟩
theorem zVS{W:zB}(h:ql W):zGZ W.pool+(W.pool.hn:Int)+(cnt (InW W) W.pool.n:Int)=W.pool.n:=by
 have h1:=zLO h.right;rw[zDm (P:=fun i=>¬yZ (W.pool.s i)/\¬Has W.pool.hn W.pool.h i) (Q:=InW W) (fun i hi=>(zYY h hi).symm)]at h1;have h2:zGZ W.pool=(roomN W.pool.s W.pool.n:Int):=if_pos h.right;omega
end Go.Proofs.YtginldeebkfbgaaGreat
