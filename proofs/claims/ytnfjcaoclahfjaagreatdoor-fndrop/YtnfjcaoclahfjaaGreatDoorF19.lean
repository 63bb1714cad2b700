/- A part of the proof. -/
import Derived.IntWalk
import Derived.Test.YtnfjcaoclahfjaaGreatDoorF18
set_option linter.unusedVariables false
set_option maxRecDepth 20000
set_option maxHeartbeats 4000000
namespace Go.Proofs.YtnfjcaoclahfjaaGreatDoor
open Go.RowKit Go.Maps
theorem zb(p:A7):AE p 0 0 = []:=by
 unfold AE;exact if_pos ⟨rfl,rfl⟩
def Ed(P:Int×Int->Prop)(K:Nat)(D:DataW Value):Prop:=IsMap D/\∀s b kl,keyOf Tryz.prog 40 (.agg #[.int .i64 s,.int .i64 b])=some kl->∃c:Int,D.atKey kl (.held (.int .i64 0)) = .held (.int .i64 c)/\0<=c/\c<=K/\(c=0↔¬P (s,b))
variable{P:Int×Int->Prop}{K:Nat}{D:DataW Value}
theorem Ed.has(h:Ed P K D):qk P D:=fun s b kl e=>by
 obtain⟨c,a,_,_,d⟩:=h.2 s b kl e;exact⟨c,a,d⟩
variable{Q:Int×Int->Prop}
theorem Ed.iff{L:Nat}(h:Ed P K D)(f:K<=L)(g:∀x,P x↔Q x):Ed Q L D:=⟨h.1,fun s b kl i=>by
 obtain⟨c,a,d,j,e⟩:=h.2 s b kl i;exact⟨c,a,d,by omega,by rw[e,g]⟩⟩
theorem Ed.none:Ed (fun _=>False) 0 (.map []:DataW Value):=⟨⟨_,rfl⟩,fun s b kl _=>⟨0,rfl,Int.le_refl _,Int.le_refl _,by simp⟩⟩
variable{xs:Int}
theorem Ed.more(h:Ed P K D){xb c:Int}{kx:Lit}(a:keyOf Tryz.prog 40 (.agg #[.int .i64 xs,.int .i64 xb])=some kx)(m:0<=c)(n:c<=K):Ed (fun y=>P y\/y=(xs,xb)) (K+1) (D.put kx (.held (.int .i64 (c+1)))):=by
 obtain⟨o,rfl⟩:=h.1;refine⟨⟨_,rfl⟩,fun s b kl g=>?_⟩;by_cases e:kl=kx
 ·subst e;have i:=Jz.inj g a;simp only[Value.agg.injEq,Array.mk.injEq,List.cons.injEq,Value.int.injEq,true_and,and_true]at i;obtain⟨rfl,rfl⟩:=i;exact⟨c+1,atKey_put_same ⟨_,rfl⟩ (Jz.key a) _ _,by omega,by omega,⟨fun p=>by omega,fun hn=>absurd (Or.inr rfl) hn⟩⟩
 ·obtain⟨d,j,k,q,l⟩:=h.2 s b kl g;refine⟨d,(atKey_put_other e _ _).trans j,k,by omega,?_⟩;rw[l];constructor
  ·rintro hn (f | f)
   ·exact hn f
   ·injection f with p1 p2;subst p1 p2;rw[g]at a;exact e (Option.some.inj a)
  ·exact fun hn f=>hn (Or.inl f)
variable{n₀ B:Nat}{X Y:World}
theorem zCb{M:Nat}(h:X.grownBy Y (some M))(b:n₀<=M)(d:M<B)(c:n₀<=X.heap.size):CE n₀ B X Y:=
 ⟨(Below.refl n₀ X).grown h c (fun k e=>by cases e;exact b),fun k o f a _=>(h.block k (Array.getElem?_eq_some_iff.1 a).1 (fun e=>by cases e;omega)).trans a⟩
def CU(n₀ B:Nat):List Deferred->World->Prop
 | [],_=>True
 | d :: ds,w=>(∃r,d = {target:=.collected r,args:=#[]}/\n₀<=r/\r<B/\w.heap[r]?=some (.deferred (some []))/\∀q,({target:=.collected q,args:=#[]}:Deferred)∈ds->q≠r)/\CU n₀ B ds w
theorem CU.kept{n₀ B:Nat}{X Y:World}(h:∀r,n₀<=r->r<B->X.heap[r]?=some (.deferred (some []))->Y.heap[r]?=some (.deferred (some []))):∀{ds:List Deferred},CU n₀ B ds X->CU n₀ B ds Y
 | [],_=>trivial
 | d :: ds,⟨⟨r,h1,h2,h3,h4,h5⟩,h6⟩=>⟨⟨r,h1,h2,h3,h r h2 h3 h4,h5⟩,CU.kept h h6⟩
variable{ds:List Deferred}
theorem CU.A1(h:CU n₀ B ds X)(b:Below X.heap.size X Y):CU n₀ B ds Y:=h.kept (fun r _ _ a=>(b.block r (Array.getElem?_eq_some_iff.1 a).1).trans a)
theorem CU.mono{n₀ B C:Nat}{X:World}(a:B<=C):∀{ds:List Deferred},CU n₀ B ds X->CU n₀ C ds X
 | [],_=>trivial
 | d :: ds,⟨⟨r,h1,h2,h3,h4,h5⟩,h6⟩=>⟨⟨r,h1,h2,by omega,h4,h5⟩,CU.mono a h6⟩
theorem CU.lt{n₀ B:Nat}{X:World}:∀{ds:List Deferred},CU n₀ B ds X->∀q,({target:=.collected q,args:=#[]}:Deferred)∈ds->q<B
 | d :: ds,⟨⟨r,h1,h2,h3,h4,h5⟩,h6⟩,q,hq=>by
  rcases List.mem_cons.1 hq with e | e
  ·rw[h1]at e;simp only[Deferred.mk.injEq,Target.collected.injEq,and_true]at e;omega
  ·exact CU.lt h6 q e
theorem CU.more{r:Nat}(h:CU n₀ B ds X)(c:B<=r)(hn:n₀<=r)(b:X.heap[r]?=some (.deferred (some []))):CU n₀ (r+1) ({target:=.collected r,args:=#[]} :: ds) X:=
 ⟨⟨r,rfl,hn,by omega,b,fun q a=>by have:=h.lt q a;omega⟩,h.mono (by omega)⟩
theorem CU.put{n₀ B r:Nat}{X:World}{o:Obj}:∀{ds:List Deferred},CU n₀ B ds X->(∀q,({target:=.collected q,args:=#[]}:Deferred)∈ds->q≠r)->CU n₀ B ds (X.putObj r o)
 | [],_,_=>trivial
 | d :: ds,⟨⟨q,h1,h2,h3,h4,h5⟩,h6⟩,hne=>⟨⟨q,h1,h2,h3,(World.putObj_heap_other (hne q (by rw[h1];exact List.mem_cons_self))).trans h4,h5⟩,CU.put h6 (fun q a=>hne q (List.mem_cons_of_mem _ a))⟩
theorem YH{n₀ B n:Nat}{F:Fence}{P:Program}{fn:Func}{tmps:Array Value}{R:Ending->World->Prop}(J:World->Prop)(c:∀X r,J X->n₀<=r->X.heap[r]?=some (.deferred (some []))->J (X.putObj r (.deferred none)))
 (a:∀X,J X->LeavesInM F n P fn tmps R [] .returning X):∀(b:List Deferred) (X:World),CU n₀ B b X->J X->LeavesInM F n P fn tmps R b .returning X
 | [],X,_,h=>a X h
 | d :: b,X,⟨⟨r,h1,h2,h3,h4,h5⟩,h6⟩,h=>⟨by simp,.inl ⟨r,_,by rw[h1],run_takeDeferred h4,YH J c a b _ (CU.put h6 h5) (c X r h h2 h4)⟩⟩
open Go.Shelf
def JW(W:A4)(qs qb:Nat->Int)(k:Nat)(y:Int×Int):Prop:=∃i,i<k/\y∈AE W.pool (qs i) (qb i)
variable{v:Value}
theorem zAm{M b o:Nat}(h:AF X b o v)(c:X.grownBy Y (some M))(a:b≠M):AF Y b o v:=
 ⟨(c.cell_far _ (AM h.1) (fun e=>a (Option.some.inj e))).trans h.1,(c.frozen_far _ (AM h.1) (fun e=>a (Option.some.inj e))).trans h.2⟩
def qf(w:World)(v0 v1 v2 v3:Value)(W:A4)(qs qb:Nat->Int)(k:Nat)(ds:List Deferred)(wr:World):Prop:=
 AF wr (w.heap.size+1+1) 0 (.map (some (w.heap.size+1)))/\Af wr w.heap.size v0 v1 (.int .i64 W.time) (.int .i64 W.next) v2 v3/\(∃nm D,wr.ownsMap Tryz.prog 40 Bz (w.heap.size+1) nm D/\nm<=73*k/\Ed (JW W qs qb k) (73*k) D)/\(∃B,CU (w.heap.size+3) B ds wr/\B<=wr.heap.size)/\Below w.heap.size w wr/\w.heap.size+3<=wr.heap.size
theorem zg(a v1 d f:Value)(lo hi:Nat)(W:A4)(oa:Option Addr)(m oc:Nat)(p o:Nat->Int)(aD pC:Nat)(w:World)(h:BM w lo hi a v1 d f W)(hh:hi<=w.heap.size)(hR:AX W.pool)(hO:Ay w aD pC (.slice oa m oc) m p o)(jE:m<=100)(hT:∀i,i<m->An W.pool (p i) (o i)) :
 Calls Tryz.prog 76 #[Bh a v1 d f W,.slice oa m oc] w (T4 (JW W p o m) w):=by
 have Hp:=AV h;have HO:=AV hO;have HT:=AV hT;clear h hO hT;have jD:(m:Int)<=100:=by omega
 have vA:=A9 w (.cells #[a,v1,.int .i64 W.time,.int .i64 W.next,d,f] 30);have gA:(w.alloc (.cells #[a,v1,.int .i64 W.time,.int .i64 W.next,d,f] 30)).heap.size=w.heap.size+1:=World.size_alloc _ _;have hm:=World.ownsMap_made (w.alloc (.cells #[a,v1,.int .i64 W.time,.int .i64 W.next,d,f] 30)) Tryz.prog 40 Bz;rw[gA]at hm;have F:=A9 (w.alloc (.cells #[a,v1,.int .i64 W.time,.int .i64 W.next,d,f] 30)) (.map #[] 0);have aB:=A8 vA F;have iA:((w.alloc (.cells #[a,v1,.int .i64 W.time,.int .i64 W.next,d,f] 30)).alloc (.map #[] 0)).heap.size=w.heap.size+2:=by rw[World.size_alloc,gA]
 have P:=A9 ((w.alloc (.cells #[a,v1,.int .i64 W.time,.int .i64 W.next,d,f] 30)).alloc (.map #[] 0)) (.cells #[.map (some (w.heap.size+1))] 114);have hc:AF (((w.alloc (.cells #[a,v1,.int .i64 W.time,.int .i64 W.next,d,f] 30)).alloc (.map #[] 0)).alloc (.cells #[.map (some (w.heap.size+1))] 114)) (w.heap.size+2) 0 (.map (some (w.heap.size+1))):=by
  have:=At (i:=0) (heap_alloc_new ((w.alloc (.cells #[a,v1,.int .i64 W.time,.int .i64 W.next,d,f] 30)).alloc (.map #[] 0)) (.cells #[.map (some (w.heap.size+1))] 114)) rfl;rw[iA]at this;exact this
 have HC:=AV hc;have HX:=AV (((Af.new w a v1 (.int .i64 W.time) (.int .i64 W.next) d f 30).A1 F).A1 P);have HM:=AV (hm.kept (Fq P none) (by simp));have HB:=AV (A8 aB P);have HZ:=AV (show(((w.alloc (.cells #[a,v1,.int .i64 W.time,.int .i64 W.next,d,f] 30)).alloc (.map #[] 0)).alloc (.cells #[.map (some (w.heap.size+1))] 114)).heap.size=w.heap.size+3 by rw[World.size_alloc,iA]);clear hm vA aB P hc iA F;have rC:=@run_makeMap Tryz.prog;refine(callsIn_wide (n:=3)).1 ?_;refine callsIn_of_wp_marks Tryz.func76 rfl trivial ?_ rfl;simp only[Tryz.ntmps76,List.size_toArray,List.length_cons,List.length_nil,Nat.reduceAdd,Nat.reduceSub,Array.replicate_succ,Array.replicate_zero,List.push_toArray,List.append_toArray,List.nil_append,List.cons_append]
 gi_wp2
 generalize ((w.alloc (.cells #[a,v1,.int .i64 W.time,.int .i64 W.next,d,f] 30)).alloc (.map #[] 0)).alloc (.cells #[.map (some (w.heap.size+1))] 114)=W3 at HC HX HM HB HZ ⊢;have sA:=AV (show AF W3 (w.heap.size+1+1) 0 (.map (some (w.heap.size+1)))from HC.out);clear HC gA rC;refine wpIn_loop (fun a' wr=>∃(u7 kB lB u16 mB nB oB kA:Value) (ds:List Deferred) (k:Nat),k<=m/\qf w a v1 d f W p o k ds wr/\a' = {tmps:=#[Bh a v1 d f W,.slice oa m oc,.pointer (some ⟨w.heap.size,0,none⟩),undef,.map none,.pointer (some ⟨w.heap.size+1+1,0,none⟩),undef,u7,undef,undef,.map (some (w.heap.size+1)),.slice oa m oc,.int .i64 m,.int .i64 k,kB,lB,u16,mB,nB,oB,undef,undef,undef,undef,undef,undef,undef,undef,kA,undef],defers:=ds}) (fun a' _=>m - (intOf (a'.tmps.getD 13 undef)).toNat) ?_ ?_
 ·exact⟨_,_,_,_,_,_,_,_,[],0,Nat.zero_le _,⟨sA.out,HX.out,⟨0,.map [],HM.out,Nat.zero_le _,Ed.none.iff (Nat.le_refl _) (fun x=>⟨False.elim,fun ⟨i,hi,_⟩=>absurd hi (Nat.not_lt_zero _)⟩)⟩,⟨w.heap.size+3,trivial,by have:=HZ.out;omega⟩,HB.out,by have:=HZ.out;omega⟩,rfl⟩
 clear sA HX HM HB HZ;clear W3;rintro _ wr ⟨u7,kB,lB,u16,mB,nB,oB,kA,ds,k,hk,⟨hc,hx,⟨nm,D,hm,sC,hd⟩,⟨B0,jB,tD⟩,hb,hz⟩,rfl⟩;have Hm:=AV hm;have Hd:=AV hd;have aA:=AV jB;have Hc:=AV hc;have Hx:=AV hx;clear hm hd jB hc hx;by_cases iB:k<m;rotate_left
 ·obtain rfl:k=m:=(by omega);obtain⟨c0,-⟩:=Hc.out
  gi_wp2
  refine YH (n₀:=w.heap.size+3) (B:=B0) (fun X=>(X.ownsMap Tryz.prog 40 Bz (w.heap.size+1) nm D/\Below w.heap.size w X)/\w.heap.size+1<X.heap.size) ?_ ?_ ds wr aA.out ⟨⟨Hm.out,hb⟩,by omega⟩
  ·rintro X r ⟨⟨h1,R⟩,L⟩ v hX;exact⟨⟨h1.kept (grownBy_putObj' X r _) (by simp;omega),R.trans (belowK_b (w:=w) (Nat.le_refl _) X r _ _ (by omega) hX rfl rfl)⟩,by simp;omega⟩
  ·rintro X ⟨⟨h1,R⟩,L⟩;exact⟨_,results_tmp rfl _ _ _,⟨_,_,_,rfl,h1,by omega,L,Hd.out.has,R⟩⟩
 have gD:(k:Int)<(m:Int):=by omega
 obtain⟨b,off,rfl,q0,q1⟩:=(HO.out.A1 hb).cellsD iB;have u:=A9 wr (.cells #[.int .i64 (p k),.int .i64 (o k)] 40);have HY:=AV (Ad.new wr (.int .i64 (p k)) (.int .i64 (o k)) 40);have O:=AV (Hx.out.A1 u);have U:=AV (show(wr.alloc (.cells #[.int .i64 (p k),.int .i64 (o k)] 40)).heap.size=wr.heap.size+1 from World.size_alloc _ _);have T:=AV (A8 hb u);have Z:=AV (Hm.out.kept (Fq u none) (by simp));have E:=AV (aA.out.A1 u);have V:=AV (Hc.out.A1 u);obtain⟨x0,x1,x2,x3,x4,x5⟩:=O.out.c;obtain⟨⟨y0,-⟩,⟨y1,-⟩⟩:=HY.out;clear u Hm aA Hc Hx
 gi_wp2
 clear x0 x1 x2 x3 x4 x5 y0 y1 q0 q1;generalize wr.alloc (.cells #[.int .i64 (p k),.int .i64 (o k)] 40)=W4 at HY O U T Z E V ⊢;refine⟨trivial,(callsIn_wide.2 (Y9 a v1 d f W (p k) (o k) W4)).mono ?_⟩;rintro e w5 ⟨rfl,cB,bB,z,vC⟩;have dC:=AV (O.out.A1 z);have rA:=AV (A8 T.out z);have kC:=AV (Z.out.kept (Fq z none) (by simp));have tA:=AV (E.out.A1 z);have iC:=AV (V.out.A1 z);have lE:w.heap.size+3<=w5.heap.size/\B0<=w5.heap.size:=by have:=U.out;omega
 have S:=YB w.heap.size w5.heap.size 2 W4.heap.size (W4.heap.size+1) lo hi W.pool a v1 d f W.time W.next (p k) (o k) w5 (by omega) (Nat.le_refl _) hh hR (HT.out k iB) cB bB (Hp.out.pool.1.A1 rA.out);clear z cB bB vC O T Z E V U HY
 gi_wp2
 have hN:=V1 W.pool (p k) (o k);refine wpIn_rangeFunc_ownH rfl (by omega) (gf:=133) (lb:=#[.pointer (some ⟨W4.heap.size,0,none⟩),.pointer (some ⟨W4.heap.size+1,0,none⟩)]) rfl trivial (enters_of Tryz.func133 (by kernel_rfl) rfl) S Jl (VJ (by omega)) (Below.refl _ _) (fun _=>rfl)
  (fun pre X=>((AF X (w.heap.size+1+1) 0 (.map (some (w.heap.size+1)))/\Af X w.heap.size a v1 (.int .i64 W.time) (.int .i64 W.next) d f)/\(∃nm D,X.ownsMap Tryz.prog 40 Bz (w.heap.size+1) nm D/\nm<=73*k+pre.length/\Ed (fun y=>JW W p o k y\/y∈pre.map (·.1.2)) (73*k+pre.length) D))/\CU (w.heap.size+3) B0 ds X/\Below w.heap.size w X)
  (fun _ _ _=>False)
  (fun s X Y row hs g v=>by
   obtain⟨⟨⟨C,t⟩,nm,D,M,i4,J⟩,N,A⟩:=hs;exact⟨⟨⟨FF C g v,FF t.1 g v,FF t.2.1 g v,FF t.2.2.1 g v,FF t.2.2.2.1 g v,FF t.2.2.2.2.1 g v,FF t.2.2.2.2.2 g v⟩,nm,D,M.kept g (fun e=>by have:=(v _ e.symm).1;omega),i4,J⟩,N.kept (fun r h1 R L=>(g.block r (Array.getElem?_eq_some_iff.1 L).1 (fun e=>by have:=(v _ e.symm).1;omega)).trans L),ownFrom_below (β:=Unit) (Nat.le_refl _) (by omega) () X Y row A g v⟩)
  (fun _ _ _ _ _ hs _ _=>hs)
  ⟨⟨⟨iC.out,dC.out⟩,nm,D,kC.out,sC,Hd.out.iff (Nat.le_refl _) (fun y=>by simp)⟩,tA.out,rA.out⟩
  (fun x a' X=>∃Bx,w.heap.size+3<=Bx/\Ad X Bx (.int .i64 x.1.2.1) (.int .i64 x.1.2.2)/\a' = {tmps:=#[Bh a v1 d f W,.slice (some ⟨b,off,none⟩) m oc,.pointer (some ⟨w.heap.size,0,none⟩),undef,.map none,.pointer (some ⟨w.heap.size+1+1,0,none⟩),undef,.pointer (some ⟨wr.heap.size,0,none⟩),undef,.pointer (some ⟨Bx,0,none⟩),.map (some (w.heap.size+1)),.slice (some ⟨b,off,none⟩) m oc,.int .i64 m,.int .i64 k,.bool true,.pointer (some ⟨b,off+k*2,none⟩),.agg #[.int .i64 (p k),.int .i64 (o k)],.agg #[a,v1,.int .i64 W.time,.int .i64 W.next,d,f],.agg #[.int .i64 (p k),.int .i64 (o k)],.func (.func 133) #[] #[.pointer (some ⟨W4.heap.size,0,none⟩),.pointer (some ⟨W4.heap.size+1,0,none⟩)],.agg #[.int .i64 x.1.1.1,.int .i64 x.1.1.2],.agg #[.int .i64 x.1.2.1,.int .i64 x.1.2.2],undef,undef,undef,undef,undef,undef,kA,undef],defers:=[]})
  (fun x a' _ X Y row hs g v=>by obtain⟨Bx,h1,R,L⟩:=hs;exact⟨Bx,h1,⟨FF R.1 g v,FF R.2 g v⟩,L⟩)
  ?assign ?body ?done ?stop
 case assign=>
  rintro l pre x X K ⟨⟨⟨C,t⟩,nm,D,M,i4,J⟩,N,A⟩ hK;have u:=A9 X (.cells #[.int .i64 x.1.2.1,.int .i64 x.1.2.2] 40);have Q:=Ad.new X (.int .i64 x.1.2.1) (.int .i64 x.1.2.2) 40;have HK:=AV (hK _ _ ((KeepsOthers.alloc _ _).from _) (CE.CX u A.size) ⟨⟨⟨C.A1 u,t.A1 u⟩,nm,D,M.kept (Fq u none) (by simp),i4,J⟩,N.A1 u,A8 A u⟩ ⟨X.heap.size,by have:=C.lt;omega,Q,rfl⟩);clear u Q hK C t M i4 J N A
  gi_wp2
  exact HK.out
 case body=>
  rintro l pre x a' X hl - ⟨⟨⟨C,t⟩,nm,D,M,i4,J⟩,N,A⟩ ⟨Bx,vD,eB,rfl⟩ iD;obtain⟨kl,H⟩:=Q5 x.2.1 x.2.2.1;obtain⟨c,eA,F,mC,nC⟩:=J.2 _ _ kl H;have G:Below X.heap.size X X.drew:=(Below.refl _ X).drew;have I:=M.kept (Fq G none) (by simp);have gE:=Uh I H eA;obtain⟨ev,st,wa,wb,he,iE,tC,q,oC,gB⟩:=Qp I Rp KH (by unfold maxLen;omega) Mk H eA (val:=.int .i64 (IntKind.i64.wrap (c+1)));have dE:c<=10000:=(by omega);rw[wrap_small (n:=c+1) (by omega) (by omega)]at q;have g:=Jg (Fq G (some (w.heap.size+1))) gB;have HI:=AV (show KeepsFrom w5.heap.size X wb/\CE w.heap.size w5.heap.size X wb/\((AF wb (w.heap.size+1+1) 0 (.map (some (w.heap.size+1)))/\Af wb w.heap.size a v1 (.int .i64 W.time) (.int .i64 W.next) d f)/\(∃nm D,wb.ownsMap Tryz.prog 40 Bz (w.heap.size+1) nm D/\nm<=73*k+(pre ++ [x]).length/\Ed (fun y=>JW W p o k y\/y∈(pre ++ [x]).map (·.1.2)) (73*k+(pre ++ [x]).length) D))/\CU (w.heap.size+3) B0 ds wb/\Below w.heap.size w wb from by
   refine⟨KeepsFrom.of_grownBy g (fun j e=>by cases e;omega),zCb g (by omega) (by omega) A.size,⟨⟨zAm C g (by omega),t.side g (by omega)⟩,nm+1,_,q,by rw[List.length_append];simp;omega,?_⟩,N.kept (fun r h1 R L=>(g.block r (Array.getElem?_eq_some_iff.1 L).1 (fun e=>by cases e;omega)).trans L),A.grown g A.size (fun j e=>by cases e;omega)⟩;refine(J.more H F mC).iff (by rw[List.length_append];simp;omega) (fun y=>?_);rw[List.map_append,List.mem_append];simp[or_assoc])
  obtain⟨⟨y0,-⟩,⟨y1,-⟩⟩:=eB.A1 G;obtain⟨c0,-⟩:=C.A1 G;clear q oC gB g I C t M J N A eA nC H eB G S;unfold goInt at he tC
  gi_wp2
  gi_region
  all_goals exact HI.out
 case done=>
  rintro Dd ys X hD fA ⟨⟨⟨C,t⟩,nm,D,M,i4,J⟩,N,A⟩ hK;have hv:ys.map (·.1.2)=AE W.pool (p k) (o k):=by
   rw[<-V2,<-fA,List.map_map];rfl
  have kE:ys.length<=73:=by
   have:=congrArg List.length fA;rw[List.length_map]at this;omega
  have aE:=(Array.getElem?_eq_some_iff.1 hK).1;have HR:=AV (show qf w a v1 d f W p o (k+1) ({target:=.collected Dd,args:=#[]} :: ds) X from⟨C,t,⟨nm,D,M,by omega,J.iff (by omega) (fun y=>by
   rw[hv];constructor
   ·rintro(⟨i,hi,Q⟩ | Q)
    ·exact⟨i,by omega,Q⟩
    ·exact⟨k,by omega,Q⟩
   ·rintro⟨i,hi,Q⟩;by_cases e:i=k
    ·subst e;exact Or.inr Q
    ·exact Or.inl ⟨i,by omega,Q⟩)⟩,⟨Dd+1,N.more (by omega) (by omega) hK,by omega⟩,A,by omega⟩)
  clear C t M i4 J N A hv fA
  gi_wp2
  exact⟨⟨_,_,_,_,_,_,_,_,_,k+1,by omega,HR.out,rfl⟩,by simp[intOf];omega⟩
 case stop=>
  rintro Dd c pre X _ _ h _;exact h.elim
theorem zAp(h:∀x,P x↔Q x)(l:List (Int×Int)):Df P l=Df Q l:=by
 have:P=Q:=funext fun x=>propext (h x)
 rw[this]
noncomputable def FP(W:A4)(x:Int):Nat->List (Int×Int)
 | 0=>[]
 | k+1=>if (W.A0 k).id=x then FP W x k else FP W x k ++ [((W.A0 k).rs,(W.A0 k).rb)]
noncomputable def E6(W:A4)(x:Int):Nat->List (Int×Int)
 | 0=>FP W x W.pn
 | k+1=>E6 W x k ++ [((W.A2 k).rs,(W.A2 k).rb)]
variable{W:A4}{x:Int}{k:Nat}
theorem Qy(h:(W.A0 k).id=x):FP W x (k+1)=FP W x k:=if_pos h
theorem R8(h:¬(W.A0 k).id=x):FP W x (k+1)=FP W x k ++ [((W.A0 k).rs,(W.A0 k).rb)]:=if_neg h
theorem Qz:E6 W x (k+1)=E6 W x k ++ [((W.A2 k).rs,(W.A2 k).rb)]:=rfl
theorem QN(W:A4)(x:Int):∀k,(FP W x k).length<=k
 | 0=>Nat.le_refl _
 | k+1=>by
  have:=QN W x k;by_cases h:(W.A0 k).id=x
  ·rw[Qy h];omega
  ·rw[R8 h,List.length_append];simp;omega
theorem QO(W:A4)(x:Int):∀k,(E6 W x k).length<=W.pn+k
 | 0=>QN W x W.pn
 | k+1=>by
  have:=QO W x k;rw[Qz,List.length_append];simp;omega
theorem U8{W:A4}{x:Int}{y:Int×Int}:∀k,y∈FP W x k↔∃i,i<k/\(W.A0 i).id≠x/\y=((W.A0 i).rs,(W.A0 i).rb)
 | 0=>by simp[FP]
 | k+1=>by
  have c:=U8 (W:=W) (x:=x) (y:=y) k;by_cases h:(W.A0 k).id=x
  ·rw[Qy h,c];constructor
   ·rintro⟨i,hi,b,a⟩;exact⟨i,by omega,b,a⟩
   ·rintro⟨i,hi,b,a⟩;by_cases e:i=k
    ·subst e;exact absurd h b
    ·exact⟨i,by omega,b,a⟩
  ·rw[R8 h,List.mem_append,c,List.mem_singleton];constructor
   ·rintro(⟨i,hi,b,a⟩ | a)
    ·exact⟨i,by omega,b,a⟩
    ·exact⟨k,by omega,h,a⟩
   ·rintro⟨i,hi,b,a⟩;by_cases e:i=k
    ·subst e;exact Or.inr a
    ·exact Or.inl ⟨i,by omega,b,a⟩
theorem I7{W:A4}{x:Int}{y:Int×Int}:∀k,y∈E6 W x k↔(∃i,i<W.pn/\(W.A0 i).id≠x/\y=((W.A0 i).rs,(W.A0 i).rb))\/∃i,i<k/\y=((W.A2 i).rs,(W.A2 i).rb)
 | 0=>by
  rw[show E6 W x 0=FP W x W.pn from rfl,U8];constructor
  ·exact Or.inl
  ·rintro(h | ⟨i,hi,_⟩)
   ·exact h
   ·exact absurd hi (Nat.not_lt_zero _)
 | k+1=>by
  rw[Qz,List.mem_append,I7 k,List.mem_singleton];constructor
  ·rintro((h | ⟨i,hi,a⟩) | h)
   ·exact Or.inl h
   ·exact Or.inr ⟨i,by omega,a⟩
   ·exact Or.inr ⟨k,by omega,h⟩
  ·rintro(h | ⟨i,hi,a⟩)
   ·exact Or.inl (Or.inl h)
   ·by_cases e:i=k
    ·subst e;exact Or.inr a
    ·exact Or.inl (Or.inr ⟨i,by omega,a⟩)
theorem zCu(L v1 v2 v3:Value)(lo hi:Nat)(W:A4)(x:Int)(w:World)(h:BM w lo hi L v1 v2 v3 W)(sA:W.sn<=8)(rA:W.pn<=20) :
 Calls Tryz.prog 31 #[Bh L v1 v2 v3 W,.int .i64 x] w fun e w'=>∃v,e = .returned v/\B6 w' (w.heap.size+1) v (E6 W x W.sn)/\Below w.heap.size w w':=by
 have Hp:=A3 h;obtain⟨m1,a,c,rfl,mc,_⟩:=id h.A0;obtain⟨m2,N,c',rfl,aB,_⟩:=id h.A2;clear h;obtain⟨i0,R,K⟩:=Option.map_eq_some_iff.1 O4;simp only[Prod.mk.injEq]at K;have G:=A3 (And.intro R K);clear R K m1 m2;have mA:(W.sn:Int)<=8:=by omega
 have lA:(W.pn:Int)<=20:=by omega
 have ha:=A9 w (.cells #[L,v1,.int .i64 W.time,.int .i64 W.next,.slice N W.sn c',.slice a W.pn c] 30);have D:=A3 (Af.new w L v1 (.int .i64 W.time) (.int .i64 W.next) (.slice N W.sn c') (.slice a W.pn c) 30);obtain⟨x0,x2,x4,x6,x8,M⟩:=D.out.c;go_enter Tryz.func31,Tryz.ntmps31;go_wp2;clear x0 x2 x4 x6 x8 M;generalize w.alloc (.cells #[L,v1,.int .i64 W.time,.int .i64 W.next,.slice N W.sn c',.slice a W.pn c] 30)=W0 at ha D ⊢
 go_loopw [5,13] (fun vr i wr=>∃k:Nat,k<=W.pn/\i = .int .i64 k/\B6 wr (w.heap.size+1) vr (FP W x k)/\Af wr w.heap.size L v1 (.int .i64 W.time) (.int .i64 W.next) (.slice N W.sn c') (.slice a W.pn c)/\Below w.heap.size w wr) (fun _ i _=>W.pn - (intOf i).toNat)
 case atStart=>exact⟨0,Nat.zero_le _,rfl,B6.nil _ _,D.out,ha⟩
 case round=>
  clear D ha;obtain⟨k,hk,rfl,o,P,H⟩:=hrel;have g:=A3 o;have C:=A3 P;clear o P;by_cases J:k<W.pn;rotate_left
  ·obtain rfl:k=W.pn:=(by omega);obtain⟨x0,x2,x4,x6,x8,M⟩:=C.out.c;go_wp2;clear x0 x2 x4 x6 x8 M
   go_loopw [5,30] (fun vr i wr=>∃k:Nat,k<=W.sn/\i = .int .i64 k/\B6 wr (w.heap.size+1) vr (E6 W x k)/\Af wr w.heap.size L v1 (.int .i64 W.time) (.int .i64 W.next) (.slice N W.sn c') (.slice a W.pn c)/\Below w.heap.size w wr) (fun _ i _=>W.sn - (intOf i).toNat)
   case atStart=>exact⟨0,Nat.zero_le _,rfl,g.out,C.out,H⟩
   case round=>
    clear g C H;obtain⟨k,hk,rfl,o,P,H⟩:=hrel;have g:=A3 o;have C:=A3 P;clear o P;by_cases J:k<W.sn;rotate_left
    ·obtain rfl:k=W.sn:=(by omega);go_wp2;go_ret;exact⟨_,rfl,g.out,H⟩
    have T:(k:Int)<(W.sn:Int):=(by omega);obtain⟨b,off,vd,rfl,d⟩:=(Hp.out.A2.A1 H).cells J;obtain⟨-,s,t,rfl,-,-⟩:=id d.dead;have q0:=d.c0;have q1:=d.c1;have q2:=d.c2;have q3:=d.c3;have q4:=d.c4;have q5:=d.c5;clear d;have n:=A9 wr (.cells #[.string (W.A2 k).name,.int .i64 (W.A2 k).origin,.int .i64 (W.A2 k).A5,.int .i64 (W.A2 k).rs,.int .i64 (W.A2 k).rb,.slice s (W.A2 k).dn t] 70);have Y:=A3 (Af.new wr (.string (W.A2 k).name) (.int .i64 (W.A2 k).origin) (.int .i64 (W.A2 k).A5) (.int .i64 (W.A2 k).rs) (.int .i64 (W.A2 k).rb) (.slice s (W.A2 k).dn t) 70);have B:(wr.alloc (.cells #[.string (W.A2 k).name,.int .i64 (W.A2 k).origin,.int .i64 (W.A2 k).A5,.int .i64 (W.A2 k).rs,.int .i64 (W.A2 k).rb,.slice s (W.A2 k).dn t] 70)).heap.size=wr.heap.size+1:=World.size_alloc _ _;have m:=A9 (wr.alloc (.cells #[.string (W.A2 k).name,.int .i64 (W.A2 k).origin,.int .i64 (W.A2 k).A5,.int .i64 (W.A2 k).rs,.int .i64 (W.A2 k).rb,.slice s (W.A2 k).dn t] 70)) (.cells #[.int .i64 (W.A2 k).rs,.int .i64 (W.A2 k).rb] 40);have F:=A8 H n;have u:=A8 F m;have l:=A3 (g.out.A1 n);have E:=A3 (C.out.A1 n);have j:=A3 (l.out.A1 m);have I:=A3 (E.out.A1 m);have p:=World.news_of_block (heap_alloc_last (wr.alloc (.cells #[.string (W.A2 k).name,.int .i64 (W.A2 k).origin,.int .i64 (W.A2 k).A5,.int .i64 (W.A2 k).rs,.int .i64 (W.A2 k).rb,.slice s (W.A2 k).dn t] 70)) (.cells #[.int .i64 (W.A2 k).rs,.int .i64 (W.A2 k).rb] 40));rw[B]at p;have X:=A3 p;have bA:((wr.alloc (.cells #[.string (W.A2 k).name,.int .i64 (W.A2 k).origin,.int .i64 (W.A2 k).A5,.int .i64 (W.A2 k).rs,.int .i64 (W.A2 k).rb,.slice s (W.A2 k).dn t] 70)).alloc (.cells #[.int .i64 (W.A2 k).rs,.int .i64 (W.A2 k).rb] 40)).heap.size=wr.heap.size+2:=(by rw[World.size_alloc,B]);have S:=QO W x k;have cA:=AM C.out.1.1;obtain⟨y0,y1,y2,y3,y4,y5⟩:=Y.out.c;clear p n m g C;go_wp2_with (first
     | (at_builtin;refine wpList_append_lies _ rfl _ _ 41 rfl (w.heap.size+1) 40 i0 (.agg #[.int .i64 0,.int .i64 0]) 2 16 (by kernel_rfl) G.out.1 G.out.2.1 G.out.2.2.1 G.out.2.2.2 rfl (by decide) _ _ _ rfl j.out ⟨wr.heap.size+1,0,none⟩ 1 1 [.int .i64 (W.A2 k).rs,.int .i64 (W.A2 k).rb] rfl rfl X.out (by simp[Value.oneCell']) (by decide) (by unfold maxLen;omega) (by omega) (by omega) _ rfl ?_;intro g' O w8 r f Q U)
     | go_in)
    go_roundw
    case rel=>
     have z:∀q,Value.ownBlock _=some q->w.heap.size+1<=q:=fun q A=>(j.out.lt A).1
     refine⟨k+1,by omega,by go_num,?_,I.out.grown f (fun q A=>by have:=z q A;omega),u.grown f u.size (fun q A=>by have:=z q A;omega)⟩;rw[Qz];exact B6.next r
    case measure=>simp[intOf];omega
  have T:(k:Int)<(W.pn:Int):=(by omega);obtain⟨b,off,vd,rfl,d⟩:=(Hp.out.A0.A1 H).cells J;obtain⟨-,s,t,rfl,-,-⟩:=id d.dead;have q0:=d.c0;have q1:=d.c1;have q2:=d.c2;have q3:=d.c3;have q4:=d.c4;have q5:=d.c5;have q6:=d.c6;have q7:=d.c7;clear d;have n:=A9 wr (.cells #[.int .i64 (W.A0 k).id,.string (W.A0 k).name,.string (W.A0 k).set,.int .i64 (W.A0 k).A5,.int .i64 (W.A0 k).time,.int .i64 (W.A0 k).rs,.int .i64 (W.A0 k).rb,.slice s (W.A0 k).dn t] 43);have Y:=A3 (CG.new wr (.int .i64 (W.A0 k).id) (.string (W.A0 k).name) (.string (W.A0 k).set) (.int .i64 (W.A0 k).A5) (.int .i64 (W.A0 k).time) (.int .i64 (W.A0 k).rs) (.int .i64 (W.A0 k).rb) (.slice s (W.A0 k).dn t) 43);have B:(wr.alloc (.cells #[.int .i64 (W.A0 k).id,.string (W.A0 k).name,.string (W.A0 k).set,.int .i64 (W.A0 k).A5,.int .i64 (W.A0 k).time,.int .i64 (W.A0 k).rs,.int .i64 (W.A0 k).rb,.slice s (W.A0 k).dn t] 43)).heap.size=wr.heap.size+1:=World.size_alloc _ _;have m:=A9 (wr.alloc (.cells #[.int .i64 (W.A0 k).id,.string (W.A0 k).name,.string (W.A0 k).set,.int .i64 (W.A0 k).A5,.int .i64 (W.A0 k).time,.int .i64 (W.A0 k).rs,.int .i64 (W.A0 k).rb,.slice s (W.A0 k).dn t] 43)) (.cells #[.int .i64 (W.A0 k).rs,.int .i64 (W.A0 k).rb] 40);have F:=A8 H n;have u:=A8 F m;have l:=A3 (g.out.A1 n);have E:=A3 (C.out.A1 n);have j:=A3 (l.out.A1 m);have I:=A3 (E.out.A1 m);have p:=World.news_of_block (heap_alloc_last (wr.alloc (.cells #[.int .i64 (W.A0 k).id,.string (W.A0 k).name,.string (W.A0 k).set,.int .i64 (W.A0 k).A5,.int .i64 (W.A0 k).time,.int .i64 (W.A0 k).rs,.int .i64 (W.A0 k).rb,.slice s (W.A0 k).dn t] 43)) (.cells #[.int .i64 (W.A0 k).rs,.int .i64 (W.A0 k).rb] 40));rw[B]at p;have X:=A3 p;have bA:((wr.alloc (.cells #[.int .i64 (W.A0 k).id,.string (W.A0 k).name,.string (W.A0 k).set,.int .i64 (W.A0 k).A5,.int .i64 (W.A0 k).time,.int .i64 (W.A0 k).rs,.int .i64 (W.A0 k).rb,.slice s (W.A0 k).dn t] 43)).alloc (.cells #[.int .i64 (W.A0 k).rs,.int .i64 (W.A0 k).rb] 40)).heap.size=wr.heap.size+2:=(by rw[World.size_alloc,B]);have S:=QN W x k;have cA:=AM C.out.1.1;obtain⟨⟨⟨y0,-⟩,⟨y1,-⟩,⟨y2,-⟩,⟨y3,-⟩⟩,⟨y4,-⟩,⟨y5,-⟩,⟨y6,-⟩,⟨y7,-⟩⟩:=Y.out;clear p n m g C;by_cases y:(W.A0 k).id=x
  ·have V:((W.A0 k).id != x)=false:=(by simp[y]);have Z:=A3 y;clear y;go_wp2;go_roundw
   case rel=>exact⟨k+1,by omega,by go_num,by rw[Qy Z.out];exact l.out,E.out,F⟩
   case measure=>simp[intOf];omega
  ·have V:((W.A0 k).id != x)=true:=(by simp[y]);go_wp2_with (first
    | (at_builtin;refine wpList_append_lies _ rfl _ _ 41 rfl (w.heap.size+1) 40 i0 (.agg #[.int .i64 0,.int .i64 0]) 2 16 (by kernel_rfl) G.out.1 G.out.2.1 G.out.2.2.1 G.out.2.2.2 rfl (by decide) _ _ _ rfl j.out ⟨wr.heap.size+1,0,none⟩ 1 1 [.int .i64 (W.A0 k).rs,.int .i64 (W.A0 k).rb] rfl rfl X.out (by simp[Value.oneCell']) (by decide) (by unfold maxLen;omega) (by omega) (by omega) _ rfl ?_;intro g' O w8 r f Q U)
    | go_in)
   go_roundw
   case rel=>
    have z:∀q,Value.ownBlock _=some q->w.heap.size+1<=q:=fun q A=>(j.out.lt A).1
    refine⟨k+1,by omega,by go_num,?_,I.out.grown f (fun q A=>by have:=z q A;omega),u.grown f u.size (fun q A=>by have:=z q A;omega)⟩;rw[R8 y];exact B6.next r
   case measure=>simp[intOf];omega
def JU(W:A4)(x:Int)(y:Int×Int):Prop:=∃r,r∈E6 W x W.sn/\y∈AE W.pool r.1 r.2
open Classical in
noncomputable def FE(W:A4)(x:Int):Nat:=if Ab W then Df (JU W x) (AE W.pool (AB W x).rs (AB W x).rb)else 0
theorem RN(h:¬Ab W):FE W x=0:=if_neg h
theorem Oi(h:Ab W):FE W x=Df (JU W x) (AE W.pool (AB W x).rs (AB W x).rb):=if_pos h
theorem zCP(h:∀k,k<W.pn->(W.A0 k).id≠x):FE W x=0:=by
 by_cases a:Ab W
 · rw[Oi a,Jp h]
   show Df _ (AE W.pool 0 0)=0;rw[zb];rfl
 · exact RN a
variable{l:List (Int×Int)}
theorem zBx{y:Int×Int}:JW W (AI l) (AK l) l.length y↔∃r,r∈l/\y∈AE W.pool r.1 r.2:=by
 constructor
 · rintro⟨i,hi,h⟩
   exact⟨(AI l i,AK l i),FG.1 ⟨i,hi,rfl,rfl⟩,h⟩
 · rintro⟨⟨a,b⟩,e,h⟩
   obtain⟨i,hi,c,d⟩:=FG.2 e;exact⟨i,hi,by rw[c,d];exact h⟩
theorem zI5(h:Ab W){r:Int×Int}(a:r∈E6 W x W.sn):An W.pool r.1 r.2:=by
 rcases(I7 W.sn).1 a with⟨i,hi,-,rfl⟩ | ⟨i,hi,rfl⟩
 · exact h.A0 i hi
 · exact(h.A2 i hi).1
theorem zCY(g v1 j k:Value)(lo hi:Nat)(W:A4)(x:Int)(w:World)(h:BM w lo hi g v1 j k W)(hh:hi<=w.heap.size)(z:F6 W)(hx:(Lit.int .i64 x).wf=true):Calls Tryz.prog 8 #[Bh g v1 j k W,.int .i64 x] w fun e w'=>e = .returned (.int .i64 (FE W x))/\Below w.heap.size w w':=by
 have C:=A3 h;have F:=A3 z;have X:=A3 hx;clear h z hx;have m:=A9 w (.cells #[g,v1,.int .i64 W.time,.int .i64 W.next,j,k] 30);have B:=A3 (Af.new w g v1 (.int .i64 W.time) (.int .i64 W.next) j k 30);obtain⟨L,N,O,R,S,T⟩:=B.out.c;go_enter Tryz.func8,Tryz.ntmps8;go_wp2_with fail;generalize w.alloc (.cells #[g,v1,.int .i64 W.time,.int .i64 W.next,j,k] 30)=W0 at B m L N O R S T ⊢;refine(MO g v1 j k lo hi W W0 (C.out.A1 m) F.out).mono ?_;rintro e w1 ⟨⟨t,rfl,ht⟩,p⟩;have V:=A3 (ht.trans (FA W));have d:=A8 m p;have l:=A3 (B.out.A1 p);clear L N O R S T p m B ht;cases t
 · have HA:=A3 (show FE W x=0 from RN (fun h=>absurd (V.out.2 h) (by simp)))
   go_wp2;go_ret;exact⟨by rw[HA.out];rfl,d⟩
 · have n:=A3 (V.out.1 rfl)
   have U:=A3 ((FA W).2 n.out).AP;have HT:=A3 (show ∀y,An W.pool (AB W y).rs (AB W y).rb from KK n.out.A0);have kA:=QO W x W.sn;have K:=n.out.AP.2.2.1;have u:=n.out.AP.2.2.2.1;have iA:=zB1;obtain⟨L,N,O,R,S,T⟩:=l.out.c;go_wp2_with fail;go_region_held3 (fun w'=>w'.cell? ⟨w.heap.size,0,none⟩=some g/\w'.cell? ⟨w.heap.size,1,none⟩=some v1/\w'.cell? ⟨w.heap.size,2,none⟩=some (.int .i64 W.time)/\w'.cell? ⟨w.heap.size,3,none⟩=some (.int .i64 W.next)/\w'.cell? ⟨w.heap.size,4,none⟩=some j/\w'.cell? ⟨w.heap.size,5,none⟩=some k) (go_keep)
    (first
      | (go_at_call 30;refine(Ot g v1 j k lo hi W _ ((C.out.A1 d).A1 (Below.refl _ _).drew) u U.out.idsWf).mono ?_;rintro e w2 ⟨vd,rfl,Z,hd,H⟩;have f:=Cs H;obtain⟨a,c,r,hp⟩:=OW U.out.dist hd x;have jA:=Vo (M:=w1.heap.size+1) Z X.out r;have E:=A3 Z;have D:=A3 r;obtain⟨z0,z1,z2,z3,z4,z5⟩:=(l.out.A1 f).c)
      | (go_at_call 31;refine(zCu g v1 j k lo hi W x _ ((C.out.A1 d).A1 f) K u).mono ?_;rintro e w3 ⟨vo,rfl,v,s⟩;have b:=A8 f s;have J:=v.atW (by omega);obtain⟨ao,co,rfl,-⟩:=C6 v;have Y:=Vo (M:=w1.heap.size+1) (E.out.A1 s) X.out D.out;obtain⟨k0,k1,k2,k3,k4,k5⟩:=(l.out.A1 b).c)
      | (go_at_call 29
         have q:=(C.out.A1 d).A1 b;have A:hi<=w3.heap.size:=(by have:=b.size;have:=d.size;omega);refine(zC7 g v1 j k lo hi W _ _ _ (JW W (AI (E6 W x W.sn)) (AK (E6 W x W.sn)) (E6 W x W.sn).length) _ q A n.out.right (HT.out x) (fun w' G=>zg g v1 j k lo hi W _ _ _ _ _ 0 w3.heap.size w' (q.A1 G) (Nat.le_trans A G.size) n.out.right (J.A1 G) (by omega) (fun i hi=>zI5 n.out (FG.1 ⟨i,hi,rfl,rfl⟩)))).mono ?_;rintro e w4 ⟨rfl,I⟩;have o:=A8 b I;obtain⟨m0,m1,m2,m3,m4,m5⟩:=(l.out.A1 o).c))
   all_goals
    go_wp2;go_ret;refine⟨?_,A8 d o⟩;rw[Oi n.out,zAp (P:=JU W x) (Q:=JW W (AI (E6 W x W.sn)) (AK (E6 W x W.sn)) (E6 W x W.sn).length) (fun y=>zBx.symm)];rfl
def CP(W:A4)(k:Nat):A4:={W with pn:=W.pn - 1,A0:=fun i=>if i<k then W.A0 i else W.A0 (i+1)}
theorem Oa(W:A4)(k i:Nat):∃j,(CP W k).A0 i=W.A0 j/\j≠k/\(i<W.pn - 1->k<W.pn->j<W.pn):=by
 by_cases h:i<k
 ·exact⟨i,if_pos h,by omega,fun _ _=>by omega⟩
 ·exact⟨i+1,if_neg h,by omega,fun _ _=>by omega⟩
variable{j:Nat}
theorem zBU(c:k<W.pn)(b:j<W.pn)(a:j≠k):∃i,i<W.pn - 1/\(CP W k).A0 i=W.A0 j:=by
 by_cases h:j<k
 ·exact⟨j,by omega,if_pos h⟩
 ·refine⟨j - 1,by omega,?_⟩;show(if j - 1<k then W.A0 (j - 1)else W.A0 (j - 1+1))=W.A0 j;rw[if_neg (by omega),show j - 1+1=j by omega]
theorem zD0(h:Db W)(c:k<W.pn):Db (CP W k) where
 right:=h.right
 ids:=fun i hi=>by
  obtain⟨j,e,-,a⟩:=Oa W k i;rw[e];exact h.ids j (a hi c)
 tree:=fun i hi=>by
  by_cases b:i<W.pn - 1
  ·rw[B9 (W:=CP W k) b];obtain⟨j,e,-,a⟩:=Oa W k i;have:=h.BI (a b c);show An W.pool ((CP W k).A0 i).rs ((CP W k).A0 i).rb;rw[e];exact this
  ·have e:=By (CP W k) (i - (W.pn - 1));rw[show(CP W k).pn+(i - (W.pn - 1))=i by show W.pn - 1+(i - (W.pn - 1))=i;omega]at e;rw[e];have d:i<W.pn - 1+W.sn:=hi;exact h.set (by omega)
 time:=fun i hi=>by
  by_cases b:i<W.pn - 1
  ·rw[B9 (W:=CP W k) b];obtain⟨j,e,-,a⟩:=Oa W k i;have:=h.time j (by unfold memN;have:=a b c;omega);rw[B9 (a b c)]at this;show 0<=((CP W k).A0 i).time;rw[e];exact this
  ·have e:=By (CP W k) (i - (W.pn - 1));rw[show(CP W k).pn+(i - (W.pn - 1))=i by show W.pn - 1+(i - (W.pn - 1))=i;omega]at e;rw[e];have d:i<W.pn - 1+W.sn:=hi;have:=h.time (W.pn+(i - (W.pn - 1))) (by unfold memN;omega);rw[By]at this;exact this
variable{s:Nat}
theorem zAr(f:Db W)(t:EC W)(n:k<W.pn)(q:(W.A0 k).id=x){b:Int}(C:((s:Int),b)∈AE W.pool (W.A0 k).rs (W.A0 k).rb):JR (CP W k) s↔JU W x ((s:Int),b):=by
 have y:=(EY f.right (f.BI n) C).1;have c:∀{rs rb b':Int},An W.pool rs rb->((s:Int),b')∈AE W.pool rs rb->b'=b:=fun B a=>by
  have v:=(EY f.right B a).1.2.2.2;have w:=y.2.2.2;simp only at v w;omega
 have p:∀j,j<W.pn->j≠k->(W.A0 j).id≠x:=fun j g l e=>by
  rcases Nat.lt_or_ge j k with h | h
  ·exact t k n j h (by rw[e,q])
  ·exact t j g k (by omega) (by rw[e,q])
 rw[X8];constructor
 ·rintro⟨i,hi,b',a⟩;have z:i<W.sn+(W.pn - 1):=hi;by_cases hs:i<W.sn
  ·rw[Ko (W:=CP W k) hs]at a;have e:=c (f.set hs) a;subst e;exact⟨((W.A2 i).rs,(W.A2 i).rb),(I7 W.sn).2 (Or.inr ⟨i,hs,rfl⟩),a⟩
  ·have e:=L0 (CP W k) (i - W.sn);rw[show(CP W k).sn+(i - W.sn)=i by show W.sn+(i - W.sn)=i;omega]at e;rw[e]at a;obtain⟨j,u,l,g⟩:=Oa W k (i - W.sn);rw[u]at a;have d:=g (by omega) n;have m:=c (f.BI d) a;subst m;exact⟨((W.A0 j).rs,(W.A0 j).rb),(I7 W.sn).2 (Or.inl ⟨j,d,p j d l,rfl⟩),a⟩
 ·rintro⟨r,A,a⟩;rcases(I7 W.sn).1 A with⟨j,g,o,rfl⟩ | ⟨i,hi,rfl⟩
  ·obtain⟨i,hi,e⟩:=zBU n g (fun e=>o (by rw[e];exact q));refine⟨W.sn+i,by show W.sn+i<W.sn+(W.pn - 1);omega,b,?_⟩;have m:=L0 (CP W k) i;rw[show(CP W k).sn+i=W.sn+i from rfl]at m;rw[m,e];exact a
  ·refine⟨i,by show i<W.sn+(W.pn - 1);omega,b,?_⟩;rw[Ko (W:=CP W k) hi];exact a
variable{p:A7}
theorem Uf{y:Int}(b:j<=p.hn):Has j (C9 p xs).h y↔Has j p.h y:=by
 constructor
 ·rintro⟨k,a,e⟩;exact⟨k,a,by rw[<-e];exact(if_neg (by omega:¬k=p.hn)).symm⟩
 ·rintro⟨k,a,e⟩;exact⟨k,a,by rw[<-e];exact if_neg (by omega:¬k=p.hn)⟩
theorem zAN{xb:Int}(c:AX p)(b:BA p xs xb)(m:¬Has p.hn p.h xs):AX (C9 p xs):=by
 refine⟨c.1,fun j d=>c.2.1 j d,fun j d=>?_⟩;by_cases e:j=p.hn
 ·subst e;have a:(C9 p xs).h p.hn=xs:=if_pos rfl;refine⟨?_,?_,?_,?_⟩
  ·rw[a];exact b.2.1
  ·rw[a];exact b.2.2.1
  ·rw[a];intro n;have g:=b.2.2.2;have o:(p.s xs.toNat).birth=0:=n.1;have:=b.1;omega
  ·rw[a,Uf (Nat.le_refl _)];exact m
 ·have f:j<p.hn:=(by have:j<p.hn+1:=d;omega);have a:(C9 p xs).h j=p.h j:=if_neg e;obtain⟨i,k,l,g⟩:=c.2.2 j f;refine⟨?_,?_,?_,?_⟩
  ·rw[a];exact i
  ·rw[a];exact k
  ·rw[a];exact l
  ·rw[a,Uf (by omega)];exact g
def Ak(p:A7):List (Int×Int)->A7
 | []=>p
 | x :: l=>Ak (C9 p x.1) l
def CK(p:A7)(l:List (Int×Int)):Prop:=AX p/\(∀x,x∈l->BA p x.1 x.2/\¬Has p.hn p.h x.1)/\(l.map Prod.fst).Nodup
theorem VD{y:Int}(h:Has (p.hn+1) (C9 p xs).h y):Has p.hn p.h y\/y=xs:=by
 obtain⟨j,b,e⟩:=h;by_cases a:j=p.hn
 ·right;rw[<-e,a];exact if_pos rfl
 ·left;exact⟨j,by omega,by rw[<-e];exact(if_neg a).symm⟩
theorem CK.head{x:Int×Int}(h:CK p (x :: l)):JA p x.1 x.2=⟨C9 p x.1,0,0,0⟩/\CK (C9 p x.1) l:=by
 obtain⟨d,f,a⟩:=h;obtain⟨b,c⟩:=f x List.mem_cons_self;rw[List.map_cons,List.nodup_cons]at a;refine⟨TL d b c,zAN d b c,fun y g=>?_,a.2⟩;obtain⟨j,k⟩:=f y (List.mem_cons_of_mem _ g);refine⟨j,fun i=>?_⟩;rcases VD i with e | e
 ·exact k e
 ·exact a.1 (e▸List.mem_map_of_mem g)
theorem CK.cut{l':List (Int×Int)}:∀{l:List (Int×Int)} {p:A7},CK p (l ++ l')->CK (Ak p l) l'
 | [],_,h=>h
 | x :: l,p,h=>CK.cut (l:=l) (p:=C9 p x.1) (CK.head (p:=p) (x:=x) (l:=l ++ l') h).2
theorem Om(x:Int×Int):∀(l:List (Int×Int)) (p:A7),Ak p (l ++ [x])=C9 (Ak p l) x.1
 | [],_=>rfl
 | y :: l,p=>Om x l (C9 p y.1)
theorem EF:∀(l:List (Int×Int)) (p:A7),(Ak p l).n=p.n/\(Ak p l).s=p.s/\(Ak p l).hn=p.hn+l.length
 | [],_=>⟨rfl,rfl,rfl⟩
 | y :: l,p=>by
  obtain⟨a,b,c⟩:=EF l (C9 p y.1);refine⟨a,b,?_⟩;show(Ak (C9 p y.1) l).hn=_;rw[c,List.length_cons];show p.hn+1+l.length=_;omega
theorem CK.next(h:CK p l){i:Nat}(hi:i<l.length):JA (Ak p (l.take i)) l[i].1 l[i].2=⟨Ak p (l.take (i+1)),0,0,0⟩/\AX (Ak p (l.take i)):=by
 have e:l=l.take i ++ l[i] :: l.drop (i+1):=by
  rw[List.getElem_cons_drop,List.take_append_drop]
 have a:CK (Ak p (l.take i)) (l[i] :: l.drop (i+1)):=CK.cut (l:=l.take i) (by rw[<-e];exact h);refine⟨?_,a.1⟩;rw[a.head.1,List.take_succ_eq_append_getElem hi,Om]
theorem CK.last(h:CK p l):AX (Ak p l):=(CK.cut (l:=l) (l':=[]) (by rw[List.append_nil];exact h)).1
theorem Qa(f g:Nat->Int)(t:Int):∀k,(BE f g t k).Sublist ((List.range k).map fun i=>(f i,g i))
 | 0=>List.Sublist.refl _
 | k+1=>by
  rw[List.range_succ,List.map_append,List.map_singleton];unfold BE;split
  ·exact(Qa f g t k).append (List.Sublist.refl _)
  ·exact(Qa f g t k).trans (List.sublist_append_left _ _)
theorem CK.sub{l':List (Int×Int)}(h:CK p l)(hs:l'.Sublist l):CK p l':=⟨h.1,fun x a=>h.2.1 x (hs.subset a),List.Nodup.sublist (hs.map _) h.2.2⟩
def C3(w:World)(e:TypeId)(s:Nat)(v:Value)(n:Nat):Prop:=
 (n=0/\∃a,v = .slice a 0 0)\/(0<n/\∃g cap cur,v = .slice (some ⟨g,0,none⟩) n cap/\w.heap[g]?=some (.cells cur e (0,0))/\n<=cap/\cap<=maxLen/\cur.size=cap*s)
variable{w:World}{e:TypeId}{n:Nat}{xs:List Value}
theorem J0{base:Nat}(h:w.ownsRow base e s v n xs)(k:n=0->∃a,v = .slice a 0 0):C3 w e s v n:=by
 rcases Nat.eq_zero_or_pos n with b | b
 ·exact Or.inl ⟨b,k b⟩
 ·rcases h.2 with h | ⟨g,cap,c,hv,_,j,d,f,i,_⟩
  ·omega
  ·exact Or.inr ⟨b,g,cap,c,hv,j,d,f,i⟩
theorem C3.A1{w':World}(h:C3 w e s v n)(t:Below w.heap.size w w'):C3 w' e s v n:=by
 rcases h with h | ⟨c,g,cap,a,hv,b,d⟩
 ·exact Or.inl h
 ·exact Or.inr ⟨c,g,cap,a,hv,(t.block g (Array.getElem?_eq_some_iff.1 b).1).trans b,d⟩
theorem zCQ{g:Nat}{c:Array Value}(h:w.heap[g]?=some (.cells c e (0,0)))(a:Addr)(u:Value):∃b,(w.setCell a u).heap[g]?=some (.cells b e (0,0))/\b.size=c.size:=by
 by_cases d:a.block=g
 ·subst d;unfold World.setCell;simp only[Array.getElem?_modify,h,if_true,Option.map_some];refine⟨_,rfl,?_⟩;split<;>simp
 ·refine⟨c,?_,rfl⟩;unfold World.setCell;simp only[Array.getElem?_modify,d,if_false,h]
theorem C3.set(h:C3 w e s v n)(a:Addr)(u:Value):C3 (w.setCell a u) e s v n:=by
 rcases h with h | ⟨f,g,cap,d,hv,l,i,j,k⟩
 ·exact Or.inl h
 ·obtain⟨b,c,hs⟩:=zCQ l a u;exact Or.inr ⟨f,g,cap,b,hv,c,i,j,by rw[hs];exact k⟩
theorem C3.owns{base:Nat}(h:C3 w e s v n)(t:0<n)(q:xs.length=n*s)(o:∀g,v.ownBlock=some g->base<=g)
 (p:∀g,v.ownBlock=some g->∀j u,xs[j]?=some u->w.cell? ⟨g,j,none⟩=some u):w.ownsRow base e s v n xs:=by
 refine⟨q,?_⟩;rcases h with h | ⟨_,g,cap,a,hv,f,b,l,c⟩
 ·omega
 ·refine Or.inr ⟨g,cap,a,hv,o g (by rw[hv];rfl),f,b,l,c,?_⟩;have r:n*s<=a.size:=(by rw[c];exact Nat.mul_le_mul_right s b);refine List.ext_getElem? fun j=>?_
  rw[List.getElem?_take];by_cases i:j<n*s
  ·rw[if_pos i];have k:j<xs.length:=(by omega);have d:=p g (by rw[hv];rfl) j xs[j] (by rw[List.getElem?_eq_getElem k]);have m:w.cell? ⟨g,j,none⟩=a[j]?:=by
    simp[World.cell?,f]
   rw[m]at d;rw[List.getElem?_eq_getElem k,<-d,Array.getElem?_toList]
  ·rw[if_neg i,List.getElem?_eq_none (by omega)]
variable{P:Program}
theorem zD7(t ty e:TypeId)(i:TypeInfo)(a:Option Addr)(b:Addr)(m c:Nat)(k:P.underlying t=some (.slice e))(hi:P.info? e=some i)(j:0<m)(l:m*i.bytes<=140737488355328) :
 (Builtin.append_ #[t,t] ty #[.slice a 0 0,.slice (some b) m c]).run P w=(Builtin.append_ #[t,t] ty #[.slice none 0 0,.slice (some b) m c]).run P w:=by
 cases a with
 | none=>rfl
 | some a=>
  have d:¬m=0:=(by omega);have f:Builtin.nextslicecap m 0=m:=(by unfold Builtin.nextslicecap;simp[j]);have g:¬(281474976710656:Nat)<m*i.bytes:=(by omega);have h:∀w:World,(loadCells a 0).run P w = .ok #[] w:=fun w=>by first | rfl | simp[loadCells] | simp[loadCells,loadCellsFrom]
  simp[Builtin.append_,run_underlying k,sizeOf,typeInfo,hi,Builtin.lenOf,Builtin.firstCells,d,f,g,h]
theorem C3.append(t ty e:TypeId)(i:TypeInfo)(z:Value)(s bytes base:Nat)(H:P.underlying t=some (.slice e))(hi:P.info? e=some i)(J:i.zero=some z)(l:i.size=s)(q:i.bytes=bytes)(B:z.cells.size=s)(A:0<s) (h:C3 w e s v n) (M:xs.length=n*s) (K:0<n->∀g,v.ownBlock=some g->base<=g) (L:0<n->∀g,v.ownBlock=some g->∀j u,xs[j]?=some u->w.cell? ⟨g,j,none⟩=some u)
 (r:Addr) (m c:Nat) (b:List Value) (y:b.length=m*s) (k:∀j u,b[j]?=some u->w.cell? (r.add j)=some u) (I:∀u∈b,u.oneCell'=true) (F:0<m) (x:n+m<=maxLen) (d:(n+m)*bytes<=140737488355328) (f:base<=w.heap.size) :
 ∃g cap w' row,(Builtin.append_ #[t,t] ty #[v,.slice (some r) m c]).run P w = .ok (.slice (some ⟨g,0,none⟩) (n+m) cap) w'/\w'.ownsRow base e s (.slice (some ⟨g,0,none⟩) (n+m) cap) (n+m) (xs ++ b)/\w.grownBy w' row/\(row=none\/(0<n/\row=v.ownBlock))/\((0<n/\v.ownBlock=some g)\/g=w.heap.size)/\g<w'.heap.size:=by
 rcases Nat.eq_zero_or_pos n with o | o
 ·rcases h with⟨_,a,rfl⟩ | ⟨N,_⟩
  ·subst o;obtain rfl:xs = []:=List.eq_nil_of_length_eq_zero (by omega);obtain⟨g,cap,w',G,C,D,p,E⟩:=run_append_lies (P:=P) w t ty base e i z s bytes H hi J l q B A (.slice none 0 0) 0 [] ⟨by simp,Or.inl ⟨rfl,rfl⟩⟩ r m c b y k I F x d f w.heap.size rfl;refine⟨g,cap,w',none,?_,C,D,Or.inl rfl,Or.inr ?_,E⟩
   ·rw[zD7 t ty e i a r m c H hi F (by rw[q];simpa using d)];exact G
   ·rcases p with p | p
    ·cases p
    ·exact p
  ·omega
 ·obtain⟨g,cap,w',G,C,D,p,E⟩:=run_append_lies (P:=P) w t ty base e i z s bytes H hi J l q B A v n xs (h.owns o M (K o) (L o)) r m c b y k I F x d f w.heap.size rfl;exact⟨g,cap,w',v.ownBlock,G,C,D,Or.inr ⟨o,rfl⟩,p.imp (fun h=>⟨o,h⟩) id,E⟩
def GV(w:World)(S:Nat->Prop)(v:Value)(n:Nat)(f:Nat->Ac):Prop:=∃(bs:Nat) (kb:Nat->Nat) (kv:Nat->Value),Dw w bs kb kv v n f/\MD kb n f/\(∀k,GM bs kb n f k->S k)/\C3 w 70 6 v n/\∀i,i<n->C3 w 40 2 (kv i) (f i).dn
def Ge(w:World)(S:Nat->Prop)(v:Value)(n:Nat)(f:Nat->AT):Prop:=∃(bs:Nat) (kb:Nat->Nat) (kv:Nat->Value),Fo w bs kb kv v n f/\MM kb n f/\(∀k,Ic bs kb n f k->S k)/\C3 w 43 8 v n/\∀i,i<n->C3 w 40 2 (kv i) (f i).dn
variable{S:Nat->Prop}
theorem GV.isIn{f:Nat->Ac}(h:GV w S v n f):Du w S v n f:=by
 obtain⟨a,kb,kv,b,c,d,_⟩:=h;exact⟨a,kb,kv,b,c,d⟩
theorem Ge.isIn{f:Nat->AT}(h:Ge w S v n f):Hj w S v n f:=by
 obtain⟨a,kb,kv,b,c,d,_⟩:=h;exact⟨a,kb,kv,b,c,d⟩
theorem GV.set{f:Nat->Ac}(h:GV w S v n f)(b o:Nat)(u:Value)(m:¬S b):GV (w.setCell ⟨b,o,none⟩ u) S v n f:=by
 obtain⟨c,kb,kv,d,g,a,j,l⟩:=h;exact⟨c,kb,kv,d.AD (AC.put w b o u) (fun k p e=>m (e▸a k p)),g,a,j.set _ _,fun i hi=>(l i hi).set _ _⟩
theorem Ge.set{f:Nat->AT}(h:Ge w S v n f)(b o:Nat)(u:Value)(m:¬S b):Ge (w.setCell ⟨b,o,none⟩ u) S v n f:=by
 obtain⟨c,kb,kv,d,g,a,j,l⟩:=h;exact⟨c,kb,kv,d.AD (AC.put w b o u) (fun k p e=>m (e▸a k p)),g,a,j.set _ _,fun i hi=>(l i hi).set _ _⟩
theorem GV.put6{f:Nat->Ac}(h:GV w S v n f)(b:Nat)(c d u2 u3 u4 e:Value)(a:¬S b):GV (put6 w b c d u2 u3 u4 e) S v n f:=(((((h.set b 0 c a).set b 1 d a).set b 2 u2 a).set b 3 u3 a).set b 4 u4 a).set b 5 e a
theorem Ge.put6{f:Nat->AT}(h:Ge w S v n f)(b:Nat)(c d u2 u3 u4 e:Value)(a:¬S b):Ge (put6 w b c d u2 u3 u4 e) S v n f:=(((((h.set b 0 c a).set b 1 d a).set b 2 u2 a).set b 3 u3 a).set b 4 u4 a).set b 5 e a
structure Kf (w:World) (P Q R:Nat->Prop) (v0 v1 v2 v3:Value) (W:A4):Prop where
 pool:Cg w P v0 v1 W.pool
 A2:GV w Q v2 W.sn W.A2
 A0:Ge w R v3 W.pn W.A0
 pq:∀k,P k->¬Q k
 pr:∀k,P k->¬R k
 qr:∀k,Q k->¬R k
def DW(w:World)(lo hi:Nat)(v0 v1 v2 v3:Value)(W:A4):Prop:=∃P Q R,Kf w P Q R v0 v1 v2 v3 W/\∀k,P k\/Q k\/R k->lo<=k/\k<hi
variable{P Q R:Nat->Prop}{v0 v1 v2 v3:Value}
theorem Kf.isIn(h:Kf w P Q R v0 v1 v2 v3 W):Lc w P Q R v0 v1 v2 v3 W:=⟨h.pool,h.A2.isIn,h.A0.isIn,h.pq,h.pr,h.qr⟩
variable{lo hi:Nat}
theorem DW.own(h:DW w lo hi v0 v1 v2 v3 W):EX w lo hi v0 v1 v2 v3 W:=by
 obtain⟨P,Q,R,h,a⟩:=h;exact⟨P,Q,R,h.isIn,a⟩
theorem Kf.set(h:Kf w P Q R v0 v1 v2 v3 W)(b o:Nat)(u:Value)(a:¬(P b\/Q b\/R b)):Kf (w.setCell ⟨b,o,none⟩ u) P Q R v0 v1 v2 v3 W:=
 ⟨h.pool.AD (AC.put w b o u) (fun k c e=>a (Or.inl (e▸c))),h.A2.set b o u (fun h=>a (Or.inr (Or.inl h))),h.A0.set b o u (fun h=>a (Or.inr (Or.inr h))),h.pq,h.pr,h.qr⟩
theorem DW.set(h:DW w lo hi v0 v1 v2 v3 W)(b o:Nat)(u:Value)(d:b<lo\/hi<=b):DW (w.setCell ⟨b,o,none⟩ u) lo hi v0 v1 v2 v3 W:=by
 obtain⟨P,Q,R,h,a⟩:=h;exact⟨P,Q,R,h.set b o u (fun c=>by have:=a b c;omega),a⟩
theorem DW.put6(h:DW w lo hi v0 v1 v2 v3 W)(b:Nat)(c d u2 u3 u4 e:Value)(a:b<lo\/hi<=b):DW (put6 w b c d u2 u3 u4 e) lo hi v0 v1 v2 v3 W:=(((((h.set b 0 c a).set b 1 d a).set b 2 u2 a).set b 3 u3 a).set b 4 u4 a).set b 5 e a
theorem DW.Bv(h:DW w lo hi v0 v1 v2 v3 W):∃a c0 b c1 c e d c3,v0 = .slice a W.pool.n c0/\v1 = .slice b W.pool.hn c1/\v2 = .slice c W.sn e/\v3 = .slice d W.pn c3:=h.own.Bv
theorem DW.wide{b a:Nat}(h:DW w lo hi v0 v1 v2 v3 W)(e:b<=lo)(f:hi<=a):DW w b a v0 v1 v2 v3 W:=by
 obtain⟨P,Q,R,h,d⟩:=h;exact⟨P,Q,R,h,fun k c=>by have:=d k c;omega⟩
def zT(W:A4)(w:World)(e:Ending)(w':World):Prop:=∃v0 v1 v2 v3,e = .returned (Bh v0 v1 v2 v3 W)/\DW w' w.heap.size w'.heap.size v0 v1 v2 v3 W/\Below w.heap.size w w'
theorem YG{w':World}{row:Option Nat}(h:w.grownBy w' row):AC (fun k=>row=some k) w w':=⟨h.os,h.tape,h.output,h.size,fun k a hn=>h.block k a (fun e=>hn e.symm)⟩
def M1(W:A4)(k:Nat)(name set:ByteArray):AT:={id:=W.next,name:=name,set:=set,A5:=(W.A2 k).A5,time:=W.time,rs:=(W.A2 k).rs,rb:=(W.A2 k).rb,dn:=(W.A2 k).dn,ds:=(W.A2 k).ds,db:=(W.A2 k).db}
def UH(W:A4)(k:Nat)(name set:ByteArray):A4:={W with time:=W.time+1,next:=W.next+1,A2:=fun j=>if j=k then {W.A2 k with A5:=W.next,dn:=0}else W.A2 j,pn:=W.pn+1,A0:=fun j=>if j=W.pn then M1 W k name set else W.A0 j}
def ins{α : Type}(f:Nat->α)(k:Nat)(s:α):Nat->α:=fun j=>if j<k then f j else if j=k then s else f (j - 1)
variable{α:Type}
theorem Z3{f:Nat->α}{s:α}(h:j<k):ins f k s j=f j:=if_pos h
theorem Z1{f:Nat->α}{s:α}:ins f k s k=s:=by
 unfold ins;rw[if_neg (Nat.lt_irrefl _),if_pos rfl]
theorem Z2{f:Nat->α}{s:α}(h:k<j):ins f k s j=f (j - 1):=by
 unfold ins;rw[if_neg (by omega),if_neg (by omega)]
def JX(W:A4)(k:Nat)(s:Ac):A4:={W with sn:=W.sn+1,A2:=ins W.A2 k s}
end Go.Proofs.YtnfjcaoclahfjaaGreatDoor
