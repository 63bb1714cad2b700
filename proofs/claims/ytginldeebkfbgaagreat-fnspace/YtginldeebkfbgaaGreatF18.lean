/- A part of the proof. -/
import Derived.Test.YtginldeebkfbgaaGreatF17
set_option linter.unusedVariables false
set_option maxRecDepth 20000
set_option maxHeartbeats 4000000
namespace Go.Proofs.YtginldeebkfbgaaGreat
open Go.RowKit Go.Maps
theorem zHw(n:Int)(w:World):Calls Tryz.prog 108 #[.int .i64 n] w fun e w'=>zJ (zGj n) e/\w'=w:=by
 by_cases h1:0<=n
 ·by_cases h2:n<=1000000
  ·go_enter Tryz.func108,Tryz.ntmps108;go_wp2;go_ret;exact⟨zJ.yes ⟨h1,h2⟩,rfl⟩
  ·go_enter Tryz.func108,Tryz.ntmps108;go_wp2;go_ret;exact⟨zJ.no fun h=>by have:=h.2;omega,rfl⟩
 ·go_enter Tryz.func108,Tryz.ntmps108;go_wp2;go_ret;exact⟨zJ.no fun h=>by have:=h.1;omega,rfl⟩
theorem zRs(x y t:Int)(T:Nat)(w:World)(hT:w.cell? ⟨T,0,none⟩=some (.int .i64 t)):Calls Tryz.prog 109 #[.agg #[.int .i64 x,.int .i64 y],.pointer (some ⟨T,0,none⟩)] w fun e w'=>zJ (t<y) e/\Below w.heap.size w w':=by
 have aA:=zD w (.cells #[.int .i64 x,.int .i64 y] 44);have bA:=(aA.cell (p:=⟨T,0,none⟩) (zO hT)).trans hT;by_cases h:t<y
 ·go_enter Tryz.func109,Tryz.ntmps109;go_wp2;go_ret;exact⟨⟨_,rfl,by simpa using h⟩,aA⟩
 ·go_enter Tryz.func109,Tryz.ntmps109;go_wp2;go_ret;exact⟨⟨_,rfl,by simpa using h⟩,aA⟩
def zH0(l l':List (Int×Int))(w w':World)(v v':Value):Prop:=zBS w' w.heap.size v l/\zBS w' w.heap.size v' l'/\(∀q,v.ownBlock=some q->v'.ownBlock≠some q)/\Below w.heap.size w w'
theorem zFq{w1 w2:World}{base g cap:Nat}{v v':Value}{l l':List (Int×Int)}{x y:Int}(h':zBS w1 base v' l')(ha:∀q,v.ownBlock=some q->v'.ownBlock≠some q)
  (aA:w2.ownsRow base 44 2 (.slice (some ⟨g,0,none⟩) (l.length+1) cap) (l.length+1) (pcl l ++ [.int .i64 x,.int .i64 y])) (hg:w1.grownBy w2 v.ownBlock) (bA:v.ownBlock=some g\/g=w1.heap.size) :
  zBS w2 base (.slice (some ⟨g,0,none⟩) (l.length+1) cap) (l ++ [(x,y)])/\zBS w2 base v' l'/\(∀q,(Value.slice (some ⟨g,0,none⟩) (l.length+1) cap).ownBlock=some q->v'.ownBlock≠some q):=by
 refine⟨?_,h'.turned hg (fun q hq e=>ha q e hq),fun q hq e=>?_⟩
 ·unfold zBS;rw[zGO,List.length_append];exact aA
 ·simp only[Value.ownBlock,Option.some.injEq]at hq;subst hq;rcases bA with h | h
  ·exact ha _ h e
  ·have:=(h'.lt e).2;omega
theorem zXT(v:Value)(n lo hi T:Nat)(f g:Nat->Int)(t:Int)(w:World)(h1:qk w lo hi v n f g)(hn:n<=200)(hT:w.cell? ⟨T,0,none⟩=some (.int .i64 t)) :
  Calls Tryz.prog 102 #[v,.func (.func 109) #[] #[.pointer (some ⟨T,0,none⟩)]] w fun e w'=>∃vy vo,e = .returned (.tuple #[vy,vo])/\zH0 (zAP f g t n) (zEI f g t n) w w' vy vo:=by
 have Hp:=zV h1;have HT:=zV hT;obtain⟨m1,a,c,rfl,mc,_⟩:=id h1;clear h1 hT;obtain⟨i0,tA,oA⟩:=Option.map_eq_some_iff.1 zIo;simp only[Prod.mk.injEq]at oA;have HI:=zV (And.intro tA oA);clear tA oA;go_enter Tryz.func102,Tryz.ntmps102;go_wp2
 go_loopw [6,7,12] (fun vy vo i wr=>∃k:Nat,k<=n/\i = .int .i64 k/\zH0 (zAP f g t k) (zEI f g t k) w wr vy vo) (fun _ _ i _=>n - (intOf i).toNat)
 case atStart=>exact⟨0,Nat.zero_le _,rfl,zBS.nil _ _,zBS.nil _ _,fun q hq=>by simp[Value.ownBlock]at hq,Below.refl _ _⟩
 case round=>
  obtain⟨k,hk,rfl,hy,ho,sA,hb⟩:=hrel;have Hy:=zV hy;have Ho:=zV ho;have iA:=zV sA;have cB:=zFr f g t k;clear hy ho sA;by_cases eB:k<n
  ·have fB:(k:Int)<(n:Int):=(by omega);obtain⟨b,off,rfl,q0,q1⟩:=(Hp.out.zbd hb).cellsD eB;have fA:=zD wr (.cells #[.int .i64 (f k),.int .i64 (g k)] 44);have HV:=zV (yG.new wr (.int .i64 (f k)) (.int .i64 (g k)) 44);have mA:=zA hb fA;have pA:=zV ((mA.cell (p:=⟨T,0,none⟩) (zO HT.out)).trans HT.out);have gB:∀(fn:Fn) (first cap:Array Value) (w:World),(Instr.makeFunc fn first cap).run Tryz.prog w = .ok (.func fn first cap) w:=fun _ _ _ _=>rfl
   go_wp2_with fail;refine(zRs (f k) (g k) t T _ pA.out).mono ?_;rintro e w1 ⟨⟨s,rfl,hs⟩,dA⟩;have bB:=zV ((Hy.out.zbd fA).zbd dA);have aB:=zV ((Ho.out.zbd fA).zbd dA);have vA:=zV (HV.out.zbd dA);have rA:=zA mA dA;clear dA mA fA Hy Ho HV q0 q1 pA;have iB:=rA.size;obtain⟨⟨x0,x1⟩,⟨x2,x3⟩⟩:=vA.out;have gA:=zD w1 (.cells #[.int .i64 (f k),.int .i64 (g k)] 44);have kA:=zV (bB.out.zbd gA);have jA:=zV (aB.out.zbd gA);have eA:=zA rA gA;have jB:(w1.alloc (.cells #[.int .i64 (f k),.int .i64 (g k)] 44)).heap.size=w1.heap.size+1:=World.size_alloc _ _;have HN:=zV (World.news_of_block (heap_alloc_last w1 (.cells #[.int .i64 (f k),.int .i64 (g k)] 44)));clear gA;by_cases hq:t<g k
   ·obtain rfl:s=true:=hs.2 hq;have ey:zAP f g t (k+1)=zAP f g t k ++ [(f k,g k)]:=if_pos hq;have eo:zEI f g t (k+1)=zEI f g t k:=if_pos hq;clear hs hq;go_wp2_with (first
     | (at_builtin;refine wpList_append_lies _ rfl _ _ 41 rfl w.heap.size 44 i0 (.agg #[.int .i64 0,.int .i64 0]) 2 16 (by kernel_rfl) HI.out.1 HI.out.2.1 HI.out.2.2.1 HI.out.2.2.2 rfl (by decide) _ _ _ rfl kA.out ⟨w1.heap.size,0,none⟩ 1 1 [.int .i64 (f k),.int .i64 (g k)] rfl rfl HN.out (by simp[Value.oneCell']) (by decide) (by unfold maxLen;omega) (by omega) (by omega) _ rfl ?_;intro g' lA w4 bA aA cA nA)
     | go_in)
    go_roundw
    case rel=>
     obtain⟨r1,r2,r3⟩:=zFq jA.out iA.out bA aA cA;exact⟨k+1,by omega,by go_num,by rw[ey];exact r1,by rw[eo];exact r2,r3,eA.grown aA eA.size (fun q hq=>(kA.out.lt hq).1)⟩
    case measure=>simp[intOf];omega
   ·obtain rfl:s=false:=zAR hs hq;have ey:zAP f g t (k+1)=zAP f g t k:=if_neg hq;have eo:zEI f g t (k+1)=zEI f g t k ++ [(f k,g k)]:=if_neg hq;clear hs hq;go_wp2_with (first
     | (at_builtin;refine wpList_append_lies _ rfl _ _ 41 rfl w.heap.size 44 i0 (.agg #[.int .i64 0,.int .i64 0]) 2 16 (by kernel_rfl) HI.out.1 HI.out.2.1 HI.out.2.2.1 HI.out.2.2.2 rfl (by decide) _ _ _ rfl jA.out ⟨w1.heap.size,0,none⟩ 1 1 [.int .i64 (f k),.int .i64 (g k)] rfl rfl HN.out (by simp[Value.oneCell']) (by decide) (by unfold maxLen;omega) (by omega) (by omega) _ rfl ?_;intro g' lA w4 bA aA cA nA)
     | go_in)
    go_roundw
    case rel=>
     obtain⟨r1,r2,r3⟩:=zFq kA.out (fun q h h'=>iA.out q h' h) bA aA cA;exact⟨k+1,by omega,by go_num,by rw[ey];exact r2,by rw[eo];exact r1,fun q h h'=>r3 q h' h,eA.grown aA eA.size (fun q hq=>(jA.out.lt hq).1)⟩
    case measure=>simp[intOf];omega
  ·obtain rfl:k=n:=(by omega);go_wp2
   go_ret2
   exact⟨_,_,rfl,Hy.out,Ho.out,iA.out,hb⟩
def zam(n:Nat)(f g:Nat->Int)(t:Int)(l:List (Int×Int)):Prop:=(zAs n f g/\zGj t->l=zAP f g t n)/\(¬(zAs n f g/\zGj t)->l = [])
def zal(n:Nat)(f g:Nat->Int)(t:Int)(l:List (Int×Int)):Prop:=(zAs n f g/\zGj t->l=zEI f g t n)/\(¬(zAs n f g/\zGj t)->l = [])
def zX8(n:Nat)(f g:Nat->Int)(t:Int)(w:World)(e:Ending)(w':World):Prop:=∃vy vo l l',e = .returned (.agg #[vy,vo])/\zam n f g t l/\zal n f g t l'/\zH0 l l' w w' vy vo
theorem zDy(v:Value)(n lo hi:Nat)(f g:Nat->Int)(t:Int)(w:World)(h1:qk w lo hi v n f g) :
  Calls Tryz.prog 71 #[v,.int .i64 t] w (zX8 n f g t w):=by
 have Hp:=zV h1;obtain⟨m1,a,c,rfl,mc,_⟩:=id h1;clear h1;have nA:∀(fn:Fn) (first cap:Array Value) (w:World),(Instr.makeFunc fn first cap).run Tryz.prog w = .ok (.func fn first cap) w:=fun _ _ _ _=>rfl
 have ha:=zD w (.cells #[.int .i64 t] 2);have gA:=zD (w.alloc (.cells #[.int .i64 t] 2)) (.cells #[.slice none 0 0,.slice none 0 0] 100);have hA:=zA ha gA;have HT:=zV (show yT ((w.alloc (.cells #[.int .i64 t] 2)).alloc (.cells #[.slice none 0 0,.slice none 0 0] 100)) w.heap.size 0 (.int .i64 t)from yT.zbd ⟨by rw[World.cell?_alloc_at _ _ _ _ rfl];rfl,World.frozen?_alloc_at _ _ _ _ rfl⟩ gA);have HR:=zV (yG.new (w.alloc (.cells #[.int .i64 t] 2)) (.slice none 0 0) (.slice none 0 0) 100);rw[World.size_alloc]at HR;clear ha gA;by_cases ho:zAs n f g
 ·have Ho:=zV ho;clear ho;by_cases hq:zGj t
  ·have Hq:=zV hq;clear hq;go_enter Tryz.func71,Tryz.ntmps71;go_wp2_with fail;generalize (w.alloc (.cells #[.int .i64 t] 2)).alloc (.cells #[.slice none 0 0,.slice none 0 0] 100)=W at HT HR hA ⊢;refine(zAS _ n lo hi f g _ (Hp.out.zbd hA)).mono ?_;rintro e w1 ⟨⟨s,rfl,hs⟩,aA⟩;obtain rfl:s=true:=hs.2 Ho.out;have eA:=zV (HT.out.zbd aA);have dA:=zV (HR.out.zbd aA);have cA:=zA hA aA;clear hs aA hA HT HR;obtain⟨x0,x1⟩:=eA.out;go_wp2_with (first
    | (go_at_call 108;refine(zHw t _).mono ?_;rintro e w2 ⟨⟨s,rfl,hs⟩,rfl⟩;obtain rfl:s=true:=hs.2 Hq.out;clear hs)
    | fail)
   go_wp2_with fail;refine(zXT _ n lo hi w.heap.size f g t _ (Hp.out.zbd cA) Ho.out.1 eA.out.1).mono ?_;rintro e w3 ⟨vy,vo,rfl,bA⟩;have iA:=bA.2.2.2;have mA:=qo bA.1;have jA:=qo bA.2.1;obtain⟨ya,yc,rfl,_⟩:=mA;obtain⟨oa,oc,rfl,_⟩:=jA;have kA:=zV (dA.out.zbd iA);have HN:=zV bA;have fA:w.heap.size+1<w2.heap.size:=dA.out.1.lt;have lA:=zA cA iA;clear bA iA x0 x1 eA dA;obtain⟨⟨x0,x1⟩,⟨x2,x3⟩⟩:=kA.out;go_wp2;refine bodyPost_ret (v:=.agg #[.slice ya (zAP f g t n).length yc,.slice oa (zEI f g t n).length oc]) (by simp[results,Tryz.results71,go_sem, *]) rfl ?_;refine⟨_,_,zAP f g t n,zEI f g t n,rfl,⟨fun _=>rfl,fun h=>absurd ⟨Ho.out,Hq.out⟩ h⟩,⟨fun _=>rfl,fun h=>absurd ⟨Ho.out,Hq.out⟩ h⟩,?_,?_,HN.out.2.2.1,(lA.setCell (by show w.heap.size<=w.heap.size+1;omega) _).setCell (by show w.heap.size<=w.heap.size+1;omega) _⟩
   ·exact(((zBS.put HN.out.1 fA _).put fA _)).mono cA.size
   ·exact(((zBS.put HN.out.2.1 fA _).put fA _)).mono cA.size
  ·have Hq:=zV hq;clear hq;go_enter Tryz.func71,Tryz.ntmps71;go_wp2_with fail;generalize (w.alloc (.cells #[.int .i64 t] 2)).alloc (.cells #[.slice none 0 0,.slice none 0 0] 100)=W at HT HR hA ⊢;refine(zAS _ n lo hi f g _ (Hp.out.zbd hA)).mono ?_;rintro e w1 ⟨⟨s,rfl,hs⟩,aA⟩;obtain rfl:s=true:=hs.2 Ho.out;have eA:=zV (HT.out.zbd aA);have dA:=zV (HR.out.zbd aA);have cA:=zA hA aA;clear hs aA hA HT HR;obtain⟨x0,x1⟩:=eA.out;obtain⟨⟨y0,y1⟩,⟨y2,y3⟩⟩:=dA.out;go_wp2_with (first
    | (go_at_call 108;refine(zHw t _).mono ?_;rintro e w2 ⟨⟨s,rfl,hs⟩,rfl⟩;obtain rfl:s=false:=zAR hs Hq.out;clear hs)
    | fail)
   go_wp2;refine bodyPost_ret (v:=.agg #[.slice none 0 0,.slice none 0 0]) (by simp[results,Tryz.results71,go_sem, *]) rfl ?_;exact⟨_,_,[],[],rfl,⟨fun h=>absurd h.2 Hq.out,fun _=>rfl⟩,⟨fun h=>absurd h.2 Hq.out,fun _=>rfl⟩,zBS.nil _ _,zBS.nil _ _,fun q hq=>by simp[Value.ownBlock]at hq,(cA.setCell (by show w.heap.size<=w.heap.size+1;omega) _).setCell (by show w.heap.size<=w.heap.size+1;omega) _⟩
 ·have Ho:=zV ho;clear ho;go_enter Tryz.func71,Tryz.ntmps71;go_wp2_with fail;generalize (w.alloc (.cells #[.int .i64 t] 2)).alloc (.cells #[.slice none 0 0,.slice none 0 0] 100)=W at HT HR hA ⊢;refine(zAS _ n lo hi f g _ (Hp.out.zbd hA)).mono ?_;rintro e w1 ⟨⟨s,rfl,hs⟩,aA⟩;obtain rfl:s=false:=zAR hs Ho.out;have dA:=zV (HR.out.zbd aA);have cA:=zA hA aA;clear hs aA hA HT HR;obtain⟨⟨y0,y1⟩,⟨y2,y3⟩⟩:=dA.out;go_wp2;refine bodyPost_ret (v:=.agg #[.slice none 0 0,.slice none 0 0]) (by simp[results,Tryz.results71,go_sem, *]) rfl ?_;exact⟨_,_,[],[],rfl,⟨fun h=>absurd h.1 Ho.out,fun _=>rfl⟩,⟨fun h=>absurd h.1 Ho.out,fun _=>rfl⟩,zBS.nil _ _,zBS.nil _ _,fun q hq=>by simp[Value.ownBlock]at hq,(cA.setCell (by show w.heap.size<=w.heap.size+1;omega) _).setCell (by show w.heap.size<=w.heap.size+1;omega) _⟩
theorem zP7{l m:List (Int×Int)}{k:Nat}(hk:k<l.length)(h:(zi l k,zu l k)∈m):yQ (l.take (k+1)) m=yQ (l.take k) m ++ [(zi l k,zu l k)]:=by
 unfold zi zu at h ⊢;rw[zAu hk]at h ⊢;unfold yQ;rw[List.take_succ_eq_append_getElem hk,List.filter_append,List.filter_cons];simp only[List.filter_nil];rw[if_pos (by simp;exact h)]
theorem zTB{l m:List (Int×Int)}{k:Nat}(hk:k<l.length)(h:(zi l k,zu l k)∉m):yQ (l.take (k+1)) m=yQ (l.take k) m:=by
 unfold zi zu at h;rw[zAu hk]at h;unfold yQ;rw[List.take_succ_eq_append_getElem hk,List.filter_append,List.filter_cons];simp only[List.filter_nil];rw[if_neg (by simp;exact h),List.append_nil]
theorem zP6(l m:List (Int×Int))(k:Nat):(yQ (l.take k) m).length<=k/\(zBy (l.take k) m).length<=k:=by
 refine⟨?_,zQh l m k⟩;unfold yQ;exact Nat.le_trans (List.length_filter_le _ _) (by rw[List.length_take];omega)
theorem zFI(v v2:Value)(lo hi fB eB T:Nat)(l m:List (Int×Int))(w:World)(h1:qk w lo hi v l.length (zi l) (zu l))(hn:l.length<=200)(h2:qk w fB eB v2 m.length (zi m) (zu m))(hT:w.cell? ⟨T,0,none⟩=some v2) :
  Calls Tryz.prog 102 #[v,.func (.func 103) #[] #[.pointer (some ⟨T,0,none⟩)]] w fun e w'=>∃vy vo,e = .returned (.tuple #[vy,vo])/\zH0 (yQ l m) (zBy l m) w w' vy vo:=by
 have Hp:=zV h1;have HT:=zV hT;have gB:=zV h2;obtain⟨m1,a,c,rfl,mc,_⟩:=id h1;clear h1 hT h2;unfold maxLen at m1;obtain⟨i0,cB,sA⟩:=Option.map_eq_some_iff.1 zIo;simp only[Prod.mk.injEq]at sA;have HI:=zV (And.intro cB sA);clear cB sA;go_enter Tryz.func102,Tryz.ntmps102;go_wp2
 go_loopw [6,7,12] (fun vy vo i wr=>∃k:Nat,k<=l.length/\i = .int .i64 k/\zH0 (yQ (l.take k) m) (zBy (l.take k) m) w wr vy vo) (fun _ _ i _=>l.length - (intOf i).toNat)
 case atStart=>exact⟨0,Nat.zero_le _,rfl,zBS.nil _ _,zBS.nil _ _,fun q hq=>by simp[Value.ownBlock]at hq,Below.refl _ _⟩
 case round=>
  obtain⟨k,hk,rfl,hy,ho,bB,hb⟩:=hrel;have Hy:=zV hy;have Ho:=zV ho;have kA:=zV bB;have lB:=zP6 l m k;clear hy ho bB;by_cases eA:k<l.length
  ·have mB:(k:Int)<(l.length:Int):=(by omega);obtain⟨b,off,rfl,q0,q1⟩:=(Hp.out.zbd hb).cellsD eA;have iA:=zD wr (.cells #[.int .i64 (zi l k),.int .i64 (zu l k)] 44);have HV:=zV (yG.new wr (.int .i64 (zi l k)) (.int .i64 (zu l k)) 44);have fA:=zA hb iA;have vA:=zV ((fA.cell (p:=⟨T,0,none⟩) (zO HT.out)).trans HT.out);have tA:=zV (gB.out.zbd fA);have nB:∀(fn:Fn) (first cap:Array Value) (w:World),(Instr.makeFunc fn first cap).run Tryz.prog w = .ok (.func fn first cap) w:=fun _ _ _ _=>rfl
   go_wp2_with fail;refine(zQZ v2 m.length fB eB (zi m) (zu m) (zi l k) (zu l k) T _ tA.out vA.out).mono ?_;rintro e w1 ⟨⟨s,rfl,hs⟩,dA⟩;have kB:=zV ((Hy.out.zbd iA).zbd dA);have jB:=zV ((Ho.out.zbd iA).zbd dA);have iB:=zV (HV.out.zbd dA);have aB:=zA fA dA;clear dA fA iA Hy Ho HV q0 q1 vA tA;have oB:=aB.size;obtain⟨⟨x0,x1⟩,⟨x2,x3⟩⟩:=iB.out;have jA:=zD w1 (.cells #[.int .i64 (zi l k),.int .i64 (zu l k)] 44);have mA:=zV (kB.out.zbd jA);have lA:=zV (jB.out.zbd jA);have gA:=zA aB jA;have pB:(w1.alloc (.cells #[.int .i64 (zi l k),.int .i64 (zu l k)] 44)).heap.size=w1.heap.size+1:=World.size_alloc _ _;have HN:=zV (World.news_of_block (heap_alloc_last w1 (.cells #[.int .i64 (zi l k),.int .i64 (zu l k)] 44)));clear jA;by_cases hq:(zi l k,zu l k)∈m
   ·obtain rfl:s=true:=hs.2 (zC3.2 hq);have ey:=zV (zP7 eA hq);have eo:=zV (zO8 eA hq);clear hs hq;go_wp2_with (first
     | (at_builtin;refine wpList_append_lies _ rfl _ _ 41 rfl w.heap.size 44 i0 (.agg #[.int .i64 0,.int .i64 0]) 2 16 (by kernel_rfl) HI.out.1 HI.out.2.1 HI.out.2.2.1 HI.out.2.2.2 rfl (by decide) _ _ _ rfl mA.out ⟨w1.heap.size,0,none⟩ 1 1 [.int .i64 (zi l k),.int .i64 (zu l k)] rfl rfl HN.out (by simp[Value.oneCell']) (by decide) (by unfold maxLen;omega) (by omega) (by omega) _ rfl ?_;intro g' nA w4 bA aA cA oA)
     | go_in)
    go_roundw
    case rel=>
     obtain⟨r1,r2,r3⟩:=zFq lA.out kA.out bA aA cA;exact⟨k+1,by omega,by go_num,by rw[ey.out];exact r1,by rw[eo.out];exact r2,r3,gA.grown aA gA.size (fun q hq=>(mA.out.lt hq).1)⟩
    case measure=>simp[intOf];omega
   ·obtain rfl:s=false:=zAR hs (fun h=>hq (zC3.1 h));have ey:=zV (zTB eA hq);have eo:=zV (zLw eA hq);clear hs hq;go_wp2_with (first
     | (at_builtin;refine wpList_append_lies _ rfl _ _ 41 rfl w.heap.size 44 i0 (.agg #[.int .i64 0,.int .i64 0]) 2 16 (by kernel_rfl) HI.out.1 HI.out.2.1 HI.out.2.2.1 HI.out.2.2.2 rfl (by decide) _ _ _ rfl lA.out ⟨w1.heap.size,0,none⟩ 1 1 [.int .i64 (zi l k),.int .i64 (zu l k)] rfl rfl HN.out (by simp[Value.oneCell']) (by decide) (by unfold maxLen;omega) (by omega) (by omega) _ rfl ?_;intro g' nA w4 bA aA cA oA)
     | go_in)
    go_roundw
    case rel=>
     obtain⟨r1,r2,r3⟩:=zFq mA.out (fun q h h'=>kA.out q h' h) bA aA cA;exact⟨k+1,by omega,by go_num,by rw[ey.out];exact r2,by rw[eo.out];exact r1,fun q h h'=>r3 q h' h,gA.grown aA gA.size (fun q hq=>(lA.out.lt hq).1)⟩
    case measure=>simp[intOf];omega
  ·obtain rfl:k=l.length:=(by omega);have rA:=Hy.out;have pA:=Ho.out;rw[List.take_length]at rA pA;have HY:=zV rA;have HO:=zV pA;clear rA pA Hy Ho;go_wp2
   go_ret2
   exact⟨_,_,rfl,HY.out,HO.out,kA.out,hb⟩
theorem zGN(v v2:Value)(lo hi fB eB T:Nat)(l m:List (Int×Int))(w:World)(h1:qk w lo hi v l.length (zi l) (zu l))(hn:l.length<=200)(h2:qk w fB eB v2 m.length (zi m) (zu m))(hT:w.cell? ⟨T,0,none⟩=some v2) :
  Calls Tryz.prog 102 #[v,.func (.func 105) #[] #[.pointer (some ⟨T,0,none⟩)]] w fun e w'=>∃vy vo,e = .returned (.tuple #[vy,vo])/\zH0 (yQ l m) (zBy l m) w w' vy vo:=by
 have Hp:=zV h1;have HT:=zV hT;have gB:=zV h2;obtain⟨m1,a,c,rfl,mc,_⟩:=id h1;clear h1 hT h2;unfold maxLen at m1;obtain⟨i0,cB,sA⟩:=Option.map_eq_some_iff.1 zIo;simp only[Prod.mk.injEq]at sA;have HI:=zV (And.intro cB sA);clear cB sA;go_enter Tryz.func102,Tryz.ntmps102;go_wp2
 go_loopw [6,7,12] (fun vy vo i wr=>∃k:Nat,k<=l.length/\i = .int .i64 k/\zH0 (yQ (l.take k) m) (zBy (l.take k) m) w wr vy vo) (fun _ _ i _=>l.length - (intOf i).toNat)
 case atStart=>exact⟨0,Nat.zero_le _,rfl,zBS.nil _ _,zBS.nil _ _,fun q hq=>by simp[Value.ownBlock]at hq,Below.refl _ _⟩
 case round=>
  obtain⟨k,hk,rfl,hy,ho,bB,hb⟩:=hrel;have Hy:=zV hy;have Ho:=zV ho;have kA:=zV bB;have lB:=zP6 l m k;clear hy ho bB;by_cases eA:k<l.length
  ·have mB:(k:Int)<(l.length:Int):=(by omega);obtain⟨b,off,rfl,q0,q1⟩:=(Hp.out.zbd hb).cellsD eA;have iA:=zD wr (.cells #[.int .i64 (zi l k),.int .i64 (zu l k)] 44);have HV:=zV (yG.new wr (.int .i64 (zi l k)) (.int .i64 (zu l k)) 44);have fA:=zA hb iA;have vA:=zV ((fA.cell (p:=⟨T,0,none⟩) (zO HT.out)).trans HT.out);have tA:=zV (gB.out.zbd fA);have nB:∀(fn:Fn) (first cap:Array Value) (w:World),(Instr.makeFunc fn first cap).run Tryz.prog w = .ok (.func fn first cap) w:=fun _ _ _ _=>rfl
   go_wp2_with fail;refine(zSE v2 m.length fB eB (zi m) (zu m) (zi l k) (zu l k) T _ tA.out vA.out).mono ?_;rintro e w1 ⟨⟨s,rfl,hs⟩,dA⟩;have kB:=zV ((Hy.out.zbd iA).zbd dA);have jB:=zV ((Ho.out.zbd iA).zbd dA);have iB:=zV (HV.out.zbd dA);have aB:=zA fA dA;clear dA fA iA Hy Ho HV q0 q1 vA tA;have oB:=aB.size;obtain⟨⟨x0,x1⟩,⟨x2,x3⟩⟩:=iB.out;have jA:=zD w1 (.cells #[.int .i64 (zi l k),.int .i64 (zu l k)] 44);have mA:=zV (kB.out.zbd jA);have lA:=zV (jB.out.zbd jA);have gA:=zA aB jA;have pB:(w1.alloc (.cells #[.int .i64 (zi l k),.int .i64 (zu l k)] 44)).heap.size=w1.heap.size+1:=World.size_alloc _ _;have HN:=zV (World.news_of_block (heap_alloc_last w1 (.cells #[.int .i64 (zi l k),.int .i64 (zu l k)] 44)));clear jA;by_cases hq:(zi l k,zu l k)∈m
   ·obtain rfl:s=true:=hs.2 (zC3.2 hq);have ey:=zV (zP7 eA hq);have eo:=zV (zO8 eA hq);clear hs hq;go_wp2_with (first
     | (at_builtin;refine wpList_append_lies _ rfl _ _ 41 rfl w.heap.size 44 i0 (.agg #[.int .i64 0,.int .i64 0]) 2 16 (by kernel_rfl) HI.out.1 HI.out.2.1 HI.out.2.2.1 HI.out.2.2.2 rfl (by decide) _ _ _ rfl mA.out ⟨w1.heap.size,0,none⟩ 1 1 [.int .i64 (zi l k),.int .i64 (zu l k)] rfl rfl HN.out (by simp[Value.oneCell']) (by decide) (by unfold maxLen;omega) (by omega) (by omega) _ rfl ?_;intro g' nA w4 bA aA cA oA)
     | go_in)
    go_roundw
    case rel=>
     obtain⟨r1,r2,r3⟩:=zFq lA.out kA.out bA aA cA;exact⟨k+1,by omega,by go_num,by rw[ey.out];exact r1,by rw[eo.out];exact r2,r3,gA.grown aA gA.size (fun q hq=>(mA.out.lt hq).1)⟩
    case measure=>simp[intOf];omega
   ·obtain rfl:s=false:=zAR hs (fun h=>hq (zC3.1 h));have ey:=zV (zTB eA hq);have eo:=zV (zLw eA hq);clear hs hq;go_wp2_with (first
     | (at_builtin;refine wpList_append_lies _ rfl _ _ 41 rfl w.heap.size 44 i0 (.agg #[.int .i64 0,.int .i64 0]) 2 16 (by kernel_rfl) HI.out.1 HI.out.2.1 HI.out.2.2.1 HI.out.2.2.2 rfl (by decide) _ _ _ rfl lA.out ⟨w1.heap.size,0,none⟩ 1 1 [.int .i64 (zi l k),.int .i64 (zu l k)] rfl rfl HN.out (by simp[Value.oneCell']) (by decide) (by unfold maxLen;omega) (by omega) (by omega) _ rfl ?_;intro g' nA w4 bA aA cA oA)
     | go_in)
    go_roundw
    case rel=>
     obtain⟨r1,r2,r3⟩:=zFq mA.out (fun q h h'=>kA.out q h' h) bA aA cA;exact⟨k+1,by omega,by go_num,by rw[ey.out];exact r2,by rw[eo.out];exact r1,fun q h h'=>r3 q h' h,gA.grown aA gA.size (fun q hq=>(lA.out.lt hq).1)⟩
    case measure=>simp[intOf];omega
  ·obtain rfl:k=l.length:=(by omega);have rA:=Hy.out;have pA:=Ho.out;rw[List.take_length]at rA pA;have HY:=zV rA;have HO:=zV pA;clear rA pA Hy Ho;go_wp2
   go_ret2
   exact⟨_,_,rfl,HY.out,HO.out,kA.out,hb⟩
theorem zBg(v v':Value)(n lo hi n' sA rA:Nat)(f g f' g':Nat->Int)(w:World)(h1:qk w lo hi v n f g)(h2:qk w sA rA v' n' f' g') :
  Calls Tryz.prog 106 #[v,v'] w fun e w'=>zJ (zGU n f g n' f' g') e/\Below w.heap.size w w':=by
 have Hp:=zV h1;have pA:=zV h2;obtain⟨m1,a,c,rfl,mc,_⟩:=id h1;obtain⟨m2,a',c',rfl,kB,_⟩:=id h2;unfold maxLen at m1 m2;clear h1 h2;by_cases ho:zAs n f g
 ·have Ho:=zV ho;clear ho;by_cases oA:zAs n' f' g'
  ·have cA:=zV oA;clear oA;go_enter Tryz.func106,Tryz.ntmps106;go_wp2_with fail;refine(zAS _ n lo hi f g _ Hp.out).mono ?_;rintro e w1 ⟨⟨t,rfl,ht⟩,bA⟩;obtain rfl:t=true:=ht.2 Ho.out;clear ht;go_wp2_with fail;refine(zAS _ n' sA rA f' g' _ (pA.out.zbd bA)).mono ?_;rintro e w2 ⟨⟨t,rfl,ht⟩,kA⟩;obtain rfl:t=true:=ht.2 cA.out;have iA:=zA bA kA;clear ht bA kA;go_wp2_with fail;refine(zHu _ n lo hi f g _ (Hp.out.zbd iA) Ho.out.1 Ho.out.2.1).mono ?_;rintro e w3 ⟨rfl,hm,cB⟩;have Hm:=zV hm;have aB:=zA iA cB;have hz:w.heap.size<=w2.heap.size:=iA.size;clear hm cB iA;go_wp2
   go_loopw [20] (fun i wr=>∃(k:Nat) (D:DataW Unit),k<=n'/\i = .int .i64 k/\zVj wr w2.heap.size n D/\zFN n f g f' k D/\(∀j,j<k->PIn n f g (f' j) (g' j))/\Below w.heap.size w wr) (fun i _=>n' - (intOf i).toNat)
   case atStart=>exact⟨0,_,Nat.zero_le _,rfl,Hm.out,zFN.start Ho.out f',fun j hj=>absurd hj (Nat.not_lt_zero _),aB⟩
   case round=>
    obtain⟨k,D,hk,rfl,mA,eA,eB,hb⟩:=hrel;have dA:=zV mA;have aA:=zV eA;have vA:=zV eB;clear mA eA eB Hm aB;by_cases fA:k<n'
    ·have fB:(k:Int)<(n':Int):=(by omega);obtain⟨b,off,rfl,q0,q1⟩:=(pA.out.zbd hb).cellsD fA;have lA:keyOf Tryz.prog 2 (.int .i64 (f' k))=some (zD6 (f' k)):=keyOf_int_mk zYa (zMl (cA.out.2.1 k fA).1 (by have:=(cA.out.2.1 k fA).2.1;omega));have jA:=zV lA;clear lA;have bA:=hb.alloc hb.size (.cells #[.int .i64 (f' k),.int .i64 (g' k)] 44);have jB:w2.heap.size<=wr.heap.size:=Nat.le_of_lt dA.out.lt;go_wp2_with (first
      | (at_lookup;refine wpList_lookup_own_int _ rfl _ _ 160 rfl 2 2 .i64 zaP zXD zYa (zbW _) w2.heap.size n D rfl (dA.out.alloc _) _ _ rfl jA.out ?_;intro c0 bB iB)
      | (at_delete;refine wpList_delete_own _ rfl _ _ 160 2 rfl 2 zaP zXD _ w2.heap.size n D rfl (dA.out.alloc _) _ _ rfl jA.out ?_;intro w4 nA gA)
      | go_in)
     ·have gB:c0≠g' k:=by
       have h:(c0 != g' k)=true:=(by assumption);simpa using h
      go_ret;exact⟨zJ.no (aA.out.no Ho.out cA.out fA (show D.atKey (zD6 (f' k)) (zF3 0)=zF3 c0 from bB) gB),bA⟩
     ·have he:c0=g' k:=by
       have h:(c0 != g' k)=false:=(by assumption);simpa using h
      subst he;have tA:D.atKey (zD6 (f' k)) (zF3 0)=zF3 (g' k):=bB;go_roundw
      case rel=>exact⟨k+1,_,by omega,by go_num,nA,aA.out.next cA.out fA tA,qi fA vA.out (aA.out.in cA.out fA tA),bA.grown gA.grown bA.size (fun j hj=>by cases hj;exact hz)⟩
      case measure=>simp[intOf];omega
    ·obtain rfl:k=n':=(by omega);go_wp2_with (first
      | (at_len;refine wpList_len_own _ rfl _ 160 rfl 2 2 zXD _ w2.heap.size n D rfl dA.out ?_)
      | go_in)
     go_ret;refine⟨⟨_,rfl,?_⟩,hb⟩;have He:=aA.out.end Ho.out cA.out vA.out;rw[<-He];simp
  ·have cA:=zV oA;clear oA;go_enter Tryz.func106,Tryz.ntmps106;go_wp2_with fail;refine(zAS _ n lo hi f g _ Hp.out).mono ?_;rintro e w1 ⟨⟨t,rfl,ht⟩,bA⟩;obtain rfl:t=true:=ht.2 Ho.out;clear ht;go_wp2_with fail;refine(zAS _ n' sA rA f' g' _ (pA.out.zbd bA)).mono ?_;rintro e w2 ⟨⟨t,rfl,ht⟩,kA⟩;obtain rfl:t=false:=zAR ht cA.out;have iA:=zA bA kA;clear ht bA kA;go_wp2;go_ret;exact⟨zJ.no fun h=>cA.out h.2.1,iA⟩
 ·have Ho:=zV ho;clear ho;go_enter Tryz.func106,Tryz.ntmps106;go_wp2_with fail;refine(zAS _ n lo hi f g _ Hp.out).mono ?_;rintro e w1 ⟨⟨t,rfl,ht⟩,bA⟩;obtain rfl:t=false:=zAR ht Ho.out;clear ht;go_wp2;go_ret;exact⟨zJ.no fun h=>Ho.out h.1,bA⟩
end Go.Proofs.YtginldeebkfbgaaGreat
