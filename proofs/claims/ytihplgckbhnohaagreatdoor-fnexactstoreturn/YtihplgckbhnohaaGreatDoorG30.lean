/- What the laws' measuring, copying and comparing of stores answers (no law is proved here). -/
import Derived.Test.YtihplgckbhnohaaGreatDoorG2
import Derived.Test.YtihplgckbhnohaaGreatDoorG3
import Derived.Test.YtihplgckbhnohaaGreatDoorG28
import Derived.Test.YtihplgckbhnohaaGreatDoorG29
import Derived.Test.YtihplgckbhnohaaGreatDoorProg
import GoSem.ClaimJoined
import GoSem.ClaimMapViews
import Derived.JoinedTies
import Derived.KernelRfl
import Derived.RowKit
import Derived.Test.YtihplgckbhnohaaGreatDoorG1
import Derived.Deep.RegionHeld3
import Derived.Deep.QuietTactic
import Derived.BigQuiet
namespace Go.Proofs.YtihplgckbhnohaaGreatDoor
open Go.RowKit Go.Maps
set_option linter.unusedVariables false
def storeN(S:StoreD):Nat:=worldN S.live+worldN S.safe
set_option maxRecDepth 20000 in
set_option maxHeartbeats 400000 in
theorem szStore_any(v0 v1 v2 v3 u0 u1 u2 u3:Value)(lo hi:Nat)(S:StoreD)(left:Int)(w:World)(h:StoreAt w lo hi v0 v1 v2 v3 u0 u1 u2 u3 S)(hl0:0≤left)(hl1:left≤1048576) :
  Calls Tryz.prog 6 #[storeV v0 v1 v2 v3 u0 u1 u2 u3 S,.int .i64 left] w fun e w'=>LeftIs (storeN S) left e∧Below w.heap.size w w':=by
 have H:=hideW h
 clear h
 have ha:=below_alloc w (.cells #[v0,v1,.int .i64 S.live.time,.int .i64 S.live.next,v2,v3,u0,u1,.int .i64 S.safe.time,.int .i64 S.safe.next,u2,u3] 31)
 have HX:=hideW (Box12.new w v0 v1 (.int .i64 S.live.time) (.int .i64 S.live.next) v2 v3 u0 u1 (.int .i64 S.safe.time) (.int .i64 S.safe.next) u2 u3 31)
 obtain⟨⟨x0,x0'⟩,⟨x1,x1'⟩,⟨x2,x2'⟩,⟨x3,x3'⟩,⟨x4,x4'⟩,⟨x5,x5'⟩,⟨x6,x6'⟩,⟨x7,x7'⟩,⟨x8,x8'⟩,⟨x9,x9'⟩,⟨x10,x10'⟩,⟨x11,x11'⟩⟩:=HX.out
 go_enter Tryz.func6,Tryz.ntmps6
 go_wp2_with fail
 refine(szWorld_any _ _ _ _ lo hi S.live _ _ (H.out.live.below ha) hl0 hl1).mono ?_
 rintro e w1 ⟨⟨r,rfl,hr1,hr2,hr3⟩,hb1⟩
 have hB1:=below_next ha hb1
 have HX1:=hideW (HX.out.below hb1)
 have Hr:=hideW hr1
 clear hr1 hb1 ha HX x0 x0' x1 x1' x2 x2' x3 x3' x4 x4' x5 x5' x6 x6' x7 x7' x8 x8' x9 x9' x10 x10' x11 x11'
 obtain⟨⟨x0,x0'⟩,⟨x1,x1'⟩,⟨x2,x2'⟩,⟨x3,x3'⟩,⟨x4,x4'⟩,⟨x5,x5'⟩,⟨x6,x6'⟩,⟨x7,x7'⟩,⟨x8,x8'⟩,⟨x9,x9'⟩,⟨x10,x10'⟩,⟨x11,x11'⟩⟩:=HX1.out
 by_cases h:r<0
 ·go_wp2
  go_ret
  exact⟨⟨-1,rfl,by omega,by omega,by omega⟩,hB1⟩
 ·go_wp2_with fail
  refine(szWorld_any _ _ _ _ lo hi S.safe _ _ (H.out.safe.below hB1) (by omega) (by omega)).mono ?_
  rintro e w2 ⟨⟨r',rfl,hq1,hq2,hq3⟩,hb2⟩
  have hB2:=below_next hB1 hb2
  have Hq:=hideW hq1
  clear hq1 hb2 x0 x0' x1 x1' x2 x2' x3 x3' x4 x4' x5 x5' x6 x6' x7 x7' x8 x8' x9 x9' x10 x10' x11 x11'
  by_cases h3:r'<0
  ·go_wp2
   go_ret
   exact⟨⟨-1,rfl,by omega,by omega,by omega⟩,hB2⟩
  ·go_wp2
   go_ret
   exact⟨⟨r',rfl,fun _=>by have h1:=Hr.out (by omega); have h2:=Hq.out (by omega); unfold storeN; omega,by omega,by omega⟩,hB2⟩
set_option maxRecDepth 20000 in
set_option maxHeartbeats 400000 in
theorem eqStore_same(v0 v1 v2 v3 u0 u1 u2 u3 x0 x1 x2 x3 y0 y1 y2 y3:Value)(lo hi lo' hi':Nat)(S:StoreD)(w:World)(h1:StoreAt w lo hi v0 v1 v2 v3 u0 u1 u2 u3 S)(h2:StoreAt w lo' hi' x0 x1 x2 x3 y0 y1 y2 y3 S) :
  Calls Tryz.prog 11 #[storeV v0 v1 v2 v3 u0 u1 u2 u3 S,storeV x0 x1 x2 x3 y0 y1 y2 y3 S] w fun e w'=>e = .returned (.bool true)∧Below w.heap.size w w':=by
 have H1:=hideW h1
 have H2:=hideW h2
 clear h1 h2
 have ha:=below_alloc w (.cells #[v0,v1,.int .i64 S.live.time,.int .i64 S.live.next,v2,v3,u0,u1,.int .i64 S.safe.time,.int .i64 S.safe.next,u2,u3] 41)
 have ha2:=below_alloc (w.alloc (.cells #[v0,v1,.int .i64 S.live.time,.int .i64 S.live.next,v2,v3,u0,u1,.int .i64 S.safe.time,.int .i64 S.safe.next,u2,u3] 41)) (.cells #[x0,x1,.int .i64 S.live.time,.int .i64 S.live.next,x2,x3,y0,y1,.int .i64 S.safe.time,.int .i64 S.safe.next,y2,y3] 41)
 have hA:=below_next ha ha2
 have HX:=hideW ((Box12.new w v0 v1 (.int .i64 S.live.time) (.int .i64 S.live.next) v2 v3 u0 u1 (.int .i64 S.safe.time) (.int .i64 S.safe.next) u2 u3 41).below ha2)
 have hy:=Box12.new (w.alloc (.cells #[v0,v1,.int .i64 S.live.time,.int .i64 S.live.next,v2,v3,u0,u1,.int .i64 S.safe.time,.int .i64 S.safe.next,u2,u3] 41)) x0 x1 (.int .i64 S.live.time) (.int .i64 S.live.next) x2 x3 y0 y1 (.int .i64 S.safe.time) (.int .i64 S.safe.next) y2 y3 41
 rw [World.size_alloc] at hy
 have HY:=hideW hy
 clear hy ha ha2
 obtain⟨⟨p0,p0'⟩,⟨p1,p1'⟩,⟨p2,p2'⟩,⟨p3,p3'⟩,⟨p4,p4'⟩,⟨p5,p5'⟩,⟨p6,p6'⟩,⟨p7,p7'⟩,⟨p8,p8'⟩,⟨p9,p9'⟩,⟨p10,p10'⟩,⟨p11,p11'⟩⟩:=HX.out
 obtain⟨⟨q0,q0'⟩,⟨q1,q1'⟩,⟨q2,q2'⟩,⟨q3,q3'⟩,⟨q4,q4'⟩,⟨q5,q5'⟩,⟨q6,q6'⟩,⟨q7,q7'⟩,⟨q8,q8'⟩,⟨q9,q9'⟩,⟨q10,q10'⟩,⟨q11,q11'⟩⟩:=HY.out
 go_enter Tryz.func11,Tryz.ntmps11
 go_wp2_with fail
 clear p0 p0' p1 p1' p2 p2' p3 p3' p4 p4' p5 p5' p6 p6' p7 p7' p8 p8' p9 p9' p10 p10' p11 p11' q0 q0' q1 q1' q2 q2' q3 q3' q4 q4' q5 q5' q6 q6' q7 q7' q8 q8' q9 q9' q10 q10' q11 q11'
 generalize (w.alloc (.cells #[v0,v1,.int .i64 S.live.time,.int .i64 S.live.next,v2,v3,u0,u1,.int .i64 S.safe.time,.int .i64 S.safe.next,u2,u3] 41)).alloc (.cells #[x0,x1,.int .i64 S.live.time,.int .i64 S.live.next,x2,x3,y0,y1,.int .i64 S.safe.time,.int .i64 S.safe.next,y2,y3] 41)=W0 at hA HX HY ⊢
 refine(eqWorld_same _ _ _ _ _ _ _ _ _ _ _ _ S.live W0 (H1.out.live.below hA) (H2.out.live.below hA)).mono ?_
 rintro e w1 ⟨rfl,hb1⟩
 have hB1:=below_next hA hb1
 obtain⟨⟨p0,p0'⟩,⟨p1,p1'⟩,⟨p2,p2'⟩,⟨p3,p3'⟩,⟨p4,p4'⟩,⟨p5,p5'⟩,⟨p6,p6'⟩,⟨p7,p7'⟩,⟨p8,p8'⟩,⟨p9,p9'⟩,⟨p10,p10'⟩,⟨p11,p11'⟩⟩:=HX.out.below hb1
 obtain⟨⟨q0,q0'⟩,⟨q1,q1'⟩,⟨q2,q2'⟩,⟨q3,q3'⟩,⟨q4,q4'⟩,⟨q5,q5'⟩,⟨q6,q6'⟩,⟨q7,q7'⟩,⟨q8,q8'⟩,⟨q9,q9'⟩,⟨q10,q10'⟩,⟨q11,q11'⟩⟩:=HY.out.below hb1
 clear hb1 HX HY hA
 go_wp2_with fail
 clear p0 p0' p1 p1' p2 p2' p3 p3' p4 p4' p5 p5' p6 p6' p7 p7' p8 p8' p9 p9' p10 p10' p11 p11' q0 q0' q1 q1' q2 q2' q3 q3' q4 q4' q5 q5' q6 q6' q7 q7' q8 q8' q9 q9' q10 q10' q11 q11'
 refine(eqWorld_same _ _ _ _ _ _ _ _ _ _ _ _ S.safe w1 (H1.out.safe.below hB1) (H2.out.safe.below hB1)).mono ?_
 rintro e w2 ⟨rfl,hb2⟩
 have hB2:=below_next hB1 hb2
 clear hb2 hB1
 go_wp2
 go_ret
 exact⟨rfl,hB2⟩
set_option maxRecDepth 20000 in
set_option maxHeartbeats 1000000 in
theorem toStore_any(v0 v1 v2 v3 u0 u1 u2 u3:Value)(lo hi:Nat)(S:StoreD)(w:World)(h:StoreAt w lo hi v0 v1 v2 v3 u0 u1 u2 u3 S)(hn:storeN S≤1048576):Calls Tryz.prog 8 #[storeV v0 v1 v2 v3 u0 u1 u2 u3 S] w (NewStore S w):=by
 obtain⟨s0a,t0a,s0b,t0b,s0c,t0c,s0d,t0d,rfl,rfl,rfl,rfl⟩:=h.live.form
 obtain⟨s1a,t1a,s1b,t1b,s1c,t1c,s1d,t1d,rfl,rfl,rfl,rfl⟩:=h.safe.form
 have H:=hideW h
 clear h
 unfold storeN at hn
 have hst:∀Wa Wb Wc:World,Wa=w.alloc (.cells #[.slice s0a S.live.pool.n t0a,.slice s0b S.live.pool.hn t0b,.int .i64 S.live.time,.int .i64 S.live.next,.slice s0c S.live.sn t0c,.slice s0d S.live.pn t0d,.slice s1a S.safe.pool.n t1a,.slice s1b S.safe.pool.hn t1b,.int .i64 S.safe.time,.int .i64 S.safe.next,.slice s1c S.safe.sn t1c,.slice s1d S.safe.pn t1d] 31)→Wb=Wa.alloc (.cells #[.slice none 0 0,.slice none 0 0,.int .i64 0,.int .i64 0,.slice none 0 0,.slice none 0 0,.slice none 0 0,.slice none 0 0,.int .i64 0,.int .i64 0,.slice none 0 0,.slice none 0 0] 41)→Wc=Wb.alloc (.cells #[.slice none 0 0,.slice none 0 0,.int .i64 0,.int .i64 0,.slice none 0 0,.slice none 0 0,.slice none 0 0,.slice none 0 0,.int .i64 0,.int .i64 0,.slice none 0 0,.slice none 0 0] 41)→Box12 Wc w.heap.size (.slice s0a S.live.pool.n t0a) (.slice s0b S.live.pool.hn t0b) (.int .i64 S.live.time) (.int .i64 S.live.next) (.slice s0c S.live.sn t0c) (.slice s0d S.live.pn t0d) (.slice s1a S.safe.pool.n t1a) (.slice s1b S.safe.pool.hn t1b) (.int .i64 S.safe.time) (.int .i64 S.safe.next) (.slice s1c S.safe.sn t1c) (.slice s1d S.safe.pn t1d)∧Box12 Wc (w.heap.size+1) (.slice none 0 0) (.slice none 0 0) (.int .i64 0) (.int .i64 0) (.slice none 0 0) (.slice none 0 0) (.slice none 0 0) (.slice none 0 0) (.int .i64 0) (.int .i64 0) (.slice none 0 0) (.slice none 0 0)∧Box12 Wc (w.heap.size+1+1) (.slice none 0 0) (.slice none 0 0) (.int .i64 0) (.int .i64 0) (.slice none 0 0) (.slice none 0 0) (.slice none 0 0) (.slice none 0 0) (.int .i64 0) (.int .i64 0) (.slice none 0 0) (.slice none 0 0)∧Below w.heap.size w Wc∧Wc.heap.size=w.heap.size+3:=by
  rintro Wa Wb Wc ea eb ec
  have ha:=below_alloc w (.cells #[.slice s0a S.live.pool.n t0a,.slice s0b S.live.pool.hn t0b,.int .i64 S.live.time,.int .i64 S.live.next,.slice s0c S.live.sn t0c,.slice s0d S.live.pn t0d,.slice s1a S.safe.pool.n t1a,.slice s1b S.safe.pool.hn t1b,.int .i64 S.safe.time,.int .i64 S.safe.next,.slice s1c S.safe.sn t1c,.slice s1d S.safe.pn t1d] 31)
  have h1:=Box12.new w (.slice s0a S.live.pool.n t0a) (.slice s0b S.live.pool.hn t0b) (.int .i64 S.live.time) (.int .i64 S.live.next) (.slice s0c S.live.sn t0c) (.slice s0d S.live.pn t0d) (.slice s1a S.safe.pool.n t1a) (.slice s1b S.safe.pool.hn t1b) (.int .i64 S.safe.time) (.int .i64 S.safe.next) (.slice s1c S.safe.sn t1c) (.slice s1d S.safe.pn t1d) 31
  have z1:Wa.heap.size=w.heap.size+1:=by rw [ea]; exact World.size_alloc _ _
  rw [←ea] at ha h1
  have hb:=below_alloc Wa (.cells #[.slice none 0 0,.slice none 0 0,.int .i64 0,.int .i64 0,.slice none 0 0,.slice none 0 0,.slice none 0 0,.slice none 0 0,.int .i64 0,.int .i64 0,.slice none 0 0,.slice none 0 0] 41)
  have h2:=Box12.new Wa (.slice none 0 0) (.slice none 0 0) (.int .i64 0) (.int .i64 0) (.slice none 0 0) (.slice none 0 0) (.slice none 0 0) (.slice none 0 0) (.int .i64 0) (.int .i64 0) (.slice none 0 0) (.slice none 0 0) 41
  have z2:Wb.heap.size=w.heap.size+1+1:=by rw [eb,World.size_alloc,z1]
  rw [←eb,z1] at h2
  rw [←eb] at hb
  have hc:=below_alloc Wb (.cells #[.slice none 0 0,.slice none 0 0,.int .i64 0,.int .i64 0,.slice none 0 0,.slice none 0 0,.slice none 0 0,.slice none 0 0,.int .i64 0,.int .i64 0,.slice none 0 0,.slice none 0 0] 41)
  have h3:=Box12.new Wb (.slice none 0 0) (.slice none 0 0) (.int .i64 0) (.int .i64 0) (.slice none 0 0) (.slice none 0 0) (.slice none 0 0) (.slice none 0 0) (.int .i64 0) (.int .i64 0) (.slice none 0 0) (.slice none 0 0) 41
  have z3:Wc.heap.size=w.heap.size+3:=by rw [ec,World.size_alloc,z2]
  rw [←ec,z2] at h3
  rw [←ec] at hc
  exact⟨(h1.below hb).below hc,h2.below hc,h3,below_next (below_next ha hb) hc,z3⟩
 obtain⟨hx,hy,hz,hbw,hsz⟩:=hst _ _ _ rfl rfl rfl
 have HX:=hideW hx
 have HY:=hideW hy
 have HZ:=hideW hz
 have HS:=hideW hsz
 clear hx hy hz hst hsz
 go_enter Tryz.func8,Tryz.ntmps8
 obtain⟨⟨x0,x0'⟩,⟨x1,x1'⟩,⟨x2,x2'⟩,⟨x3,x3'⟩,⟨x4,x4'⟩,⟨x5,x5'⟩,⟨x6,x6'⟩,⟨x7,x7'⟩,⟨x8,x8'⟩,⟨x9,x9'⟩,⟨x10,x10'⟩,⟨x11,x11'⟩⟩:=HX.out
 go_wp2_with fail
 clear x0 x0' x1 x1' x2 x2' x3 x3' x4 x4' x5 x5' x6 x6' x7 x7' x8 x8' x9 x9' x10 x10' x11 x11'
 generalize ((w.alloc (.cells #[.slice s0a S.live.pool.n t0a,.slice s0b S.live.pool.hn t0b,.int .i64 S.live.time,.int .i64 S.live.next,.slice s0c S.live.sn t0c,.slice s0d S.live.pn t0d,.slice s1a S.safe.pool.n t1a,.slice s1b S.safe.pool.hn t1b,.int .i64 S.safe.time,.int .i64 S.safe.next,.slice s1c S.safe.sn t1c,.slice s1d S.safe.pn t1d] 31)).alloc (.cells #[.slice none 0 0,.slice none 0 0,.int .i64 0,.int .i64 0,.slice none 0 0,.slice none 0 0,.slice none 0 0,.slice none 0 0,.int .i64 0,.int .i64 0,.slice none 0 0,.slice none 0 0] 41)).alloc (.cells #[.slice none 0 0,.slice none 0 0,.int .i64 0,.int .i64 0,.slice none 0 0,.slice none 0 0,.slice none 0 0,.slice none 0 0,.int .i64 0,.int .i64 0,.slice none 0 0,.slice none 0 0] 41)=W0 at HX HY HZ HS hbw ⊢
 refine(toWorld_any _ _ _ _ lo hi S.live W0 (H.out.live.below hbw) (by omega)).mono ?_
 rintro e w1 ⟨x0,x1,x2,x3,rfl,hP,hb1⟩
 obtain⟨s2a,t2a,s2b,t2b,s2c,t2c,s2d,t2d,rfl,rfl,rfl,rfl⟩:=hP.form
 have hz1:=hb1.size
 have hz0:=HS.out
 have T1:=Turned.put12a w1 (w.heap.size+1+1) (.slice s2a S.live.pool.n t2a) (.slice s2b S.live.pool.hn t2b) (.int .i64 S.live.time) (.int .i64 S.live.next) (.slice s2c S.live.sn t2c) (.slice s2d S.live.pn t2d)
 have HP1:=hideW (hP.turned T1 (fun k e=>Or.inl (by show k<W0.heap.size; omega)))
 have HX1:=hideW ((HX.out.below hb1).turned T1 (fun e=>absurd e (by omega)))
 have HY1:=hideW ((HY.out.below hb1).turned T1 (fun e=>absurd e (by omega)))
 have HZ1:=hideW ((HZ.out.below hb1).put12a (.slice s2a S.live.pool.n t2a) (.slice s2b S.live.pool.hn t2b) (.int .i64 S.live.time) (.int .i64 S.live.next) (.slice s2c S.live.sn t2c) (.slice s2d S.live.pn t2d))
 have hB1:=(below_next hbw hb1).trans (T1.below (B:=w.heap.size) (by omega) (fun k e=>by omega))
 have HS1:=hideW (show w1.heap.size≤((((((w1.setCell ⟨w.heap.size+1+1,0,none⟩ (.slice s2a S.live.pool.n t2a)).setCell ⟨w.heap.size+1+1,1,none⟩ (.slice s2b S.live.pool.hn t2b)).setCell ⟨w.heap.size+1+1,2,none⟩ (.int .i64 S.live.time)).setCell ⟨w.heap.size+1+1,3,none⟩ (.int .i64 S.live.next)).setCell ⟨w.heap.size+1+1,4,none⟩ (.slice s2c S.live.sn t2c)).setCell ⟨w.heap.size+1+1,5,none⟩ (.slice s2d S.live.pn t2d)).heap.size∧((((((w1.setCell ⟨w.heap.size+1+1,0,none⟩ (.slice s2a S.live.pool.n t2a)).setCell ⟨w.heap.size+1+1,1,none⟩ (.slice s2b S.live.pool.hn t2b)).setCell ⟨w.heap.size+1+1,2,none⟩ (.int .i64 S.live.time)).setCell ⟨w.heap.size+1+1,3,none⟩ (.int .i64 S.live.next)).setCell ⟨w.heap.size+1+1,4,none⟩ (.slice s2c S.live.sn t2c)).setCell ⟨w.heap.size+1+1,5,none⟩ (.slice s2d S.live.pn t2d)).heap.size≤w1.heap.size by simp only [World.size_setCell]; omega)
 have HZ0:=hideW (show w.heap.size+3≤W0.heap.size∧W0.heap.size≤w1.heap.size by omega)
 obtain⟨⟨x0,x0'⟩,⟨x1,x1'⟩,⟨x2,x2'⟩,⟨x3,x3'⟩,⟨x4,x4'⟩,⟨x5,x5'⟩,⟨x6,x6'⟩,⟨x7,x7'⟩,⟨x8,x8'⟩,⟨x9,x9'⟩,⟨x10,x10'⟩,⟨x11,x11'⟩⟩:=HX.out.below hb1
 obtain⟨⟨z0,z0'⟩,⟨z1,z1'⟩,⟨z2,z2'⟩,⟨z3,z3'⟩,⟨z4,z4'⟩,⟨z5,z5'⟩,⟨z6,z6'⟩,⟨z7,z7'⟩,⟨z8,z8'⟩,⟨z9,z9'⟩,⟨z10,z10'⟩,⟨z11,z11'⟩⟩:=HZ.out.below hb1
 clear hb1 hbw HX HY HZ HS hz0 hz1 hP T1
 go_wp2_with fail
 clear x0 x0' x1 x1' x2 x2' x3 x3' x4 x4' x5 x5' x6 x6' x7 x7' x8 x8' x9 x9' x10 x10' x11 x11' z0 z0' z1 z1' z2 z2' z3 z3' z4 z4' z5 z5' z6 z6' z7 z7' z8 z8' z9 z9' z10 z10' z11 z11'
 generalize ((((((w1.setCell ⟨w.heap.size+1+1,0,none⟩ (.slice s2a S.live.pool.n t2a)).setCell ⟨w.heap.size+1+1,1,none⟩ (.slice s2b S.live.pool.hn t2b)).setCell ⟨w.heap.size+1+1,2,none⟩ (.int .i64 S.live.time)).setCell ⟨w.heap.size+1+1,3,none⟩ (.int .i64 S.live.next)).setCell ⟨w.heap.size+1+1,4,none⟩ (.slice s2c S.live.sn t2c)).setCell ⟨w.heap.size+1+1,5,none⟩ (.slice s2d S.live.pn t2d))=W1 at HP1 HX1 HY1 HZ1 HS1 hB1 ⊢
 refine(toWorld_any _ _ _ _ lo hi S.safe W1 (H.out.safe.below hB1) (by omega)).mono ?_
 rintro e w2 ⟨x0,x1,x2,x3,rfl,hQ,hb2⟩
 obtain⟨s3a,t3a,s3b,t3b,s3c,t3c,s3d,t3d,rfl,rfl,rfl,rfl⟩:=hQ.form
 have HP2:=hideW (HP1.out.below hb2)
 have HX2:=hideW (HX1.out.below hb2)
 have HY2:=hideW (HY1.out.below hb2)
 have HZ2:=hideW (HZ1.out.below hb2)
 have HQ2:=hideW hQ
 have hB2:=below_next hB1 hb2
 have HZ02:=hideW (show W1.heap.size≤w2.heap.size from hb2.size)
 clear hb2 hB1 HX1 HY1 HZ1 HP1 hQ
 obtain⟨⟨y0,y0'⟩,⟨y1,y1'⟩,⟨y2,y2'⟩,⟨y3,y3'⟩,⟨y4,y4'⟩,⟨y5,y5'⟩,⟨y6,y6'⟩,⟨y7,y7'⟩,⟨y8,y8'⟩,⟨y9,y9'⟩,⟨y10,y10'⟩,⟨y11,y11'⟩⟩:=HY2.out
 obtain⟨⟨z0,z0'⟩,⟨z1,z1'⟩,⟨z2,z2'⟩,⟨z3,z3'⟩,⟨z4,z4'⟩,⟨z5,z5'⟩,⟨z6,z6'⟩,⟨z7,z7'⟩,⟨z8,z8'⟩,⟨z9,z9'⟩,⟨z10,z10'⟩,⟨z11,z11'⟩⟩:=HZ2.out
 go_wp2
 have hs1:=HS1.out
 have hz0:=HZ0.out
 have hz2:=HZ02.out
 have T3:=Turned.put12b w2 (w.heap.size+1+1) (.slice s3a S.safe.pool.n t3a) (.slice s3b S.safe.pool.hn t3b) (.int .i64 S.safe.time) (.int .i64 S.safe.next) (.slice s3c S.safe.sn t3c) (.slice s3d S.safe.pn t3d)
 have HR:=(HY2.out.turned T3 (fun e=>absurd e (by omega))).put (.slice s2a S.live.pool.n t2a) (.slice s2b S.live.pool.hn t2b) (.int .i64 S.live.time) (.int .i64 S.live.next) (.slice s2c S.live.sn t2c) (.slice s2d S.live.pn t2d) (.slice s3a S.safe.pool.n t3a) (.slice s3b S.safe.pool.hn t3b) (.int .i64 S.safe.time) (.int .i64 S.safe.next) (.slice s3c S.safe.sn t3c) (.slice s3d S.safe.pn t3d)
 have T4:=Turned.put12 (((((((w2.setCell ⟨w.heap.size+1+1,6,none⟩ (.slice s3a S.safe.pool.n t3a)).setCell ⟨w.heap.size+1+1,7,none⟩ (.slice s3b S.safe.pool.hn t3b)).setCell ⟨w.heap.size+1+1,8,none⟩ (.int .i64 S.safe.time)).setCell ⟨w.heap.size+1+1,9,none⟩ (.int .i64 S.safe.next)).setCell ⟨w.heap.size+1+1,10,none⟩ (.slice s3c S.safe.sn t3c)).setCell ⟨w.heap.size+1+1,11,none⟩ (.slice s3d S.safe.pn t3d))) (w.heap.size+1) (.slice s2a S.live.pool.n t2a) (.slice s2b S.live.pool.hn t2b) (.int .i64 S.live.time) (.int .i64 S.live.next) (.slice s2c S.live.sn t2c) (.slice s2d S.live.pn t2d) (.slice s3a S.safe.pool.n t3a) (.slice s3b S.safe.pool.hn t3b) (.int .i64 S.safe.time) (.int .i64 S.safe.next) (.slice s3c S.safe.sn t3c) (.slice s3d S.safe.pn t3d)
 have TT:=(T3.mono (T:=fun k=>k=w.heap.size+1∨k=w.heap.size+1+1) (fun k e=>Or.inr e)).trans (T4.mono (fun k e=>Or.inl e))
 refine bodyPost_ret (v:=.agg #[.slice s2a S.live.pool.n t2a,.slice s2b S.live.pool.hn t2b,.int .i64 S.live.time,.int .i64 S.live.next,.slice s2c S.live.sn t2c,.slice s2d S.live.pn t2d,.slice s3a S.safe.pool.n t3a,.slice s3b S.safe.pool.hn t3b,.int .i64 S.safe.time,.int .i64 S.safe.next,.slice s3c S.safe.sn t3c,.slice s3d S.safe.pn t3d]) (by simp [results,Tryz.results8,go_sem,HR.1.1,HR.2.1.1,HR.2.2.1.1,HR.2.2.2.1.1,HR.2.2.2.2.1.1,HR.2.2.2.2.2.1.1,HR.2.2.2.2.2.2.1.1,HR.2.2.2.2.2.2.2.1.1,HR.2.2.2.2.2.2.2.2.1.1,HR.2.2.2.2.2.2.2.2.2.1.1,HR.2.2.2.2.2.2.2.2.2.2.1.1,HR.2.2.2.2.2.2.2.2.2.2.2.1]) rfl ⟨_,_,_,_,_,_,_,_,rfl,?_,?_⟩
 ·refine⟨W0.heap.size,w1.heap.size,W1.heap.size,w2.heap.size,HP2.out.turned TT (fun k e=>by omega),HQ2.out.turned TT (fun k e=>by omega),by omega,?_,by omega,?_,Or.inl (by omega)⟩
  ·simp only [World.size_setCell]; omega
  ·simp only [World.size_setCell]; omega
 ·exact hB2.trans (TT.below (B:=w.heap.size) (by omega) (fun k e=>by omega))
section
variable {H : Type} {enc : TypeId × Value → H} {W : World} {spare : Nat → Bool} {held : Bool}
open Go.Deep Go.Joins Go.ChangeShapes Go.WideShapes Go.ChangeAt
set_option maxRecDepth 100000
theorem array12w{α : Type}{cs:Array α}(h:cs.size=12):∃c0 c1 c2 c3 c4 c5 c6 c7 c8 c9 c10 c11,cs=#[c0,c1,c2,c3,c4,c5,c6,c7,c8,c9,c10,c11]:=by
 obtain⟨l⟩:=cs
 match l,h with
 | [c0,c1,c2,c3,c4,c5,c6,c7,c8,c9,c10,c11],_=>exact⟨c0,c1,c2,c3,c4,c5,c6,c7,c8,c9,c10,c11,rfl⟩
theorem open_world_cells{fuel:Nat}{c0 c1 c2 c3 c4 c5:Value}{x:DataW H×List MemPlace}(hf':DataW.trod enc Tryz.prog W 0 spare held fuel 29 [c0,c1,c2,c3,c4,c5]=some x):∃D,c2 = .int .i64 D.time∧c3 = .int .i64 D.next∧WorldAt W 0 W.heap.size c0 c1 c4 c5 D∧WorldWf D:=by
 obtain⟨n0,y0,h0⟩:=field_of (t:=29) (T:=25) (o:=0) (c:=2) (i:=0) (by kernel_rfl) (by kernel_rfl) (by kernel_rfl) hf'
 obtain⟨n1,y1,h1⟩:=field_of (t:=29) (T:=2) (o:=2) (c:=1) (i:=1) (by kernel_rfl) (by kernel_rfl) (by kernel_rfl) hf'
 obtain⟨n2,y2,h2⟩:=field_of (t:=29) (T:=2) (o:=3) (c:=1) (i:=2) (by kernel_rfl) (by kernel_rfl) (by kernel_rfl) hf'
 obtain⟨n3,y3,h3⟩:=field_of (t:=29) (T:=26) (o:=4) (c:=1) (i:=3) (by kernel_rfl) (by kernel_rfl) (by kernel_rfl) hf'
 obtain⟨n4,y4,h4⟩:=field_of (t:=29) (T:=27) (o:=5) (c:=1) (i:=4) (by kernel_rfl) (by kernel_rfl) (by kernel_rfl) hf'
 obtain⟨p,hp⟩:=open_pool_cells (c0:=c0) (c1:=c1) (by simpa using h0)
 obtain⟨z1,e1,-,w1⟩:=DataW.trod_int (show Tryz.prog.underlying 2=some (.int .i64)by kernel_rfl) h1
 obtain⟨z2,e2,-,w2⟩:=DataW.trod_int (show Tryz.prog.underlying 2=some (.int .i64)by kernel_rfl) h2
 obtain⟨sn,f,hS,hSw⟩:=open_sets_at (v:=c4) (by simpa using h3)
 obtain⟨pn,g,hP,hPw⟩:=open_snaps_at (v:=c5) (by simpa using h4)
 exact⟨⟨p,z1,z2,sn,f,pn,g⟩,by simpa using e1,by simpa using e2,⟨hp,hS,hP⟩,⟨w1,w2,hSw,hPw⟩⟩
theorem open_store{r:Reach}{b0:Nat}{v:Value}{d:DataW H}{ps:List MemPlace}(hv:Value.okWide Tryz.prog W r b0 31 v)(h:DataW.Trod enc Tryz.prog W 0 spare held 31 v d ps) :
  ∃v0 v1 v2 v3 u0 u1 u2 u3 D,v=storeV v0 v1 v2 v3 u0 u1 u2 u3 D∧StoreAt W 0 W.heap.size v0 v1 v2 v3 u0 u1 u2 u3 D∧WorldWf D.live∧WorldWf D.safe:=by
 have hs:Tryz.prog.underlying 31=some (.struct (Tryz.prog.fieldsOf 31)):=by kernel_rfl
 obtain⟨cs,rfl,hsz⟩:=okWide_struct hs hv
 obtain⟨c0,c1,c2,c3,c4,c5,c6,c7,c8,c9,c10,c11,rfl⟩:=array12w (hsz.trans (by kernel_rfl))
 obtain⟨fuel,hf⟩:=h
 have hf':DataW.trod enc Tryz.prog W 0 spare held fuel 31 [c0,c1,c2,c3,c4,c5,c6,c7,c8,c9,c10,c11]=some (d,ps):=by simpa [Value.cells] using hf
 obtain⟨n0,y0,h0⟩:=field_of (t:=31) (T:=29) (o:=0) (c:=6) (i:=0) (by kernel_rfl) (by kernel_rfl) (by kernel_rfl) hf'
 obtain⟨n1,y1,h1⟩:=field_of (t:=31) (T:=29) (o:=6) (c:=6) (i:=1) (by kernel_rfl) (by kernel_rfl) (by kernel_rfl) hf'
 obtain⟨D,e1,e2,hD,hw⟩:=open_world_cells (c0:=c0) (c1:=c1) (c2:=c2) (c3:=c3) (c4:=c4) (c5:=c5) (by simpa using h0)
 obtain⟨E,e3,e4,hE,hw'⟩:=open_world_cells (c0:=c6) (c1:=c7) (c2:=c8) (c3:=c9) (c4:=c10) (c5:=c11) (by simpa using h1)
 subst e1 e2 e3 e4
 exact⟨c0,c1,c4,c5,c6,c7,c10,c11,⟨D,E⟩,rfl,⟨hD,hE⟩,hw,hw'⟩
end
end Go.Proofs.YtihplgckbhnohaaGreatDoor

namespace Go.Proofs.YtihplgckbhnohaaGreatDoor
open Go.RowKit
set_option linter.unusedVariables false
structure RowTurned (bs o n:Nat) (w w':World):Prop where
 turned:Turned (fun b=>b=bs) w w'
 kept:∀x v,(x<o∨o+n≤x)→Cell w bs x v→Cell w' bs x v
theorem RowTurned.refl(bs o n:Nat)(w:World):RowTurned bs o n w w:=⟨Turned.refl _ _,fun _ _ _ h=>h⟩
theorem RowTurned.set{bs o n:Nat}{w w':World}(h:RowTurned bs o n w w')(x:Nat)(u:Value)(h1:o≤x)(h2:x<o+n):RowTurned bs o n w (w'.setCell ⟨bs,x,none⟩ u):=
 ⟨h.turned.setCell (p:=⟨bs,x,none⟩) rfl u,fun y v hy hc=>(h.kept y v hy hc).other u (Or.inr (by omega))⟩
theorem RowTurned.below{bs o n:Nat}{w w' w2:World}(h:RowTurned bs o n w w')(t:Below w'.heap.size w' w2):RowTurned bs o n w w2:=
 ⟨h.turned.trans (Turned.of_below t),fun y v hy hc=>(h.kept y v hy hc).below t⟩
theorem Set_step{w w1 w2:World}{bs off n k:Nat}{kb:Nat→Nat}{kv:Nat→Value}{f:Nat→SetD}{s:SetD}(h:∀j,j<n→SetOwn w bs (off+j*6) (kb j) (kv j) (f j))(hap:SetsApart kb n f)(hk:k<n)
  (r:RowTurned bs (off+k*6) 6 w w1) (t:Turned (fun b=>0<(f k).dn∧b=kb k) w1 w2) (c0:Cell w1 bs (off+k*6) (.string s.name)) (c1:Cell w1 bs ((off+k*6)+1) (.int .i64 s.origin)) (c2:Cell w1 bs ((off+k*6)+2) (.int .i64 s.prev)) (c3:Cell w1 bs ((off+k*6)+3) (.int .i64 s.rs)) (c4:Cell w1 bs ((off+k*6)+4) (.int .i64 s.rb)) (c5:Cell w1 bs (off+k*6+5) (kv k)) (hdn:s.dn=(f k).dn) (hp:PtrsOwn w2 (kb k) (kv k) s.dn s.ds s.db) (hs:s.name.size≤maxLen) :
  ∀j,j<n→SetOwn w2 bs (off+j*6) (kb j) (kv j) (if j=k then s else f j):=by
 intro j hj
 have nb:¬(0<(f k).dn∧bs=kb k):=fun hx=>(h k hk).apart hx.1 hx.2.symm
 by_cases e:j=k
 ·subst e
  rw [if_pos rfl]
  exact⟨c0.turned t nb,c1.turned t nb,c2.turned t nb,c3.turned t nb,c4.turned t nb,c5.turned t nb,hp,hs,by rw [hdn]; exact(h j hj).apart⟩
 ·rw [if_neg e]
  have hj':=h j hj
  refine⟨(r.kept _ _ (by omega) hj'.c0).turned t nb,(r.kept _ _ (by omega) hj'.c1).turned t nb,(r.kept _ _ (by omega) hj'.c2).turned t nb,(r.kept _ _ (by omega) hj'.c3).turned t nb,(r.kept _ _ (by omega) hj'.c4).turned t nb,(r.kept _ _ (by omega) hj'.c5).turned t nb,?_,hj'.small,hj'.apart⟩
  exact(hj'.dead.turned r.turned (fun h0 hx=>hj'.apart h0 hx)).turned t (fun h0 hx=>hap j k hj hk e h0 hx.1 hx.2)
theorem Snap_step{w w1 w2:World}{bs off n k:Nat}{kb:Nat→Nat}{kv:Nat→Value}{f:Nat→SnapD}{s:SnapD}(h:∀j,j<n→SnapOwn w bs (off+j*8) (kb j) (kv j) (f j))(hap:SnapsApart kb n f)(hk:k<n)
  (r:RowTurned bs (off+k*8) 8 w w1) (t:Turned (fun b=>0<(f k).dn∧b=kb k) w1 w2) (c0:Cell w1 bs (off+k*8) (.int .i64 s.id)) (c1:Cell w1 bs ((off+k*8)+1) (.string s.name)) (c2:Cell w1 bs ((off+k*8)+2) (.string s.set)) (c3:Cell w1 bs ((off+k*8)+3) (.int .i64 s.prev)) (c4:Cell w1 bs ((off+k*8)+4) (.int .i64 s.time)) (c5:Cell w1 bs ((off+k*8)+5) (.int .i64 s.rs)) (c6:Cell w1 bs ((off+k*8)+6) (.int .i64 s.rb)) (c7:Cell w1 bs (off+k*8+7) (kv k)) (hdn:s.dn=(f k).dn) (hp:PtrsOwn w2 (kb k) (kv k) s.dn s.ds s.db) (hs:s.name.size≤maxLen∧s.set.size≤maxLen) :
  ∀j,j<n→SnapOwn w2 bs (off+j*8) (kb j) (kv j) (if j=k then s else f j):=by
 intro j hj
 have nb:¬(0<(f k).dn∧bs=kb k):=fun hx=>(h k hk).apart hx.1 hx.2.symm
 by_cases e:j=k
 ·subst e
  rw [if_pos rfl]
  exact⟨c0.turned t nb,c1.turned t nb,c2.turned t nb,c3.turned t nb,c4.turned t nb,c5.turned t nb,c6.turned t nb,c7.turned t nb,hp,hs,by rw [hdn]; exact(h j hj).apart⟩
 ·rw [if_neg e]
  have hj':=h j hj
  refine⟨(r.kept _ _ (by omega) hj'.c0).turned t nb,(r.kept _ _ (by omega) hj'.c1).turned t nb,(r.kept _ _ (by omega) hj'.c2).turned t nb,(r.kept _ _ (by omega) hj'.c3).turned t nb,(r.kept _ _ (by omega) hj'.c4).turned t nb,(r.kept _ _ (by omega) hj'.c5).turned t nb,(r.kept _ _ (by omega) hj'.c6).turned t nb,(r.kept _ _ (by omega) hj'.c7).turned t nb,?_,hj'.small,hj'.apart⟩
  exact(hj'.dead.turned r.turned (fun h0 hx=>hj'.apart h0 hx)).turned t (fun h0 hx=>hap j k hj hk e h0 hx.1 hx.2)
end Go.Proofs.YtihplgckbhnohaaGreatDoor

namespace Go.Proofs.YtihplgckbhnohaaGreatDoor
open Go.RowKit
set_option linter.unusedVariables false
def mtLoop(k:Nat)(out:ByteArray):ByteArray:=
 if h:k=0 then out else mtLoop (k / 10) (⟨#[48+UInt8.ofNat (k % 10)]⟩ ++ out)
termination_by k
decreasing_by omega
def mtF(k:Int):ByteArray:=if k≤0 then⟨#[109,48]⟩else⟨#[109]⟩ ++ mtLoop k.toNat ⟨#[]⟩
theorem mt_start{n:Nat}(h:(n:Int)≤1000000000000):n<10 ^ (13 - (⟨#[]⟩:ByteArray).size):=by
 show n<10 ^ 13
 omega
theorem size_one(x:UInt8)(out:ByteArray):((⟨#[x]⟩:ByteArray) ++ out).size=out.size+1:=by
 rw [ByteArray.size_append]
 show 1+out.size=_
 omega
theorem mt_bound{m:Nat}{out:ByteArray}(h:m<10 ^ (13 - out.size)):m≤10000000000000:=by
 have h2:10 ^ (13 - out.size)≤10 ^ 13:=Nat.pow_le_pow_right (by omega) (by omega)
 omega
theorem mt_next{m:Nat}{out:ByteArray}(x:UInt8)(h0:¬m=0)(h:m<10 ^ (13 - out.size))(h2:out.size≤13) :
  m / 10<10 ^ (13 - ((⟨#[x]⟩:ByteArray) ++ out).size)∧((⟨#[x]⟩:ByteArray) ++ out).size≤13:=by
 rw [size_one]
 by_cases e:out.size=13
 ·rw [e] at h; simp at h; omega
 ·obtain⟨j,hj⟩:∃j,13 - out.size=j+1:=⟨12 - out.size,by omega⟩
  rw [hj,Nat.pow_succ] at h
  have:13 - (out.size+1)=j:=by omega
  rw [this]
  exact⟨by omega,by omega⟩
theorem mt_step{m:Nat}{out:ByteArray}(h0:¬m=0):mtLoop (m / 10) (⟨#[48+UInt8.ofNat (m % 10)]⟩ ++ out)=mtLoop m out:=by
 conv=>rhs; rw [mtLoop]
 rw [dif_neg h0]
theorem mt_size(m:Nat):∀(out:ByteArray),m<10 ^ (13 - out.size)→out.size≤13→(mtLoop m out).size≤13:=by
 induction m using Nat.strongRecOn with
 | _ m ih=>
  intro out h h2
  by_cases h0:m=0
  ·rw [mtLoop,dif_pos h0]; exact h2
  ·rw [mtLoop,dif_neg h0]
   have:=mt_next (48+UInt8.ofNat (m % 10)) h0 h h2
   exact ih (m / 10) (by omega) _ this.1 this.2
theorem mtF_size{k:Int}(hk:k≤1000000000000):(mtF k).size≤maxLen:=by
 unfold mtF maxLen
 split
 ·decide
 ·have h:(mtLoop k.toNat ⟨#[]⟩).size≤13:=mt_size _ _ (mt_start (by omega)) (Nat.zero_le _)
  rw [size_one]
  omega
theorem conv_one(w:World)(n:Int):(convert 150 9 (.slice (some ⟨w.heap.size,0,none⟩) 1 1)).run Tryz.prog (w.alloc (.cells #[.int .u8 n] 5)) = .ok (.string ⟨#[UInt8.ofNat n.toNat]⟩) (w.alloc (.cells #[.int .u8 n] 5)):=
 run_convert_bytes_arg (P:=Tryz.prog) (w.alloc (.cells #[.int .u8 n] 5)) 150 5 (by kernel_rfl) (by kernel_rfl) w.heap.size 0 1 1 [n] rfl (fun i hi=>by
  obtain rfl:i=0:=by omega
  simp) 9 (by kernel_rfl)
set_option maxRecDepth 20000 in
set_option maxHeartbeats 400000 in
theorem markText_any(k:Int)(w:World)(hk:k≤1000000000000) :
  Calls Tryz.prog 65 #[.int .i64 k] w fun e w'=>e = .returned (.string (mtF k))∧Below w.heap.size w w':=by
 by_cases h0:k≤0
 ·have hm:Hid (mtF k=⟨#[109,48]⟩):=if_pos h0
  go_enter Tryz.func65,Tryz.ntmps65
  go_wp2
  go_ret
  exact⟨by rw [hm.out]; rfl,Below.refl _ _⟩
 ·obtain⟨n,rfl⟩:=Int.eq_ofNat_of_zero_le (by omega:0≤k)
  have hm:Hid (mtF (n:Int)=⟨#[109]⟩ ++ mtLoop n ⟨#[]⟩):=if_neg h0
  have hst:Hid (n<10 ^ (13 - (⟨#[]⟩:ByteArray).size)):=mt_start hk
  have hcv:=conv_one
  go_enter Tryz.func65,Tryz.ntmps65
  go_wp2
  go_loopw [0,3] (fun v s wr=>∃(m:Nat) (out:ByteArray),v = .int .i64 m∧s = .string out∧m<10 ^ (13 - out.size)∧out.size≤13∧mtLoop m out=mtLoop n ⟨#[]⟩∧Below w.heap.size w wr) (fun v _ _=>(intOf v).toNat)
  case atStart=>exact⟨n,⟨#[]⟩,rfl,rfl,hst.out,Nat.zero_le _,rfl,Below.refl _ _⟩
  case round=>
   obtain⟨m,out,rfl,rfl,hm1,hm2,hm3,hb⟩:=hrel
   have Hm3:Hid (m<10 ^ (13 - out.size)∧mtLoop m out=mtLoop n ⟨#[]⟩):=⟨hm1,hm3⟩
   have hmb:=mt_bound hm1
   clear hm1 hm3
   by_cases hz:m=0
   ·subst hz
    go_wp2
    go_ret
    refine⟨?_,hb⟩
    have e1:=Hm3.out.2
    rw [mtLoop,dif_pos rfl] at e1
    rw [hm.out,←e1]
    rfl
   ·have hz':(0:Int)<(m:Int):=by omega
    have Hz:Hid (¬m=0):=hz
    clear hz
    go_wp2
    go_roundw
    case rel=>
     have hn:=mt_next (48+UInt8.ofNat (m % 10)) Hz.out Hm3.out.1 hm2
     exact⟨m / 10,_,by go_num,rfl,hn.1,hn.2,(mt_step Hz.out).trans Hm3.out.2,hb.alloc hb.size _⟩
    case measure=>simp [intOf]; omega
theorem hideM{P:Prop}(h:P):Hid P:=h
def SameShape(b:Nat)(w w':World):Prop:=∀cur,w.heap[b]?=some (.cells cur 2 (0,0))→∃cur',w'.heap[b]?=some (.cells cur' 2 (0,0))∧cur'.size=cur.size
theorem SameShape.refl(b:Nat)(w:World):SameShape b w w:=fun cur h=>⟨cur,h,rfl⟩
theorem SameShape.set{b:Nat}{w w':World}(h:SameShape b w w')(o:Nat)(u:Value):SameShape b w (w'.setCell ⟨b,o,none⟩ u):=fun cur hc=>by
 obtain⟨cur',h1,h2⟩:=h cur hc
 exact⟨cur'.setIfInBounds o u,heap_setCell_at u h1,by simpa using h2⟩
theorem SameShape.room{b:Nat}{w w':World}{a:Option Addr}{n c:Nat}(h:SameShape b w w')(hr:Room w b a n c):Room w' b a n c:=fun hlt=>by
 obtain⟨r0,r1,r2,cur,r3,r4⟩:=hr hlt
 obtain⟨cur',h1,h2⟩:=h cur r3
 exact⟨r0,r1,r2,cur',h1,by omega⟩
set_option maxRecDepth 20000 in
set_option maxHeartbeats 400000 in
theorem markInt64S_any(b:Nat)(v:Value)(n:Nat)(f:Nat→Int)(k0:Int)(w:World)(h1:IntsOwn w b v n f)(hk0:0≤k0)(hk1:k0+n≤1000000000000) :
  Calls Tryz.prog 64 #[v,.int .i64 k0] w fun e w'=>e = .returned (.int .i64 (k0+n))∧IntsOwn w' b v n (fun i=>k0+i)∧Turned (fun k=>0<n∧k=b) w w':=by
 have h1':=h1
 obtain⟨m1,a,c,rfl,mc,g1,hroom⟩:=h1
 have Hroom:=hideM hroom
 clear hroom
 by_cases hn0:n=0
 ·subst hn0
  go_enter Tryz.func64,Tryz.ntmps64
  go_wp2
  refine wp_loop_rounds 1 ?_
  rw [rounds_succ]
  go_wp2
  go_ret
  exact⟨by simp,⟨m1,a,c,rfl,mc,fun h=>absurd h (by omega),Hroom.out⟩,Turned.refl _ _⟩
 ·obtain⟨off,rfl,g2⟩:=g1 (by omega)
  clear g1
  have hm1:=m1
  unfold maxLen at m1
  have G2:Hid (∀i,i<n→Cell w b (off+i) (.int .i64 (f i))):=g2
  clear g2 h1'
  go_enter Tryz.func64,Tryz.ntmps64
  go_wp2
  go_loopw [1,5] (fun m i wr=>∃k:Nat,k≤n∧i = .int .i64 k∧m = .int .i64 (k0+k)∧(∀j,j<n→Cell wr b (off+j) (.int .i64 (if j<k then k0+j else f j)))∧Turned (fun k=>0<n∧k=b) w wr∧SameShape b w wr) (fun _ i _=>n - (intOf i).toNat)
  case atStart=>exact⟨0,Nat.zero_le _,rfl,by simp,fun j hj=>by simpa using G2.out j hj,Turned.refl _ _,SameShape.refl _ _⟩
  case round=>
   obtain⟨k,hk,rfl,rfl,hall,ht,hsh⟩:=hrel
   have Hsh:=hideM hsh
   clear hsh
   have Hall:Hid (∀j,j<n→Cell wr b (off+j) (.int .i64 (if j<k then k0+j else f j))):=hall
   clear hall
   by_cases hlt:k<n
   ·have hlt':(k:Int)<(n:Int):=by omega
    obtain⟨hc,hf⟩:=Hall.out k hlt
    go_wp2
    go_roundw
    case rel=>
     refine⟨k+1,by omega,by go_num,by go_num,fun j hj=>?_,ht.setCell ⟨by omega,rfl⟩ _,Hsh.out.set _ _⟩
     by_cases e:j=k
     ·subst e
      rw [if_pos (by omega)]
      exact(Hall.out j hj).set _
     ·have:=(Hall.out j hj).other (b':=b) (o':=off+k) (.int .i64 (k0+k)) (Or.inr (by omega))
      by_cases e2:j<k
      ·rw [if_pos (by omega)]; rw [if_pos e2] at this; exact this
      ·rw [if_neg (by omega)]; rw [if_neg e2] at this; exact this
    case measure=>simp [intOf]; omega
   ·obtain rfl:k=n:=by omega
    go_wp2
    go_ret
    refine⟨rfl,⟨hm1,_,c,rfl,mc,fun _=>⟨off,rfl,fun i hi=>?_⟩,Hsh.out.room Hroom.out⟩,ht⟩
    have:=Hall.out i hi
    rw [if_pos hi] at this
    exact this
set_option maxRecDepth 20000 in
set_option maxHeartbeats 400000 in
theorem markPtrS_any(b:Nat)(v:Value)(n:Nat)(f g:Nat→Int)(k0:Int)(w:World)(h1:PtrsOwn w b v n f g)(hk0:0≤k0)(hk1:k0+2*n≤1000000000000) :
  Calls Tryz.prog 66 #[v,.int .i64 k0] w fun e w'=>e = .returned (.int .i64 (k0+2*n))∧PtrsOwn w' b v n (fun i=>k0+2*i) (fun i=>k0+2*i+1)∧Turned (fun k=>0<n∧k=b) w w':=by
 have h1':=h1
 obtain⟨m1,a,c,rfl,mc,g1⟩:=h1
 by_cases hn0:n=0
 ·subst hn0
  go_enter Tryz.func66,Tryz.ntmps66
  go_wp2
  refine wp_loop_rounds 1 ?_
  rw [rounds_succ]
  go_wp2
  go_ret
  exact⟨by simp,⟨m1,a,c,rfl,mc,fun h=>absurd h (by omega)⟩,Turned.refl _ _⟩
 ·obtain⟨off,rfl,g2⟩:=g1 (by omega)
  clear g1
  have hm1:=m1
  unfold maxLen at m1
  have G2:Hid (∀i,i<n→Cell w b (off+i*2) (.int .i64 (f i))∧Cell w b (off+i*2+1) (.int .i64 (g i))):=g2
  clear g2 h1'
  go_enter Tryz.func66,Tryz.ntmps66
  go_wp2
  go_loopw [1,5] (fun m i wr=>∃k:Nat,k≤n∧i = .int .i64 k∧m = .int .i64 (k0+2*k)∧(∀j,j<n→Cell wr b (off+j*2) (.int .i64 (if j<k then k0+2*j else f j))∧Cell wr b (off+j*2+1) (.int .i64 (if j<k then k0+2*j+1 else g j)))∧Turned (fun k=>0<n∧k=b) w wr) (fun _ i _=>n - (intOf i).toNat)
  case atStart=>exact⟨0,Nat.zero_le _,rfl,by simp,fun j hj=>by simpa using G2.out j hj,Turned.refl _ _⟩
  case round=>
   obtain⟨k,hk,rfl,rfl,hall,ht⟩:=hrel
   have Hall:Hid (∀j,j<n→Cell wr b (off+j*2) (.int .i64 (if j<k then k0+2*j else f j))∧Cell wr b (off+j*2+1) (.int .i64 (if j<k then k0+2*j+1 else g j))):=hall
   clear hall
   by_cases hlt:k<n
   ·have hlt':(k:Int)<(n:Int):=by omega
    obtain⟨⟨hc,hf⟩,⟨hc2,hf2⟩⟩:=Hall.out k hlt
    go_wp2
    go_roundw
    case rel=>
     refine⟨k+1,by omega,by go_num,by go_num,fun j hj=>?_,(ht.setCell ⟨by omega,rfl⟩ _).setCell ⟨by omega,rfl⟩ _⟩
     by_cases e:j=k
     ·subst e
      rw [if_pos (by omega),if_pos (by omega)]
      exact⟨((Hall.out j hj).1.set _).other _ (Or.inr (by omega)),((Hall.out j hj).2.other _ (Or.inr (by omega))).set _⟩
     ·have t1:=((Hall.out j hj).1.other (b':=b) (o':=off+k*2) (.int .i64 (k0+2*k)) (Or.inr (by omega))).other (b':=b) (o':=off+k*2+1) (.int .i64 (k0+2*k+1)) (Or.inr (by omega))
      have t2:=((Hall.out j hj).2.other (b':=b) (o':=off+k*2) (.int .i64 (k0+2*k)) (Or.inr (by omega))).other (b':=b) (o':=off+k*2+1) (.int .i64 (k0+2*k+1)) (Or.inr (by omega))
      by_cases e2:j<k
      ·rw [if_pos (by omega),if_pos (by omega)]; rw [if_pos e2] at t1 t2; exact⟨t1,t2⟩
      ·rw [if_neg (by omega),if_neg (by omega)]; rw [if_neg e2] at t1 t2; exact⟨t1,t2⟩
    case measure=>simp [intOf]; omega
   ·obtain rfl:k=n:=by omega
    go_wp2
    go_ret
    refine⟨rfl,⟨hm1,_,c,rfl,mc,fun _=>⟨off,rfl,fun i hi=>?_⟩⟩,ht⟩
    have:=Hall.out i hi
    rw [if_pos hi,if_pos hi] at this
    exact this
def cntSl(f:Nat→SlotD)(k0:Int):Nat→Int
 | 0=>k0
 | j+1=>cntSl f k0 j+2+2*(f j).kn
def marked(s:SlotD)(c:Int):SlotD:={birth:=c,kn:=s.kn,ks:=fun i=>c+1+2*i,kb:=fun i=>c+1+2*i+1,data:=mtF (c+1+2*s.kn)}
theorem cntSl_mono(f:Nat→SlotD)(k0:Int)(j:Nat):∀m,cntSl f k0 j≤cntSl f k0 (j+m)
 | 0=>Int.le_refl _
 | m+1=>by
  have:=cntSl_mono f k0 j m
  show _≤cntSl f k0 (j+m)+2+2*((f (j+m)).kn:Int)
  omega
theorem cntSl_le(f:Nat→SlotD)(k0:Int){j n:Nat}(h:j≤n):cntSl f k0 j≤cntSl f k0 n:=by
 obtain⟨m,rfl⟩:=Nat.exists_eq_add_of_le h
 exact cntSl_mono f k0 j m
def markS(f:Nat→SlotD)(k0:Int)(j:Nat):SlotD:=marked (f j) (cntSl f k0 j)
theorem slots_step{w w1 w2:World}{bs off:Nat}{kb:Nat→Nat}{kv:Nat→Value}{n k:Nat}{f:Nat→SlotD}{s':SlotD}
  (h:∀j,j<n→SlotOwn w bs (off+j*3) (kb j) (kv j) (f j)) (hap:KidsApart kb n f) (hk:k<n)
  (t1:Turned (fun b=>0<(f k).kn∧b=kb k) (w.setCell ⟨bs,off+k*3,none⟩ (.int .i64 s'.birth)) w1) (t2:Below w1.heap.size w1 w2)
  (hkn:s'.kn=(f k).kn) (hp:PtrsOwn w1 (kb k) (kv k) s'.kn s'.ks s'.kb) (hs:s'.data.size≤maxLen) :
  ∀j,j<n→SlotOwn (w2.setCell ⟨bs,off+k*3+2,none⟩ (.string s'.data)) bs (off+j*3) (kb j) (kv j) (if j=k then s' else f j):=by
 intro j hj
 have nb:¬(0<(f k).kn∧bs=kb k):=fun hx=>(h k hk).apart hx.1 hx.2.symm
 by_cases e:j=k
 ·subst e
  rw [if_pos rfl]
  have hj':=h j hj
  refine⟨?_,?_,?_,?_,hs,?_⟩
  ·exact(((hj'.birth.set _).turned t1 nb).below t2).other _ (Or.inr (by omega))
  ·exact(((hj'.kidsv.other _ (Or.inr (by omega))).turned t1 nb).below t2).other _ (Or.inr (by omega))
  ·exact(((hj'.data.other _ (Or.inr (by omega))).turned t1 nb).below t2).set _
  ·refine(hp.below t2).turned (Turned.put _ _ _ _) (fun h0 hx=>?_)
   exact hj'.apart (hkn▸h0) hx
  ·rw [hkn]; exact hj'.apart
 ·rw [if_neg e]
  have hj':=h j hj
  have c0:=hj'.birth.other (b':=bs) (o':=off+k*3) (.int .i64 s'.birth) (Or.inr (by omega))
  have c1:=hj'.kidsv.other (b':=bs) (o':=off+k*3) (.int .i64 s'.birth) (Or.inr (by omega))
  have c2:=hj'.data.other (b':=bs) (o':=off+k*3) (.int .i64 s'.birth) (Or.inr (by omega))
  have c3:=hj'.kids.turned (Turned.put w bs (off+k*3) (.int .i64 s'.birth)) (fun h0 hx=>hj'.apart h0 hx)
  refine⟨?_,?_,?_,?_,hj'.small,hj'.apart⟩
  ·exact((c0.turned t1 nb).below t2).other _ (Or.inr (by omega))
  ·exact((c1.turned t1 nb).below t2).other _ (Or.inr (by omega))
  ·exact((c2.turned t1 nb).below t2).other _ (Or.inr (by omega))
  ·refine((c3.turned t1 (fun h0 hx=>hap j k hj hk e h0 hx.1 hx.2)).below t2).turned (Turned.put _ _ _ _) (fun h0 hx=>hj'.apart h0 hx)
theorem stS_start(f:Nat→SlotD)(k0:Int)(j:Nat):(if j<0 then markS f k0 j else f j)=f j:=if_neg (by omega)
theorem stS_kn(f:Nat→SlotD)(k0:Int)(k j:Nat):(if j<k then markS f k0 j else f j).kn=(f j).kn:=by split <;> rfl
set_option maxRecDepth 20000 in
set_option maxHeartbeats 1000000 in
theorem markSlotS_any(bs:Nat)(kb:Nat→Nat)(kv:Nat→Value)(v:Value)(n:Nat)(f:Nat→SlotD)(k0:Int)(w:World)(h1:SlotsOwn w bs kb kv v n f)(hap:KidsApart kb n f)(hk0:0≤k0)(hk1:cntSl f k0 n≤1000000000000) :
  Calls Tryz.prog 63 #[v,.int .i64 k0] w fun e w'=>e = .returned (.int .i64 (cntSl f k0 n))∧SlotsOwn w' bs kb kv v n (markS f k0)∧Turned (SlotsB bs kb n f) w w':=by
 obtain⟨m1,a,c,rfl,mc,g1⟩:=h1
 by_cases hn0:n=0
 ·subst hn0
  go_enter Tryz.func63,Tryz.ntmps63
  go_wp2
  refine wp_loop_rounds 1 ?_
  rw [rounds_succ]
  go_wp2
  go_ret
  exact⟨by simp [cntSl],⟨m1,a,c,rfl,mc,fun h=>absurd h (by omega)⟩,Turned.refl _ _⟩
 ·obtain⟨off,rfl,g2⟩:=g1 (by omega)
  clear g1
  have hm1:=m1
  unfold maxLen at m1
  have G2:Hid (∀j,j<n→SlotOwn w bs (off+j*3) (kb j) (kv j) (f j)):=g2
  have Hap:Hid (KidsApart kb n f):=hap
  have Hk1:Hid (cntSl f k0 n≤1000000000000):=hk1
  clear g2 hap hk1
  go_enter Tryz.func63,Tryz.ntmps63
  go_wp2
  go_loopw [1,5] (fun m i wr=>∃k:Nat,k≤n∧i = .int .i64 k∧m = .int .i64 (cntSl f k0 k)∧(∀j,j<n→SlotOwn wr bs (off+j*3) (kb j) (kv j) (if j<k then markS f k0 j else f j))∧Turned (SlotsB bs kb n f) w wr) (fun _ i _=>n - (intOf i).toNat)
  case atStart=>exact⟨0,Nat.zero_le _,rfl,rfl,fun j hj=>by rw [stS_start]; exact G2.out j hj,Turned.refl _ _⟩
  case round=>
   obtain⟨k,hk,rfl,rfl,hall,ht⟩:=hrel
   have Hall:Hid (∀j,j<n→SlotOwn wr bs (off+j*3) (kb j) (kv j) (if j<k then markS f k0 j else f j)):=hall
   clear hall
   by_cases hlt:k<n
   ·have hlt':(k:Int)<(n:Int):=by omega
    have hs:=Hall.out k hlt
    rw [if_neg (by omega)] at hs
    have hc0:k0≤cntSl f k0 k:=cntSl_le f k0 (Nat.zero_le k)
    have hc1:cntSl f k0 k+2+2*((f k).kn:Int)≤1000000000000:=Int.le_trans (cntSl_le f k0 (show k+1≤n from hlt)) Hk1.out
    obtain⟨hb0,hf0⟩:=hs.birth
    obtain⟨hb1,hf1⟩:=hs.kidsv
    obtain⟨hb2,hf2⟩:=hs.data
    have Hs:Hid (SlotOwn wr bs (off+k*3) (kb k) (kv k) (f k)):=hs
    obtain⟨_,ka,kc,hkv,_⟩:=hs.kids
    clear hs
    generalize hx:kv k=kvk at *
    have Hx:Hid (kv k=kvk):=hx
    clear hx
    subst hkv
    go_wp2_with fail
    refine(markPtrS_any (kb k) _ (f k).kn (f k).ks (f k).kb _ _ ?p1 ?p2 ?p3).mono ?_
    case p1=>exact Hs.out.kids.turned (Turned.put _ _ _ _) (fun h0 hx=>Hs.out.apart h0 hx)
    case p2=>omega
    case p3=>omega
    rintro e w1 ⟨rfl,hp1,ht1⟩
    have nb:¬(0<(f k).kn∧bs=kb k):=fun hx=>Hs.out.apart hx.1 hx.2.symm
    have Hd:=((Hs.out.data.other (b':=bs) (o':=off+k*3) (.int .i64 (cntSl f k0 k)) (Or.inr (by omega))).turned ht1 nb)
    have Hp1:Hid (PtrsOwn w1 (kb k) (.slice ka (f k).kn kc) (f k).kn (fun i=>cntSl f k0 k+1+2*i) (fun i=>cntSl f k0 k+1+2*i+1)):=hp1
    clear nb hp1 hb0 hf0 hb1 hf1 hb2 hf2
    go_wp2_with fail
    refine(markText_any _ _ (by omega)).mono ?_
    rintro e w2 ⟨rfl,hb2⟩
    obtain⟨hd2,hf2⟩:=Hd.below hb2
    clear Hd
    go_wp2
    go_roundw
    case rel=>
     refine⟨k+1,by omega,by go_num,congrArg (Value.int .i64) (by show _=cntSl f k0 k+2+2*((f k).kn:Int); omega),fun j hj=>?_,?_⟩
     ·have st:=slots_step (s':=markS f k0 k) Hall.out (by
        intro i j hi hj hij h1 h2
        rw [stS_kn] at h1 h2
        exact Hap.out i j hi hj hij h1 h2) hlt (by rw [if_neg (Nat.lt_irrefl k)]; exact ht1) hb2 (by rw [if_neg (Nat.lt_irrefl k)]; rfl) (by rw [Hx.out]; exact Hp1.out) (mtF_size (by omega)) j hj
      by_cases e:j=k
      ·subst e
       rw [if_pos rfl] at st
       rw [if_pos (by omega)]
       exact st
      ·rw [if_neg e] at st
       by_cases e2:j<k
       ·rw [if_pos e2] at st; rw [if_pos (by omega)]; exact st
       ·rw [if_neg e2] at st; rw [if_neg (by omega)]; exact st
     ·refine(((ht.setCell (Or.inl ⟨by omega,rfl⟩) _).trans (ht1.mono ?_)).trans (Turned.of_below hb2)).setCell (Or.inl ⟨by omega,rfl⟩) _
      rintro b ⟨hb,rfl⟩
      exact Or.inr ⟨k,hlt,hb,rfl⟩
    case measure=>simp [intOf]; omega
   ·obtain rfl:k=n:=by omega
    go_wp2
    go_ret
    refine⟨rfl,⟨hm1,_,c,rfl,mc,fun _=>⟨off,rfl,fun i hi=>?_⟩⟩,ht⟩
    have:=Hall.out i hi
    rw [if_pos hi] at this
    exact this
end Go.Proofs.YtihplgckbhnohaaGreatDoor

namespace Go.Proofs.YtihplgckbhnohaaGreatDoor
open Go.RowKit
set_option linter.unusedVariables false
set_option maxRecDepth 20000 in
set_option maxHeartbeats 400000 in
theorem markPool_any(bs hb:Nat)(kb:Nat→Nat)(kv:Nat→Value)(v0 v1:Value)(p:PoolD)(k0:Int)(w:World)
  (h1:SlotsOwn w bs kb kv v0 p.n p.s) (hap:KidsApart kb p.n p.s) (h2:IntsOwn w hb v1 p.hn p.h) (hd:0<p.hn→¬SlotsB bs kb p.n p.s hb)
  (hk0:0≤k0) (hk1:cntSl p.s k0 p.n+p.hn≤1000000000000) :
  Calls Tryz.prog 39 #[.agg #[v0,v1],.int .i64 k0] w fun e w'=>e = .returned (.int .i64 (cntSl p.s k0 p.n+p.hn))∧SlotsOwn w' bs kb kv v0 p.n (markS p.s k0)∧IntsOwn w' hb v1 p.hn (fun i=>cntSl p.s k0 p.n+i)∧
   Turned (fun k=>SlotsB bs kb p.n p.s k∨(0<p.hn∧k=hb)) w w':=by
 have q1:=h1
 have q2:=h2
 obtain⟨_,a,c,rfl,_⟩:=h1
 obtain⟨_,a',c',rfl,_⟩:=h2
 have Hk:Hid (cntSl p.s k0 p.n+p.hn≤1000000000000):=hk1
 have hk00:Hid (k0≤cntSl p.s k0 p.n):=cntSl_le p.s k0 (Nat.zero_le p.n)
 clear hk1
 go_enter Tryz.func39,Tryz.ntmps39
 go_wp2_with fail
 have hbw:=(Below.refl w.heap.size w).alloc (Nat.le_refl _) (.cells #[.slice a p.n c,.slice a' p.hn c'] 35)
 refine(markSlotS_any bs kb kv _ p.n p.s _ _ (q1.below hbw) hap hk0 (by have:=Hk.out; omega)).mono ?_
 rintro e w1 ⟨rfl,hs1,ht1⟩
 have nb:¬SlotsB bs kb p.n p.s w.heap.size:=fun x=>Nat.lt_irrefl _ (q1.lt x)
 have e1:=ht1.cell (b:=w.heap.size) (o:=1) (by simp) nb
 simp at e1
 go_wp2_with fail
 refine(markInt64S_any hb _ p.hn p.h _ _ ((q2.below hbw).turned ht1 hd) (by have:=hk00.out; omega) Hk.out).mono ?_
 rintro e w2 ⟨rfl,hs2,ht2⟩
 go_wp2
 go_ret
 refine⟨rfl,?_,hs2,?_⟩
 ·refine hs1.turned ht2 (fun h0 hx=>?_) (fun i hi h0 hx=>?_)
  ·exact hd hx.1 (Or.inl ⟨h0,hx.2.symm⟩)
  ·exact hd hx.1 (Or.inr ⟨i,hi,h0,hx.2.symm⟩)
 ·exact((Turned.of_below hbw).trans (ht1.mono fun k h=>Or.inl h)).trans (ht2.mono fun k h=>Or.inr h)
def markP(p:PoolD)(k0:Int):PoolD:={n:=p.n,s:=markS p.s k0,hn:=p.hn,h:=fun i=>cntSl p.s k0 p.n+i}
def endP(p:PoolD)(k0:Int):Int:=cntSl p.s k0 p.n+p.hn
end Go.Proofs.YtihplgckbhnohaaGreatDoor
