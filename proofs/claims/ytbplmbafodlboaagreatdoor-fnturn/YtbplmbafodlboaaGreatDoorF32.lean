/- A part of the proof. -/
import Derived.Test.YtbplmbafodlboaaGreatDoorF31
import Derived.Test.YtbplmbafodlboaaGreatDoorRows
import Derived.OpenShut
import Derived.Test.YtbplmbafodlboaaGreatDoorF26
import Derived.ChangeSame
import Derived.ChangeVars
import Derived.JoinedOf
import Derived.LaidLaws
import Derived.Stop.LaidTwo
import Derived.Stop.Joined
import Derived.Stop.ErrReads
import Derived.MakeChecks
import Derived.ChangeOld
set_option linter.unusedVariables false
set_option maxRecDepth 20000
set_option maxHeartbeats 4000000
namespace Go.Proofs.YtbplmbafodlboaaGreatDoor
open Go.RowKit
def many(x:Int):Nat:=if 0<=x/\x<=200 then x.toNat else 0
theorem zWW:(Tryz.prog.info? 58).map (fun i=>(i.zero,i.size,i.bytes))=some (some (.agg #[.int .i64 0,.slice none 0 0,.string ⟨#[]⟩]),3,48):=by kernel_rfl
def zVn(n:Nat):Array Value:=madeCells #[.int .i64 0,.slice none 0 0,.string ⟨#[]⟩] (n*3)
theorem zZd(n i r:Nat)(hi:i<n)(hr:r<3):(zVn n)[0+i*3+r]?=#[Value.int .i64 0,.slice none 0 0,.string ⟨#[]⟩][r]?:=by
 unfold zVn madeCells;have h1:0+i*3+r<n*3:=by omega
 have h2:(0+i*3+r) % 3=r:=by omega
 simp only[Array.getElem?_map,Array.getElem?_range,h1,if_true,Option.map_some];show some (#[Value.int .i64 0,.slice none 0 0,.string ⟨#[]⟩][(0+i*3+r) % 3]!)=_;rw[h2];rcases r with _ | _ | _ | r
 ·rfl
 ·rfl
 ·rfl
 ·omega
theorem zVJ(n:Nat)(hn:n<=200)(w:World):(Instr.makeSlice 23 (.int .i64 (n:Int)) (.int .i64 (n:Int))).run Tryz.prog w = .ok (.slice (some ⟨w.heap.size,0,none⟩) n n) (w.alloc (.cells (zVn n) 58)):=by
 obtain⟨i,hi,aA⟩:=Option.map_eq_some_iff.1 zWW;simp only[Prod.mk.injEq]at aA;obtain⟨hz,hs,hb⟩:=aA;have hr:=run_make (P:=Tryz.prog) w 23 58 i _ (by kernel_rfl) hi hz .i64 .i64 n n (by omega) (Int.le_refl _) (by rw[hb];omega) (by omega);rw[hs]at hr;simp only[Int.toNat_natCast]at hr;exact hr
theorem zJi{w w':World}{lo hi:Nat}:zAd w' lo hi (.slice none 0 0) (.slice none 0 0) (zCC 0):=
 zMi (g:=0) (Nat.zero_le _) ⟨none,0,rfl,Nat.le_refl _,fun h=>absurd h (Nat.lt_irrefl _)⟩ (fun i h=>absurd h (Nat.not_lt_zero _))
theorem zXP(w:World)(o:Obj)(n:Nat)(hn:n<=200):zAd ((w.alloc o).alloc (.cells (zVn n) 58)) w.heap.size ((w.alloc o).alloc (.cells (zVn n) 58)).heap.size (.slice (some ⟨w.heap.size+1,0,none⟩) n n) (.slice none 0 0) (zCC n):=by
 have hz:(w.alloc o).heap.size=w.heap.size+1:=by simp
 refine zMi (g:=w.heap.size+1) (by unfold maxLen;omega) ⟨_,n,rfl,Nat.le_refl _,fun _=>⟨rfl,by omega,by simp⟩⟩ (fun i hi=>?_);have cell:∀r v,r<3->#[Value.int .i64 0,.slice none 0 0,.string ⟨#[]⟩][r]?=some v->zg ((w.alloc o).alloc (.cells (zVn n) 58)) (w.heap.size+1) (0+i*3+r) v:=by
  intro r v hr hv;rw[<-hz];refine⟨?_,?_⟩
  ·rw[World.cell?_alloc_at (hn:=rfl),zZd n i r hi hr];exact hv
  ·rw[World.frozen?_alloc_at (hn:=rfl)]
 exact⟨cell 0 _ (by omega) rfl,cell 1 _ (by omega) rfl,cell 2 _ (by omega) rfl⟩
theorem zKv(x:Int)(w:World):Calls Tryz.prog 44 #[.int .i64 x] w (zTB (zCC (many x)) w):=by
 by_cases h1:x<0
 ·have hm:Hid (many x=0):=if_neg (by omega);go_enter Tryz.func44,Tryz.ntmps44;go_wp2;refine bodyPost_ret (v:=.agg #[.slice none 0 0,.slice none 0 0]) (by simp[results,Tryz.results44,go_sem]) rfl ?_;rw[hm.out];exact⟨_,_,rfl,zJi (w:=w),(Below.refl _ _).alloc (Nat.le_refl _) _⟩
 ·obtain⟨n,rfl⟩:=Int.eq_ofNat_of_zero_le (by omega:0<=x);by_cases h2:(200:Int)<n
  ·have hm:Hid (many (n:Int)=0):=if_neg (by omega);go_enter Tryz.func44,Tryz.ntmps44;go_wp2;refine bodyPost_ret (v:=.agg #[.slice none 0 0,.slice none 0 0]) (by simp[results,Tryz.results44,go_sem]) rfl ?_;rw[hm.out];exact⟨_,_,rfl,zJi (w:=w),(Below.refl _ _).alloc (Nat.le_refl _) _⟩
  ·have hm:Hid (many (n:Int)=n):=(if_pos ⟨by omega,by omega⟩).trans (by simp);have aA:=zVJ n (by omega);go_enter Tryz.func44,Tryz.ntmps44;go_wp2;refine bodyPost_ret (v:=.agg #[.slice (some ⟨w.heap.size+1,0,none⟩) n n,.slice none 0 0]) (by simp[results,Tryz.results44,go_sem]) rfl ?_;rw[hm.out];exact⟨_,_,rfl,zXP _ _ _ (by omega),((Below.refl _ _).alloc (Nat.le_refl _) _).alloc (by simp) _⟩
open Go.ChangeShapes Go.WideShapes Go.ChangeAt
def zH7(x:Int):Int:=if 0<=x/\x<=200 then 1 else 0
def zVx(p:zF)(t:Int)(w:World)(e:Ending)(w':World):Prop:=∃v0 v1,e = .returned (.agg #[v0,v1,.int .i64 t,.int .i64 t,.slice none 0 0,.slice none 0 0])/\zAd w' w.heap.size w'.heap.size v0 v1 p/\Below w.heap.size w w'
theorem zDs(x:Int)(w:World):Calls Tryz.prog 22 #[.int .i64 x] w (zVx (zCC (many x)) (zH7 x) w):=by
 have bA:=zD w (.cells #[.slice none 0 0,.slice none 0 0,.int .i64 0,.int .i64 0,.slice none 0 0,.slice none 0 0] 30);by_cases h1:x<0\/200<x
 ·have hm:Hid (many x=0):=if_neg (by omega);have hs:Hid (zH7 x=0):=if_neg (by omega);have aA:=zGh bA;clear bA;rcases h1 with h1 | h1
  ·go_enter Tryz.func22,Tryz.ntmps22;go_wp2;refine bodyPost_ret (v:=.agg #[.slice none 0 0,.slice none 0 0,.int .i64 0,.int .i64 0,.slice none 0 0,.slice none 0 0]) (by simp[results,Tryz.results22,go_sem]) rfl ?_;rw[hm.out,hs.out];exact⟨_,_,rfl,zJi (w:=w),(by first | exact aA.out | exact aA.out.drew)⟩
  ·have h2:¬x<0:=(by omega);go_enter Tryz.func22,Tryz.ntmps22;go_wp2;refine bodyPost_ret (v:=.agg #[.slice none 0 0,.slice none 0 0,.int .i64 0,.int .i64 0,.slice none 0 0,.slice none 0 0]) (by simp[results,Tryz.results22,go_sem]) rfl ?_;rw[hm.out,hs.out];exact⟨_,_,rfl,zJi (w:=w),(by first | exact aA.out | exact aA.out.drew)⟩
 ·have h2:¬x<0:=(by omega);have h3:¬200<x:=(by omega);have hs:Hid (zH7 x=1):=if_pos (by omega);clear h1;go_enter Tryz.func22,Tryz.ntmps22;go_wp2_with fail;refine(zKv x _).mono ?_;rintro e w1 ⟨v0,v1,rfl,ho,hb⟩;have HB:=zGh ((zAC.new w (.slice none 0 0) (.slice none 0 0) (.int .i64 0) (.int .i64 0) (.slice none 0 0) (.slice none 0 0) 30).zb7 hb);have hB:=zA bA hb;obtain⟨a,c,a',c',rfl,rfl⟩:=ho.zcF;rw[World.size_alloc]at ho;have HO:=zGh ho;clear ho hb bA;obtain⟨⟨x0,x1⟩,⟨x2,x3⟩,⟨x4,x5⟩,⟨x6,x7⟩,⟨x8,x9⟩,⟨cA,dA⟩⟩:=HB.out;go_wp2;obtain⟨⟨y0,_⟩,⟨y1,_⟩,⟨y2,_⟩,⟨y3,_⟩,⟨y4,_⟩,⟨y5,_⟩⟩:=HB.out.put (.slice a (zCC (many x)).n c) (.slice a' (zCC (many x)).hn c') (.int .i64 1) (.int .i64 1) (.slice none 0 0) (.slice none 0 0);have ht:=zJ.put6 w1 w.heap.size (.slice a (zCC (many x)).n c) (.slice a' (zCC (many x)).hn c') (.int .i64 1) (.int .i64 1) (.slice none 0 0) (.slice none 0 0);refine bodyPost_ret (v:=.agg #[.slice a (zCC (many x)).n c,.slice a' (zCC (many x)).hn c',.int .i64 1,.int .i64 1,.slice none 0 0,.slice none 0 0]) (by simp[results,Tryz.results22,go_sem,y0,y1,y2,y3,y4,y5]) rfl ?_;rw[hs.out];exact⟨_,_,rfl,(HO.out.zb8 ht (by omega)).wide (by omega) (by exact ht.size),hB.trans (ht.zb7 hB.size (by intro k hk;omega))⟩
def zDg(x:Int):zC:={pool:=zCC (many x),time:=zH7 x,next:=zH7 x,sn:=0,zcC:=fun _=>⟨⟨#[]⟩,0,0,0,0,0,fun _=>0,fun _=>0⟩,pn:=0,zb9:=fun _=>⟨0,⟨#[]⟩,⟨#[]⟩,0,0,0,0,0,fun _=>0,fun _=>0⟩}
theorem zVx.world{x:Int}{w w':World}{e:Ending}(h:zVx (zCC (many x)) (zH7 x) w e w'):∃v0 v1,e = .returned (zBb v0 v1 (.slice none 0 0) (.slice none 0 0) (zDg x))/\zAm w' w.heap.size w'.heap.size v0 v1 (.slice none 0 0) (.slice none 0 0) (zDg x)/\Below w.heap.size w w':=by
 obtain⟨v0,v1,he,hp,hb⟩:=h;refine⟨v0,v1,he,⟨fun k=>w.heap.size<=k/\k<w'.heap.size,fun _=>False,fun _=>False,⟨hp.isIn (fun k h1 h2=>⟨h1,h2⟩),?_,?_,fun _ _ h=>h,fun _ _ h=>h,fun _ h=>h.elim⟩,fun k hk=>?_⟩,hb⟩
 ·exact⟨0,fun _=>0,fun _=>.slice none 0 0,⟨Nat.zero_le _,none,0,rfl,Nat.le_refl _,fun h=>absurd h (Nat.lt_irrefl _)⟩,fun i j hi=>absurd hi (Nat.not_lt_zero _),fun k hk=>by
   rcases hk with⟨h,_⟩ | ⟨i,h,_⟩
   ·exact absurd h (Nat.lt_irrefl _)
   ·exact absurd h (Nat.not_lt_zero _)⟩
 ·exact⟨0,fun _=>0,fun _=>.slice none 0 0,⟨Nat.zero_le _,none,0,rfl,Nat.le_refl _,fun h=>absurd h (Nat.lt_irrefl _)⟩,fun i j hi=>absurd hi (Nat.not_lt_zero _),fun k hk=>by
   rcases hk with⟨h,_⟩ | ⟨i,h,_⟩
   ·exact absurd h (Nat.lt_irrefl _)
   ·exact absurd h (Nat.not_lt_zero _)⟩
 ·rcases hk with h | h | h
  ·exact h
  ·exact h.elim
  ·exact h.elim
def zRB(x:Int):qC:=⟨zDg x,zDg x⟩
def zbF(x:Int)(w:World)(e:Ending)(w':World):Prop:=∃v0 v1 u0 u1,e = .returned (zC6 v0 v1 (.slice none 0 0) (.slice none 0 0) u0 u1 (.slice none 0 0) (.slice none 0 0) (zRB x))/\zDW w' w.heap.size w'.heap.size v0 v1 (.slice none 0 0) (.slice none 0 0) u0 u1 (.slice none 0 0) (.slice none 0 0) (zRB x)/\Below w.heap.size w w'
theorem zJx(x:Int)(w:World):Calls Tryz.prog 20 #[.int .i64 x] w (zbF x w):=by
 have ha:=zD w (.cells #[.slice none 0 0,.slice none 0 0,.int .i64 0,.int .i64 0,.slice none 0 0,.slice none 0 0,.slice none 0 0,.slice none 0 0,.int .i64 0,.int .i64 0,.slice none 0 0,.slice none 0 0] 32);have HB:=zGh (zCN.new w (.slice none 0 0) (.slice none 0 0) (.int .i64 0) (.int .i64 0) (.slice none 0 0) (.slice none 0 0) (.slice none 0 0) (.slice none 0 0) (.int .i64 0) (.int .i64 0) (.slice none 0 0) (.slice none 0 0) 32);have HS:=zGh (show(w.alloc (.cells #[.slice none 0 0,.slice none 0 0,.int .i64 0,.int .i64 0,.slice none 0 0,.slice none 0 0,.slice none 0 0,.slice none 0 0,.int .i64 0,.int .i64 0,.slice none 0 0,.slice none 0 0] 32)).heap.size=w.heap.size+1 from World.size_alloc _ _);go_enter Tryz.func20,Tryz.ntmps20;go_wp2_with fail;generalize w.alloc (.cells #[.slice none 0 0,.slice none 0 0,.int .i64 0,.int .i64 0,.slice none 0 0,.slice none 0 0,.slice none 0 0,.slice none 0 0,.int .i64 0,.int .i64 0,.slice none 0 0,.slice none 0 0] 32)=W0 at ha HB HS ⊢;refine(zDs x W0).mono ?_;rintro e w1 aA;obtain⟨v0,v1,rfl,eA,cA⟩:=aA.world;have sA:=zGh eA;obtain⟨gA,lA,iA,mA,rfl,rfl⟩:=eA.at.pool.zcF;have tA:=zA ha cA;have pA:=zGh (HB.out.zb7 cA);have Z1:=zGh (show W0.heap.size<=w1.heap.size from cA.size);clear eA cA ha HB aA;go_wp2_with fail;refine(zDs x w1).mono ?_;rintro e w2 aA;obtain⟨v0,v1,rfl,fA,bA⟩:=aA.world;have vA:=zGh fA;obtain⟨jA,nA,kA,oA,rfl,rfl⟩:=fA.at.pool.zcF;have aB:=zA tA bA;have rA:=zGh (pA.out.zb7 bA);have dA:=zGh (sA.out.zb7 bA);have Z2:=zGh (show w1.heap.size<=w2.heap.size from bA.size);clear fA bA tA pA aA sA;obtain⟨⟨x0,eB⟩,⟨x1,fB⟩,⟨x2,jB⟩,⟨x3,kB⟩,⟨x4,lB⟩,⟨x5,mB⟩,⟨x6,nB⟩,⟨x7,oB⟩,⟨x8,pB⟩,⟨x9,rB⟩,⟨gB,bB⟩,⟨iB,cB⟩⟩:=rA.out;go_wp2;have HR:=rA.out.put (.slice gA (zDg x).pool.n lA) (.slice iA (zDg x).pool.hn mA) (.int .i64 (zDg x).time) (.int .i64 (zDg x).next) (.slice none 0 0) (.slice none 0 0) (.slice jA (zDg x).pool.n nA) (.slice kA (zDg x).pool.hn oA) (.int .i64 (zDg x).time) (.int .i64 (zDg x).next) (.slice none 0 0) (.slice none 0 0);have T:=zJ.put12 w2 w.heap.size (.slice gA (zDg x).pool.n lA) (.slice iA (zDg x).pool.hn mA) (.int .i64 (zDg x).time) (.int .i64 (zDg x).next) (.slice none 0 0) (.slice none 0 0) (.slice jA (zDg x).pool.n nA) (.slice kA (zDg x).pool.hn oA) (.int .i64 (zDg x).time) (.int .i64 (zDg x).next) (.slice none 0 0) (.slice none 0 0);have z0:=HS.out;have z1:=Z1.out;have z2:=Z2.out;refine bodyPost_ret (v:=.agg #[.slice gA (zDg x).pool.n lA,.slice iA (zDg x).pool.hn mA,.int .i64 (zDg x).time,.int .i64 (zDg x).next,.slice none 0 0,.slice none 0 0,.slice jA (zDg x).pool.n nA,.slice kA (zDg x).pool.hn oA,.int .i64 (zDg x).time,.int .i64 (zDg x).next,.slice none 0 0,.slice none 0 0]) (by simp[results,Tryz.results20,go_sem,HR.1.1,HR.2.1.1,HR.2.2.1.1,HR.2.2.2.1.1,HR.2.2.2.2.1.1,HR.2.2.2.2.2.1.1,HR.2.2.2.2.2.2.1.1,HR.2.2.2.2.2.2.2.1.1,HR.2.2.2.2.2.2.2.2.1.1,HR.2.2.2.2.2.2.2.2.2.1.1,HR.2.2.2.2.2.2.2.2.2.2.1.1,HR.2.2.2.2.2.2.2.2.2.2.2.1]) rfl ⟨_,_,_,_,rfl,?_,?_⟩
 ·refine⟨W0.heap.size,w1.heap.size,w1.heap.size,w2.heap.size,dA.out.zb8 T (fun k e=>by omega),vA.out.zb8 T (fun k e=>by omega),by omega,?_,by omega,?_,Or.inl (Nat.le_refl _)⟩
  ·simp only[World.size_setCell];omega
  ·simp only[World.size_setCell];omega
 ·exact aB.trans (T.zb7 (B:=w.heap.size) (by omega) (fun k e=>by omega))
theorem own:ownKnob Tryz.prog.godebug=none:=by kernel_rfl
theorem zGd{P:Program}{f:Nat}{ι : Type}{A:ι->List (Bool×List Tr)}{C:ι->Prop}{R:ι->List (Bool×List Tr)}{w:World}
  (h:∀x,C x->∀(g0:Nat->Bs) (ys:List Value),(∀b,∃r,g0 b = .fz r)->qA (zLE w g0) (A x) ys->Calls P f ys.toArray w fun e w'=>∃v g,e = .returned v/\Kp w g0 w' g/\zUa w' g (R x) v):zCg P f (qZ A C R) w:=by
 intro al c rs aA hc g0 ys hz hy;unfold qZ at aA;split at aA
 ·rename_i hx
  cases aA;exact h hx.choose hc g0 ys hz (by rw[hx.choose_spec];exact hy)
 ·cases aA
def zak(w:World)(g:Nat->Bs):Nat->Bs:=fun b=>if b<w.heap.size then g b else .fz none
theorem zMM{w w':World}{g:Nat->Bs}(hz:∀b,∃r,g b = .fz r)(h:Below w.heap.size w w'):Kp w g w' (zak w g):=
 ⟨h.os,h.tape,h.output,h.size,fun b r hb hl=>⟨h.block b hl,by unfold zak;rw[if_pos hl];exact hb⟩,fun b o aA hb=>by obtain⟨r,hr⟩:=hz b;rw[hr]at hb;cases hb⟩
theorem zMJ{w w':World}{g:Nat->Bs}:zPw w' (zak w g) w.heap.size:=fun b h _=>if_neg (by omega)
theorem zBc.wf{c:Nat}{W:zC}(h:zBc c W):zB1 W:=fun i hi=>by
 have hp:0<=(zL W i).zcD/\(zL W i).zcD<=1000000:=by
  by_cases hs:i<W.pn
  ·rw[yW hs];exact(h.zb9 i hs).zcD
  ·obtain⟨k,rfl⟩:∃k,i=W.pn+k:=⟨i - W.pn,by omega⟩;rw[zBF];exact(h.zcC k (by unfold zt at hi;omega)).zcD
 show(decide (IntKind.min .i64<=_) && decide (_<=IntKind.max .i64))=true;simp[IntKind.min,IntKind.max,IntKind.signed,IntKind.bits];omega
theorem zBc.bounds{c:Nat}{W:zC}(h:zBc c W)(hc:c<=10):qo W.pool<=1048576/\W.sn<=1048576/\W.pn<=1048576/\zF9 W:=by
 have h1:=h.pool;have h2:=h.sn;have h3:=h.pn;exact⟨by omega,by omega,by omega,fun i hi=>by have:=(h.zcC i hi).dn;omega,fun i hi=>by have:=(h.zb9 i hi).dn;omega⟩
theorem zBc.slot{c:Nat}{W:zC}(h:zBc c W)(hc:c<=10){i:Nat}(hi:i<W.pool.n):(W.pool.s i).kn<=maxLen/\(W.pool.s i).data.size<=maxLen:=by
 have h1:=h.pool;have h2:=zRS (f:=W.pool.s) hi;have h3:zBU W.pool.s W.pool.n<=qo W.pool:=by unfold qo;omega
 have h4:zCv (W.pool.s i)=(W.pool.s i).kn+(W.pool.s i).data.size:=rfl;unfold maxLen;omega
theorem zBc.at{c:Nat}{W:zC}(h:zBc c W)(hc:c<=10){w:World}{g:Nat->Bs}{u0 u1 u4 u5:Value}(h0:Sh w g (.s .b 3 W.pool.n (zU .b W.pool.s)) u0)(h1:Sh w g (.s .b 1 W.pool.hn (qh W.pool.h)) u1)(h4:Sh w g (.s .b 6 W.sn (setsE .b W.zcC)) u4)(h5:Sh w g (.s .b 8 W.pn (snapsE .b W.zb9)) u5):yQ w 0 w.heap.size u0 u1 u4 u5 W:=by
 have b:=h.bounds hc;have n1:W.pool.n<=qo W.pool:=by unfold qo;omega
 have n2:W.pool.hn<=qo W.pool:=Nat.le_add_left ..;have hm:1048576<=maxLen:=by decide
 exact⟨⟨zV5 h0 (by omega) (fun i hi=>h.slot hc hi),zYd h1 (by omega)⟩,zYe h4 (by omega) (fun i hi=>by have g:=h.zcC i hi;have:=g.dn;have:=g.name;exact⟨by omega,by omega⟩),zV6 h5 (by omega) (fun i hi=>by have g:=h.zb9 i hi;have:=g.dn;have:=g.name;have:=g.set;exact⟨by omega,by omega,by omega⟩)⟩
abbrev soZ(o:zGq):Bool×List Tr:=(true,[.s .z 3 o.store.zcB.pool.n (zU .z o.store.zcB.pool.s),.s .z 1 o.store.zcB.pool.hn (qh o.store.zcB.pool.h),.v (.int .i64 o.store.zcB.time),.v (.int .i64 o.store.zcB.next),.s .z 6 o.store.zcB.sn (setsE .z o.store.zcB.zcC),.s .z 8 o.store.zcB.pn (snapsE .z o.store.zcB.zb9),.s .z 3 o.store.zcA.pool.n (zU .z o.store.zcA.pool.s),.s .z 1 o.store.zcA.pool.hn (qh o.store.zcA.pool.h),.v (.int .i64 o.store.zcA.time),.v (.int .i64 o.store.zcA.next),.s .z 6 o.store.zcA.sn (setsE .z o.store.zcA.zcC),.s .z 8 o.store.zcA.pn (snapsE .z o.store.zcA.zb9),.v (.int .i64 o.code)])
theorem zEy{n:Nat}{h:Nat->Int}:(Tr.s .z 1 n (qh h)).kept:=⟨by simp,fun _ _ _ _=>trivial⟩
theorem zIW{n:Nat}{f h:Nat->Int}:(Tr.s .z 2 n (ptrsT f h)).kept:=⟨by simp,fun p q _ _=>by unfold ptrsT;split<;>trivial⟩
theorem zED{n:Nat}{s:Nat->zM}:(Tr.s .z 3 n (zU .z s)).kept:=⟨by simp,fun i j _ hj=>by
 match j,hj with
 | 0,_ | 2,_=>trivial
 | 1,_=>exact zIW⟩
theorem zGN{n:Nat}{s:Nat->zAJ}:(Tr.s .z 6 n (setsE .z s)).kept:=⟨by simp,fun i j _ hj=>by
 match j,hj with
 | 0,_ | 1,_ | 2,_ | 3,_ | 4,_=>trivial
 | 5,_=>exact zIW⟩
theorem zFJ{n:Nat}{s:Nat->zu}:(Tr.s .z 8 n (snapsE .z s)).kept:=⟨by simp,fun i j _ hj=>by
 match j,hj with
 | 0,_ | 1,_ | 2,_ | 3,_ | 4,_ | 5,_ | 6,_=>trivial
 | 7,_=>exact zIW⟩
theorem zXd{o:zGq}{w w':World}{g0:Nat->Bs}(hz:∀b,∃r,g0 b = .fz r){e:Ending}(h:zCx o w e w'):∃v g,e = .returned v/\Kp w g0 w' g/\zUa w' g [soZ o] v:=by
 obtain⟨v0,v1,v2,v3,u0,u1,u2,u3,rfl,ho,hb⟩:=h;have hs:=ho.at;have hk:=zMJ (w:=w) (w':=w') (g:=g0);refine⟨_,_,rfl,zMM hz hb,_,⟨_,[],_,rfl,rfl,?_,rfl⟩,rfl⟩;exact⟨_,_,rfl,⟨zHF hk hs.zcB.pool.1,zED⟩,_,_,rfl,⟨zJW hk hs.zcB.pool.2,zEy⟩,_,_,rfl,⟨rfl,rfl⟩,_,_,rfl,⟨rfl,rfl⟩,_,_,rfl,⟨zK8 hk hs.zcB.zcC,zGN⟩,_,_,rfl,⟨zJX hk hs.zcB.zb9,zFJ⟩,_,_,rfl,⟨zHF hk hs.zcA.pool.1,zED⟩,_,_,rfl,⟨zJW hk hs.zcA.pool.2,zEy⟩,_,_,rfl,⟨rfl,rfl⟩,_,_,rfl,⟨rfl,rfl⟩,_,_,rfl,⟨zK8 hk hs.zcA.zcC,zGN⟩,_,_,rfl,⟨zJX hk hs.zcA.zb9,zFJ⟩,_,_,rfl,⟨rfl,rfl⟩,rfl⟩
theorem zad{α β : Type}{R:α->β->Prop}{x0 x1 x2 x3 x4 x5:α}{ys:List β}(h:qA R [x0,x1,x2,x3,x4,x5] ys):∃y0 y1 y2 y3 y4 y5,ys = [y0,y1,y2,y3,y4,y5]/\R x0 y0/\R x1 y1/\R x2 y2/\R x3 y3/\R x4 y4/\R x5 y5:=by
 cases h with
 | cons a0 h=>cases h with
  | cons a1 h=>cases h with
   | cons a2 h=>cases h with
    | cons a3 h=>
     obtain⟨y4,y5,rfl,a4,a5⟩:=zCl h;exact⟨_,_,_,_,y4,y5,rfl,a0,a1,a2,a3,a4,a5⟩
theorem zNJ{w:World}{g:Nat->Bs}{W:zC}{cs:List Value}{c:Nat}(hc:c<=10)(hW:zBc c W)(h:qA (Sh w g) (woT W).2 cs):∃v0 v1 v2 v3,cs = [v0,v1,.int .i64 W.time,.int .i64 W.next,v2,v3]/\yQ w 0 w.heap.size v0 v1 v2 v3 W:=by
 obtain⟨y0,y1,y2,y3,y4,y5,rfl,a0,a1,a2,a3,a4,a5⟩:=zad h;exact⟨y0,y1,y4,y5,by rw[a2.1,a3.1],hW.at hc a0 a1 a4 a5⟩
theorem zRb{w:World}{g:Nat->Bs}{S:qC}{cs:List Value}{c:Nat}(hc:c<=10)(hS:zBP c S)(h:qA (Sh w g) (stT S).2 cs):∃v0 v1 v2 v3 u0 u1 u2 u3,(.agg cs.toArray:Value)=zC6 v0 v1 v2 v3 u0 u1 u2 u3 S/\zCE w 0 w.heap.size v0 v1 v2 v3 u0 u1 u2 u3 S:=by
 obtain⟨a,b,rfl,h1,h2⟩:=zII (l:=(woT S.zcB).2) (l':=(woT S.zcA).2) h;obtain⟨v0,v1,v2,v3,rfl,g1⟩:=zNJ hc hS.1 h1;obtain⟨u0,u1,u2,u3,rfl,g2⟩:=zNJ hc hS.2 h2;exact⟨v0,v1,v2,v3,u0,u1,u2,u3,rfl,g1,g2⟩
noncomputable def zXJ:zW:=qZ (fun q:qC×zC=>[stT q.1,woT q.2]) (fun q=>zBP 1 q.1/\zBc 1 q.2) (fun q=>[soZ (zEK q.1 q.2)])
theorem zJ4(S:qC)(W:zC):zXJ [stT S,woT W]=some (zBP 1 S/\zBc 1 W,[soZ (zEK S W)]):=zO (fun l=>(zQM (nth l 0),zC1 (nth l 1))) (fun _=>rfl) (S,W)
theorem zYF{w:World}{p:Nat->Addr}(hE:zGn w p):zCg Tryz.prog 17 zXJ w:=by
 refine zGd ?_;rintro⟨S,W⟩ hC g0 ys hz hy;obtain⟨⟨hL,hS⟩,hW⟩:zBP 1 S/\zBc 1 W:=hC;obtain⟨y,y',rfl,⟨cs,rfl,cA⟩,⟨ds,rfl,dA⟩⟩:=zCl hy;have bS:=hS.bounds (by omega);have bW:=hW.bounds (by omega);obtain⟨v0,v1,v2,v3,u0,u1,u2,u3,e,aA⟩:=zRb (by omega) ⟨hL,hS⟩ cA;obtain⟨t0,t1,t2,t3,rfl,bA⟩:=zNJ (by omega) hW dA;rw[e];refine(zJF p t0 t1 t2 t3 W v0 v1 v2 v3 u0 u1 u2 u3 0 w.heap.size S w hE bA aA hL.wf hS.wf hW.wf bW.1 bW.2.1 bW.2.2.1 bW.2.2.2 bS.1 bS.2.1 bS.2.2.1 bS.2.2.2).mono ?_;intro e w' h;simp only[zOf]at h;have:zCx (zEK S W) w e w':=by
  unfold zEK;rcases h with⟨a,hn⟩ | ⟨a,b,hn⟩ | ⟨a,b,hn⟩
  ·rw[if_neg a];exact hn
  ·rw[if_pos a,if_neg b];exact hn
  ·rw[if_pos a,if_pos b];exact hn
 exact zXd hz this
noncomputable def zTi:zW:=qZ (fun S:qC=>[stT S]) (fun S=>zBP 1 S) (fun S=>[soZ (zLq S)])
theorem zSd(S:qC):zTi [stT S]=some (zBP 1 S,[soZ (zLq S)]):=zO (fun l=>zQM (nth l 0)) (fun _=>rfl) S
theorem zUk{w:World}{p:Nat->Addr}(hE:zGn w p):zCg Tryz.prog 6 zTi w:=by
 refine zGd ?_;rintro S hC g0 ys hz hy;replace hC:zBP 1 S:=hC;obtain⟨hL,hS⟩:=hC;obtain⟨y,rfl,⟨cs,rfl,bA⟩⟩:=zB2 hy;have bS:=hS.bounds (by omega);obtain⟨v0,v1,v2,v3,u0,u1,u2,u3,e,aA⟩:=zRb (by omega) ⟨hL,hS⟩ bA;rw[e];refine(zIU p v0 v1 v2 v3 u0 u1 u2 u3 0 w.heap.size S w hE aA hL.wf hS.wf bS.1 bS.2.1 bS.2.2.1 bS.2.2.2).mono ?_;rintro e w' ⟨o,hc,hn⟩;rw[zOf]at hc;have:o=zLq S:=by
  unfold zLq;rcases hc with⟨a,h⟩ | ⟨a,b,h⟩ | ⟨a,b,h⟩
  ·rw[if_neg a];exact h
  ·exact absurd trivial b
  ·rw[if_pos a];exact h
 subst this;exact zXd hz hn
abbrev stZ(S:qC):Bool×List Tr:=(true,[.s .z 3 S.zcB.pool.n (zU .z S.zcB.pool.s),.s .z 1 S.zcB.pool.hn (qh S.zcB.pool.h),.v (.int .i64 S.zcB.time),.v (.int .i64 S.zcB.next),.s .z 6 S.zcB.sn (setsE .z S.zcB.zcC),.s .z 8 S.zcB.pn (snapsE .z S.zcB.zb9),.s .z 3 S.zcA.pool.n (zU .z S.zcA.pool.s),.s .z 1 S.zcA.pool.hn (qh S.zcA.pool.h),.v (.int .i64 S.zcA.time),.v (.int .i64 S.zcA.next),.s .z 6 S.zcA.sn (setsE .z S.zcA.zcC),.s .z 8 S.zcA.pn (snapsE .z S.zcA.zb9)])
noncomputable def zZ6:zW:=qZ (fun x:Int=>[iT x]) (fun _=>True) (fun x=>[stZ (zRB x)])
theorem zMZ(x:Int):zZ6 [iT x]=some (True,[stZ (zRB x)]):=zO (fun l=>qg (nth l 0 0)) (fun _=>rfl) x
theorem zZH(w:World):zCg Tryz.prog 20 zZ6 w:=by
 refine zGd ?_;rintro x - g0 ys hz hy;obtain⟨y,rfl,⟨T,eT,hT⟩⟩:=zB2 hy;cases eT;rw[hT.1];refine(zJx x w).mono ?_;rintro e w' ⟨v0,v1,u0,u1,rfl,ho,hb⟩;have hs:=ho.at;have hk:=zMJ (w:=w) (w':=w') (g:=g0);refine⟨_,_,rfl,zMM hz hb,_,⟨_,[],_,rfl,rfl,?_,rfl⟩,rfl⟩;exact⟨_,_,rfl,⟨zHF hk hs.zcB.pool.1,zED⟩,_,_,rfl,⟨zJW hk hs.zcB.pool.2,zEy⟩,_,_,rfl,⟨rfl,rfl⟩,_,_,rfl,⟨rfl,rfl⟩,_,_,rfl,⟨zK8 hk hs.zcB.zcC,zGN⟩,_,_,rfl,⟨zJX hk hs.zcB.zb9,zFJ⟩,_,_,rfl,⟨zHF hk hs.zcA.pool.1,zED⟩,_,_,rfl,⟨zJW hk hs.zcA.pool.2,zEy⟩,_,_,rfl,⟨rfl,rfl⟩,_,_,rfl,⟨rfl,rfl⟩,_,_,rfl,⟨zK8 hk hs.zcA.zcC,zGN⟩,_,_,rfl,⟨zJX hk hs.zcA.zb9,zFJ⟩,rfl⟩
noncomputable def zXM:zW:=qZ (fun x:Int=>[iT x]) (fun _=>True) (fun x=>[(true,[.s .z 3 (many x) (zU .z (zCC (many x)).s),.s .z 1 0 (qh (zCC (many x)).h),.v (.int .i64 (zH7 x)),.v (.int .i64 (zH7 x)),.v n0,.v n0])])
theorem zJ5(x:Int):zXM [iT x]=some (True,[(true,[.s .z 3 (many x) (zU .z (zCC (many x)).s),.s .z 1 0 (qh (zCC (many x)).h),.v (.int .i64 (zH7 x)),.v (.int .i64 (zH7 x)),.v n0,.v n0])]):=zO (fun l=>qg (nth l 0 0)) (fun _=>rfl) x
theorem zYL(w:World):zCg Tryz.prog 22 zXM w:=by
 refine zGd ?_;rintro x - g0 ys hz hy;obtain⟨y,rfl,⟨T,eT,hT⟩⟩:=zB2 hy;cases eT;rw[hT.1];refine(zDs x w).mono ?_;rintro e w' ⟨v0,v1,rfl,ho,hb⟩;have hs:=ho.at;have hk:=zMJ (w:=w) (w':=w') (g:=g0);refine⟨_,_,rfl,zMM hz hb,_,⟨_,[],_,rfl,rfl,?_,rfl⟩,rfl⟩;exact⟨_,_,rfl,⟨zHF hk hs.1,zED⟩,_,_,rfl,⟨zJW hk hs.2,zEy⟩,_,_,rfl,⟨rfl,rfl⟩,_,_,rfl,⟨rfl,rfl⟩,_,_,rfl,⟨rfl,rfl⟩,_,_,rfl,⟨rfl,rfl⟩,rfl⟩
set_option linter.unusedSimpArgs false
set_option maxRecDepth 20000
set_option maxHeartbeats 3200000
attribute [local go_sem] qW List.map_cons List.map_nil Tr.cv yo qG qw qv yn ym yk qu zAv zAx zAw zAs zAu zAt zCK zCM zCL qK zn qL zo qE qD qP yx zk zl yB qJ tmpsOf zAf yA qI zAr yu yq yp yr stpP opds opd opdC kap zAE qF zj coreU bin zAY zB6 get put dlO fgt zA6 zAz zA3 zA4 tyT yj yi Op.operands Call.operands evLoad evLen evStore evAlloc zAZ and_true true_and List.append_nil List.nil_append List.cons_append Ret resCv zBx yP cellM zBT zB3 qX StW StR hpT hpO hpV hpA hpL hpC sg nin zCD bdO tmW obW AvE CsE CvE Av.tup Av.ids Cv.ids inD ObE Ob.ids TrE.refl qH qx qy qM qN qO zm zb za yw zBd zCB zAy evCall argL argOf qj outOb obO yM zy cvO tot Tr.own rid partsOf fillC zT zBS frz frz1 evBuildSlice zc trs Cv.tr evSlice Option.toArray_none Option.toArray_some evMakeSlice evAppend dstOf srcOf zAq zA5 zA2 zA0 zA1 ikT qt qs qq qp RetP RetN zBe qR evLd evSt evStoreH zAP evAppendM evAppendT tlOf mvOf rowE shp evTake oOf evC evCallP evCallN evCallO unlast zAK zAp zAO argsF zCA qn pmC varT vT evField evConv dB0 Option.bind_some Option.bind_none Option.map_some Option.map_none Option.isSome_some Option.isSome_none
attribute [local go_sem] yF zY zAk yN qk zAS zAT zAU zAV zAW zAX yX yY yZ yb yd ye yf yg yG qe
attribute [-go_sem] zY
attribute [local go_sem] yV zBi zBj zAA yO
abbrev tT:List (Bool×List Tr):=[(false,[.v (.bool true)])]
noncomputable def zTl:zW:=qZ (fun s:zM=>[slT s,slT s]) (fun s=>s.kn<=1000000) (fun _=>tT)
theorem zSg(s:zM):zTl [slT s,slT s]=some (s.kn<=1000000,tT):=zO (fun l=>zI7 (nth l 0 0) (nth l 0 1) (nth l 0 2)) (fun _=>rfl) s
theorem zU9:zw Tryz.prog 35 zTl:=by
 refine zQ zs GOk.nil zr Tryz.func35 rfl Tryz.ntmps35 Tryz.results35 6 ?_;rintro s hn;replace hn:s.kn<=1000000:=hn;refine⟨by simp,?_⟩;simp[go_sem];refine yE (fun k:Nat=>⟨[(2,true,.m false [.p 2 0]),(3,true,.m false [.p 3 0]),(5,true,.i k)],[(3,.var [.v (.int .i64 s.birth),.s .b 2 s.kn (ptrsT s.ks s.kb),.v (.string s.data)]),(2,.var [.v (.int .i64 s.birth),.s .b 2 s.kn (ptrsT s.ks s.kb),.v (.string s.data)])]⟩) (fun k=>s.kn - k) (fun k=>k<=s.kn) 0 (by simp[go_sem]) (by simp) ?_;rintro k hk;simp[go_sem,qB (show k<=1000000000 by omega)];exact fun hl=>⟨hl,by kernel_rfl,k+1,hl,by omega,rfl⟩
noncomputable def zTk:zW:=qZ (fun p:zF=>[poT p.n p.s p.hn p.h,poT p.n p.s p.hn p.h]) (fun p=>(p.n<=1000000/\p.hn<=1000000)/\∀i,i<p.n->(p.s i).kn<=1000000) (fun _=>tT)
theorem zSf(p:zF):zTk [poT p.n p.s p.hn p.h,poT p.n p.s p.hn p.h]=some ((p.n<=1000000/\p.hn<=1000000)/\∀i,i<p.n->(p.s i).kn<=1000000,tT):=zO (fun l=>zEt (nth l 0 0) (nth l 0 1)) (fun _=>rfl) p
theorem zU8:zw Tryz.prog 11 zTk:=by
 refine zQ zs (GOk.cons zU9 (zE Tryz.func35 rfl rfl) GOk.nil) zr Tryz.func11 rfl Tryz.ntmps11 Tryz.results11 7 ?_;rintro p hp;obtain⟨⟨hn,hm⟩,hk⟩:(p.n<=1000000/\p.hn<=1000000)/\∀i,i<p.n->(p.s i).kn<=1000000:=hp;refine⟨by simp,?_⟩;simp[go_sem];refine yE (fun k:Nat=>⟨[(2,true,.m false [.p 2 0]),(3,true,.m false [.p 3 0]),(5,true,.i k)],[(3,.var [.s .b 3 p.n (zU .b p.s),.s .b 1 p.hn (qh p.h)]),(2,.var [.s .b 3 p.n (zU .b p.s),.s .b 1 p.hn (qh p.h)])]⟩) (fun k=>p.n - k) (fun k=>k<=p.n) 0 (by simp[go_sem]) (by simp) ?_;rintro k bA;simp[go_sem,zSg,qB (show k<=1000000000 by omega)];refine⟨fun hl=>?_,fun hl=>?_⟩
 ·exact⟨hl,hk k hl,by kernel_rfl,k+1,hl,by omega,rfl⟩
 refine yE (fun j:Nat=>⟨[(2,true,.m false [.p 2 0]),(3,true,.m false [.p 3 0]),(6,true,.i j)],[(3,.var [.s .b 3 p.n (zU .b p.s),.s .b 1 p.hn (qh p.h)]),(2,.var [.s .b 3 p.n (zU .b p.s),.s .b 1 p.hn (qh p.h)])]⟩) (fun j=>p.hn - j) (fun j=>j<=p.hn) 0 (by simp[go_sem]) (by simp) ?_;rintro j hj;simp[go_sem,qB (show j<=1000000000 by omega)];exact fun aA=>⟨aA,by kernel_rfl,j+1,aA,by omega,rfl⟩
noncomputable def zQx:zW:=qZ (fun W:zC=>[woT W,woT W]) (fun W=>SmallW W/\(∀i,i<W.sn->zAF (W.zcC i).dn (W.zcC i).ds (W.zcC i).db)/\∀i,i<W.pn->zAF (W.zb9 i).dn (W.zb9 i).ds (W.zb9 i).db) (fun _=>tT)
theorem zQy(W:zC):zQx [woT W,woT W]=some (SmallW W/\(∀i,i<W.sn->zAF (W.zcC i).dn (W.zcC i).ds (W.zcC i).db)/\∀i,i<W.pn->zAF (W.zb9 i).dn (W.zb9 i).ds (W.zb9 i).db,tT):=zO (fun l=>zC1 (nth l 0)) (fun _=>rfl) W
theorem zMw{n:Nat}{f g:Nat->Int}(h:zAF n f g):zFf n f g n f g:=⟨h,h,rfl,fun i hi=>⟨i,hi,rfl,rfl⟩⟩
theorem zSb:zw Tryz.prog 10 zQx:=by
 refine zQ zs (GOk.cons zKN (zE Tryz.func34 rfl rfl) GOk.nil) zr Tryz.func10 rfl Tryz.ntmps10 Tryz.results10 11 ?_;rintro W hW;obtain⟨hW,h1,h2⟩:SmallW W/\(∀i,i<W.sn->zAF (W.zcC i).dn (W.zcC i).ds (W.zcC i).db)/\∀i,i<W.pn->zAF (W.zb9 i).dn (W.zb9 i).ds (W.zb9 i).db:=hW;have hs:=hW.sn;have hp:=hW.pn;refine⟨by simp,?_⟩;simp[go_sem];refine yE (fun k:Nat=>⟨[(2,true,.m false [.p 2 0]),(3,true,.m false [.p 3 0]),(5,true,.i k)],[(3,.var ((woT W).2.map Tr.cv)),(2,.var ((woT W).2.map Tr.cv))]⟩) (fun k=>W.sn - k) (fun k=>k<=W.sn) 0 (by simp[go_sem]) (by simp) ?_;rintro k hk;simp[go_sem,qB (show k<=1000000000 by omega),zMb];refine⟨fun hl=>?_,fun hl=>?_⟩
 ·have g:=zMw (h1 k hl);have gn:=(h1 k hl).1;exact⟨hl,by kernel_rfl,by omega,g,fun _=>⟨k+1,hl,by omega,rfl⟩⟩
 refine yE (fun j:Nat=>⟨[(2,true,.m false [.p 2 0]),(3,true,.m false [.p 3 0]),(8,true,.i j)],[(3,.var ((woT W).2.map Tr.cv)),(2,.var ((woT W).2.map Tr.cv))]⟩) (fun j=>W.pn - j) (fun j=>j<=W.pn) 0 (by simp[go_sem]) (by simp) ?_;rintro j hj;simp[go_sem,qB (show j<=1000000000 by omega),zMb];exact fun aA=>⟨aA,by kernel_rfl,Nat.le_trans (h2 j aA).1 (by omega),zMw (h2 j aA),fun _=>⟨j+1,aA,by omega,rfl⟩⟩
set_option maxRecDepth 20000
set_option maxHeartbeats 3200000
theorem zVg{P:Program}{f:Nat}{ι : Type}{A:ι->List (Bool×List Tr)}{C:ι->Prop}{R:ι->List (Bool×List Tr)}{T:Tb}{Γ : List (Nat×zW)}{w:World}(hT:zFU P T)(hΓ : ∀g0,(∀b,∃r,g0 b = .fz r)->zOp P Γ w ⟨g0,none⟩)(hm:P.follows .mixedOrders=true){fn:Func}{body:Code}{N:Nat}{rv:Array ResultVar}(hf:P.funcs[f]?=some fn)(hb:fn.body=some body)(hN:fn.ntmps=N)(bA:fn.results=rv)(n:Nat)
  (h:∀x,C x->(A x).length<=N/\ev N T Γ n body ⟨qW 0 (A x),[]⟩ (zUZ T rv.toList (R x))):zCg P f (qZ A C R) w:=by
 refine zH6 hT hΓ hm hf hb hN bA n (fun l c rs aA hc=>?_);unfold qZ at aA;split at aA
 ·rename_i hx
  cases aA;have:=h hx.choose hc;rw[hx.choose_spec]at this;exact this
 ·cases aA
theorem zTQ{w w':World}{g g':Nat->Bs}{p:Nat->Addr}(h:zGn w p)(hz:∀b,∃r,g b = .fz r)(hk:Kp w g w' g'):zGn w' p:=
 h.zb7 ⟨hk.os,hk.tape,hk.output,hk.size,fun b hb=>let ⟨r,hr⟩:=hz b;(hk.fz b r hr hb).1⟩
theorem zMz{W:zC}(h:zB9 W):(∀i,i<W.sn->zAF (W.zcC i).dn (W.zcC i).ds (W.zcC i).db)/\∀i,i<W.pn->zAF (W.zb9 i).dn (W.zb9 i).ds (W.zb9 i).db:=by
 refine⟨fun j hj=>?_,fun j hj=>?_⟩
 ·have:=(zHW h (i:=W.pn+j) (by unfold zt;omega) 0).1
  rwa [zBF]at this
 ·have:=(zHW h (i:=j) (by unfold zt;omega) 0).1
  rwa [yW hj]at this
theorem zPr(x:Int):(zRB x).zcB.pool.n=many x:=rfl
theorem zPW(x:Int):(nwW x).pool.n=many x:=by
 unfold nwW many;split<;>rfl
attribute [local go_sem] qW List.map_cons List.map_nil Tr.cv yo qG qw qv yn ym yk qu zAv zAx zAw zAs zAu zAt zCK zCM zCL qK zn qL zo qE qD qP yx zk zl yB qJ tmpsOf zAf yA qI zAr yu yq yp yr stpP opds opd opdC kap zAE qF zj coreU bin zAY zB6 get put dlO fgt zA6 zAz zA3 zA4 tyT yj yi Op.operands Call.operands evLoad evLen evStore evAlloc zAZ and_true true_and List.append_nil List.nil_append List.cons_append Ret resCv zBx yP cellM zBT zB3 qX StW StR hpT hpO hpV hpA hpL hpC sg nin zCD bdO tmW obW AvE CsE CvE Av.tup Av.ids Cv.ids inD ObE Ob.ids TrE.refl qH qx qy qM qN qO zm zb za yw zBd zCB zAy evCall argL argOf qj outOb obO yM zy cvO tot Tr.own rid partsOf fillC zT zBS frz frz1 evBuildSlice zc trs Cv.tr evSlice Option.toArray_none Option.toArray_some evMakeSlice evAppend dstOf srcOf zAq zA5 zA2 zA0 zA1 ikT qt qs qq qp RetP RetN zBe qR evLd evSt evStoreH zAP evAppendM evAppendT tlOf mvOf rowE shp evTake oOf evC evCallP evCallN evCallO unlast zAK zAp zAO argsF zCA qn pmC varT vT evField evConv dB0 Option.bind_some Option.bind_none Option.map_some Option.map_none Option.isSome_some Option.isSome_none
attribute [local go_sem] yF zY zAk yN qk zAS zAT zAU zAV zAW zAX yX yY yZ yb yd ye yf yg yG qe
attribute [-go_sem] zY
attribute [local go_sem] yV zBi zBj zAA yO zDK
def zLF(n:Nat)(f:Nat->Int):Prop:=∀i,i<n->0<=f i/\f i<256
noncomputable def zTj:zW:=qZ (fun q:(Nat×(Nat->Int))×Nat×(Nat->Int)=>[byT q.1.1 q.1.2,byT q.2.1 q.2.2]) (fun q=>zLF q.1.1 q.1.2/\zLF q.2.1 q.2.2) (fun _=>tT)
theorem zUX{w:World}{p:Nat->Addr}(hE:zGn w p):zCg Tryz.prog 4 zTj w:=by
 refine zVg zs (fun g0 hz w' g hk=>zB4.putA (by decide) (zUk (zTQ hE hz hk)) (zE Tryz.func6 rfl rfl) (zB4.putA (by decide) (zYF (zTQ hE hz hk)) (zE Tryz.func17 rfl rfl) (zB4.putA (by decide) (zZH _) (zE Tryz.func20 rfl rfl) (zB4.putA (by decide) (zYL _) (zE Tryz.func22 rfl rfl) (zB4.putA (by decide) (zSb _) (zE Tryz.func10 rfl rfl) (zB4.putA (by decide) (zU8 _) (zE Tryz.func11 rfl rfl) (zB4.putK (by decide) (zJj _) (zE Tryz.func16 rfl rfl) (zB4.putK (by decide) (zKp _) (zE Tryz.func18 rfl rfl) (zB4.putA (by decide) (zIx _) (zE Tryz.func19 rfl rfl) (zB4.putA (by decide) (zKO _) (zE Tryz.func21 rfl rfl) (zB4.putA (by decide) (zGs _) (zE Tryz.func23 rfl rfl) zB4.nil))))))))))) zr Tryz.func4 rfl Tryz.ntmps4 Tryz.results4 10 ?_;rintro⟨⟨n,f⟩,m,h⟩ ⟨h1,h2⟩;replace h1:zLF n f:=h1;replace h2:zLF m h:=h2;refine⟨by simp,?_⟩;by_cases b1:1048576<n
 ·simp[go_sem,show(1048576:Int)<n by omega]
 by_cases b2:1048576<m
 ·simp[go_sem,show ¬(1048576:Int)<n by omega,show(1048576:Int)<m by omega]
 replace h1:zHR n f:=⟨by omega,h1⟩;replace h2:zHR m h:=⟨by omega,h2⟩;obtain⟨d,ed⟩:∃d,zDa n f=d:=⟨_,rfl⟩;obtain⟨S,W⟩:=d;obtain⟨hS,hW⟩:zBP 1 S/\zBc 1 W:=by have:=zQN h1;rw[ed]at this;exact this
 have cS:=hS.zcG (c:=1) (by omega);have cW:=hW.zcG (c:=1) (by omega);have aA:(∀i,i<m->0<=h i/\h i<256)↔True:=⟨fun _=>trivial,fun _=>h2.2⟩;have hd:m<=2000000/\∀i,i<m->0<=h i/\h i<256:=h2;have q1:¬(1048576:Int)<n:=by omega
 have q2:¬(1048576:Int)<m:=by omega
 by_cases a1:zDF S;rotate_left
 ·have e:zEK S W=zAI 1:=if_neg a1;simp[go_sem,q1,q2,zGS,zHc,zJ4,zG9,zHf,zHA,zMZ,zJ5,h1,hd,ed,hS,hW,cS,cW,aA,zPW,zPr,e,zAI,noW,zCC];show _=true;kernel_rfl
 by_cases a2:zDF ⟨W,S.zcA⟩;rotate_left
 ·have e:zEK S W=zAI 7:=(if_pos a1).trans (if_neg a2);simp[go_sem,q1,q2,zGS,zHc,zJ4,zG9,zHf,zHA,zMZ,zJ5,h1,hd,ed,hS,hW,cS,cW,aA,zPW,zPr,e,zAI,noW,zCC];show _=true;kernel_rfl
 have e:zEK S W=⟨⟨W,S.zcA⟩,0⟩:=(if_pos a1).trans (if_pos a2);have hX:zBP 1 ⟨W,S.zcA⟩:=⟨hW,hS.2⟩;have bA:=zMz a2.zcB;have cA:=zMz a2.zcA;have dA:SmallW W/\SmallW S.zcA:=⟨cW.toSmallW,cS.2.toSmallW⟩;have e2:zLq ⟨W,S.zcA⟩=⟨⟨S.zcA,S.zcA⟩,0⟩:=if_pos a2;simp[go_sem,q1,q2,zGS,zHc,zJ4,zG9,zHf,zHA,zMZ,zJ5,zSd ⟨W,S.zcA⟩,zQy,zSf,h1,hd,ed,hS,hW,cS,cW,aA,zPW,zPr,e,e2,hX,bA,cA,dA];exact⟨by kernel_rfl,bA,cA,⟨cS.2.n,cS.2.hn⟩,cS.2.kn⟩
def zIn(w:World)(a:Option Addr)(n:Nat):Prop:=0<n->∃b o,a=some ⟨b,o,none⟩/\b<w.heap.size/\∀i,i<n->∃x:Int,w.cell? ⟨b,o+i,none⟩=some (.int .u8 x)/\0<=x/\x<256
open Classical in
theorem zQG{w:World}{a:Option Addr}{n c:Nat}(h:zIn w a n)(hc:n<=c):∃f,zLF n f/\Sh w (fun _=>.fz none) (.s .z 1 n (zDo f)) (.slice a n c):=by
 by_cases h0:0<n
 ·obtain⟨b,o,rfl,hb,hx⟩:=h h0;refine⟨fun i=>if hi:i<n then(hx i hi).choose else 0,fun i hi=>?_,_,_,rfl,hc,fun _=>⟨b,o,rfl,hb,.inr (fun l e=>by cases e),fun i j hi hj=>?_⟩⟩
  ·simp only[dif_pos hi];exact(hx i hi).choose_spec.2
  ·cases (show j=0 by omega);refine⟨_,by rw[Nat.mul_one,Nat.add_zero];exact(hx i hi).choose_spec.1,?_,rfl⟩;simp only[dif_pos hi]
 ·exact⟨fun _=>0,fun i hi=>by omega,_,_,rfl,hc,fun h=>absurd h h0⟩
theorem zQU{p:Nat->Addr}(a0 a1:Option Addr)(n0 c0 n1 c1:Nat)(w:World)(h0:zIn w a0 n0)(h1:zIn w a1 n1)(aA:n0<=c0)(bA:n1<=c1)(hE:zGn w p) :
  Calls Tryz.prog 4 #[.slice a0 n0 c0,.slice a1 n1 c1] w fun e w'=>e = .returned (.bool true)/\Below w.heap.size w w':=by
 obtain⟨f,hf,sf⟩:=zQG h0 aA;obtain⟨g,hg,sg⟩:=zQG h1 bA;have fA:zTj [byT n0 f,byT n1 g]=some (zLF n0 f/\zLF n1 g,tT):=zO (fun l=>((zE9 (nth l 0 0),fun i=>match zCS (nth l 0 0) i 0 with | .v (.int _ x)=>x | _=>0),zE9 (nth l 1 0),fun i=>match zCS (nth l 1 0) i 0 with | .v (.int _ x)=>x | _=>0)) (fun _=>rfl) ((n0,f),n1,g);refine(zUX hE _ _ _ fA ⟨hf,hg⟩ (fun _=>.fz none) [.slice a0 n0 c0,.slice a1 n1 c1] (fun b=>⟨none,rfl⟩) (.cons ⟨_,rfl,sf⟩ (.cons ⟨_,rfl,sg⟩ .nil))).mono ?_;rintro e w' ⟨v,k,rfl,hk,ys,hr,hv⟩;obtain⟨y,iA,cs,rfl,dA,cA,eA⟩:=hr;cases eA;cases hv;obtain⟨u,gA,rfl,h2,h3⟩:=cA;cases h3;cases dA;refine⟨by rw[h2.1],⟨hk.os,hk.tape,hk.output,hk.size,fun b hb=>(hk.fz b none rfl hb).1⟩⟩
set_option maxRecDepth 100000
abbrev zQs:List (String×DataW Unit):=[("loop.example/g00381/impl.errForm",Rows.laid_loop_example_g00381_impl_errForm),("loop.example/g00381/impl.errSize",Rows.laid_loop_example_g00381_impl_errSize),("loop.example/g00381/impl.errNone",Rows.laid_loop_example_g00381_impl_errNone),("loop.example/g00381/impl.errThere",Rows.laid_loop_example_g00381_impl_errThere),("loop.example/g00381/impl.errFull",Rows.laid_loop_example_g00381_impl_errFull),("loop.example/g00381/impl.errState",Rows.laid_loop_example_g00381_impl_errState),("loop.example/g00381/impl.errRange",Rows.laid_loop_example_g00381_impl_errRange)]
def errN:Nat->String
 | 0=> "loop.example/g00381/impl.errForm"
 | 1=> "loop.example/g00381/impl.errSize"
 | 2=> "loop.example/g00381/impl.errNone"
 | 3=> "loop.example/g00381/impl.errThere"
 | 4=> "loop.example/g00381/impl.errFull"
 | 5=> "loop.example/g00381/impl.errState"
 | _=> "loop.example/g00381/impl.errRange"
theorem zAM(i:Nat)(h:i<7):Tryz.prog.globalNamed (errN i)=some (zBV i)/\(Tryz.prog.globals[zBV i]?).map (·.type)=some 98:=by
 match i,h with
 | 0,_=>exact⟨by kernel_rfl,by kernel_rfl⟩
 | 1,_=>exact⟨by kernel_rfl,by kernel_rfl⟩
 | 2,_=>exact⟨by kernel_rfl,by kernel_rfl⟩
 | 3,_=>exact⟨by kernel_rfl,by kernel_rfl⟩
 | 4,_=>exact⟨by kernel_rfl,by kernel_rfl⟩
 | 5,_=>exact⟨by kernel_rfl,by kernel_rfl⟩
 | 6,_=>exact⟨by kernel_rfl,by kernel_rfl⟩
theorem zTP : "*" ++ "errors.errorString" = "*errors.errorString" :=by decide
theorem zIR(u:TypeId)(h:Tryz.prog.typeName? 3 u=some "*errors.errorString"):u=222:=
 typeName_ptr_named (nm:= "errors.errorString") (by rw[zTP];kernel_rfl) (by kernel_rfl) (by decide) u (by rw[zTP];exact h)
theorem zEu:Tryz.prog.cellsOf 248=1:=by kernel_rfl
theorem zE7:Tryz.prog.cellsOf 9=1:=by kernel_rfl
theorem zO6{W:World}(h:laidMetH Tryz.prog zQs W):∃p:Nat->Addr,zGn W p/\∀i,i<7->W.var? Tryz.prog (errN i)=some #[zAn (p i)]:=by
 rw[MakeChecks.laidMetH_plain _ _ _ (by kernel_rfl)]at h;obtain⟨ps,⟨g0,t0,tA,f0,p0,q0,dA,oB,lA,gB,⟨g1,t1,vA,f1,p1,q1,eA,pB,mA,iB,⟨g2,t2,aB,f2,p2,q2,fA,rB,nA,jB,⟨g3,t3,bB,f3,p3,q3,gA,sB,oA,kB,⟨g4,t4,cB,f4,p4,q4,iA,tB,pA,lB,⟨g5,t5,eB,f5,p5,q5,jA,vB,rA,mB,⟨g6,t6,fB,f6,p6,q6,kA,aC,sA,nB,_,e6⟩,e5⟩,e4⟩,e3⟩,e2⟩,e1⟩,e0⟩,bA,aA⟩:=h;obtain rfl:=Option.some.inj ((zAM 0 (by omega)).1.symm.trans dA);obtain rfl:=Option.some.inj ((zAM 0 (by omega)).2.symm.trans oB);obtain rfl:=Option.some.inj ((zAM 1 (by omega)).1.symm.trans eA);obtain rfl:=Option.some.inj ((zAM 1 (by omega)).2.symm.trans pB);obtain rfl:=Option.some.inj ((zAM 2 (by omega)).1.symm.trans fA);obtain rfl:=Option.some.inj ((zAM 2 (by omega)).2.symm.trans rB);obtain rfl:=Option.some.inj ((zAM 3 (by omega)).1.symm.trans gA);obtain rfl:=Option.some.inj ((zAM 3 (by omega)).2.symm.trans sB);obtain rfl:=Option.some.inj ((zAM 4 (by omega)).1.symm.trans iA);obtain rfl:=Option.some.inj ((zAM 4 (by omega)).2.symm.trans tB);obtain rfl:=Option.some.inj ((zAM 5 (by omega)).1.symm.trans jA);obtain rfl:=Option.some.inj ((zAM 5 (by omega)).2.symm.trans vB);obtain rfl:=Option.some.inj ((zAM 6 (by omega)).1.symm.trans kA);obtain rfl:=Option.some.inj ((zAM 6 (by omega)).2.symm.trans aC);subst e6;subst e5;subst e4;subst e3;subst e2;subst e1;subst e0;obtain⟨l0⟩:=tA;have bC:∀u v,l0 = [.iface u v]->Value.okWide Tryz.prog W .any 0 u v:=fun u v e=>by
  subst e;exact(aA (zBV 0) 0 (by simp[MemPlace.row])).2 u v (by simpa using World.var?_cell dA lA 0)
 obtain⟨a0,s0,rfl,kC,sC,eD,rfl⟩:=errorString_of_trod Tryz.underlying98 zIR Tryz.underlying222 Tryz.underlying248 rfl rfl Tryz.underlying9 zEu zE7 gB bC;obtain⟨l1⟩:=vA;have cC:∀u v,l1 = [.iface u v]->Value.okWide Tryz.prog W .any 0 u v:=fun u v e=>by
  subst e;exact(aA (zBV 1) 0 (by simp[MemPlace.row])).2 u v (by simpa using World.var?_cell eA mA 0)
 obtain⟨a1,s1,rfl,lC,tC,fD,rfl⟩:=errorString_of_trod Tryz.underlying98 zIR Tryz.underlying222 Tryz.underlying248 rfl rfl Tryz.underlying9 zEu zE7 iB cC;obtain⟨l2⟩:=aB;have dC:∀u v,l2 = [.iface u v]->Value.okWide Tryz.prog W .any 0 u v:=fun u v e=>by
  subst e;exact(aA (zBV 2) 0 (by simp[MemPlace.row])).2 u v (by simpa using World.var?_cell fA nA 0)
 obtain⟨a2,s2,rfl,mC,vC,gD,rfl⟩:=errorString_of_trod Tryz.underlying98 zIR Tryz.underlying222 Tryz.underlying248 rfl rfl Tryz.underlying9 zEu zE7 jB dC;obtain⟨l3⟩:=bB;have eC:∀u v,l3 = [.iface u v]->Value.okWide Tryz.prog W .any 0 u v:=fun u v e=>by
  subst e;exact(aA (zBV 3) 0 (by simp[MemPlace.row])).2 u v (by simpa using World.var?_cell gA oA 0)
 obtain⟨a3,s3,rfl,nC,aD,iD,rfl⟩:=errorString_of_trod Tryz.underlying98 zIR Tryz.underlying222 Tryz.underlying248 rfl rfl Tryz.underlying9 zEu zE7 kB eC;obtain⟨l4⟩:=cB;have fC:∀u v,l4 = [.iface u v]->Value.okWide Tryz.prog W .any 0 u v:=fun u v e=>by
  subst e;exact(aA (zBV 4) 0 (by simp[MemPlace.row])).2 u v (by simpa using World.var?_cell iA pA 0)
 obtain⟨a4,s4,rfl,oC,bD,jD,rfl⟩:=errorString_of_trod Tryz.underlying98 zIR Tryz.underlying222 Tryz.underlying248 rfl rfl Tryz.underlying9 zEu zE7 lB fC;obtain⟨l5⟩:=eB;have iC:∀u v,l5 = [.iface u v]->Value.okWide Tryz.prog W .any 0 u v:=fun u v e=>by
  subst e;exact(aA (zBV 5) 0 (by simp[MemPlace.row])).2 u v (by simpa using World.var?_cell jA rA 0)
 obtain⟨a5,s5,rfl,pC,cD,kD,rfl⟩:=errorString_of_trod Tryz.underlying98 zIR Tryz.underlying222 Tryz.underlying248 rfl rfl Tryz.underlying9 zEu zE7 mB iC;obtain⟨l6⟩:=fB;have jC:∀u v,l6 = [.iface u v]->Value.okWide Tryz.prog W .any 0 u v:=fun u v e=>by
  subst e;exact(aA (zBV 6) 0 (by simp[MemPlace.row])).2 u v (by simpa using World.var?_cell kA sA 0)
 obtain⟨a6,s6,rfl,rC,dD,lD,rfl⟩:=errorString_of_trod Tryz.underlying98 zIR Tryz.underlying222 Tryz.underlying248 rfl rfl Tryz.underlying9 zEu zE7 nB jC;refine⟨fun | 0=>a0 | 1=>a1 | 2=>a2 | 3=>a3 | 4=>a4 | 5=>a5 | _=>a6,⟨fun i hi=>?_,fun i hi=>?_,fun i j hi hj cA he=>?_⟩,fun i hi=>?_⟩
 ·match i,hi with
  | 0,_=>simpa using World.var?_cell dA lA 0
  | 1,_=>simpa using World.var?_cell eA mA 0
  | 2,_=>simpa using World.var?_cell fA nA 0
  | 3,_=>simpa using World.var?_cell gA oA 0
  | 4,_=>simpa using World.var?_cell iA pA 0
  | 5,_=>simpa using World.var?_cell jA rA 0
  | 6,_=>simpa using World.var?_cell kA sA 0
 ·match i,hi with
  | 0,_=>exact(aA a0.block a0.off (by simp[MemPlace.row])).1
  | 1,_=>exact(aA a1.block a1.off (by simp[MemPlace.row])).1
  | 2,_=>exact(aA a2.block a2.off (by simp[MemPlace.row])).1
  | 3,_=>exact(aA a3.block a3.off (by simp[MemPlace.row])).1
  | 4,_=>exact(aA a4.block a4.off (by simp[MemPlace.row])).1
  | 5,_=>exact(aA a5.block a5.off (by simp[MemPlace.row])).1
  | 6,_=>exact(aA a6.block a6.off (by simp[MemPlace.row])).1
 ·simp only[MemPlace.row]at bA
  match i,hi,j,hj with
  | 0,_,0,_=>exact absurd rfl cA
  | 0,_,1,_=>obtain rfl:a0=a1:=he;simp at bA
  | 0,_,2,_=>obtain rfl:a0=a2:=he;simp at bA
  | 0,_,3,_=>obtain rfl:a0=a3:=he;simp at bA
  | 0,_,4,_=>obtain rfl:a0=a4:=he;simp at bA
  | 0,_,5,_=>obtain rfl:a0=a5:=he;simp at bA
  | 0,_,6,_=>obtain rfl:a0=a6:=he;simp at bA
  | 1,_,0,_=>obtain rfl:a1=a0:=he;simp at bA
  | 1,_,1,_=>exact absurd rfl cA
  | 1,_,2,_=>obtain rfl:a1=a2:=he;simp at bA
  | 1,_,3,_=>obtain rfl:a1=a3:=he;simp at bA
  | 1,_,4,_=>obtain rfl:a1=a4:=he;simp at bA
  | 1,_,5,_=>obtain rfl:a1=a5:=he;simp at bA
  | 1,_,6,_=>obtain rfl:a1=a6:=he;simp at bA
  | 2,_,0,_=>obtain rfl:a2=a0:=he;simp at bA
  | 2,_,1,_=>obtain rfl:a2=a1:=he;simp at bA
  | 2,_,2,_=>exact absurd rfl cA
  | 2,_,3,_=>obtain rfl:a2=a3:=he;simp at bA
  | 2,_,4,_=>obtain rfl:a2=a4:=he;simp at bA
  | 2,_,5,_=>obtain rfl:a2=a5:=he;simp at bA
  | 2,_,6,_=>obtain rfl:a2=a6:=he;simp at bA
  | 3,_,0,_=>obtain rfl:a3=a0:=he;simp at bA
  | 3,_,1,_=>obtain rfl:a3=a1:=he;simp at bA
  | 3,_,2,_=>obtain rfl:a3=a2:=he;simp at bA
  | 3,_,3,_=>exact absurd rfl cA
  | 3,_,4,_=>obtain rfl:a3=a4:=he;simp at bA
  | 3,_,5,_=>obtain rfl:a3=a5:=he;simp at bA
  | 3,_,6,_=>obtain rfl:a3=a6:=he;simp at bA
  | 4,_,0,_=>obtain rfl:a4=a0:=he;simp at bA
  | 4,_,1,_=>obtain rfl:a4=a1:=he;simp at bA
  | 4,_,2,_=>obtain rfl:a4=a2:=he;simp at bA
  | 4,_,3,_=>obtain rfl:a4=a3:=he;simp at bA
  | 4,_,4,_=>exact absurd rfl cA
  | 4,_,5,_=>obtain rfl:a4=a5:=he;simp at bA
  | 4,_,6,_=>obtain rfl:a4=a6:=he;simp at bA
  | 5,_,0,_=>obtain rfl:a5=a0:=he;simp at bA
  | 5,_,1,_=>obtain rfl:a5=a1:=he;simp at bA
  | 5,_,2,_=>obtain rfl:a5=a2:=he;simp at bA
  | 5,_,3,_=>obtain rfl:a5=a3:=he;simp at bA
  | 5,_,4,_=>obtain rfl:a5=a4:=he;simp at bA
  | 5,_,5,_=>exact absurd rfl cA
  | 5,_,6,_=>obtain rfl:a5=a6:=he;simp at bA
  | 6,_,0,_=>obtain rfl:a6=a0:=he;simp at bA
  | 6,_,1,_=>obtain rfl:a6=a1:=he;simp at bA
  | 6,_,2,_=>obtain rfl:a6=a2:=he;simp at bA
  | 6,_,3,_=>obtain rfl:a6=a3:=he;simp at bA
  | 6,_,4,_=>obtain rfl:a6=a4:=he;simp at bA
  | 6,_,5,_=>obtain rfl:a6=a5:=he;simp at bA
  | 6,_,6,_=>exact absurd rfl cA
 ·match i,hi with
  | 0,_=>exact lA
  | 1,_=>exact mA
  | 2,_=>exact nA
  | 3,_=>exact oA
  | 4,_=>exact pA
  | 5,_=>exact rA
  | 6,_=>exact sA
theorem zN4{H:Type}(enc:TypeId×Value->H){W:World}{p:Nat->Addr}(h:∀i,i<7->W.var? Tryz.prog (errN i)=some #[zAn (p i)])(sp:Nat->Bool) :
  DataW.TrodVars enc Tryz.prog W sp ["loop.example/g00381/impl.errForm", "loop.example/g00381/impl.errSize", "loop.example/g00381/impl.errNone", "loop.example/g00381/impl.errThere", "loop.example/g00381/impl.errFull", "loop.example/g00381/impl.errState", "loop.example/g00381/impl.errRange"] [tok enc (zAn (p 0)),tok enc (zAn (p 1)),tok enc (zAn (p 2)),tok enc (zAn (p 3)),tok enc (zAn (p 4)),tok enc (zAn (p 5)),tok enc (zAn (p 6))] [.cell (zBV 0) 0,.cell (zBV 1) 0,.cell (zBV 2) 0,.cell (zBV 3) 0,.cell (zBV 4) 0,.cell (zBV 5) 0,.cell (zBV 6) 0]:=
 ⟨zBV 0,98,#[zAn (p 0)],1,[],[.cell (zBV 1) 0,.cell (zBV 2) 0,.cell (zBV 3) 0,.cell (zBV 4) 0,.cell (zBV 5) 0,.cell (zBV 6) 0],(zAM 0 (by omega)).1,(zAM 0 (by omega)).2,h 0 (by omega),trod_held Tryz.underlying98 (show IsIface (zAn (p 0))from trivial) 0,⟨zBV 1,98,#[zAn (p 1)],1,[],[.cell (zBV 2) 0,.cell (zBV 3) 0,.cell (zBV 4) 0,.cell (zBV 5) 0,.cell (zBV 6) 0],(zAM 1 (by omega)).1,(zAM 1 (by omega)).2,h 1 (by omega),trod_held Tryz.underlying98 (show IsIface (zAn (p 1))from trivial) 0,⟨zBV 2,98,#[zAn (p 2)],1,[],[.cell (zBV 3) 0,.cell (zBV 4) 0,.cell (zBV 5) 0,.cell (zBV 6) 0],(zAM 2 (by omega)).1,(zAM 2 (by omega)).2,h 2 (by omega),trod_held Tryz.underlying98 (show IsIface (zAn (p 2))from trivial) 0,⟨zBV 3,98,#[zAn (p 3)],1,[],[.cell (zBV 4) 0,.cell (zBV 5) 0,.cell (zBV 6) 0],(zAM 3 (by omega)).1,(zAM 3 (by omega)).2,h 3 (by omega),trod_held Tryz.underlying98 (show IsIface (zAn (p 3))from trivial) 0,⟨zBV 4,98,#[zAn (p 4)],1,[],[.cell (zBV 5) 0,.cell (zBV 6) 0],(zAM 4 (by omega)).1,(zAM 4 (by omega)).2,h 4 (by omega),trod_held Tryz.underlying98 (show IsIface (zAn (p 4))from trivial) 0,⟨zBV 5,98,#[zAn (p 5)],1,[],[.cell (zBV 6) 0],(zAM 5 (by omega)).1,(zAM 5 (by omega)).2,h 5 (by omega),trod_held Tryz.underlying98 (show IsIface (zAn (p 5))from trivial) 0,⟨zBV 6,98,#[zAn (p 6)],1,[],[],(zAM 6 (by omega)).1,(zAM 6 (by omega)).2,h 6 (by omega),trod_held Tryz.underlying98 (show IsIface (zAn (p 6))from trivial) 0,rfl,rfl⟩,rfl⟩,rfl⟩,rfl⟩,rfl⟩,rfl⟩,rfl⟩
theorem zS6{W W':World}{n:String}{cs:Array Value}(h:W.var? Tryz.prog n=some cs)(t:Below W.heap.size W W'):W'.var? Tryz.prog n=some cs:=by
 unfold World.var? at h ⊢;cases hg:Tryz.prog.globalNamed n with
 | none=>simp[hg]at h
 | some g=>
  simp only[hg,Option.bind_some]at h ⊢;have aA:g<W.heap.size:=by
   rcases Nat.lt_or_ge g W.heap.size with h' | h'
   ·exact h'
   ·simp[Array.getElem?_eq_none h']at h
  rw[t.block g aA];exact h
noncomputable def zJN:Nat:=(World.holding Tryz.prog default ⟨#[],#[],[]⟩).heap.size
noncomputable def zON(os:Os):World:=
 let w0:=World.holding Tryz.prog os ⟨#[.cells #[.string ⟨#[105,116,32,105,115,32,110,111,116,32,114,105,103,104,116]⟩] 248,.cells #[.string ⟨#[105,116,32,105,115,32,116,111,111,32,108,111,110,103]⟩] 248,.cells #[.string ⟨#[116,104,101,114,101,32,105,115,32,110,111,110,101]⟩] 248,.cells #[.string ⟨#[116,104,101,114,101,32,105,115,32,111,110,101,32,97,108,114,101,97,100,121]⟩] 248,.cells #[.string ⟨#[116,104,101,114,101,32,105,115,32,110,111,32,114,111,111,109]⟩] 248,.cells #[.string ⟨#[105,116,32,100,111,101,115,32,110,111,116,32,115,116,97,110,100,32,115,111,32,116,104,97,116,32,116,104,105,115,32,99,97,110,32,98,101,32,100,111,110,101]⟩] 248,.cells #[.string ⟨#[105,116,32,105,115,32,111,117,116,32,111,102,32,114,97,110,103,101]⟩] 248],#[],[]⟩
 {w0 with heap:=((((((((((((((w0.heap).modify 0 fun
   | .cells _ t frozen=>.cells #[zAn ⟨zJN+0,0,none⟩] t frozen
   | o=>o)).modify 1 fun
   | .cells _ t frozen=>.cells #[zAn ⟨zJN+1,0,none⟩] t frozen
   | o=>o)).modify 2 fun
   | .cells _ t frozen=>.cells #[zAn ⟨zJN+2,0,none⟩] t frozen
   | o=>o)).modify 3 fun
   | .cells _ t frozen=>.cells #[zAn ⟨zJN+3,0,none⟩] t frozen
   | o=>o)).modify 4 fun
   | .cells _ t frozen=>.cells #[zAn ⟨zJN+4,0,none⟩] t frozen
   | o=>o)).modify 5 fun
   | .cells _ t frozen=>.cells #[zAn ⟨zJN+5,0,none⟩] t frozen
   | o=>o)).modify 6 fun
   | .cells _ t frozen=>.cells #[zAn ⟨zJN+6,0,none⟩] t frozen
   | o=>o)}
theorem zNd(os:Os)(args:Array Value):laidMetH Tryz.prog zQs ((zON os).forCall (fun _ _=>0) ⟨#[],args,[]⟩).memory:=by
 rw[MakeChecks.laidMetH_plain _ _ _ (by kernel_rfl)];exact laidMet_of_run (ps:=[.cell 0 0,.cell (zJN+0) 0,.cell 1 0,.cell (zJN+1) 0,.cell 2 0,.cell (zJN+2) 0,.cell 3 0,.cell (zJN+3) 0,.cell 4 0,.cell (zJN+4) 0,.cell 5 0,.cell (zJN+5) 0,.cell 6 0,.cell (zJN+6) 0]) 8 (by kernel_rfl) (by kernel_rfl) (by kernel_rfl)
end Go.Proofs.YtbplmbafodlboaaGreatDoor
