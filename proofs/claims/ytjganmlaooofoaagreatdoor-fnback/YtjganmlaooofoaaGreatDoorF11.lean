/- A part of the proof. -/
import Derived.Test.YtjganmlaooofoaaGreatDoorF10
import Derived.Deep.RegionHeld
import Derived.Deep.RegionWith
import Derived.Laws.OwnMore
import Derived.Lib.SliceRun
import Derived.Deep.AppendLies
import Derived.Deep.DeepCutAuto
set_option linter.unusedVariables false
set_option maxRecDepth 20000
set_option maxHeartbeats 4000000
namespace Go.Proofs.YtjganmlaooofoaaGreatDoor
open Go.RowKit
set_option linter.unusedSimpArgs false
set_option maxRecDepth 20000
set_option maxHeartbeats 1600000
attribute [local go_sem] qg List.map_cons List.map_nil Tr.cv yv qT yF yD yu yr yq yC zBD zBF zBE zBA zBC zBB zCc zCe zCd qY zt qZ zu qR qQ qf zAL zp zq yL qW tmpsOf zAy yK qV zA9 yz yx yw zAA yy stpP opds opd opdC kap zAS qS zo coreU bin zAl zCO get put dlO fgt zBP zBI zBM zBN tyT yp yo Op.operands Call.operands evLoad evLen evStore evAlloc zAn and_true true_and List.append_nil List.nil_append List.cons_append Ret resCv zCB yY cellM zBl zCI qh StW StR hpT hpO hpV hpA hpL hpC sg nin zCT bdO tmW obW AvE CsE CvE Av.tup Av.ids Cv.ids inD ObE Ob.ids TrE.refl qU yH yI qb qd qe zr zf zd zAC zBe zCH zBG evCall argL argOf qq outOb obO yU qK cvO tot Tr.own rid partsOf fillC zU zBj frz frz1 evBuildSlice zc trs Cv.tr evSlice Option.toArray_none Option.toArray_some evMakeSlice evAppend dstOf srcOf zA7 zBO zBL zBJ zBK ikT yB yA qz qy RetP RetN zBs qP evLd evSt evStoreH zAe evAppendM evAppendT tlOf mvOf rowE shp evTake oOf evC evCallP evCallN evCallO unlast zAX zA6 zAZ argsF zCS qu pmC varT vT evField evConv dB0 Option.bind_some Option.bind_none Option.map_some Option.map_none Option.isSome_some Option.isSome_none
theorem zW{n:Nat}{s:Nat->zN}:(Tr.s .o 3 n (zk .z s)).kept:=⟨by simp,fun i j _ hj=>match j,hj with
 | 0,_=>trivial
 | 1,_=>⟨by simp,fun a b _ hb=>match b,hb with
  | 0,_=>trivial
  | 1,_=>trivial⟩
 | 2,_=>trivial⟩
theorem zm{n:Nat}{h:Nat->Int}:(Tr.s .o 1 n (yT h)).kept:=⟨by simp,fun i j _ _=>trivial⟩
theorem zZ8{fl:Fl}{k n:Nat}{F G:Nat->Nat->Tr}(h:∀j,j<k->G 0 j=F n j):TrE (.s fl k (n+1) (yX F n G)) (.s fl k (n+1) F):=by
 refine⟨.inl rfl,rfl,rfl,fun i j hi hj=>TrE.of_eq ?_⟩;unfold yX;by_cases hl:i<n
 ·rw[if_pos hl]
 ·cases (show i=n by omega);rw[if_neg hl,Nat.sub_self,h j hj]
abbrev poO(p:zF):Bool×List Tr:=(true,[.s .o 3 p.n (zk .z p.s),.s .o 1 p.hn (yT p.h)])
noncomputable def zb7:zX:=qk (fun p:zF=>[poT p.n p.s p.hn p.h]) (fun p=>p.n<=1000000/\p.hn<=1000000/\∀i,i<p.n->(p.s i).kn<=1000000) (fun p=>[poO p])
theorem zHp(p:zF):zb7 [poT p.n p.s p.hn p.h]=some (p.n<=1000000/\p.hn<=1000000/\∀i,i<p.n->(p.s i).kn<=1000000,[poO p]):=zO (fun l=>zEu (nth l 0 0) (nth l 0 1)) (fun _=>rfl) p
theorem zG1:zy Tryz.prog 73 zb7:=by
 refine zQ qA (GOk.cons zT1 (zG Tryz.func123 rfl rfl) GOk.nil) zz Tryz.func73 rfl Tryz.ntmps73 Tryz.results73 5 ?_;rintro p ⟨hn,hm,hk⟩;replace hn:p.n<=1000000:=hn;replace hm:p.hn<=1000000:=hm;refine⟨by simp,?_⟩;simp[go_sem,zF5,zVi];refine⟨by omega,?_⟩;refine yE (fun k:Nat=>⟨[(4,true,.i k),(3,true,.m false [.p 3 0]),(2,true,.m false [.p 2 0]),(1,true,.m false [.p 1 0])],[(3,.var [.h 7,.h 8]),(7,.row 3 k (zk .z p.s)),(8,.row 1 p.hn (yT p.h)),(2,.var [.v n0,.v n0]),(1,.var [.s .b 3 p.n (zk .b p.s),.s .b 1 p.hn (yT p.h)])]⟩) (fun k=>p.n - k) (fun k=>k<=p.n) 0 ?_ (by simp) ?_
 ·simp[go_sem];exact TrE.refl (.s .o 1 p.hn (yT p.h))
 rintro k bA;simp[go_sem,qB (show k<=1000000000 by omega),zZB];refine⟨fun hl=>?_,fun hl=>?_⟩
 ·have aA:=hk k hl;refine⟨hl,aA,by omega,by kernel_rfl,k+1,by omega,by omega,by omega,zZ8 fun j hj=>?_⟩
  match j,hj with
  | 0,_=>rfl
  | 1,_=>rfl
  | 2,_=>rfl
 ·cases (show k=p.n by omega);exact⟨⟨TrE.refl _,zW⟩,zm⟩
def zIl(x:Int):Nat:=if 0<=x/\x<=200 then x.toNat else 0
noncomputable def zcL:zX:=qk (fun x:Int=>[iT x]) (fun _=>True) (fun x=>[poO (zEw (zIl x))])
theorem zY1(x:Int):zcL [iT x]=some (True,[poO (zEw (zIl x))]):=zO (fun l=>qM (nth l 0 0)) (fun _=>rfl) x
theorem zTF:zy Tryz.prog 127 zcL:=by
 refine zQ qA GOk.nil zz Tryz.func127 rfl Tryz.ntmps127 Tryz.results127 5 ?_;rintro x -;refine⟨by simp,?_⟩;simp[go_sem];refine yE (fun k:Nat=>⟨[(4,true,.i k),(0,true,.i x),(3,true,.m false [.p 3 0]),(2,true,.m false [.p 2 0])],[(3,.var [.h 7,.v n0]),(7,.row 3 k (zk .z fun _=>zFh)),(2,.var [.v n0,.v n0])]⟩) (fun k=>200 - k) (fun k=>k<=zIl x) 0 (by simp[go_sem]) (by simp) ?_;rintro k hk;have hx:zIl x<=200:=by unfold zIl;split<;>omega
 have hz:IntKind.i64.wrap ((k:Int)+1)=(k+1:Nat):=by simpa using qB (show k<=1000000000 by omega)
 simp[go_sem,zEw];refine⟨fun h1 h2=>?_,fun h=>?_⟩
 ·have hm:zIl x=x.toNat:=if_pos ⟨by omega,h2⟩;refine⟨by omega,k+1,by omega,by omega,hz,?_⟩;refine⟨.inl rfl,rfl,rfl,fun i j hi hj=>?_⟩;unfold yX;by_cases hl:i<k
  ·rw[if_pos hl];exact TrE.refl _
  ·cases (show i=k by omega);rw[if_neg hl,Nat.sub_self]
   match j,hj with
   | 0,_=>rfl
   | 1,_=>exact⟨rfl,rfl⟩
   | 2,_=>rfl
 ·have hm:k=zIl x:=by
   by_cases h0:0<=x/\x<=200
   ·have e:zIl x=x.toNat:=if_pos h0;omega
   ·have e:zIl x=0:=if_neg h0;omega
  rw[hm];exact⟨TrE.refl _,zW⟩
theorem s1{α : Type}(l:List α)(i:Nat)(a:α):l.toArray.setIfInBounds i a=(l.set i a).toArray:=List.setIfInBounds_toArray ..
theorem s2{α : Type}(x:α)(l:List α)(a:α):(x :: l).set 0 a=a :: l:=rfl
theorem s3{α : Type}(x:α)(l:List α)(i:Nat)(a:α):(x :: l).set (i+1) a=x :: l.set i a:=rfl
def zUM:List Oper->Nat->Option Oper
 | [],_=>none
 | o :: _,0=>some o
 | _ :: l,n+1=>zUM l n
theorem zPf:∀(l:List Oper) (i:Nat),l[i]?=zUM l i
 | [],_=>rfl
 | _ :: _,0=>rfl
 | _ :: l,n+1=>by simpa[zUM]using zPf l n
theorem zC7{aA:Array Oper}{i:Nat}{o:Oper}(h:zUM aA.toList i=some o):aA[i]?=some o:=by
 rw[<-h,<-zPf,Array.getElem?_toList]
section
variable {P : Program} {md : Region.Mode} {ops : Array Oper} {Q : Exit -> Act -> World -> Prop} {S : World -> Prop}
theorem tk(i:Nat){o:Oper}{v:Value}{bA:Nat}{aA l':Array Bool}{a a':Act}{w:World}(hi:zUM ops.toList i=some o:=by exact rfl)
  (hb:(Region.noSelect ops && (Region.free md ops aA i && (Region.ready md ops aA).contains i))=true:=by kernel_rfl)
  (hw:Region.wanted o (yielded ops a.tmps)=true:=by exact rfl) (hS:S w:=by assumption)
  (hy:∀w,S w->(execOp a.eval o).run P w = .ok (.value v) w:=by(intro w cA;(try dsimp only at cA);go_simp;try with_reducible rfl))
  (hl:aA.setIfInBounds i true=l':=by((try simp only[s1,s2,s3]);exact rfl))
  (ha:a.put o.dst v=a':=by((try simp only[Act.put,s1,s2,s3]);exact rfl))
  (hQ:∀c a w,Q (.panic c) (a.put o.dst v) w->Q (.panic c) a w:=by exact fun _ _ _ h=>h)
  (h:wpAnyH P md ops Q S bA l' a' w):wpAnyH P md ops Q S (bA+1) aA a w:=by
 simp only[Bool.and_eq_true]at hb;subst hl ha;exact wpAnyH_take (zC7 hi) hb.1 hb.2.1 hb.2.2 hQ (Or.inl ⟨hw,hy⟩) hS h
theorem ts(i:Nat){o:Oper}{bA:Nat}{aA l':Array Bool}{a a':Act}{w:World}(hi:zUM ops.toList i=some o:=by exact rfl)
  (hb:(Region.noSelect ops && (Region.free md ops aA i && (Region.ready md ops aA).contains i))=true:=by kernel_rfl)
  (hw:Region.wanted o (yielded ops a.tmps)=false:=by exact rfl) (hS:S w:=by assumption)
  (hl:aA.setIfInBounds i true=l':=by((try simp only[s1,s2,s3]);exact rfl))
  (ha:a.put o.dst undef=a':=by((try simp only[Act.put,s1,s2,s3]);exact rfl))
  (hQ:∀c a w,Q (.panic c) (a.put o.dst undef) w->Q (.panic c) a w:=by exact fun _ _ _ h=>h)
  (h:wpAnyH P md ops Q S bA l' a' w):wpAnyH P md ops Q S (bA+1) aA a w:=by
 simp only[Bool.and_eq_true]at hb;subst hl ha;exact wpAnyH_take (zC7 hi) hb.1 hb.2.1 hb.2.2 hQ (Or.inr ⟨hw,rfl⟩) hS h
theorem rd(rs:List Nat){bA:Nat}{aA:Array Bool}{a:Act}{w:World}(h:AllReadyH P md ops Q S bA aA a w rs)
  (hr:Region.ready md ops aA=rs:=by kernel_rfl) (cA:rs≠[]:=by simp):wpAnyH P md ops Q S (bA+1) aA a w:=wpAnyH_ready hr cA h
theorem rc{bA:Nat}{aA:Array Bool}{a:Act}{w:World}{i:Nat}{o:Oper}{rs:List Nat}
  (h:∀K':Act->World->Prop,Shut (∀a w,S w->(S w->wpAnyH P md ops Q S bA (aA.setIfInBounds i true) a w)->K' a w)->if Region.wanted o (yielded ops a.tmps)=true then Oper.wp P o a w K' Q else K' (a.put o.dst undef) w)
  (hs:AllReadyH P md ops Q S bA aA a w rs) (ho:zUM ops.toList i=some o:=by exact rfl):AllReadyH P md ops Q S bA aA a w (i :: rs):=AllReadyH.cons (zC7 ho) h hs
end
theorem qC{P:Prop}(h:P):Hid P:=h
theorem zQ3(w:World)(a0 a1 x0 x1:Value)(t1 t2:TypeId) :
  zAT ((w.alloc (.cells #[a0,a1] t1)).alloc (.cells #[x0,x1] t2)) w.heap.size a0 a1/\zAT ((w.alloc (.cells #[a0,a1] t1)).alloc (.cells #[x0,x1] t2)) (w.heap.size+1) x0 x1/\
  Below w.heap.size w ((w.alloc (.cells #[a0,a1] t1)).alloc (.cells #[x0,x1] t2))/\((w.alloc (.cells #[a0,a1] t1)).alloc (.cells #[x0,x1] t2)).heap.size=w.heap.size+2:=by
 refine⟨(zAT.new w a0 a1 t1).zeF (zD _ _),?_,zA (zD _ _) (zD _ _),by simp⟩;have:=zAT.new (w.alloc (.cells #[a0,a1] t1)) x0 x1 t2;rw[World.size_alloc]at this;exact this
def zWJ(p:zF)(Low:zN->Prop)(s:zN):Prop:=(∃i,i<8/\¬Nil (qJ s i) (yZ s i))/\∀i,i<8->Nil (qJ s i) (yZ s i)\/Low (p.s (qJ s i).toNat)
def zJe(p:zF)(L:Int)(Low:zN->Prop):Prop:=∀(v:Value) (lo hi:Nat) (xs xb:Int) (w:World),zA3 w lo hi v p.n p.s->qp p xs xb->
 Calls Tryz.prog 161 #[v,.agg #[.int .i64 xs,.int .i64 xb],.int .i64 L] w fun e w'=>zL (Low (p.s xs.toNat)) e/\Below w.heap.size w w'
theorem zPw(s:zN):zOJ (zj s) (fun _=>0)=true↔¬∃i,i<8/\¬Nil (qJ s i) (yZ s i):=by
 rw[zRf];constructor
 ·rintro h ⟨i,hi,hn⟩;exact hn (h i hi)
 ·intro h i hi;by_cases hn:Nil (qJ s i) (yZ s i)
  ·exact hn
  ·exact absurd ⟨i,hi,hn⟩ h
theorem zUa(p:zF):zJe p 2 zLk:=by
 intro v lo hi xs xb w hs hP;have Hs:=qC hs;obtain⟨_,a,c,rfl,_⟩:=id hs;obtain⟨k,rfl⟩:=Int.eq_ofNat_of_zero_le hP.2.1;have hk:k<p.n:=by have:=hP.2.2.1;omega
 have dA:(k:Int)<(p.n:Int):=by omega
 have ha:=zD w (.cells #[.int .i64 (k:Int),.int .i64 xb] 38);obtain⟨⟨x0,x1⟩,⟨x2,x3⟩⟩:=zAT.new w (.int .i64 (k:Int)) (.int .i64 xb) 38;obtain⟨b,off,ka,kc,rfl,cA⟩:=(Hs.out.zeF ha).cells hk;have HC:=qC cA;obtain⟨q0,q1,q2,_⟩:=cA;clear hs hP;go_enter Tryz.func161,Tryz.ntmps161;go_wp2_with fail;have aA:=zD (w.alloc (.cells #[.int .i64 (k:Int),.int .i64 xb] 38)) (.cells #[.int .i64 (p.s k).birth,.slice ka (p.s k).kn kc,.string (p.s k).data] 101);refine(zM1 _ _ _ lo hi (p.s k) _ (HC.out.slot.zeF aA)).mono ?_;rintro e w1 ⟨⟨t,rfl,ht⟩,bA⟩;have hB:=zA (zA ha aA) bA;have HT:=qC ht;clear ht bA;go_wp2;go_ret;refine⟨⟨t,rfl,?_⟩,hB⟩;rw[Int.toNat_natCast];exact HT.out
theorem zNv(p:zF)(L:Int)(jA:zN->Prop)(hR:zg p)(hL:0<=L/\L<2)(eA:zJe p (L+1) jA):zJe p L (zWJ p jA):=by
 intro v lo hi xs xb w hs hP;have iA:=qC eA;have HR:=qC hR;have Hs:=qC hs;have HP:=qC hP;have Hf:=qC (zAg hR hP);obtain⟨_,a,c,rfl,_⟩:=id hs;obtain⟨k,rfl⟩:=Int.eq_ofNat_of_zero_le hP.2.1;rw[Int.toNat_natCast]at Hf;have hk:k<p.n:=by have:=hP.2.2.1;omega
 have eB:(k:Int)<(p.n:Int):=by omega
 have cB:(L == 2)=false:=by simp;omega
 have ha:=zD w (.cells #[.int .i64 (k:Int),.int .i64 xb] 38);obtain⟨⟨x0,x1⟩,⟨x2,x3⟩⟩:=zAT.new w (.int .i64 (k:Int)) (.int .i64 xb) 38;obtain⟨b,off,ka,kc,rfl,rA⟩:=(Hs.out.zeF ha).cells hk;have HC:=qC rA;obtain⟨q0,q1,q2,_⟩:=rA;clear hs hP eA hR;go_enter Tryz.func161,Tryz.ntmps161;go_wp2_with fail;have kA:=zD (w.alloc (.cells #[.int .i64 (k:Int),.int .i64 xb] 38)) (.cells #[.int .i64 (p.s k).birth,.slice ka (p.s k).kn kc,.string (p.s k).data] 101);refine(zJA _ _ _ lo hi (p.s k) _ (HC.out.slot.zeF kA) (zJu Hf.out)).mono ?_;rintro e w1 ⟨rfl,oA⟩;have hB:=zA (zA ha kA) oA;clear oA ha kA x0 x1 x2 x3 q0 q1 q2 HC;have aA:Hid ((Tryz.prog.info? 194).map (·.size)=some (yh (p.s k)).size):=by
  show _=_;rw[yh,zAc];exact zJ0
 have tA:Hid ((#[Value.int .i64 0,Value.int .i64 0,Value.int .i64 0,Value.int .i64 0,Value.int .i64 0,Value.int .i64 0,Value.int .i64 0,Value.int .i64 0,Value.int .i64 0,Value.int .i64 0,Value.int .i64 0,Value.int .i64 0,Value.int .i64 0,Value.int .i64 0,Value.int .i64 0,Value.int .i64 0]:Array Value)=zAd (fun _=>0)):=rfl;have vA:∀w,(binOp .eql 194 (.agg (yh (p.s k))) (.agg #[Value.int .i64 0,Value.int .i64 0,Value.int .i64 0,Value.int .i64 0,Value.int .i64 0,Value.int .i64 0,Value.int .i64 0,Value.int .i64 0,Value.int .i64 0,Value.int .i64 0,Value.int .i64 0,Value.int .i64 0,Value.int .i64 0,Value.int .i64 0,Value.int .i64 0,Value.int .i64 0])).run Tryz.prog w = .ok (.bool (zOJ (zj (p.s k)) (fun _=>0))) w:=fun w=>zUx (zj (p.s k)) (fun _=>0) w
 have dA:(w1.alloc (.cells (yh (p.s k)) 194)).heap[w1.heap.size]?=some (.cells (yh (p.s k)) 194 (0,0)):=heap_alloc_last _ _;have HK:=qC dA;have nA:=zA hB (zD w1 (.cells (yh (p.s k)) 194));clear dA hB;by_cases hz:zOJ (zj (p.s k)) (fun _=>0)=true
 ·have HZ:=qC ((zPw _).1 hz);go_wp2_with (first
   | (refine wpList_store_row rfl 194 (.tmp 8) (.tmp 20) rfl w1.heap.size (yh (p.s k)) rfl rfl 194 #[Value.int .i64 0,Value.int .i64 0,Value.int .i64 0,Value.int .i64 0,Value.int .i64 0,Value.int .i64 0,Value.int .i64 0,Value.int .i64 0,Value.int .i64 0,Value.int .i64 0,Value.int .i64 0,Value.int .i64 0,Value.int .i64 0,Value.int .i64 0,Value.int .i64 0,Value.int .i64 0] (heap_alloc_last _ _) aA.out (by rw[yh,zAc];rfl) (zFB _) ?_;rw[World.setRow_alloc_new])
   | (refine wpList_load_row rfl 194 (.tmp 8) rfl w1.heap.size rfl 194 (yh (p.s k)) (0,0) _ HK.out zRS rfl aA.out ?_))
  go_ret;exact⟨zL.no fun h=>HZ.out (by rw[Int.toNat_natCast]at h;exact h.1),nA⟩
 ·have HZ:Hid (∃i,i<8/\¬Nil (qJ (p.s k) i) (yZ (p.s k) i)):=by
   by_cases h:∃i,i<8/\¬Nil (qJ (p.s k) i) (yZ (p.s k) i)
   ·exact h
   ·exact absurd ((zPw _).2 h) hz
  have fB:zOJ (zj (p.s k)) (fun _=>0)=false:=(by simpa using hz);clear hz;go_wp2_with (first
   | (refine wpList_store_row rfl 194 (.tmp 8) (.tmp 20) rfl w1.heap.size (yh (p.s k)) rfl rfl 194 #[Value.int .i64 0,Value.int .i64 0,Value.int .i64 0,Value.int .i64 0,Value.int .i64 0,Value.int .i64 0,Value.int .i64 0,Value.int .i64 0,Value.int .i64 0,Value.int .i64 0,Value.int .i64 0,Value.int .i64 0,Value.int .i64 0,Value.int .i64 0,Value.int .i64 0,Value.int .i64 0] (heap_alloc_last _ _) aA.out (by rw[yh,zAc];rfl) (zFB _) ?_;rw[World.setRow_alloc_new])
   | (refine wpList_load_row rfl 194 (.tmp 8) rfl w1.heap.size rfl 194 (yh (p.s k)) (0,0) _ HK.out zRS rfl aA.out ?_))
  have gB:w1.heap.size<(w1.alloc (.cells (yh (p.s k)) 194)).heap.size:=by rw[World.size_alloc];exact Nat.lt_succ_self _
  go_loopw [24] (fun i wr=>∃j:Nat,j<=8/\i = .int .i64 j/\(∀m,m<j->Nil (qJ (p.s k) m) (yZ (p.s k) m)\/jA (p.s (qJ (p.s k) m).toNat))/\wr.heap[w1.heap.size]?=some (.cells (yh (p.s k)) 194 (0,0))/\Below w.heap.size w wr) (fun i _=>8 - (intOf i).toNat)
  case atStart=>exact⟨0,Nat.zero_le _,rfl,fun m hm=>absurd hm (Nat.not_lt_zero _),HK.out,nA⟩
  case round=>
   obtain⟨j,hj,rfl,cA,hK,hb⟩:=hrel;have bA:=qC cA;have fA:=qC hK;have mA:w1.heap.size<wr.heap.size:=(Array.getElem?_eq_some_iff.1 hK).1;clear cA hK;by_cases gA:j<8
   ·have bB:(j:Int)<8:=(by omega);obtain⟨y0,y1⟩:=zK (i:=j*2) fA.out (zDu (zj (p.s k)) (by omega));obtain⟨y2,y3⟩:=zK (i:=j*2+1) fA.out (zDu (zj (p.s k)) (by omega));by_cases hn:Nil (qJ (p.s k) j) (yZ (p.s k) j)
    ·have HN:=qC hn;rw[show zj (p.s k) (j*2)=0 from hn.1]at y0;rw[show zj (p.s k) (j*2+1)=0 from hn.2]at y2;clear hn;go_wp2;go_roundw
     case rel=>exact⟨j+1,by omega,by go_num,yJ (n:=8) gA bA.out (Or.inl HN.out),fA.out,hb⟩
     case measure=>simp[intOf];omega
    ·have HN:=qC hn;have aB:=qC (zC2 Hf.out gA hn).1;have e0:(zj (p.s k) (j*2) == 0)=false\/(zj (p.s k) (j*2) == 0)=true/\(zj (p.s k) (j*2+1) == 0)=false:=by
      by_cases h:zj (p.s k) (j*2)=0
      ·right;refine⟨by simp[h],?_⟩;have:zj (p.s k) (j*2+1)≠0:=fun h'=>hn ⟨h,h'⟩
       simp[this]
      ·left;simp[h]
     clear hn;rcases e0 with e0 | ⟨e0,e1⟩
     all_goals
      go_wp2_with fail;refine(iA.out _ lo hi (zj (p.s k) (j*2)) (zj (p.s k) (j*2+1)) _ (Hs.out.zeF hb) aB.out).mono ?_;rintro e w2 ⟨⟨t,rfl,ht⟩,lA⟩;have HT:=qC ht;have sA:=qC ((lA.block _ mA).trans fA.out);have pA:=zA hb lA;clear ht lA y0 y1 y2 y3;cases t
      ·go_wp2;go_ret;refine⟨zL.no fun h=>?_,pA⟩;rw[Int.toNat_natCast]at h;rcases h.2 j gA with h1 | h1
       ·exact HN.out h1
       ·exact absurd (HT.out.2 h1) (by simp)
      ·go_wp2;go_roundw
       case rel=>exact⟨j+1,by omega,by go_num,yJ (n:=8) gA bA.out (Or.inr (HT.out.1 trivial)),sA.out,pA⟩
       case measure=>simp[intOf];omega
   ·obtain rfl:j=8:=(by omega);go_wp2;go_ret;exact⟨zL.yes (by rw[Int.toNat_natCast];exact⟨HZ.out,bA.out⟩),hb⟩
theorem zUZ(p:zF)(hR:zg p):zJe p 1 (zP6 p):=zNv p 1 zLk hR (by omega) (zUa p)
theorem zNu(p:zF)(hR:zg p):zJe p 0 (zP5 p):=zNv p 0 (zP6 p) hR (by omega) (zUZ p hR)
def zaf(s:zN)(w:World)(e:Ending)(w':World):Prop:=
 ∃kv kb,e = .returned (.agg #[.int .i64 s.birth,kv,.string s.data])/\zAY w' kb kv s.kn s.ks s.kb/\(0<s.kn->w.heap.size<=kb/\kb<w'.heap.size)/\Below w.heap.size w w'
def kc(f g:Nat->Int):Nat->List Value
 | 0=>[]
 | k+1=>kc f g k ++ [.int .i64 (f k),.int .i64 (g k)]
theorem zKs(f g:Nat->Int)(k:Nat):(kc f g k).length=k*2:=by
 induction k with
 | zero=>rfl
 | succ k ih=>simp[kc,ih];omega
theorem zYg(f g:Nat->Int)(k i r:Nat)(hi:i<k)(hr:r<2):(kc f g k)[i*2+r]? = [Value.int .i64 (f i),.int .i64 (g i)][r]?:=by
 induction k with
 | zero=>omega
 | succ k ih=>
  unfold kc;by_cases e:i<k
  ·rw[List.getElem?_append_left (by rw[zKs];omega)];exact ih e
  ·obtain rfl:i=k:=(by omega);rw[List.getElem?_append_right (by rw[zKs];omega),zKs];congr 1;omega
theorem zYh(f g:Nat->Int)(k:Nat):∀u∈kc f g k,u.oneCell'=true:=by
 induction k with
 | zero=>intro u hu;simp[kc]at hu
 | succ k ih=>
  intro u hu;simp only[kc,List.mem_append,List.mem_cons,List.not_mem_nil,or_false]at hu;rcases hu with hu | rfl | rfl
  ·exact ih u hu
  ·rfl
  ·rfl
theorem zR0{w:World}{b off:Nat}{f g:Nat->Int}{n:Nat}(h:∀i,i<n->w.cell? ⟨b,off+i*2,none⟩=some (.int .i64 (f i))/\w.cell? ⟨b,off+i*2+1,none⟩=some (.int .i64 (g i))) :
  ∀j u,(kc f g n)[j]?=some u->w.cell? ((⟨b,off,none⟩:Addr).add j)=some u:=by
 intro j u hj;have bA:j<n*2:=by
  have:=(List.getElem?_eq_some_iff.1 hj).1
  rwa [zKs]at this
 have aA:(⟨b,off,none⟩:Addr).add j=⟨b,off+j,none⟩:=by unfold Addr.add;split<;>simp_all
 rw[aA];obtain⟨c0,c1⟩:=h (j / 2) (by omega);have e:=zYg f g n (j / 2) (j % 2) (by omega) (by omega);rw[show j / 2*2+j % 2=j by omega,hj]at e;rcases(by omega:j % 2=0\/j % 2=1)with hm | hm
 ·rw[hm]at e;simp at e;subst e;rw[show off+j=off+j / 2*2 by omega];exact c0
 ·rw[hm]at e;simp at e;subst e;rw[show off+j=off+j / 2*2+1 by omega];exact c1
theorem zKF{w:World}{base e n:Nat}{v:Value}{f g:Nat->Int}(hm:n<=maxLen)(h:w.ownsRow base e 2 v n (kc f g n)):∃kb,zAY w kb v n f g/\(0<n->base<=kb/\kb<w.heap.size):=by
 by_cases h0:0<n
 ·obtain⟨gb,cap,rfl,bA,hb,cA,aA⟩:=zCm h h0;refine⟨gb,⟨hm,_,cap,rfl,bA,fun _=>⟨0,rfl,fun i hi=>⟨?_,?_⟩⟩⟩,fun _=>⟨hb,cA⟩⟩
  ·have:=aA (i*2+0) _ (zYg f g n i 0 hi (by omega));simpa using this
  ·have:=aA (i*2+1) _ (zYg f g n i 1 hi (by omega));simpa using this
 ·obtain⟨a,cap,rfl,bA⟩:=zs h;exact⟨0,⟨hm,a,cap,rfl,bA,fun h=>absurd h h0⟩,fun h=>absurd h h0⟩
theorem zLu{P:Program}{w:World}(base:Nat)(t ty e:TypeId)(i:TypeInfo)(size c:Nat)(ao:Option Addr)(ht:P.underlying t=some (.slice e))(hi:P.info? e=some i)
  (v:Value) (n:Nat) (xs:List Value) (aA:w.ownsRow base e size v n xs) :
  (Builtin.append_ #[t,t] ty #[v,.slice ao 0 c]).run P w = .ok v w:=by
 rcases aA.2 with⟨rfl,rfl⟩ | ⟨g,cap,cA,rfl,_,_,bA,_⟩
 ·cases ao<;>simp[Builtin.append_,run_underlying ht,sizeOf,typeInfo,hi,Builtin.lenOf,Builtin.firstCells,loadCells,loadCellsFrom]
 ·cases ao<;>simp[Builtin.append_,run_underlying ht,sizeOf,typeInfo,hi,Builtin.lenOf,Builtin.firstCells,bA,storeCells,loadCells,loadCellsFrom]
theorem zJS{P:Program}{w:World}{cA:Array Oper}{rest:List Oper}{o:Oper}{a:Act}{Q:Exit->Act->World->Prop}(dA:o.guard=none)(s x:Operand)(t:TypeId)
  (ho:o.op = .call {callee:=.builtin .append,args:=#[s,x],argTypes:=#[t,t]})
  (base:Nat) (e:TypeId) (i:TypeInfo) (size c m:Nat) (ao:Option Addr) (ht:P.underlying t=some (.slice e)) (hi:P.info? e=some i)
  (v:Value) (n:Nat) (xs:List Value) (hs:a.eval s=v) (aA:w.ownsRow base e size v n xs) (hm:m=0) (hx:a.eval x = .slice ao m c)
  (h:wpList P cA Q rest (a.put o.dst v) w):wpList P cA Q (o :: rest) a w:=by
 subst hm;refine wpList_plain dA fun K hK=>?_
 have bA:=zLu (P:=P) (w:=w) base t o.type e i size c ao ht hi v n xs aA;unfold Oper.wp;simp[execOp,ho,resolve,invoke,builtin,hs,hx,bA,Result.andThen];exact hK _ _ h
theorem zMz:(Tryz.prog.info? 38).map (fun i=>(i.zero,i.size,i.bytes))=some (some (.agg #[.int .i64 0,.int .i64 0]),2,16):=by kernel_rfl
def sc(f:Nat->zN)(kv:Nat->Value):Nat->List Value
 | 0=>[]
 | k+1=>sc f kv k ++ [.int .i64 (f k).birth,kv k,.string (f k).data]
theorem zNp(f:Nat->zN)(kv:Nat->Value)(k:Nat):(sc f kv k).length=k*3:=by
 induction k with
 | zero=>rfl
 | succ k ih=>simp[sc,ih];omega
theorem zV3(f:Nat->zN)(kv:Nat->Value)(k i r:Nat)(hi:i<k)(hr:r<3):(sc f kv k)[i*3+r]? = [Value.int .i64 (f i).birth,kv i,.string (f i).data][r]?:=by
 induction k with
 | zero=>omega
 | succ k ih=>
  unfold sc;by_cases e:i<k
  ·rw[List.getElem?_append_left (by rw[zNp];omega)];exact ih e
  ·obtain rfl:i=k:=(by omega);rw[List.getElem?_append_right (by rw[zNp];omega),zNp];congr 1;omega
theorem zdF(f:Nat->zN)(kv:Nat->Value)(k:Nat)(h:∀i,i<k->(kv i).oneCell'=true):∀u∈sc f kv k,u.oneCell'=true:=by
 induction k with
 | zero=>intro u hu;simp[sc]at hu
 | succ k ih=>
  intro u hu;simp only[sc,List.mem_append,List.mem_cons,List.not_mem_nil,or_false]at hu;rcases hu with hu | rfl | rfl | rfl
  ·exact ih (fun i hi=>h i (by omega)) u hu
  ·rfl
  ·exact h k (by omega)
  ·rfl
theorem zHj{w w1:World}(h:Below w.heap.size w w1)(row:Option Nat):w.grownBy w1 row:=⟨h.os,h.tape,h.output,h.size,fun k hk _=>h.block k hk⟩
def ic(f:Nat->Int):Nat->List Value
 | 0=>[]
 | k+1=>ic f k ++ [.int .i64 (f k)]
theorem zHk(f:Nat->Int)(k:Nat):(ic f k).length=k*1:=by
 induction k with
 | zero=>rfl
 | succ k ih=>simp[ic,ih]
theorem zYR(f:Nat->Int)(k i:Nat)(hi:i<k):(ic f k)[i]?=some (Value.int .i64 (f i)):=by
 induction k with
 | zero=>omega
 | succ k ih=>
  unfold ic;by_cases e:i<k
  ·rw[List.getElem?_append_left (by rw[zHk];omega)];exact ih e
  ·obtain rfl:i=k:=(by omega);rw[List.getElem?_append_right (by rw[zHk];omega),zHk];simp
theorem zcy(f:Nat->Int)(k:Nat):∀u∈ic f k,u.oneCell'=true:=by
 induction k with
 | zero=>intro u hu;simp[ic]at hu
 | succ k ih=>
  intro u hu;simp only[ic,List.mem_append,List.mem_cons,List.not_mem_nil,or_false]at hu;rcases hu with hu | rfl
  ·exact ih u hu
  ·rfl
theorem add_lit(b off j:Nat):(⟨b,off,none⟩:Addr).add j=⟨b,off+j,none⟩:=by unfold Addr.add;split<;>simp_all
theorem zYS{w:World}{b off:Nat}{f:Nat->Int}{n:Nat}(h:∀i,i<n->w.cell? ⟨b,off+i,none⟩=some (.int .i64 (f i))) :
  ∀j u,(ic f n)[j]?=some u->w.cell? ((⟨b,off,none⟩:Addr).add j)=some u:=by
 intro j u hj;have aA:j<n:=by
  have:=(List.getElem?_eq_some_iff.1 hj).1;rw[zHk]at this;omega
 rw[zYR f n j aA]at hj;rw[add_lit,h j aA];exact hj
theorem zSj{w:World}{base e g n cap:Nat}{xs:List Value}(h:w.ownsRow base e 1 (.slice (some ⟨g,0,none⟩) n cap) n xs)(h0:0<n):0<n/\(some ⟨g,0,none⟩:Option Addr)=some ⟨g,0,none⟩/\cap<=maxLen/\∃aA,w.heap[g]?=some (.cells aA e (0,0))/\aA.size=cap:=by
 obtain⟨_,⟨h,rfl⟩ | ⟨g',bA,aA,hv,_,hg,_,h2,h3,_⟩⟩:=h
 ·omega
 ·simp only[Value.slice.injEq,Option.some.injEq,Addr.mk.injEq,and_true,true_and]at hv;obtain⟨rfl,rfl⟩:=hv;exact⟨h0,rfl,h2,aA,hg,by simpa using h3⟩
theorem zQX{w:World}{base n:Nat}{v:Value}{f:Nat->Int}(hm:n<=maxLen)(h:w.ownsRow base 2 1 v n (ic f n))(hz:n=0->∃a,v = .slice a 0 0):∃hb,zDU w hb v n f/\(0<n->base<=hb/\hb<w.heap.size):=by
 by_cases h0:0<n
 ·obtain⟨gb,cap,rfl,bA,hb,cA,aA⟩:=zCm h h0;refine⟨gb,⟨hm,_,cap,rfl,bA,fun _=>⟨0,rfl,fun i hi=>?_⟩,fun _=>?_⟩,fun _=>⟨hb,cA⟩⟩
  ·have:=aA i _ (zYR f n i hi);simpa using this
  ·exact zSj h h0
 ·obtain⟨a,cap,rfl,bA⟩:=zs h;exact⟨0,⟨hm,a,cap,rfl,bA,fun h=>absurd h h0,fun cA=>by obtain⟨a2,e2⟩:=hz (by omega);simp only[Value.slice.injEq]at e2;omega⟩,fun h=>absurd h h0⟩
theorem yn{P:Prop}(h:P):Hid P:=h
theorem zBi{P:Program}{w:World}{jA:Array Oper}{rest:List Oper}{o:Oper}{a:Act}{Q:Exit->Act->World->Prop}(iA:o.guard=none)(s x:Operand)(t:TypeId)
  (ho:o.op = .call {callee:=.builtin .append,args:=#[s,x],argTypes:=#[t,t]})
  (base:Nat) (e:TypeId) (i:TypeInfo) (z:Value) (size bytes:Nat) (ht:P.underlying t=some (.slice e)) (hi:P.info? e=some i) (hz:i.zero=some z)
  (fA:i.size=size) (lA:i.bytes=bytes) (oA:z.cells.size=size) (nA:0<size)
  (v:Value) (n:Nat) (xs:List Value) (hs:a.eval s=v) (dA:w.ownsRow base e size v n xs)
  (ao:Option Addr) (m c:Nat) (aA:List Value) (hx:a.eval x = .slice ao m c) (hl:aA.length=m*size) (h1:∀u∈aA,u.oneCell'=true)
  (bA:0<m->∃b off,ao=some ⟨b,off,none⟩/\∀j u,aA[j]?=some u->w.cell? ⟨b,off+j,none⟩=some u)
  (kA:n+m<=maxLen) (cA:(n+m)*bytes<=140737488355328) (eA:base<=w.heap.size)
  (h:∀v' w',w'.ownsRow base e size v' (n+m) (xs ++ aA)->w.grownBy w' v.ownBlock->(m=0->v'=v)->wpList P jA Q rest (a.put o.dst v') w'):wpList P jA Q (o :: rest) a w:=by
 by_cases gA:m=0
 ·have mA:aA = []:=List.eq_nil_of_length_eq_zero (by rw[hl,gA,Nat.zero_mul]);exact zJS iA s x t ho base e i size c m ao ht hi v n xs hs dA gA hx (h v w (by subst gA;subst mA;simpa using dA) ⟨rfl,rfl,rfl,Nat.le_refl _,fun _ _ _=>rfl⟩ (fun _=>rfl))
 cases ao with
 | none=>
  obtain⟨b,off,ha,_⟩:=bA (by omega);simp at ha
 | some ad=>
  refine wpList_append_own w iA s x t ho base e i z size bytes ht hi hz fA lA oA nA v n xs hs dA ad m c aA hx hl (fun j u hj=>?_) h1 kA cA eA (fun v' w' g1 g2 _=>h v' w' g1 g2 (fun e=>absurd e gA));have h0:0<m:=by
   have:=(List.getElem?_eq_some_iff.1 hj).1;rw[hl]at this;rcases Nat.eq_zero_or_pos m with hm | hm
   ·rw[hm,Nat.zero_mul]at this;omega
   ·exact hm
  obtain⟨b,off,ha,hc⟩:=bA h0;simp only[Option.some.injEq]at ha;subst ha;rw[add_lit];exact hc j u hj
theorem zVd{w:World}{lo hi:Nat}{f:Nat->Int}{n:Nat}{v:Value}(h:zCn w lo hi v n f){a:Option Addr}{c:Nat}(hv:v = .slice a n c){w':World}(hb:Below w.heap.size w w') :
  0<n->∃b off,a=some ⟨b,off,none⟩/\∀j u,(ic f n)[j]?=some u->w'.cell? ⟨b,off+j,none⟩=some u:=by
 obtain⟨_,a0,c0,h0,_,g⟩:=h;subst hv;simp only[Value.slice.injEq,true_and]at h0;obtain⟨rfl,rfl⟩:=h0;intro hn;obtain⟨b,off,ha,_,_,hc⟩:=g hn;refine⟨b,off,ha,fun j u hj=>?_⟩;have:=zYS hc j u hj;rw[add_lit]at this;exact(hb.cell (zH this)).trans this
theorem zOR{w:World}{base n:Nat}{v:Value}{f:Nat->Int}(hm:n<=maxLen)(h:w.ownsRow base 2 1 v n (ic f n))(hz:n=0->∃a,v = .slice a 0 0):∃hb,zDU w hb v n f/\(0<n->v.ownBlock=some hb):=by
 by_cases h0:0<n
 ·obtain⟨gb,cap,rfl,bA,hb,cA,aA⟩:=zCm h h0;refine⟨gb,⟨hm,_,cap,rfl,bA,fun _=>⟨0,rfl,fun i hi=>?_⟩,fun _=>?_⟩,fun _=>rfl⟩
  ·have:=aA i _ (zYR f n i hi);simpa using this
  ·exact zSj h h0
 ·obtain⟨a,cap,rfl,bA⟩:=zs h;exact⟨0,⟨hm,a,cap,rfl,bA,fun h=>absurd h h0,fun cA=>by obtain⟨a2,e2⟩:=hz (by omega);simp only[Value.slice.injEq]at e2;omega⟩,fun h=>absurd h h0⟩
theorem zXD{w':World}{p:zF}{v0 v1:Value}{B M bs base:Nat}{kb:Nat->Nat}{kv:Nat->Value}(h1:zCL w' bs kb kv v0 p.n p.s)(h2:zGH kb p.n p.s)(h3:∀k,zEs bs kb p.n p.s k->M<=k/\k<w'.heap.size)(hm:p.hn<=maxLen)
  (h4:w'.ownsRow base 2 1 v1 p.hn (ic p.h p.hn)) (h5:∀k,v1.ownBlock=some k->B<=k/\(k<M\/w'.heap.size<=k\/(k<w'.heap.size/\¬zEs bs kb p.n p.s k))) (h6:B<=M) (hz:p.hn=0->∃a,v1 = .slice a 0 0):zAM w' B w'.heap.size v0 v1 p:=by
 obtain⟨hb,hi,aA⟩:=zOR hm h4 hz;refine⟨bs,hb,kb,kv,h1,h2,hi,fun h0 hx=>?_,fun k hk=>?_⟩
 ·have a:=h3 _ hx;have b:=h5 _ (aA h0);rcases b.2 with b2 | b2 | b2
  ·omega
  ·omega
  ·exact b2.2 hx
 ·rcases hk with hk | ⟨h0,rfl⟩
  ·have:=h3 _ hk;omega
  ·have b:=h5 _ (aA h0);have c:=h4.lt _ (aA h0);exact⟨b.1,c.2⟩
theorem zNf{w:World}{B B' e size n:Nat}{v:Value}{xs:List Value}(h:w.ownsRow B' e size v n xs)(hB:B<=B'):w.ownsRow B e size v n xs:=
 ⟨h.1,h.2.imp id (fun ⟨g,cap,cur,a,b,c⟩=>⟨g,cap,cur,a,Nat.le_trans hB b,c⟩)⟩
def pcl:List (Int×Int)->List Value
 | []=>[]
 | x :: l=>.int .i64 x.1 :: .int .i64 x.2 :: pcl l
theorem zVu:∀l,(pcl l).length=l.length*2
 | []=>rfl
 | x :: l=>by simp[pcl,zVu l];omega
theorem zJK:∀l m,pcl (l ++ m)=pcl l ++ pcl m
 | [],m=>rfl
 | x :: l,m=>by simp[pcl,zJK l m]
theorem zVv:∀l,∀u∈pcl l,u.oneCell'=true
 | [],u,hu=>by simp[pcl]at hu
 | x :: l,u,hu=>by
  simp only[pcl,List.mem_cons]at hu;rcases hu with rfl | rfl | hu
  ·rfl
  ·rfl
  ·exact zVv l u hu
theorem zVt:∀(l:List (Int×Int)) i,i<l.length->(pcl l)[i*2]?=some (.int .i64 (l.getD i (0,0)).1)/\(pcl l)[i*2+1]?=some (.int .i64 (l.getD i (0,0)).2):=by
 intro l
 induction l with
 | nil=>intro i hi;simp at hi
 | cons x l ih=>
  intro i hi;cases i with
  | zero=>exact⟨rfl,rfl⟩
  | succ i=>
   have:=ih i (by simpa using hi);rw[show(i+1)*2=i*2+1+1 by omega];simpa[pcl]using this
def zh(l:List (Int×Int))(i:Nat):Int:=(l.getD i (0,0)).1
def zn(l:List (Int×Int))(i:Nat):Int:=(l.getD i (0,0)).2
theorem zMy:(Tryz.prog.info? 38).map (fun i=>(i.zero,i.size,i.bytes))=some (some (.agg #[.int .i64 0,.int .i64 0]),2,16):=by kernel_rfl
theorem zC0{w w1:World}(h:Below w.heap.size w w1)(row:Option Nat):w.grownBy w1 row:=⟨h.os,h.tape,h.output,h.size,fun k hk _=>h.block k hk⟩
def zBd(w:World)(base:Nat)(v:Value)(l:List (Int×Int)):Prop:=w.ownsRow base 38 2 v l.length (pcl l)
theorem zBd.zeF{w w1:World}{base:Nat}{v:Value}{l:List (Int×Int)}(h:zBd w base v l)(hb:Below w.heap.size w w1):zBd w1 base v l:=
 h.kept (zC0 hb none) (by cases v.ownBlock<;>simp)
theorem zBd.zeG{w w1:World}{base:Nat}{v:Value}{l:List (Int×Int)}{row:Option Nat}(h:zBd w base v l)(hg:w.grownBy w1 row)(aA:∀q,v.ownBlock=some q->row≠some q):zBd w1 base v l:=
 h.kept hg (by
  cases hv:v.ownBlock with
  | none=>simp
  | some q=>exact Or.inr (fun e=>aA q hv e.symm))
theorem zBd.nil(w:World)(base:Nat):zBd w base (.slice none 0 0) []:=World.ownsRow_nil _ _ _ _
theorem zBd.mono{w:World}{base aA:Nat}{v:Value}{l:List (Int×Int)}(h:zBd w base v l)(hb:aA<=base):zBd w aA v l:=by
 refine⟨h.1,h.2.imp id ?_⟩;rintro⟨g,cap,bA,e,h1,h2⟩;exact⟨g,cap,bA,e,Nat.le_trans hb h1,h2⟩
theorem zBd.put{w:World}{base b o:Nat}{v:Value}{l:List (Int×Int)}(h:zBd w base v l)(hb:b<base)(u:Value):zBd (w.setCell ⟨b,o,none⟩ u) base v l:=by
 refine⟨h.1,h.2.imp id ?_⟩;rintro⟨g,cap,aA,e,h1,h2,h3⟩;exact⟨g,cap,aA,e,h1,(Below.heap_setCell _ _ _ _ (fun e=>by have:g=b:=e;omega)).trans h2,h3⟩
theorem zBd.lt{w:World}{base:Nat}{v:Value}{l:List (Int×Int)}(h:zBd w base v l){q:Nat}(hq:v.ownBlock=some q):base<=q/\q<w.heap.size:=by
 rcases h.2 with⟨rfl,_⟩ | ⟨g,cap,aA,rfl,hb,hg,_⟩
 ·simp[Value.ownBlock]at hq
 ·simp only[Value.ownBlock,Option.some.injEq]at hq;subst hq;exact⟨hb,(Array.getElem?_eq_some_iff.1 hg).1⟩
theorem zBd.own{w:World}{base:Nat}{v:Value}{l:List (Int×Int)}(h:zBd w base v l)(hm:l.length<=maxLen):∃b,zAY w b v l.length (zh l) (zn l)/\(0<l.length->v.ownBlock=some b/\base<=b/\b<w.heap.size):=by
 by_cases h0:0<l.length
 ·obtain⟨g,cap,rfl,bA,hb,cA,aA⟩:=zCm h h0;refine⟨g,⟨hm,_,cap,rfl,bA,fun _=>⟨0,rfl,fun i hi=>?_⟩⟩,fun _=>⟨rfl,hb,cA⟩⟩;rw[Nat.zero_add];exact⟨aA _ _ (zVt l i hi).1,aA _ _ (zVt l i hi).2⟩
 ·obtain⟨a,cap,rfl,bA⟩:=zs h;exact⟨0,⟨hm,a,cap,rfl,bA,fun h=>absurd h h0⟩,fun h=>absurd h h0⟩
def zck(l:List (Int×Int))(w:World)(e:Ending)(w':World):Prop:=∃v,e = .returned v/\w'.ownsRow w.heap.size 38 2 v l.length (pcl l)/\Below w.heap.size w w'
def zDi(F:Int->Int->List (Int×Int))(s:zN):Nat->List (Int×Int)
 | 0=>[]
 | k+1=>zDi F s k ++ F (qJ s k) (yZ s k)
theorem zOy(s:zN):∀k,zDi one s k=kidsUp (qJ s) (yZ s) k
 | 0=>rfl
 | k+1=>by rw[zDi,kidsUp,zOy s k]
theorem zOx(p:zF)(s:zN):∀k,zDi (zHA p) s k=zCR p s k
 | 0=>rfl
 | k+1=>by rw[zDi,zCR,zOx p s k]
theorem zOw{F:Int->Int->List (Int×Int)}(hF:∀a b,(F a b).length<=9)(s:zN):∀k,(zDi F s k).length<=9*k
 | 0=>Nat.le_refl _
 | k+1=>by
  have:=zOw hF s k;have:=hF (qJ s k) (yZ s k);rw[zDi,List.length_append];omega
def zLe(p:zF)(F:Int->Int->List (Int×Int))(xs xb:Int):List (Int×Int):=if Nil xs xb then [] else(xs,xb) :: zDi F (p.s xs.toNat) 8
def zJb(p:zF)(L:Int)(F:Int->Int->List (Int×Int)):Prop:=∀(v:Value) (lo hi:Nat) (xs xb:Int) (w:World),zA3 w lo hi v p.n p.s->(Nil xs xb\/qp p xs xb)->
 Calls Tryz.prog 140 #[v,.agg #[.int .i64 xs,.int .i64 xb],.int .i64 L] w (zck (F xs xb) w)
theorem zSi{w:World}{base n K:Nat}{v:Value}{xs:List Value}{cs:Array Value}(h:w.ownsRow base 38 2 v n xs)(hK:w.heap[K]?=some (.cells cs 194 (0,0))):v.ownBlock≠some K:=by
 intro e;rcases h.2 with⟨rfl,_⟩ | ⟨g,cap,aA,rfl,_,hg,_⟩
 ·simp[Value.ownBlock]at e
 ·simp only[Value.ownBlock,Option.some.injEq]at e;subst e;rw[hK]at hg;simp only[Option.some.injEq,Obj.cells.injEq]at hg;exact absurd hg.2.1 (by decide)
theorem zHB{xs xb:Int}(h:¬Nil xs xb):(xs == 0)=false\/(xs == 0)=true/\(xb == 0)=false:=by
 by_cases h0:xs=0
 ·right;refine⟨by simp[h0],?_⟩;have:xb≠0:=fun h'=>h ⟨h0,h'⟩
  simp[this]
 ·left;simp[h0]
theorem zXH(p:zF):zJb p 2 one:=by
 intro v lo hi xs xb w hs hP;obtain⟨_,a,c,rfl,_⟩:=id hs;have ha:=zD w (.cells #[.int .i64 xs,.int .i64 xb] 38);obtain⟨⟨x0,x1⟩,⟨x2,x3⟩⟩:=zAT.new w (.int .i64 xs) (.int .i64 xb) 38;have aA:=World.ownsRow_lit (e:=38) (size:=2) (base:=w.heap.size) (w.alloc (.cells #[.int .i64 xs,.int .i64 xb] 38)) #[.int .i64 xs,.int .i64 xb] 1 (by simp) (by unfold maxLen;omega) rfl;rw[World.size_alloc]at aA;have bA:=qC aA;have HB:=qC (zA ha (zD _ (.cells #[.int .i64 xs,.int .i64 xb] 38)));clear aA;by_cases hn:Nil xs xb
 ·have HN:=qC hn;obtain⟨rfl,rfl⟩:=hn;go_enter Tryz.func140,Tryz.ntmps140;go_wp2;go_ret;exact⟨_,rfl,by rw[show one 0 0 = [] from if_pos HN.out];exact World.ownsRow_nil _ _ _ _,ha⟩
 ·have HN:=qC hn;have e0:=zHB hn;clear hn;rcases e0 with e0 | ⟨e0,e1⟩
  all_goals
   go_enter Tryz.func140,Tryz.ntmps140;go_wp2;go_ret;exact⟨_,rfl,by rw[show one xs xb = [(xs,xb)] from if_neg HN.out];exact bA.out,HB.out⟩
theorem zPg(p:zF)(L:Int)(F:Int->Int->List (Int×Int))(hR:zg p)(hL:0<=L/\L<2)(hF:∀a b,(F a b).length<=9)(pA:zJb p (L+1) F):zJb p L (zLe p F):=by
 intro v lo hi xs xb w hs hP;have Hs:=qC hs;obtain⟨_,a,c,rfl,_⟩:=id hs;have ha:=zD w (.cells #[.int .i64 xs,.int .i64 xb] 38);obtain⟨⟨x0,x1⟩,⟨x2,x3⟩⟩:=zAT.new w (.int .i64 xs) (.int .i64 xb) 38;have fC:(L == 2)=false:=by simp;omega
 clear hs;by_cases hn:Nil xs xb
 ·have HN:=qC hn;obtain⟨rfl,rfl⟩:=hn;go_enter Tryz.func140,Tryz.ntmps140;go_wp2;go_ret;exact⟨_,rfl,by rw[show zLe p F 0 0 = [] from if_pos HN.out];exact World.ownsRow_nil _ _ _ _,ha⟩
 ·have HN:=qC hn;have e0:=zHB hn;have tA:qp p xs xb:=hP.resolve_left hn;have Hf:=qC (zAg hR tA);have bB:=qC pA;have HF:=qC hF;obtain⟨k,rfl⟩:=Int.eq_ofNat_of_zero_le tA.2.1;rw[Int.toNat_natCast]at Hf;have hk:k<p.n:=(by have:=tA.2.2.1;omega);have iC:(k:Int)<(p.n:Int):=(by omega);clear hn hP tA pA hR hF;have iA:=World.ownsRow_lit (e:=38) (size:=2) (base:=w.heap.size+1) (w.alloc (.cells #[.int .i64 (k:Int),.int .i64 xb] 38)) #[.int .i64 (k:Int),.int .i64 xb] 1 (by simp) (by unfold maxLen;omega) rfl;rw[World.size_alloc]at iA;have jA:=qC iA;have fB:=zD (w.alloc (.cells #[.int .i64 (k:Int),.int .i64 xb] 38)) (.cells #[.int .i64 (k:Int),.int .i64 xb] 38);have eB:=zA ha fB;have cC:=(zAT.new w (.int .i64 (k:Int)) (.int .i64 xb) 38).zeF fB;clear x0 x1 x2 x3 iA ha fB;obtain⟨⟨x0,x1⟩,⟨x2,x3⟩⟩:=cC;obtain⟨b,off,ka,kc,rfl,oB⟩:=(Hs.out.zeF eB).cells hk;have HC:=qC oB;obtain⟨q0,q1,q2,_⟩:=oB;obtain⟨y0,y1⟩:=(zAT.new w (.int .i64 (k:Int)) (.int .i64 xb) 38).1;obtain⟨y2,y3⟩:=(zAT.new w (.int .i64 (k:Int)) (.int .i64 xb) 38).2;rcases e0 with e0 | ⟨e0,e1⟩
  all_goals
   go_enter Tryz.func140,Tryz.ntmps140;go_wp2_with fail;refine(zJA _ _ _ lo hi (p.s k) _ HC.out.slot (zJu Hf.out)).mono ?_;rintro e w1 ⟨rfl,vA⟩;have kB:=zA eB vA;have eA:=jA.out.kept (zHj vA none) (Or.inr (by simp[Value.ownBlock]));have aB:Hid ((Tryz.prog.info? 194).map (·.size)=some (yh (p.s k)).size):=by
    show _=_;rw[yh,zAc];exact zJ0
   have nA:(w1.alloc (.cells (yh (p.s k)) 194)).heap[w1.heap.size]?=some (.cells (yh (p.s k)) 194 (0,0)):=heap_alloc_last _ _;have HK:=qC nA;have cB:=qC (eA.alloc (.cells (yh (p.s k)) 194));have sB:=zA kB (zD w1 (.cells (yh (p.s k)) 194));have kC:w.heap.size+2<=w1.heap.size:=(by have:=vA.size;rw[World.size_alloc,World.size_alloc]at this;omega);obtain⟨i0,nB,iB⟩:=Option.map_eq_some_iff.1 zMz;simp only[Prod.mk.injEq]at iB;have HT:=qC (And.intro nB iB);clear vA kB eA nA eB x0 x1 x2 x3 y0 y1 y2 y3 q0 q1 q2 HC jA nB iB;go_wp2_with (first
    | (refine wpList_store_row rfl 194 (.tmp 8) (.tmp 23) rfl w1.heap.size (yh (p.s k)) rfl rfl 194 #[Value.int .i64 0,Value.int .i64 0,Value.int .i64 0,Value.int .i64 0,Value.int .i64 0,Value.int .i64 0,Value.int .i64 0,Value.int .i64 0,Value.int .i64 0,Value.int .i64 0,Value.int .i64 0,Value.int .i64 0,Value.int .i64 0,Value.int .i64 0,Value.int .i64 0,Value.int .i64 0] (heap_alloc_last _ _) aB.out (by rw[yh,zAc];rfl) (zFB _) ?_;rw[World.setRow_alloc_new]))
   go_loopw [7,24] (fun o i wr=>∃(j:Nat) (oa:Option Addr) (oc:Nat),j<=8/\i = .int .i64 j/\o = .slice oa (((k:Int),xb) :: zDi F (p.s k) j).length oc/\wr.ownsRow (w.heap.size+1) 38 2 o (((k:Int),xb) :: zDi F (p.s k) j).length (pcl (((k:Int),xb) :: zDi F (p.s k) j))/\wr.heap[w1.heap.size]?=some (.cells (yh (p.s k)) 194 (0,0))/\Below w.heap.size w wr) (fun _ i _=>8 - (intOf i).toNat)
   case atStart=>exact⟨0,_,_,Nat.zero_le _,rfl,rfl,cB.out,HK.out,sB⟩
   case round=>
    obtain⟨j,oa,oc,hj,rfl,rfl,rA,hK,hb⟩:=hrel;have fA:=qC rA;have sA:=qC hK;have gB:w1.heap.size<wr.heap.size:=(Array.getElem?_eq_some_iff.1 hK).1;have vB:=zOw HF.out (p.s k) j;clear rA hK;by_cases aC:j<8
    ·have bC:(j:Int)<8:=(by omega);obtain⟨y0,y1⟩:=zK (i:=j*2) sA.out (zDu (zj (p.s k)) (by omega));obtain⟨y2,y3⟩:=zK (i:=j*2+1) sA.out (zDu (zj (p.s k)) (by omega));have rB:Hid (Nil (zj (p.s k) (j*2)) (zj (p.s k) (j*2+1))\/qp p (zj (p.s k) (j*2)) (zj (p.s k) (j*2+1))):=by
      by_cases hn:Nil (qJ (p.s k) j) (yZ (p.s k) j)
      ·exact Or.inl hn
      ·exact Or.inr (zC2 Hf.out aC hn).1
     go_wp2_with fail;refine(bB.out _ lo hi (zj (p.s k) (j*2)) (zj (p.s k) (j*2+1)) _ (Hs.out.zeF hb) rB.out).mono ?_;rintro e w2 ⟨v2,rfl,dA,mA⟩;obtain⟨na,nc,rfl,_⟩:=zs dA;have jC:=HF.out (zj (p.s k) (j*2)) (zj (p.s k) (j*2+1));have kA:=qC dA;have cA:=qC (fA.out.kept (zHj mA none) (by cases hv:(Value.slice oa (((k:Int),xb) :: zDi F (p.s k) j).length oc).ownBlock<;>simp));have jB:=qC ((mA.block _ gB).trans sA.out);have lB:=zA hb mA;have lC:=mA.size;clear dA mA y0 y1 y2 y3 fA sA;go_wp2_with (first
      | (at_builtin;refine zBi rfl _ _ 39 rfl (w.heap.size+1) 38 i0 (.agg #[.int .i64 0,.int .i64 0]) 2 16 (by kernel_rfl) HT.out.1 HT.out.2.1 HT.out.2.2.1 HT.out.2.2.2 rfl (by decide) (.slice oa (((k:Int),xb) :: zDi F (p.s k) j).length oc) (((k:Int),xb) :: zDi F (p.s k) j).length (pcl (((k:Int),xb) :: zDi F (p.s k) j)) rfl ?c0 na (F (zj (p.s k) (j*2)) (zj (p.s k) (j*2+1))).length nc (pcl (F (zj (p.s k) (j*2)) (zj (p.s k) (j*2+1)))) rfl (zVu _) (zVv _) ?c1 ?c3 ?c4 ?c5 ?_))
     case c0=>exact cA.out
     case c1=>
      intro h0;obtain⟨g,cap,e,_,_,_,oA⟩:=zCm kA.out h0;simp only[Value.slice.injEq,true_and]at e;exact⟨g,0,e.1,fun j u hj=>by rw[Nat.zero_add];exact(oA j u hj).1⟩
     case c3=>rw[List.length_cons];unfold maxLen;omega
     case c4=>rw[List.length_cons];omega
     case c5=>omega
     intro v3 w3 bA aA _;have gA:((k:Int),xb) :: zDi F (p.s k) (j+1)=(((k:Int),xb) :: zDi F (p.s k) j) ++ F (zj (p.s k) (j*2)) (zj (p.s k) (j*2+1)):=rfl;have mB:(zDi F (p.s k) j).length+1+(F (zj (p.s k) (j*2)) (zj (p.s k) (j*2+1))).length=(((k:Int),xb) :: zDi F (p.s k) (j+1)).length:=(by rw[gA,List.length_append,List.length_cons]);rw[<-zJK,<-gA,mB]at bA;have pB:=qC ((aA.block _ (by omega) (fun e=>zSi cA.out jB.out e.symm)).trans jB.out);have tB:=lB.grown aA lB.size (fun q hq=>by have:=cA.out.lt q hq;omega);obtain⟨dC,eC,rfl,_⟩:=zs bA;have lA:=qC bA;clear bA aA gA mB;go_wp2;go_roundw
     case rel=>exact⟨j+1,dC,eC,by omega,by go_num,rfl,lA.out,pB.out,tB⟩
     case measure=>simp[intOf];omega
    ·obtain rfl:j=8:=(by omega);go_wp2;go_ret;refine⟨_,rfl,?_,hb⟩;rw[show zLe p F (k:Int) xb=((k:Int),xb) :: zDi F (p.s k) 8 by unfold zLe;rw[if_neg HN.out,Int.toNat_natCast]];exact zNf fA.out (by omega)
theorem zXG(p:zF)(hR:zg p):zJb p 1 (zHA p):=by
 have h:=zPg p 1 one hR (by omega) (fun a b=>by unfold one;split<;>simp) (zXH p);have e:zLe p one=zHA p:=by
  funext xs xb;unfold zLe zHA zSG;rw[zOy]
 rw[e]at h;exact h
theorem zK0(p:zF)(hR:zg p):zJb p 0 (zM p):=by
 have h:=zPg p 0 (zHA p) hR (by omega) (zSS p) (zXG p hR);have e:zLe p (zHA p)=zM p:=by
  funext xs xb;unfold zLe zM;rw[zOx]
 rw[e]at h;exact h
def zWF(n:Nat)(f g:Nat->Int)(x y:Int):Prop:=∃j,j<n/\f j=x/\g j=y
theorem qn.cellsT{w:World}{lo hi:Nat}{a:Option Addr}{n c:Nat}{f g:Nat->Int}(h:qn w lo hi (.slice a n c) n f g){k:Nat}(hk:k<n):∃b off,a=some ⟨b,off,none⟩/\w.cell? ⟨b,off+k*2,none⟩=some (.int .i64 (f k))/\w.cell? ⟨b,off+k*2+1,none⟩=some (.int .i64 (g k)):=by
 obtain⟨_,a2,c2,hv,_,hx⟩:=h;simp only[Value.slice.injEq,true_and]at hv;obtain⟨rfl,rfl⟩:=hv;obtain⟨b,off,ha,_,_,h3⟩:=hx (by omega);exact⟨b,off,ha,(h3 k hk).1,(h3 k hk).2⟩
theorem qn.take{w:World}{lo hi:Nat}{a:Option Addr}{n c m c':Nat}{f g:Nat->Int}(h:qn w lo hi (.slice a n c) n f g)(hm:m<=n)(hc:m<=c'):qn w lo hi (.slice a m c') m f g:=by
 obtain⟨h0,a2,c2,hv,_,hx⟩:=h;simp only[Value.slice.injEq,true_and]at hv;obtain⟨rfl,rfl⟩:=hv;refine⟨by omega,_,c',rfl,hc,fun h1=>?_⟩;obtain⟨b,off,ha,hl,hh,h3⟩:=hx (by omega);exact⟨b,off,ha,hl,hh,fun i hi=>h3 i (by omega)⟩
theorem zQV(v:Value)(n lo hi:Nat)(f g:Nat->Int)(x y:Int)(w:World)(h1:qn w lo hi v n f g) :
  Calls Tryz.prog 182 #[v,.agg #[.int .i64 x,.int .i64 y]] w fun e w'=>(∃r:Int,e = .returned (.int .i64 r)/\(0<=r↔zWF n f g x y))/\Below w.heap.size w w':=by
 have Hp:=qC h1;obtain⟨m1,a,c,rfl,mc,_⟩:=id h1;unfold maxLen at m1;clear h1;have ha:=zD w (.cells #[.int .i64 x,.int .i64 y] 38);have HB:=qC (zAT.new w (.int .i64 x) (.int .i64 y) 38);go_enter Tryz.func182,Tryz.ntmps182;go_wp2
 go_loopw [8] (fun i wr=>∃k:Nat,k<=n/\i = .int .i64 k/\¬zWF k f g x y/\zAT wr w.heap.size (.int .i64 x) (.int .i64 y)/\Below w.heap.size w wr) (fun i _=>n - (intOf i).toNat)
 case atStart=>exact⟨0,Nat.zero_le _,rfl,fun ⟨j,hj,_⟩=>absurd hj (Nat.not_lt_zero _),HB.out,ha⟩
 case round=>
  obtain⟨k,hk,rfl,dA,hX,hb⟩:=hrel;have bA:=qC dA;have HX:=qC hX;clear dA hX;obtain⟨⟨x0,x1⟩,⟨x2,x3⟩⟩:=HX.out;by_cases cA:k<n
  ·have eA:(k:Int)<(n:Int):=(by omega);obtain⟨b,off,rfl,q0,q1⟩:=(Hp.out.zeF hb).cellsT cA;by_cases he:x=f k/\y=g k
   ·have H:=qC (show zWF n f g x y from⟨k,cA,he.1.symm,he.2.symm⟩);rw[<-he.1]at q0;rw[<-he.2]at q1;clear he;go_wp2
    go_quiet (fail)
    go_wp2;go_ret;exact⟨⟨_,rfl,⟨fun _=>H.out,fun _=>Int.natCast_nonneg _⟩⟩,zCx hb _⟩
   ·have H:=qC he;have e0:(x == f k)=false\/(x == f k)=true/\(y == g k)=false:=by
     by_cases h:x=f k
     ·right;refine⟨by simp[h],?_⟩;have:y≠g k:=fun h'=>he ⟨h,h'⟩
      simp[this]
     ·left;simp[h]
    clear he;rcases e0 with e0 | ⟨e0,e1⟩
    all_goals
     go_wp2
     go_quiet (fail)
     go_wp2;go_roundw
     case rel=>
      refine⟨k+1,by omega,by go_num,?_,HX.out.zeF (zCx (Below.refl _ _) _),zCx hb _⟩;rintro⟨j,hj,aA⟩;by_cases e:j=k
      ·subst e;exact H.out ⟨aA.1.symm,aA.2.symm⟩
      ·exact bA.out ⟨j,by omega,aA⟩
     case measure=>simp[intOf];omega
  ·obtain rfl:k=n:=(by omega);go_wp2;go_ret;exact⟨⟨-1,rfl,⟨fun h=>absurd h (by omega),fun h=>absurd h bA.out⟩⟩,hb⟩
theorem zHL(v:Value)(n lo hi:Nat)(f g:Nat->Int)(x y:Int)(w:World)(h1:qn w lo hi v n f g) :
  Calls Tryz.prog 165 #[v,.agg #[.int .i64 x,.int .i64 y]] w fun e w'=>zL (zWF n f g x y) e/\Below w.heap.size w w':=by
 have Hi:=qC h1;obtain⟨m1,a,c,rfl,mc,_⟩:=id h1;clear h1;have ha:=zD w (.cells #[.int .i64 x,.int .i64 y] 38);go_enter Tryz.func165,Tryz.ntmps165;go_wp2_with fail;refine(zQV _ n lo hi f g x y _ (Hi.out.zeF ha)).mono ?_;rintro e w' ⟨⟨r,rfl,hr⟩,hb⟩;have Hr:=qC hr;have hB:=zA ha hb;clear hr hb;go_wp2;go_ret;exact⟨⟨_,rfl,by simpa using Hr.out⟩,hB⟩
def zTA(p:zF)(n:Nat)(f g:Nat->Int):Prop:=∀i,i<n->¬zWF i f g (f i) (g i)/\¬Has p.hn p.h (f i)
theorem zWM(v0 v1 v:Value)(lo hi nA mA n:Nat)(p:zF)(f g:Nat->Int)(w:World)(h1:zCG w lo hi v0 v1 p)(h2:qn w nA mA v n f g) :
    Calls Tryz.prog 162 #[.agg #[v0,v1],v] w fun e w'=>zL (zTA p n f g) e/\Below w.heap.size w w':=by
  have Hp:=qC h1;have Hl:=qC h2;obtain⟨a,c,a',c',rfl,rfl⟩:∃a c a' c',v0 = .slice a p.n c/\v1 = .slice a' p.hn c':=by
    obtain⟨⟨_,a,c,h1,_⟩,⟨_,a',c',h3,_⟩⟩:=h1;exact⟨a,c,a',c',h1,h3⟩
  obtain⟨m1,la,lc,rfl,mc,_⟩:=id h2;unfold maxLen at m1;clear h1 h2;have ha:=zD w (.cells #[.slice a p.n c,.slice a' p.hn c'] 26);have HB:=qC (zAT.new w (.slice a p.n c) (.slice a' p.hn c') 26);go_enter Tryz.func162,Tryz.ntmps162;go_wp2
  go_loopw [9] (fun i wr=>∃k:Nat,k<=n/\i = .int .i64 k/\zTA p k f g/\zAT wr w.heap.size (.slice a p.n c) (.slice a' p.hn c')/\Below w.heap.size w wr) (fun i _=>n - (intOf i).toNat)
  case atStart=>exact⟨0,Nat.zero_le _,rfl,fun j hj=>absurd hj (Nat.not_lt_zero _),HB.out,ha⟩
  case round=>
    obtain⟨k,hk,rfl,eA,hX,hb⟩:=hrel;have dA:=qC eA;have HX:=qC hX;clear eA hX;by_cases kA:k<n
    · have sA:(k:Int)<(n:Int):=by omega
      have vA:(k:Int)<=(lc:Int):=(by omega);obtain⟨b,off,rfl,q0,q1⟩:=(Hl.out.zeF hb).cellsT kA;have lA:=zD wr (.cells #[.int .i64 (f k),.int .i64 (g k)] 38);have cA:=qC (HX.out.zeF lA);have HV:=qC (zAT.new wr (.int .i64 (f k)) (.int .i64 (g k)) 38);have fA:=zA hb lA;have aB:w.heap.size<wr.heap.size:=HX.out.1.lt;have tA:(wr.alloc (.cells #[.int .i64 (f k),.int .i64 (g k)] 38)).heap.size=wr.heap.size+1:=World.size_alloc _ _;go_upto_region 4 with fail;generalize wr.alloc (.cells #[.int .i64 (f k),.int .i64 (g k)] 38)=wx at cA HV fA tA ⊢;clear q0 q1 lA HX;have iA:=qC ((Hl.out.zeF fA).take (m:=k) (c':=lc) (by omega) (by omega));obtain⟨⟨x0,x1⟩,⟨x2,x3⟩⟩:=cA.out;obtain⟨⟨y0,y1⟩,⟨y2,y3⟩⟩:=HV.out;by_cases hh:zWF k f g (f k) (g k)
      · have HH:=qC hh
        clear hh
        first
          | (go_region_with (first
              | (go_at_call 165
                 refine(zHL _ k nA mA f g (f k) (g k) _ ?_).mono ?_
                 (first | exact iA.out | exact iA.out.zeF (Below.refl _ _).drew)
                 rintro e w2 ⟨⟨t2,rfl,gA⟩,bA⟩;obtain rfl:t2=true:=gA.2 HH.out;clear gA;have aA:Below wx.heap.size wx w2:=(by first | exact bA | exact qF bA);obtain⟨⟨k0,_⟩,⟨k1,_⟩⟩:=cA.out.zeF aA;obtain⟨⟨k2,_⟩,⟨k3,_⟩⟩:=HV.out.zeF aA)))
          | fail
        all_goals
          have jA:=zA fA aA;go_wp2;go_ret;exact⟨zL.no fun h=>(h k kA).1 HH.out,jA⟩
      · have HH:=qC hh
        clear hh;go_region_held3 (fun w'=>w'.cell? ⟨w.heap.size,0,none⟩=some (.slice a p.n c)/\w'.cell? ⟨w.heap.size,1,none⟩=some (.slice a' p.hn c')/\w'.cell? ⟨wr.heap.size,0,none⟩=some (.int .i64 (f k))/\w'.cell? ⟨wr.heap.size,1,none⟩=some (.int .i64 (g k))) (go_keep)
          (first
            | (go_at_call 165
               refine(zHL _ k nA mA f g (f k) (g k) _ ?_).mono ?_
               (first | exact iA.out | exact iA.out.zeF (Below.refl _ _).drew)
               rintro e w2 ⟨⟨t2,rfl,gA⟩,bA⟩;obtain rfl:t2=false:=qj gA HH.out;clear gA;have aA:Below wx.heap.size wx w2:=(by first | exact bA | exact qF bA);obtain⟨⟨k0,_⟩,⟨k1,_⟩⟩:=cA.out.zeF aA;obtain⟨⟨k2,_⟩,⟨k3,_⟩⟩:=HV.out.zeF aA)
            | (go_at_call 157
               refine(zE1 _ p.hn lo hi p.h (f k) _ ?_).mono ?_;exact(Hp.out.2.zeF (zA fA aA));rintro e w3 ⟨⟨t3,rfl,pA⟩,rfl⟩))
        have jA:=zA fA aA;have rA:=qC (cA.out.zeF aA);have oA:=qC pA;clear pA aA bA x0 x1 x2 x3 y0 y1 y2 y3 k0 k1 k2 k3;cases t3
        · go_wp2
          go_roundw
          case rel=>exact⟨k+1,by omega,by go_num,yJ (n:=n) kA dA.out ⟨HH.out,fun h=>absurd (oA.out.2 h) (by simp)⟩,rA.out,jA⟩
          case measure=>simp[intOf];omega
        · go_wp2
          go_ret;exact⟨zL.no fun h=>(h k kA).2 (oA.out.1 trivial),jA⟩
    · obtain rfl:k=n:=by omega
      go_wp2;go_ret;exact⟨zL.yes dA.out,hb⟩
theorem zZ9{w:World}{base:Nat}{v:Value}{l:List (Int×Int)}(hm:l.length<=maxLen)(h:w.ownsRow base 38 2 v l.length (pcl l)):qn w 0 w.heap.size v l.length (fun i=>(l.getD i (0,0)).1) (fun i=>(l.getD i (0,0)).2):=by
  by_cases h0:0<l.length
  · obtain⟨g,cap,rfl,bA,hb,cA,aA⟩:=zCm h h0
    refine⟨hm,_,cap,rfl,bA,fun _=>⟨g,0,rfl,Nat.zero_le _,cA,fun i hi=>?_⟩⟩;have get:∀(l:List (Int×Int)) i,i<l.length->(pcl l)[i*2]?=some (.int .i64 (l.getD i (0,0)).1)/\(pcl l)[i*2+1]?=some (.int .i64 (l.getD i (0,0)).2):=by
      intro l
      induction l with
      | nil=>intro i hi;simp at hi
      | cons x l ih=>
        intro i hi;cases i with
        | zero=>exact⟨rfl,rfl⟩
        | succ i=>
          have:=ih i (by simpa using hi);rw[show(i+1)*2=i*2+1+1 by omega];simpa[pcl]using this
    rw[Nat.zero_add];exact⟨(aA _ _ (get l i hi).1).1,(aA _ _ (get l i hi).2).1⟩
  · obtain⟨a,cap,rfl,bA⟩:=zs h
    exact⟨hm,a,cap,rfl,bA,fun h=>absurd h h0⟩
theorem zTJ(p:zF)(l:List (Int×Int)):zTA p l.length (fun i=>(l.getD i (0,0)).1) (fun i=>(l.getD i (0,0)).2)↔zXk p l:=by
  have aA:∀i (h:i<l.length),l.getD i (0,0)=l[i]:=fun i h=>by rw[List.getD_eq_getElem?_getD,List.getElem?_eq_getElem h,Option.getD_some]
  constructor
  · intro h
    refine⟨?_,fun x hx=>?_⟩
    · rw[List.Nodup,List.pairwise_iff_getElem]
      intro i j hi hj bA e;refine(h j hj).1 ⟨i,bA,?_,?_⟩
      · show(l.getD i (0,0)).1=(l.getD j (0,0)).1
        rw[aA i hi,aA j hj,e]
      · show(l.getD i (0,0)).2=(l.getD j (0,0)).2
        rw[aA i hi,aA j hj,e]
    · obtain⟨i,hi,rfl⟩:=List.getElem_of_mem hx
      have:=(h i hi).2;simp only[aA i hi]at this;exact this
  · rintro⟨h1,h2⟩ i hi
    refine⟨?_,?_⟩
    · rintro⟨j,hj,e1,e2⟩
      simp only[aA i hi,aA j (by omega)]at e1 e2;rw[List.Nodup,List.pairwise_iff_getElem]at h1;exact h1 j i (by omega) hi hj (Prod.ext e1 e2)
    · simp only[aA i hi]
      exact h2 _ (List.getElem_mem hi)
end Go.Proofs.YtjganmlaooofoaaGreatDoor
