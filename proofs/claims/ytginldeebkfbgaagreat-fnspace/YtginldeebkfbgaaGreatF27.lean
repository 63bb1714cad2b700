/- A part of the proof. -/
import Derived.Test.YtginldeebkfbgaaGreatF26
set_option linter.unusedVariables false
set_option maxRecDepth 20000
set_option maxHeartbeats 4000000
namespace Go.Proofs.YtginldeebkfbgaaGreat
open Go.RowKit Go.Shelf Go.Maps
attribute [local go_sem] Oper.semAt_some
theorem zHE(f:Nat->Int×Int):(pgC f).size=128:=by simp[pgC]
theorem zT4(f:Nat->Int×Int):(pgC f).all (·.oneCell')=true:=by
 rw[Array.all_eq_true_iff_forall_mem];intro v hv;unfold pgC at hv;obtain⟨j,-,rfl⟩:=List.mem_map.1 (List.mem_toArray.1 hv);rfl
theorem qt:Tryz.zeroCells85.size=128:=by rw[zUK];simp
def Blk(X:World)(V:Nat)(cs:Array Value):Prop:=X.heap[V]?=some (.cells cs 85)
theorem Blk.lt{X:World}{V:Nat}{cs:Array Value}(h:Blk X V cs):V<X.heap.size:=(Array.getElem?_eq_some_iff.1 h).1
theorem Blk.zbd{X Y:World}{V:Nat}{cs:Array Value}(h:Blk X V cs)(t:Below X.heap.size X Y):Blk Y V cs:=(t.block V h.lt).trans h
theorem Blk.own{B:Nat}{X Y:World}{row:Option Nat}{V:Nat}{cs:Array Value}(h:Blk X V cs)(hg:X.grownBy Y row)(hr:∀r,row=some r->B<=r/\∃ob:Obj,X.heap[r]?=some ob/\ob.isCells=false):Blk Y V cs:=by
 have aA:some V≠row:=fun e=>by
  obtain⟨_,ob,h3,h4⟩:=hr V e.symm;rw[show X.heap[V]?=_ from h]at h3;cases h3;exact absurd h4 (by simp[Obj.isCells])
 exact(hg.block V h.lt aA).trans h
theorem Blk.other{X:World}{V b o:Nat}{cs:Array Value}{u:Value}(h:Blk X V cs)(aA:V≠b):Blk (X.setCell ⟨b,o,none⟩ u) V cs:=(Below.heap_setCell X ⟨b,o,none⟩ u V (by simpa using aA)).trans h
def zI3(l:List zJL):List zDe:=l.map (fun y=>y.1)
theorem yg(v0 v1 v2 v3:Value)(lo hi:Nat)(W:zB)(rs rb:Int)(w:World)(h:ye w lo hi v0 v1 v2 v3 W)(hh:hi<=w.heap.size)(hR:zf W.pool)(hT:zW W.pool rs rb) :
  Calls Tryz.prog 59 #[zAY v0 v1 v2 v3 W,.agg #[.int .i64 rs,.int .i64 rb]] w fun e w'=>e = .returned (.agg (pgC (zC1 (zBw W.pool rs rb))))/\Below w.heap.size w w':=by
 have Hp:=zM h;clear h;have aB:∀A B C D:World,A=w.alloc (.cells #[v0,v1,.int .i64 W.time,.int .i64 W.next,v2,v3] 30)->B=A.alloc (.cells #[.int .i64 rs,.int .i64 rb] 44)->C=B.alloc (.cells Tryz.zeroCells85 85)->D=C.alloc (.cells Tryz.zeroCells85 85)->
   zAb D w.heap.size v0 v1 (.int .i64 W.time) (.int .i64 W.next) v2 v3/\yG D (w.heap.size+1) (.int .i64 rs) (.int .i64 rb)/\Blk D (w.heap.size+1+1) Tryz.zeroCells85/\zFO D (w.heap.size+1+1+1) (fun _=>(0,0))/\Below w.heap.size w D/\D.heap.size=w.heap.size+4:=by
  rintro A B C D ea eb ec ed;have b1:=zD w (.cells #[v0,v1,.int .i64 W.time,.int .i64 W.next,v2,v3] 30);have x1:=zAb.new w v0 v1 (.int .i64 W.time) (.int .i64 W.next) v2 v3 30;have z1:A.heap.size=w.heap.size+1:=(by rw[ea];exact World.size_alloc _ _);rw[<-ea]at b1 x1;have b2:=zD A (.cells #[.int .i64 rs,.int .i64 rb] 44);have x2:=yG.new A (.int .i64 rs) (.int .i64 rb) 44;have z2:B.heap.size=w.heap.size+1+1:=(by rw[eb,World.size_alloc,z1]);rw[<-eb]at b2 x2;rw[z1]at x2;have b3:=zD B (.cells Tryz.zeroCells85 85);have x3:Blk C B.heap.size Tryz.zeroCells85:=(by rw[ec];exact heap_alloc_new _ _);have z3:C.heap.size=w.heap.size+1+1+1:=(by rw[ec,World.size_alloc,z2]);rw[<-ec]at b3;rw[z2]at x3;have b4:=zD C (.cells Tryz.zeroCells85 85);have x4:=zFO.new C;have z4:D.heap.size=w.heap.size+4:=(by rw[ed,World.size_alloc,z3]);rw[<-ed]at b4 x4;rw[z3]at x4;exact⟨((x1.zbd b2).zbd b3).zbd b4,(x2.zbd b3).zbd b4,x3.zbd b4,x4,zA (zA (zA b1 b2) b3) b4,z4⟩
 obtain⟨hx,hy,pA,rA,hb,hz⟩:=aB _ _ _ _ rfl rfl rfl rfl;have HX:=zM hx;have HY:=zM hy;have H4:=zM pA;have H5:=zM rA;have HB:=zM hb;have HZ:=zM hz;clear aB hx hy pA rA hb hz;obtain⟨x0,x1,x2,x3,x4,x5⟩:=HX.out.c;obtain⟨⟨y0,-⟩,⟨y1,-⟩⟩:=HY.out;refine(callsIn_wide (n:=3)).1 ?_;refine callsIn_of_wp_marks Tryz.func59 rfl trivial ?_ rfl;simp only[Tryz.ntmps59,List.size_toArray,List.length_cons,List.length_nil,Nat.reduceAdd,Nat.reduceSub,Array.replicate_succ,Array.replicate_zero,List.push_toArray,List.append_toArray,List.nil_append,List.cons_append]
 gi_wp2
 clear x0 x1 x2 x3 x4 x5 y0 y1;generalize (((w.alloc (.cells #[v0,v1,.int .i64 W.time,.int .i64 W.next,v2,v3] 30)).alloc (.cells #[.int .i64 rs,.int .i64 rb] 44)).alloc (.cells Tryz.zeroCells85 85)).alloc (.cells Tryz.zeroCells85 85)=W4 at HX HY H4 H5 HB HZ ⊢;refine⟨trivial,(callsIn_wide.2 (zHI v0 v1 v2 v3 W rs rb W4)).mono ?_⟩;rintro e w5 ⟨rfl,nA,mA,fA,nB⟩;have kA:=zM (zA HB.out fA);have bB:=zM (H4.out.zbd fA);have cB:=zM (H5.out.zbd fA);have tB:w5.heap.size=w.heap.size+6:=by have:=HZ.out;omega
 have bA:=zHJ w.heap.size w5.heap.size 2 W4.heap.size (W4.heap.size+1) lo hi W.pool v0 v1 v2 v3 W.time W.next rs rb w5 (by omega) (Nat.le_refl _) hh hR hT nA mA (Hp.out.pool.1.zbd kA.out);clear fA nA mA nB HX HY H4 H5 HB HZ
 gi_wp2
 refine wpIn_rangeFunc_ownH rfl (by omega) (gf:=113) (lb:=#[.pointer (some ⟨W4.heap.size,0,none⟩),.pointer (some ⟨W4.heap.size+1,0,none⟩)]) rfl trivial (enters_of Tryz.func113 (by kernel_rfl) rfl) bA zCt (zJa (by omega)) (Below.refl _ _) (fun _=>rfl)
  (fun (aA:List zJL) X=>(Blk X (w.heap.size+1+1) Tryz.zeroCells85/\zFO X (w.heap.size+1+1+1) (zC1 (zI3 aA)))/\Below w.heap.size w X)
  (fun _ _ _=>False)
  (fun s X Y row hs hg hr=>⟨⟨hs.1.1.own hg hr,hs.1.2.own hg hr⟩,ownFrom_below (β:=Unit) (Nat.le_refl _) (by omega) () X Y row hs.2 hg hr⟩)
  (fun _ _ _ _ _ hs _ _=>hs)
  ⟨⟨bB.out,cB.out⟩,kA.out⟩
  (fun x a' X=>∃Bs Bx,w.heap.size+1+1+1<Bs/\w.heap.size+1+1+1<Bx/\yG X Bs (.int .i64 x.1.1.1) (.int .i64 x.1.1.2)/\yG X Bx (.int .i64 x.1.2.1) (.int .i64 x.1.2.2)/\a' = {tmps:=#[zAY v0 v1 v2 v3 W,.agg #[.int .i64 rs,.int .i64 rb],.pointer (some ⟨w.heap.size,0,none⟩),.pointer (some ⟨w.heap.size+1,0,none⟩),.pointer (some ⟨w.heap.size+1+1,0,none⟩),.pointer (some ⟨w.heap.size+1+1+1,0,none⟩),.pointer (some ⟨Bs,0,none⟩),.pointer (some ⟨Bx,0,none⟩),.agg #[v0,v1,.int .i64 W.time,.int .i64 W.next,v2,v3],.agg #[.int .i64 rs,.int .i64 rb],.func (.func 113) #[] #[.pointer (some ⟨W4.heap.size,0,none⟩),.pointer (some ⟨W4.heap.size+1,0,none⟩)],.agg #[.int .i64 x.1.1.1,.int .i64 x.1.1.2],.agg #[.int .i64 x.1.2.1,.int .i64 x.1.2.2],undef,undef,undef,undef,undef,undef,undef,undef],defers:=[]})
  (fun x a' _ X Y row hs hg hr=>by obtain⟨Bs,Bx,h1,fB,h2,gA,h3⟩:=hs;exact⟨Bs,Bx,h1,fB,⟨zAn h2.1 hg hr,zAn h2.2 hg hr⟩,⟨zAn gA.1 hg hr,zAn gA.2 hg hr⟩,h3⟩)
  ?assign ?body ?done ?stop
 case assign=>
  rintro l aA x X K ⟨⟨i1,i2⟩,i3⟩ hK;have ha:=zD X (.cells #[.int .i64 x.1.1.1,.int .i64 x.1.1.2] 111);have hy:=yG.new X (.int .i64 x.1.1.1) (.int .i64 x.1.1.2) 111;have hz:(X.alloc (.cells #[.int .i64 x.1.1.1,.int .i64 x.1.1.2] 111)).heap.size=X.heap.size+1:=World.size_alloc _ _;have hc:=zD (X.alloc (.cells #[.int .i64 x.1.1.1,.int .i64 x.1.1.2] 111)) (.cells #[.int .i64 x.1.2.1,.int .i64 x.1.2.2] 44);have hq:=yG.new (X.alloc (.cells #[.int .i64 x.1.1.1,.int .i64 x.1.1.2] 111)) (.int .i64 x.1.2.1) (.int .i64 x.1.2.2) 44;rw[hz]at hq;have cA:=zA ha hc;have tA:=((i2 0 (by omega)).1).lt;have HK:=zM (hK _ _ (((KeepsOthers.alloc _ _).trans (KeepsOthers.alloc _ _)).from _) (yN.of_below cA i3.size) ⟨⟨i1.zbd cA,i2.zbd cA⟩,zA i3 cA⟩ ⟨X.heap.size,X.heap.size+1,tA,by omega,hy.zbd hc,hq,rfl⟩);clear ha hy hK i1 i2 i3 hc hq cA hz
  gi_wp2
  exact HK.out
 case body=>
  rintro l aA x a' X hl - ⟨⟨i1,i2⟩,i3⟩ ⟨Bs,Bx,rB,sB,iB,jB,rfl⟩ tA;have e:zI3 (aA ++ [x])=zI3 aA ++ [x.1]:=(by simp[zI3]);have HE:=zM e;have HI:=zM (And.intro i1 (And.intro i2 i3));obtain⟨⟨s0,-⟩,⟨s1,-⟩⟩:=iB;obtain⟨⟨b0,-⟩,⟨b1,-⟩⟩:=jB;by_cases h2:x.1.1.1=2
  ·obtain⟨vA,lB⟩:=x.2.2.2 h2;obtain⟨k,hk⟩:=Int.eq_ofNat_of_zero_le vA;have dA:k<64:=(by omega);have sA:(k:Int)<64:=(by omega);obtain⟨⟨c0,oB⟩,⟨c1,pB⟩⟩:=i2 k dA;have HF:=zM (show ∀n,n<64->zC1 (zI3 (aA ++ [x])) n=if n=k then x.1.2 else zC1 (zI3 aA) n from fun n _=>by
    rw[e,zLX];have:x.1.1=(2,(n:Int))↔n=k:=by
     constructor
     ·intro h;have h3:=congrArg Prod.snd h;rw[hk]at h3;simp only at h3;omega
     ·rintro rfl;exact Prod.ext h2 hk
    by_cases h:n=k
    ·rw[if_pos (this.2 h),if_pos h]
    ·rw[if_neg (fun h'=>h (this.1 h')),if_neg h])
   rw[h2]at s0;rw[hk]at s1;clear vA lB e i1 i2 i3 bA
   gi_wp2
   obtain⟨i1,i2,i3⟩:=HI.out;refine⟨((KeepsOthers.setCell _ _ _).trans (KeepsOthers.setCell _ _ _)).from _,zCt (zGw (by omega) (by omega) _) (zGw (by omega) (by omega) _),⟨(i1.other (by omega)).other (by omega),i2.put dA x.1.2 HF.out⟩,(i3.setCell (p:=⟨w.heap.size+1+1+1,k*2,none⟩) (by simp;omega) _).setCell (p:=⟨w.heap.size+1+1+1,k*2+1,none⟩) (by simp;omega) _⟩
  ·have HF:=zM (show zC1 (zI3 (aA ++ [x]))=zC1 (zI3 aA)from funext fun n=>by
    rw[e,zLX,if_neg (fun h=>h2 (congrArg Prod.fst h))])
   have gA:(x.1.1.1 == 2)=false:=(by simp[h2]);clear e i1 i2 i3 bA
   gi_wp2
   obtain⟨i1,i2,i3⟩:=HI.out;exact⟨KeepsFrom.refl _ _,yN.refl _ _ _,⟨i1,by rw[HF.out];exact i2⟩,i3⟩
 case done=>
  rintro Dd ys X hD mB ⟨⟨i1,i2⟩,i3⟩ hK;have jA:zI3 ys=zBw W.pool rs rb:=mB;rw[jA]at i2;have eA:(Instr.loadAt 85 (.pointer (some ⟨w.heap.size+1+1+1,0,none⟩))).run Tryz.prog X = .ok (.agg (pgC (zC1 (zBw W.pool rs rb)))) X:=by
   have:=zSq i2;simp[Instr.loadAt,Instr.sureAddr,this]
  have iA:(storeCells ⟨w.heap.size+1+1,0,none⟩ (pgC (zC1 (zBw W.pool rs rb))).toList).run Tryz.prog X = .ok () (X.setRow (w.heap.size+1+1) (pgC (zC1 (zBw W.pool rs rb)))):=by
   have h1:=run_storeVar_row (P:=Tryz.prog) X (w.heap.size+1+1) 85 85 Tryz.zeroCells85 (pgC (zC1 (zBw W.pool rs rb))) i1 (by rw[zHE];exact pgI) (by rw[qt,zHE]) (zT4 _);cases hq:Tryz.prog.info? 85 with
   | none=>have:=pgI;simp[hq]at this
   | some i=>
    have hs:i.size=128:=(by have:=pgI;simpa[hq]using this);simpa[storeVar,sizeOf,typeInfo,hq,Value.cells,hs,zHE]using h1
  have kB:=zHE (zC1 (zBw W.pool rs rb));generalize oA:pgC (zC1 (zBw W.pool rs rb))=cs at *;have eB:=zM oA;clear oA
  gi_wp2
  refine⟨fun _ _=>trivial,?_⟩;rw[show(Oper.semAt _ _ _).run Tryz.prog X = .ok (.value (.agg cs)) X by simp[execOp,Act.eval,Oper.semAt,eA,Result.andThen],Oper.uponIn_value]
  gi_wp2
  have lA:(X.setRow (w.heap.size+1+1) cs).heap[Dd]?=some (.deferred (some [])):=(setRow_other X _ Dd cs (by omega)).trans hK;refine⟨by simp,.inl ⟨_,_,rfl,run_takeDeferred lA,?_⟩⟩;have gB:((X.setRow (w.heap.size+1+1) cs).putObj Dd (.deferred none)).heap[w.heap.size+1+1]?=some (.cells cs 85):=(World.putObj_heap_other (by omega)).trans (setRow_heap X (w.heap.size+1+1) _ cs 85 (0,0) i1);have hl:=run_loadVar_row (P:=Tryz.prog) _ (w.heap.size+1+1) 85 85 cs (0,0) _ gB pgU rfl (by rw[kB];exact pgI);refine⟨.agg cs,?_,by rw[eB.out],(below_setRow i3 (by omega) cs).trans (belowK_b (w:=w) (Nat.le_refl _) _ Dd _ _ (by omega) lA rfl rfl)⟩;simp[results,Tryz.results59];exact hl
 case stop=>
  rintro Dd c aA X _ _ h _;exact h.elim
end Go.Proofs.YtginldeebkfbgaaGreat
