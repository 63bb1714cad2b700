/- A part of the proof. -/
import Derived.Test.YtginldeebkfbgaaGreatF20
import Derived.WideKeyEntry
import Derived.IntWalk
set_option linter.unusedVariables false
set_option maxRecDepth 20000
set_option maxHeartbeats 4000000
namespace Go.Proofs.YtginldeebkfbgaaGreat
open Go.RowKit Go.Shelf Go.Maps
attribute [local go_sem] Oper.semAt_some
theorem zHI(v0 v1 v2 v3:Value)(W:zB)(rs rb:Int)(w:World) :
  Calls Tryz.prog 81 #[zAY v0 v1 v2 v3 W,.agg #[.int .i64 rs,.int .i64 rb]] w fun e w'=>e = .returned (.func (.func 113) #[] #[.pointer (some ⟨w.heap.size,0,none⟩),.pointer (some ⟨w.heap.size+1,0,none⟩)])/\zAb w' w.heap.size v0 v1 (.int .i64 W.time) (.int .i64 W.next) v2 v3/\yG w' (w.heap.size+1) (.int .i64 rs) (.int .i64 rb)/\Below w.heap.size w w'/\w'.heap.size=w.heap.size+2:=by
 have ha:=zD w (.cells #[v0,v1,.int .i64 W.time,.int .i64 W.next,v2,v3] 30);have hb:=zD (w.alloc (.cells #[v0,v1,.int .i64 W.time,.int .i64 W.next,v2,v3] 30)) (.cells #[.int .i64 rs,.int .i64 rb] 44);have H1:=zM ((zAb.new w v0 v1 (.int .i64 W.time) (.int .i64 W.next) v2 v3 30).zbd hb);have hy:=yG.new (w.alloc (.cells #[v0,v1,.int .i64 W.time,.int .i64 W.next,v2,v3] 30)) (.int .i64 rs) (.int .i64 rb) 44;rw[World.size_alloc]at hy;have H2:=zM hy;have H3:=zM (show((w.alloc (.cells #[v0,v1,.int .i64 W.time,.int .i64 W.next,v2,v3] 30)).alloc (.cells #[.int .i64 rs,.int .i64 rb] 44)).heap.size=w.heap.size+2 by rw[World.size_alloc,World.size_alloc]);clear hy;have aA:∀(fn:Fn) (first cap:Array Value) (w:World),(Instr.makeFunc fn first cap).run Tryz.prog w = .ok (.func fn first cap) w:=fun _ _ _ _=>rfl
 go_enter Tryz.func81,Tryz.ntmps81;go_wp2;go_ret;exact⟨rfl,H1.out,H2.out,zA ha hb,H3.out⟩
theorem zHJ(n₀ B n Bw Bt lo hi:Nat)(p:zF)(sv v1 v4 v5:Value)(t1 t2 rs rb:Int)(w:World)(hn:n₀<=B)(hB:B<=w.heap.size)(hh:hi<=n₀)(hR:zf p)(hT:zW p rs rb)(hw:zAb w Bw sv v1 (.int .i64 t1) (.int .i64 t2) v4 v5)(ht:yG w Bt (.int .i64 rs) (.int .i64 rb))(hS:yJ w lo hi sv p.n p.s) :
  SeqStopsK Fence.wide n Tryz.prog 113 #[.pointer (some ⟨Bw,0,none⟩),.pointer (some ⟨Bt,0,none⟩)] zRP (yN n₀ B) (fun ys=>ys.map (·.1)=zBw p rs rb) (fun _=>True) (zBw p rs rb).length w:=fun l J Jx W hW hJ _ hY h0=>
 zVN n₀ B n l Bw Bt lo hi p sv v1 v4 v5 t1 t2 rs rb J Jx hn hh hR hT (zOk hJ) hY W (by have:=hW.size;omega) (hw.zbd hW) (ht.zbd hW) (hS.zbd hW) h0
theorem zAn{B:Nat}{X Y:World}{row:Option Nat}{b o:Nat}{v:Value}(h:yT X b o v)(hg:X.grownBy Y row)(hr:∀r,row=some r->B<=r/\∃ob:Obj,X.heap[r]?=some ob/\ob.isCells=false):yT Y b o v:=by
 obtain⟨ob,h1,h2⟩:=zGY h.1;have aA:some b≠row:=fun e=>by
  obtain⟨_,ob',h3,h4⟩:=hr b e.symm;rw[h1]at h3;cases h3;rw[h2]at h4;exact absurd h4 (by simp)
 have e:=hg.block b h.lt aA;exact⟨(World.cell?_of_block (a:=⟨b,o,none⟩) e).trans h.1,(World.frozen?_of_block (a:=⟨b,o,none⟩) e).trans h.2⟩
theorem zGw{n₀ B:Nat}{W:World}{b o:Nat}(h1:n₀<=b)(h2:b<B)(v:Value):yN n₀ B W (W.setCell ⟨b,o,none⟩ v):=
 ⟨(Below.refl n₀ W).setCell (p:=⟨b,o,none⟩) h1 v,fun k ob hk ho _=>(Below.heap_setCell W ⟨b,o,none⟩ v k (by simp;omega)).trans ho⟩
theorem zOM{p:zF}{L:Int}{G:Int->Int->Int->List zDe}{m:Nat}(h:∀num xs xb,(G num xs xb).length<=m)(num xs xb:Int):(zFo p L G num xs xb).length<=1+m*8:=by
 unfold zFo;by_cases hn:Nil xs xb
 ·rw[if_pos hn];simp
 ·rw[if_neg hn,List.length_cons];have:=zP9 (f:=fun i=>G (num*8+i) (zy (p.s xs.toNat) i) (qm (p.s xs.toNat) i)) (fun i=>h _ _ _) 8;omega
theorem zOP(p:zF)(rs rb:Int):(zBw p rs rb).length<=73:=by
 have h2:∀num xs xb,(zOE p num xs xb).length<=1:=fun num xs xb=>by
  rw[zMQ];by_cases hn:Nil xs xb
  ·rw[if_pos hn];simp
  ·rw[if_neg hn];simp
 have h1:∀num xs xb,(zOB p num xs xb).length<=9:=fun num xs xb=>zOM h2 num xs xb
 exact zOM h1 0 rs rb
attribute [local go_sem] Oper.semAt_some
theorem zY2:Tryz.prog.underlying 98=some (.map 44 2):=by kernel_rfl
theorem zbV(w:World):(zeroValue 2).run Tryz.prog w = .ok (.int .i64 0) w:=by kernel_rfl
theorem zQU{w:World}{M n:Nat}{D:DataW Value}(h:w.ownsMap Tryz.prog 44 zCz M n D){key:Value}{kl:Lit}{c:Int}(hk:keyOf Tryz.prog 44 key=some kl)(bA:D.atKey kl (.held (.int .i64 0)) = .held (.int .i64 c)) :
  (Instr.lookup 98 (.map (some M)) key false).run Tryz.prog w = .ok (.int .i64 c) w:=by
 obtain⟨v',ps,aA,hv⟩:=h.lookup zUp zY2 (zbV w) (zCu _) hk;have e1:=zD8 hv;rw[bA]at e1;have e2:=DataW.held.inj e1;rw[e2];exact aA
def zas(P:Int×Int->Prop)(D:DataW Value):Prop:=∀s b kl,keyOf Tryz.prog 44 (.agg #[.int .i64 s,.int .i64 b])=some kl->∃c:Int,D.atKey kl (.held (.int .i64 0)) = .held (.int .i64 c)/\(c=0↔¬P (s,b))
def zOY(P:Int×Int->Prop)(w:World)(e:Ending)(w':World):Prop:=∃M n D,e = .returned (.map (some M))/\w'.ownsMap Tryz.prog 44 zCz M n D/\w.heap.size<=M/\M<w'.heap.size/\zas P D/\Below w.heap.size w w'
open Classical in
noncomputable def zA5(P:Int×Int->Prop)(l:List (Int×Int)):Nat:=(l.filter (fun x=>¬P x)).length
theorem zLL{P:Int×Int->Prop}{l:List (Int×Int)}{x:Int×Int}(h:¬P x):zA5 P (l ++ [x])=zA5 P l+1:=by
 unfold zA5;rw[List.filter_append,List.length_append];simp[h]
theorem zNa{P:Int×Int->Prop}{l:List (Int×Int)}{x:Int×Int}(h:P x):zA5 P (l ++ [x])=zA5 P l:=by
 unfold zA5;rw[List.filter_append,List.length_append];simp[h]
theorem zNZ(P:Int×Int->Prop)(l:List (Int×Int)):zA5 P l<=l.length:=List.length_filter_le _ _
theorem zF2(v0 v1 v2 v3:Value)(lo hi:Nat)(W:zB)(rs rb:Int)(ov:Value)(P:Int×Int->Prop)(w:World)(h:ye w lo hi v0 v1 v2 v3 W)(hh:hi<=w.heap.size)(hR:zf W.pool)(hT:zW W.pool rs rb)
  (hW:∀w',Below w.heap.size w w'->Calls Tryz.prog 80 #[zAY v0 v1 v2 v3 W,ov] w' (zOY P w')) :
  Calls Tryz.prog 45 #[zAY v0 v1 v2 v3 W,.agg #[.int .i64 rs,.int .i64 rb],ov] w fun e w'=>e = .returned (.int .i64 (zA5 P (zH W.pool rs rb)))/\Below w.heap.size w w':=by
 have bC:∀k:Nat,(Fence.wide.depth.isSome=true->1<=k):=fun k h=>by simp[Fence.wide]at h
 have Hp:=zM h;clear h;have dA:=zD w (.cells #[v0,v1,.int .i64 W.time,.int .i64 W.next,v2,v3] 30);have bA:=zD (w.alloc (.cells #[v0,v1,.int .i64 W.time,.int .i64 W.next,v2,v3] 30)) (.cells #[.int .i64 rs,.int .i64 rb] 44);have hA:=zA dA bA;have HX:=zM ((zAb.new w v0 v1 (.int .i64 W.time) (.int .i64 W.next) v2 v3 30).zbd bA);have hy:=yG.new (w.alloc (.cells #[v0,v1,.int .i64 W.time,.int .i64 W.next,v2,v3] 30)) (.int .i64 rs) (.int .i64 rb) 44;rw[World.size_alloc]at hy;have HY:=zM hy;clear hy dA bA;obtain⟨x0,x1,x2,x3,x4,x5⟩:=HX.out.c;refine(callsIn_wide (n:=3)).1 ?_;refine callsIn_of_wp_marks Tryz.func45 rfl trivial ?_ rfl;simp only[Tryz.ntmps45,List.size_toArray,List.length_cons,List.length_nil,Nat.reduceAdd,Nat.reduceSub,Array.replicate_succ,Array.replicate_zero,List.push_toArray,List.append_toArray,List.nil_append,List.cons_append]
 gi_wp2
 clear x0 x1 x2 x3 x4 x5;generalize (w.alloc (.cells #[v0,v1,.int .i64 W.time,.int .i64 W.next,v2,v3] 30)).alloc (.cells #[.int .i64 rs,.int .i64 rb] 44)=W0 at hA HX HY ⊢;refine⟨trivial,(callsIn_wide.2 (hW W0 hA)).mono ?_⟩;rintro e w1 ⟨M,nm,D,rfl,hm,fB,gB,hD,eA⟩;have cB:=zA hA eA;have tA:=zM (HX.out.zbd eA);have vA:=zM (HY.out.zbd eA);have bB:=zM hm;have nB:=zM hD;have HM:=zM (And.intro fB gB);have pB:=zM (show W0.heap.size<=w1.heap.size/\w.heap.size<=W0.heap.size from⟨eA.size,hA.size⟩);clear hm hD fB gB eA hA HX HY hW;have dA:=zD w1 (.cells #[.map (some M)] 98);have bA:=zD (w1.alloc (.cells #[.map (some M)] 98)) (.cells #[.int .i64 0] 2);have cA:=zA dA bA;have gA:yT (w1.alloc (.cells #[.map (some M)] 98)) w1.heap.size 0 (.map (some M)):=zL (heap_alloc_new _ _) rfl;have iA:yT ((w1.alloc (.cells #[.map (some M)] 98)).alloc (.cells #[.int .i64 0] 2)) (w1.heap.size+1) 0 (.int .i64 0):=by
  have:=zL (i:=0) (heap_alloc_new (w1.alloc (.cells #[.map (some M)] 98)) (.cells #[.int .i64 0] 2)) rfl;rw[World.size_alloc]at this;exact this
 have kA:=zM (gA.zbd bA);have lA:=zM iA;have mA:=zM (tA.out.zbd cA);have nA:=zM (vA.out.zbd cA);have pA:=zM (bB.out.kept (yK cA none) (by simp));have rA:=zA cB cA;have oA:=zM (show((w1.alloc (.cells #[.map (some M)] 98)).alloc (.cells #[.int .i64 0] 2)).heap.size=w1.heap.size+2 by rw[World.size_alloc,World.size_alloc]);clear dA bA cA gA iA tA vA bB cB;obtain⟨x0,x1,x2,x3,x4,x5⟩:=mA.out.c;obtain⟨⟨y0,-⟩,⟨y1,-⟩⟩:=nA.out
 gi_wp2
 clear x0 x1 x2 x3 x4 x5 y0 y1;generalize (w1.alloc (.cells #[.map (some M)] 98)).alloc (.cells #[.int .i64 0] 2)=W2 at kA lA mA nA pA rA oA ⊢;refine⟨trivial,(callsIn_wide.2 (zHI v0 v1 v2 v3 W rs rb W2)).mono ?_⟩;rintro e w3 ⟨rfl,jB,iB,fA,vB⟩;have mB:=zM (kA.out.zbd fA);have oB:=zM (lA.out.zbd fA);have rB:=zM (pA.out.kept (yK fA none) (by simp));have eB:=zA rA fA;have aB:=zM (show w.heap.size<=W0.heap.size/\W0.heap.size<=M/\M<w1.heap.size/\w1.heap.size+4=w3.heap.size by have:=pB.out;have:=HM.out;have:=oA.out;omega);have jA:=zHJ w.heap.size w3.heap.size 2 W2.heap.size (W2.heap.size+1) lo hi W.pool v0 v1 v2 v3 W.time W.next rs rb w3 (by have:=aB.out;omega) (Nat.le_refl _) hh hR hT jB iB (Hp.out.pool.1.zbd eB);clear fA jB iB vB kA lA pA rA oA mA nA
 gi_wp2
 have hN:=zOP W.pool rs rb;have hz:=aB.out;refine wpIn_rangeFunc_ownH rfl (by omega) (gf:=113) (lb:=#[.pointer (some ⟨W2.heap.size,0,none⟩),.pointer (some ⟨W2.heap.size+1,0,none⟩)]) rfl trivial (enters_of Tryz.func113 (by kernel_rfl) rfl) jA zCt (zJa (by omega)) (Below.refl _ _) (fun _=>rfl)
  (fun aA X=>((yT X w1.heap.size 0 (.map (some M))/\yT X (w1.heap.size+1) 0 (.int .i64 (zA5 P (aA.map (·.1.2)))))/\X.ownsMap Tryz.prog 44 zCz M nm D)/\Below w.heap.size w X)
  (fun _ _ _=>False)
  (fun s X Y row hs hg hr=>⟨⟨⟨zAn hs.1.1.1 hg hr,zAn hs.1.1.2 hg hr⟩,hs.1.2.kept hg (fun e=>by have:=(hr _ e.symm).1;omega)⟩,ownFrom_below (β:=Unit) (Nat.le_refl _) (by omega) () X Y row hs.2 hg hr⟩)
  (fun _ _ _ _ _ hs _ _=>hs)
  ⟨⟨⟨mB.out,oB.out⟩,rB.out⟩,eB⟩
  (fun x a' X=>∃Bx,w1.heap.size+1<Bx/\yG X Bx (.int .i64 x.1.2.1) (.int .i64 x.1.2.2)/\a' = {tmps:=#[zAY v0 v1 v2 v3 W,.agg #[.int .i64 rs,.int .i64 rb],ov,.pointer (some ⟨w.heap.size,0,none⟩),.pointer (some ⟨w.heap.size+1,0,none⟩),undef,.int .i64 0,.pointer (some ⟨w1.heap.size,0,none⟩),.pointer (some ⟨w1.heap.size+1,0,none⟩),undef,.pointer (some ⟨Bx,0,none⟩),.agg #[v0,v1,.int .i64 W.time,.int .i64 W.next,v2,v3],ov,.map (some M),.agg #[v0,v1,.int .i64 W.time,.int .i64 W.next,v2,v3],.agg #[.int .i64 rs,.int .i64 rb],.func (.func 113) #[] #[.pointer (some ⟨W2.heap.size,0,none⟩),.pointer (some ⟨W2.heap.size+1,0,none⟩)],.agg #[.int .i64 x.1.1.1,.int .i64 x.1.1.2],.agg #[.int .i64 x.1.2.1,.int .i64 x.1.2.2],undef,undef,undef,undef,undef,undef,undef],defers:=[]})
  (fun x a' _ X Y row hs hg hr=>by obtain⟨Bx,h1,h2,h3⟩:=hs;exact⟨Bx,h1,⟨zAn h2.1 hg hr,zAn h2.2 hg hr⟩,h3⟩)
  ?assign ?body ?done ?stop
 case assign=>
  rintro l aA x X K ⟨⟨⟨i1,i2⟩,i3⟩,i4⟩ hK;have ha:=zD X (.cells #[.int .i64 x.1.2.1,.int .i64 x.1.2.2] 44);have hy:=yG.new X (.int .i64 x.1.2.1) (.int .i64 x.1.2.2) 44;have HK:=zM (hK _ _ ((KeepsOthers.alloc _ _).from _) (yN.of_below ha i4.size) ⟨⟨⟨i1.zbd ha,i2.zbd ha⟩,i3.kept (yK ha none) (by simp)⟩,zA i4 ha⟩ ⟨X.heap.size,i2.lt,hy,rfl⟩);clear ha hy hK i1 i2 i3 i4
  gi_wp2
  exact HK.out
 case body=>
  rintro l aA x a' X hl - ⟨⟨⟨i1,i2⟩,i3⟩,i4⟩ ⟨Bx,aC,sB,rfl⟩ dC;obtain⟨kl,sA⟩:=zO3 x.2.1 x.2.2.1;obtain⟨c,gA,iA⟩:=nB.out _ _ kl sA;have cC:=zQU i3 sA gA;have e:(aA ++ [x]).map (·.1.2)=aA.map (·.1.2) ++ [x.1.2]:=(by simp);have hq:zA5 P (aA.map (·.1.2))<=73:=by
   have:=zNZ P (aA.map (·.1.2));rw[List.length_map]at this;omega
  have HE:=zM e;have HI:=zM (And.intro i1 (And.intro i2 (And.intro i3 i4)));have HC:=zM iA;obtain⟨⟨b0,-⟩,⟨b1,-⟩⟩:=sB;obtain⟨c0,-⟩:=i1;obtain⟨o0,of⟩:=i2;clear i3 i4 gA iA sA e jA;by_cases kB:c=0
  ·subst kB;have HN:=zM (HC.out.1 rfl);have Hy:=zM (zLL (l:=aA.map (·.1.2)) HN.out);obtain⟨q,lB⟩:∃q,zA5 P (aA.map (·.1.2))=q:=⟨_,rfl⟩;rw[lB]at o0 hq
   gi_wp2
   obtain⟨i1,i2,i3,i4⟩:=HI.out;refine⟨(KeepsOthers.setCell _ _ _).from _,zGw (by omega) (by omega) _,⟨⟨i1.other _ (.inl (by omega)),?_⟩,i3.kept (grownBy_setCell' _ _ _) (by simp;omega)⟩,i4.setCell (p:=⟨w1.heap.size+1,0,none⟩) (by simp;omega) _⟩;rw[HE.out,Hy.out,lB];exact i2.set _
  ·have HN:=zM (Classical.not_not.1 (fun hp=>kB (HC.out.2 hp)));have Hy:=zM (zNa (l:=aA.map (·.1.2)) HN.out)
   gi_wp2
   obtain⟨i1,i2,i3,i4⟩:=HI.out;refine⟨KeepsFrom.refl _ _,yN.refl _ _ _,⟨⟨i1,?_⟩,i3⟩,i4⟩;rw[HE.out,Hy.out];exact i2
 case done=>
  rintro Dd ys X hD tB ⟨⟨⟨i1,i2⟩,i3⟩,i4⟩ hK;have hv:ys.map (·.1.2)=zH W.pool rs rb:=by
   rw[<-zOQ,<-tB,List.map_map];rfl
  rw[hv]at i2;obtain⟨o0,-⟩:=i2
  gi_wp2
  refine⟨by simp,.inl ⟨_,_,rfl,run_takeDeferred hK,?_⟩⟩;exact⟨_,results_tmp rfl _ _ _,rfl,i4.trans (belowK_b (w:=w) (Nat.le_refl _) X Dd _ _ (by omega) hK rfl rfl)⟩
 case stop=>
  rintro Dd c aA X _ _ h _;exact h.elim
open Go.ChangeMaps Go.MapKept
open Go.WideElems (Fit rd rg pl rd_val elemAt findIdx_arr findIdx_born modify_last set_self)
open Go.WideMaps (KeyLaw)
theorem zMY(w:World)(b:Nat)(o o':Obj):setBlock (setBlock w b o) b o'=setBlock w b o':=by simp[setBlock]
theorem zM9{w:World}{b:Nat}{o:Obj}(h:w.heap[b]?=some o):setBlock w b o=w:=by
 have e:w.heap.setIfInBounds b o=w.heap:=by
  apply Array.ext_getElem?;intro i;by_cases hi:i=b
  ·subst hi;rw[Array.getElem?_setIfInBounds_self_of_lt (Array.getElem?_eq_some_iff.1 h).1];exact h.symm
  ·rw[Array.getElem?_setIfInBounds_ne (fun e=>hi e.symm)]
 unfold setBlock;rw[e]
theorem zLi{w:World}{b:Nat}{es aA:Array MapEntry}{c c':Nat}(hb:w.heap[b]?=some (.map es c)):w.grownBy (setBlock w b (.map aA c')) (some b):=
 ⟨rfl,rfl,rfl,by simp[setBlock],fun i _ hi=>heap_setBlock_other hb _ (fun e=>hi (by rw[e]))⟩
theorem zJT{P:Program}{k e t:TypeId}{w:World}{b n:Nat}{D:DataW Value}(h:w.ownsMap P k zCz b n D)(K0:KeyLaw P k)(ht:P.underlying t=some (.map k e))(hn:n<maxLen){z:Value}(hz:∀u:World,(zeroValue e).run P u = .ok z u)
  {key val v:Value} {kl:Lit} (aA:keyOf P k key=some kl) (oA:D.atKey kl (.held z) = .held v) :
  ∃(v0:Value) (st:Nat) (w1 w2:World),(Instr.mapEntry t (.map (some b)) key).run P w = .ok (.tuple #[v0,goInt st]) w1/\(Instr.lookup t (.map (some b)) key false).run P w1 = .ok v w1/\(Instr.entryStore t (.map (some b)) (goInt st) val).run P w1 = .ok () w2/\w2.ownsMap P k zCz b (n+1) (D.put kl (.held val))/\w.grownBy w1 (some b)/\w.grownBy w2 (some b):=by
 have K:=Keyed.of_law K0;obtain⟨w',lA,fA,rA⟩:=h.update K ht hn aA (zCu val);obtain⟨wz,kA,gA,jB⟩:=h.update K ht hn aA (zCu z);have eA:=h.lookup K ht (hz w) (zCu z) aA;obtain⟨es,bA,hb,F,hs,hD⟩:=h;obtain⟨v0,st,dA,c1,cA,kB,cB⟩:=WideElems.entry_then_store K0 ht hz hb F aA;have pA:(setBlock w b (.map dA c1)).heap[b]?=some (.map dA c1):=heap_setBlock_same hb _;obtain⟨nA,c2,bB,eB⟩:=cB _ val pA;have e2:setBlock (setBlock w b (.map dA c1)) b (.map nA c2)=w':=by
  rw[zMY];rw[eB]at lA;injection lA
 refine⟨v0,st,setBlock w b (.map dA c1),w',cA,?_,by rw[<-e2];exact bB,fA,zLi hb,rA⟩;obtain⟨v',ps,hl,fB⟩:=eA;have ev:v'=v:=by
  have e1:=zD8 fB;rw[oA]at e1;injection e1 with e1;exact e1.symm
 subst ev
 suffices hh:∀ww:World,ww=setBlock w b (.map dA c1)->(Instr.lookup t (.map (some b)) key false).run P ww = .ok v' ww from hh _ rfl
 intro ww mA;rcases K0.find w aA es.toList F.keys with⟨h1,h2⟩ | ⟨j,e0,h1,h2,h3⟩
 ·
  have iB:setBlock w b (.map dA c1)=wz:=by
   have hm:(Instr.mapEntry t (.map (some b)) key).run P w = .ok (.tuple #[z,goInt bA]) (setBlock w b (.map (es.push ⟨key,z,bA⟩) (bA+1))):=by
    simp[Instr.mapEntry,run_underlying ht,MapKept.run_getObj_map hb,K0.check w false aA,h1,hz,MapKept.run_setObj_map _ hb,Result.andThen,setBlock]
   have hu:(Instr.mapUpdate t (.map (some b)) key z).run P w = .ok () (setBlock w b (.map (es.push ⟨key,z,bA⟩) (bA+1))):=by
    simp[Instr.mapUpdate,run_underlying ht,MapKept.run_getObj_map hb,K0.check w false aA,h1,MapKept.run_setObj_map _ hb,Result.andThen,setBlock]
   rw[cA]at hm;rw[kA]at hu;injection hm with _ hm;injection hu with _ hu;rw[hm,hu]
  obtain rfl:ww=wz:=mA.trans iB;obtain⟨v2,lB,vA,gB⟩:=gA.lookup K ht (hz _) (zCu z) aA;have e3:=zD8 gB;rw[atKey_put_same (show IsMap D from⟨_,hD⟩) (K.key aA)]at e3;replace e3:=DataW.held.inj e3;have e4:v'=z:=by
   have tA:(Instr.lookup t (.map (some b)) key false).run P w = .ok z w:=by
    rcases Maps.fit_look false K ht (hz w) hb F aA with⟨jA,_,_⟩ | ⟨e0,y,aB,sA,_,_,_,_⟩
    ·exact jA
    ·exact absurd sA (h2 e0 aB)
   rw[tA]at hl;injection hl with hl _;exact hl.symm
  subst e3;subst e4;exact vA
 ·
  have hj:es[j]?=some e0:=(by simpa using h2);have iA:es.modify j (fun e=>{e with key:=key})=es:=by
   apply Array.ext';rw[Array.toList_modify,modify_eq_set _ _ _ _ h2];have:({e0 with key:=key}:MapEntry)=e0:=(by rw[<-h3]);rw[this];exact set_self _ _ _ h2
  have hm:(Instr.mapEntry t (.map (some b)) key).run P w = .ok (.tuple #[e0.val,goInt e0.born]) (setBlock w b (.map es bA)):=by
   simp[Instr.mapEntry,run_underlying ht,MapKept.run_getObj_map hb,K0.check w false aA,h1,hj,h3,K0.stays w aA,iA,MapKept.run_setObj_map _ hb,Result.andThen,setBlock]
  rw[cA,zM9 hb]at hm;obtain rfl:ww=w:=mA.trans (Result.ok.inj hm).2;exact hl
theorem zMp (W : zB) (m : zHh) : (zAt W m).length <= 73 := by
  unfold zAt zCI zBn;exact Nat.le_trans (List.length_filter_le _ _) (qc _ _ _)
theorem zNq (W : zB) : ∀ k, (zg W k).length <= 73 * k
  | 0 => by simp[zg]
  | k + 1 => by
    have h1 := zNq W k;have h2 := zMp W (zI W k);unfold zg;rw[List.length_append];omega
theorem zNr (W : zB) {k : Nat} : ∀ {n : Nat}, k <= n -> ∃ l, zg W n = zg W k ++ l
  | 0, h => ⟨[], by obtain rfl : k = 0 := by omega
                    simp⟩
  | n + 1, h => by
    by_cases e : k = n + 1
    · subst e;exact ⟨[], by simp⟩
    · obtain ⟨l, hl⟩ := zNr W (k := k) (n := n) (by omega)
      exact ⟨l ++ zAt W (zI W n), by rw[show zg W (n + 1) = zg W n ++ zAt W (zI W n) from rfl, hl, List.append_assoc]⟩
theorem zWF (W : zB) {k n j : Nat} (hk : k < n) (hj : j < (zAt W (zI W k)).length) : (zg W k).length + j < (zg W n).length /\ (zg W n).getD ((zg W k).length + j) (0, 0) = (zAt W (zI W k)).getD j (0, 0) := by
  obtain ⟨l, hl⟩ := zNr W (k := k + 1) (n := n) (by omega);rw[hl, show zg W (k + 1) = zg W k ++ zAt W (zI W k) from rfl];constructor
  · simp only[List.length_append];omega
  · rw[List.getD_eq_getElem?_getD, List.getD_eq_getElem?_getD, List.append_assoc, List.getElem?_append_right (by omega), show (zg W k).length + j - (zg W k).length = j by omega, List.getElem?_append_left hj]
def zQ9 (x : Int × Int) : Value := .agg #[.int .i64 x.1, .int .i64 x.2]
/-- The keys of the homes, one behind the other. -/
structure zBj (W : zB) (key : Nat -> Lit) : Prop where
  ok : zFC key
  at_ : ∀ i, i < (zg W (zj W)).length -> keyOf Tryz.prog 44 (zQ9 ((zg W (zj W)).getD i (0, 0))) = some (key i)
theorem zOz {W : zB} (hR : zf W.pool) (hT : ∀ i, i < zj W -> zW W.pool (zI W i).rs (zI W i).rb) {x : Int × Int} (hx : x ∈ zg W (zj W)) : yF W.pool x.1 x.2 := by
  obtain ⟨i, hi, h⟩ := zFZ.1 hx;unfold zAt zCI zBn at h;exact (zB6 hR (hT i hi) (List.mem_filter.1 h).1).1
theorem zV9 {l : List (Int × Int)} {i : Nat} (h : i < l.length) : l.getD i (0, 0) ∈ l := by
  rw[List.getD_eq_getElem?_getD, List.getElem?_eq_getElem h, Option.getD_some];exact List.getElem_mem h
theorem zUh {W : zB} (hR : zf W.pool) (hT : ∀ i, i < zj W -> zW W.pool (zI W i).rs (zI W i).rb) : ∃ key, zBj W key := by
  have aA : ∀ i, ∃ l, WideAt.IsKeyLit l /\ (i < (zg W (zj W)).length -> keyOf Tryz.prog 44 (zQ9 ((zg W (zj W)).getD i (0, 0))) = some l) := fun i => by
    by_cases bA : i < (zg W (zj W)).length
    · have hp := zOz hR hT (zV9 bA)
      generalize (zg W (zj W)).getD i (0, 0) = x at hp ⊢;have hf := (zAT hR hp).1;have cA := hR.1;obtain ⟨h1, h2, h3, h4⟩ := hp;rw[h4]at hf;obtain ⟨f1, f2⟩ := hf;obtain ⟨l, hl⟩ := zO3 (x := x.1) (y := x.2) (WalkArith.wf_i64 (by omega)) (WalkArith.wf_i64 (by omega));exact ⟨l, zUp.key hl, fun _ => hl⟩
    · exact ⟨.string [], trivial, fun h => absurd h bA⟩
  exact ⟨fun i => (aA i).choose, fun i => (aA i).choose_spec.1, fun i => (aA i).choose_spec.2⟩
theorem zU6 {x y : Int × Int} (h : zQ9 x = zQ9 y) : x = y := by
  unfold zQ9 at h;simp only[Value.agg.injEq, Array.mk.injEq, List.cons.injEq, Value.int.injEq, true_and, and_true]at h;exact Prod.ext h.1 h.2
theorem zBj.same {W : zB} {key : Nat -> Lit} (h : zBj W key) {i j : Nat} (hi : i < (zg W (zj W)).length) (hj : j < (zg W (zj W)).length) : key i = key j ↔ (zg W (zj W)).getD i (0, 0) = (zg W (zj W)).getD j (0, 0) := by
  have h1 := h.at_ i hi;have h2 := h.at_ j hj;constructor
  · intro e
    rw[e]at h1;exact zU6 (zUp.inj h1 h2)
  · intro e
    rw[e, h2]at h1;exact (Option.some.inj h1).symm
theorem zBj.dist {W : zB} {key : Nat -> Lit} (h : zBj W key) : zIR (zg W (zj W)).length key ↔ (zg W (zj W)).Nodup := by
  rw[List.Nodup, List.pairwise_iff_getElem];have hg : ∀ i (hi : i < (zg W (zj W)).length), (zg W (zj W)).getD i (0, 0) = (zg W (zj W))[i] := fun i hi => by rw[List.getD_eq_getElem?_getD, List.getElem?_eq_getElem hi, Option.getD_some]
  constructor
  · intro hd i j hi hj aA e
    refine hd j hj i aA ((h.same hi hj).2 ?_);rw[hg i hi, hg j hj];exact e
  · intro hd i hi k hk e
    have := (h.same (by omega) hi).1 e;rw[hg k (by omega), hg i hi]at this;exact hd k i (by omega) hi hk this
/-- The map behind the first p homes. -/
def zNo (key : Nat -> Lit) (p : Nat) : DataW Value := putD key (fun _ => .int .i64 1) p
theorem zBj.new {W : zB} {key : Nat -> Lit} {p : Nat} (hn : ∀ i, i < p -> key i ≠ key p) (h : zBj W key) : (zNo key p).atKey (key p) (.held (.int .i64 0)) = .held (.int .i64 0) := zHY h.ok _ hn _
theorem zBj.old {W : zB} {key : Nat -> Lit} {p i : Nat} (hi : i < p) (he : key i = key p) (hd : zIR p key) (h : zBj W key) : (zNo key p).atKey (key p) (.held (.int .i64 0)) = .held (.int .i64 1) := by
  rw[<- he];exact zKs h.ok _ _ p i hi (fun j h1 h2 e => hd j h2 i h1 e.symm)
theorem zBj.put {W : zB} {key : Nat -> Lit} (h : zBj W key) (p : Nat) (v : Value) : ((zNo key p).put (key p) (.held v)).atKey (key p) (.held (.int .i64 0)) = .held v := atKey_put_same (zEX h.ok _ p).isMap (h.ok p) _ _
theorem zBj.not_nodup {W : zB} {key : Nat -> Lit} {p i : Nat} (hi : i < p) (hp : p < (zg W (zj W)).length) (he : key i = key p) (h : zBj W key) : ¬ (zg W (zj W)).Nodup := fun hn => h.dist.2 hn p hp i hi he
theorem zBj.size {W : zB} {key : Nat -> Lit} (h : zBj W key) {p : Nat} (hd : zIR p key) : Maps.size (zNo key p) = p := (zJh h.ok _ p).2.2 hd
theorem zFW(v0 v1:Value)(lo hi:Nat)(p:zF)(w:World)(h1:zEE w lo hi v0 v1 p) :
  Calls Tryz.prog 19 #[.agg #[v0,v1]] w fun e w'=>e = .returned (.int .i64 (zGZ p))/\Below w.heap.size w w':=by
 have Hp:Hid (zEE w lo hi v0 v1 p):=h1;obtain⟨⟨m1,a,c,rfl,mc,g1⟩,⟨m2,a',c',rfl,kA,g2⟩⟩:=h1;unfold maxLen at m1 m2;clear g1 g2;have ha:=zD w (.cells #[.slice a p.n c,.slice a' p.hn c'] 26);go_enter Tryz.func19,Tryz.ntmps19;go_wp2_with fail;refine(zE1 _ _ lo hi p _ (Hp.out.zbd ha)).mono ?_;rintro e w1 ⟨⟨t,rfl,ht⟩,aA⟩;have Hx:Hid (yG w1 w.heap.size (.slice a p.n c) (.slice a' p.hn c')):=(yG.new w _ _ _).zbd aA;have cA:=zA ha aA;clear ha aA;by_cases hR:zf p
 ·obtain rfl:t=true:=ht.2 hR;have HR:Hid (zf p):=hR;have eA:(p.n:Int)<=200:=(by have:=hR.1;omega);clear ht hR;obtain⟨⟨y0,y1⟩,⟨y2,y3⟩⟩:=Hx.out;have fA:Hid (zGZ p=(roomN p.s p.n:Int)):=if_pos HR.out;have HB:Hid (Below w.heap.size w w1):=cA;go_wp2;clear y0 y1 y2 y3 cA
  go_loopw [3,12] (fun m i wr=>∃k:Nat,k<=p.n/\i = .int .i64 k/\m = .int .i64 (roomN p.s k:Int)/\Below w.heap.size w wr) (fun _ i _=>p.n - (intOf i).toNat)
  case atStart=>exact⟨0,Nat.zero_le _,rfl,rfl,HB.out⟩
  case round=>
   obtain⟨k,hk,rfl,rfl,hb⟩:=hrel;have jA:=zI4 p.s k;by_cases gA:k<p.n
   ·have iA:(k:Int)<(p.n:Int):=(by omega);obtain⟨b,off,ka,kc,rfl,hs⟩:=(Hp.out.1.zbd hb).cells gA;have Hs:Hid (zDf wr b (off+k*3) lo hi ka kc (p.s k)):=hs;obtain⟨q0,q1,q2,_⟩:=hs;go_wp2_with fail;have bA:=zD wr (.cells #[.int .i64 (p.s k).birth,.slice ka (p.s k).kn kc,.string (p.s k).data] 48);refine(zF9 _ _ _ lo hi (p.s k) _ (Hs.out.slot.zbd bA)).mono ?_;rintro e w2 ⟨⟨t,rfl,ht⟩,aA⟩;have dA:=zA hb (zA bA aA);clear aA q0 q1 q2 Hs bA;by_cases hf:yZ (p.s k)
    ·obtain rfl:t=true:=ht.2 hf;have HF:Hid (yZ (p.s k)):=hf;clear ht hf;go_wp2;go_roundw
     case rel=>exact⟨k+1,by omega,by go_num,congrArg (Value.int .i64) (by rw[zDs HF.out];omega),dA⟩
     case measure=>simp[intOf];omega
    ·obtain rfl:t=false:=zAR ht hf;have HF:Hid (¬yZ (p.s k)):=hf;clear ht hf;go_wp2;go_roundw
     case rel=>exact⟨k+1,by omega,by go_num,congrArg (Value.int .i64) (by rw[zEA HF.out]),dA⟩
     case measure=>simp[intOf];omega
   ·obtain rfl:k=p.n:=(by omega);go_wp2;go_ret;exact⟨by rw[fA.out];rfl,hb⟩
 ·obtain rfl:t=false:=zAR ht hR;have HR:Hid (¬zf p):=hR;clear ht hR;go_wp2;go_ret;refine⟨?_,cA⟩;have e:zGZ p=0:=if_neg HR.out;rw[e];rfl
theorem zDl{P:Program}{k:TypeId}{w w1:World}{M n g o:Nat}{D:DataW Value}{v:Value}(hg:w.grownBy w1 (some M))(hm:w.ownsMap P k zCz M n D)(h:w.cell? ⟨g,o,none⟩=some v):w1.cell? ⟨g,o,none⟩=some v:=by
 refine(hg.cell_far ⟨g,o,none⟩ (zO h) ?_).trans h;intro e;simp only[Option.some.injEq]at e;subst e;obtain⟨es,aA,hb,-⟩:=hm;simp[World.cell?,hb]at h
theorem zC9{w w1 w2:World}{row:Option Nat}(h:w.grownBy w1 row)(k:w1.grownBy w2 row):w.grownBy w2 row:=
 ⟨k.os.trans h.os,k.tape.trans h.tape,k.output.trans h.output,Nat.le_trans h.size k.size,fun i hi aA=>(k.block i (Nat.lt_of_lt_of_le hi h.size) aA).trans (h.block i hi aA)⟩
theorem zHz.side{P:Program}{kt:TypeId}{w w1:World}{M n lo hi:Nat}{D:DataW Value}{v:Value}{W:zB}{vd:Nat->Value}(h:zHz w lo hi v W vd)(hg:w.grownBy w1 (some M))(hm:w.ownsMap P kt zCz M n D)(i:Nat)(aA:i<zj W) :
  ∃g c,v = .slice (some ⟨g,0,none⟩) (zj W) c/\w1.cell? ⟨g,i*5,none⟩=some (.int .i64 (zI W i).zbi)/\w1.cell? ⟨g,i*5+1,none⟩=some (.int .i64 (zI W i).time)/\w1.cell? ⟨g,i*5+2,none⟩=some (.int .i64 (zI W i).rs)/\w1.cell? ⟨g,i*5+3,none⟩=some (.int .i64 (zI W i).rb)/\w1.cell? ⟨g,i*5+4,none⟩=some (vd i):=by
 obtain⟨g,c,e,h0,h1,h2,h3,h4⟩:=h.cells i aA;exact⟨g,c,e,zDl hg hm h0,zDl hg hm h1,zDl hg hm h2,zDl hg hm h3,zDl hg hm h4⟩
theorem zAb.side{w w1:World}{M b:Nat}{a0 a1 a2 a3 a4 a5:Value}(h:zAb w b a0 a1 a2 a3 a4 a5)(hg:w.grownBy w1 (some M))(aA:b≠M):zAb w1 b a0 a1 a2 a3 a4 a5:=by
 obtain⟨h0,h1,h2,h3,h4,h5⟩:=h;have hc:∀{o:Nat} {v:Value},yT w b o v->yT w1 b o v:=fun hc=>⟨(hg.cell_far _ (zO hc.1) (fun e=>aA (Option.some.inj e))).trans hc.1,(hg.frozen_far _ (zO hc.1) (fun e=>aA (Option.some.inj e))).trans hc.2⟩
 exact⟨hc h0,hc h1,hc h2,hc h3,hc h4,hc h5⟩
theorem zR8(v:Value)(s:yY)(w:World):(Instr.field 50 (zCX v s) 4).run Tryz.prog w = .ok (.int .i64 s.time) w:=by kernel_rfl
theorem zWV:Go.WideMaps.KeyLaw Tryz.prog 44:=deep_law_laid zWU (m:=5) (by decide) (zWX (by kernel_rfl)) (by kernel_rfl) (by kernel_rfl)
theorem zJW:Tryz.prog.underlying 98=some (.map 44 2):=by kernel_rfl
theorem zUI(w:World):(zeroValue 2).run Tryz.prog w = .ok (.int .i64 0) w:=by kernel_rfl
theorem zIN{n:Int}(h0:-9223372036854775808<=n)(h1:n<9223372036854775808):IntKind.i64.wrap n=n:=by
 unfold IntKind.wrap;simp only[IntKind.signed,IntKind.bits,Bool.true_and];split
 ·rename_i hc
  have aA:=of_decide_eq_true hc;omega
 ·rename_i hc
  have aA:=of_decide_eq_false (Bool.eq_false_iff.2 hc);omega
theorem zSD{N n r h:Nat}(hr:r<=n)(hn:n<=200)(hh:h<=9223372036854775807):((N:Int) == IntKind.i64.wrap (IntKind.i64.wrap ((n:Int) - (r:Int)) - (h:Int)))=true↔N+r+h=n:=by
 have e1:IntKind.i64.wrap ((n:Int) - (r:Int))=(n:Int) - (r:Int):=zIN (by omega) (by omega);rw[e1];have e2:IntKind.i64.wrap ((n:Int) - (r:Int) - (h:Int))=(n:Int) - (r:Int) - (h:Int):=zIN (by omega) (by omega);rw[e2,beq_iff_eq];omega
theorem zIl{w:World}{b n:Nat}{D:DataW Value}{ky v:Value}{kl:Lit}(h:w.ownsMap Tryz.prog 44 zCz b n D)(aA:keyOf Tryz.prog 44 ky=some kl)(cA:D.atKey kl (.held (.int .i64 0)) = .held v):(Instr.lookup 98 (.map (some b)) ky false).run Tryz.prog w = .ok v w:=by
 obtain⟨v',ps,bA,hv⟩:=h.lookup zUp zJW (zUI w) (zCu _) aA;have e1:=zD8 hv;rw[cA]at e1;obtain rfl:=DataW.held.inj e1;exact bA
theorem zLk(v0 v1 v2 v3:Value)(lo hi:Nat)(W:zB)(A:Nat)(w:World)(h:ye w lo hi v0 v1 v2 v3 W)(hs:W.sn<=8)(hp:W.pn<=20)(hA:zDK w lo hi W A)(hD:zEK W)(cE:zDN W)(hR:zf W.pool)(hT:zOh W)(tC:∀i,i<zj W->zW W.pool (zI W i).rs (zI W i).rb) :
  Calls Tryz.prog 34 #[zAY v0 v1 v2 v3 W,zJM A] w fun e w'=>zJ (zIU W) e/\Below w.heap.size w w':=by
 obtain⟨key,hK⟩:=zUh hR tC;have HK:=zC hK;have Hp:=zC h;have HA:=zC hA;have HD:=zC hD;have oE:=zC cE;have HR:=zC hR;have gE:=zC hT;have iE:=zC tC;clear h hA hD cE hR hT tC hK;have ha:=zD w (.cells #[v0,v1,.int .i64 W.time,.int .i64 W.next,v2,v3] 30);have HB:=zC (zAb.new w v0 v1 (.int .i64 W.time) (.int .i64 W.next) v2 v3 30);have iD:(w.alloc (.cells #[v0,v1,.int .i64 W.time,.int .i64 W.next,v2,v3] 30)).heap.size=w.heap.size+1:=World.size_alloc _ _;have hm:=World.ownsMap_made (w.alloc (.cells #[v0,v1,.int .i64 W.time,.int .i64 W.next,v2,v3] 30)) Tryz.prog 44 zCz;rw[iD]at hm;have HM:=zC hm;have rB:=zC (HB.out.zbd (zD _ (.map #[] 0)));have sB:=zC (zA ha (zD _ (.map #[] 0)));have pF:=@run_makeMap Tryz.prog;obtain⟨x0,x2,x4,x6,x8,iF⟩:=rB.out.c;clear hm;go_enter Tryz.func34,Tryz.ntmps34;go_wp2_with fail;go_step3;go_wp2_with fail;go_step3;go_wp2_with fail;clear x0 x2 x4 x6 x8 iF ha HB;have sC:=zC (show((w.alloc (.cells #[v0,v1,.int .i64 W.time,.int .i64 W.next,v2,v3] 30)).alloc (.map #[] 0)).heap.size=w.heap.size+2 by rw[World.size_alloc,iD]);clear iD;generalize (w.alloc (.cells #[v0,v1,.int .i64 W.time,.int .i64 W.next,v2,v3] 30)).alloc (.map #[] 0)=W0 at HM rB sB sC ⊢;refine(zFG v0 v1 v2 v3 lo hi W W0 (Hp.out.zbd sB.out) hs hp).mono ?_;rintro e w1 ⟨vm,vd,rfl,hm,jB⟩;have kD:=zC hm;have lD:=zC (rB.out.zbd jB);have jD:=zC (HM.out.kept (zCS jB none) (by simp));have sE:=zA sB.out jB;have hz:w.heap.size+2<=w1.heap.size:=by have h1:=jB.size;have h2:=sC.out;omega
 obtain⟨am,cm,rfl,mF⟩:=id hm.form;have rF:zj W<=28:=by unfold zj;omega
 clear jB hm rB sB HM sC;go_wp2
 go_loopw [6,15] (fun s i wr=>∃k:Nat,k<=zj W/\s = .bool true/\i = .int .i64 k/\wr.ownsMap Tryz.prog 44 zCz (w.heap.size+1) (zg W k).length (zNo key (zg W k).length)/\zIR (zg W k).length key/\w1.grownBy wr (some (w.heap.size+1))/\Below w.heap.size w wr) (fun _ i _=>zj W - (intOf i).toNat)
 case atStart=>exact⟨0,Nat.zero_le _,rfl,rfl,jD.out,fun i hi=>absurd hi (Nat.not_lt_zero _),World.grownBy.refl _ _,sE⟩
 case round=>
  obtain⟨k,hk,rfl,rfl,lA,tA,lB,hb⟩:=hrel;have bA:=zC lA;have gA:=zC tA;have fA:=zC lB;clear lA tA lB;by_cases nB:k<zj W;rotate_left
  ·obtain rfl:k=zj W:=(by omega);obtain⟨⟨m0,a0,c0,rfl,bG,-⟩,⟨m1,a1,c1,rfl,cG,-⟩⟩:=id Hp.out.pool;have gD:=HK.out.size gA.out;have tD:=(bA.out.kept (zCS ((Below.refl _ _).drew) none) (by simp)).len zJW 3;rw[gD]at tD;have nE:=zC gD;clear gD;have vA:=zI4 W.pool.s W.pool.n;have iB:=HR.out.1;unfold maxLen at m0 m1;have mA:=zC (lD.out.side fA.out (by omega));obtain⟨x0,x1,x2,x3,x4,x5⟩:=mA.out.c;have eE:=zC (HK.out.dist.1 gA.out);have fF:zGZ W.pool=(roomN W.pool.s W.pool.n:Int):=if_pos HR.out;generalize hN:(zg W (zj W)).length=N at *;have HN:=zC hN;clear hN;go_wp2_with fail;go_region_held3 (fun w'=>w'.cell? ⟨w.heap.size,0,none⟩=some (.slice a0 W.pool.n c0)/\w'.cell? ⟨w.heap.size,1,none⟩=some (.slice a1 W.pool.hn c1)/\(Builtin.len_ #[98] 3 #[.map (some (w.heap.size+1))]).run Tryz.prog w' = .ok (.int .i64 (N:Nat)) w') (go_keep)
    (first
     | (go_at_call 19;refine(zFW _ _ lo hi W.pool _ ((Hp.out.zbd hb).pool.zbd (Below.refl _ _).drew)).mono ?_;rintro e w5 ⟨rfl,bC⟩;have rA:=qW bC;obtain⟨⟨k0,_⟩,⟨k1,_⟩,_⟩:=mA.out.zbd rA;have sD:=(bA.out.kept (zCS rA none) (by simp)).len zJW 3;rw[nE.out]at sD))
   have oB:=zSD (N:=N) vA iB (by omega:W.pool.hn<=9223372036854775807);have oC:=zC oB;have tE:=zA hb rA;clear oB tD sD fF vA iB;go_wp2
   try rw[Exit.noGoto_ret]
   go_ret;refine⟨⟨_,rfl,?_⟩,tE⟩;rw[oC.out];unfold zIU;rw[HN.out];exact⟨fun hx=>⟨eE.out,hx⟩,fun hx=>hx.2⟩
  have dF:(k:Int)<(zj W:Int):=(by omega);obtain⟨g,cg,e,q0,q1,q2,q3,q4⟩:=kD.out.side fA.out jD.out k nB;obtain⟨-,ad,cd,bE,-,-⟩:=id (kD.out.dead k nB);rw[bE]at q4;cases e;have nA:=zD wr (.cells #[.int .i64 (zI W k).zbi,.int .i64 (zI W k).time,.int .i64 (zI W k).rs,.int .i64 (zI W k).rb,.slice ad (zI W k).dn cd] 95);have HV:=zC (zGf.new wr (.int .i64 (zI W k).zbi) (.int .i64 (zI W k).time) (.int .i64 (zI W k).rs) (.int .i64 (zI W k).rb) (.slice ad (zI W k).dn cd) 95);have mA:=zC ((lD.out.side fA.out (by omega)).zbd nA);have aC:=zA hb nA;have iA:=zC (bA.out.kept (zCS nA none) (by simp));have pA:=zC (zC9 fA.out (zCS nA (some (w.heap.size+1))));have fC:=zC (HA.out.zbd aC);have nC:=zC (Hp.out.zbd aC);have pE:=zC (oE.out k nB);have jC:=zC (iE.out k nB);have pC:=zC (gE.out (zI W k).zbi);have rC:=zC (show zAt W (zI W k)=zCI (zH W.pool (zI W k).rs (zI W k).rb) (zE W (zI W k).zbi).time from rfl);have fB:=zC (show(zg W (k+1)).length=(zg W k).length+(zAt W (zI W k)).length from List.length_append);have jE:=zC (fun (j:Nat) (hj:j<(zAt W (zI W k)).length)=>zWF W (k:=k) (n:=zj W) nB hj);have rE:=zC (zMp W (zI W k));have lE:=zC (zNq W k);clear bE nA fA bA;generalize zI W k=mk at *;go_wp2_with fail;clear q0 q1 q2 q3 q4;have aB:=zC (show w.heap.size+2<=(wr.alloc (.cells #[.int .i64 mk.zbi,.int .i64 mk.time,.int .i64 mk.rs,.int .i64 mk.rb,.slice ad mk.dn cd] 95)).heap.size from Nat.le_trans hz pA.out.size);generalize wr.alloc (.cells #[.int .i64 mk.zbi,.int .i64 mk.time,.int .i64 mk.rs,.int .i64 mk.rb,.slice ad mk.dn cd] 95)=W2 at HV mA fC nC aC iA pA aB ⊢;generalize wr.heap.size=V at HV ⊢;obtain⟨⟨y0,-⟩,⟨y1,-⟩,⟨y2,-⟩,⟨y3,-⟩,⟨y4,-⟩⟩:=HV.out;obtain⟨x0,x1,x2,x3,x4,x5⟩:=mA.out.c;have gF:=qc W.pool mk.rs mk.rb;have iC:=zC (show zAs (zH W.pool mk.rs mk.rb).length (zi (zH W.pool mk.rs mk.rb)) (zu (zH W.pool mk.rs mk.rb))from zDH HR.out (fun x hx=>(zB6 HR.out jC.out hx).1) (zCo HR.out jC.out) (by omega));have vE:=zF4;have aF:=zR8;generalize nD:zE W mk.zbi=S at pC rC ⊢;have dE:=zC nD;clear nD;generalize oD:zH W.pool mk.rs mk.rb=tree at iC gF rC ⊢;have fE:=zC oD;clear oD;go_region_held3 (fun w'=>w'.cell? ⟨w.heap.size,0,none⟩=some v0/\w'.cell? ⟨w.heap.size,1,none⟩=some v1/\w'.cell? ⟨w.heap.size,2,none⟩=some (.int .i64 W.time)/\w'.cell? ⟨w.heap.size,3,none⟩=some (.int .i64 W.next)/\w'.cell? ⟨w.heap.size,4,none⟩=some v2/\w'.cell? ⟨w.heap.size,5,none⟩=some v3/\w'.cell? ⟨V,0,none⟩=some (.int .i64 mk.zbi)/\w'.cell? ⟨V,2,none⟩=some (.int .i64 mk.rs)/\w'.cell? ⟨V,3,none⟩=some (.int .i64 mk.rb)) (go_keep)
   (first
    | (go_at_call 72;refine(zDr v0 v1 v2 v3 lo hi W mk.rs mk.rb _ ?_ HR.out jC.out).mono ?_;(exact nC.out.zbd (Below.refl _ _).drew);rintro e w5 ⟨vt,rfl,eC,bC⟩;rw[fE.out]at eC;obtain⟨kF,lF,rfl,-⟩:=qo eC;have rA:=qW bC;obtain⟨⟨k0,_⟩,⟨k1,_⟩,⟨k2,_⟩,⟨k3,_⟩,⟨k4,_⟩,⟨k5,_⟩⟩:=mA.out.zbd rA;obtain⟨⟨l0,_⟩,_,⟨l2,_⟩,⟨l3,_⟩,_⟩:=HV.out.zbd rA)
    | (go_at_call 66;refine(zCq lo hi W A mk.zbi _ (fC.out.zbd rA) HD.out pE.out hp).mono ?_;rintro e w6 ⟨aa,ca,rfl,eF,vC⟩;rw[dE.out];have vB:=zA rA vC;obtain⟨⟨f0,_⟩,⟨f1,_⟩,⟨f2,_⟩,⟨f3,_⟩,⟨f4,_⟩,⟨f5,_⟩⟩:=mA.out.zbd vB;obtain⟨⟨g0,_⟩,_,⟨g2,_⟩,⟨g3,_⟩,_⟩:=HV.out.zbd vB)
    | (go_at_call 71;refine(zDy _ tree.length 0 _ (zi tree) (zu tree) S.time _ ((eC.zbd vC).atW (by omega))).mono ?_;rintro e w7 ⟨vy,vz,ly,lz,rfl,hY,-,hy,-,-,pD⟩;rw[(hY.1 ⟨iC.out,pC.out⟩).trans (zJG tree S.time)]at hy;rw[<-rC.out]at hy;obtain⟨ay,cy,rfl,nF⟩:=qo hy;have sA:=zA vB pD;obtain⟨⟨m0,_⟩,⟨m1,_⟩,⟨m2,_⟩,⟨m3,_⟩,⟨m4,_⟩,⟨m5,_⟩⟩:=mA.out.zbd sA;obtain⟨⟨n0,_⟩,_,⟨n2,_⟩,⟨n3,_⟩,_⟩:=HV.out.zbd sA))
  have HY:=zC hy;have jA:=zC (iA.out.kept (zCS sA none) (by simp));have kC:=zC (zC9 pA.out (zCS sA (some (w.heap.size+1))));have jF:=zC (mA.out.zbd sA);have bB:=zA aC sA;have aG:w.heap.size+2<=w7.heap.size:=Nat.le_trans aB.out sA.size;have vF:=rE.out;have oF:=lE.out;clear hy sA pD vB vC rA bC eC eF hY mA HV fC nC iA pA aB iC pC vE aF x0 x1 x2 x3 x4 x5 y0 y1 y2 y3 y4 k0 k1 k2 k3 k4 k5 l0 l2 l3 f0 f1 f2 f3 f4 f5 g0 g2 g3 m0 m1 m2 m3 m4 m5 n0 n2 n3;generalize tF:zAt W mk=yl at *;go_wp2_with fail
  go_loopw [6,31] (fun s i wr=>∃j:Nat,j<=yl.length/\s = .bool true/\i = .int .i64 j/\wr.ownsMap Tryz.prog 44 zCz (w.heap.size+1) ((zg W k).length+j) (zNo key ((zg W k).length+j))/\zIR ((zg W k).length+j) key/\w7.grownBy wr (some (w.heap.size+1))/\Below w.heap.size w wr) (fun _ i _=>yl.length - (intOf i).toNat)
  case atStart=>exact⟨0,Nat.zero_le _,rfl,rfl,jA.out,gA.out,World.grownBy.refl _ _,bB⟩
  case round=>
   clear bB;obtain⟨j,hj,rfl,rfl,lA,rD,lB,bB⟩:=hrel;have bA:=zC lA;have tB:=zC rD;have fA:=zC lB;clear lA rD lB;by_cases cD:j<yl.length;rotate_left
   ·obtain rfl:j=yl.length:=(by omega);go_wp2;go_roundw
    case rel=>
     refine⟨k+1,by omega,rfl,by go_num,?_,?_,zC9 kC.out fA.out,bB⟩
     ·rw[fB.out];exact bA.out
     ·rw[fB.out];exact tB.out
    case measure=>simp[intOf];omega
   have bF:(j:Int)<(yl.length:Int):=(by omega);obtain⟨-,a7,c7,e7,-,kB⟩:=id (HY.out.atW (by omega));cases e7;obtain⟨b7,o7,rfl,-,-,kB⟩:=kB (by omega);have q0:=zDl fA.out jA.out (kB j cD).1;have q1:=zDl fA.out jA.out (kB j cD).2;clear kB;obtain⟨fD,vD⟩:=jE.out j cD;have mB:keyOf Tryz.prog 44 (.agg #[.int .i64 (zi yl j),.int .i64 (zu yl j)])=some (key ((zg W k).length+j)):=by
    have:=HK.out.at_ _ fD;rw[vD]at this;exact this
   have mE:=zC fD;have dA:=zC mB;clear vD fD mB;have nA:=zD wr (.cells #[.int .i64 (zi yl j),.int .i64 (zu yl j)] 44);have HV:=zC (yG.new wr (.int .i64 (zi yl j)) (.int .i64 (zu yl j)) 44);have cA:=zC ((bA.out.kept (zCS nA none) (by simp)).kept (zCS ((Below.refl _ _).drew) none) (by simp));have eB:=zC (zC9 fA.out (zCS nA (some (w.heap.size+1))));have cB:=zA bB nA;have kA:=zC (show w.heap.size+1<wr.heap.size by have:=fA.out.size;omega);clear nA fA bA;have sF:(zg W k).length+j<=3000:=(by omega);generalize aE:(zg W k).length+j=p at *;have mD:=zC aE;clear aE;generalize zi yl j=xs at *;generalize zu yl j=xb at *;go_wp2_with fail;clear q0 q1;generalize wr.alloc (.cells #[.int .i64 xs,.int .i64 xb] 44)=W3 at HV cA eB cB ⊢;generalize wr.heap.size=V at HV kA ⊢;by_cases eA:∀i,i<p->key i≠key p
   ·have dD:=zIl cA.out dA.out (HK.out.new eA);obtain⟨ev,st,wa,wb,he,eD,pB,aA,bD,oA⟩:=zJT cA.out zWV zJW (by unfold maxLen;omega) zUI dA.out (HK.out.new eA) (val:=.int .i64 1);obtain⟨⟨y0,-⟩,⟨y1,-⟩⟩:=HV.out.zbd ((Below.refl _ _).drew);have z0:=(oA.cell_far _ (zO y0) (fun e=>by have h1:=Option.some.inj e;have h2:=kA.out;simp only at h1;omega)).trans y0;have z1:=(oA.cell_far _ (zO y1) (fun e=>by have h1:=Option.some.inj e;have h2:=kA.out;simp only at h1;omega)).trans y1;have cF:=zIl aA dA.out (HK.out.put p _);have gB:=zC aA;have kE:=zC (zC9 (zC9 eB.out (zCS ((Below.refl _ _).drew) (some (w.heap.size+1)))) oA);have aD:=cB.drew.grown oA (Nat.le_trans cB.size (Nat.le_refl _)) (fun q e=>by cases e;omega);have lC:=zC eA;clear aA bD oA eA cB bB;unfold goInt at he pB;go_region;clear dD eD he pB y0 y1;go_wp2;go_roundw
    case rel=>exact⟨j+1,by omega,rfl,by go_num,by rw[show(zg W k).length+(j+1)=p+1 by have:=mD.out;omega];exact gB.out,by rw[show(zg W k).length+(j+1)=p+1 by have:=mD.out;omega];exact zH5.2 ⟨tB.out,lC.out⟩,kE.out,aD⟩
    case measure=>simp[intOf];omega
   ·obtain⟨i0,dC,cC⟩:∃i,i<p/\key i=key p:=by
     by_cases hx:∃i,i<p/\key i=key p
     ·exact hx
     ·exact absurd (fun i hi e=>hx ⟨i,hi,e⟩) eA
    have mC:=zC (HK.out.not_nodup dC mE.out cC);have dD:=zIl cA.out dA.out (HK.out.old dC cC tB.out);obtain⟨ev,st,wa,wb,he,eD,pB,aA,bD,oA⟩:=zJT cA.out zWV zJW (by unfold maxLen;omega) zUI dA.out (HK.out.old dC cC tB.out) (val:=.int .i64 2);obtain⟨⟨y0,-⟩,⟨y1,-⟩⟩:=HV.out.zbd ((Below.refl _ _).drew);have z0:=(oA.cell_far _ (zO y0) (fun e=>by have h1:=Option.some.inj e;have h2:=kA.out;simp only at h1;omega)).trans y0;have z1:=(oA.cell_far _ (zO y1) (fun e=>by have h1:=Option.some.inj e;have h2:=kA.out;simp only at h1;omega)).trans y1;have cF:=zIl aA dA.out (HK.out.put p _);have aD:=cB.drew.grown oA (Nat.le_trans cB.size (Nat.le_refl _)) (fun q e=>by cases e;omega);clear aA bD oA eA cB bB dC cC;unfold goInt at he pB;go_region;clear dD eD he pB y0 y1;go_wp2_with fail;go_region;go_wp2;rw[Exit.noGoto_ret];go_ret;exact⟨zJ.no fun hx=>mC.out hx.1,aD.drew⟩
theorem zA6(v0 v1 v2 v3:Value)(lo hi:Nat)(W:zB)(w:World)(h:ye w lo hi v0 v1 v2 v3 W)(aB:zDN W) :
  Calls Tryz.prog 7 #[zAY v0 v1 v2 v3 W] w fun e w'=>zJ (zGg W) e/\Below w.heap.size w w':=by
 have Hp:=zC h;have cA:=zC aB;clear h aB;have ha:=zD w (.cells #[v0,v1,.int .i64 W.time,.int .i64 W.next,v2,v3] 30);have HB:=zC (zAb.new w v0 v1 (.int .i64 W.time) (.int .i64 W.next) v2 v3 30);obtain⟨x0,x1,x2,x3,x4,x5⟩:=HB.out.c;go_enter Tryz.func7,Tryz.ntmps7;go_wp2_with fail;generalize w.alloc (.cells #[v0,v1,.int .i64 W.time,.int .i64 W.next,v2,v3] 30)=W0 at ha HB x0 x1 x2 x3 x4 x5 ⊢;refine(zGp W.time W0).mono ?_;rintro e w1 ⟨⟨t1,rfl,bA⟩,rfl⟩;have aA:=zC bA;clear bA;cases t1
 ·have Hn:=zC (show ¬zGg W from fun hI=>absurd (aA.out.2 hI.zbj.time) (by simp));clear aA;go_wp2;go_ret;exact⟨zJ.no Hn.out,ha⟩
 have H1:=zC (aA.out.1 rfl);clear aA;go_wp2_with fail;refine(zGp W.next _).mono ?_;rintro e w1 ⟨⟨t1,rfl,bA⟩,rfl⟩;have aA:=zC bA;clear bA;cases t1
 ·have Hn:=zC (show ¬zGg W from fun hI=>absurd (aA.out.2 hI.zbj.next) (by simp));clear aA;go_wp2;go_ret;exact⟨zJ.no Hn.out,ha⟩
 have H2:=zC (aA.out.1 rfl);clear aA;go_wp2_with fail;refine(zNA v2 W.sn lo hi W.zbh _ (Hp.out.zbd ha).zbh).mono ?_;rintro e w2 ⟨⟨t1,rfl,bA⟩,hc⟩;have aA:=zC bA;have dA:=zA ha hc;have nA:=zC (HB.out.zbd hc);clear bA hc x0 x1 x2 x3 x4 x5;obtain⟨x0,x1,x2,x3,x4,x5⟩:=nA.out.c;cases t1
 ·have Hn:=zC (show ¬zGg W from fun hI=>absurd (aA.out.2 hI.zbj.zbh) (by simp));clear aA;go_wp2;go_ret;exact⟨zJ.no Hn.out,dA⟩
 have H3:=zC (aA.out.1 rfl);clear aA;have hs:=H3.out.1;go_wp2_with fail;refine(zMe v0 v1 v2 v3 lo hi W _ (Hp.out.zbd dA) hs).mono ?_;rintro e w3 ⟨⟨t1,rfl,bA⟩,hc⟩;have aA:=zC bA;have eA:=zA dA hc;have oA:=zC (nA.out.zbd hc);clear bA hc x0 x1 x2 x3 x4 x5;obtain⟨x0,x1,x2,x3,x4,x5⟩:=oA.out.c;cases t1
 ·have Hn:=zC (show ¬zGg W from fun hI=>absurd (aA.out.2 hI.zbj.zbg) (by simp));clear aA;go_wp2;go_ret;exact⟨zJ.no Hn.out,eA⟩
 have H4:=zC (aA.out.1 rfl);clear aA;have hp:=H4.out.1;have HN:=zC (show zEx W from⟨H1.out,H2.out,H3.out,H4.out⟩);go_wp2_with fail;refine(zE1 v0 v1 lo hi W.pool _ (Hp.out.zbd eA).pool).mono ?_;rintro e w4 ⟨⟨t1,rfl,bA⟩,hc⟩;have aA:=zC bA;have fA:=zA eA hc;have pA:=zC (oA.out.zbd hc);clear bA hc x0 x1 x2 x3 x4 x5;obtain⟨x0,x1,x2,x3,x4,x5⟩:=pA.out.c;cases t1
 ·have Hn:=zC (show ¬zGg W from fun hI=>absurd (aA.out.2 hI.right) (by simp));clear aA;go_wp2;go_ret;exact⟨zJ.no Hn.out,fA⟩
 have H5:=zC (aA.out.1 rfl);clear aA;go_wp2_with fail;refine(zJu v0 v1 v2 v3 lo hi W _ (Hp.out.zbd fA) hp HN.out.idsWf).mono ?_;rintro e w5 ⟨A,rfl,hA,hc⟩;have kA:=zC hA;have vA:=zA fA hc;have rA:=zC (pA.out.zbd hc);clear hA hc x0 x1 x2 x3 x4 x5;obtain⟨x0,x1,x2,x3,x4,x5⟩:=rA.out.c;go_wp2_with fail;refine(zMS v0 v1 v2 v3 lo hi W A _ (Hp.out.zbd vA) hs hp kA.out HN.out.dist cA.out).mono ?_;rintro e w6 ⟨⟨t1,rfl,bA⟩,hc⟩;have aA:=zC bA;have gA:=zA vA hc;have sA:=zC (rA.out.zbd hc);have lA:=zC (kA.out.zbd hc);clear bA hc x0 x1 x2 x3 x4 x5;obtain⟨x0,x1,x2,x3,x4,x5⟩:=sA.out.c;cases t1
 ·have Hn:=zC (show ¬zGg W from fun hI=>absurd (aA.out.2 hI.prevs) (by simp));clear aA;go_wp2;go_ret;exact⟨zJ.no Hn.out,gA⟩
 have H7:=zC (aA.out.1 rfl);clear aA;go_wp2_with fail;refine(zLz v0 v1 v2 v3 lo hi W A _ (Hp.out.zbd gA) hp hs lA.out HN.out.dist (HN.out.zbf H7.out)).mono ?_;rintro e w7 ⟨⟨t1,rfl,bA⟩,hc⟩;have aA:=zC bA;have iA:=zA gA hc;have tA:=zC (sA.out.zbd hc);have mA:=zC (lA.out.zbd hc);clear bA hc x0 x1 x2 x3 x4 x5;obtain⟨x0,x1,x2,x3,x4,x5⟩:=tA.out.c;cases t1
 ·have Hn:=zC (show ¬zGg W from fun hI=>absurd (aA.out.2 hI.lines) (by simp));clear aA;go_wp2;go_ret;exact⟨zJ.no Hn.out,iA⟩
 have H8:=zC (aA.out.1 rfl);clear aA;go_wp2_with fail;refine(zMj v0 v1 v2 v3 lo hi W A _ (Hp.out.zbd iA) hs hp mA.out HN.out.dist cA.out H5.out HN.out.times).mono ?_;rintro e w8 ⟨⟨t1,rfl,bA⟩,hc⟩;have aA:=zC bA;have jA:=zA iA hc;have cB:=zC (tA.out.zbd hc);have bB:=zC (mA.out.zbd hc);clear bA hc x0 x1 x2 x3 x4 x5;obtain⟨x0,x1,x2,x3,x4,x5⟩:=cB.out.c;cases t1
 ·have Hn:=zC (show ¬zGg W from fun hI=>absurd (aA.out.2 hI.trees) (by simp));clear aA;go_wp2;go_ret;exact⟨zJ.no Hn.out,jA⟩
 have H9:=zC (aA.out.1 rfl);clear aA;go_wp2_with fail;refine(zLk v0 v1 v2 v3 lo hi W A _ (Hp.out.zbd jA) hs hp bB.out HN.out.dist cA.out H5.out HN.out.times H9.out.1).mono ?_;rintro e w9 ⟨⟨t1,rfl,bA⟩,hc⟩;have aA:=zC bA;have eB:=zA jA hc;clear bA hc;have Hn:=zC (show t1=true↔zGg W from⟨fun e=>⟨HN.out,H5.out,H7.out,H8.out,H9.out,aA.out.1 e⟩,fun hI=>aA.out.2 hI.homes⟩);clear aA;go_wp2;go_ret;exact⟨⟨t1,rfl,Hn.out⟩,eB⟩
theorem zNg(v:Value)(s:zB9)(w:World):(Instr.field 46 (zI6 v s) 3).run Tryz.prog w = .ok (.agg #[.int .i64 s.rs,.int .i64 s.rb]) w:=by kernel_rfl
theorem zRK{w:World}{W:zB}{M:Nat}{vd:Nat->Value}(h:zDP w W M W.sn vd){x:ByteArray}(hx:x.size<=maxLen){v:Value}(bA:(putD (fun i=>zEm (W.zbh i).name) (fun i=>zI6 (vd i) (W.zbh i)) W.sn).atKey (zEm x) (.held (.agg #[.string ⟨#[]⟩,.int .i64 0,.int .i64 0,.int .i64 0,.int .i64 0,.slice none 0 0])) = .held v) :
  (Instr.lookup 54 (.map (some M)) (.string x) false).run Tryz.prog w = .ok v w:=by
 obtain⟨v',ps,aA,hv⟩:=World.ownsMap.lookup h zYf zUC (zMs w) (zCu _) (zO4 hx);have e1:=zD8 hv;rw[bA]at e1;have e2:=DataW.held.inj e1;rw[e2];exact aA
theorem zH6(v:Value)(s:yY)(w:World):(Instr.field 50 (zCX v s) 5).run Tryz.prog w = .ok (.agg #[.int .i64 s.rs,.int .i64 s.rb]) w:=by kernel_rfl
theorem zHd{w:World}{W:zB}{M:Nat}{vd:Nat->Value}(h:zD3 w W M W.pn vd){x:Int}(hx:(Lit.int .i64 x).wf=true){v:Value}(bA:(putD (fun i=>zH9 (W.zbg i).id) (fun i=>zCX (vd i) (W.zbg i)) W.pn).atKey (zH9 x) (.held (.agg #[.int .i64 0,.string ⟨#[]⟩,.string ⟨#[]⟩,.int .i64 0,.int .i64 0,.int .i64 0,.int .i64 0,.slice none 0 0])) = .held v) :
  (Instr.lookup 78 (.map (some M)) (.int .i64 x) false).run Tryz.prog w = .ok v w:=by
 obtain⟨v',ps,aA,hv⟩:=World.ownsMap.lookup h zYe zPV (zJs w) (zCu _) (zKj hx);have e1:=zD8 hv;rw[bA]at e1;have e2:=DataW.held.inj e1;rw[e2];exact aA
theorem zGS(p:zF):zH p 0 0 = []:=by
 unfold zH;exact if_pos ⟨rfl,rfl⟩
theorem zRI{W:zB}(h:ql W)(x:ByteArray):zW W.pool (zBc W x).rs (zBc W x).rb:=by
 by_cases hx:∃k,zIW W x k
 ·obtain⟨k,hk⟩:=hx;rw[zMV hk];exact(h.zbh k hk.1).1
 ·have e:zBc W x=zEs:=(by unfold zBc;rw[dif_neg hx]);rw[e];exact Or.inl ⟨rfl,rfl⟩
theorem zRv(l:List (Int×Int)):zA5 (fun _=>False) l=l.length:=by
 unfold zA5;simp
open Classical in
noncomputable def zD2(W:zB)(x:ByteArray):Nat:=if ql W then(zH W.pool (zBc W x).rs (zBc W x).rb).length else 0
theorem zMk{W:zB}{x:ByteArray}(h:¬ql W):zD2 W x=0:=if_neg h
theorem zHK{W:zB}{x:ByteArray}(h:ql W):zD2 W x=(zH W.pool (zBc W x).rs (zBc W x).rb).length:=if_pos h
theorem zPc{W:zB}{x:ByteArray}(h:ql W->zBc W x=zEs):zD2 W x=0:=by
 by_cases hS:ql W
 ·rw[zHK hS,h hS];show(zH W.pool 0 0).length=0;rw[zGS];rfl
 ·exact zMk hS
theorem zRY(v0 v1 v2 v3:Value)(W:zB)(w:World):Calls Tryz.prog 80 #[zAY v0 v1 v2 v3 W,.slice none 0 0] w (zOY (fun _=>False) w):=by
 have cA:=zD w (.cells #[v0,v1,.int .i64 W.time,.int .i64 W.next,v2,v3] 30);have eA:(w.alloc (.cells #[v0,v1,.int .i64 W.time,.int .i64 W.next,v2,v3] 30)).heap.size=w.heap.size+1:=World.size_alloc _ _;have hm:=World.ownsMap_made (w.alloc (.cells #[v0,v1,.int .i64 W.time,.int .i64 W.next,v2,v3] 30)) Tryz.prog 44 zCz;rw[eA]at hm;have dA:=zA cA (zD _ (.map #[] 0));have bA:((w.alloc (.cells #[v0,v1,.int .i64 W.time,.int .i64 W.next,v2,v3] 30)).alloc (.map #[] 0)).heap.size=w.heap.size+2:=by rw[World.size_alloc,eA]
 have aA:=zD ((w.alloc (.cells #[v0,v1,.int .i64 W.time,.int .i64 W.next,v2,v3] 30)).alloc (.map #[] 0)) (.cells #[.map (some (w.heap.size+1))] 98);have hc:yT (((w.alloc (.cells #[v0,v1,.int .i64 W.time,.int .i64 W.next,v2,v3] 30)).alloc (.map #[] 0)).alloc (.cells #[.map (some (w.heap.size+1))] 98)) (w.heap.size+2) 0 (.map (some (w.heap.size+1))):=by
  have:=zL (i:=0) (heap_alloc_new ((w.alloc (.cells #[v0,v1,.int .i64 W.time,.int .i64 W.next,v2,v3] 30)).alloc (.map #[] 0)) (.cells #[.map (some (w.heap.size+1))] 98)) rfl;rw[bA]at this;exact this
 have HC:=zC hc;have HM:=zC (hm.kept (yK aA none) (by simp));have HB:=zC (zA dA aA);have HZ:=zC (show(((w.alloc (.cells #[v0,v1,.int .i64 W.time,.int .i64 W.next,v2,v3] 30)).alloc (.map #[] 0)).alloc (.cells #[.map (some (w.heap.size+1))] 98)).heap.size=w.heap.size+3 by rw[World.size_alloc,bA]);clear hm cA dA aA hc bA;have fA:=@run_makeMap Tryz.prog;go_enter Tryz.func80,Tryz.ntmps80;go_wp2;generalize ((w.alloc (.cells #[v0,v1,.int .i64 W.time,.int .i64 W.next,v2,v3] 30)).alloc (.map #[] 0)).alloc (.cells #[.map (some (w.heap.size+1))] 98)=W3 at HC HM HB HZ ⊢
 go_loopw [13] (fun i wr=>i = .int .i64 0/\wr=W3) (fun _ _=>0)
 case atStart=>exact⟨rfl,rfl⟩
 case round=>
  obtain⟨rfl,rfl⟩:=hrel;obtain⟨c0,-⟩:=HC.out;go_wp2;go_ret;exact⟨_,_,_,rfl,HM.out,by omega,by have:=HZ.out;omega,fun s b kl _=>⟨0,rfl,by simp⟩,HB.out⟩
end Go.Proofs.YtginldeebkfbgaaGreat
