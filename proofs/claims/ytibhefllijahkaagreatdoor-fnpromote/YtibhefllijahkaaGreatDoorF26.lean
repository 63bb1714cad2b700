/- A part of the proof. -/
import Derived.Test.YtibhefllijahkaaGreatDoorF25
import Derived.IntWalk
set_option linter.unusedVariables false
set_option maxRecDepth 20000
set_option maxHeartbeats 4000000
namespace Go.Proofs.YtibhefllijahkaaGreatDoor
open Go.RowKit Go.Shelf Go.Maps
theorem zH6:Tryz.prog.underlying 127=some (.map 38 2):=by kernel_rfl
theorem zJY(w:World):(zeroValue 2).run Tryz.prog w = .ok (.int .i64 0) w:=by kernel_rfl
variable{w:World}{n:Nat}{c:Int}
theorem zFP{M:Nat}{D:DataW Value}(h:w.ownsMap Tryz.prog 38 CK M n D){key:Value}{kl:Lit}(g:keyOf Tryz.prog 38 key=some kl)(b:D.atKey kl (.held (.int .i64 0)) = .held (.int .i64 c)) :
 (Instr.lookup 127 (.map (some M)) key false).run Tryz.prog w = .ok (.int .i64 c) w:=by
 obtain⟨i,ps,a,hv⟩:=h.lookup PF zH6 (zJY w) (Fi _) g;have d:=Jq hv;rw[b]at d;have e:=DataW.held.inj d;rw[e];exact a
def zJa(P:Int×Int->Prop)(D:DataW Value):Prop:=∀s b kl,keyOf Tryz.prog 38 (.agg #[.int .i64 s,.int .i64 b])=some kl->∃c:Int,D.atKey kl (.held (.int .i64 0)) = .held (.int .i64 c)/\(c=0↔¬P (s,b))
def UD(P:Int×Int->Prop)(w:World)(e:Ending)(w':World):Prop:=∃M n D,e = .returned (.map (some M))/\w'.ownsMap Tryz.prog 38 CK M n D/\w.heap.size<=M/\M<w'.heap.size/\zJa P D/\Below w.heap.size w w'
open Classical in
noncomputable def F0(P:Int×Int->Prop)(l:List (Int×Int)):Nat:=(l.filter (fun x=>¬P x)).length
variable{P:Int×Int->Prop}{l:List (Int×Int)}{x:Int×Int}
theorem zAe(h:¬P x):F0 P (l ++ [x])=F0 P l+1:=by
 unfold F0;rw[List.filter_append,List.length_append];simp[h]
theorem zW(h:P x):F0 P (l ++ [x])=F0 P l:=by
 unfold F0;rw[List.filter_append,List.length_append];simp[h]
theorem zU(P:Int×Int->Prop)(l:List (Int×Int)):F0 P l<=l.length:=List.length_filter_le _ _
theorem zCB(g v1 j m:Value)(lo hi:Nat)(W:A5)(rs rb:Int)(ov:Value)(P:Int×Int->Prop)(w:World)(h:BR w lo hi g v1 j m W)(hh:hi<=w.heap.size)(hR:Ag W.pool)(hT:As W.pool rs rb)
 (hW:∀w',Below w.heap.size w w'->Calls Tryz.prog 94 #[BS g v1 j m W,ov] w' (UD P w')) :
 Calls Tryz.prog 47 #[BS g v1 j m W,.agg #[.int .i64 rs,.int .i64 rb],ov] w fun e w'=>e = .returned (.int .i64 (F0 P (AF W.pool rs rb)))/\Below w.heap.size w w':=by
 have nC:∀k:Nat,(Fence.wide.depth.isSome=true->1<=k):=fun k h=>by simp[Fence.wide]at h
 have Hp:=AT h;clear h;have t:=A9 w (.cells #[g,v1,.int .i64 W.time,.int .i64 W.next,j,m] 30);have b:=A9 (w.alloc (.cells #[g,v1,.int .i64 W.time,.int .i64 W.next,j,m] 30)) (.cells #[.int .i64 rs,.int .i64 rb] 38);have hA:=A7 t b;have HX:=AT ((Aj.new w g v1 (.int .i64 W.time) (.int .i64 W.next) j m 30).A0 b);have T:=Ad.new (w.alloc (.cells #[g,v1,.int .i64 W.time,.int .i64 W.next,j,m] 30)) (.int .i64 rs) (.int .i64 rb) 38;rw[World.size_alloc]at T;have HY:=AT T;clear T t b;obtain⟨x0,x1,x2,x3,x4,x5⟩:=HX.out.c;refine(callsIn_wide (n:=3)).1 ?_;refine callsIn_of_wp_marks Tryz.func47 rfl trivial ?_ rfl;simp only[Tryz.ntmps47,List.size_toArray,List.length_cons,List.length_nil,Nat.reduceAdd,Nat.reduceSub,Array.replicate_succ,Array.replicate_zero,List.push_toArray,List.append_toArray,List.nil_append,List.cons_append]
 gi_wp2
 clear x0 x1 x2 x3 x4 x5;generalize (w.alloc (.cells #[g,v1,.int .i64 W.time,.int .i64 W.next,j,m] 30)).alloc (.cells #[.int .i64 rs,.int .i64 rb] 38)=W0 at hA HX HY ⊢;refine⟨trivial,(callsIn_wide.2 (hW W0 hA)).mono ?_⟩;rintro e a ⟨M,nm,D,rfl,hm,eA,fA,hD,u⟩;have cA:=A7 hA u;have U:=AT (HX.out.A0 u);have V:=AT (HY.out.A0 u);have aA:=AT hm;have oA:=AT hD;have HM:=AT (And.intro eA fA);have tA:=AT (show W0.heap.size<=a.heap.size/\w.heap.size<=W0.heap.size from⟨u.size,hA.size⟩);clear hm hD eA fA u hA HX HY hW;have t:=A9 a (.cells #[.map (some M)] 127);have b:=A9 (a.alloc (.cells #[.map (some M)] 127)) (.cells #[.int .i64 0] 2);have r:=A7 t b;have y:AJ (a.alloc (.cells #[.map (some M)] 127)) a.heap.size 0 (.map (some M)):=B2 (heap_alloc_new _ _) rfl;have z:AJ ((a.alloc (.cells #[.map (some M)] 127)).alloc (.cells #[.int .i64 0] 2)) (a.heap.size+1) 0 (.int .i64 0):=by
  have:=B2 (i:=0) (heap_alloc_new (a.alloc (.cells #[.map (some M)] 127)) (.cells #[.int .i64 0] 2)) rfl;rw[World.size_alloc]at this;exact this
 have E:=AT (y.A0 b);have F:=AT z;have G:=AT (U.out.A0 r);have H:=AT (V.out.A0 r);have J:=AT (aA.out.kept (JD r none) (by simp));have L:=A7 cA r;have I:=AT (show((a.alloc (.cells #[.map (some M)] 127)).alloc (.cells #[.int .i64 0] 2)).heap.size=a.heap.size+2 by rw[World.size_alloc,World.size_alloc]);clear t b r y z U V aA cA;obtain⟨x0,x1,x2,x3,x4,x5⟩:=G.out.c;obtain⟨⟨y0,-⟩,⟨y1,-⟩⟩:=H.out
 gi_wp2
 clear x0 x1 x2 x3 x4 x5 y0 y1;generalize (a.alloc (.cells #[.map (some M)] 127)).alloc (.cells #[.int .i64 0] 2)=W2 at E F G H J L I ⊢;refine⟨trivial,(callsIn_wide.2 (Yp g v1 j m W rs rb W2)).mono ?_⟩;rintro e w3 ⟨rfl,iA,gA,v,gB⟩;have nA:=AT (E.out.A0 v);have rA:=AT (F.out.A0 v);have vA:=AT (J.out.kept (JD v none) (by simp));have dA:=A7 L v;have Z:=AT (show w.heap.size<=W0.heap.size/\W0.heap.size<=M/\M<a.heap.size/\a.heap.size+4=w3.heap.size by have:=tA.out;have:=HM.out;have:=I.out;omega);have C:=Yd w.heap.size w3.heap.size 2 W2.heap.size (W2.heap.size+1) lo hi W.pool g v1 j m W.time W.next rs rb w3 (by have:=Z.out;omega) (Nat.le_refl _) hh hR hT iA gA (Hp.out.pool.1.A0 dA);clear v iA gA gB E F J L I G H
 gi_wp2
 have hN:=zEr W.pool rs rb;have hz:=Z.out;refine wpIn_rangeFunc_ownH rfl (by omega) (gf:=148) (lb:=#[.pointer (some ⟨W2.heap.size,0,none⟩),.pointer (some ⟨W2.heap.size+1,0,none⟩)]) rfl trivial (enters_of Tryz.func148 (by kernel_rfl) rfl) C J6 (Vw (by omega)) (Below.refl _ _) (fun _=>rfl)
  (fun pre X=>((AJ X a.heap.size 0 (.map (some M))/\AJ X (a.heap.size+1) 0 (.int .i64 (F0 P (pre.map (·.1.2)))))/\X.ownsMap Tryz.prog 38 CK M nm D)/\Below w.heap.size w X)
  (fun _ _ _=>False)
  (fun s X Y row hs N Q=>⟨⟨⟨Gj hs.1.1.1 N Q,Gj hs.1.1.2 N Q⟩,hs.1.2.kept N (fun e=>by have:=(Q _ e.symm).1;omega)⟩,ownFrom_below (β:=Unit) (Nat.le_refl _) (by omega) () X Y row hs.2 N Q⟩)
  (fun _ _ _ _ _ hs _ _=>hs)
  ⟨⟨⟨nA.out,rA.out⟩,vA.out⟩,dA⟩
  (fun x a' X=>∃R,a.heap.size+1<R/\Ad X R (.int .i64 x.1.2.1) (.int .i64 x.1.2.2)/\a' = {tmps:=#[BS g v1 j m W,.agg #[.int .i64 rs,.int .i64 rb],ov,.pointer (some ⟨w.heap.size,0,none⟩),.pointer (some ⟨w.heap.size+1,0,none⟩),undef,.int .i64 0,.pointer (some ⟨a.heap.size,0,none⟩),.pointer (some ⟨a.heap.size+1,0,none⟩),undef,.pointer (some ⟨R,0,none⟩),.agg #[g,v1,.int .i64 W.time,.int .i64 W.next,j,m],ov,.map (some M),.agg #[g,v1,.int .i64 W.time,.int .i64 W.next,j,m],.agg #[.int .i64 rs,.int .i64 rb],.func (.func 148) #[] #[.pointer (some ⟨W2.heap.size,0,none⟩),.pointer (some ⟨W2.heap.size+1,0,none⟩)],.agg #[.int .i64 x.1.1.1,.int .i64 x.1.1.2],.agg #[.int .i64 x.1.2.1,.int .i64 x.1.2.2],undef,undef,undef,undef,undef,undef,undef],defers:=[]})
  (fun x a' _ X Y row hs N Q=>by obtain⟨R,h1,h2,h3⟩:=hs;exact⟨R,h1,⟨Gj h2.1 N Q,Gj h2.2 N Q⟩,h3⟩)
  ?assign ?body ?done ?stop
 case assign=>
  rintro l pre x X K ⟨⟨⟨B,d⟩,A⟩,o⟩ hK;have S:=A9 X (.cells #[.int .i64 x.1.2.1,.int .i64 x.1.2.2] 38);have T:=Ad.new X (.int .i64 x.1.2.1) (.int .i64 x.1.2.2) 38;have HK:=AT (hK _ _ ((KeepsOthers.alloc _ _).from _) (CH.Co S o.size) ⟨⟨⟨B.A0 S,d.A0 S⟩,A.kept (JD S none) (by simp)⟩,A7 o S⟩ ⟨X.heap.size,d.lt,T,rfl⟩);clear S T hK B d A o
  gi_wp2
  exact HK.out
 case body=>
  rintro l pre x a' X hl - ⟨⟨⟨B,d⟩,A⟩,o⟩ ⟨R,kC,eB,rfl⟩ rC;obtain⟨kl,O⟩:=TW x.2.1 x.2.2.1;obtain⟨c,y,z⟩:=oA.out _ _ kl O;have pC:=zFP A O y;have e:(pre ++ [x]).map (·.1.2)=pre.map (·.1.2) ++ [x.1.2]:=(by simp);have hq:F0 P (pre.map (·.1.2))<=73:=by
   have:=zU P (pre.map (·.1.2));rw[List.length_map]at this;omega
  have HE:=AT e;have HI:=AT (And.intro B (And.intro d (And.intro A o)));have HC:=AT z;obtain⟨⟨b0,-⟩,⟨b1,-⟩⟩:=eB;obtain⟨c0,-⟩:=B;obtain⟨o0,of⟩:=d;clear A o y z O e C;by_cases jA:c=0
  ·subst jA;have HN:=AT (HC.out.1 rfl);have Hy:=AT (zAe (l:=pre.map (·.1.2)) HN.out);obtain⟨q,kA⟩:∃q,F0 P (pre.map (·.1.2))=q:=⟨_,rfl⟩;rw[kA]at o0 hq
   gi_wp2
   obtain⟨B,d,A,o⟩:=HI.out;refine⟨(KeepsOthers.setCell _ _ _).from _,Rm (by omega) (by omega) _,⟨⟨B.other _ (.inl (by omega)),?_⟩,A.kept (grownBy_setCell' _ _ _) (by simp;omega)⟩,o.setCell (p:=⟨a.heap.size+1,0,none⟩) (by simp;omega) _⟩;rw[HE.out,Hy.out,kA];exact d.set _
  ·have HN:=AT (Classical.not_not.1 (fun hp=>jA (HC.out.2 hp)));have Hy:=AT (zW (l:=pre.map (·.1.2)) HN.out)
   gi_wp2
   obtain⟨B,d,A,o⟩:=HI.out;refine⟨KeepsFrom.refl _ _,CH.refl _ _ _,⟨⟨B,?_⟩,A⟩,o⟩;rw[HE.out,Hy.out];exact d
 case done=>
  rintro Dd ys X hD fB ⟨⟨⟨B,d⟩,A⟩,o⟩ hK;have hv:ys.map (·.1.2)=AF W.pool rs rb:=by
   rw[<-zEs,<-fB,List.map_map];rfl
  rw[hv]at d;obtain⟨o0,-⟩:=d
  gi_wp2
  refine⟨by simp,.inl ⟨_,_,rfl,run_takeDeferred hK,?_⟩⟩;exact⟨_,results_tmp rfl _ _ _,rfl,o.trans (belowK_b (w:=w) (Nat.le_refl _) X Dd _ _ (by omega) hK rfl rfl)⟩
 case stop=>
  rintro Dd c pre X _ _ h _;exact h.elim
theorem zAE(p:A8):AF p 0 0 = []:=by
 unfold AF;exact if_pos ⟨rfl,rfl⟩
variable{W:A5}
theorem UN(h:Ak W)(x:ByteArray):As W.pool (Am W x).rs (Am W x).rb:=by
 by_cases b:∃k,Bl W x k
 ·obtain⟨k,a⟩:=b;rw[Kv a];exact(h.A3 k a.1).1
 ·have e:Am W x=Js:=(by unfold Am;rw[dif_neg b]);rw[e];exact Or.inl ⟨rfl,rfl⟩
theorem zAd(l:List (Int×Int)):F0 (fun _=>False) l=l.length:=by
 unfold F0;simp
open Classical in
noncomputable def Iy(W:A5)(x:ByteArray):Nat:=if Ak W then(AF W.pool (Am W x).rs (Am W x).rb).length else 0
variable{x:ByteArray}
theorem zAH(h:¬Ak W):Iy W x=0:=if_neg h
theorem Yf(h:Ak W):Iy W x=(AF W.pool (Am W x).rs (Am W x).rb).length:=if_pos h
theorem zBP(a v1 c d:Value)(W:A5)(w:World):Calls Tryz.prog 94 #[BS a v1 c d W,.slice none 0 0] w (UD (fun _=>False) w):=by
 have h:=A9 w (.cells #[a,v1,.int .i64 W.time,.int .i64 W.next,c,d] 30);have k:(w.alloc (.cells #[a,v1,.int .i64 W.time,.int .i64 W.next,c,d] 30)).heap.size=w.heap.size+1:=World.size_alloc _ _;have l:=World.ownsMap_made (w.alloc (.cells #[a,v1,.int .i64 W.time,.int .i64 W.next,c,d] 30)) Tryz.prog 38 CK;rw[k]at l;have j:=A7 h (A9 _ (.map #[] 0));have g:((w.alloc (.cells #[a,v1,.int .i64 W.time,.int .i64 W.next,c,d] 30)).alloc (.map #[] 0)).heap.size=w.heap.size+2:=by rw[World.size_alloc,k]
 have e:=A9 ((w.alloc (.cells #[a,v1,.int .i64 W.time,.int .i64 W.next,c,d] 30)).alloc (.map #[] 0)) (.cells #[.map (some (w.heap.size+1))] 127);have q:AJ (((w.alloc (.cells #[a,v1,.int .i64 W.time,.int .i64 W.next,c,d] 30)).alloc (.map #[] 0)).alloc (.cells #[.map (some (w.heap.size+1))] 127)) (w.heap.size+2) 0 (.map (some (w.heap.size+1))):=by
  have:=B2 (i:=0) (heap_alloc_new ((w.alloc (.cells #[a,v1,.int .i64 W.time,.int .i64 W.next,c,d] 30)).alloc (.map #[] 0)) (.cells #[.map (some (w.heap.size+1))] 127)) rfl;rw[g]at this;exact this
 have n:=A4 q;have o:=A4 (l.kept (JD e none) (by simp));have m:=A4 (A7 j e);have p:=A4 (show(((w.alloc (.cells #[a,v1,.int .i64 W.time,.int .i64 W.next,c,d] 30)).alloc (.map #[] 0)).alloc (.cells #[.map (some (w.heap.size+1))] 127)).heap.size=w.heap.size+3 by rw[World.size_alloc,g]);clear l h j e q g;have r:=@run_makeMap Tryz.prog;go_enter Tryz.func94,Tryz.ntmps94;go_wp2;generalize ((w.alloc (.cells #[a,v1,.int .i64 W.time,.int .i64 W.next,c,d] 30)).alloc (.map #[] 0)).alloc (.cells #[.map (some (w.heap.size+1))] 127)=W3 at n o m p ⊢
 go_loopw [13] (fun i wr=>i = .int .i64 0/\wr=W3) (fun _ _=>0)
 case atStart=>exact⟨rfl,rfl⟩
 case round=>
  obtain⟨rfl,rfl⟩:=hrel;obtain⟨c0,-⟩:=n.out;go_wp2;go_ret;exact⟨_,_,_,rfl,o.out,by omega,by have:=p.out;omega,fun s b kl _=>⟨0,rfl,by simp⟩,m.out⟩
theorem zCI(g v1 i j:Value)(lo hi:Nat)(W:A5)(x:ByteArray)(w:World)(h:BR w lo hi g v1 i j W)(R:hi<=w.heap.size)(p:E7 W)(I:x.size<=maxLen):Calls Tryz.prog 17 #[BS g v1 i j W,.string x] w fun e w'=>e = .returned (.int .i64 (Iy W x))/\Below w.heap.size w w':=by
 have s:=A4 h;have u:=A4 p;have K:=A4 I;clear h p I;have k:=A9 w (.cells #[g,v1,.int .i64 W.time,.int .i64 W.next,i,j] 30);have q:=A4 (Aj.new w g v1 (.int .i64 W.time) (.int .i64 W.next) i j 30);obtain⟨A,B,C,D,E,F⟩:=q.out.c;go_enter Tryz.func17,Tryz.ntmps17;go_wp2_with fail;generalize w.alloc (.cells #[g,v1,.int .i64 W.time,.int .i64 W.next,i,j] 30)=W0 at q k A B C D E F ⊢;refine(P6 g v1 i j lo hi W W0 (s.out.A0 k) u.out).mono ?_;rintro e P ⟨⟨t,rfl,H⟩,n⟩;have G:=A4 (H.trans (GD W));have d:=A7 k n;have m:=A4 (q.out.A0 n);clear A B C D E F n k q H;cases t
 ·have r:=A4 (show Iy W x=0 from zAH (fun h=>absurd (G.out.2 h) (by simp)));go_wp2;go_ret;exact⟨by rw[r.out];rfl,d⟩
 ·have o:=A4 (G.out.1 rfl);have r:=A4 (show Iy W x=F0 (fun _=>False) (AF W.pool (Am W x).rs (Am W x).rb)by rw[Yf o.out,zAd]);have J:=A4 (UN o.out x);have Q:=Vm;obtain⟨A,B,C,D,E,F⟩:=m.out.c;go_wp2_with fail;go_region_held3 (fun w'=>w'.cell? ⟨w.heap.size,0,none⟩=some g/\w'.cell? ⟨w.heap.size,1,none⟩=some v1/\w'.cell? ⟨w.heap.size,2,none⟩=some (.int .i64 W.time)/\w'.cell? ⟨w.heap.size,3,none⟩=some (.int .i64 W.next)/\w'.cell? ⟨w.heap.size,4,none⟩=some i/\w'.cell? ⟨w.heap.size,5,none⟩=some j) (go_keep)
   (first
    | (go_at_call 46;refine(K9 g v1 i j lo hi W _ ((s.out.A0 d).A0 (Below.refl _ _).drew) o.out.AX.2.2.1).mono ?_;rintro e w2 ⟨vd,rfl,O,L,y⟩;have b:=Cp y;obtain⟨a,c,v,S⟩:=Ov (o.out.AX.dist) L x;have N:=Nr (M:=P.heap.size+1) O K.out v;obtain⟨z0,z1,z2,z3,z4,z5⟩:=(m.out.A0 b).c)
    | (go_at_call 47;refine(zCB g v1 i j lo hi W _ _ _ (fun _=>False) _ ((s.out.A0 d).A0 b) (by have:=b.size;have:=d.size;omega) o.out.right J.out (fun w' _=>zBP g v1 i j W w')).mono ?_;rintro e w3 ⟨rfl,z⟩;have l:=A7 b z;obtain⟨T,U,V,X,Y,Z⟩:=(m.out.A0 l).c))
  go_wp2;go_ret;exact⟨by rw[r.out];rfl,A7 d l⟩
theorem Uq{f:Nat->List CR}{x:CR}:∀k,x∈Dn f k↔∃i,i<k/\x∈f i
 | 0=>by simp[Dn]
 | k+1=>by
  rw[Dn,List.mem_append,Uq k];constructor
  ·rintro(⟨i,hi,h⟩ | h)
   ·exact⟨i,by omega,h⟩
   ·exact⟨k,by omega,h⟩
  ·rintro⟨i,hi,h⟩;by_cases e:i=k
   ·subst e;exact Or.inr h
   ·exact Or.inl ⟨i,by omega,h⟩
variable{p:A8}
theorem OJ{L:Int}{G:Int->Int->Int->List CR}{num xs xb:Int}{x:CR}:x∈FC p L G num xs xb↔¬Nil xs xb/\(x=((L,num),(xs,xb))\/∃i,i<8/\x∈G (num*8+(i:Nat)) (AK (p.s xs.toNat) i) (AW (p.s xs.toNat) i)):=by
 unfold FC;by_cases a:Nil xs xb
 ·rw[if_pos a];simp[a]
 ·rw[if_neg a,List.mem_cons,Uq];exact⟨fun h=>⟨a,h⟩,fun h=>h.2⟩
theorem XD{num xs xb:Int}{x:CR}:x∈KO p num xs xb↔¬Nil xs xb/\x=((2,num),(xs,xb)):=by
 rw[QM];by_cases a:Nil xs xb
 ·rw[if_pos a];simp[a]
 ·rw[if_neg a];simp[a]
theorem zEq{rs rb a:Int}{y:Int×Int}(c:((2,a),y)∈CG p rs rb):∃n:Nat,n<64/\a=n/\y=(CT p rs rb n,Cb p rs rb n):=by
 unfold CG at c;obtain⟨d,h | ⟨i,hi,h⟩⟩:=OJ.1 c
 ·injection h with h1 h2;injection h1 with h1 h3;exact absurd h1 (by decide)
 ·unfold KN at h;obtain⟨b,h | ⟨j,o,h⟩⟩:=OJ.1 h
  ·injection h with h1 h2;injection h1 with h1 h3;exact absurd h1 (by decide)
  ·obtain⟨k,h⟩:=XD.1 h;injection h with h1 h2;injection h1 with _ h1;refine⟨i*8+j,by omega,by rw[h1];omega,?_⟩;have e:(i*8+j) / 8=i:=(by omega);have g:(i*8+j) % 8=j:=(by omega);unfold CT Cb Ca D9;rw[e,g];have l:Ds p rs rb i=AK (p.s rs.toNat) i:=if_neg d;have m:Dr p rs rb i=AW (p.s rs.toNat) i:=if_neg d;rw[l,m];rw[show Ds p (AK (p.s rs.toNat) i) (AW (p.s rs.toNat) i) j=_ from if_neg b,show Dr p (AK (p.s rs.toNat) i) (AW (p.s rs.toNat) i) j=_ from if_neg b];exact h2
theorem zx{rs rb:Int}(hn:n<64)(h:¬Nil (CT p rs rb n) (Cb p rs rb n)):((2,(n:Int)),(CT p rs rb n,Cb p rs rb n))∈CG p rs rb:=by
 have b:¬Nil (Ca p rs rb n) (D9 p rs rb n):=fun a=>h (by unfold CT Cb Ds Dr;rw[if_pos a,if_pos a];exact⟨rfl,rfl⟩)
 have a:¬Nil rs rb:=fun a=>b (by unfold Ca D9 Ds Dr;rw[if_pos a,if_pos a];exact⟨rfl,rfl⟩)
 have c:Ca p rs rb n=AK (p.s rs.toNat) (n / 8):=if_neg a;have d:D9 p rs rb n=AW (p.s rs.toNat) (n / 8):=if_neg a;unfold CG;refine OJ.2 ⟨a,Or.inr ⟨n / 8,by omega,?_⟩⟩;rw[<-c,<-d];unfold KN;refine OJ.2 ⟨b,Or.inr ⟨n % 8,by omega,?_⟩⟩;have e:CT p rs rb n=AK (p.s (Ca p rs rb n).toNat) (n % 8):=if_neg b;have g:Cb p rs rb n=AW (p.s (Ca p rs rb n).toNat) (n % 8):=if_neg b;rw[<-e,<-g];refine XD.2 ⟨h,?_⟩;rw[show(0*8+((n / 8:Nat):Int))*8+((n % 8:Nat):Int)=(n:Int)by omega]
def DJ(l:List CR)(n:Nat):Int×Int:=l.foldl (fun acc x=>if x.1=(2,(n:Int))then x.2 else acc) (0,0)
theorem YN(l:List CR)(x:CR)(n:Nat):DJ (l ++ [x]) n=if x.1=(2,(n:Int))then x.2 else DJ l n:=by
 unfold DJ;rw[List.foldl_append];rfl
theorem Vo{v:Int×Int}{n:Nat}:∀(l:List CR) (acc:Int×Int),(∀x∈l,x.1=(2,(n:Int))->x.2=v)->(acc=v\/∃x∈l,x.1=(2,(n:Int)))->l.foldl (fun acc x=>if x.1=(2,(n:Int))then x.2 else acc) acc=v
 | [],acc,_,h=>by
  rcases h with h | ⟨x,a,_⟩
  ·exact h
  ·exact absurd a (by simp)
 | y :: l,acc,hall,h=>by
  rw[List.foldl_cons];refine Vo l _ (fun x a=>hall x (List.mem_cons_of_mem _ a)) ?_;by_cases e:y.1=(2,(n:Int))
  ·left;rw[if_pos e];exact hall y List.mem_cons_self e
  ·rw[if_neg e];rcases h with h | ⟨x,a,b⟩
   ·exact Or.inl h
   ·rcases List.mem_cons.1 a with rfl | a
    ·exact absurd b e
    ·exact Or.inr ⟨x,a,b⟩
theorem Vp(p:A8)(rs rb:Int)(hn:n<64):DJ (CG p rs rb) n=(CT p rs rb n,Cb p rs rb n):=by
 unfold DJ;refine Vo _ _ (fun x h e=>?_) ?_
 ·obtain⟨⟨l,a⟩,y⟩:=x;simp only at e;injection e with e1 e2;subst e1 e2;obtain⟨m,j,i,c⟩:=zEq h;obtain rfl:n=m:=(by omega);exact c
 ·by_cases b:Nil (CT p rs rb n) (Cb p rs rb n)
  ·left;obtain⟨d,g⟩:=b;rw[d,g]
  ·exact Or.inr ⟨_,zx hn b,rfl⟩
def DT(X:World)(V:Nat)(f:Nat->Int×Int):Prop:=∀n,n<64->AJ X V (n*2) (.int .i64 (f n).1)/\AJ X V (n*2+1) (.int .i64 (f n).2)
variable{X Y:World}{V:Nat}{f:Nat->Int×Int}
theorem DT.A0(h:DT X V f)(t:Below X.heap.size X Y):DT Y V f:=fun n hn=>⟨(h n hn).1.A0 t,(h n hn).2.A0 t⟩
variable{row:Option Nat}
theorem DT.own{B:Nat}(h:DT X V f)(a:X.grownBy Y row)(b:∀r,row=some r->B<=r/\∃ob:Obj,X.heap[r]?=some ob/\ob.isCells=false):DT Y V f:=fun n hn=>⟨Gj (h n hn).1 a b,Gj (h n hn).2 a b⟩
theorem DT.put{g:Nat->Int×Int}(h:DT X V f){k:Nat}(b:k<64)(y:Int×Int)(a:∀n,n<64->g n=if n=k then y else f n):DT ((X.setCell ⟨V,k*2,none⟩ (.int .i64 y.1)).setCell ⟨V,k*2+1,none⟩ (.int .i64 y.2)) V g:=fun n hn=>by
 rw[a n hn];by_cases e:n=k
 ·subst e;rw[if_pos rfl];exact⟨((h n hn).1.set _).other _ (Or.inr (by omega)),((h n hn).2.other _ (Or.inr (by omega))).set _⟩
 ·rw[if_neg e];exact⟨((h n hn).1.other _ (Or.inr (by omega))).other _ (Or.inr (by omega)),((h n hn).2.other _ (Or.inr (by omega))).other _ (Or.inr (by omega))⟩
theorem TB:Tryz.zeroCells125=Array.replicate 128 (.int .i64 0):=by kernel_rfl
theorem TA{i:Nat}(h:i<128):Tryz.zeroCells125[i]?=some (.int .i64 0):=by
 rw[TB,Array.getElem?_replicate,if_pos h]
theorem DT.new(w:World):DT (w.alloc (.cells Tryz.zeroCells125 125)) w.heap.size (fun _=>(0,0)):=fun n hn=>by
 have a:(w.alloc (.cells Tryz.zeroCells125 125)).heap[w.heap.size]?=some (.cells Tryz.zeroCells125 125):=heap_alloc_new _ _;exact⟨B2 a (TA (by omega)),B2 a (TA (by omega))⟩
def pgV(f:Nat->Int×Int)(j:Nat):Value:=.int .i64 (if j % 2=0 then(f (j / 2)).1 else(f (j / 2)).2)
def pgC(f:Nat->Int×Int):Array Value:=((List.range 128).map (pgV f)).toArray
theorem pgU:Tryz.prog.underlying 125=some (.array 64 38):=by kernel_rfl
theorem pgI:(Tryz.prog.info? 125).map (·.size)=some 128:=by kernel_rfl
theorem DT.cell(h:DT X V f){j:Nat}(a:j<128):AJ X V j (pgV f j):=by
 unfold pgV;by_cases e:j % 2=0
 ·rw[if_pos e];have:=(h (j / 2) (by omega)).1;rw[show j / 2*2=j by omega]at this;exact this
 ·rw[if_neg e];have:=(h (j / 2) (by omega)).2;rw[show j / 2*2+1=j by omega]at this;exact this
theorem zA1(h:DT X V f):(loadVar 125 ⟨V,0,none⟩).run Tryz.prog X = .ok (.agg (pgC f)) X:=by
 have d:(loadCells ⟨V,0,none⟩ (pgC f).toList.length).run Tryz.prog X = .ok (pgC f).toList.toArray X:=
  run_loadCells_list (P:=Tryz.prog) X ⟨V,0,none⟩ (pgC f).toList (fun j v hv=>by
   have a:(⟨V,0,none⟩:Addr).add j=⟨V,j,none⟩:=(by unfold Addr.add;split<;>simp_all);have c:j<128:=by
    have:=(List.getElem?_eq_some_iff.1 hv).1;simp[pgC]at this;exact this
   simp[pgC,c]at hv;rw[a,<-hv];exact(h.cell c).1)
 cases hq:Tryz.prog.info? 125 with
 | none=>have:=pgI;simp[hq]at this
 | some i=>
  have hs:i.size=128:=(by have:=pgI;simpa[hq]using this);have b:(isAgg 125).run Tryz.prog X = .ok true X:=by
   unfold isAgg;rw[Sem.run_bind,run_underlying pgU X];simp
  have e:(pgC f).size=128:=(by simp[pgC]);simp only[Array.length_toList,Array.toArray_toList,e]at d;simp[loadVar,Sem.run_bind,b,sizeOf,typeInfo,hq,hs,d]
theorem MA(f:Nat->Int×Int):(pgC f).size=128:=by simp[pgC]
theorem Sq(f:Nat->Int×Int):(pgC f).all (·.oneCell')=true:=by
 rw[Array.all_eq_true_iff_forall_mem];intro v hv;unfold pgC at hv;obtain⟨j,-,rfl⟩:=List.mem_map.1 (List.mem_toArray.1 hv);rfl
theorem Ch:Tryz.zeroCells125.size=128:=by rw[TB];simp
def Blk(X:World)(V:Nat)(cs:Array Value):Prop:=X.heap[V]?=some (.cells cs 125)
variable{cs:Array Value}
theorem Blk.lt(h:Blk X V cs):V<X.heap.size:=(Array.getElem?_eq_some_iff.1 h).1
theorem Blk.A0(h:Blk X V cs)(t:Below X.heap.size X Y):Blk Y V cs:=(t.block V h.lt).trans h
theorem Blk.own{B:Nat}(h:Blk X V cs)(d:X.grownBy Y row)(g:∀r,row=some r->B<=r/\∃ob:Obj,X.heap[r]?=some ob/\ob.isCells=false):Blk Y V cs:=by
 have a:some V≠row:=fun e=>by
  obtain⟨_,ob,b,c⟩:=g V e.symm;rw[show X.heap[V]?=_ from h]at b;cases b;exact absurd c (by simp[Obj.isCells])
 exact(d.block V h.lt a).trans h
theorem Blk.other{b o:Nat}{u:Value}(h:Blk X V cs)(a:V≠b):Blk (X.setCell ⟨b,o,none⟩ u) V cs:=(Below.heap_setCell X ⟨b,o,none⟩ u V (by simpa using a)).trans h
def Gv(l:List F9):List CR:=l.map (fun y=>y.1)
theorem EZ(m v1 o q:Value)(lo hi:Nat)(W:A5)(rs rb:Int)(w:World)(h:BR w lo hi m v1 o q W)(hh:hi<=w.heap.size)(hR:Ag W.pool)(hT:As W.pool rs rb) :
 Calls Tryz.prog 93 #[BS m v1 o q W,.agg #[.int .i64 rs,.int .i64 rb]] w fun e w'=>e = .returned (.agg (pgC (DJ (CG W.pool rs rb))))/\Below w.heap.size w w':=by
 have Hp:=AT h;clear h;have U:∀A B C D:World,A=w.alloc (.cells #[m,v1,.int .i64 W.time,.int .i64 W.next,o,q] 30)->B=A.alloc (.cells #[.int .i64 rs,.int .i64 rb] 38)->C=B.alloc (.cells Tryz.zeroCells125 125)->D=C.alloc (.cells Tryz.zeroCells125 125)->
  Aj D w.heap.size m v1 (.int .i64 W.time) (.int .i64 W.next) o q/\Ad D (w.heap.size+1) (.int .i64 rs) (.int .i64 rb)/\Blk D (w.heap.size+1+1) Tryz.zeroCells125/\DT D (w.heap.size+1+1+1) (fun _=>(0,0))/\Below w.heap.size w D/\D.heap.size=w.heap.size+4:=by
  rintro A B C D ea eb ec ed;have b1:=A9 w (.cells #[m,v1,.int .i64 W.time,.int .i64 W.next,o,q] 30);have x1:=Aj.new w m v1 (.int .i64 W.time) (.int .i64 W.next) o q 30;have z1:A.heap.size=w.heap.size+1:=(by rw[ea];exact World.size_alloc _ _);rw[<-ea]at b1 x1;have b2:=A9 A (.cells #[.int .i64 rs,.int .i64 rb] 38);have x2:=Ad.new A (.int .i64 rs) (.int .i64 rb) 38;have z2:B.heap.size=w.heap.size+1+1:=(by rw[eb,World.size_alloc,z1]);rw[<-eb]at b2 x2;rw[z1]at x2;have b3:=A9 B (.cells Tryz.zeroCells125 125);have x3:Blk C B.heap.size Tryz.zeroCells125:=(by rw[ec];exact heap_alloc_new _ _);have z3:C.heap.size=w.heap.size+1+1+1:=(by rw[ec,World.size_alloc,z2]);rw[<-ec]at b3;rw[z2]at x3;have J:=A9 C (.cells Tryz.zeroCells125 125);have x4:=DT.new C;have z4:D.heap.size=w.heap.size+4:=(by rw[ed,World.size_alloc,z3]);rw[<-ed]at J x4;rw[z3]at x4;exact⟨((x1.A0 b2).A0 b3).A0 J,(x2.A0 b3).A0 J,x3.A0 J,x4,A7 (A7 (A7 b1 b2) b3) J,z4⟩
 obtain⟨hx,V,Q,R,hb,hz⟩:=U _ _ _ _ rfl rfl rfl rfl;have HX:=AT hx;have HY:=AT V;have H4:=AT Q;have H5:=AT R;have HB:=AT hb;have HZ:=AT hz;clear U hx V Q R hb hz;obtain⟨x0,x1,x2,x3,x4,x5⟩:=HX.out.c;obtain⟨⟨y0,-⟩,⟨y1,-⟩⟩:=HY.out;refine(callsIn_wide (n:=3)).1 ?_;refine callsIn_of_wp_marks Tryz.func93 rfl trivial ?_ rfl;simp only[Tryz.ntmps93,List.size_toArray,List.length_cons,List.length_nil,Nat.reduceAdd,Nat.reduceSub,Array.replicate_succ,Array.replicate_zero,List.push_toArray,List.append_toArray,List.nil_append,List.cons_append]
 gi_wp2
 clear x0 x1 x2 x3 x4 x5 y0 y1;generalize (((w.alloc (.cells #[m,v1,.int .i64 W.time,.int .i64 W.next,o,q] 30)).alloc (.cells #[.int .i64 rs,.int .i64 rb] 38)).alloc (.cells Tryz.zeroCells125 125)).alloc (.cells Tryz.zeroCells125 125)=W4 at HX HY H4 H5 HB HZ ⊢;refine⟨trivial,(callsIn_wide.2 (Yp m v1 o q W rs rb W4)).mono ?_⟩;rintro e w5 ⟨rfl,N,M,r,rB⟩;have I:=AT (A7 HB.out r);have kA:=AT (H4.out.A0 r);have mA:=AT (H5.out.A0 r);have bD:w5.heap.size=w.heap.size+6:=by have:=HZ.out;omega
 have j:=Yd w.heap.size w5.heap.size 2 W4.heap.size (W4.heap.size+1) lo hi W.pool m v1 o q W.time W.next rs rb w5 (by omega) (Nat.le_refl _) hh hR hT N M (Hp.out.pool.1.A0 I.out);clear r N M rB HX HY H4 H5 HB HZ
 gi_wp2
 refine wpIn_rangeFunc_ownH rfl (by omega) (gf:=148) (lb:=#[.pointer (some ⟨W4.heap.size,0,none⟩),.pointer (some ⟨W4.heap.size+1,0,none⟩)]) rfl trivial (enters_of Tryz.func148 (by kernel_rfl) rfl) j J6 (Vw (by omega)) (Below.refl _ _) (fun _=>rfl)
  (fun (pre:List F9) X=>(Blk X (w.heap.size+1+1) Tryz.zeroCells125/\DT X (w.heap.size+1+1+1) (DJ (Gv pre)))/\Below w.heap.size w X)
  (fun _ _ _=>False)
  (fun s X Y row hs u y=>⟨⟨hs.1.1.own u y,hs.1.2.own u y⟩,ownFrom_below (β:=Unit) (Nat.le_refl _) (by omega) () X Y row hs.2 u y⟩)
  (fun _ _ _ _ _ hs _ _=>hs)
  ⟨⟨kA.out,mA.out⟩,I.out⟩
  (fun x a' X=>∃Bs G,w.heap.size+1+1+1<Bs/\w.heap.size+1+1+1<G/\Ad X Bs (.int .i64 x.1.1.1) (.int .i64 x.1.1.2)/\Ad X G (.int .i64 x.1.2.1) (.int .i64 x.1.2.2)/\a' = {tmps:=#[BS m v1 o q W,.agg #[.int .i64 rs,.int .i64 rb],.pointer (some ⟨w.heap.size,0,none⟩),.pointer (some ⟨w.heap.size+1,0,none⟩),.pointer (some ⟨w.heap.size+1+1,0,none⟩),.pointer (some ⟨w.heap.size+1+1+1,0,none⟩),.pointer (some ⟨Bs,0,none⟩),.pointer (some ⟨G,0,none⟩),.agg #[m,v1,.int .i64 W.time,.int .i64 W.next,o,q],.agg #[.int .i64 rs,.int .i64 rb],.func (.func 148) #[] #[.pointer (some ⟨W4.heap.size,0,none⟩),.pointer (some ⟨W4.heap.size+1,0,none⟩)],.agg #[.int .i64 x.1.1.1,.int .i64 x.1.1.2],.agg #[.int .i64 x.1.2.1,.int .i64 x.1.2.2],undef,undef,undef,undef,undef,undef,undef,undef],defers:=[]})
  (fun x a' _ X Y row hs u y=>by obtain⟨Bs,G,h1,fB,t,z,h3⟩:=hs;exact⟨Bs,G,h1,fB,⟨Gj t.1 u y,Gj t.2 u y⟩,⟨Gj z.1 u y,Gj z.2 u y⟩,h3⟩)
  ?assign ?body ?done ?stop
 case assign=>
  rintro l pre x X K ⟨⟨b,a⟩,d⟩ hK;have ha:=A9 X (.cells #[.int .i64 x.1.1.1,.int .i64 x.1.1.2] 133);have V:=Ad.new X (.int .i64 x.1.1.1) (.int .i64 x.1.1.2) 133;have hz:(X.alloc (.cells #[.int .i64 x.1.1.1,.int .i64 x.1.1.2] 133)).heap.size=X.heap.size+1:=World.size_alloc _ _;have hc:=A9 (X.alloc (.cells #[.int .i64 x.1.1.1,.int .i64 x.1.1.2] 133)) (.cells #[.int .i64 x.1.2.1,.int .i64 x.1.2.2] 38);have F:=Ad.new (X.alloc (.cells #[.int .i64 x.1.1.1,.int .i64 x.1.1.2] 133)) (.int .i64 x.1.2.1) (.int .i64 x.1.2.2) 38;rw[hz]at F;have g:=A7 ha hc;have S:=((a 0 (by omega)).1).lt;have HK:=AT (hK _ _ (((KeepsOthers.alloc _ _).trans (KeepsOthers.alloc _ _)).from _) (CH.Co g d.size) ⟨⟨b.A0 g,a.A0 g⟩,A7 d g⟩ ⟨X.heap.size,X.heap.size+1,S,by omega,V.A0 hc,F,rfl⟩);clear ha V hK b a d hc F g hz
  gi_wp2
  exact HK.out
 case body=>
  rintro l pre x a' X hl - ⟨⟨b,a⟩,d⟩ ⟨Bs,G,rC,sC,iB,jB,rfl⟩ S;have e:Gv (pre ++ [x])=Gv pre ++ [x.1]:=(by simp[Gv]);have HE:=AT e;have HI:=AT (And.intro b (And.intro a d));obtain⟨⟨s0,-⟩,⟨s1,-⟩⟩:=iB;obtain⟨⟨b0,-⟩,⟨b1,-⟩⟩:=jB;by_cases t:x.1.1.1=2
  ·obtain⟨T,oB⟩:=x.2.2.2 t;obtain⟨k,hk⟩:=Int.eq_ofNat_of_zero_le T;have v:k<64:=(by omega);have nB:(k:Int)<64:=(by omega);obtain⟨⟨c0,nC⟩,⟨c1,oC⟩⟩:=a k v;have HF:=AT (show ∀n,n<64->DJ (Gv (pre ++ [x])) n=if n=k then x.1.2 else DJ (Gv pre) n from fun n _=>by
    rw[e,YN];have:x.1.1=(2,(n:Int))↔n=k:=by
     constructor
     ·intro h;have h3:=congrArg Prod.snd h;rw[hk]at h3;simp only at h3;omega
     ·rintro rfl;exact Prod.ext t hk
    by_cases h:n=k
    ·rw[if_pos (this.2 h),if_pos h]
    ·rw[if_neg (fun h'=>h (this.1 h')),if_neg h])
   rw[t]at s0;rw[hk]at s1;clear T oB e b a d j
   gi_wp2
   obtain⟨b,a,d⟩:=HI.out;refine⟨((KeepsOthers.setCell _ _ _).trans (KeepsOthers.setCell _ _ _)).from _,J6 (Rm (by omega) (by omega) _) (Rm (by omega) (by omega) _),⟨(b.other (by omega)).other (by omega),a.put v x.1.2 HF.out⟩,(d.setCell (p:=⟨w.heap.size+1+1+1,k*2,none⟩) (by simp;omega) _).setCell (p:=⟨w.heap.size+1+1+1,k*2+1,none⟩) (by simp;omega) _⟩
  ·have HF:=AT (show DJ (Gv (pre ++ [x]))=DJ (Gv pre)from funext fun n=>by
    rw[e,YN,if_neg (fun h=>t (congrArg Prod.fst h))])
   have z:(x.1.1.1 == 2)=false:=(by simp[t]);clear e b a d j
   gi_wp2
   obtain⟨b,a,d⟩:=HI.out;exact⟨KeepsFrom.refl _ _,CH.refl _ _ _,⟨b,by rw[HF.out];exact a⟩,d⟩
 case done=>
  rintro H ys X hD pB ⟨⟨b,a⟩,d⟩ hK;have Z:Gv ys=CG W.pool rs rb:=pB;rw[Z]at a;have E:(Instr.loadAt 125 (.pointer (some ⟨w.heap.size+1+1+1,0,none⟩))).run Tryz.prog X = .ok (.agg (pgC (DJ (CG W.pool rs rb)))) X:=by
   have:=zA1 a;simp[Instr.loadAt,Instr.sureAddr,this]
  have fA:(storeCells ⟨w.heap.size+1+1,0,none⟩ (pgC (DJ (CG W.pool rs rb))).toList).run Tryz.prog X = .ok () (X.setRow (w.heap.size+1+1) (pgC (DJ (CG W.pool rs rb)))):=by
   have h1:=run_storeVar_row (P:=Tryz.prog) X (w.heap.size+1+1) 125 125 Tryz.zeroCells125 (pgC (DJ (CG W.pool rs rb))) b (by rw[MA];exact pgI) (by rw[Ch,MA]) (Sq _);cases F:Tryz.prog.info? 125 with
   | none=>have:=pgI;simp[F]at this
   | some i=>
    have hs:i.size=128:=(by have:=pgI;simpa[F]using this);simpa[storeVar,sizeOf,typeInfo,F,Value.cells,hs,MA]using h1
  have lB:=MA (DJ (CG W.pool rs rb));generalize O:pgC (DJ (CG W.pool rs rb))=cs at *;have oA:=AT O;clear O
  gi_wp2
  refine⟨fun _ _=>trivial,?_⟩;rw[show(Oper.semAt _ _ _).run Tryz.prog X = .ok (.value (.agg cs)) X by simp[execOp,Act.eval,Oper.semAt,E,Result.andThen],Oper.uponIn_value]
  gi_wp2
  have L:(X.setRow (w.heap.size+1+1) cs).heap[H]?=some (.deferred (some [])):=(setRow_other X _ H cs (by omega)).trans hK;refine⟨by simp,.inl ⟨_,_,rfl,run_takeDeferred L,?_⟩⟩;have gB:((X.setRow (w.heap.size+1+1) cs).putObj H (.deferred none)).heap[w.heap.size+1+1]?=some (.cells cs 125):=(World.putObj_heap_other (by omega)).trans (setRow_heap X (w.heap.size+1+1) _ cs 125 (0,0) b);have hl:=run_loadVar_row (P:=Tryz.prog) _ (w.heap.size+1+1) 125 125 cs (0,0) _ gB pgU rfl (by rw[lB];exact pgI);refine⟨.agg cs,?_,by rw[oA.out],(below_setRow d (by omega) cs).trans (belowK_b (w:=w) (Nat.le_refl _) _ H _ _ (by omega) L rfl rfl)⟩;simp[results,Tryz.results93];exact hl
 case stop=>
  rintro H c pre X _ _ h _;exact h.elim
def IS(l:List Int):List Value:=l.map (fun x=>.int .i64 x)
theorem zBW(l m:List Int):IS (l ++ m)=IS l ++ IS m:=by simp[IS]
theorem zFU(l:List Int)(i:Nat)(h:i<l.length):(IS l)[i]?=some (.int .i64 (l.getD i 0)):=by
 simp[IS,h,List.getD]
theorem zFW:(Tryz.prog.info? 2).map (fun i=>(i.zero,i.size,i.bytes))=some (some (.int .i64 0),1,8):=by kernel_rfl
def DU(w:World)(base:Nat)(v:Value)(l:List Int):Prop:=w.ownsRow base 2 1 v l.length (IS l)/\(l = []->∃a,v = .slice a 0 0)
variable{base:Nat}{v:Value}{l:List Int}
theorem DU.A0{w1:World}(h:DU w base v l)(a:Below w.heap.size w w1):DU w1 base v l:=
 ⟨h.1.kept (Dy a none) (by cases v.ownBlock<;>simp),h.2⟩
theorem DU.nil(w:World)(base:Nat):DU w base (.slice none 0 0) []:=⟨World.ownsRow_nil _ _ _ _,fun _=>⟨none,rfl⟩⟩
theorem DU.mono{a:Nat}(h:DU w base v l)(i:a<=base):DU w a v l:=by
 refine⟨⟨h.1.1,h.1.2.imp id ?_⟩,h.2⟩;rintro⟨g,cap,b,e,c,d⟩;exact⟨g,cap,b,e,Nat.le_trans i c,d⟩
theorem DU.lt(h:DU w base v l){q:Nat}(a:v.ownBlock=some q):base<=q/\q<w.heap.size:=by
 rcases h.1.2 with⟨rfl,_⟩ | ⟨g,cap,b,rfl,c,d,_⟩
 ·simp[Value.ownBlock]at a
 ·simp only[Value.ownBlock,Option.some.injEq]at a;subst a;exact⟨c,(Array.getElem?_eq_some_iff.1 d).1⟩
theorem DU.next{g cap:Nat}{x:Int}(h:w.ownsRow base 2 1 (.slice (some ⟨g,0,none⟩) (l.length+1) cap) (l.length+1) (IS l ++ [.int .i64 x])):DU w base (.slice (some ⟨g,0,none⟩) (l.length+1) cap) (l ++ [x]):=by
 refine⟨?_,fun e=>by simp at e⟩;rw[List.length_append,zBW];exact h
def zR(l:List Int)(i:Nat):Int:=l.getD i 0
theorem DU.own(h:DU w base v l)(q:l.length<=maxLen):∃b,FK w b v l.length (zR l)/\(0<l.length->base<=b/\b<w.heap.size):=by
 obtain⟨h,B⟩:=h;by_cases j:0<l.length
 ·have r:=h;obtain⟨y,⟨e,e0⟩ | ⟨g,cap,k,rfl,s,u,x,n,z,A⟩⟩:=h
  ·omega
  ·obtain⟨g',o,e,m,t,d,c⟩:=FN r j;simp only[Value.slice.injEq,Option.some.injEq,Addr.mk.injEq,and_true,true_and]at e;obtain⟨rfl,rfl⟩:=e;refine⟨g,⟨q,_,cap,rfl,m,fun _=>⟨0,rfl,fun i hi=>?_⟩,fun p=>⟨j,rfl,n,k,u,by omega⟩⟩,fun _=>⟨s,d⟩⟩;rw[Nat.zero_add];exact c _ _ (zFU l i hi)
 ·obtain rfl:l = []:=List.length_eq_zero_iff.1 (by omega);obtain⟨a,rfl⟩:=B rfl;exact⟨0,⟨q,a,0,rfl,Nat.le_refl _,fun h=>absurd h j,fun d=>absurd d (Nat.lt_irrefl _)⟩,fun h=>absurd h j⟩
def GV(p:A8)(a b c d:Int)(n:Nat):Prop:=¬(CT p a b n=CT p c d n/\Cb p a b n=Cb p c d n)
instance (p:A8) (a b c d:Int) (n:Nat):Decidable (GV p a b c d n):=by unfold GV;infer_instance
def FJ(p:A8)(a b c d:Int):Nat->List Int
 | 0=>[]
 | n+1=>if GV p a b c d n then FJ p a b c d n ++ [(n:Int)] else FJ p a b c d n
theorem Ya{a b d:Int}(h:GV p a b c d n):FJ p a b c d (n+1)=FJ p a b c d n ++ [(n:Int)]:=if_pos h
theorem RF{a b d:Int}(h:¬GV p a b c d n):FJ p a b c d (n+1)=FJ p a b c d n:=if_neg h
theorem RL(p:A8)(a b c d:Int):∀n,(FJ p a b c d n).length<=n
 | 0=>Nat.le_refl _
 | n+1=>by
  have:=RL p a b c d n;by_cases h:GV p a b c d n
  ·rw[Ya h,List.length_append];simp;omega
  ·rw[RF h];omega
theorem Ys(p:A8)(a b:Int):∀n,FJ p a b a b n = []
 | 0=>rfl
 | n+1=>by
  rw[RF (by unfold GV;exact fun h=>h ⟨rfl,rfl⟩),Ys p a b n]
def Kd(l:List Int)(w:World)(e:Ending)(w':World):Prop:=∃v,e = .returned v/\DU w' w.heap.size v l/\Below w.heap.size w w'
end Go.Proofs.YtibhefllijahkaaGreatDoor
