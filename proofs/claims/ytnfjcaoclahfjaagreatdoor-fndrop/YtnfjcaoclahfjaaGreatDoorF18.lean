/- A part of the proof. -/
import Derived.Test.YtnfjcaoclahfjaaGreatDoorF17
import Derived.WideKeyEntry
set_option linter.unusedVariables false
set_option maxRecDepth 20000
set_option maxHeartbeats 4000000
namespace Go.Proofs.YtnfjcaoclahfjaaGreatDoor
open Go.RowKit Go.Shelf
variable{p:A7}
theorem zE0{xs xb:Int}(h:Nil xs xb\/LQ p xs xb):LH p Nil xs xb:=by
 rcases h with h | h
 ·exact Or.inl h
 ·refine Or.inr ⟨h.1,fun i hi=>?_⟩;have a:=h.2.1;exact⟨by unfold AL B7;rw[if_neg (by omega)],by unfold AW B7;rw[if_neg (by omega)]⟩
theorem zd{rs rb:Int}(h:An p rs rb):LH p (LH p (LH p Nil)) rs rb:=by
 rcases h with h | ⟨h,c,_⟩
 ·exact Or.inl h
 ·refine Or.inr ⟨h.1,fun i hi=>?_⟩;rcases c.1 i hi with h | ⟨h,b⟩
  ·exact Or.inl h
  ·exact Or.inr ⟨h.1,fun j a=>zE0 (b.1 j a)⟩
theorem zC6{β : Type}{W0:Nat}{J:β->World->Prop}(h:AbidesFrom W0 J):∀s W a,J s W->Below W.heap.size W a->J s a:=fun s W a hs b=>
 h s W a none hs (Fq b none) (fun r e=>by cases e)
variable{w:World}{v:Value}{n:Nat}
theorem BU.keep{w':World}{lo hi n₀:Nat}{f:Nat->AG}(h:BU w lo hi v n f)(a:Below n₀ w w')(c:hi<=n₀):BU w' lo hi v n f:=
 h.same (fun k _ b=>a.block k (by omega))
theorem zDl(n₀ B n l H G lo hi:Nat)(p:A7)(sv v1 Y Z:Value)(V X:Int)(rs rb:Int)(J Jx:List Fv->World->Prop)(hn:n₀<=B)(Q:hi<=n₀)(D:AX p)(O:An p rs rb)
 (I:∀s W b,J s W->Below W.heap.size W b->J s b)
 (L:∀pre x W,J pre W->pre.length<(FT p rs rb).length->YieldAt Fence.wide (n - 1) Tryz.prog l (L3 x) W fun e b=>(e = .returned (.bool true)/\J (pre ++ [x]) b/\CE n₀ B W b)\/(e = .returned (.bool false)/\Jx (pre ++ [x]) b))
 (W:World) (N:B<=W.heap.size) (U:Af W H sv v1 (.int .i64 V) (.int .i64 X) Y Z) (T:Ad W G (.int .i64 rs) (.int .i64 rb)) (K:BU W lo hi sv p.n p.s) (M:J [] W) :
 CallsIn Fence.wide n Tryz.prog 133 #[.func (.yield l) #[] #[],.pointer (some ⟨H,0,none⟩),.pointer (some ⟨G,0,none⟩)] W fun e b=>(∃v,e = .returned v)/\((∃ys:List Fv,ys.map (·.1)=FT p rs rb/\J ys b)\/(∃q,True/\Jx q b)):=by
 have E:∀k:Nat,(Fence.wide.depth.isSome=true->1<=k):=fun k h=>by simp[Fence.wide]at h
 obtain⟨a,c,rfl⟩:∃a c,sv = .slice a p.n c:=by obtain⟨_,a,c,h,_⟩:=K;exact⟨a,c,h⟩
 have o:=zDt n₀ B (FT p rs rb).length l p (.slice a p.n c) (fun s W=>J s W/\BU W lo hi (.slice a p.n c) p.n p.s) Jx hn (fun s W b h r=>⟨I s W b h.1 r,h.2.A1 r⟩) 3 511 ⟨a,p.n,c,rfl⟩;have d:∀s W b,(J s W/\BU W lo hi (.slice a p.n c) p.n p.s)->Below W.heap.size W b->(J s b/\BU b lo hi (.slice a p.n c) p.n p.s):=fun s W b h r=>⟨I s W b h.1 r,h.2.A1 r⟩
 have f:∀m pre x W,(J pre W/\BU W lo hi (.slice a p.n c) p.n p.s)->pre.length<(FT p rs rb).length->B<=W.heap.size->YieldAt Fence.wide m Tryz.prog l (L3 x) W fun e b=>(e = .returned (.bool true)/\(J (pre ++ [x]) b/\BU b lo hi (.slice a p.n c) p.n p.s)/\CE n₀ B W b)\/(e = .returned (.bool false)/\Jx (pre ++ [x]) b):=fun m pre x W z R _=>
  zDw m (YieldAt.mono (L pre x W z.1 R) fun e b h=>h.elim (fun ⟨P,h1,h2⟩=>.inl ⟨P,⟨h1,z.2.keep h2.1 Q⟩,h2⟩) .inr)
 have j:=Qg n₀ B (FT p rs rb).length l p (.slice a p.n c) lo hi _ Jx hn D d (fun s W h=>h.2) f 2 63 (by omega) (by omega) (by omega) _ _ o;have i:=Qg n₀ B (FT p rs rb).length l p (.slice a p.n c) lo hi _ Jx hn D d (fun s W h=>h.2) f 1 7 (by omega) (by omega) (by omega) _ _ j;have g:=Qg n₀ B (FT p rs rb).length l p (.slice a p.n c) lo hi _ Jx hn D d (fun s W h=>h.2) f 0 0 (by omega) (by omega) (by omega) _ _ i;have u:=g (n - 1) 0 rs rb [] W (zd O) (by omega) (by omega) N ⟨M,K⟩ (by rw[List.length_nil,Nat.zero_add];exact Nat.le_refl _);clear o j i g L f d;obtain⟨x0,x1,x2,x3,x4,x5⟩:=U.c;obtain⟨⟨y0,-⟩,⟨y1,-⟩⟩:=T;refine callsIn_of_wp Tryz.func133 rfl trivial ?_ rfl;simp only[Tryz.ntmps133,List.size_toArray,List.length_cons,List.length_nil,Nat.reduceAdd,Nat.reduceSub,Array.replicate_succ,Array.replicate_zero,List.push_toArray,List.append_toArray,List.nil_append,List.cons_append]
 gi_wp2
 refine⟨trivial,E _,u.mono ?_⟩;rintro e W1 ⟨t,rfl,w,y⟩;have A:=AV w;have C:=AV y;clear w y u
 gi_wp2
 go_end0;refine⟨⟨_,rfl⟩,?_⟩;cases t
 ·obtain⟨q,S⟩:=C.out rfl;exact .inr ⟨q,trivial,S⟩
 ·obtain⟨⟨ys,F,z⟩,_⟩:=A.out rfl;exact .inl ⟨ys,F,by simpa using z.1⟩
open Go.Maps
theorem Y9(a v1 b c:Value)(W:A4)(rs rb:Int)(w:World) :
 Calls Tryz.prog 77 #[Bh a v1 b c W,.agg #[.int .i64 rs,.int .i64 rb]] w fun e w'=>e = .returned (.func (.func 133) #[] #[.pointer (some ⟨w.heap.size,0,none⟩),.pointer (some ⟨w.heap.size+1,0,none⟩)])/\Af w' w.heap.size a v1 (.int .i64 W.time) (.int .i64 W.next) b c/\Ad w' (w.heap.size+1) (.int .i64 rs) (.int .i64 rb)/\Below w.heap.size w w'/\w'.heap.size=w.heap.size+2:=by
 have j:=A9 w (.cells #[a,v1,.int .i64 W.time,.int .i64 W.next,b,c] 30);have f:=A9 (w.alloc (.cells #[a,v1,.int .i64 W.time,.int .i64 W.next,b,c] 30)) (.cells #[.int .i64 rs,.int .i64 rb] 40);have g:=AV ((Af.new w a v1 (.int .i64 W.time) (.int .i64 W.next) b c 30).A1 f);have d:=Ad.new (w.alloc (.cells #[a,v1,.int .i64 W.time,.int .i64 W.next,b,c] 30)) (.int .i64 rs) (.int .i64 rb) 40;rw[World.size_alloc]at d;have h:=AV d;have i:=AV (show((w.alloc (.cells #[a,v1,.int .i64 W.time,.int .i64 W.next,b,c] 30)).alloc (.cells #[.int .i64 rs,.int .i64 rb] 40)).heap.size=w.heap.size+2 by rw[World.size_alloc,World.size_alloc]);clear d;have k:∀(fn:Fn) (first cap:Array Value) (w:World),(Instr.makeFunc fn first cap).run Tryz.prog w = .ok (.func fn first cap) w:=fun _ _ _ _=>rfl
 go_enter Tryz.func77,Tryz.ntmps77;go_wp2;go_ret;exact⟨rfl,g.out,h.out,A8 j f,i.out⟩
theorem YB(n₀ B n c b lo hi:Nat)(p:A7)(sv v1 f g:Value)(d e rs rb:Int)(w:World)(hn:n₀<=B)(u:B<=w.heap.size)(q:hi<=n₀)(j:AX p)(m:An p rs rb)(t:Af w c sv v1 (.int .i64 d) (.int .i64 e) f g)(r:Ad w b (.int .i64 rs) (.int .i64 rb))(k:BU w lo hi sv p.n p.s) :
 SeqStopsK Fence.wide n Tryz.prog 133 #[.pointer (some ⟨c,0,none⟩),.pointer (some ⟨b,0,none⟩)] L3 (CE n₀ B) (fun ys=>ys.map (·.1)=FT p rs rb) (fun _=>True) (FT p rs rb).length w:=fun l J Jx W a i _ o h=>
 zDl n₀ B n l c b lo hi p sv v1 f g d e rs rb J Jx hn q j m (zC6 i) o W (by have:=a.size;omega) (t.A1 a) (r.A1 a) (k.A1 a) h
variable{row:Option Nat}{b:Nat}
theorem FF{B:Nat}{X Y:World}{o:Nat}(h:AF X b o v)(j:X.grownBy Y row)(k:∀r,row=some r->B<=r/\∃ob:Obj,X.heap[r]?=some ob/\ob.isCells=false):AF Y b o v:=by
 obtain⟨ob,g,i⟩:=Yf h.1;have c:some b≠row:=fun e=>by
  obtain⟨_,ob',d,f⟩:=k b e.symm;rw[g]at d;cases d;rw[i]at f;exact absurd f (by simp)
 have e:=j.block b h.lt c;exact⟨(World.cell?_of_block (a:=⟨b,o,none⟩) e).trans h.1,(World.frozen?_of_block (a:=⟨b,o,none⟩) e).trans h.2⟩
theorem zBe{n₀ B:Nat}{W:World}{o:Nat}(a:n₀<=b)(d:b<B)(v:Value):CE n₀ B W (W.setCell ⟨b,o,none⟩ v):=
 ⟨(Below.refl n₀ W).setCell (p:=⟨b,o,none⟩) a v,fun k ob e c _=>(Below.heap_setCell W ⟨b,o,none⟩ v k (by simp;omega)).trans c⟩
theorem Uy{L:Int}{G:Int->Int->Int->List Dp}{m:Nat}(h:∀num xs xb,(G num xs xb).length<=m)(num xs xb:Int):(Fx p L G num xs xb).length<=1+m*8:=by
 unfold Fx;by_cases hn:Nil xs xb
 ·rw[if_pos hn];simp
 ·rw[if_neg hn,List.length_cons];have:=UU (f:=fun i=>G (num*8+i) (AL (p.s xs.toNat) i) (AW (p.s xs.toNat) i)) (fun i=>h _ _ _) 8;omega
theorem V1(p:A7)(rs rb:Int):(FT p rs rb).length<=73:=by
 have b:∀num xs xb,(L7 p num xs xb).length<=1:=fun num xs xb=>by
  rw[U9];by_cases hn:Nil xs xb
  ·rw[if_pos hn];simp
  ·rw[if_neg hn];simp
 have a:∀num xs xb,(Md p num xs xb).length<=9:=fun num xs xb=>Uy b num xs xb
 exact Uy a 0 rs rb
theorem zGr:Tryz.prog.underlying 114=some (.map 40 2):=by kernel_rfl
theorem zIv(w:World):(zeroValue 2).run Tryz.prog w = .ok (.int .i64 0) w:=by kernel_rfl
variable{M:Nat}{D:DataW Value}{key:Value}{kl:Lit}
theorem Uh(h:w.ownsMap Tryz.prog 40 Bz M n D){c:Int}(f:keyOf Tryz.prog 40 key=some kl)(b:D.atKey kl (.held (.int .i64 0)) = .held (.int .i64 c)) :
 (Instr.lookup 114 (.map (some M)) key false).run Tryz.prog w = .ok (.int .i64 c) w:=by
 obtain⟨g,ps,a,hv⟩:=h.lookup Jz zGr (zIv w) (F9 _) f;have d:=Ja hv;rw[b]at d;have e:=DataW.held.inj d;rw[e];exact a
def qk(P:Int×Int->Prop)(D:DataW Value):Prop:=∀s b kl,keyOf Tryz.prog 40 (.agg #[.int .i64 s,.int .i64 b])=some kl->∃c:Int,D.atKey kl (.held (.int .i64 0)) = .held (.int .i64 c)/\(c=0↔¬P (s,b))
def T4(P:Int×Int->Prop)(w:World)(e:Ending)(w':World):Prop:=∃M n D,e = .returned (.map (some M))/\w'.ownsMap Tryz.prog 40 Bz M n D/\w.heap.size<=M/\M<w'.heap.size/\qk P D/\Below w.heap.size w w'
open Classical in
noncomputable def Df(P:Int×Int->Prop)(l:List (Int×Int)):Nat:=(l.filter (fun x=>¬P x)).length
variable{P:Int×Int->Prop}{l:List (Int×Int)}{x:Int×Int}
theorem Xh(h:¬P x):Df P (l ++ [x])=Df P l+1:=by
 unfold Df;rw[List.filter_append,List.length_append];simp[h]
theorem V4(h:P x):Df P (l ++ [x])=Df P l:=by
 unfold Df;rw[List.filter_append,List.length_append];simp[h]
theorem Vw(P:Int×Int->Prop)(l:List (Int×Int)):Df P l<=l.length:=List.length_filter_le _ _
theorem zC7(f v1 g j:Value)(lo hi:Nat)(W:A4)(rs rb:Int)(ov:Value)(P:Int×Int->Prop)(w:World)(h:BM w lo hi f v1 g j W)(hh:hi<=w.heap.size)(hR:AX W.pool)(hT:An W.pool rs rb)
 (hW:∀w',Below w.heap.size w w'->Calls Tryz.prog 76 #[Bh f v1 g j W,ov] w' (T4 P w')) :
 Calls Tryz.prog 29 #[Bh f v1 g j W,.agg #[.int .i64 rs,.int .i64 rb],ov] w fun e w'=>e = .returned (.int .i64 (Df P (AE W.pool rs rb)))/\Below w.heap.size w w':=by
 have mC:∀k:Nat,(Fence.wide.depth.isSome=true->1<=k):=fun k h=>by simp[Fence.wide]at h
 have Hp:=AV h;clear h;have r:=A9 w (.cells #[f,v1,.int .i64 W.time,.int .i64 W.next,g,j] 30);have b:=A9 (w.alloc (.cells #[f,v1,.int .i64 W.time,.int .i64 W.next,g,j] 30)) (.cells #[.int .i64 rs,.int .i64 rb] 40);have hA:=A8 r b;have HX:=AV ((Af.new w f v1 (.int .i64 W.time) (.int .i64 W.next) g j 30).A1 b);have S:=Ad.new (w.alloc (.cells #[f,v1,.int .i64 W.time,.int .i64 W.next,g,j] 30)) (.int .i64 rs) (.int .i64 rb) 40;rw[World.size_alloc]at S;have HY:=AV S;clear S r b;obtain⟨x0,x1,x2,x3,x4,x5⟩:=HX.out.c;refine(callsIn_wide (n:=3)).1 ?_;refine callsIn_of_wp_marks Tryz.func29 rfl trivial ?_ rfl;simp only[Tryz.ntmps29,List.size_toArray,List.length_cons,List.length_nil,Nat.reduceAdd,Nat.reduceSub,Array.replicate_succ,Array.replicate_zero,List.push_toArray,List.append_toArray,List.nil_append,List.cons_append]
 gi_wp2
 clear x0 x1 x2 x3 x4 x5;generalize (w.alloc (.cells #[f,v1,.int .i64 W.time,.int .i64 W.next,g,j] 30)).alloc (.cells #[.int .i64 rs,.int .i64 rb] 40)=W0 at hA HX HY ⊢;refine⟨trivial,(callsIn_wide.2 (hW W0 hA)).mono ?_⟩;rintro e a ⟨M,nm,D,rfl,hm,dA,eA,hD,t⟩;have bA:=A8 hA t;have T:=AV (HX.out.A1 t);have U:=AV (HY.out.A1 t);have Z:=AV hm;have nA:=AV hD;have HM:=AV (And.intro dA eA);have sA:=AV (show W0.heap.size<=a.heap.size/\w.heap.size<=W0.heap.size from⟨t.size,hA.size⟩);clear hm hD dA eA t hA HX HY hW;have r:=A9 a (.cells #[.map (some M)] 114);have b:=A9 (a.alloc (.cells #[.map (some M)] 114)) (.cells #[.int .i64 0] 2);have o:=A8 r b;have v:AF (a.alloc (.cells #[.map (some M)] 114)) a.heap.size 0 (.map (some M)):=At (heap_alloc_new _ _) rfl;have y:AF ((a.alloc (.cells #[.map (some M)] 114)).alloc (.cells #[.int .i64 0] 2)) (a.heap.size+1) 0 (.int .i64 0):=by
  have:=At (i:=0) (heap_alloc_new (a.alloc (.cells #[.map (some M)] 114)) (.cells #[.int .i64 0] 2)) rfl;rw[World.size_alloc]at this;exact this
 have C:=AV (v.A1 b);have E:=AV y;have F:=AV (T.out.A1 o);have G:=AV (U.out.A1 o);have I:=AV (Z.out.kept (Fq o none) (by simp));have J:=A8 bA o;have H:=AV (show((a.alloc (.cells #[.map (some M)] 114)).alloc (.cells #[.int .i64 0] 2)).heap.size=a.heap.size+2 by rw[World.size_alloc,World.size_alloc]);clear r b o v y T U Z bA;obtain⟨x0,x1,x2,x3,x4,x5⟩:=F.out.c;obtain⟨⟨y0,-⟩,⟨y1,-⟩⟩:=G.out
 gi_wp2
 clear x0 x1 x2 x3 x4 x5 y0 y1;generalize (a.alloc (.cells #[.map (some M)] 114)).alloc (.cells #[.int .i64 0] 2)=W2 at C E F G I J H ⊢;refine⟨trivial,(callsIn_wide.2 (Y9 f v1 g j W rs rb W2)).mono ?_⟩;rintro e w3 ⟨rfl,gA,fA,u,fB⟩;have mA:=AV (C.out.A1 u);have pA:=AV (E.out.A1 u);have tA:=AV (I.out.kept (Fq u none) (by simp));have cA:=A8 J u;have V:=AV (show w.heap.size<=W0.heap.size/\W0.heap.size<=M/\M<a.heap.size/\a.heap.size+4=w3.heap.size by have:=sA.out;have:=HM.out;have:=H.out;omega);have B:=YB w.heap.size w3.heap.size 2 W2.heap.size (W2.heap.size+1) lo hi W.pool f v1 g j W.time W.next rs rb w3 (by have:=V.out;omega) (Nat.le_refl _) hh hR hT gA fA (Hp.out.pool.1.A1 cA);clear u gA fA fB C E I J H F G
 gi_wp2
 have hN:=V1 W.pool rs rb;have hz:=V.out;refine wpIn_rangeFunc_ownH rfl (by omega) (gf:=133) (lb:=#[.pointer (some ⟨W2.heap.size,0,none⟩),.pointer (some ⟨W2.heap.size+1,0,none⟩)]) rfl trivial (enters_of Tryz.func133 (by kernel_rfl) rfl) B Jl (VJ (by omega)) (Below.refl _ _) (fun _=>rfl)
  (fun pre X=>((AF X a.heap.size 0 (.map (some M))/\AF X (a.heap.size+1) 0 (.int .i64 (Df P (pre.map (·.1.2)))))/\X.ownsMap Tryz.prog 40 Bz M nm D)/\Below w.heap.size w X)
  (fun _ _ _=>False)
  (fun s X Y row hs L O=>⟨⟨⟨FF hs.1.1.1 L O,FF hs.1.1.2 L O⟩,hs.1.2.kept L (fun e=>by have:=(O _ e.symm).1;omega)⟩,ownFrom_below (β:=Unit) (Nat.le_refl _) (by omega) () X Y row hs.2 L O⟩)
  (fun _ _ _ _ _ hs _ _=>hs)
  ⟨⟨⟨mA.out,pA.out⟩,tA.out⟩,cA⟩
  (fun x a' X=>∃Q,a.heap.size+1<Q/\Ad X Q (.int .i64 x.1.2.1) (.int .i64 x.1.2.2)/\a' = {tmps:=#[Bh f v1 g j W,.agg #[.int .i64 rs,.int .i64 rb],ov,.pointer (some ⟨w.heap.size,0,none⟩),.pointer (some ⟨w.heap.size+1,0,none⟩),undef,.int .i64 0,.pointer (some ⟨a.heap.size,0,none⟩),.pointer (some ⟨a.heap.size+1,0,none⟩),undef,.pointer (some ⟨Q,0,none⟩),.agg #[f,v1,.int .i64 W.time,.int .i64 W.next,g,j],ov,.map (some M),.agg #[f,v1,.int .i64 W.time,.int .i64 W.next,g,j],.agg #[.int .i64 rs,.int .i64 rb],.func (.func 133) #[] #[.pointer (some ⟨W2.heap.size,0,none⟩),.pointer (some ⟨W2.heap.size+1,0,none⟩)],.agg #[.int .i64 x.1.1.1,.int .i64 x.1.1.2],.agg #[.int .i64 x.1.2.1,.int .i64 x.1.2.2],undef,undef,undef,undef,undef,undef,undef],defers:=[]})
  (fun x a' _ X Y row hs L O=>by obtain⟨Q,h1,h2,h3⟩:=hs;exact⟨Q,h1,⟨FF h2.1 L O,FF h2.2 L O⟩,h3⟩)
  ?assign ?body ?done ?stop
 case assign=>
  rintro l pre x X K ⟨⟨⟨A,d⟩,z⟩,m⟩ hK;have R:=A9 X (.cells #[.int .i64 x.1.2.1,.int .i64 x.1.2.2] 40);have S:=Ad.new X (.int .i64 x.1.2.1) (.int .i64 x.1.2.2) 40;have HK:=AV (hK _ _ ((KeepsOthers.alloc _ _).from _) (CE.CX R m.size) ⟨⟨⟨A.A1 R,d.A1 R⟩,z.kept (Fq R none) (by simp)⟩,A8 m R⟩ ⟨X.heap.size,d.lt,S,rfl⟩);clear R S hK A d z m
  gi_wp2
  exact HK.out
 case body=>
  rintro l pre x a' X hl - ⟨⟨⟨A,d⟩,z⟩,m⟩ ⟨Q,jC,cB,rfl⟩ pC;obtain⟨kl,N⟩:=Q5 x.2.1 x.2.2.1;obtain⟨c,v,y⟩:=nA.out _ _ kl N;have oC:=Uh z N v;have e:(pre ++ [x]).map (·.1.2)=pre.map (·.1.2) ++ [x.1.2]:=(by simp);have hq:Df P (pre.map (·.1.2))<=73:=by
   have:=Vw P (pre.map (·.1.2));rw[List.length_map]at this;omega
  have HE:=AV e;have HI:=AV (And.intro A (And.intro d (And.intro z m)));have HC:=AV y;obtain⟨⟨b0,-⟩,⟨b1,-⟩⟩:=cB;obtain⟨c0,-⟩:=A;obtain⟨o0,of⟩:=d;clear z m v y N e B;by_cases iA:c=0
  ·subst iA;have HN:=AV (HC.out.1 rfl);have Hy:=AV (Xh (l:=pre.map (·.1.2)) HN.out);obtain⟨q,jA⟩:∃q,Df P (pre.map (·.1.2))=q:=⟨_,rfl⟩;rw[jA]at o0 hq
   gi_wp2
   obtain⟨A,d,z,m⟩:=HI.out;refine⟨(KeepsOthers.setCell _ _ _).from _,zBe (by omega) (by omega) _,⟨⟨A.other _ (.inl (by omega)),?_⟩,z.kept (grownBy_setCell' _ _ _) (by simp;omega)⟩,m.setCell (p:=⟨a.heap.size+1,0,none⟩) (by simp;omega) _⟩;rw[HE.out,Hy.out,jA];exact d.set _
  ·have HN:=AV (Classical.not_not.1 (fun hp=>iA (HC.out.2 hp)));have Hy:=AV (V4 (l:=pre.map (·.1.2)) HN.out)
   gi_wp2
   obtain⟨A,d,z,m⟩:=HI.out;refine⟨KeepsFrom.refl _ _,CE.refl _ _ _,⟨⟨A,?_⟩,z⟩,m⟩;rw[HE.out,Hy.out];exact d
 case done=>
  rintro Dd ys X hD eB ⟨⟨⟨A,d⟩,z⟩,m⟩ hK;have hv:ys.map (·.1.2)=AE W.pool rs rb:=by
   rw[<-V2,<-eB,List.map_map];rfl
  rw[hv]at d;obtain⟨o0,-⟩:=d
  gi_wp2
  refine⟨by simp,.inl ⟨_,_,rfl,run_takeDeferred hK,?_⟩⟩;exact⟨_,results_tmp rfl _ _ _,rfl,m.trans (belowK_b (w:=w) (Nat.le_refl _) X Dd _ _ (by omega) hK rfl rfl)⟩
 case stop=>
  rintro Dd c pre X _ _ h _;exact h.elim
open Go.ChangeMaps Go.MapKept
open Go.WideElems (Fit rd rg pl rd_val elemAt findIdx_arr findIdx_born modify_last set_self)
open Go.WideMaps (KeyLaw)
theorem zCo(w:World)(b:Nat)(o o':Obj):setBlock (setBlock w b o) b o'=setBlock w b o':=by simp[setBlock]
theorem zCi{o:Obj}(h:w.heap[b]?=some o):setBlock w b o=w:=by
 have e:w.heap.setIfInBounds b o=w.heap:=by
  apply Array.ext_getElem?;intro i;by_cases hi:i=b
  ·subst hi;rw[Array.getElem?_setIfInBounds_self_of_lt (Array.getElem?_eq_some_iff.1 h).1];exact h.symm
  ·rw[Array.getElem?_setIfInBounds_ne (fun e=>hi e.symm)]
 unfold setBlock;rw[e]
theorem zCx{es a:Array MapEntry}{c c':Nat}(d:w.heap[b]?=some (.map es c)):w.grownBy (setBlock w b (.map a c')) (some b):=
 ⟨rfl,rfl,rfl,by simp[setBlock],fun i _ hi=>heap_setBlock_other d _ (fun e=>hi (by rw[e]))⟩
variable{P:Program}
theorem Qp{k e t:TypeId}(h:w.ownsMap P k Bz b n D)(l:KeyLaw P k)(i:P.underlying t=some (.map k e))(hn:n<maxLen){z:Value}(I:∀u:World,(zeroValue e).run P u = .ok z u){val:Value} (a:keyOf P k key=some kl) (S:D.atKey kl (.held z) = .held v) :
 ∃(v0:Value) (Q:Nat) (J w2:World),(Instr.mapEntry t (.map (some b)) key).run P w = .ok (.tuple #[v0,goInt Q]) J/\(Instr.lookup t (.map (some b)) key false).run P J = .ok v J/\(Instr.entryStore t (.map (some b)) (goInt Q) val).run P J = .ok () w2/\w2.ownsMap P k Bz b (n+1) (D.put kl (.held val))/\w.grownBy J (some b)/\w.grownBy w2 (some b):=by
 have K:=Keyed.of_law l;obtain⟨w',E,q,U⟩:=h.update K i hn a (F9 val);obtain⟨wz,G,r,pA⟩:=h.update K i hn a (F9 z);have o:=h.lookup K i (I w) (F9 z) a;obtain⟨m,c,f,F,hs,hD⟩:=h;obtain⟨v0,Q,d,c1,g,sA,aA⟩:=WideElems.entry_then_store l i I f F a;have T:(setBlock w b (.map d c1)).heap[b]?=some (.map d c1):=heap_setBlock_same f _;obtain⟨R,c2,Z,bA⟩:=aA _ val T;have e2:setBlock (setBlock w b (.map d c1)) b (.map R c2)=w':=by
  rw[zCo];rw[bA]at E;injection E
 refine⟨v0,Q,setBlock w b (.map d c1),w',g,?_,by rw[<-e2];exact Z,q,zCx f,U⟩;obtain⟨v',ps,B,cA⟩:=o;have ev:v'=v:=by
  have L:=Ja cA;rw[S]at L;injection L with L;exact L.symm
 subst ev
 suffices hh:∀x:World,x=setBlock w b (.map d c1)->(Instr.lookup t (.map (some b)) key false).run P x = .ok v' x from hh _ rfl
 intro x H;rcases l.find w a m.toList F.keys with⟨N,A⟩ | ⟨j,e0,N,A,h3⟩
 ·
  have eA:setBlock w b (.map d c1)=wz:=by
   have p:(Instr.mapEntry t (.map (some b)) key).run P w = .ok (.tuple #[z,goInt c]) (setBlock w b (.map (m.push ⟨key,z,c⟩) (c+1))):=by
    simp[Instr.mapEntry,run_underlying i,MapKept.run_getObj_map f,l.check w false a,N,I,MapKept.run_setObj_map _ f,Result.andThen,setBlock]
   have O:(Instr.mapUpdate t (.map (some b)) key z).run P w = .ok () (setBlock w b (.map (m.push ⟨key,z,c⟩) (c+1))):=by
    simp[Instr.mapUpdate,run_underlying i,MapKept.run_getObj_map f,l.check w false a,N,MapKept.run_setObj_map _ f,Result.andThen,setBlock]
   rw[g]at p;rw[G]at O;injection p with _ p;injection O with _ O;rw[p,O]
  obtain rfl:x=wz:=H.trans eA;obtain⟨v2,tA,X,dA⟩:=r.lookup K i (I _) (F9 z) a;have M:=Ja dA;rw[atKey_put_same (show IsMap D from⟨_,hD⟩) (K.key a)]at M;replace M:=DataW.held.inj M;have e4:v'=z:=by
   have W:(Instr.lookup t (.map (some b)) key false).run P w = .ok z w:=by
    rcases Maps.fit_look false K i (I w) f F a with⟨C,_,_⟩ | ⟨e0,y,Y,V,_,_,_,_⟩
    ·exact C
    ·exact absurd V (A e0 Y)
   rw[W]at B;injection B with B _;exact B.symm
  subst M;subst e4;exact X
 ·
  have hj:m[j]?=some e0:=(by simpa using A);have s:m.modify j (fun e=>{e with key:=key})=m:=by
   apply Array.ext';rw[Array.toList_modify,modify_eq_set _ _ _ _ A];have:({e0 with key:=key}:MapEntry)=e0:=(by rw[<-h3]);rw[this];exact set_self _ _ _ A
  have p:(Instr.mapEntry t (.map (some b)) key).run P w = .ok (.tuple #[e0.val,goInt e0.born]) (setBlock w b (.map m c)):=by
   simp[Instr.mapEntry,run_underlying i,MapKept.run_getObj_map f,l.check w false a,N,hj,h3,l.stays w a,s,MapKept.run_setObj_map _ f,Result.andThen,setBlock]
  rw[g,zCi f]at p;obtain rfl:x=w:=H.trans (Result.ok.inj p).2;exact B
theorem X2 (W : A4) (m : DJ) : (CS W m).length <= 73 := by
 unfold CS Dv treeM;exact Nat.le_trans (List.length_filter_le _ _) (D7 _ _ _)
theorem VG (W : A4) : ∀ k, (Aw W k).length <= 73 * k
 | 0 => by simp[Aw]
 | k + 1 => by
   have a := VG W k;have b := X2 W (A6 W k);unfold Aw;rw[List.length_append];omega
theorem VH (W : A4) {k : Nat} : ∀ {n : Nat}, k <= n -> ∃ l, Aw W n = Aw W k ++ l
 | 0, h => ⟨[], by obtain rfl : k = 0 := by omega
                   simp⟩
 | n + 1, h => by
   by_cases e : k = n + 1
   · subst e;exact ⟨[], by simp⟩
   · obtain ⟨l, a⟩ := VH W (k := k) (n := n) (by omega)
     exact ⟨l ++ CS W (A6 W n), by rw[show Aw W (n + 1) = Aw W n ++ CS W (A6 W n) from rfl, a, List.append_assoc]⟩
theorem zEO (W : A4){k j:Nat} (c : k < n) (a : j < (CS W (A6 W k)).length) : (Aw W k).length + j < (Aw W n).length /\ (Aw W n).getD ((Aw W k).length + j) (0, 0) = (CS W (A6 W k)).getD j (0, 0) := by
 obtain ⟨l, b⟩ := VH W (k := k + 1) (n := n) (by omega);rw[b, show Aw W (k + 1) = Aw W k ++ CS W (A6 W k) from rfl];constructor
 · simp only[List.length_append];omega
 · rw[List.getD_eq_getElem?_getD, List.getD_eq_getElem?_getD, List.append_assoc, List.getElem?_append_right (by omega), show (Aw W k).length + j - (Aw W k).length = j by omega, List.getElem?_append_left a]
def L8 (x : Int × Int) : Value := .agg #[.int .i64 x.1, .int .i64 x.2]
/-- The keys of the homes, one behind the other. -/
structure EW (W : A4) (key : Nat -> Lit) : Prop where
 ok : Gy key
 at_ : ∀ i, i < (Aw W (memN W)).length -> keyOf Tryz.prog 40 (L8 ((Aw W (memN W)).getD i (0, 0))) = some (key i)
variable{W:A4}{x:Int × Int}
theorem zCD (a : AX W.pool) (b : ∀ i, i < memN W -> An W.pool (A6 W i).rs (A6 W i).rb) (c : x ∈ Aw W (memN W)) : BA W.pool x.1 x.2 := by
 obtain ⟨i, hi, h⟩ := M8.1 c;unfold CS Dv treeM at h;exact (EY a (b i hi) (List.mem_filter.1 h).1).1
variable{i:Nat}
theorem zEI {l : List (Int × Int)} (h : i < l.length) : l.getD i (0, 0) ∈ l := by
 rw[List.getD_eq_getElem?_getD, List.getElem?_eq_getElem h, Option.getD_some];exact List.getElem_mem h
theorem yu (c : AX W.pool) (k : ∀ i, i < memN W -> An W.pool (A6 W i).rs (A6 W i).rb) : ∃ key, EW W key := by
 have a : ∀ i, ∃ l, WideAt.IsKeyLit l /\ (i < (Aw W (memN W)).length -> keyOf Tryz.prog 40 (L8 ((Aw W (memN W)).getD i (0, 0))) = some l) := fun i => by
  by_cases b : i < (Aw W (memN W)).length
  · have d := zCD c k (zEI b)
    generalize (Aw W (memN W)).getD i (0, 0) = x at d ⊢;have f := (Ep c d).1;have e := c.1;obtain ⟨o, p, q, j⟩ := d;rw[j]at f;obtain ⟨m, n⟩ := f;obtain ⟨l, g⟩ := Q5 (x := x.1) (y := x.2) (WalkArith.wf_i64 (by omega)) (WalkArith.wf_i64 (by omega));exact ⟨l, Jz.key g, fun _ => g⟩
  · exact ⟨.string [], trivial, fun h => absurd h b⟩
 exact ⟨fun i => (a i).choose, fun i => (a i).choose_spec.1, fun i => (a i).choose_spec.2⟩
theorem zDO{y:Int × Int} (h : L8 x = L8 y) : x = y := by
 unfold L8 at h;simp only[Value.agg.injEq, Array.mk.injEq, List.cons.injEq, Value.int.injEq, true_and, and_true]at h;exact Prod.ext h.1 h.2
variable{key:Nat -> Lit}
theorem EW.same (h : EW W key){j:Nat} (hi : i < (Aw W (memN W)).length) (c : j < (Aw W (memN W)).length) : key i = key j ↔ (Aw W (memN W)).getD i (0, 0) = (Aw W (memN W)).getD j (0, 0) := by
 have a := h.at_ i hi;have b := h.at_ j c;constructor
 · intro e
   rw[e]at a;exact zDO (Jz.inj a b)
 · intro e
   rw[e, b]at a;exact (Option.some.inj a).symm
theorem EW.dist (h : EW W key) : Gv (Aw W (memN W)).length key ↔ (Aw W (memN W)).Nodup := by
 rw[List.Nodup, List.pairwise_iff_getElem];have a : ∀ i (hi : i < (Aw W (memN W)).length), (Aw W (memN W)).getD i (0, 0) = (Aw W (memN W))[i] := fun i hi => by rw[List.getD_eq_getElem?_getD, List.getElem?_eq_getElem hi, Option.getD_some]
 constructor
 · intro b i j hi d c e
   refine b j d i c ((h.same hi d).2 ?_);rw[a i hi, a j d];exact e
 · intro b i hi k f e
   have := (h.same (by omega) hi).1 e;rw[a k (by omega), a i hi]at this;exact b k i (by omega) hi f this
/-- The map behind the first p homes. -/
def K9 (key : Nat -> Lit) (p : Nat) : DataW Value := putD key (fun _ => .int .i64 1) p
variable{p:Nat}
theorem EW.new (hn : ∀ i, i < p -> key i ≠ key p) (h : EW W key) : (K9 key p).atKey (key p) (.held (.int .i64 0)) = .held (.int .i64 0) := R2 h.ok _ hn _
theorem EW.old (hi : i < p) (d : key i = key p) (c : Gv p key) (h : EW W key) : (K9 key p).atKey (key p) (.held (.int .i64 0)) = .held (.int .i64 1) := by
 rw[<- d];exact NS h.ok _ _ p i hi (fun j a b e => c j b i a e.symm)
theorem EW.put (h : EW W key) (p : Nat) (v : Value) : ((K9 key p).put (key p) (.held v)).atKey (key p) (.held (.int .i64 0)) = .held v := atKey_put_same (Kn h.ok _ p).isMap (h.ok p) _ _
theorem EW.not_nodup (hi : i < p) (b : p < (Aw W (memN W)).length) (a : key i = key p) (h : EW W key) : ¬ (Aw W (memN W)).Nodup := fun hn => h.dist.2 hn p b i hi a
theorem EW.size (h : EW W key) (a : Gv p key) : Maps.size (K9 key p) = p := (R3 h.ok _ p).2.2 a
theorem zDA(A v1:Value)(lo hi:Nat)(p:A7)(w:World)(E:DU w lo hi A v1 p) :
 Calls Tryz.prog 131 #[.agg #[A,v1]] w fun e w'=>e = .returned (.int .i64 (Mf p))/\Below w.heap.size w w':=by
 have B:Hid (DU w lo hi A v1 p):=E;obtain⟨⟨N,a,c,rfl,V,K⟩,⟨O,D,c',rfl,P,L⟩⟩:=E;unfold maxLen at N O;clear K L;have v:=A9 w (.cells #[.slice a p.n c,.slice D p.hn c'] 26);go_enter Tryz.func131,Tryz.ntmps131;go_wp2_with fail;refine(Rb _ _ lo hi p _ (B.out.A1 v)).mono ?_;rintro e H ⟨⟨t,rfl,f⟩,d⟩;have J:Hid (Ad H w.heap.size (.slice a p.n c) (.slice D p.hn c')):=(Ad.new w _ _ _).A1 d;have j:=A8 v d;clear v d;by_cases g:AX p
 ·obtain rfl:t=true:=f.2 g;have r:Hid (AX p):=g;have z:(p.n:Int)<=200:=(by have:=g.1;omega);clear f g;obtain⟨⟨y0,y1⟩,⟨S,T⟩⟩:=J.out;have u:Hid (Mf p=(roomN p.s p.n:Int)):=if_pos r.out;have I:Hid (Below w.heap.size w H):=j;go_wp2;clear y0 y1 S T j
  go_loopw [3,12] (fun m i wr=>∃k:Nat,k<=p.n/\i = .int .i64 k/\m = .int .i64 (roomN p.s k:Int)/\Below w.heap.size w wr) (fun _ i _=>p.n - (intOf i).toNat)
  case atStart=>exact⟨0,Nat.zero_le _,rfl,rfl,I.out⟩
  case round=>
   obtain⟨k,U,rfl,rfl,x⟩:=hrel;have M:=Ng p.s k;by_cases y:k<p.n
   ·have F:(k:Int)<(p.n:Int):=(by omega);obtain⟨b,off,G,kc,rfl,hs⟩:=(B.out.1.A1 x).cells y;have C:Hid (Jh wr b (off+k*3) lo hi G kc (p.s k)):=hs;obtain⟨Q,q1,R,_⟩:=hs;go_wp2_with fail;have h:=A9 wr (.cells #[.int .i64 (p.s k).birth,.slice G (p.s k).kn kc,.string (p.s k).data] 108);refine(ON _ _ _ lo hi (p.s k) _ (C.out.slot.A1 h)).mono ?_;rintro e W ⟨⟨t,rfl,f⟩,d⟩;have o:=A8 x (A8 h d);clear d Q q1 R C h;by_cases l:Am (p.s k)
    ·obtain rfl:t=true:=f.2 l;have q:Hid (Am (p.s k)):=l;clear f l;go_wp2;go_roundw
     case rel=>exact⟨k+1,by omega,by go_num,congrArg (Value.int .i64) (by rw[Jo q.out];omega),o⟩
     case measure=>simp[intOf];omega
    ·obtain rfl:t=false:=Bb f l;have q:Hid (¬Am (p.s k)):=l;clear f l;go_wp2;go_roundw
     case rel=>exact⟨k+1,by omega,by go_num,congrArg (Value.int .i64) (by rw[Ir q.out]),o⟩
     case measure=>simp[intOf];omega
   ·obtain rfl:k=p.n:=(by omega);go_wp2;go_ret;exact⟨by rw[u.out];rfl,x⟩
 ·obtain rfl:t=false:=Bb f g;have r:Hid (¬AX p):=g;clear f g;go_wp2;go_ret;refine⟨?_,j⟩;have e:Mf p=0:=if_neg r.out;rw[e];rfl
variable{w1:World}
theorem Jj{k:TypeId}{g o:Nat}(c:w.grownBy w1 (some M))(d:w.ownsMap P k Bz M n D)(h:w.cell? ⟨g,o,none⟩=some v):w1.cell? ⟨g,o,none⟩=some v:=by
 refine(c.cell_far ⟨g,o,none⟩ (AM h) ?_).trans h;intro e;simp only[Option.some.injEq]at e;subst e;obtain⟨f,a,b,-⟩:=d;simp[World.cell?,b]at h
theorem Jg{w2:World}(h:w.grownBy w1 row)(k:w1.grownBy w2 row):w.grownBy w2 row:=
 ⟨k.os.trans h.os,k.tape.trans h.tape,k.output.trans h.output,Nat.le_trans h.size k.size,fun i hi a=>(k.block i (Nat.lt_of_lt_of_le hi h.size) a).trans (h.block i hi a)⟩
variable{vd:Nat->Value}
theorem Ia.side{kt:TypeId}{lo hi:Nat}(h:Ia w lo hi v W vd)(a:w.grownBy w1 (some M))(b:w.ownsMap P kt Bz M n D)(i:Nat)(d:i<memN W) :
 ∃g c,v = .slice (some ⟨g,0,none⟩) (memN W) c/\w1.cell? ⟨g,i*5,none⟩=some (.int .i64 (A6 W i).A5)/\w1.cell? ⟨g,i*5+1,none⟩=some (.int .i64 (A6 W i).time)/\w1.cell? ⟨g,i*5+2,none⟩=some (.int .i64 (A6 W i).rs)/\w1.cell? ⟨g,i*5+3,none⟩=some (.int .i64 (A6 W i).rb)/\w1.cell? ⟨g,i*5+4,none⟩=some (vd i):=by
 obtain⟨g,c,e,f,j,k,l,m⟩:=h.cells i d;exact⟨g,c,e,Jj a b f,Jj a b j,Jj a b k,Jj a b l,Jj a b m⟩
theorem Af.side{a0 a1 a2 a3 a4 a5:Value}(h:Af w b a0 a1 a2 a3 a4 a5)(d:w.grownBy w1 (some M))(c:b≠M):Af w1 b a0 a1 a2 a3 a4 a5:=by
 obtain⟨f,g,i,j,k,l⟩:=h;have a:∀{o:Nat} {v:Value},AF w b o v->AF w1 b o v:=fun a=>⟨(d.cell_far _ (AM a.1) (fun e=>c (Option.some.inj e))).trans a.1,(d.frozen_far _ (AM a.1) (fun e=>c (Option.some.inj e))).trans a.2⟩
 exact⟨a f,a g,a i,a j,a k,a l⟩
theorem zB2(v:Value)(s:AT)(w:World):(Instr.field 43 (BX v s) 4).run Tryz.prog w = .ok (.int .i64 s.time) w:=by kernel_rfl
theorem Rp:Go.WideMaps.KeyLaw Tryz.prog 40:=deep_law_laid Ro (m:=5) (by decide) (Rk (by kernel_rfl)) (by kernel_rfl) (by kernel_rfl)
theorem KH:Tryz.prog.underlying 114=some (.map 40 2):=by kernel_rfl
theorem Mk(w:World):(zeroValue 2).run Tryz.prog w = .ok (.int .i64 0) w:=by kernel_rfl
theorem wrap_small{n:Int}(c:-9223372036854775808<=n)(d:n<9223372036854775808):IntKind.i64.wrap n=n:=by
 unfold IntKind.wrap;simp only[IntKind.signed,IntKind.bits,Bool.true_and];split
 ·rename_i a
  have b:=of_decide_eq_true a;omega
 ·rename_i a
  have b:=of_decide_eq_false (Bool.eq_false_iff.2 a);omega
theorem zB8{N r h:Nat}(d:r<=n)(hn:n<=200)(c:h<=9223372036854775807):((N:Int) == IntKind.i64.wrap (IntKind.i64.wrap ((n:Int) - (r:Int)) - (h:Int)))=true↔N+r+h=n:=by
 have a:IntKind.i64.wrap ((n:Int) - (r:Int))=(n:Int) - (r:Int):=wrap_small (by omega) (by omega);rw[a];have b:IntKind.i64.wrap ((n:Int) - (r:Int) - (h:Int))=(n:Int) - (r:Int) - (h:Int):=wrap_small (by omega) (by omega);rw[b,beq_iff_eq];omega
theorem O3{ky:Value}(h:w.ownsMap Tryz.prog 40 Bz b n D)(a:keyOf Tryz.prog 40 ky=some kl)(d:D.atKey kl (.held (.int .i64 0)) = .held v):(Instr.lookup 114 (.map (some b)) ky false).run Tryz.prog w = .ok v w:=by
 obtain⟨f,ps,c,hv⟩:=h.lookup Jz KH (Mk w) (F9 _) a;have e:=Ja hv;rw[d]at e;obtain rfl:=DataW.held.inj e;exact c
theorem zCq(R v1 T U:Value)(lo hi:Nat)(W:A4)(A:Nat)(w:World)(h:BM w lo hi R v1 T U W)(hs:W.sn<=8)(hp:W.pn<=20)(hA:G8 w lo hi W A)(hD:EC W)(sC:F6 W)(hR:AX W.pool)(hT:Pr W)(eB:∀i,i<memN W->An W.pool (A6 W i).rs (A6 W i).rb) :
 Calls Tryz.prog 74 #[Bh R v1 T U W,JO A] w fun e w'=>AJ (LZ W) e/\Below w.heap.size w w':=by
 obtain⟨key,hK⟩:=yu hR eB;have X:=A3 hK;have Hp:=A3 h;have HA:=A3 hA;have HD:=A3 hD;have tD:=A3 sC;have HR:=A3 hR;have lD:=A3 hT;have mD:=A3 eB;clear h hA hD sC hR hT eB hK;have ha:=A9 w (.cells #[R,v1,.int .i64 W.time,.int .i64 W.next,T,U] 30);have HB:=A3 (Af.new w R v1 (.int .i64 W.time) (.int .i64 W.next) T U 30);have pB:(w.alloc (.cells #[R,v1,.int .i64 W.time,.int .i64 W.next,T,U] 30)).heap.size=w.heap.size+1:=World.size_alloc _ _;have hm:=World.ownsMap_made (w.alloc (.cells #[R,v1,.int .i64 W.time,.int .i64 W.next,T,U] 30)) Tryz.prog 40 Bz;rw[pB]at hm;have HM:=A3 hm;have Z:=A3 (HB.out.A1 (A9 _ (.map #[] 0)));have aA:=A3 (A8 ha (A9 _ (.map #[] 0)));have oG:=@run_makeMap Tryz.prog;obtain⟨x0,x2,x4,x6,x8,pE⟩:=Z.out.c;clear hm;go_enter Tryz.func74,Tryz.ntmps74;go_wp2_with fail;go_step3;go_wp2_with fail;go_step3;go_wp2_with fail;clear x0 x2 x4 x6 x8 pE ha HB;have cB:=A3 (show((w.alloc (.cells #[R,v1,.int .i64 W.time,.int .i64 W.next,T,U] 30)).alloc (.map #[] 0)).heap.size=w.heap.size+2 by rw[World.size_alloc,pB]);clear pB;generalize (w.alloc (.cells #[R,v1,.int .i64 W.time,.int .i64 W.next,T,U] 30)).alloc (.map #[] 0)=W0 at HM Z aA cB ⊢;refine(Oo R v1 T U lo hi W W0 (Hp.out.A1 aA.out) hs hp).mono ?_;rintro e w1 ⟨vm,vd,rfl,hm,J⟩;have tB:=A3 hm;have vB:=A3 (Z.out.A1 J);have sB:=A3 (HM.out.kept (Dg J none) (by simp));have bE:=A8 aA.out J;have hz:w.heap.size+2<=w1.heap.size:=by have h1:=J.size;have h2:=cB.out;omega
 obtain⟨am,cm,rfl,lG⟩:=id hm.Bv;have pG:memN W<=28:=by unfold memN;omega
 clear J hm Z aA HM cB;go_wp2
 go_loopw [6,15] (fun s i wr=>∃k:Nat,k<=memN W/\s = .bool true/\i = .int .i64 k/\wr.ownsMap Tryz.prog 40 Bz (w.heap.size+1) (Aw W k).length (K9 key (Aw W k).length)/\Gv (Aw W k).length key/\w1.grownBy wr (some (w.heap.size+1))/\Below w.heap.size w wr) (fun _ i _=>memN W - (intOf i).toNat)
 case atStart=>exact⟨0,Nat.zero_le _,rfl,rfl,sB.out,fun i hi=>absurd hi (Nat.not_lt_zero _),World.grownBy.refl _ _,bE⟩
 case round=>
  obtain⟨k,hk,rfl,rfl,z,L,M,hb⟩:=hrel;have b:=A3 z;have B:=A3 L;have d:=A3 M;clear z L M;by_cases O:k<memN W;rotate_left
  ·obtain rfl:k=memN W:=(by omega);obtain⟨⟨m0,a0,c0,rfl,nH,-⟩,⟨m1,a1,c1,rfl,oH,-⟩⟩:=id Hp.out.pool;have oB:=X.out.size B.out;have nC:=(b.out.kept (Dg ((Below.refl _ _).drew) none) (by simp)).len KH 3;rw[oB]at nC;have sD:=A3 oB;clear oB;have P:=Ng W.pool.s W.pool.n;have mA:=HR.out.1;unfold maxLen at m0 m1;have l:=A3 (vB.out.side d.out (by omega));obtain⟨x0,x1,x2,x3,x4,x5⟩:=l.out.c;have jD:=A3 (X.out.dist.1 B.out);have kE:Mf W.pool=(roomN W.pool.s W.pool.n:Int):=if_pos HR.out;generalize hN:(Aw W (memN W)).length=N at *;have HN:=A3 hN;clear hN;go_wp2_with fail;go_region_held3 (fun w'=>w'.cell? ⟨w.heap.size,0,none⟩=some (.slice a0 W.pool.n c0)/\w'.cell? ⟨w.heap.size,1,none⟩=some (.slice a1 W.pool.hn c1)/\(Builtin.len_ #[114] 3 #[.map (some (w.heap.size+1))]).run Tryz.prog w' = .ok (.int .i64 (N:Nat)) w') (go_keep)
    (first
     | (go_at_call 131;refine(zDA _ _ lo hi W.pool _ ((Hp.out.A1 hb).pool.A1 (Below.refl _ _).drew)).mono ?_;rintro e w5 ⟨rfl,eA⟩;have u:=Cs eA;obtain⟨⟨k0,_⟩,⟨k1,_⟩,_⟩:=l.out.A1 u;have mC:=(b.out.kept (Dg u none) (by simp)).len KH 3;rw[sD.out]at mC))
   have oA:=zB8 (N:=N) P mA (by omega:W.pool.hn<=9223372036854775807);have eC:=A3 oA;have eE:=A8 hb u;clear oA nC mC kE P mA;go_wp2
   try rw[Exit.noGoto_ret]
   go_ret;refine⟨⟨_,rfl,?_⟩,eE⟩;rw[eC.out];unfold LZ;rw[HN.out];exact⟨fun Y=>⟨jD.out,Y⟩,fun Y=>Y.2⟩
  have fF:(k:Int)<(memN W:Int):=(by omega);obtain⟨g,cg,e,q0,q1,q2,q3,q4⟩:=tB.out.side d.out sB.out k O;obtain⟨-,ad,cd,rC,-,-⟩:=id (tB.out.dead k O);rw[rC]at q4;cases e;have m:=A9 wr (.cells #[.int .i64 (A6 W k).A5,.int .i64 (A6 W k).time,.int .i64 (A6 W k).rs,.int .i64 (A6 W k).rb,.slice ad (A6 W k).dn cd] 143);have H:=A3 (Ez.new wr (.int .i64 (A6 W k).A5) (.int .i64 (A6 W k).time) (.int .i64 (A6 W k).rs) (.int .i64 (A6 W k).rb) (.slice ad (A6 W k).dn cd) 143);have l:=A3 ((vB.out.side d.out (by omega)).A1 m);have dA:=A8 hb m;have C:=A3 (b.out.kept (Dg m none) (by simp));have G:=A3 (Jg d.out (Dg m (some (w.heap.size+1))));have pA:=A3 (HA.out.A1 dA);have vA:=A3 (Hp.out.A1 dA);have vD:=A3 (tD.out k O);have sA:=A3 (mD.out k O);have aB:=A3 (lD.out (A6 W k).A5);have bB:=A3 (show CS W (A6 W k)=Dv (AE W.pool (A6 W k).rs (A6 W k).rb) (AB W (A6 W k).A5).time from rfl);have kA:=A3 (show(Aw W (k+1)).length=(Aw W k).length+(CS W (A6 W k)).length from List.length_append);have nD:=A3 (fun (j:Nat) (hj:j<(CS W (A6 W k)).length)=>zEO W (k:=k) (n:=memN W) O hj);have aE:=A3 (X2 W (A6 W k));have pD:=A3 (VG W k);clear rC m d b;generalize A6 W k=mk at *;go_wp2_with fail;clear q0 q1 q2 q3 q4;have I:=A3 (show w.heap.size+2<=(wr.alloc (.cells #[.int .i64 mk.A5,.int .i64 mk.time,.int .i64 mk.rs,.int .i64 mk.rb,.slice ad mk.dn cd] 143)).heap.size from Nat.le_trans hz G.out.size);generalize wr.alloc (.cells #[.int .i64 mk.A5,.int .i64 mk.time,.int .i64 mk.rs,.int .i64 mk.rb,.slice ad mk.dn cd] 143)=W2 at H l pA vA dA C G I ⊢;generalize wr.heap.size=V at H ⊢;obtain⟨⟨y0,-⟩,⟨y1,-⟩,⟨y2,-⟩,⟨y3,-⟩,⟨y4,-⟩⟩:=H.out;obtain⟨x0,x1,x2,x3,x4,x5⟩:=l.out.c;have lE:=D7 W.pool mk.rs mk.rb;have rA:=A3 (show C1 (AE W.pool mk.rs mk.rb).length (AI (AE W.pool mk.rs mk.rb)) (AK (AE W.pool mk.rs mk.rb))from Kt HR.out (fun x Y=>(EY HR.out sA.out Y).1) (Jr HR.out sA.out) (by omega));have fE:=Xo;have gE:=zB2;generalize fC:AB W mk.A5=S at aB bB ⊢;have gD:=A3 fC;clear fC;generalize iC:AE W.pool mk.rs mk.rb=tree at rA lE bB ⊢;have kD:=A3 iC;clear iC;go_region_held3 (fun w'=>w'.cell? ⟨w.heap.size,0,none⟩=some R/\w'.cell? ⟨w.heap.size,1,none⟩=some v1/\w'.cell? ⟨w.heap.size,2,none⟩=some (.int .i64 W.time)/\w'.cell? ⟨w.heap.size,3,none⟩=some (.int .i64 W.next)/\w'.cell? ⟨w.heap.size,4,none⟩=some T/\w'.cell? ⟨w.heap.size,5,none⟩=some U/\w'.cell? ⟨V,0,none⟩=some (.int .i64 mk.A5)/\w'.cell? ⟨V,2,none⟩=some (.int .i64 mk.rs)/\w'.cell? ⟨V,3,none⟩=some (.int .i64 mk.rb)) (go_keep)
   (first
    | (go_at_call 130;refine(Ky R v1 T U lo hi W mk.rs mk.rb _ ?_ HR.out sA.out).mono ?_;(exact vA.out.A1 (Below.refl _ _).drew);rintro e w5 ⟨vt,rfl,iA,eA⟩;rw[kD.out]at iA;obtain⟨cG,dG,rfl,-⟩:=C6 iA;have u:=Cs eA;obtain⟨⟨k0,_⟩,⟨k1,_⟩,⟨k2,_⟩,⟨k3,_⟩,⟨k4,_⟩,⟨k5,_⟩⟩:=l.out.A1 u;obtain⟨⟨l0,_⟩,_,⟨l2,_⟩,⟨l3,_⟩,_⟩:=H.out.A1 u)
    | (go_at_call 126;refine(Ji lo hi W A mk.A5 _ (pA.out.A1 u) HD.out vD.out hp).mono ?_;rintro e w6 ⟨aa,ca,rfl,jE,fB⟩;rw[gD.out];have cA:=A8 u fB;obtain⟨⟨f0,_⟩,⟨f1,_⟩,⟨f2,_⟩,⟨f3,_⟩,⟨f4,_⟩,⟨f5,_⟩⟩:=l.out.A1 cA;obtain⟨⟨g0,_⟩,_,⟨g2,_⟩,⟨g3,_⟩,_⟩:=H.out.A1 cA)
    | (go_at_call 103;refine(RX _ tree.length 0 _ (AI tree) (AK tree) S.time _ ((iA.A1 fB).atW (by omega))).mono ?_;rintro e w7 ⟨vy,vz,ly,lz,rfl,hY,-,hy,-,-,jC⟩;rw[(hY.1 ⟨rA.out,aB.out⟩).trans (Td tree S.time)]at hy;rw[<-bB.out]at hy;obtain⟨ay,cy,rfl,mG⟩:=C6 hy;have y:=A8 cA jC;obtain⟨⟨m0,_⟩,⟨m1,_⟩,⟨m2,_⟩,⟨m3,_⟩,⟨m4,_⟩,⟨m5,_⟩⟩:=l.out.A1 y;obtain⟨⟨n0,_⟩,_,⟨n2,_⟩,⟨n3,_⟩,_⟩:=H.out.A1 y))
  have HY:=A3 hy;have D:=A3 (C.out.kept (Dg y none) (by simp));have aC:=A3 (Jg G.out (Dg y (some (w.heap.size+1))));have tF:=A3 (l.out.A1 y);have E:=A8 dA y;have aH:w.heap.size+2<=w7.heap.size:=Nat.le_trans I.out y.size;have tG:=aE.out;have nG:=pD.out;clear hy y jC cA fB u eA iA jE hY l H pA vA C G I rA aB fE gE x0 x1 x2 x3 x4 x5 y0 y1 y2 y3 y4 k0 k1 k2 k3 k4 k5 l0 l2 l3 f0 f1 f2 f3 f4 f5 g0 g2 g3 m0 m1 m2 m3 m4 m5 n0 n2 n3;generalize sG:CS W mk=yl at *;go_wp2_with fail
  go_loopw [6,31] (fun s i wr=>∃j:Nat,j<=yl.length/\s = .bool true/\i = .int .i64 j/\wr.ownsMap Tryz.prog 40 Bz (w.heap.size+1) ((Aw W k).length+j) (K9 key ((Aw W k).length+j))/\Gv ((Aw W k).length+j) key/\w7.grownBy wr (some (w.heap.size+1))/\Below w.heap.size w wr) (fun _ i _=>yl.length - (intOf i).toNat)
  case atStart=>exact⟨0,Nat.zero_le _,rfl,rfl,D.out,B.out,World.grownBy.refl _ _,E⟩
  case round=>
   clear E;obtain⟨j,hj,rfl,rfl,z,kC,M,E⟩:=hrel;have b:=A3 z;have bA:=A3 kC;have d:=A3 M;clear z kC M;by_cases jB:j<yl.length;rotate_left
   ·obtain rfl:j=yl.length:=(by omega);go_wp2;go_roundw
    case rel=>
     refine⟨k+1,by omega,rfl,by go_num,?_,?_,Jg aC.out d.out,E⟩
     ·rw[kA.out];exact b.out
     ·rw[kA.out];exact bA.out
    case measure=>simp[intOf];omega
   have eF:(j:Int)<(yl.length:Int):=(by omega);obtain⟨-,a7,c7,e7,-,K⟩:=id (HY.out.atW (by omega));cases e7;obtain⟨b7,o7,rfl,-,-,K⟩:=K (by omega);have q0:=Jj d.out D.out (K j jB).1;have q1:=Jj d.out D.out (K j jB).2;clear K;obtain⟨nB,oC⟩:=nD.out j jB;have nA:keyOf Tryz.prog 40 (.agg #[.int .i64 (AI yl j),.int .i64 (AK yl j)])=some (key ((Aw W k).length+j)):=by
    have:=X.out.at_ _ nB;rw[oC]at this;exact this
   have rD:=A3 nB;have r:=A3 nA;clear oC nB nA;have m:=A9 wr (.cells #[.int .i64 (AI yl j),.int .i64 (AK yl j)] 40);have H:=A3 (Ad.new wr (.int .i64 (AI yl j)) (.int .i64 (AK yl j)) 40);have f:=A3 ((b.out.kept (Dg m none) (by simp)).kept (Dg ((Below.refl _ _).drew) none) (by simp));have jA:=A3 (Jg d.out (Dg m (some (w.heap.size+1))));have F:=A8 E m;have v:=A3 (show w.heap.size+1<wr.heap.size by have:=d.out.size;omega);clear m d b;have rG:(Aw W k).length+j<=3000:=(by omega);generalize pC:(Aw W k).length+j=p at *;have dC:=A3 pC;clear pC;generalize AI yl j=xs at *;generalize AK yl j=xb at *;go_wp2_with fail;clear q0 q1;generalize wr.alloc (.cells #[.int .i64 xs,.int .i64 xb] 40)=W3 at H f jA F ⊢;generalize wr.heap.size=V at H v ⊢;by_cases t:∀i,i<p->key i≠key p
   ·have kB:=O3 f.out r.out (X.out.new t);obtain⟨ev,st,wa,wb,he,lB,Q,a,iB,o⟩:=Qp f.out Rp KH (by unfold maxLen;omega) Mk r.out (X.out.new t) (val:=.int .i64 1);obtain⟨⟨y0,-⟩,⟨y1,-⟩⟩:=H.out.A1 ((Below.refl _ _).drew);have z0:=(o.cell_far _ (AM y0) (fun e=>by have h1:=Option.some.inj e;have h2:=v.out;simp only at h1;omega)).trans y0;have z1:=(o.cell_far _ (AM y1) (fun e=>by have h1:=Option.some.inj e;have h2:=v.out;simp only at h1;omega)).trans y1;have iE:=O3 a r.out (X.out.put p _);have tA:=A3 a;have oD:=A3 (Jg (Jg jA.out (Dg ((Below.refl _ _).drew) (some (w.heap.size+1)))) o);have gB:=F.drew.grown o (Nat.le_trans F.size (Nat.le_refl _)) (fun q e=>by cases e;omega);have bC:=A3 t;clear a iB o t F E;unfold goInt at he Q;go_region;clear kB lB he Q y0 y1;go_wp2;go_roundw
    case rel=>exact⟨j+1,by omega,rfl,by go_num,by rw[show(Aw W k).length+(j+1)=p+1 by have:=dC.out;omega];exact tA.out,by rw[show(Aw W k).length+(j+1)=p+1 by have:=dC.out;omega];exact RH.2 ⟨bA.out,bC.out⟩,oD.out,gB⟩
    case measure=>simp[intOf];omega
   ·obtain⟨i0,gA,fA⟩:∃i,i<p/\key i=key p:=by
     by_cases Y:∃i,i<p/\key i=key p
     ·exact Y
     ·exact absurd (fun i hi e=>Y ⟨i,hi,e⟩) t
    have cC:=A3 (X.out.not_nodup gA rD.out fA);have kB:=O3 f.out r.out (X.out.old gA fA bA.out);obtain⟨ev,st,wa,wb,he,lB,Q,a,iB,o⟩:=Qp f.out Rp KH (by unfold maxLen;omega) Mk r.out (X.out.old gA fA bA.out) (val:=.int .i64 2);obtain⟨⟨y0,-⟩,⟨y1,-⟩⟩:=H.out.A1 ((Below.refl _ _).drew);have z0:=(o.cell_far _ (AM y0) (fun e=>by have h1:=Option.some.inj e;have h2:=v.out;simp only at h1;omega)).trans y0;have z1:=(o.cell_far _ (AM y1) (fun e=>by have h1:=Option.some.inj e;have h2:=v.out;simp only at h1;omega)).trans y1;have iE:=O3 a r.out (X.out.put p _);have gB:=F.drew.grown o (Nat.le_trans F.size (Nat.le_refl _)) (fun q e=>by cases e;omega);clear a iB o t F E gA fA;unfold goInt at he Q;go_region;clear kB lB he Q y0 y1;go_wp2_with fail;go_region;go_wp2;rw[Exit.noGoto_ret];go_ret;exact⟨AJ.no fun Y=>cC.out Y.1,gB.drew⟩
theorem MO(p v1 q r:Value)(lo hi:Nat)(W:A4)(w:World)(h:BM w lo hi p v1 q r W)(P:F6 W) :
 Calls Tryz.prog 21 #[Bh p v1 q r W] w fun e w'=>AJ (Cf W) e/\Below w.heap.size w w':=by
 have t:=A3 h;have u:=A3 P;clear h P;have M:=A9 w (.cells #[p,v1,.int .i64 W.time,.int .i64 W.next,q,r] 30);have S:=A3 (Af.new w p v1 (.int .i64 W.time) (.int .i64 W.next) q r 30);obtain⟨j,k,l,m,n,o⟩:=S.out.c;go_enter Tryz.func21,Tryz.ntmps21;go_wp2_with fail;generalize w.alloc (.cells #[p,v1,.int .i64 W.time,.int .i64 W.next,q,r] 30)=W0 at M S j k l m n o ⊢;refine(Yc W.time W0).mono ?_;rintro e w1 ⟨⟨f,rfl,b⟩,rfl⟩;have a:=A3 b;clear b;cases f
 ·have g:=A3 (show ¬Cf W from fun i=>absurd (a.out.2 i.AP.time) (by simp));clear a;go_wp2;go_ret;exact⟨AJ.no g.out,M⟩
 have H1:=A3 (a.out.1 rfl);clear a;go_wp2_with fail;refine(Yc W.next _).mono ?_;rintro e w1 ⟨⟨f,rfl,b⟩,rfl⟩;have a:=A3 b;clear b;cases f
 ·have g:=A3 (show ¬Cf W from fun i=>absurd (a.out.2 i.AP.next) (by simp));clear a;go_wp2;go_ret;exact⟨AJ.no g.out,M⟩
 have H2:=A3 (a.out.1 rfl);clear a;go_wp2_with fail;refine(zCj q W.sn lo hi W.A2 _ (t.out.A1 M).A2).mono ?_;rintro e w2 ⟨⟨f,rfl,b⟩,d⟩;have a:=A3 b;have v:=A8 M d;have G:=A3 (S.out.A1 d);clear b d j k l m n o;obtain⟨j,k,l,m,n,o⟩:=G.out.c;cases f
 ·have g:=A3 (show ¬Cf W from fun i=>absurd (a.out.2 i.AP.A2) (by simp));clear a;go_wp2;go_ret;exact⟨AJ.no g.out,v⟩
 have V:=A3 (a.out.1 rfl);clear a;have hs:=V.out.1;go_wp2_with fail;refine(zCK p v1 q r lo hi W _ (t.out.A1 v) hs).mono ?_;rintro e w3 ⟨⟨f,rfl,b⟩,d⟩;have a:=A3 b;have x:=A8 v d;have H:=A3 (G.out.A1 d);clear b d j k l m n o;obtain⟨j,k,l,m,n,o⟩:=H.out.c;cases f
 ·have g:=A3 (show ¬Cf W from fun i=>absurd (a.out.2 i.AP.A0) (by simp));clear a;go_wp2;go_ret;exact⟨AJ.no g.out,x⟩
 have X:=A3 (a.out.1 rfl);clear a;have O:=X.out.1;have s:=A3 (show Eg W from⟨H1.out,H2.out,V.out,X.out⟩);go_wp2_with fail;refine(Rb p v1 lo hi W.pool _ (t.out.A1 x).pool).mono ?_;rintro e w4 ⟨⟨f,rfl,b⟩,d⟩;have a:=A3 b;have y:=A8 x d;have I:=A3 (H.out.A1 d);clear b d j k l m n o;obtain⟨j,k,l,m,n,o⟩:=I.out.c;cases f
 ·have g:=A3 (show ¬Cf W from fun i=>absurd (a.out.2 i.right) (by simp));clear a;go_wp2;go_ret;exact⟨AJ.no g.out,y⟩
 have Q:=A3 (a.out.1 rfl);clear a;go_wp2_with fail;refine(Xq p v1 q r lo hi W _ (t.out.A1 y) O s.out.idsWf).mono ?_;rintro e w5 ⟨A,rfl,hA,d⟩;have D:=A3 hA;have N:=A8 y d;have J:=A3 (I.out.A1 d);clear hA d j k l m n o;obtain⟨j,k,l,m,n,o⟩:=J.out.c;go_wp2_with fail;refine(zCv p v1 q r lo hi W A _ (t.out.A1 N) hs O D.out s.out.dist u.out).mono ?_;rintro e w6 ⟨⟨f,rfl,b⟩,d⟩;have a:=A3 b;have z:=A8 N d;have K:=A3 (J.out.A1 d);have E:=A3 (D.out.A1 d);clear b d j k l m n o;obtain⟨j,k,l,m,n,o⟩:=K.out.c;cases f
 ·have g:=A3 (show ¬Cf W from fun i=>absurd (a.out.2 i.prevs) (by simp));clear a;go_wp2;go_ret;exact⟨AJ.no g.out,z⟩
 have Y:=A3 (a.out.1 rfl);clear a;go_wp2_with fail;refine(zCs p v1 q r lo hi W A _ (t.out.A1 z) O hs E.out s.out.dist (s.out.Cu Y.out)).mono ?_;rintro e w7 ⟨⟨f,rfl,b⟩,d⟩;have a:=A3 b;have B:=A8 z d;have L:=A3 (K.out.A1 d);have F:=A3 (E.out.A1 d);clear b d j k l m n o;obtain⟨j,k,l,m,n,o⟩:=L.out.c;cases f
 ·have g:=A3 (show ¬Cf W from fun i=>absurd (a.out.2 i.lines) (by simp));clear a;go_wp2;go_ret;exact⟨AJ.no g.out,B⟩
 have H8:=A3 (a.out.1 rfl);clear a;go_wp2_with fail;refine(zCM p v1 q r lo hi W A _ (t.out.A1 B) hs O F.out s.out.dist u.out Q.out s.out.times).mono ?_;rintro e w8 ⟨⟨f,rfl,b⟩,d⟩;have a:=A3 b;have C:=A8 B d;have T:=A3 (L.out.A1 d);have R:=A3 (F.out.A1 d);clear b d j k l m n o;obtain⟨j,k,l,m,n,o⟩:=T.out.c;cases f
 ·have g:=A3 (show ¬Cf W from fun i=>absurd (a.out.2 i.trees) (by simp));clear a;go_wp2;go_ret;exact⟨AJ.no g.out,C⟩
 have Z:=A3 (a.out.1 rfl);clear a;go_wp2_with fail;refine(zCq p v1 q r lo hi W A _ (t.out.A1 C) hs O R.out s.out.dist u.out Q.out s.out.times Z.out.1).mono ?_;rintro e w9 ⟨⟨f,rfl,b⟩,d⟩;have a:=A3 b;have U:=A8 C d;clear b d;have g:=A3 (show f=true↔Cf W from⟨fun e=>⟨s.out,Q.out,Y.out,H8.out,Z.out,a.out.1 e⟩,fun i=>a.out.2 i.homes⟩);clear a;go_wp2;go_ret;exact⟨⟨f,rfl,g.out⟩,U⟩
theorem zB1(v:Value)(s:AT)(w:World):(Instr.field 43 (BX v s) 5).run Tryz.prog w = .ok (.agg #[.int .i64 s.rs,.int .i64 s.rb]) w:=by kernel_rfl
theorem Vo(h:Fm w W M W.pn vd){x:Int}(e:(Lit.int .i64 x).wf=true)(b:(putD (fun i=>Dr (W.A0 i).id) (fun i=>BX (vd i) (W.A0 i)) W.pn).atKey (Dr x) (.held (.agg #[.int .i64 0,.string ⟨#[]⟩,.string ⟨#[]⟩,.int .i64 0,.int .i64 0,.int .i64 0,.int .i64 0,.slice none 0 0])) = .held v) :
 (Instr.lookup 76 (.map (some M)) (.int .i64 x) false).run Tryz.prog w = .ok v w:=by
 obtain⟨f,ps,a,hv⟩:=World.ownsMap.lookup h J3 JM (M3 w) (F9 _) (JY e);have c:=Ja hv;rw[b]at c;have d:=DataW.held.inj c;rw[d];exact a
end Go.Proofs.YtnfjcaoclahfjaaGreatDoor
