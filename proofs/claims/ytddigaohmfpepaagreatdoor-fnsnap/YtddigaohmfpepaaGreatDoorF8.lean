/- A part of the proof. -/
import Derived.Test.YtddigaohmfpepaaGreatDoorF7
import Derived.Scope
import Derived.WalkMore
import Derived.Deep.MidRow
set_option linter.unusedVariables false
set_option maxRecDepth 20000
set_option maxHeartbeats 4000000
namespace Go.Proofs.YtddigaohmfpepaaGreatDoor
noncomputable section
open Go.RowKit
def mix(f g:Nat->Int)(j:Nat):Int:=if j % 2=0 then f (j / 2)else g (j / 2)
theorem KF(f g:Nat->Int)(i:Nat):mix f g (i*2)=f i/\mix f g (i*2+1)=g i:=by
 unfold mix;rw[if_pos (by omega),if_neg (by omega),show i*2 / 2=i by omega,show(i*2+1) / 2=i by omega];exact⟨rfl,rfl⟩
def Df(f g:Nat->Int):Prop:=∀i,i<8->Nil (f i) (g i)
theorem V0(f g:Nat->Int):F2 (mix f g) (fun _=>0)=true↔Df f g:=by
 rw[QN];constructor
 ·intro h i hi;have:=h i hi;rw[(KF f g i).1,(KF f g i).2]at this;exact this
 ·intro h i hi;rw[(KF f g i).1,(KF f g i).2];exact h i hi
def Bc(f g:Nat->Int)(b:Int):AH:={birth:=b,kn:=8,ks:=f,kb:=g,data:=⟨#[]⟩}
open Classical in
def GP(p:A7)(f g:Nat->Int)(b:Int):Dr:=if Df f g then⟨p,0,0,0⟩else Bv p (Bc f g b)
theorem zHN(w:World)(a b:Value)(cs:Array Value)(c d e:TypeId) :
 Ad (((w.alloc (.cells #[a,b] c)).alloc (.cells cs d)).alloc (.cells #[A5,A5,A0 0,A0 0,A0 0] e)) w.heap.size a b/\
 (((w.alloc (.cells #[a,b] c)).alloc (.cells cs d)).alloc (.cells #[A5,A5,A0 0,A0 0,A0 0] e)).heap[w.heap.size+1]?=some (.cells cs d (0,0))/\
 Du (((w.alloc (.cells #[a,b] c)).alloc (.cells cs d)).alloc (.cells #[A5,A5,A0 0,A0 0,A0 0] e)) (w.heap.size+1+1) (A5) (A5) (A0 0) (A0 0) (A0 0)/\
 Below w.heap.size w (((w.alloc (.cells #[a,b] c)).alloc (.cells cs d)).alloc (.cells #[A5,A5,A0 0,A0 0,A0 0] e))/\
 (((w.alloc (.cells #[a,b] c)).alloc (.cells cs d)).alloc (.cells #[A5,A5,A0 0,A0 0,A0 0] e)).heap.size=w.heap.size+3:=by
 refine⟨((Ad.new w a b c).A1 (AB _ _)).A1 (AB _ _),?_,?_,A9 (A9 (AB _ _) (AB _ _)) (AB _ _),by simp⟩
 ·exact(YU w (.cells #[a,b] c) (.cells cs d) _).1
 ·have:=Du.new ((w.alloc (.cells #[a,b] c)).alloc (.cells cs d)) (A5) (A5) (A0 0) (A0 0) (A0 0) e;rw[World.size_alloc,World.size_alloc]at this;exact this
theorem zBi(v0 v1:Value)(lo hi:Nat)(p:A7)(f g:Nat->Int)(b:Int)(w:World)(U:CD w lo hi v0 v1 p)(hn:Ap p+8<=1048576) :
 Calls Tryz.prog 140 #[.agg #[v0,v1],.agg (Aj (mix f g)),A0 b] w (PT (GP p f g b) w):=by
 have Hp:=AF U;obtain⟨a,c,a',c',rfl,rfl⟩:=U.form;have Hn:=AF hn;clear U hn;have M:=zHN w (.slice a p.n c) (.slice a' p.hn c') (Aj (mix f g)) 26 121 117;have s:Hid ((Tryz.prog.info? 121).map (·.size)=some (Aj (mix f g)).size):=by
  show _=_;rw[D4];exact GV
 have oA:∀w,(binOp .eql 121 (.agg (Aj (mix f g))) (.agg #[Value.int .i64 0,Value.int .i64 0,Value.int .i64 0,Value.int .i64 0,Value.int .i64 0,Value.int .i64 0,Value.int .i64 0,Value.int .i64 0,Value.int .i64 0,Value.int .i64 0,Value.int .i64 0,Value.int .i64 0,Value.int .i64 0,Value.int .i64 0,Value.int .i64 0,Value.int .i64 0])).run Tryz.prog w = .ok (.bool (F2 (mix f g) (fun _=>0))) w:=fun w=>Pc (mix f g) (fun _=>0) w
 go_enter Tryz.func140,Tryz.ntmps140;go_upto_region 1 with fail;generalize ((w.alloc (.cells #[.slice a p.n c,.slice a' p.hn c'] 26)).alloc (.cells (Aj (mix f g)) 121)).alloc (.cells #[A5,A5,A0 0,A0 0,A0 0] 117)=W at M ⊢;obtain⟨V,hA,hR,l,hz⟩:=M;have Q:=AF hA;have HB:=AF V;have HR:=AF hR;clear hA hR;obtain⟨⟨x0,x1⟩,⟨x2,x3⟩⟩:=HB.out;by_cases z:Df f g
 ·have S:=AF z;have bA:=(V0 f g).2 z;clear z;go_wp2_with (first
   | (refine wpList_load_row rfl 121 (.tmp 4) rfl (w.heap.size+1) rfl 121 (Aj (mix f g)) (0,0) _ Q.out FP rfl s.out ?_)
   | fail)
  refine(Ov _ _ lo hi p W (Hp.out.A1 l) (by have:=Hn.out;omega)).mono ?_;rintro e w1 ⟨s0,s1,rfl,y,r⟩;obtain⟨C,c1,D,E,rfl,rfl⟩:=y.form;have T:=AF y;have A:=AF (HR.out.A1 r);have X:=A9 l r;have kB:=r.size;clear y r l x0 x1 x2 x3 V;obtain⟨⟨u0,u1⟩,⟨u2,u3⟩,⟨u4,u5⟩,⟨u6,u7⟩,⟨u8,u9⟩⟩:=A.out;go_wp2;have d:=A.out.put (.slice C p.n c1) (.slice D p.hn E) (A0 0) (A0 0) (A0 0);have m:=NV (R:=w.heap.size+1+1) (u2:=A0 0) (u3:=A0 0) (u4:=A0 0) T.out (by omega) (by omega) (Nat.le_refl _) X;rw[show GP p f g b=⟨p,0,0,0⟩from if_pos S.out];exact bodyPost_ret (v:=.agg #[.slice C p.n c1,.slice D p.hn E,A0 0,A0 0,A0 0]) (by simp[results,Tryz.results140,go_sem,d.1.1,d.2.1.1,d.2.2.1.1,d.2.2.2.1.1,d.2.2.2.2.1]) rfl ⟨_,_,rfl,m.1,m.2⟩
 ·have S:=AF z;have bA:F2 (mix f g) (fun _=>0)=false:=Bool.eq_false_iff.2 (fun h=>z ((V0 f g).1 h));clear z;have K:=zAE 39 38 (.agg #[A0 0,A0 0]) 2 16 (by kernel_rfl) zGq rfl 8 (by omega) (by omega);have pA:∀w,(Instr.makeSlice 39 (A0 8) (A0 8)).run Tryz.prog w = .ok (.slice (some ⟨w.heap.size,0,none⟩) 8 8) (w.alloc (.cells (Fu #[A0 0,A0 0] 8) 38)):=K;clear K;have J:=AB W (.cells (Fu #[A0 0,A0 0] 8) 38);have I:=AB W (.cells (Aj (mix f g)) 38);have q:=AF I;have F:(W.alloc (.cells (Fu #[A0 0,A0 0] 8) 38)).heap[w.heap.size+1]?=some (.cells (Aj (mix f g)) 121 (0,0)):=(J.block _ (by omega)).trans Q.out;have t:Hid (∀ty,(Builtin.copy_ #[39,39] ty #[.slice (some ⟨W.heap.size,0,none⟩) 8 8,.slice (some ⟨w.heap.size+1,0,none⟩) 8 8]).run Tryz.prog (W.alloc (.cells (Fu #[A0 0,A0 0] 8) 38)) = .ok (goInt 8) (W.alloc (.cells (Aj (mix f g)) 38))):=by
   intro ty;have N:(Fu #[A0 0,A0 0] 8).size=16:=(by kernel_rfl);have hr:=Z9 (P:=Tryz.prog) (W.alloc (.cells (Fu #[A0 0,A0 0] 8) 38)) 39 39 ty 38 2 W.heap.size 0 8 8 ⟨w.heap.size+1,0,none⟩ 8 8 (Fu #[A0 0,A0 0] 8) 38 (Aj (mix f g)).toList (by kernel_rfl) RY (heap_alloc_last _ _) (by simp[Aj]) (fun j v O=>by
    have u:j<16:=by
     have:=(List.getElem?_eq_some_iff.1 O).1;simpa[D4]using this
    have e:(Aj (mix f g)).toList[j]?=some (A0 (mix f g j)):=(by rw[Array.getElem?_toList];exact EM (mix f g) u);rw[e]at O;simp only[Option.some.injEq]at O;subst O;rw[add_lit,Nat.zero_add];exact(Az F (EM (mix f g) u)).1) (by rw[N];simp[Aj]) (fun v hv=>(Array.all_eq_true_iff_forall_mem.1 (I7 _)) v (by simpa using hv))
   have e0:((Fu #[A0 0,A0 0] 8).toList.drop 16) = []:=List.drop_eq_nil_of_le (by simp[N]);have e1:((Fu #[A0 0,A0 0] 8).toList.take 0 ++ (Aj (mix f g)).toList ++ (Fu #[A0 0,A0 0] 8).toList.drop (0+(Aj (mix f g)).toList.length)).toArray=Aj (mix f g):=by
    have hl:(Aj (mix f g)).toList.length=16:=(by simp[Aj]);rw[hl,Nat.zero_add,e0];simp
   rw[e1,World.setRow_alloc_new]at hr;exact hr
  have Hz:=AF hz;clear I F J hz;have Z:=t.out 3;obtain⟨⟨x4,x5⟩,⟨x6,x7⟩⟩:=HB.out.A1 q.out;go_wp2_with (first
   | (refine wpList_load_row rfl 121 (.tmp 4) rfl (w.heap.size+1) rfl 121 (Aj (mix f g)) (0,0) _ Q.out FP rfl s.out ?_)
   | fail)
  have HS:Hid (CU (W.alloc (.cells (Aj (mix f g)) 38)) 0 (W.alloc (.cells (Aj (mix f g)) 38)).heap.size (A0 (Bc f g b).birth) (.slice (some ⟨W.heap.size,0,none⟩) 8 8) (.string (Bc f g b).data) (Bc f g b)):=by
   refine⟨rfl,⟨by show 8<=maxLen;unfold maxLen;omega,_,8,rfl,Nat.le_refl _,fun _=>⟨W.heap.size,0,rfl,Nat.zero_le _,by simp,fun i hi=>?_⟩⟩,rfl,by show 0<=maxLen;omega⟩;have iB:i<8:=hi;have G:(W.alloc (.cells (Aj (mix f g)) 38)).heap[W.heap.size]?=some (.cells (Aj (mix f g)) 38):=heap_alloc_last _ _;have g1:=(Az G (EM (mix f g) (show i*2<16 by omega))).1;have g2:=(Az G (EM (mix f g) (show i*2+1<16 by omega))).1;rw[(KF f g i).1]at g1;rw[(KF f g i).2]at g2;rw[Nat.zero_add];exact⟨g1,g2⟩
  refine(ZQ _ _ _ lo hi 0 _ p (Bc f g b) _ (Hp.out.A1 (A9 l q.out)) HS.out (by show Ap p+(8+0)<=_;exact Hn.out)).mono ?_;rintro e w3 ⟨s0,s1,rfl,L,H⟩;have k:=A9 q.out H;have hz:=Hz.out;have B:=AF (HR.out.A1 k);have Y:=A9 l k;have lB:=k.size;have He:Hid (GP p f g b=Bv p (Bc f g b)):=if_neg S.out;have x:Hid (Bq w3 W.heap.size w3.heap.size s0 s1 (Bv p (Bc f g b)).pool):=L.wide q.out.size (Nat.le_refl _);generalize Bv p (Bc f g b)=o at x He ⊢;obtain⟨C,c1,D,E,rfl,rfl⟩:=x.out.form;clear L H k x0 x1 x2 x3 x4 x5 x6 x7 V HS t Z;obtain⟨⟨u0,u1⟩,⟨u2,u3⟩,⟨u4,u5⟩,⟨u6,u7⟩,⟨u8,u9⟩⟩:=B.out;go_wp2;have d:=B.out.put (.slice C o.pool.n c1) (.slice D o.pool.hn E) (A0 o.ps) (A0 o.pb) (A0 o.code);have m:=NV (R:=w.heap.size+1+1) (u2:=A0 o.ps) (u3:=A0 o.pb) (u4:=A0 o.code) x.out (by omega) (by omega) (Nat.le_refl _) Y;rw[He.out];exact bodyPost_ret (v:=.agg #[.slice C o.pool.n c1,.slice D o.pool.hn E,A0 o.ps,A0 o.pb,A0 o.code]) (by simp[results,Tryz.results140,go_sem,d.1.1,d.2.1.1,d.2.2.1.1,d.2.2.2.1.1,d.2.2.2.2.1]) rfl ⟨_,_,rfl,m.1,m.2⟩
def hop(J:Nat->Act->World->Prop)(Q:Exit->Act->World->Prop):Exit->Act->World->Prop
 | .goto l,a,w=>J l a w
 | e,a,w=>Q e a w
def JU(P:Program)(c:Code)(Q:Exit->Act->World->Prop):Nat->Nat->Act->World->Prop
 | 0,_,_,_=>False
 | n+1,l,a,w=>∃rest,findLabel c l=some rest/\rest.wp P (hop (JU P c Q n) Q) a w
variable{P:Program}{a:Act}{w:World}{Q:Exit->Act->World->Prop}
theorem zCT{c:Code}(n:Nat)(first:c.wp P (hop (JU P c Q n) Q) a w):(Code.scope c).wp P Q a w:=by
 intro b k cs;have key:∀n l rest a w,findLabel c l=some rest->rest.wp P (hop (JU P c Q n) Q) a w->∃e y w',Q e y w'/\Arrives P (lone (b.at a (.code rest :: .inScope c :: k)) cs w) b k cs e y w':=by
  intro n
  induction n with
  | zero=>
   intro l rest a w z v;obtain⟨e,h,i,g,d⟩:=v b (.inScope c :: k) cs;cases e with
   | normal=>exact⟨.normal,h,i,g,Steps.trans d (.one step_inScope)⟩
   | exit id=>exact⟨.exit id,h,i,g,fun r q=>d r (by simp[exitTo,q])⟩
   | goto l'=>exact False.elim g
   | ret=>exact⟨_,h,i,g,d⟩
   | panic ch=>exact⟨_,h,i,g,d⟩
   | outgrown=>exact⟨_,h,i,g,d⟩
  | succ n ih=>
   intro l rest a w z v;obtain⟨e,h,i,g,d⟩:=v b (.inScope c :: k) cs;cases e with
   | normal=>exact⟨.normal,h,i,g,Steps.trans d (.one step_inScope)⟩
   | exit id=>exact⟨.exit id,h,i,g,fun r q=>d r (by simp[exitTo,q])⟩
   | goto l'=>
    obtain⟨f,m,p⟩:=g;obtain⟨t,s,x,o,j⟩:=ih l' f h i m p;have u:gotoIn l' (.inScope c :: k)=some (.code f :: .inScope c :: k):=(by simp[gotoIn,m]);exact⟨t,s,x,o,.of_steps (d _ u) j⟩
   | ret=>exact⟨_,h,i,g,d⟩
   | panic ch=>exact⟨_,h,i,g,d⟩
   | outgrown=>exact⟨_,h,i,g,d⟩
 obtain⟨e,h,i,g,d⟩:=first b (.inScope c :: k) cs
 cases e with
 | normal=>exact⟨.normal,h,i,g,.head step_scope (Steps.trans d (.one step_inScope))⟩
 | exit id=>exact⟨.exit id,h,i,g,fun r q=>.head step_scope (d r (by simp[exitTo,q]))⟩
 | goto l'=>
  match n,g with
  | n+1,g=>
   obtain⟨f,m,p⟩:=g;obtain⟨t,s,x,o,j⟩:=key n l' f h i m p;have u:gotoIn l' (.inScope c :: k)=some (.code f :: .inScope c :: k):=(by simp[gotoIn,m]);exact⟨t,s,x,o,.of_steps (.head step_scope (d _ u)) j⟩
 | ret=>exact⟨_,h,i,g,.of_steps (.one step_scope) d⟩
 | panic ch=>exact⟨_,h,i,g,.of_steps (.one step_scope) d⟩
 | outgrown=>exact⟨_,h,i,g,.of_steps (.one step_scope) d⟩
def Mb:Array Value:=#[A0 0,A0 0,A0 0,A0 0,A0 0,A0 0,A0 0,A0 0,A0 0,A0 0,A0 0,A0 0,A0 0,A0 0,A0 0,A0 0,A0 0,A0 0,A0 0,A0 0,A0 0,A0 0,A0 0,A0 0,A0 0,A0 0,A0 0,A0 0,A0 0,A0 0,A0 0,A0 0,A0 0,A0 0,A0 0,A0 0,A0 0,A0 0,A0 0,A0 0,A5]
def Fo(n:Nat):Array Value:=#[A0 ((n:Int) / 8),A0 ((n:Int) % 8),A0 0,A0 0,A0 0,A0 0,A0 0,A0 0,A0 0,A0 0,A0 0,A0 0,A0 0,A0 0,A0 0,A0 0,A0 0,A0 0,A0 0,A0 0,A0 0,A0 0,A0 0,A0 0,A0 0,A0 0,A0 0,A0 0,A0 0,A0 0,A0 0,A0 0,A0 0,A0 0,A0 0,A0 0,A0 0,A0 0,A0 0,A0 0,A5]
theorem Pk:(Tryz.prog.info? 125).map (·.size)=some 41:=by kernel_rfl
theorem zEH(n:Nat):(Tryz.prog.info? 125).map (·.size)=some (Fo n).size:=Pk
theorem zGM(n:Nat):(Fo n).all (·.oneCell')=true:=by simp[Fo,Value.oneCell']
def CC(w:World)(B:Nat)(f:Nat->Value):Prop:=∀i,i<41->AO w B i (f i)
variable{w':World}{B:Nat}{f:Nat->Value}
theorem CC.A1(h:CC w B f)(t:Below w.heap.size w w'):CC w' B f:=fun i hi=>(h i hi).A1 t
variable{S:Nat->Prop}
theorem CC.AD(h:CC w B f)(t:AC S w w')(hs:¬S B):CC w' B f:=fun i hi=>(h i hi).AD t hs
theorem CC.congr{g:Nat->Value}(h:CC w B f)(e:∀i,i<41->f i=g i):CC w B g:=fun i hi=>e i hi▸h i hi
theorem CC.put(h:CC w B f)(o:Nat)(v:Value):CC (w.setCell ⟨B,o,none⟩ v) B (fun i=>if i=o then v else f i):=fun i hi=>by
 show AO _ B i (if i=o then v else f i);by_cases e:i=o
 ·subst e;rw[if_pos rfl];exact(h i hi).set v
 ·rw[if_neg e];exact(h i hi).other v (Or.inr (fun h=>e h.symm))
variable{n:Nat}
theorem CC.there(h:CC w B f){o:Nat}(hn:o+n<=41):w.there B o n:=fun j a=>⟨by rw[(h (o+j) (by omega)).1];rfl,(h (o+j) (by omega)).2⟩
theorem CC.range(h:CC w B f):w.rangeAt B 0 ((List.range 41).map f):=fun j v hv=>by
 have a:j<41:=by have:=(List.getElem?_eq_some_iff.1 hv).1;simpa using this
 rw[Nat.zero_add,(h j a).1];simpa[a]using hv
theorem CC.puts(h:CC w B f)(o:Nat)(vs:List Value)(hv:o+vs.length<=41):CC (w.setCells B o vs) B (fun i=>if o<=i/\i<o+vs.length then vs.getD (i - o) undef else f i):=fun i hi=>by
 refine⟨?_,?_⟩
 ·show _=some (if o<=i/\i<o+vs.length then vs.getD (i - o) undef else f i);by_cases e:o<=i/\i<o+vs.length
  ·rw[if_pos e];have:=World.cell?_setCells_in B vs o w (fun j a=>by rw[(h (o+j) (by omega)).1];rfl) (i - o) (by omega);rw[show o+(i - o)=i by omega]at this;rw[this,List.getD_eq_getElem?_getD,List.getElem?_eq_getElem (by omega),Option.getD_some]
  ·rw[if_neg e,World.cell?_setCells_out B vs o w ⟨B,i,none⟩ (fun _ _=>by show i<o\/o+vs.length<=i;omega)];exact(h i hi).1
 ·rw[World.frozen?_setCells];exact(h i hi).2
def CW(f:Nat->Value):Array Value:=((List.range 41).map f).toArray
theorem Qx(f:Nat->Value):(CW f).size=41:=by simp[CW]
theorem O0(f:Nat->Value):(Tryz.prog.info? 125).map (·.size)=some (CW f).size:=by rw[Qx];exact Pk
theorem zIM:(Tryz.prog.underlying 125).map (fun d=>d.isRow)=some true:=by kernel_rfl
def PD(n:Nat)(i:Nat):Value:=if i=0 then A0 ((n:Int) / 8)else if i=1 then A0 ((n:Int) % 8)else if i=40 then A5 else A0 0
theorem zHa(W:World)(n:Nat):CC (W.alloc (.cells (Fo n) 125)) W.heap.size (PD n):=fun i hi=>by
 refine Az (i:=i) (heap_alloc_new W (.cells (Fo n) 125)) ?_;have:Fo n=CW (PD n):=by rfl
 rw[this];simp[CW,hi]
theorem Uf{J J':Nat->Act->World->Prop}(h:∀l a w,J l a w->J' l a w):∀{e:Exit} {a:Act} {w:World},hop J Q e a w->hop J' Q e a w
 | .goto l,a,w,he=>h l a w he
 | .normal,_,_,he=>he
 | .exit _,_,_,he=>he
 | .ret,_,_,he=>he
 | .panic _,_,_,he=>he
 | .outgrown,_,_,he=>he
theorem zBk{c:Code}(R:Nat->Nat->Act->World->Prop)(n:Nat)(zero:∀l a w,¬R 0 l a w)
 (step:∀n l a w,R (n+1) l a w->∃rest,findLabel c l=some (Code.skip.seq rest)/\rest.wp P (hop (R n) Q) a w)
 (first:(∀l a w rest,findLabel c l=some (Code.skip.seq rest)->R (n+1) l a w->rest.wp P (hop (R n) Q) a w)->c.wp P (hop (R n) Q) a w):(Code.scope c).wp P Q a w:=by
 have key:∀n l a w,R n l a w->JU P c Q n l a w:=by
  intro n
  induction n with
  | zero=>intro l a w h;exact absurd h (zero l a w)
  | succ n ih=>
   intro l a w h;obtain⟨rest,f,g⟩:=step n l a w h;exact⟨_,f,Code.wp_mono (fun e a w d=>Uf ih d) (wp_seq (wp_skip g))⟩
 refine zCT n (Code.wp_mono (fun e a w d=>Uf (key n) d) (first ?_));intro l a w rest f j;obtain⟨i,b,g⟩:=step n l a w j;rw[f]at b;simp only[Option.some.injEq,Code.seq.injEq,true_and]at b;rw[b];exact g
def BN(p:A7)(xs xb:Int)(n L:Nat):Int:=if L=0 then xs else if L=1 then BV p xs xb n else BZ p xs xb n
def Be(p:A7)(xs xb:Int)(n L:Nat):Int:=if L=0 then xb else if L=1 then Bj p xs xb n else Bh p xs xb n
def plc(n L:Nat):Nat:=if L=0 then n / 8 else n % 8
def Cx(p:A7)(xs xb:Int)(n L j:Nat):Int:=if Nil (BN p xs xb n L) (Be p xs xb n L)then 0 else BC (p.s (BN p xs xb n L).toNat) j
variable{L:Nat}
theorem KZ(p:A7)(xs xb:Int)(n:Nat)(h:L<2):BN p xs xb n (L+1)=Cx p xs xb n L (plc n L*2)/\Be p xs xb n (L+1)=Cx p xs xb n L (plc n L*2+1):=by
 rcases L with _ | _ | L
 ·exact⟨rfl,rfl⟩
 ·exact⟨rfl,rfl⟩
 ·omega
theorem N9(h:n<64):plc n L<8:=by unfold plc;split<;>omega
variable{p:A7}{xs xb:Int}
theorem KP(h:Nil (BN p xs xb n L) (Be p xs xb n L))(a:L<2):Nil (BN p xs xb n (L+1)) (Be p xs xb n (L+1)):=by
 rw[(KZ p xs xb n a).1,(KZ p xs xb n a).2];unfold Cx;rw[if_pos h,if_pos h];exact⟨rfl,rfl⟩
theorem zIF(h:As p xs xb)(hn:n<64)(a:L<2):Ie p (BN p xs xb n L) (Be p xs xb n L):=by
 rcases L with _ | _ | L
 ·exact Nb h
 ·exact LY h (by omega)
 ·omega
def BY(p:A7)(xs xb:Int)(n K M:Nat)(o:Value)(i:Nat):Value:=
 if i<2 then A0 (plc n i:Nat)
 else if i<34 then A0 (if (i - 2) / 16<K then Cx p xs xb n ((i - 2) / 16) ((i - 2) % 16)else 0)
 else if i<40 then A0 (if (i - 34) / 2<M then(if (i - 34) % 2=0 then BN p xs xb n ((i - 34) / 2)else Be p xs xb n ((i - 34) / 2))else 0)
 else o
variable{i:Nat}
theorem zGP(p:A7)(xs xb:Int)(n:Nat)(hi:i<41):PD n i=BY p xs xb n 0 0 (A5) i:=by
 unfold PD BY;by_cases a:i=0
 ·subst a;rfl
 by_cases b:i=1
 ·subst b;rfl
 rw[if_neg a,if_neg b,if_neg (show ¬i<2 by omega)];by_cases c:i=40
 ·subst c;rfl
 rw[if_neg c];by_cases d:i<34
 ·rw[if_pos d,if_neg (Nat.not_lt_zero _)]
 ·rw[if_neg d,if_pos (by omega),if_neg (Nat.not_lt_zero _)]
variable{o:Value}
theorem zHZ{K:Nat}(g:L<3)(h:CC w B (BY p xs xb n K L o)) :
 CC ((w.setCell ⟨B,34+L*2,none⟩ (A0 (BN p xs xb n L))).setCell ⟨B,34+L*2+1,none⟩ (A0 (Be p xs xb n L))) B (BY p xs xb n K (L+1) o):=by
 refine((h.put _ _).put _ _).congr fun i hi=>?_
 show(if i=34+L*2+1 then _ else if i=34+L*2 then _ else _)=_;by_cases d:i=34+L*2+1
 ·subst d;rw[if_pos rfl];unfold BY;rw[if_neg (by omega),if_neg (by omega),if_pos (by omega),show(34+L*2+1 - 34) / 2=L by omega,show(34+L*2+1 - 34) % 2=1 by omega,if_pos (by omega),if_neg (by omega)]
 rw[if_neg d];by_cases e:i=34+L*2
 ·subst e;rw[if_pos rfl];unfold BY;rw[if_neg (by omega),if_neg (by omega),if_pos (by omega),show(34+L*2 - 34) / 2=L by omega,show(34+L*2 - 34) % 2=0 by omega,if_pos (by omega),if_pos rfl]
 rw[if_neg e];unfold BY;by_cases a:i<2
 ·rw[if_pos a,if_pos a]
 by_cases b:i<34
 ·rw[if_neg a,if_neg a,if_pos b,if_pos b]
 rw[if_neg a,if_neg a,if_neg b,if_neg b];by_cases c:i<40
 ·rw[if_pos c,if_pos c];by_cases f:(i - 34) / 2<L
  ·rw[if_pos f,if_pos (show(i - 34) / 2<L+1 by omega)]
  ·rw[if_neg f,if_neg (by omega)]
 ·rw[if_neg c,if_neg c]
variable{M:Nat}
theorem zGO(k:L<2)(h:CC w B (BY p xs xb n L M o))(g:¬Nil (BN p xs xb n L) (Be p xs xb n L)) :
 CC (w.setCells B (2+L*16) (B9 (p.s (BN p xs xb n L).toNat)).toList) B (BY p xs xb n (L+1) M o):=by
 have a:(B9 (p.s (BN p xs xb n L).toNat)).toList.length=16:=by simp[B9,D4]
 refine(h.puts (2+L*16) _ (by omega)).congr fun i hi=>?_
 show(if 2+L*16<=i/\i<2+L*16+_ then _ else _)=_;rw[a];by_cases d:2+L*16<=i/\i<2+L*16+16
 ·rw[if_pos d];have j:i - (2+L*16)<16:=(by omega);have e:(B9 (p.s (BN p xs xb n L).toNat)).toList.getD (i - (2+L*16)) undef=A0 (BC (p.s (BN p xs xb n L).toNat) (i - (2+L*16))):=by
   rw[List.getD_eq_getElem?_getD,Array.getElem?_toList];have:=EM (BC (p.s (BN p xs xb n L).toNat)) j;rw[show B9 (p.s (BN p xs xb n L).toNat)=Aj (BC (p.s (BN p xs xb n L).toNat))from rfl,this];rfl
  rw[e];unfold BY Cx;rw[if_neg (by omega),if_pos (by omega),show(i - 2) / 16=L by omega,if_pos (by omega),if_neg g,show(i - 2) % 16=i - (2+L*16)by omega]
 ·rw[if_neg d];unfold BY;by_cases b:i<2
  ·rw[if_pos b,if_pos b]
  rw[if_neg b,if_neg b];by_cases c:i<34
  ·rw[if_pos c,if_pos c];by_cases f:(i - 2) / 16<L
   ·rw[if_pos f,if_pos (by omega)]
   ·rw[if_neg f,if_neg (by omega)]
  ·rw[if_neg c,if_neg c]
theorem Sj(r:L<3)(h:CC w B (BY p xs xb n L (L+1) o))(k:L<2->Nil (BN p xs xb n L) (Be p xs xb n L)):CC w B (BY p xs xb n 2 3 o):=by
 refine h.congr fun i hi=>?_
 have f:∀K,L<=K->K<3->L<2->Nil (BN p xs xb n K) (Be p xs xb n K):=fun K m q a=>by
  have n0:=k a;by_cases e:K=L
  ·subst e;exact n0
  have g:=KP n0 a;by_cases j:K=L+1
  ·subst j;exact g
  have l:=KP g (by omega);rw[show K=L+1+1 by omega];exact l
 unfold BY;by_cases a:i<2
 ·rw[if_pos a,if_pos a]
 rw[if_neg a,if_neg a];by_cases c:i<34
 ·rw[if_pos c,if_pos c];by_cases b:(i - 2) / 16<L
  ·rw[if_pos b,if_pos (by omega)]
  ·rw[if_neg b,if_pos (by omega)];unfold Cx;rw[if_pos (f _ (by omega) (by omega) (by omega))]
 ·rw[if_neg c,if_neg c];by_cases d:i<40
  ·rw[if_pos d,if_pos d];by_cases b:(i - 34) / 2<L+1
   ·rw[if_pos b,if_pos (show(i - 34) / 2<3 by omega)]
   ·rw[if_neg b,if_pos (show(i - 34) / 2<3 by omega)];have:=f ((i - 34) / 2) (by omega) (by omega) (by omega);split
    ·rw[this.1]
    ·rw[this.2]
  ·rw[if_neg d,if_neg d]
theorem zHb{K:Nat}(o':Value)(h:CC w B (BY p xs xb n K M o)):CC (w.setCell ⟨B,40,none⟩ o') B (BY p xs xb n K M o'):=by
 refine(h.put _ _).congr fun i hi=>?_
 show(if i=40 then _ else _)=_;by_cases e:i=40
 ·subst e;rfl
 ·rw[if_neg e];unfold BY;by_cases a:i<2
  ·rw[if_pos a,if_pos a]
  rw[if_neg a,if_neg a];by_cases b:i<34
  ·rw[if_pos b,if_pos b]
  ·rw[if_neg b,if_neg b,if_pos (show i<40 by omega),if_pos (show i<40 by omega)]
def BS(p:A7)(xs xb:Int)(n k:Nat):List (Int×Int):=kidsUp (fun i=>BN p xs xb n (2 - i)) (fun i=>Be p xs xb n (2 - i)) k
theorem zDQ{t:Array Oper}{o:Oper}{K:Act->World->Prop}{E:Prop}(A:o.guard=none)(s x:Operand)
 (I:o.op = .call {callee:=.builtin .append,args:=#[s,x],argTypes:=#[39,39]}) (base k:Nat) (v:Value) (l:List (Int×Int)) (hs:a.eval s=v) (d:Ax w base v l)
 (z:Option Addr) (m c:Nat) (g:List (Int×Int)) (L:a.eval x = .slice z m c) (q:m=g.length) (N:Ax w k (.slice z m c) g) (H:l.length+g.length<=1000) (n:base<=w.heap.size)
 (h:∀y w',Ax w' base y (l ++ g)->w.grownBy w' v.ownBlock->K (a.put o.dst y) w'):if Region.wanted o (yielded t a.tmps)=true then Oper.wp Tryz.prog o a w K Q else E:=by
 have R:Region.wanted o (yielded t a.tmps)=true:=by simp[Region.wanted,A]
 rw[if_pos R];obtain⟨i0,f,D,F,G⟩:∃i,Tryz.prog.info? 38=some i/\i.zero=some (.agg #[A0 0,A0 0])/\i.size=2/\i.bytes=16:=by
  obtain⟨i0,f,r⟩:=Option.map_eq_some_iff.1 Nz;simp only[Prod.mk.injEq]at r;exact⟨i0,f,r⟩
 have J:Tryz.prog.underlying 39=some (.slice 38):=by kernel_rfl
 by_cases M:0<g.length
 ·obtain⟨b,cap,e,_,_,_,p⟩:=FI N M;simp only[Value.slice.injEq]at e;obtain⟨rfl,_,_⟩:=e;obtain⟨y,w',C,r1,S,_⟩:=run_append_own (P:=Tryz.prog) w base 39 o.type 38 i0 (.agg #[A0 0,A0 0]) 2 16 J f D F G rfl (by decide) v l.length (pcl l) d ⟨b,0,none⟩ m c (pcl g) (by rw[Ip,q]) (fun j u O=>by rw[add_lit,Nat.zero_add];exact(p j u O).1) (NZ g) (by rw[q];unfold maxLen;omega) (by rw[q];omega) n;unfold Oper.wp;simp[execOp,I,resolve,invoke,builtin,hs,L,C,Result.andThen];refine h y w' ?_ S;unfold Ax;rw[MH,List.length_append,<-q];exact r1
 ·have e0:g = []:=List.eq_nil_of_length_eq_zero (by omega);subst e0;have B:m=0:=q;subst B;have C:=Rp (P:=Tryz.prog) (w:=w) base 39 o.type 38 i0 2 c z J f v l.length (pcl l) d;unfold Oper.wp;simp[execOp,I,resolve,invoke,builtin,hs,L,C,Result.andThen];exact h v w (by rw[List.append_nil];exact d) ⟨rfl,rfl,rfl,Nat.le_refl _,fun _ _ _=>rfl⟩
variable{v:Value}
theorem Ke{z X:Nat}(a:Act)(h:a = {tmps:=#[v,.agg #[A0 xs,A0 xb],A0 (n:Int),a.tmps.getD 3 undef,.pointer (some ⟨z,0,none⟩),a.tmps.getD 5 undef,.pointer (some ⟨z+1,0,none⟩),.pointer (some ⟨B,0,none⟩),.pointer (some ⟨X,0,none⟩),A0 (L:Int),a.tmps.getD 10 undef,a.tmps.getD 11 undef,a.tmps.getD 12 undef,a.tmps.getD 13 undef,a.tmps.getD 14 undef,a.tmps.getD 15 undef,a.tmps.getD 16 undef,a.tmps.getD 17 undef,a.tmps.getD 18 undef,a.tmps.getD 19 undef,a.tmps.getD 20 undef,a.tmps.getD 21 undef,a.tmps.getD 22 undef,a.tmps.getD 23 undef,a.tmps.getD 24 undef,a.tmps.getD 25 undef,a.tmps.getD 26 undef,a.tmps.getD 27 undef,a.tmps.getD 28 undef,a.tmps.getD 29 undef,a.tmps.getD 30 undef,a.tmps.getD 31 undef,a.tmps.getD 32 undef,a.tmps.getD 33 undef,a.tmps.getD 34 undef,a.tmps.getD 35 undef,a.tmps.getD 36 undef,a.tmps.getD 37 undef,a.tmps.getD 38 undef,a.tmps.getD 39 undef,a.tmps.getD 40 undef,a.tmps.getD 41 undef,a.tmps.getD 42 undef,a.tmps.getD 43 undef,a.tmps.getD 44 undef,a.tmps.getD 45 undef,a.tmps.getD 46 undef,a.tmps.getD 47 undef,a.tmps.getD 48 undef,a.tmps.getD 49 undef,a.tmps.getD 50 undef,a.tmps.getD 51 undef,a.tmps.getD 52 undef,a.tmps.getD 53 undef,a.tmps.getD 54 undef,a.tmps.getD 55 undef,a.tmps.getD 56 undef,a.tmps.getD 57 undef,a.tmps.getD 58 undef,a.tmps.getD 59 undef,a.tmps.getD 60 undef,a.tmps.getD 61 undef,a.tmps.getD 62 undef,a.tmps.getD 63 undef,a.tmps.getD 64 undef,a.tmps.getD 65 undef,a.tmps.getD 66 undef,a.tmps.getD 67 undef],defers:=[]}):∃j:Nat->Value,a = {tmps:=#[v,.agg #[A0 xs,A0 xb],A0 (n:Int),j 3,.pointer (some ⟨z,0,none⟩),j 5,.pointer (some ⟨z+1,0,none⟩),.pointer (some ⟨B,0,none⟩),.pointer (some ⟨X,0,none⟩),A0 (L:Int),j 10,j 11,j 12,j 13,j 14,j 15,j 16,j 17,j 18,j 19,j 20,j 21,j 22,j 23,j 24,j 25,j 26,j 27,j 28,j 29,j 30,j 31,j 32,j 33,j 34,j 35,j 36,j 37,j 38,j 39,j 40,j 41,j 42,j 43,j 44,j 45,j 46,j 47,j 48,j 49,j 50,j 51,j 52,j 53,j 54,j 55,j 56,j 57,j 58,j 59,j 60,j 61,j 62,j 63,j 64,j 65,j 66,j 67],defers:=[]}:=⟨fun i=>a.tmps.getD i undef,h⟩
def zIe(p:A7)(v:Value)(xs xb:Int)(n:Nat)(w0:World)(z:Nat)(k l:Nat)(a:Act)(w:World):Prop:=
 ∃B X L:Nat,(∃j:Nat->Value,a = {tmps:=#[v,.agg #[A0 xs,A0 xb],A0 (n:Int),j 3,.pointer (some ⟨z,0,none⟩),j 5,.pointer (some ⟨z+1,0,none⟩),.pointer (some ⟨B,0,none⟩),.pointer (some ⟨X,0,none⟩),A0 (L:Int),j 10,j 11,j 12,j 13,j 14,j 15,j 16,j 17,j 18,j 19,j 20,j 21,j 22,j 23,j 24,j 25,j 26,j 27,j 28,j 29,j 30,j 31,j 32,j 33,j 34,j 35,j 36,j 37,j 38,j 39,j 40,j 41,j 42,j 43,j 44,j 45,j 46,j 47,j 48,j 49,j 50,j 51,j 52,j 53,j 54,j 55,j 56,j 57,j 58,j 59,j 60,j 61,j 62,j 63,j 64,j 65,j 66,j 67],defers:=[]})/\L<3/\z+1<B/\B<X/\X<w.heap.size/\Below z w0 w/\w.heap[z+1]?=some (.cells Mb 125 (0,0))/\
  ((l=0/\7<=k+L/\CC w B (BY p xs xb n L L (A5))/\Ad w X (A0 (BN p xs xb n L)) (A0 (Be p xs xb n L)))\/
   (l=1/\L<k/\∃o,CC w B (BY p xs xb n 2 3 o)/\Ax w (X+1) o (BS p xs xb n (2 - L))))
theorem ZK(B:Nat):∀(vs:List Value) (o:Nat) (w:World),AC (fun k=>k=B) w (w.setCells B o vs)
 | [],_,w=>AC.refl _ w
 | v :: vs,o,w=>((AC.refl (fun k=>k=B) w).setCell (p:=⟨B,o,none⟩) rfl v).trans (ZK B vs (o+1) _)
theorem Xq(p:A7)(xs xb:Int)(n K M:Nat)(o:Value)(a:L<2):BY p xs xb n K M o L=A0 (plc n L:Nat):=by
 unfold BY;rw[if_pos a]
theorem UL(p:A7)(xs xb:Int)(n M:Nat)(o:Value){j:Nat}(a:L<2)(b:j<16):BY p xs xb n (L+1) M o (2+L*16+j)=A0 (Cx p xs xb n L j):=by
 unfold BY;rw[if_neg (by omega),if_pos (by omega),show(2+L*16+j - 2) / 16=L by omega,show(2+L*16+j - 2) % 16=j by omega,if_pos (by omega)]
theorem UM(p:A7)(xs xb:Int)(n K:Nat)(o:Value)(a:L<3):BY p xs xb n K 3 o (34+L*2)=A0 (BN p xs xb n L)/\BY p xs xb n K 3 o (34+L*2+1)=A0 (Be p xs xb n L):=by
 refine⟨?_,?_⟩
 · unfold BY
   rw[if_neg (by omega),if_neg (by omega),if_pos (by omega),show(34+L*2 - 34) / 2=L by omega,show(34+L*2 - 34) % 2=0 by omega,if_pos (by omega),if_pos rfl]
 · unfold BY
   rw[if_neg (by omega),if_neg (by omega),if_pos (by omega),show(34+L*2+1 - 34) / 2=L by omega,show(34+L*2+1 - 34) % 2=1 by omega,if_pos (by omega),if_neg (by omega)]
theorem zGN(p:A7)(xs xb:Int)(n K M:Nat)(o:Value):BY p xs xb n K M o 40=o:=rfl
theorem zFk(c:L<2->Nil (BN p xs xb n L) (Be p xs xb n L))(e:L<3):BS p xs xb n (2 - L) = []:=by
 unfold BS;rcases L with _ | _ | L
 · have b:=c (by omega)
   have a:=KP b (by omega);have d:=KP a (by omega);show([] ++ one (BN p xs xb n 2) (Be p xs xb n 2)) ++ one (BN p xs xb n 1) (Be p xs xb n 1) = [];unfold one;rw[if_pos d,if_pos a];rfl
 · have b:=c (by omega)
   have a:=KP b (by omega);show [] ++ one (BN p xs xb n 2) (Be p xs xb n 2) = [];unfold one;rw[if_pos a];rfl
 · obtain rfl:L=0:=by omega
   rfl
theorem UW(p:A7)(xs xb:Int)(n:Nat)(a:L<3):BS p xs xb n (2 - L+1)=BS p xs xb n (2 - L) ++ one (BN p xs xb n L) (Be p xs xb n L):=by
 show BS p xs xb n (2 - L) ++ one (BN p xs xb n (2 - (2 - L))) (Be p xs xb n (2 - (2 - L)))=_;rw[show 2 - (2 - L)=L by omega]
theorem zr(p:A7)(xs xb:Int)(n k:Nat):(BS p xs xb n k).length<=k:=IB _ _ k
theorem UN(p:A7)(xs xb:Int)(n K M:Nat)(a:o.oneCell'=true):(CW (BY p xs xb n K M o)).all (·.oneCell')=true:=by
 unfold CW;rw[Array.all_eq_true_iff_forall_mem];intro v hv;simp at hv;obtain⟨i,_,rfl⟩:=hv;unfold BY;split
 · rfl
 split
 · rfl
 split
 · rfl
 · exact a
variable{l:List (Int×Int)}
theorem Ax.one{base:Nat}(h:Ax w base v l):v.oneCell'=true:=by
 obtain⟨a,c,rfl,_⟩:=Bw h;rfl
theorem Ax.setRow{base g:Nat}(h:Ax w base v l)(d:g<base)(cs:Array Value):Ax (w.setRow g cs) base v l:=by
 have t:=AC.setRow w g cs;exact h.AD (row:=some g) ⟨t.os,t.tape,t.output,t.size,fun k b a=>t.block k b (fun e=>a (by rw[e]))⟩ (fun q c=>by
  have:=(h.lt c).1;simp only[ne_eq,Option.some.injEq];omega)
theorem Ug(f:Nat->Value):(Tryz.prog.info? 125).map (·.size)=some ((List.range 41).map f).length:=by
 rw[Pk];simp
theorem Vw(v:Value)(lo hi:Nat)(p:A7)(xs xb:Int)(n:Nat)(w:World)(h1:CL w lo hi v p.n p.s)(hT:As p xs xb)(hn:n<64) :
 Calls Tryz.prog 80 #[v,.agg #[A0 xs,A0 xb],A0 (n:Int)] w fun e w'=>∃o,e = .returned (.agg (CW (BY p xs xb n 2 3 o)))/\Ax w' w.heap.size o (BS p xs xb n 3)/\Below w.heap.size w w':=by
 have Hp:=AF h1;have HT:=AF hT;obtain⟨_,a,c,rfl,_⟩:=id h1;clear h1 hT;have pE:(n:Int)<64:=by omega
 have nE:0<=(n:Int) % 8:=by omega
 have oE:(n:Int) % 8<8:=by omega
 have eC:=AB w (.cells #[A0 xs,A0 xb] 38);have fB:=AB (w.alloc (.cells #[A0 xs,A0 xb] 38)) (.cells #[A0 0,A0 0,A0 0,A0 0,A0 0,A0 0,A0 0,A0 0,A0 0,A0 0,A0 0,A0 0,A0 0,A0 0,A0 0,A0 0,A0 0,A0 0,A0 0,A0 0,A0 0,A0 0,A0 0,A0 0,A0 0,A0 0,A0 0,A0 0,A0 0,A0 0,A0 0,A0 0,A0 0,A0 0,A0 0,A0 0,A0 0,A0 0,A0 0,A0 0,A5] 125);have U:=AF ((Ad.new w (A0 xs) (A0 xb) 38).A1 fB);have T:Hid (((w.alloc (.cells #[A0 xs,A0 xb] 38)).alloc (.cells #[A0 0,A0 0,A0 0,A0 0,A0 0,A0 0,A0 0,A0 0,A0 0,A0 0,A0 0,A0 0,A0 0,A0 0,A0 0,A0 0,A0 0,A0 0,A0 0,A0 0,A0 0,A0 0,A0 0,A0 0,A0 0,A0 0,A0 0,A0 0,A0 0,A0 0,A0 0,A0 0,A0 0,A0 0,A0 0,A0 0,A0 0,A0 0,A0 0,A0 0,A5] 125)).heap[w.heap.size+1]?=some (.cells Mb 125 (0,0))):=by
  have:=heap_alloc_new (w.alloc (.cells #[A0 xs,A0 xb] 38)) (.cells #[A0 0,A0 0,A0 0,A0 0,A0 0,A0 0,A0 0,A0 0,A0 0,A0 0,A0 0,A0 0,A0 0,A0 0,A0 0,A0 0,A0 0,A0 0,A0 0,A0 0,A0 0,A0 0,A0 0,A0 0,A0 0,A0 0,A0 0,A0 0,A0 0,A0 0,A0 0,A0 0,A0 0,A0 0,A0 0,A0 0,A0 0,A0 0,A0 0,A0 0,A5] 125);rw[World.size_alloc]at this;exact this
 have bA:=A9 eC fB;have G:((w.alloc (.cells #[A0 xs,A0 xb] 38)).alloc (.cells #[A0 0,A0 0,A0 0,A0 0,A0 0,A0 0,A0 0,A0 0,A0 0,A0 0,A0 0,A0 0,A0 0,A0 0,A0 0,A0 0,A0 0,A0 0,A0 0,A0 0,A0 0,A0 0,A0 0,A0 0,A0 0,A0 0,A0 0,A0 0,A0 0,A0 0,A0 0,A0 0,A0 0,A0 0,A0 0,A0 0,A0 0,A0 0,A0 0,A0 0,A5] 125)).heap.size=w.heap.size+2:=by rw[World.size_alloc,World.size_alloc]
 clear eC fB;go_enter Tryz.func80,Tryz.ntmps80;go_wp2;refine zBk (zIe p (.slice a p.n c) xs xb n w w.heap.size) 6 ?_ ?_ ?_
 ·rintro l a w ⟨B,X,L,_,N,_,_,_,_,_,h | h⟩
  ·have:=h.2.1;omega
  ·have:=h.2.1;omega
 ·clear U T bA G;rintro k l a' d ⟨B,X,L,⟨j,rfl⟩,N,hB,hX,D,hb,hO,⟨rfl,t,hW,hx⟩ | ⟨rfl,t,o,hW,hr⟩⟩
  ·refine⟨_,rfl,?_⟩;have A:=AF hW;have HX:=AF hx;have HO:=AF hO;have Hb:=AF hb;have Hk:=AF t;have jD:(L:Int)<3:=(by omega);have iD:B≠X:=(by omega);obtain⟨⟨x0,x1⟩,⟨x2,x3⟩⟩:=hx;obtain⟨y0,y1⟩:=A.out (34+L*2) (by omega);obtain⟨y2,y3⟩:=A.out (34+L*2+1) (by omega);clear hW hO hb t;go_upto_region 4 with fail;have cA:AC (fun k=>k=B) d ((d.setCell ⟨B,34+L*2,none⟩ (A0 (BN p xs xb n L))).setCell ⟨B,34+L*2+1,none⟩ (A0 (Be p xs xb n L))):=((AC.refl (fun k=>k=B) d).setCell (p:=⟨B,34+L*2,none⟩) rfl _).setCell (p:=⟨B,34+L*2+1,none⟩) rfl _;have I:=AF (zHZ N A.out);have V:=AF (HX.out.AD cA (by omega));have H:=AF ((cA.block _ (by omega) (by omega)).trans HO.out);have y:=AF ((Hb.out.setCell (p:=⟨B,34+L*2,none⟩) (by show _<=B;omega) (A0 (BN p xs xb n L))).setCell (p:=⟨B,34+L*2+1,none⟩) (by show _<=B;omega) (A0 (Be p xs xb n L)));have r:=Nat.lt_of_lt_of_le D cA.size;clear cA x0 x1 x2 x3 y0 y1 y2 y3;generalize (d.setCell ⟨B,34+L*2,none⟩ (A0 (BN p xs xb n L))).setCell ⟨B,34+L*2+1,none⟩ (A0 (Be p xs xb n L))=w2 at I V H y r ⊢;clear A HX HO Hb D;obtain⟨⟨x0,x1⟩,⟨x2,x3⟩⟩:=V.out;by_cases g:Nil (BN p xs xb n L) (Be p xs xb n L)
   ·have HN:=AF g;rw[g.1]at x0;rw[g.2]at x2;clear g;go_wp2;go_step3;have t:=Hk.out;exact⟨B,X,L,Ke _ rfl,N,hB,hX,r,y.out,H.out,Or.inr ⟨rfl,by omega,A5,Sj N I.out (fun _=>HN.out),by rw[zFk (fun _=>HN.out) N];exact Ax.nil _ _⟩⟩
   ·have HN:=AF g;by_cases kD:L=2
    ·subst kD;rcases L1 g with e0 | ⟨e0,e1⟩
     all_goals
      clear g;go_wp2;go_step3;have t:=Hk.out;exact⟨B,X,2,Ke _ rfl,N,hB,hX,r,y.out,H.out,Or.inr ⟨rfl,by omega,A5,Sj N I.out (fun h=>absurd h (by omega)),Ax.nil _ _⟩⟩
    ·have z:L<2:=(by omega);have mE:((L:Int) == 2)=false:=(by simp;omega);have hK:=(zIF HT.out hn z).resolve_left g;obtain⟨m,hm⟩:=Int.eq_ofNat_of_zero_le hK.1.2.1;have lD:m<p.n:=(by have:=hK.1.2.2.1;omega);have bE:(m:Int)<(p.n:Int):=(by omega);have aD:Hid ((p.s m).kn=8):=by
      have:=hK.2;rw[hm]at this;exact this
     obtain⟨b,off,ka,kc,rfl,iC⟩:=(Hp.out.A1 y.out).cells lD;have HC:=AF iC;obtain⟨q0,q1,q2,_⟩:=iC;have Hm:=AF hm;have fC:=L1 g;rw[hm]at x0 fC;clear hm hK g;have vB:Hid ((Tryz.prog.info? 121).map (·.size)=some (B9 (p.s m)).size):=by
      show _=_;rw[B9,D4];exact GV
     rcases fC with e0 | ⟨e0,e1⟩
     all_goals
      go_wp2_with fail;refine(OO _ _ _ lo hi (p.s m) _ HC.out.slot (Or.inr aD.out)).mono ?_;rintro e w3 ⟨rfl,E⟩;have rA:=AF (I.out.A1 E);have tB:=AF (V.out.A1 E);have oB:=AF ((E.block _ (by omega)).trans H.out);have tA:=AF (y.out.trans (E.mono y.out.size));have jA:=Nat.lt_of_lt_of_le r E.size;have sB:Hid (w3.there B (2+L*16) (B9 (p.s m)).size):=by
       have:=rA.out.there (o:=2+L*16) (n:=16) (by omega);rw[<-D4 (BC (p.s m))]at this;exact this
      clear E x0 x1 x2 x3 q0 q1 q2 HC I V H y r;go_upto_region 6 with(refine wpList_store_mid rfl 121 (.tmp 36) (.tmp 34) rfl B (2+L*16) (B9 (p.s m)) rfl rfl sB.out vB.out (I7 _) ?_);have Q:=ZK B (B9 (p.s m)).toList (2+L*16) w3;have J:Hid (CC (w3.setCells B (2+L*16) (B9 (p.s m)).toList) B (BY p xs xb n (L+1) (L+1) (A5))):=by
       have:=zGO z rA.out HN.out;rw[Hm.out]at this;exact this
      have sA:=AF (tB.out.AD Q (by omega));have pB:=AF ((Q.block _ (by omega) (by omega)).trans oB.out);have vA:=AF (tA.out.trans (Q.A1 (B:=w.heap.size) (tA.out.size) (by intro k t;omega)));have kA:=Nat.lt_of_lt_of_le jA Q.size;clear Q rA tB oB tA jA sB;generalize w3.setCells B (2+L*16) (B9 (p.s m)).toList=w4 at J sA pB vA kA ⊢;have rE:=N9 (n:=n) (L:=L) hn;have cE:((plc n L:Nat):Int)<8:=(by omega);obtain⟨⟨x0,x1⟩,⟨x2,x3⟩⟩:=sA.out;obtain⟨z0,_⟩:=J.out L (by omega);rw[Xq p xs xb n _ _ _ z]at z0;obtain⟨y0,_⟩:=J.out (2+L*16+plc n L*2) (by omega);rw[UL p xs xb n _ _ z (by omega),<-(KZ p xs xb n z).1]at y0;obtain⟨y1,_⟩:=J.out (2+L*16+plc n L*2+1) (by omega);rw[Nat.add_assoc,UL p xs xb n _ _ z (by omega),<-(KZ p xs xb n z).2,<-Nat.add_assoc]at y1;have aB:Hid (∀(u v:Value) (w5:World),w5=((w4.drew.setCell ⟨X,0,none⟩ u).setCell ⟨X,1,none⟩ v)->(w5.cell? ⟨B,L,none⟩=some (A0 ((plc n L:Nat):Int))/\w5.cell? ⟨B,2+L*16+plc n L*2,none⟩=some (A0 (BN p xs xb n (L+1)))/\w5.cell? ⟨B,2+L*16+plc n L*2+1,none⟩=some (A0 (Be p xs xb n (L+1))))):=by
       intro u v w5 e5;have h:=fun o=>(Ir w4.drew X u v).cell (b:=B) (o:=o) (by show B<w4.heap.size;omega) (by omega)
       rw[e5,h,h,h];exact⟨z0,y0,y1⟩
      have vD:(L:Int)<2:=(by omega);simp only[Act.put];refine wp_region_held_drew (S:=(fun w'=>w'.cell? ⟨B,L,none⟩=some (A0 ((plc n L:Nat):Int))/\w'.cell? ⟨B,2+L*16+plc n L*2,none⟩=some (A0 (BN p xs xb n (L+1)))/\w'.cell? ⟨B,2+L*16+plc n L*2+1,none⟩=some (A0 (Be p xs xb n (L+1))))) (by kernel_rfl) ?_ (fun hHeld=>?_)
      ·(try dsimp only)
       go_keep
      refine tk 0 (h:=tk 1 (h:=tk 2 (h:=tk 3 (h:=tk 4 (h:=tk 5 (h:=tk 6 (h:=tk 7 (h:=tk 8 (h:=?_)))))))));refine rd [9] (rc (fun K hK=>?_) .nil);go_simp
      (try go_wp2_with fail)
      refine hK.out _ _ (by(try dsimp only);exact aB.out _ _ _ rfl) ?_;clear hK K hHeld;intro hHeld
      try simp only[Act.put,s1,s2,s3]
      refine wpAnyH_done (by kernel_rfl) ?_ _;go_wp2;go_step3;have t:=Hk.out;have dA:AC (fun k=>k=X) w4 ((w4.setCell ⟨X,0,none⟩ (A0 (BN p xs xb n (L+1)))).setCell ⟨X,1,none⟩ (A0 (Be p xs xb n (L+1)))).drew:=by
       have h:=Ir w4 X (A0 (BN p xs xb n (L+1))) (A0 (Be p xs xb n (L+1)));exact⟨h.os,h.tape,h.output,h.size,h.block⟩
      exact⟨B,X,L+1,Ke _ rfl,by omega,hB,hX,Nat.lt_of_lt_of_le kA dA.size,vA.out.trans (dA.A1 (B:=w.heap.size) vA.out.size (by intro k t;omega)),(dA.block _ (by omega) (by omega)).trans pB.out,Or.inl ⟨rfl,by omega,J.out.AD dA (by omega),sA.out.put _ _⟩⟩
  ·refine⟨_,rfl,?_⟩;have A:=AF hW;have HO:=AF hO;have Hb:=AF hb;have Hk:=AF t;have HR:=AF hr;have jD:(L:Int)<3:=(by omega);have iD:B≠X:=(by omega);obtain⟨y0,_⟩:=A.out (34+L*2) (by omega);rw[(UM p xs xb n 2 o N).1]at y0;obtain⟨y1,_⟩:=A.out (34+L*2+1) (by omega);rw[(UM p xs xb n 2 o N).2]at y1;clear hW hO hb t hr;obtain⟨wd,jC⟩:=Option.map_eq_some_iff.1 zIM;have HU:=AF jC;clear jC;by_cases g:Nil (BN p xs xb n L) (Be p xs xb n L)
   ·have HN:=AF g;rw[g.1]at y0;rw[g.2]at y1;clear g;have f:Hid (Ax d (X+1) o (BS p xs xb n (2 - L+1))):=by
     have:=HR.out;rw[UW p xs xb n N];unfold one;rw[if_pos HN.out,List.append_nil];exact this
    have x:=A;have q:=HO;have C:=Hb;have Z:=D;clear A HO Hb HR D;by_cases cB:L=0
    ·subst cB;go_wp2_with (first
      | (refine wpList_load_mid rfl 125 (.tmp 7) rfl B 0 rfl ((List.range 41).map (BY p xs xb n 2 3 o)) wd x.out.range HU.out.1 HU.out.2 (Ug _) ?_)
      | (refine wpList_store_row rfl 125 (.tmp 6) (.tmp 67) rfl (w.heap.size+1) (CW (BY p xs xb n 2 3 o)) rfl rfl 125 Mb q.out (O0 _) (by rw[Qx];rfl) (UN _ _ _ _ _ _ f.out.one) ?_)
      | fail)
     unfold hop;dsimp only;refine bodyPost_ret (v:=.agg (CW (BY p xs xb n 2 3 o))) (results_cell_row (P:=Tryz.prog) (ty:=125) Tryz.results80 _ _ (w.heap.size+1) 125 (CW (BY p xs xb n 2 3 o)) (0,0) _ rfl (setRow_heap _ _ _ _ _ _ q.out) HU.out.1 (by have:=HU.out.2;cases wd<;>exact this) (O0 _)) rfl ⟨o,rfl,?_,?_⟩
     ·exact(f.out.setRow (by omega) _).mono (by omega)
     ·exact below_setRow C.out (by omega) _
    ·obtain⟨M,rfl⟩:∃M,L=M+1:=⟨L - 1,by omega⟩;have hM:(0:Int)<(M:Int)+1:=(by omega);go_wp2;go_step3;have t:=Hk.out;exact⟨B,X,M,Ke _ rfl,by omega,hB,hX,Z,C.out,q.out,Or.inr ⟨rfl,by omega,o,x.out,by
      have:=f.out;rw[show 2 - (M+1)+1=2 - M by omega]at this;exact this⟩⟩
   ·have HN:=AF g;obtain⟨oa,oc,rfl,_⟩:=Bw HR.out;have lC:d.cell? ⟨B,40,none⟩=some (.slice oa (BS p xs xb n (2 - L)).length oc):=(A.out 40 (by omega)).1;rcases L1 g with e0 | ⟨e0,e1⟩
    all_goals
     clear g;go_upto_region 9 with fail;have bB:Below d.heap.size d (d.alloc (.cells #[A0 (BN p xs xb n L),A0 (Be p xs xb n L)] 38)):=AB _ _;have mC:(d.alloc (.cells #[A0 (BN p xs xb n L),A0 (Be p xs xb n L)] 38)).cell? ⟨B,40,none⟩=some (.slice oa (BS p xs xb n (2 - L)).length oc):=((A.out.A1 bB) 40 (by omega)).1;have R:Hid (Below d.heap.size d (d.alloc (.cells #[A0 (BN p xs xb n L),A0 (Be p xs xb n L)] 38)).drew):=bB.drew;clear bB;have aC:Hid (Ax (d.alloc (.cells #[A0 (BN p xs xb n L),A0 (Be p xs xb n L)] 38)).drew d.heap.size (.slice (some ⟨d.heap.size,0,none⟩) 1 1) [(BN p xs xb n L,Be p xs xb n L)]):=World.ownsRow_lit (e:=38) (size:=2) d #[A0 (BN p xs xb n L),A0 (Be p xs xb n L)] 1 (Nat.le_refl _) (by unfold maxLen;omega) rfl
     go_region_law (refine zDQ rfl (.tmp 55) (.tmp 60) rfl (X+1) d.heap.size (.slice oa (BS p xs xb n (2 - L)).length oc) (BS p xs xb n (2 - L)) (by simp[Act.eval]) (HR.out.A1 R.out) (some ⟨d.heap.size,0,none⟩) 1 1 [(BN p xs xb n L,Be p xs xb n L)] (by simp[Act.eval]) rfl aC.out (by have:=zr p xs xb n (2 - L);simp;omega) (by have:=R.out.size;omega) ?_;intro v3 w3 gB F;obtain⟨va,vc,rfl,_⟩:=Bw gB;have eB:AC (fun k=>X<k) d w3:=(AC.EF R.out).trans ⟨F.os,F.tape,F.output,F.size,fun k t mD=>F.block k t (fun e=>mD (by have:=(HR.out.lt e.symm).1;omega))⟩;obtain⟨k0,nD⟩:=(A.out.AD eB (by omega)) 40 (by omega);have pA:=AF eB;have rB:=AF gB;clear eB gB F)
     all_goals
      have lA:(BS p xs xb n (2 - L) ++ [(BN p xs xb n L,Be p xs xb n L)]).length=(BS p xs xb n (2 - L)).length+1:=(by simp);have Y:AC (fun k=>X<k\/k=B) d (w3.setCell ⟨B,40,none⟩ (.slice va ((BS p xs xb n (2 - L)).length+1) vc)):=AC.setCell (S:=fun k=>X<k\/k=B) (pA.out.mono (fun k t=>Or.inl t)) (p:=⟨B,40,none⟩) (Or.inr rfl) _;have x:=AF (zHb (.slice va ((BS p xs xb n (2 - L)).length+1) vc) (A.out.AD pA.out (by omega)));have f:Hid (Ax (w3.setCell ⟨B,40,none⟩ (.slice va ((BS p xs xb n (2 - L)).length+1) vc)) (X+1) (.slice va ((BS p xs xb n (2 - L)).length+1) vc) (BS p xs xb n (2 - L+1))):=by
       have:=rB.out.put (b:=B) (o:=40) (by omega) (.slice va ((BS p xs xb n (2 - L)).length+1) vc);rw[lA]at this;rw[UW p xs xb n N];unfold one;rw[if_neg HN.out];exact this
      have q:=AF ((Y.block _ (by omega) (by omega)).trans HO.out);have C:=AF (Hb.out.trans (Y.A1 (B:=w.heap.size) Hb.out.size (by intro k t;omega)));have Z:=Nat.lt_of_lt_of_le D Y.size;clear Y rB pA R aC mC lC A HO Hb HR D k0 nD lA y0 y1;generalize w3.setCell ⟨B,40,none⟩ (.slice va ((BS p xs xb n (2 - L)).length+1) vc)=w4 at x f q C Z ⊢;generalize Value.slice va ((BS p xs xb n (2 - L)).length+1) vc=oq at x f ⊢;by_cases cB:L=0
      ·subst cB;go_wp2_with (first
        | (refine wpList_load_mid rfl 125 (.tmp 7) rfl B 0 rfl ((List.range 41).map (BY p xs xb n 2 3 oq)) wd x.out.range HU.out.1 HU.out.2 (Ug _) ?_)
        | (refine wpList_store_row rfl 125 (.tmp 6) (.tmp 67) rfl (w.heap.size+1) (CW (BY p xs xb n 2 3 oq)) rfl rfl 125 Mb q.out (O0 _) (by rw[Qx];rfl) (UN _ _ _ _ _ _ f.out.one) ?_)
        | fail)
       unfold hop;dsimp only;refine bodyPost_ret (v:=.agg (CW (BY p xs xb n 2 3 oq))) (results_cell_row (P:=Tryz.prog) (ty:=125) Tryz.results80 _ _ (w.heap.size+1) 125 (CW (BY p xs xb n 2 3 oq)) (0,0) _ rfl (setRow_heap _ _ _ _ _ _ q.out) HU.out.1 (by have:=HU.out.2;cases wd<;>exact this) (O0 _)) rfl ⟨oq,rfl,?_,?_⟩
       ·exact(f.out.setRow (by omega) _).mono (by omega)
       ·exact below_setRow C.out (by omega) _
      ·obtain⟨M,rfl⟩:∃M,L=M+1:=⟨L - 1,by omega⟩;have hM:(0:Int)<(M:Int)+1:=(by omega);go_wp2;go_step3;have t:=Hk.out;exact⟨B,X,M,Ke _ rfl,by omega,hB,hX,Z,C.out,q.out,Or.inr ⟨rfl,by omega,oq,x.out,by
        have:=f.out;rw[show 2 - (M+1)+1=2 - M by omega]at this;exact this⟩⟩
 ·intro enter;go_upto_region 1 with fail;generalize (w.alloc (.cells #[A0 xs,A0 xb] 38)).alloc (.cells #[A0 0,A0 0,A0 0,A0 0,A0 0,A0 0,A0 0,A0 0,A0 0,A0 0,A0 0,A0 0,A0 0,A0 0,A0 0,A0 0,A0 0,A0 0,A0 0,A0 0,A0 0,A0 0,A0 0,A0 0,A0 0,A0 0,A0 0,A0 0,A0 0,A0 0,A0 0,A0 0,A0 0,A0 0,A0 0,A0 0,A0 0,A0 0,A0 0,A0 0,A5] 125)=W at U T bA G ⊢;have aA:=AB W (.cells (Fo n) 125);have cD:=AF (U.out.A1 aA);have dD:=AF (zHa W n);have bD:=AF ((aA.block _ (by omega)).trans T.out);have gD:=A9 bA aA;have kC:(W.alloc (.cells (Fo n) 125)).heap.size=w.heap.size+3:=(by rw[World.size_alloc,G]);obtain⟨⟨x0,x1⟩,⟨x2,x3⟩⟩:=cD.out;have eD:=AF G;clear aA U T bA G;go_wp2_with (first
   | (refine wpList_store_row rfl 125 (.tmp 7) (.tmp 15) rfl W.heap.size (Fo n) rfl rfl 125 Mb (heap_alloc_last _ _) (zEH n) rfl (zGM n) ?_;rw[World.setRow_alloc_new])
   | fail)
  go_step3
  rename_i K hK
  refine hK _ _ (enter 0 _ _ _ rfl ?_);clear hK;have G:=eD.out;have O:=AB (W.alloc (.cells (Fo n) 125)) (.cells #[A0 xs,A0 xb] 38);refine⟨W.heap.size,w.heap.size+3,0,Ke _ rfl,by omega,by omega,by omega,by rw[World.size_alloc,kC];omega,A9 gD O,?_,Or.inl ⟨rfl,by omega,?_,?_⟩⟩
  ·exact(O.block _ (by omega)).trans bD.out
  ·exact(dD.out.A1 O).congr fun i hi=>zGP p xs xb n hi
  ·have:=Ad.new (W.alloc (.cells (Fo n) 125)) (A0 xs) (A0 xb) 38;rw[kC]at this;exact this
open Classical in
def roomN(f:Nat->AH):Nat->Nat
 | 0=>0
 | k+1=>roomN f k+(if Ah (f k)then 1 else 0)
variable{f:Nat->AH}{k:Nat}
theorem Jl(h:Ah (f k)):roomN f (k+1)=roomN f k+1:=by simp[roomN,h]
theorem J0(h:¬Ah (f k)):roomN f (k+1)=roomN f k:=by simp[roomN,h]
theorem Ns(f:Nat->AH):∀k,roomN f k<=k
 | 0=>Nat.le_refl _
 | k+1=>by
  have:=Ns f k;by_cases h:Ah (f k)
  ·rw[Jl h];omega
  ·rw[J0 h];omega
open Classical in
def Mh(p:A7):Int:=if AZ p then(roomN p.s p.n:Int)else 0
theorem J1(p:A7)(i:Nat)(s:AH):(Au p i s).s i=s:=if_pos rfl
theorem J2(p:A7){j:Nat}(s:AH)(h:j≠i):(Au p i s).s j=p.s j:=if_neg h
variable{s:AH}
theorem MI(hi:Ah (p.s i))(h:B8 p xs xb):B8 (Au p i s) xs xb:=by
 obtain⟨c,d,f,b⟩:=h;refine⟨c,d,f,?_⟩;have a:xs.toNat≠i:=fun e=>by
  rw[e]at b;have:=hi.1;omega
 rw[J2 p s a];exact b
theorem V3{t:AH}(hi:Ah (p.s i))(h:C5 p t):C5 (Au p i s) t:=by
 refine⟨h.1,?_⟩;rcases h.2 with a | a
 ·exact Or.inl a
 ·refine Or.inr ⟨a.1,a.2.1,fun m c=>?_⟩;rcases a.2.2 m c with b | b
  ·exact Or.inl b
  ·exact Or.inr ⟨MI hi b.1,b.2⟩
theorem OK(a:AZ p)(hi:Ba p.n p.s i)(hs:C5 p s):AZ (Au p i s):=by
 refine⟨a.1,fun j b=>?_,fun j b=>?_⟩
 ·by_cases e:j=i
  ·rw[e,J1];exact Or.inr (V3 hi.2.1 hs)
  ·rw[J2 p s e];rcases a.2.1 j b with h | h
   ·exact Or.inl h
   ·exact Or.inr (V3 hi.2.1 h)
 ·obtain⟨f,g,d,k⟩:=a.2.2 j b;refine⟨f,g,?_,k⟩;have c:(p.h j).toNat≠i:=fun e=>d (by rw[e];exact hi.2.1)
  show ¬Ah ((Au p i s).s (p.h j).toNat);rw[J2 p s c];exact d
theorem GC(h:C5 p s):¬Ah s:=fun a=>by
 have:=a.1;have:=h.1.1;omega
theorem UX{p:A7}{i:Nat}{s:AH}(hi:Ah (p.s i))(hs:¬Ah s):∀n,roomN (Au p i s).s n+(if i<n then 1 else 0)=roomN p.s n
 | 0=>rfl
 | n+1=>by
  have f:=UX hi hs n;by_cases e:n=i
  ·subst e;rw[if_pos (by omega)];rw[if_neg (by omega)]at f;rw[J0 (by rw[J1];exact hs),Jl hi];omega
  ·have a:(Au p i s).s n=p.s n:=J2 p s e;have c:(if i<n+1 then 1 else 0)=(if i<n then 1 else 0):=by
    by_cases d:i<n
    ·rw[if_pos d,if_pos (by omega)]
    ·rw[if_neg d,if_neg (by omega)]
   rw[c];by_cases b:Ah (p.s n)
   ·rw[Jl (by rw[a];exact b),Jl b];omega
   ·rw[J0 (by rw[a];exact b),J0 b];exact f
def At(w:World)(b:Nat)(v0 v1 v2 v3 v4 v5:Value):Prop:=AO w b 0 v0/\AO w b 1 v1/\AO w b 2 v2/\AO w b 3 v3/\AO w b 4 v4/\AO w b 5 v5
variable{b:Nat}{v0 v1 v2 v3 v4 v5:Value}
theorem At.c(h:At w b v0 v1 v2 v3 v4 v5):w.cell? ⟨b,0,none⟩=some v0/\w.cell? ⟨b,1,none⟩=some v1/\w.cell? ⟨b,2,none⟩=some v2/\w.cell? ⟨b,3,none⟩=some v3/\w.cell? ⟨b,4,none⟩=some v4/\w.cell? ⟨b,5,none⟩=some v5:=
 ⟨h.1.1,h.2.1.1,h.2.2.1.1,h.2.2.2.1.1,h.2.2.2.2.1.1,h.2.2.2.2.2.1⟩
theorem At.A1(h:At w b v0 v1 v2 v3 v4 v5)(t:Below w.heap.size w w'):At w' b v0 v1 v2 v3 v4 v5:=⟨h.1.A1 t,h.2.1.A1 t,h.2.2.1.A1 t,h.2.2.2.1.A1 t,h.2.2.2.2.1.A1 t,h.2.2.2.2.2.A1 t⟩
theorem At.AD(h:At w b v0 v1 v2 v3 v4 v5)(t:AC S w w')(hs:¬S b):At w' b v0 v1 v2 v3 v4 v5:=⟨h.1.AD t hs,h.2.1.AD t hs,h.2.2.1.AD t hs,h.2.2.2.1.AD t hs,h.2.2.2.2.1.AD t hs,h.2.2.2.2.2.AD t hs⟩
theorem At.new(w:World)(b v1 c d e f:Value)(t:TypeId):At (w.alloc (.cells #[b,v1,c,d,e,f] t)) w.heap.size b v1 c d e f:=by
 have a:(w.alloc (.cells #[b,v1,c,d,e,f] t)).heap[w.heap.size]?=some (.cells #[b,v1,c,d,e,f] t):=heap_alloc_new _ _;exact⟨Az a rfl,Az a rfl,Az a rfl,Az a rfl,Az a rfl,Az a rfl⟩
abbrev put6(w:World)(b:Nat)(u0 u1 u2 u3 u4 u5:Value):World:=(((((w.setCell ⟨b,0,none⟩ u0).setCell ⟨b,1,none⟩ u1).setCell ⟨b,2,none⟩ u2).setCell ⟨b,3,none⟩ u3).setCell ⟨b,4,none⟩ u4).setCell ⟨b,5,none⟩ u5
theorem At.put(h:At w b v0 v1 v2 v3 v4 v5)(a d u2 u3 u4 f:Value):At (put6 w b a d u2 u3 u4 f) b a d u2 u3 u4 f:=
 have H (i:Nat) (u v:Value) (e:[a,d,u2,u3,u4,f][i]?=some u) (c:AO w b i v):AO (put6 w b a d u2 u3 u4 f) b i u:=LZ [a,d,u2,u3,u4,f] w 0 i i e (Nat.zero_add i) c
 ⟨H 0 _ _ rfl h.1,H 1 _ _ rfl h.2.1,H 2 _ _ rfl h.2.2.1,H 3 _ _ rfl h.2.2.2.1,H 4 _ _ rfl h.2.2.2.2.1,H 5 _ _ rfl h.2.2.2.2.2⟩
theorem AC.put6(w:World)(b:Nat)(a c u2 u3 u4 d:Value):AC (fun k=>k=b) w (put6 w b a c u2 u3 u4 d):=
 (((((AC.put w b 0 a).trans (AC.put _ b 1 c)).trans (AC.put _ b 2 u2)).trans (AC.put _ b 3 u3)).trans (AC.put _ b 4 u4)).trans (AC.put _ b 5 d)
def Ao(p:A7)(xs xb:Int)(n L:Nat)(x:Int)(i:Nat):Int:=if i=plc n L then x else BU p (BN p xs xb n L) (Be p xs xb n L) i
def Am(p:A7)(xs xb:Int)(n L:Nat)(y:Int)(i:Nat):Int:=if i=plc n L then y else Bf p (BN p xs xb n L) (Be p xs xb n L) i
def JI(p:A7)(xs xb:Int)(n:Nat)(b:Int)(o:Dr)(L:Nat):Dr:=GP o.pool (Ao p xs xb n L o.ps) (Am p xs xb n L o.pb) b
def layS(p:A7)(xs xb:Int)(n:Nat)(b:Int)(o:Dr):Nat->Dr
 | 0=>o
 | k+1=>JI p xs xb n b (layS p xs xb n b o k) (1 - k)
theorem Xy:Ap (Cs 0)=0:=rfl
theorem RU(p:A7)(s:AH):Ap (Bv p s).pool<=Ap p+Ce s:=by
 unfold Bv;split
 ·split
  ·exact Vk _ _ _
  ·show Ap (Cs 0)<=_;rw[Xy];omega
 ·show Ap (Cs 0)<=_;rw[Xy];omega
theorem zAK(p:A7)(f g:Nat->Int)(b:Int):Ap (GP p f g b).pool<=Ap p+8:=by
 unfold GP;split
 ·show Ap p<=_;omega
 ·exact RU p (Bc f g b)
theorem R1(p:A7)(xs xb:Int)(n:Nat)(b:Int)(o:Dr):∀k,Ap (layS p xs xb n b o k).pool<=Ap o.pool+8*k
 | 0=>Nat.le_refl _
 | k+1=>by
  have a:=R1 p xs xb n b o k;have c:=zAK (layS p xs xb n b o k).pool (Ao p xs xb n (1 - k) (layS p xs xb n b o k).ps) (Am p xs xb n (1 - k) (layS p xs xb n b o k).pb) b;show Ap (GP _ _ _ _).pool<=_;omega
theorem zEM(b:L<2)(h:CC w B (BY p xs xb n 2 M o)):w.rangeAt B (2+L*16) (Aj (Cx p xs xb n L)).toList:=fun j v hv=>by
 have a:j<16:=by
  have:=(List.getElem?_eq_some_iff.1 hv).1;simpa[D4]using this
 have e:(Aj (Cx p xs xb n L)).toList[j]?=some (A0 (Cx p xs xb n L j)):=by rw[Array.getElem?_toList];exact EM (Cx p xs xb n L) a
 rw[e]at hv;simp only[Option.some.injEq]at hv;rw[<-hv,(h (2+L*16+j) (by omega)).1];unfold BY;rw[if_neg (by omega),if_pos (by omega),show(2+L*16+j - 2) / 16=L by omega,show(2+L*16+j - 2) % 16=j by omega,if_pos (by omega)]
theorem zGu(p:A7)(xs xb:Int)(n L:Nat)(x y:Int)(hn:n<64):Aj (fun j=>if j=plc n L*2 then x else if j=plc n L*2+1 then y else Cx p xs xb n L j)=Aj (mix (Ao p xs xb n L x) (Am p xs xb n L y)):=by
 refine XB fun j d=>?_
 unfold mix Ao Am;by_cases a:j=plc n L*2
 ·rw[if_pos a,if_pos (by omega),if_pos (by omega)]
 rw[if_neg a];by_cases b:j=plc n L*2+1
 ·rw[if_pos b,if_neg (by omega),if_pos (by omega)]
 rw[if_neg b];unfold Cx BU Bf AK AW;by_cases c:j % 2=0
 ·rw[if_pos c,if_neg (show ¬j / 2=plc n L by omega),show j / 2*2=j by omega]
 ·rw[if_neg c,if_neg (show ¬j / 2=plc n L by omega),show j / 2*2+1=j by omega]
structure D9 where
 pool:A7
 rs:Int
 rb:Int
 old:List (Int×Int)
 code:Int
def DM(c:Int):D9:=⟨Cs 0,0,0,[],c⟩
def Q8(t:D9)(w:World)(e:Ending)(w':World):Prop:=
 ∃v0 v1 vo lo hi,e = .returned (.agg #[v0,v1,A0 t.rs,A0 t.rb,vo,A0 t.code])/\w.heap.size<=lo/\hi<=w'.heap.size/\Bq w' lo hi v0 v1 t.pool/\Ax w' w.heap.size vo t.old/\(∀k,vo.ownBlock=some k->k<lo\/hi<=k)/\Below w.heap.size w w'
open Classical in
def CJ(p:A7)(xs xb:Int)(n:Nat)(b:Int)(o:Dr):D9:=
 if (layS p xs xb n b o 1).code≠0 then DM (layS p xs xb n b o 1).code
 else if (layS p xs xb n b o 2).code≠0 then DM (layS p xs xb n b o 2).code
 else⟨(layS p xs xb n b o 2).pool,(layS p xs xb n b o 2).ps,(layS p xs xb n b o 2).pb,BS p xs xb n 3,0⟩
variable{b:Int}{o:Dr}
theorem LX(d:k<2)(h:∀j,j<=k->(layS p xs xb n b o j).code=0)(a:(layS p xs xb n b o (k+1)).code≠0):CJ p xs xb n b o=DM (layS p xs xb n b o (k+1)).code:=by
 unfold CJ;rcases k with _ | _ | k
 ·rw[if_pos a]
 ·rw[if_neg (fun c=>c (h 1 (by omega))),if_pos a]
 ·omega
theorem Ni(h:∀j,j<=2->(layS p xs xb n b o j).code=0):CJ p xs xb n b o=⟨(layS p xs xb n b o 2).pool,(layS p xs xb n b o 2).ps,(layS p xs xb n b o 2).pb,BS p xs xb n 3,0⟩:=by
 unfold CJ;rw[if_neg (fun a=>a (h 1 (by omega))),if_neg (fun a=>a (h 2 (by omega)))]
theorem zGH(w:World)(a b e g:Value)(f:Nat->Value)(c d h j:TypeId) :
 Ad ((((w.alloc (.cells #[a,b] c)).alloc (.cells (CW f) d)).alloc (.cells #[e,g] h)).alloc (.cells #[A5,A5,A0 0,A0 0,A5,A0 0] j)) w.heap.size a b/\
 CC ((((w.alloc (.cells #[a,b] c)).alloc (.cells (CW f) d)).alloc (.cells #[e,g] h)).alloc (.cells #[A5,A5,A0 0,A0 0,A5,A0 0] j)) (w.heap.size+1) f/\
 Ad ((((w.alloc (.cells #[a,b] c)).alloc (.cells (CW f) d)).alloc (.cells #[e,g] h)).alloc (.cells #[A5,A5,A0 0,A0 0,A5,A0 0] j)) (w.heap.size+1+1) e g/\
 At ((((w.alloc (.cells #[a,b] c)).alloc (.cells (CW f) d)).alloc (.cells #[e,g] h)).alloc (.cells #[A5,A5,A0 0,A0 0,A5,A0 0] j)) (w.heap.size+1+1+1) (A5) (A5) (A0 0) (A0 0) (A5) (A0 0)/\
 Below w.heap.size w ((((w.alloc (.cells #[a,b] c)).alloc (.cells (CW f) d)).alloc (.cells #[e,g] h)).alloc (.cells #[A5,A5,A0 0,A0 0,A5,A0 0] j))/\
 ((((w.alloc (.cells #[a,b] c)).alloc (.cells (CW f) d)).alloc (.cells #[e,g] h)).alloc (.cells #[A5,A5,A0 0,A0 0,A5,A0 0] j)).heap.size=w.heap.size+4:=by
 have o:=AB w (.cells #[a,b] c);have m:=AB (w.alloc (.cells #[a,b] c)) (.cells (CW f) d);have l:=AB ((w.alloc (.cells #[a,b] c)).alloc (.cells (CW f) d)) (.cells #[e,g] h);have k:=AB (((w.alloc (.cells #[a,b] c)).alloc (.cells (CW f) d)).alloc (.cells #[e,g] h)) (.cells #[A5,A5,A0 0,A0 0,A5,A0 0] j);refine⟨(((Ad.new w a b c).A1 m).A1 l).A1 k,?_,?_,?_,A9 (A9 (A9 o m) l) k,by simp⟩
 ·have p:CC ((w.alloc (.cells #[a,b] c)).alloc (.cells (CW f) d)) (w.heap.size+1) f:=fun i hi=>by
   have n:=heap_alloc_new (w.alloc (.cells #[a,b] c)) (.cells (CW f) d);rw[World.size_alloc]at n;refine Az (i:=i) n ?_;simp[CW,hi]
  exact(p.A1 l).A1 k
 ·have:=(Ad.new ((w.alloc (.cells #[a,b] c)).alloc (.cells (CW f) d)) e g h).A1 k;rw[World.size_alloc,World.size_alloc]at this;exact this
 ·have:=At.new (((w.alloc (.cells #[a,b] c)).alloc (.cells (CW f) d)).alloc (.cells #[e,g] h)) (A5) (A5) (A0 0) (A0 0) (A5) (A0 0) j;rw[World.size_alloc,World.size_alloc,World.size_alloc]at this;exact this
def yY(p:A7)(xs xb:Int)(n:Nat)(S:Nat->Dr)(o:Value)(w:World)(k:Nat)(wr:World):Prop:=
 (∀j,j<=k->(S j).code=0)/\∃s0 s1,Ad wr w.heap.size s0 s1/\CD wr 0 wr.heap.size s0 s1 (S k).pool/\(0<k->Bq wr (w.heap.size+5) wr.heap.size s0 s1 (S k).pool)/\
  Ad wr (w.heap.size+4) (A0 (S k).ps) (A0 (S k).pb)/\CC wr (w.heap.size+1) (BY p xs xb n 2 3 o)/\
  At wr (w.heap.size+1+1+1) (A5) (A5) (A0 0) (A0 0) (A5) (A0 0)/\w.heap.size+5<=wr.heap.size/\Below w.heap.size w wr
theorem CL.all{lo hi:Nat}(h:CL w lo hi v n f):CL w 0 w.heap.size v n f:=by
 obtain⟨k,a,cap,hv,c,m⟩:=h;refine⟨k,a,cap,hv,c,fun hn=>?_⟩;obtain⟨b,off,l,o,p,d⟩:=m hn;refine⟨b,off,l,Nat.zero_le _,?_,fun i hi=>?_⟩
 ·obtain⟨e,v1,g,c0,_⟩:=d 0 hn;exact AV c0
 ·obtain⟨e,v1,g,c0,c1,j,hs⟩:=d i hi;exact⟨e,v1,g,c0,c1,j,hs.all⟩
theorem CD.all{lo hi:Nat}(h:CD w lo hi v0 v1 p):CD w 0 w.heap.size v0 v1 p:=⟨h.1.all,h.2.all⟩
theorem Yp(v0 v1:Value)(lo hi:Nat)(p q:A7)(xs xb x y b:Int)(n:Nat)(o:Value)(w:World)(h1:CD w lo hi v0 v1 q)(hn:n<64)(hq:Ap q+16<=1048576)(hr:Ax w 0 o (BS p xs xb n 3)) :
 Calls Tryz.prog 79 #[.agg #[v0,v1],.agg (CW (BY p xs xb n 2 3 o)),.agg #[A0 x,A0 y],A0 b] w fun e w'=>
  ((CJ p xs xb n b ⟨q,x,y,0⟩).code≠0/\e = .returned (.agg #[A5,A5,A0 0,A0 0,A5,A0 (CJ p xs xb n b ⟨q,x,y,0⟩).code])/\Below w.heap.size w w')\/
  ((CJ p xs xb n b ⟨q,x,y,0⟩).code=0/\∃s0 s1,e = .returned (.agg #[s0,s1,A0 (layS p xs xb n b ⟨q,x,y,0⟩ 2).ps,A0 (layS p xs xb n b ⟨q,x,y,0⟩ 2).pb,o,A0 0])/\Bq w' w.heap.size w'.heap.size s0 s1 (layS p xs xb n b ⟨q,x,y,0⟩ 2).pool/\Below w.heap.size w w'):=by
 have Hp:=AF h1;obtain⟨a,c,a',c',rfl,rfl⟩:=h1.form;have Hq:=AF hq;have Hr:=AF hr;clear h1 hq hr;have cD:=zGH w (.slice a q.n c) (.slice a' q.hn c') (A0 x) (A0 y) (BY p xs xb n 2 3 o) 26 125 38 81;go_enter Tryz.func79,Tryz.ntmps79;go_upto_region 1 with fail;generalize (((w.alloc (.cells #[.slice a q.n c,.slice a' q.hn c'] 26)).alloc (.cells (CW (BY p xs xb n 2 3 o)) 125)).alloc (.cells #[A0 x,A0 y] 38)).alloc (.cells #[A5,A5,A0 0,A0 0,A5,A0 0] 81)=W at cD ⊢;obtain⟨hB,hW,hX,hR,sB,hz⟩:=cD;have HB:=AF hB;have HW:=AF hW;have HR:=AF hR;obtain⟨⟨x0,x1⟩,⟨x2,x3⟩⟩:=hX;have g:=AB W (.cells #[A0 x,A0 y] 38);have kC:=AF (show Ad (W.alloc (.cells #[A0 x,A0 y] 38)) (w.heap.size+4) (A0 x) (A0 y)from hz▸Ad.new W (A0 x) (A0 y) 38);clear hB hW hR;go_wp2_with fail;have oC:Hid (yY p xs xb n (layS p xs xb n b ⟨q,x,y,0⟩) o w 0 (W.alloc (.cells #[A0 x,A0 y] 38))):=by
  refine⟨fun j hj=>?_,_,_,HB.out.A1 g,((Hp.out.A1 sB).A1 g).all,fun h=>absurd h (Nat.lt_irrefl _),kC.out,HW.out.A1 g,HR.out.A1 g,by rw[World.size_alloc];omega,A9 sB g⟩;obtain rfl:j=0:=(by omega);rfl
 have mD:=AF (R1 p xs xb n b ⟨q,x,y,0⟩);clear g kC HB HW HR x0 x1 x2 x3 sB hz
 go_loopw [15] (fun i wr=>∃k:Nat,k<=2/\i=A0 k/\yY p xs xb n (layS p xs xb n b ⟨q,x,y,0⟩) o w k wr) (fun i _=>2 - (intOf i).toNat)
 case atStart=>exact⟨0,by omega,rfl,oC.out⟩
 case round=>
  obtain⟨k,P,rfl,jA,s0,s1,rC,nB,tC,vC,bD,aD,aG,sA⟩:=hrel;have C:=AF jA;have lC:=AF nB;have mC:=AF tC;have jB:=AF rC;have kB:=AF vC;have nA:=AF bD;have lA:=AF aD;obtain⟨ra,bB,vA,aB,rfl,rfl⟩:=nB.form;clear jA nB tC rC vC bD aD oC;obtain⟨⟨x0,x1⟩,⟨x2,x3⟩⟩:=jB.out;obtain⟨⟨y0,y1⟩,⟨y2,y3⟩⟩:=kB.out;by_cases nD:k<2
  ·obtain⟨L,sC⟩:∃L,L=1 - k:=⟨_,rfl⟩;have hL:L<2:=(by omega);have rF:(L:Int)<2:=(by omega);have aF:(k:Int)<2:=(by omega);have vE:(1:Int) - (k:Int)=(L:Int):=(by omega);have jD:Hid (layS p xs xb n b ⟨q,x,y,0⟩ (k+1)=JI p xs xb n b (layS p xs xb n b ⟨q,x,y,0⟩ k) L):=(by rw[sC];rfl);have lD:=AF (mD.out k);have nC:Hid ((Tryz.prog.info? 121).map (·.size)=some (Aj (Cx p xs xb n L)).size):=by
    show _=_;rw[D4];exact GV
   have kD:Hid ((Tryz.prog.info? 121).map (·.size)=some (Aj (Cx p xs xb n L)).toList.length):=by
    show _=_;rw[GV];simp[Aj]
   clear sC;go_upto_region 7 with(first
    | (refine wpList_load_mid rfl 121 (.tmp 22) rfl (w.heap.size+1) (2+L*16) rfl (Aj (Cx p xs xb n L)).toList _ (zEM hL nA.out) FP rfl kD.out ?_)
    | (refine wpList_store_row rfl 121 (.tmp 12) (.tmp 23) rfl wr.heap.size (Aj (Cx p xs xb n L)) rfl rfl 121 #[Value.int .i64 0,Value.int .i64 0,Value.int .i64 0,Value.int .i64 0,Value.int .i64 0,Value.int .i64 0,Value.int .i64 0,Value.int .i64 0,Value.int .i64 0,Value.int .i64 0,Value.int .i64 0,Value.int .i64 0,Value.int .i64 0,Value.int .i64 0,Value.int .i64 0,Value.int .i64 0] (heap_alloc_last _ _) nC.out (by rw[D4];rfl) (I7 _) ?_;rw[World.setRow_alloc_new]))
   have g:=AB wr (.cells (Aj (Cx p xs xb n L)) 121);have dA:Hid ((wr.alloc (.cells (Aj (Cx p xs xb n L)) 121)).heap[wr.heap.size]?=some (.cells (Aj (Cx p xs xb n L)) 121)):=heap_alloc_last _ _;have pA:Hid (wr.heap.size<(wr.alloc (.cells (Aj (Cx p xs xb n L)) 121)).heap.size):=(by show _<_;rw[World.size_alloc];omega);have V:=AF (lC.out.A1 g);have U:=AF (jB.out.A1 g);have G:=AF (kB.out.A1 g);have I:=AF (nA.out.A1 g);have Z:=AF (lA.out.A1 g);have M:=A9 sA g;clear x0 x1 x2 x3 y0 y1 y2 y3 g sA lC mC jB kB nA lA;generalize wr.alloc (.cells (Aj (Cx p xs xb n L)) 121)=wA at dA pA V U G I Z M ⊢;have rD:=N9 (n:=n) (L:=L) hn;have bF:((plc n L:Nat):Int)<8:=(by omega);obtain⟨⟨y0,y1⟩,⟨y2,y3⟩⟩:=G.out;obtain⟨z0,_⟩:=I.out L (by omega);rw[Xq p xs xb n _ _ _ hL]at z0;obtain⟨c0,c1⟩:=Az (i:=plc n L*2) dA.out (EM (Cx p xs xb n L) (by omega));obtain⟨c2,c3⟩:=Az (i:=plc n L*2+1) dA.out (EM (Cx p xs xb n L) (by omega));have fA:Hid (∀(u v:Value) (s:World),s=((wA.drew.setCell ⟨wr.heap.size,plc n L*2,none⟩ u).setCell ⟨wr.heap.size,plc n L*2+1,none⟩ v)->(s.cell? ⟨w.heap.size+1,L,none⟩=some (A0 ((plc n L:Nat):Int))/\s.cell? ⟨w.heap.size+4,0,none⟩=some (A0 (layS p xs xb n b ⟨q,x,y,0⟩ k).ps)/\s.cell? ⟨w.heap.size+4,1,none⟩=some (A0 (layS p xs xb n b ⟨q,x,y,0⟩ k).pb))):=by
    intro u v s e5;have R:AC (fun k=>k=wr.heap.size) wA.drew ((wA.drew.setCell ⟨wr.heap.size,plc n L*2,none⟩ u).setCell ⟨wr.heap.size,plc n L*2+1,none⟩ v):=((AC.refl (fun k=>k=wr.heap.size) wA.drew).setCell (p:=⟨wr.heap.size,plc n L*2,none⟩) rfl _).setCell (p:=⟨wr.heap.size,plc n L*2+1,none⟩) rfl _;have vB:wr.heap.size<wA.drew.heap.size:=pA.out;rw[e5,R.cell (by omega) (by omega),R.cell (by omega) (by omega),R.cell (by omega) (by omega)];exact⟨z0,y0,y2⟩
   simp only[Act.put];refine wp_region_held_drew (S:=(fun w'=>w'.cell? ⟨w.heap.size+1,L,none⟩=some (A0 ((plc n L:Nat):Int))/\w'.cell? ⟨w.heap.size+4,0,none⟩=some (A0 (layS p xs xb n b ⟨q,x,y,0⟩ k).ps)/\w'.cell? ⟨w.heap.size+4,1,none⟩=some (A0 (layS p xs xb n b ⟨q,x,y,0⟩ k).pb))) (by kernel_rfl) ?_ (fun hHeld=>?_)
   ·(try dsimp only)
    go_keep
   refine tk 0 (h:=tk 1 (h:=tk 2 (h:=tk 3 (h:=tk 4 (h:=tk 5 (h:=?_))))));refine rd [6] (rc (fun K hK=>?_) .nil);go_simp
   (try go_wp2_with fail)
   refine hK.out _ _ (by(try dsimp only);exact fA.out _ _ _ rfl) ?_;clear hK K hHeld;intro hHeld
   try simp only[Act.put,s1,s2,s3]
   refine wpAnyH_done (by kernel_rfl) ?_ _;have R:AC (fun k=>k=wr.heap.size) wA ((wA.setCell ⟨wr.heap.size,plc n L*2,none⟩ (A0 (layS p xs xb n b ⟨q,x,y,0⟩ k).ps)).setCell ⟨wr.heap.size,plc n L*2+1,none⟩ (A0 (layS p xs xb n b ⟨q,x,y,0⟩ k).pb)).drew:=by
    have h:AC (fun k=>k=wr.heap.size) wA ((wA.setCell ⟨wr.heap.size,plc n L*2,none⟩ (A0 (layS p xs xb n b ⟨q,x,y,0⟩ k).ps)).setCell ⟨wr.heap.size,plc n L*2+1,none⟩ (A0 (layS p xs xb n b ⟨q,x,y,0⟩ k).pb)):=((AC.refl (fun k=>k=wr.heap.size) wA).setCell (p:=⟨wr.heap.size,plc n L*2,none⟩) rfl _).setCell (p:=⟨wr.heap.size,plc n L*2+1,none⟩) rfl _;exact⟨h.os,h.tape,h.output,h.size,h.block⟩
   have eA:Hid (((wA.setCell ⟨wr.heap.size,plc n L*2,none⟩ (A0 (layS p xs xb n b ⟨q,x,y,0⟩ k).ps)).setCell ⟨wr.heap.size,plc n L*2+1,none⟩ (A0 (layS p xs xb n b ⟨q,x,y,0⟩ k).pb)).drew.heap[wr.heap.size]?=some (.cells (Aj (mix (Ao p xs xb n L (layS p xs xb n b ⟨q,x,y,0⟩ k).ps) (Am p xs xb n L (layS p xs xb n b ⟨q,x,y,0⟩ k).pb))) 121 (0,0))):=by
    have:=Oz (o:=plc n L*2+1) (A0 (layS p xs xb n b ⟨q,x,y,0⟩ k).pb) (Oz (o:=plc n L*2) (A0 (layS p xs xb n b ⟨q,x,y,0⟩ k).ps) dA.out);rw[XC _ _ rD,zGu p xs xb n L _ _ hn]at this;exact this
   have vB:=pA.out;have X:=AF (V.out.same (R.same (lo:=0) (hi:=wr.heap.size) (by omega) (by intro k P;omega)));have E:=AF (U.out.AD R (by omega));have Y:=AF (G.out.AD R (by omega));have bA:=AF (I.out.AD R (by omega));have aA:=AF (Z.out.AD R (by omega));have iA:=M.trans (R.A1 (B:=w.heap.size) M.size (by intro k P;omega));have sD:=Nat.lt_of_lt_of_le vB R.size;clear R vB V U G I Z M dA pA fA y0 y1 y2 y3 z0 c0 c1 c2 c3;generalize ((wA.setCell ⟨wr.heap.size,plc n L*2,none⟩ (A0 (layS p xs xb n b ⟨q,x,y,0⟩ k).ps)).setCell ⟨wr.heap.size,plc n L*2+1,none⟩ (A0 (layS p xs xb n b ⟨q,x,y,0⟩ k).pb)).drew=wB at eA X E Y bA aA iA sD ⊢;have lB:Hid ((Tryz.prog.info? 121).map (·.size)=some (Aj (mix (Ao p xs xb n L (layS p xs xb n b ⟨q,x,y,0⟩ k).ps) (Am p xs xb n L (layS p xs xb n b ⟨q,x,y,0⟩ k).pb))).size):=by
    show _=_;rw[D4];exact GV
   obtain⟨⟨x0,x1⟩,⟨x2,x3⟩⟩:=E.out;go_wp2_with (first
    | (refine wpList_load_row rfl 121 (.tmp 12) rfl wr.heap.size rfl 121 (Aj (mix (Ao p xs xb n L (layS p xs xb n b ⟨q,x,y,0⟩ k).ps) (Am p xs xb n L (layS p xs xb n b ⟨q,x,y,0⟩ k).pb))) (0,0) _ eA.out FP rfl lB.out ?_)
    | fail)
   refine(zBi _ _ 0 wr.heap.size (layS p xs xb n b ⟨q,x,y,0⟩ k).pool _ _ b wB X.out (by have h1:=lD.out;have h2:=Hq.out;have h3:Ap (Dr.mk q x y 0).pool=Ap q:=rfl;omega)).mono ?_;rintro e wC ⟨t0,t1,rfl,tA,rB⟩;have D:Hid (layS p xs xb n b ⟨q,x,y,0⟩ (k+1)=GP (layS p xs xb n b ⟨q,x,y,0⟩ k).pool (Ao p xs xb n L (layS p xs xb n b ⟨q,x,y,0⟩ k).ps) (Am p xs xb n L (layS p xs xb n b ⟨q,x,y,0⟩ k).pb) b):=jD.out;generalize GP (layS p xs xb n b ⟨q,x,y,0⟩ k).pool (Ao p xs xb n L (layS p xs xb n b ⟨q,x,y,0⟩ k).ps) (Am p xs xb n L (layS p xs xb n b ⟨q,x,y,0⟩ k).pb) b=od at tA D ⊢;obtain⟨t,z,d,f,rfl,rfl⟩:=tA.form;have gA:=AB wC (.cells #[.slice t od.pool.n z,.slice d od.pool.hn f,A0 od.ps,A0 od.pb,A0 od.code] 117);have N:=A9 rB gA;have oA:=AF (tA.A1 gA);have mA:=AF (Du.new wC (.slice t od.pool.n z) (.slice d od.pool.hn f) (A0 od.ps) (A0 od.pb) (A0 od.code) 117);have F:=AF (E.out.A1 N);have H:=AF (Y.out.A1 N);have cA:=AF (bA.out.A1 N);have A:=AF (aA.out.A1 N);have m:=A9 iA N;have tD:=rB.size;have Q:wC.heap.size<(wC.alloc (.cells #[.slice t od.pool.n z,.slice d od.pool.hn f,A0 od.ps,A0 od.pb,A0 od.code] 117)).heap.size:=(by rw[World.size_alloc];omega);clear tA rB gA N x0 x1 x2 x3 eA X E Y bA aA iA;go_upto_region 9 with fail;generalize wC.alloc (.cells #[.slice t od.pool.n z,.slice d od.pool.hn f,A0 od.ps,A0 od.pb,A0 od.code] 117)=wD at oA mA F H cA A m Q ⊢;generalize wC.heap.size=T at oA mA tD Q ⊢;obtain⟨⟨t0,t1⟩,⟨t2,t3⟩,⟨t4,t5⟩,⟨t6,t7⟩,⟨t8,t9⟩⟩:=mA.out;by_cases hc:od.code=0
   ·have oD:(od.code != 0)=false:=(by simp[hc]);have Hc:=AF hc;clear hc;go_upto_region 11 with fail;obtain⟨⟨x0,x1⟩,⟨x2,x3⟩⟩:=F.out;obtain⟨⟨y0,y1⟩,⟨y2,y3⟩⟩:=H.out;have vF:w.heap.size≠w.heap.size+4:=(by omega);have r:Hid (∀(u v:Value) (s:World),s=((wD.drew.setCell ⟨w.heap.size,0,none⟩ u).setCell ⟨w.heap.size,1,none⟩ v)->(s.cell? ⟨T,0,none⟩=some (.slice t od.pool.n z)/\s.cell? ⟨T,1,none⟩=some (.slice d od.pool.hn f)/\s.cell? ⟨T,2,none⟩=some (A0 od.ps)/\s.cell? ⟨T,3,none⟩=some (A0 od.pb))):=by
     intro u v s e5;have dD:T<wD.drew.heap.size:=Q;have h:=fun o=>(Ir wD.drew w.heap.size u v).cell (b:=T) (o:=o) dD (by omega)
     rw[e5,h,h,h,h];exact⟨t0,t2,t4,t6⟩
    have J:Hid (∀(u v u' v':Value) (s:World),s=((((wD.drew.setCell ⟨w.heap.size,0,none⟩ u).setCell ⟨w.heap.size,1,none⟩ v).setCell ⟨w.heap.size+4,0,none⟩ u').setCell ⟨w.heap.size+4,1,none⟩ v')->(s.cell? ⟨T,0,none⟩=some (.slice t od.pool.n z)/\s.cell? ⟨T,1,none⟩=some (.slice d od.pool.hn f)/\s.cell? ⟨T,2,none⟩=some (A0 od.ps)/\s.cell? ⟨T,3,none⟩=some (A0 od.pb))):=by
     intro u v u' v' s e5;have dD:T<wD.drew.heap.size:=Q;have h1:=fun o=>(Ir ((wD.drew.setCell ⟨w.heap.size,0,none⟩ u).setCell ⟨w.heap.size,1,none⟩ v) (w.heap.size+4) u' v').cell (b:=T) (o:=o) (by simp;exact Q) (by omega)
     rw[e5,h1,h1,h1,h1];exact r.out u v _ rfl
    refine wp_region_held_drew (S:=(fun w'=>w'.cell? ⟨T,0,none⟩=some (.slice t od.pool.n z)/\w'.cell? ⟨T,1,none⟩=some (.slice d od.pool.hn f)/\w'.cell? ⟨T,2,none⟩=some (A0 od.ps)/\w'.cell? ⟨T,3,none⟩=some (A0 od.pb))) (by kernel_rfl) ?_ (fun hHeld=>?_)
    ·(try dsimp only)
     go_keep
    refine tk 0 (h:=tk 2 (h:=tk 1 (h:=tk 3 (h:=?_))));refine rd [4] (rc (fun K hK=>?_) .nil);go_simp
    (try go_wp2_with fail)
    refine hK.out _ _ (by(try dsimp only);exact r.out _ _ _ rfl) ?_;clear hK K hHeld;intro hHeld
    try simp only[Act.put,s1,s2,s3]
    refine rd [5] (rc (fun K hK=>?_) .nil);go_simp
    (try go_wp2_with fail)
    refine hK.out _ _ (by(try dsimp only);exact J.out _ _ _ _ _ rfl) ?_;clear hK K hHeld;intro hHeld
    try simp only[Act.put,s1,s2,s3]
    refine wpAnyH_done (by kernel_rfl) ?_ _;have O:AC (fun k=>k=w.heap.size\/k=w.heap.size+4) wD ((((wD.setCell ⟨w.heap.size,0,none⟩ (.slice t od.pool.n z)).setCell ⟨w.heap.size,1,none⟩ (.slice d od.pool.hn f)).setCell ⟨w.heap.size+4,0,none⟩ (A0 od.ps)).setCell ⟨w.heap.size+4,1,none⟩ (A0 od.pb)).drew:=by
     have h:=((Ir wD w.heap.size (.slice t od.pool.n z) (.slice d od.pool.hn f)).mono (T:=fun k=>k=w.heap.size\/k=w.heap.size+4) (fun k P=>Or.inl P)).trans ((Ir ((wD.setCell ⟨w.heap.size,0,none⟩ (.slice t od.pool.n z)).setCell ⟨w.heap.size,1,none⟩ (.slice d od.pool.hn f)) (w.heap.size+4) (A0 od.ps) (A0 od.pb)).mono (T:=fun k=>k=w.heap.size\/k=w.heap.size+4) (fun k P=>Or.inr P));exact⟨h.os,h.tape,h.output,h.size,h.block⟩
    have cB:Hid (Ad ((((wD.setCell ⟨w.heap.size,0,none⟩ (.slice t od.pool.n z)).setCell ⟨w.heap.size,1,none⟩ (.slice d od.pool.hn f)).setCell ⟨w.heap.size+4,0,none⟩ (A0 od.ps)).setCell ⟨w.heap.size+4,1,none⟩ (A0 od.pb)).drew w.heap.size (.slice t od.pool.n z) (.slice d od.pool.hn f)):=by
     have oB:=Ir ((wD.setCell ⟨w.heap.size,0,none⟩ (.slice t od.pool.n z)).setCell ⟨w.heap.size,1,none⟩ (.slice d od.pool.hn f)) (w.heap.size+4) (A0 od.ps) (A0 od.pb);have pB:=(F.out.put (.slice t od.pool.n z) (.slice d od.pool.hn f)).AD oB (by omega);exact pB
    have eB:Hid (Ad ((((wD.setCell ⟨w.heap.size,0,none⟩ (.slice t od.pool.n z)).setCell ⟨w.heap.size,1,none⟩ (.slice d od.pool.hn f)).setCell ⟨w.heap.size+4,0,none⟩ (A0 od.ps)).setCell ⟨w.heap.size+4,1,none⟩ (A0 od.pb)).drew (w.heap.size+4) (A0 od.ps) (A0 od.pb)):=by
     have oB:=Ir wD w.heap.size (.slice t od.pool.n z) (.slice d od.pool.hn f);have pB:=(H.out.AD oB (by omega)).put (A0 od.ps) (A0 od.pb);exact pB
    have mB:=AF ((oA.out.AD O (fun k P=>by rcases P with h | h<;>omega)).wide (lo':=w.heap.size+5) (hi':=T) (by omega) (Nat.le_refl _));have gB:=AF (cA.out.AD O (by omega));have fB:=AF (A.out.AD O (by omega));have iB:=m.trans (O.A1 (B:=w.heap.size) m.size (fun k P=>by rcases P with h | h<;>omega));have vD:=Nat.lt_of_lt_of_le Q O.size;clear O F H oA cA A m r J mA t0 t1 t2 t3 t4 t5 t6 t7 t8 t9 x0 x1 x2 x3 y0 y1 y2 y3;generalize ((((wD.setCell ⟨w.heap.size,0,none⟩ (.slice t od.pool.n z)).setCell ⟨w.heap.size,1,none⟩ (.slice d od.pool.hn f)).setCell ⟨w.heap.size+4,0,none⟩ (A0 od.ps)).setCell ⟨w.heap.size+4,1,none⟩ (A0 od.pb)).drew=wE at cB eB mB gB fB iB vD ⊢;go_wp2;go_roundw
    case rel=>
     refine⟨k+1,by omega,by go_num,fun j hj=>?_,.slice t od.pool.n z,.slice d od.pool.hn f,cB.out,?_,fun _=>?_,?_,gB.out,fB.out,by omega,iB⟩
     ·by_cases e:j=k+1
      ·rw[e,D.out];exact Hc.out
      ·exact C.out j (by omega)
     ·rw[D.out];exact mB.out.at.all
     ·rw[D.out];exact mB.out.wide (Nat.le_refl _) (by omega)
     ·rw[D.out];exact eB.out
    case measure=>simp[intOf];omega
   ·have oD:(od.code != 0)=true:=(by simp[hc]);have Hc:=AF hc;clear hc;obtain⟨⟨r0,r1⟩,⟨r2,r3⟩,⟨r4,r5⟩,⟨r6,r7⟩,⟨r8,r9⟩,⟨cE,dE⟩⟩:=A.out;go_wp2;have l:=A.out.put (A5) (A5) (A0 0) (A0 0) (A5) (A0 od.code);have kA:=AC.put6 wD (w.heap.size+1+1+1) (A5) (A5) (A0 0) (A0 0) (A5) (A0 od.code);have tB:=LX nD C.out (by rw[D.out];exact Hc.out);rw[D.out]at tB;refine bodyPost_ret (v:=.agg #[A5,A5,A0 0,A0 0,A5,A0 od.code]) (by simp[results,Tryz.results79,go_sem,l.1.1,l.2.1.1,l.2.2.1.1,l.2.2.2.1.1,l.2.2.2.2.1.1,l.2.2.2.2.2.1]) rfl (Or.inl ⟨?_,?_,?_⟩)
    ·rw[tB];exact Hc.out
    ·rw[tB];rfl
    ·exact m.trans (kA.A1 (B:=w.heap.size) m.size (by intro k P;omega))
  ·obtain rfl:k=2:=(by omega);obtain⟨oa,oc,ho,_⟩:=Bw Hr.out;have Ho:=AF ho;obtain⟨kE,_⟩:=nA.out 40 (by omega);rw[zGN,ho]at kE;clear ho;obtain⟨⟨r0,r1⟩,⟨r2,r3⟩,⟨r4,r5⟩,⟨r6,r7⟩,⟨r8,r9⟩,⟨cE,dE⟩⟩:=lA.out;go_wp2;have l:=lA.out.put (.slice ra (layS p xs xb n b ⟨q,x,y,0⟩ 2).pool.n bB) (.slice vA (layS p xs xb n b ⟨q,x,y,0⟩ 2).pool.hn aB) (A0 (layS p xs xb n b ⟨q,x,y,0⟩ 2).ps) (A0 (layS p xs xb n b ⟨q,x,y,0⟩ 2).pb) (.slice oa (BS p xs xb n 3).length oc) (A0 0);have kA:=AC.put6 wr (w.heap.size+1+1+1) (.slice ra (layS p xs xb n b ⟨q,x,y,0⟩ 2).pool.n bB) (.slice vA (layS p xs xb n b ⟨q,x,y,0⟩ 2).pool.hn aB) (A0 (layS p xs xb n b ⟨q,x,y,0⟩ 2).ps) (A0 (layS p xs xb n b ⟨q,x,y,0⟩ 2).pb) (.slice oa (BS p xs xb n 3).length oc) (A0 0);refine bodyPost_ret (v:=.agg #[.slice ra (layS p xs xb n b ⟨q,x,y,0⟩ 2).pool.n bB,.slice vA (layS p xs xb n b ⟨q,x,y,0⟩ 2).pool.hn aB,A0 (layS p xs xb n b ⟨q,x,y,0⟩ 2).ps,A0 (layS p xs xb n b ⟨q,x,y,0⟩ 2).pb,.slice oa (BS p xs xb n 3).length oc,A0 0]) (by simp[results,Tryz.results79,go_sem,l.1.1,l.2.1.1,l.2.2.1.1,l.2.2.2.1.1,l.2.2.2.2.1.1,l.2.2.2.2.2.1]) rfl (Or.inr ⟨?_,.slice ra (layS p xs xb n b ⟨q,x,y,0⟩ 2).pool.n bB,.slice vA (layS p xs xb n b ⟨q,x,y,0⟩ 2).pool.hn aB,?_,?_,?_⟩)
   ·rw[Ni C.out]
   ·rw[<-Ho.out]
   ·exact((mC.out (by omega)).AD kA (by intro k P;omega)).wide (by omega) (by exact kA.size)
   ·exact sA.trans (kA.A1 (B:=w.heap.size) sA.size (by intro k P;omega))
theorem zDE(v v1:Value)(lo hi:Nat)(p:A7)(xs xb:Int)(w:World)(k:CD w lo hi v v1 p) :
 Calls Tryz.prog 75 #[.agg #[v,v1],.agg #[A0 xs,A0 xb]] w fun e w'=>AJ (As p xs xb) e/\Below w.heap.size w w':=by
 have x:=AF k;obtain⟨a,c,g,c',rfl,rfl⟩:∃a c g c',v = .slice a p.n c/\v1 = .slice g p.hn c':=by
  obtain⟨⟨_,a,c,k,_⟩,⟨_,g,c',B,_⟩⟩:=k;exact⟨a,c,g,c',k,B⟩
 clear k;have m:=Se w (.slice a p.n c) (.slice g p.hn c') (A0 xs) (A0 xb) 26 38;go_enter Tryz.func75,Tryz.ntmps75;go_wp2_with fail;generalize (w.alloc (.cells #[.slice a p.n c,.slice g p.hn c'] 26)).alloc (.cells #[A0 xs,A0 xb] 38)=W at m ⊢;obtain⟨y,z,f,L⟩:=m;refine(MR _ _ lo hi p _ (x.out.A1 f)).mono ?_;rintro e M ⟨⟨t,rfl,q⟩,b⟩;have r:=AF (y.A1 b);have s:=AF (z.A1 b);have d:=A9 f b;clear y z f b;by_cases i:AZ p
 ·obtain rfl:t=true:=q.2 i;have j:=AF i;clear q i;obtain⟨⟨D,E⟩,⟨F,G⟩⟩:=r.out;obtain⟨⟨H,I⟩,⟨J,K⟩⟩:=s.out;go_wp2_with fail;refine(Z8 _ _ lo hi p xs xb _ (x.out.A1 d) j.out).mono ?_;rintro e N ⟨⟨C,rfl,o⟩,l⟩;have A:=AF o;have u:=A9 d l;clear o l D E F G H I J K;go_wp2;go_ret;exact⟨⟨C,rfl,A.out.trans ((Nu j.out).trans ⟨fun h=>⟨j.out,h⟩,fun h=>h.2⟩)⟩,u⟩
 ·obtain rfl:t=false:=BQ q i;have j:=AF i;clear q i;go_wp2;go_ret;exact⟨AJ.no fun h=>j.out h.1,d⟩
def EY(n:Int):Prop:=0<=n/\n<=63
theorem Rn(n:Int)(w:World):Calls Tryz.prog 77 #[A0 n] w fun e w'=>AJ (EY n) e/\w'=w:=by
 by_cases a:0<=n
 ·by_cases b:n<64
  ·go_enter Tryz.func77,Tryz.ntmps77;go_wp2;go_ret;exact⟨AJ.yes ⟨a,by omega⟩,rfl⟩
  ·go_enter Tryz.func77,Tryz.ntmps77;go_wp2;go_ret;exact⟨AJ.no fun h=>by have:=h.2;omega,rfl⟩
 ·go_enter Tryz.func77,Tryz.ntmps77;go_wp2;go_ret;exact⟨AJ.no fun h=>by have:=h.1;omega,rfl⟩
theorem zF5(h:(CJ p xs xb n b o).code≠0):CJ p xs xb n b o=DM (CJ p xs xb n b o).code:=by
 unfold CJ at h ⊢;split
 ·rfl
 ·split
  ·rfl
  ·rename_i a h2
   rw[if_neg a,if_neg h2]at h;exact absurd rfl h
theorem zIA(h:(CJ p xs xb n b o).code=0):CJ p xs xb n b o=⟨(layS p xs xb n b o 2).pool,(layS p xs xb n b o 2).ps,(layS p xs xb n b o 2).pb,BS p xs xb n 3,0⟩:=by
 unfold CJ at h ⊢;split
 ·rename_i a
  rw[if_pos a]at h;exact absurd h a
 ·split
  ·rename_i a h2
   rw[if_neg a,if_pos h2]at h;exact absurd h h2
  ·rfl
theorem Ja{wr:World}{R:Nat}{c:Int}(d:w.heap.size<=R)(a:Below w.heap.size w wr) :
 Q8 (DM c) w (.returned (.agg #[A5,A5,A0 0,A0 0,A5,A0 c])) (put6 wr R (A5) (A5) (A0 0) (A0 0) (A5) (A0 c)):=by
 have t:=AC.put6 wr R (A5) (A5) (A0 0) (A0 0) (A5) (A0 c);exact⟨_,_,_,w.heap.size,w.heap.size,rfl,Nat.le_refl _,by have:=a.size;have:=t.size;omega,QK,Ax.nil _ _,fun k b=>by simp[Value.ownBlock]at b,a.trans (t.A1 (by have:=a.size;omega) (fun k b=>by omega))⟩
theorem zIU(w:World)(a b d e:Value)(c f g:TypeId) :
 Ad (((w.alloc (.cells #[a,b] c)).alloc (.cells #[d,e] f)).alloc (.cells #[A5,A5,A0 0,A0 0,A5,A0 0] g)) w.heap.size a b/\
 Ad (((w.alloc (.cells #[a,b] c)).alloc (.cells #[d,e] f)).alloc (.cells #[A5,A5,A0 0,A0 0,A5,A0 0] g)) (w.heap.size+1) d e/\
 At (((w.alloc (.cells #[a,b] c)).alloc (.cells #[d,e] f)).alloc (.cells #[A5,A5,A0 0,A0 0,A5,A0 0] g)) (w.heap.size+1+1) (A5) (A5) (A0 0) (A0 0) (A5) (A0 0)/\
 Below w.heap.size w (((w.alloc (.cells #[a,b] c)).alloc (.cells #[d,e] f)).alloc (.cells #[A5,A5,A0 0,A0 0,A5,A0 0] g))/\
 (((w.alloc (.cells #[a,b] c)).alloc (.cells #[d,e] f)).alloc (.cells #[A5,A5,A0 0,A0 0,A5,A0 0] g)).heap.size=w.heap.size+3:=by
 refine⟨((Ad.new w a b c).A1 (AB _ _)).A1 (AB _ _),?_,?_,A9 (A9 (AB _ _) (AB _ _)) (AB _ _),by simp⟩
 ·have:=(Ad.new (w.alloc (.cells #[a,b] c)) d e f).A1 (AB _ (.cells #[A5,A5,A0 0,A0 0,A5,A0 0] g));rw[World.size_alloc]at this;exact this
 ·have:=At.new ((w.alloc (.cells #[a,b] c)).alloc (.cells #[d,e] f)) (A5) (A5) (A0 0) (A0 0) (A5) (A0 0) g;rw[World.size_alloc,World.size_alloc]at this;exact this
open Classical in
def FW(p:A7)(xs xb AM b:Int):D9:=
 if As p xs xb/\C8 xb b then(if EY AM then(if Nil (BZ p xs xb AM.toNat) (Bh p xs xb AM.toNat)then DM 4 else CJ p xs xb AM.toNat b ⟨p,0,0,0⟩)else DM 8)else DM 1
variable{AM:Int}
theorem Vt(h:¬(As p xs xb/\C8 xb b)):FW p xs xb AM b=DM 1:=if_neg h
theorem zA8(h:As p xs xb/\C8 xb b)(a:¬EY AM):FW p xs xb AM b=DM 8:=(if_pos h).trans (if_neg a)
theorem zEL(h:As p xs xb/\C8 xb b)(a:EY AM)(c:Nil (BZ p xs xb AM.toNat) (Bh p xs xb AM.toNat)):FW p xs xb AM b=DM 4:=((if_pos h).trans (if_pos a)).trans (if_pos c)
theorem UJ(h:As p xs xb/\C8 xb b)(a:EY AM)(c:¬Nil (BZ p xs xb AM.toNat) (Bh p xs xb AM.toNat)):FW p xs xb AM b=CJ p xs xb AM.toNat b ⟨p,0,0,0⟩:=((if_pos h).trans (if_pos a)).trans (if_neg c)
end
end Go.Proofs.YtddigaohmfpepaaGreatDoor
