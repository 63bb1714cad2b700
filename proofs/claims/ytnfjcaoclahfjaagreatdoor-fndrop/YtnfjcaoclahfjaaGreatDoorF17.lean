/- A part of the proof. -/
import Derived.Test.YtnfjcaoclahfjaaGreatDoorF16
import Derived.RangeFuncNested
import Derived.RangeFuncBound
import Derived.RangeFuncCalls
import Derived.RangeFuncLeaves
import Derived.Shelf.Abstract
import Derived.Shelf.RegionOpen
import Derived.OwnWalkIn
import Derived.TacticsInMore
import Derived.LoopNIn
import Derived.LoopIn
import Derived.Stop.RegionWithIn
set_option linter.unusedVariables false
set_option maxRecDepth 20000
set_option maxHeartbeats 4000000
namespace Go.Proofs.YtnfjcaoclahfjaaGreatDoor
open Go.RowKit Go.Maps
theorem zHK(s t:ByteArray):(s.toList == t.toList)=true↔s=t:=⟨fun h=>GB (by simpa using h),fun h=>zIK h⟩
theorem zDN(a:Option Addr)(c:Nat)(s:AT)(name:ByteArray)(T:Nat)(w:World)(f:w.cell? ⟨T,0,none⟩=some (.string name)) :
 Calls Tryz.prog 162 #[BX (.slice a s.dn c) s,.pointer (some ⟨T,0,none⟩)] w fun e w'=>AJ (s.set=name) e/\Below w.heap.size w w':=by
 unfold BX;have d:=A9 w (.cells #[.int .i64 s.id,.string s.name,.string s.set,.int .i64 s.A5,.int .i64 s.time,.int .i64 s.rs,.int .i64 s.rb,.slice a s.dn c] 43);have g:=(d.cell (p:=⟨T,0,none⟩) (AM f)).trans f;obtain⟨⟨⟨y0,-⟩,⟨y1,-⟩,⟨h,-⟩,⟨i,-⟩⟩,-⟩:=CG.new w (.int .i64 s.id) (.string s.name) (.string s.set) (.int .i64 s.A5) (.int .i64 s.time) (.int .i64 s.rs) (.int .i64 s.rb) (.slice a s.dn c) 43;clear f;have b:=A3 (zHK s.set name);go_enter Tryz.func162,Tryz.ntmps162;go_wp2;go_ret;exact⟨⟨_,rfl,b.out⟩,d⟩
def Et(w:World)(base:Nat)(v:Value)(n:Nat):Prop:=∃xs,w.ownsRow base 43 8 v n xs
variable{w w1:World}{base n:Nat}{v:Value}
theorem Et.A1(h:Et w base v n)(a:Below w.heap.size w w1):Et w1 base v n:=by
 obtain⟨xs,h⟩:=h;exact⟨xs,h.kept (Dg a none) (by cases v.ownBlock<;>simp)⟩
theorem Et.lt(h:Et w base v n){q:Nat}(a:v.ownBlock=some q):base<=q/\q<w.heap.size:=by
 obtain⟨xs,h⟩:=h;rcases h.2 with⟨rfl,_⟩ | ⟨g,cap,b,rfl,c,d,_⟩
 ·simp[Value.ownBlock]at a
 ·simp only[Value.ownBlock,Option.some.injEq]at a;subst a;exact⟨c,(Array.getElem?_eq_some_iff.1 d).1⟩
theorem Et.AD{row:Option Nat}(h:Et w base v n)(b:w.grownBy w1 row)(a:∀q,v.ownBlock=some q->row≠some q):Et w1 base v n:=by
 obtain⟨xs,h⟩:=h;refine⟨xs,h.kept b ?_⟩;cases hv:v.ownBlock with
 | none=>simp
 | some q=>exact Or.inr (fun e=>a q hv e.symm)
theorem yy:(Tryz.prog.info? 43).map (fun i=>(i.zero,i.size,i.bytes))=some (some (.agg #[.int .i64 0,.string ⟨#[]⟩,.string ⟨#[]⟩,.int .i64 0,.int .i64 0,.int .i64 0,.int .i64 0,.slice none 0 0]),8,96):=by kernel_rfl
def zJB(w w':World)(v v':Value)(n n':Nat):Prop:=Et w' w.heap.size v n/\Et w' w.heap.size v' n'/\(∀q,v.ownBlock=some q->v'.ownBlock≠some q)/\Below w.heap.size w w'
theorem Uu{w2:World}{g cap n':Nat}{v':Value}{xs:List Value}(d:Et w1 base v' n')(f:∀q,v.ownBlock=some q->v'.ownBlock≠some q)
 (a:w2.ownsRow base 43 8 (.slice (some ⟨g,0,none⟩) (n+1) cap) (n+1) xs) (i:w1.grownBy w2 v.ownBlock) (c:v.ownBlock=some g\/g=w1.heap.size) :
 Et w2 base (.slice (some ⟨g,0,none⟩) (n+1) cap) (n+1)/\Et w2 base v' n'/\(∀q,(Value.slice (some ⟨g,0,none⟩) (n+1) cap).ownBlock=some q->v'.ownBlock≠some q):=by
 refine⟨⟨xs,a⟩,d.AD i (fun q b e=>f q e b),fun q b e=>?_⟩;simp only[Value.ownBlock,Option.some.injEq]at b;subst b;rcases c with h | h
 ·exact f _ h e
 ·have:=(d.lt e).2;omega
theorem zBs(v:Value)(lo hi:Nat)(W:A4)(name:ByteArray)(T:Nat)(w:World)(h:D8 w lo hi v W.pn W.A0)(hn:W.pn<=20)(hT:w.cell? ⟨T,0,none⟩=some (.string name)) :
 Calls Tryz.prog 161 #[v,.func (.func 162) #[] #[.pointer (some ⟨T,0,none⟩)]] w fun e w'=>∃a c Z,e = .returned (.tuple #[.slice a (ownN W name W.pn) c,Z])/\Below w.heap.size w w':=by
 have Hp:=A3 h;have HT:=A3 hT;obtain⟨m1,a,c,rfl,mc,-⟩:=id h;unfold maxLen at m1;clear h hT;obtain⟨i0,K,D⟩:=Option.map_eq_some_iff.1 yy;simp only[Prod.mk.injEq]at D;have u:=A3 (And.intro K D);clear K D;have tA:∀(fn:Fn) (first cap:Array Value) (w:World),(Instr.makeFunc fn first cap).run Tryz.prog w = .ok (.func fn first cap) w:=fun _ _ _ _=>rfl
 go_enter Tryz.func161,Tryz.ntmps161;go_wp2
 go_loopw [6,7,12] (fun vy Z i wr=>∃k:Nat,k<=W.pn/\i = .int .i64 k/\zJB w wr vy Z (ownN W name k) (k - ownN W name k)) (fun _ _ i _=>W.pn - (intOf i).toNat)
 case atStart=>exact⟨0,Nat.zero_le _,rfl,⟨[],World.ownsRow_nil _ _ _ _⟩,⟨[],World.ownsRow_nil _ _ _ _⟩,fun q l=>by simp[Value.ownBlock]at l,Below.refl _ _⟩
 case round=>
  obtain⟨k,hk,rfl,hy,ho,J,U⟩:=hrel;have Q:=A3 hy;have Ho:=A3 ho;have F:=A3 J;have eA:=NO W name k;clear hy ho J;by_cases V:k<W.pn
  ·have fA:(k:Int)<(W.pn:Int):=(by omega);obtain⟨b,off,vd,rfl,f⟩:=(Hp.out.A1 U).cells V;obtain⟨-,A,B,rfl,-,-⟩:=id f.dead;have t:=A9 wr (.cells #[.int .i64 (W.A0 k).id,.string (W.A0 k).name,.string (W.A0 k).set,.int .i64 (W.A0 k).A5,.int .i64 (W.A0 k).time,.int .i64 (W.A0 k).rs,.int .i64 (W.A0 k).rb,.slice A (W.A0 k).dn B] 43);have N:=A3 (CG.new wr (.int .i64 (W.A0 k).id) (.string (W.A0 k).name) (.string (W.A0 k).set) (.int .i64 (W.A0 k).A5) (.int .i64 (W.A0 k).time) (.int .i64 (W.A0 k).rs) (.int .i64 (W.A0 k).rb) (.slice A (W.A0 k).dn B) 43);have C:=A8 U t;have E:=A3 ((C.cell (p:=⟨T,0,none⟩) (AM HT.out)).trans HT.out);have q0:=f.c0;have q1:=f.c1;have q2:=f.c2;have q3:=f.c3;have q4:=f.c4;have q5:=f.c5;have q6:=f.c6;have q7:=f.c7;obtain⟨⟨⟨y0,-⟩,⟨y1,-⟩,⟨y2,-⟩,⟨y3,-⟩⟩,⟨y4,-⟩,⟨y5,-⟩,⟨y6,-⟩,⟨y7,-⟩⟩:=N.out;clear f;go_wp2_with fail;clear q0 q1 q2 q3 q4 q5 q6 q7 y0 y1 y2 y3 y4 y5 y6 y7;refine(zDN A B (W.A0 k) name T _ E.out).mono ?_;rintro e M ⟨⟨s,rfl,hs⟩,n⟩;have R:=A3 ((Q.out.A1 t).A1 n);have P:=A3 ((Ho.out.A1 t).A1 n);have O:=A3 (N.out.A1 n);have I:=A8 C n;clear n C t Q Ho N E;have vA:=I.size;obtain⟨⟨⟨y0,-⟩,⟨y1,-⟩,⟨y2,-⟩,⟨y3,-⟩⟩,⟨y4,-⟩,⟨y5,-⟩,⟨y6,-⟩,⟨y7,-⟩⟩:=O.out;have o:=A9 M (.cells #[.int .i64 (W.A0 k).id,.string (W.A0 k).name,.string (W.A0 k).set,.int .i64 (W.A0 k).A5,.int .i64 (W.A0 k).time,.int .i64 (W.A0 k).rs,.int .i64 (W.A0 k).rb,.slice A (W.A0 k).dn B] 43);have z:=A3 (R.out.A1 o);have x:=A3 (P.out.A1 o);have r:=A8 I o;have aB:=o.size;have HN:=A3 (World.news_of_block (heap_alloc_last M (.cells #[.int .i64 (W.A0 k).id,.string (W.A0 k).name,.string (W.A0 k).set,.int .i64 (W.A0 k).A5,.int .i64 (W.A0 k).time,.int .i64 (W.A0 k).rs,.int .i64 (W.A0 k).rb,.slice A (W.A0 k).dn B] 43)));clear o;by_cases l:(W.A0 k).set=name
   ·obtain rfl:s=true:=hs.2 l;have H:=A3 (Lt l);clear hs l;obtain⟨xs,g⟩:=z.out;have y:=A3 g;clear g;go_wp2_with (first
     | (at_builtin;refine wpList_append_lies _ rfl _ _ 28 rfl w.heap.size 43 i0 (.agg #[.int .i64 0,.string ⟨#[]⟩,.string ⟨#[]⟩,.int .i64 0,.int .i64 0,.int .i64 0,.int .i64 0,.slice none 0 0]) 8 96 (by kernel_rfl) u.out.1 u.out.2.1 u.out.2.2.1 u.out.2.2.2 rfl (by decide) _ _ _ rfl y.out ⟨M.heap.size,0,none⟩ 1 1 [.int .i64 (W.A0 k).id,.string (W.A0 k).name,.string (W.A0 k).set,.int .i64 (W.A0 k).A5,.int .i64 (W.A0 k).time,.int .i64 (W.A0 k).rs,.int .i64 (W.A0 k).rb,.slice A (W.A0 k).dn B] rfl rfl HN.out (by simp[Value.oneCell']) (by decide) (by unfold maxLen;omega) (by omega) (by omega) _ rfl ?_;intro g' G w4 j d m L)
     | go_in)
    go_roundw
    case rel=>
     obtain⟨r1,X,Y⟩:=Uu x.out F.out j d m;refine⟨k+1,by omega,by go_num,by rw[H.out];exact r1,?_,Y,r.grown d r.size (fun q l=>(z.out.lt l).1)⟩;rw[H.out,show k+1 - (ownN W name k+1)=k - ownN W name k by omega];exact X
    case measure=>simp[intOf];omega
   ·obtain rfl:s=false:=Bb hs l;have H:=A3 (NP l);clear hs l;obtain⟨xs,g⟩:=x.out;have y:=A3 g;clear g;go_wp2_with (first
     | (at_builtin;refine wpList_append_lies _ rfl _ _ 28 rfl w.heap.size 43 i0 (.agg #[.int .i64 0,.string ⟨#[]⟩,.string ⟨#[]⟩,.int .i64 0,.int .i64 0,.int .i64 0,.int .i64 0,.slice none 0 0]) 8 96 (by kernel_rfl) u.out.1 u.out.2.1 u.out.2.2.1 u.out.2.2.2 rfl (by decide) _ _ _ rfl y.out ⟨M.heap.size,0,none⟩ 1 1 [.int .i64 (W.A0 k).id,.string (W.A0 k).name,.string (W.A0 k).set,.int .i64 (W.A0 k).A5,.int .i64 (W.A0 k).time,.int .i64 (W.A0 k).rs,.int .i64 (W.A0 k).rb,.slice A (W.A0 k).dn B] rfl rfl HN.out (by simp[Value.oneCell']) (by decide) (by unfold maxLen;omega) (by omega) (by omega) _ rfl ?_;intro g' G w4 j d m L)
     | go_in)
    go_roundw
    case rel=>
     obtain⟨r1,X,Y⟩:=Uu z.out (fun q h S=>F.out q S h) j d m;refine⟨k+1,by omega,by go_num,by rw[H.out];exact X,?_,fun q h S=>Y q S h,r.grown d r.size (fun q l=>(x.out.lt l).1)⟩;rw[H.out,show k+1 - ownN W name k=k - ownN W name k+1 by omega];exact r1
    case measure=>simp[intOf];omega
  ·obtain rfl:k=W.pn:=(by omega);obtain⟨xs,g⟩:=Q.out;obtain⟨ay,cy,rfl,-⟩:=C6 g;clear g;go_wp2
   go_ret2
   exact⟨ay,cy,_,rfl,U⟩
variable{W:A4}{name:ByteArray}
theorem zX(a:name.toList.isEmpty=false)(y:Int):(AB W y).set=name↔Eh W name y:=by
 constructor
 ·intro h;by_cases c:∃k,BB W y k
  ·obtain⟨k,b⟩:=c;rw[Cn b]at h;exact⟨k,b,h⟩
  ·have e:AB W y=CQ:=(by unfold AB;rw[dif_neg c]);rw[e]at h;rw[<-h]at a;have d:CQ.set.toList = []:=(by rw[Go.ByteArray.toList_eq];rfl);rw[d]at a;exact absurd a (by decide)
 ·rintro⟨k,b,h⟩;rw[Cn b];exact h
variable{start:Int}
theorem ET.wf{y:Int}(h:ET W name start n y):(Lit.int .i64 y).wf=true:=by
 have a:=h.least;have b:=h.sum;exact WalkArith.wf_i64 (by omega)
theorem zCe(r v1 s o:Value)(lo hi:Nat)(W:A4)(A:Nat)(Q:Option Addr)(sc:Nat)(S:Ac)(w:World)(h:BM w lo hi r v1 s o W)(V:W.pn<=20)(hA:G8 w lo hi W A)(hD:EC W)(hP:G6 W)(O:S.name.toList.isEmpty=false)(hS:S.A5=0\/BG W S.A5) :
 Calls Tryz.prog 127 #[Bh r v1 s o W,Gl (.slice Q S.dn sc) S,JO A] w fun e w'=>AJ (Ek W S.name S.A5 S.origin) e/\Below w.heap.size w w':=by
 unfold Gl;have Hp:=A3 h;have HA:=A3 hA;have Y:=A3 hD;have Z:=A3 hP;have p:=A3 (zX (W:=W) O);have aA:=A3 hS;clear h hA hD hP O hS;have gB:∀(fn:Fn) (first cap:Array Value) (w:World),(Instr.makeFunc fn first cap).run Tryz.prog w = .ok (.func fn first cap) w:=fun _ _ _ _=>rfl
 have ha:=A9 w (.cells #[r,v1,.int .i64 W.time,.int .i64 W.next,s,o] 30);have hB:=Af.new w r v1 (.int .i64 W.time) (.int .i64 W.next) s o 30;have hz:(w.alloc (.cells #[r,v1,.int .i64 W.time,.int .i64 W.next,s,o] 30)).heap.size=w.heap.size+1:=World.size_alloc _ _;have B:=A9 (w.alloc (.cells #[r,v1,.int .i64 W.time,.int .i64 W.next,s,o] 30)) (.cells #[.string S.name,.int .i64 S.origin,.int .i64 S.A5,.int .i64 S.rs,.int .i64 S.rb,.slice Q S.dn sc] 70);have E:=Af.new (w.alloc (.cells #[r,v1,.int .i64 W.time,.int .i64 W.next,s,o] 30)) (.string S.name) (.int .i64 S.origin) (.int .i64 S.A5) (.int .i64 S.rs) (.int .i64 S.rb) (.slice Q S.dn sc) 70;rw[hz]at E;have d:=A3 E;have l:=A8 ha B;obtain⟨x0,x2,x4,x6,x8,gA⟩:=(hB.A1 B).c;clear E ha B hB;go_enter Tryz.func127,Tryz.ntmps127;go_wp2_with fail;clear x0 x2 x4 x6 x8 gA;generalize (w.alloc (.cells #[r,v1,.int .i64 W.time,.int .i64 W.next,s,o] 30)).alloc (.cells #[.string S.name,.int .i64 S.origin,.int .i64 S.A5,.int .i64 S.rs,.int .i64 S.rb,.slice Q S.dn sc] 70)=W0 at d l ⊢;refine(zBs o lo hi W S.name (w.heap.size+1) W0 (Hp.out.A0.A1 l) V d.out.1.1).mono ?_;rintro e w1 ⟨ay,cy,vo,rfl,C⟩;have t:=A3 (d.out.A1 C);have L:=A8 l C;have jB:=NO W S.name W.pn;clear d l C hz;obtain⟨⟨y0,-⟩,⟨y1,-⟩,⟨y2,-⟩,-⟩:=t.out;go_wp2;clear y0 y1 y2;generalize w.heap.size+1=T at *
 go_loopw [9,10] (fun x i wr=>∃(n:Nat) (y:Int),i = .int .i64 n/\x = .int .i64 y/\ET W S.name S.A5 n y/\Af wr T (.string S.name) (.int .i64 S.origin) (.int .i64 S.A5) (.int .i64 S.rs) (.int .i64 S.rb) (.slice Q S.dn sc)/\Below w.heap.size w wr) (fun x _ _=>(intOf x).toNat)
 case atStart=>exact⟨0,_,rfl,rfl,ET.start Z.out _ aA.out,t.out,L⟩
 case round=>
  clear t L;obtain⟨n,y,rfl,rfl,P,E,M⟩:=hrel;have d:=A3 E;have Hw:=A3 P;have v:=A3 P.wf;have tA:=P.sum;have fB:=P.least;clear E P;have j:=A3 (HA.out.A1 M);obtain⟨⟨y0,-⟩,⟨y1,-⟩,-⟩:=d.out;by_cases F:(AB W y).set=S.name
  ·obtain⟨X,f,N⟩:=(p.out y).1 F;have I:=A3 (Hw.out.next Z.out f N);have cA:=A3 (show(W.A0 X).A5<y by have q:=Z.out.less X f.1;have z:=f.2.1;omega);have eA:=A3 (show(AB W y).A5=(W.A0 X).A5 by rw[Cn f]);have Hq:=A3 F;clear f N F;go_wp2_with fail;go_region_held3 (fun w'=>w'.cell? ⟨T,0,none⟩=some (.string S.name)) (go_keep)
    (first | (go_at_call 126;refine(Ji lo hi W A y _ ?_ Y.out v.out V).mono ?_;(exact j.out.A1 (Below.refl _ _).drew);rintro e w6 ⟨R,U,rfl,g,a⟩;have m:=fun w=>(show(Instr.field 43 (BX (.slice R (AB W y).dn U) (AB W y)) 2).run Tryz.prog w = .ok (.string S.name) w by rw[<-Hq.out];exact(OM (.slice R (AB W y).dn U) (AB W y) w).2.1);obtain⟨⟨z0,_⟩,_⟩:=d.out.A1 (Cs a)))
   have k:=A3 (d.out.A1 (Cs a));have b:=RE M a;have G:=A3 (HA.out.A1 b);have iB:(n:Int)<1000000:=(by omega);clear a g m z0 y0 y1 d j M;go_wp2_with fail;refine(Ji lo hi W A y _ G.out Y.out v.out V).mono ?_;rintro e w7 ⟨J,K,rfl,g,D⟩;have m:=fun w=>(show(Instr.field 43 (BX (.slice J (AB W y).dn K) (AB W y)) 3).run Tryz.prog w = .ok (.int .i64 (W.A0 X).A5) w by rw[<-eA.out];exact(OM (.slice J (AB W y).dn K) (AB W y) w).2.2.1)
   have bA:=A3 (k.out.A1 D);have fA:=A8 b D;clear g D k b G;go_wp2;go_roundw
   case rel=>exact⟨n+1,_,by go_num,rfl,I.out,bA.out,fA⟩
   case measure=>simp[intOf];have:=cA.out;have:=I.out.least;omega
  ·have dA:=A3 (fun h=>F ((p.out y).2 h));have f1:=zIL F;clear F;go_wp2_with fail;go_region_held3 (fun w'=>w'.cell? ⟨T,0,none⟩=some (.string S.name)) (go_keep)
    (first | (go_at_call 126;refine(Ji lo hi W A y _ ?_ Y.out v.out V).mono ?_;(exact j.out.A1 (Below.refl _ _).drew);rintro e w6 ⟨R,U,rfl,g,a⟩;have m:=fun w=>(OM (.slice R (AB W y).dn U) (AB W y) w).2.1;obtain⟨⟨z0,_⟩,_⟩:=d.out.A1 (Cs a)))
   have k:=A3 (d.out.A1 (Cs a));have b:=RE M a;clear a g m z0 y0 y1 d j M f1;obtain⟨⟨z0,-⟩,⟨z1,-⟩,-⟩:=k.out;have u:=A3 (To (origin:=S.origin) Hw.out.steps dA.out);by_cases q:n=ownN W S.name W.pn
   ·by_cases z:y=S.origin
    ·have H:=A3 (u.out.2 ⟨q,z⟩);have g1:((n:Int) == (ownN W S.name W.pn:Int))=true:=(by simp[q]);have g2:(y == S.origin)=true:=(by simp[z]);clear q z;go_wp2;go_ret;exact⟨AJ.yes H.out,b⟩
    ·have H:=A3 (fun h=>z (u.out.1 h).2);have g1:((n:Int) == (ownN W S.name W.pn:Int))=true:=(by simp[q]);have g2:(y == S.origin)=false:=(by simp[z]);clear q z;go_wp2;go_ret;exact⟨AJ.no H.out,b⟩
   ·have H:=A3 (fun h=>q (u.out.1 h).1);have h3:¬(n:Int)=(ownN W S.name W.pn:Int):=(by omega);have g1:((n:Int) == (ownN W S.name W.pn:Int))=false:=(by simp[h3]);clear q h3;go_wp2;go_ret;exact⟨AJ.no H.out,b⟩
theorem zCs(r v1 T s:Value)(lo hi:Nat)(W:A4)(A:Nat)(w:World)(h:BM w lo hi r v1 T s W)(Y:W.pn<=20)(hs:W.sn<=8)(q:G8 w lo hi W A)(O:EC W)(P:G6 W) :
 Calls Tryz.prog 72 #[Bh r v1 T s W,JO A] w fun e w'=>AJ (∀i,i<W.sn->Ek W (W.A2 i).name (W.A2 i).A5 (W.A2 i).origin) e/\Below w.heap.size w w':=by
 have N:=A3 h;have U:=A3 q;have V:=A3 O;have z:=A3 P;obtain⟨Z,D,c',rfl,aA,-⟩:=id h.A2;unfold maxLen at Z;clear h q O P;have R:=A9 w (.cells #[r,v1,.int .i64 W.time,.int .i64 W.next,.slice D W.sn c',s] 30);have y:=A3 (Af.new w r v1 (.int .i64 W.time) (.int .i64 W.next) (.slice D W.sn c') s 30);obtain⟨G,H,I,J,K,p⟩:=y.out.c;go_enter Tryz.func72,Tryz.ntmps72;go_wp2;clear G H I J K p
 go_loopw [10] (fun i wr=>∃k:Nat,k<=W.sn/\i = .int .i64 k/\(∀j,j<k->Ek W (W.A2 j).name (W.A2 j).A5 (W.A2 j).origin)/\Af wr w.heap.size r v1 (.int .i64 W.time) (.int .i64 W.next) (.slice D W.sn c') s/\Below w.heap.size w wr) (fun i _=>W.sn - (intOf i).toNat)
 case atStart=>exact⟨0,Nat.zero_le _,rfl,fun j X=>absurd X (Nat.not_lt_zero _),y.out,R⟩
 case round=>
  clear y R;obtain⟨k,hk,rfl,l,Q,x⟩:=hrel;have g:=A3 l;have M:=A3 Q;clear l Q;by_cases d:k<W.sn;rotate_left
  ·obtain rfl:k=W.sn:=(by omega);go_wp2;go_ret;exact⟨AJ.yes g.out,x⟩
  have S:(k:Int)<(W.sn:Int):=(by omega);obtain⟨b,off,vd,rfl,a⟩:=(N.out.A2.A1 x).cells d;obtain⟨-,E,F,rfl,-,-⟩:=id a.dead;have o:=A9 wr (.cells #[.string (W.A2 k).name,.int .i64 (W.A2 k).origin,.int .i64 (W.A2 k).A5,.int .i64 (W.A2 k).rs,.int .i64 (W.A2 k).rb,.slice E (W.A2 k).dn F] 70);have L:=A3 (Af.new wr (.string (W.A2 k).name) (.int .i64 (W.A2 k).origin) (.int .i64 (W.A2 k).A5) (.int .i64 (W.A2 k).rs) (.int .i64 (W.A2 k).rb) (.slice E (W.A2 k).dn F) 70);have m:=A3 (M.out.A1 o);have f:=A8 x o;have q0:=a.c0;have q1:=a.c1;have q2:=a.c2;have q3:=a.c3;have q4:=a.c4;have q5:=a.c5;obtain⟨y0,y1,y2,y3,y4,y5⟩:=L.out.c;obtain⟨G,H,I,J,K,p⟩:=m.out.c;clear a o;go_wp2_with fail;clear q0 q1 q2 q3 q4 q5 y0 y1 y2 y3 y4 y5 G H I J K p M x L;refine(zCe r v1 _ s lo hi W A E F (W.A2 k) _ (N.out.A1 f) Y (U.out.A1 f) V.out z.out (z.out.AP k d) (z.out.A2 k d)).mono ?_;rintro e w6 ⟨⟨t6,rfl,u⟩,n⟩;have B:=A3 (m.out.A1 n);have t:=A8 f n;have v:=A3 u;clear u n f m;cases t6
  ·have C:=A3 (show ¬Ek W (W.A2 k).name (W.A2 k).A5 (W.A2 k).origin from fun q=>absurd (v.out.2 q) (by simp));clear v;go_wp2;go_ret;exact⟨AJ.no fun q=>C.out (q k d),t⟩
  ·have C:=A3 (v.out.1 rfl);clear v;go_wp2;go_roundw
   case rel=>exact⟨k+1,by omega,by go_num,Bf d g.out C.out,B.out,t⟩
   case measure=>simp[intOf];omega
structure Eg (W:A4):Prop where
 time:JV W.time 1 900000
 next:JV W.next 1 900000
 A2:Zm W.sn W.A2
 A0:Yj W
structure Cf (W:A4):Prop where
 AP:Eg W
 right:AX W.pool
 prevs:∀i,i<memN W->JD W i
 lines:∀i,i<W.sn->Ek W (W.A2 i).name (W.A2 i).A5 (W.A2 i).origin
 trees:Yk W
 homes:LZ W
theorem Eg.range(h:Eg W):∀i,i<W.pn->1<=(W.A0 i).id/\(W.A0 i).id<W.next/\1<=(W.A0 i).time/\(W.A0 i).time<W.time
 | 0,hi=>by
  have:=(h.A0.2.1 0 hi).2.2.2;have a:Mid 0 (W.A0 0).id W.next:=this.1;have b:Mid 0 (W.A0 0).time W.time:=this.2;have c:=a.1;have d:=a.2;have e:=b.1;have f:=b.2;omega
 | i+1,hi=>by
  have g:=h.range i (by omega);have:=(h.A0.2.1 (i+1) hi).2.2.2;have a:Mid (W.A0 i).id (W.A0 (i+1)).id W.next:=this.1;have b:Mid (W.A0 i).time (W.A0 (i+1)).time W.time:=this.2;have c:=a.1;have d:=a.2;have e:=b.1;have f:=b.2;omega
theorem Eg.rise(h:Eg W):∀i,i<W.pn->∀j,j<i->(W.A0 j).id<(W.A0 i).id
 | 0,_,j,hj=>absurd hj (Nat.not_lt_zero _)
 | i+1,hi,j,hj=>by
  have b:Mid (W.A0 i).id (W.A0 (i+1)).id W.next:=(h.A0.2.1 (i+1) hi).2.2.2.1;have a:=b.1;by_cases e:j=i
  ·subst e;exact a
  ·have:=h.rise i (by omega) j (by omega);omega
theorem Eg.dist(h:Eg W):EC W:=fun i hi j a e=>by have:=h.rise i hi j a;omega
theorem Eg.idsWf(h:Eg W):GL W.pn W.A0:=fun i hi=>by
 have a:=h.range i hi;have b:=h.next.2;exact WalkArith.wf_i64 (by omega)
theorem Eg.times(h:Eg W):Pr W:=fun x=>by
 by_cases b:∃k,BB W x k
 ·obtain⟨k,a⟩:=b;rw[Cn a];have c:=h.range k a.1;have d:=h.time.2;exact⟨by omega,by omega⟩
 ·have:AB W x=CQ:=(by unfold AB;rw[dif_neg b]);rw[this];exact⟨Int.le_refl _,by decide⟩
theorem QQ{i:Nat}(c:NB W):JD W i↔((A6 W i).A5=0\/BG W (A6 W i).A5):=by
 unfold JD;constructor
 ·intro h;by_cases b:∃k,BB W (A6 W i).A5 k
  ·obtain⟨k,a⟩:=b;exact Or.inr ⟨k,a.1,a.2.1⟩
  ·have e:AB W (A6 W i).A5=CQ:=(by unfold AB;rw[dif_neg b]);rw[e]at h;exact Or.inl h.symm
 ·rintro(h | h)
  ·rw[h,Jp (fun k a e=>by have:=c k a;omega)];rfl
  ·obtain⟨k,a⟩:=h.no;rw[Cn a];exact a.2.1
theorem Eg.Cu(h:Eg W)(b:∀i,i<memN W->JD W i):G6 W where
 ids:=fun k a=>by have c:=h.range k a;have d:=h.next.2;omega
 A5:=fun k a=>by
  have:=(QQ (fun k a=>(h.range k a).1)).1 (b k (by unfold memN;omega));rw[B9 a]at this;exact this
 less:=fun k a=>(h.A0.2.1 k a).2.2.1
 A2:=fun k a=>by
  have:=(QQ (fun k a=>(h.range k a).1)).1 (b (W.pn+k) (by unfold memN;omega));rw[By]at this;exact this
 AP:=fun k a=>RY (h.A2.2 k a).1
theorem zBA(h:G6 W)(hs:start=0\/BG W start):∀{n:Nat} {e:Int},Steps W name start n e->(e=0\/BG W e)
 | 0,_,.zero=>hs
 | n+1,_,.next (k:=k) _ hk _=>h.A5 k hk.1
variable{f:Nat->Ac}
theorem XU{i:Nat}(hn:Bp (f i).name):CM (G2 f i) (f i).name↔(0<i->CM (f (i - 1)).name (f i).name):=by
 cases i with
 | zero=>
  refine⟨fun _ h=>absurd h (by omega),fun _=>?_⟩;have b:=RY hn;unfold CM G2;have c:(⟨#[]⟩:ByteArray).toList = []:=(by rw[Go.ByteArray.toList_eq]);rw[c];cases hl:(f 0).name.toList with
  | nil=>rw[hl]at b;exact absurd b (by decide)
  | cons a l=>simp[Op.bytesLess]
 | succ i=>exact⟨fun h _=>h,fun h=>h (by omega)⟩
theorem FA(W:A4):Cf W↔Ab W:=by
 constructor
 ·intro h;have a:=h.AP.Cu h.prevs;have q:Ct W:=by
   refine⟨h.AP.time,h.AP.next,h.AP.A2.1,h.AP.A0.1,fun i hi=>?_,fun i hi=>?_⟩
   ·have hs:=h.AP.A2.2 i hi;refine⟨hs.1,(XU hs.1).1 hs.2,fun d=>(a.A2 i hi).resolve_left d,fun d=>?_⟩;obtain⟨n,e,p,_,_,rfl⟩:=h.lines i hi;exact(zBA a (a.A2 i hi) p).resolve_left d
   ·have hs:=h.AP.A0.2.1 i hi;have l:=h.AP.range i hi;refine⟨⟨l.1,l.2.1,l.2.2.1,l.2.2.2,hs.2.1,hs.1⟩,⟨fun r=>?_,fun d=>⟨hs.2.2.1,(a.A5 i hi).resolve_left d⟩⟩,fun k o=>h.AP.A0.2.2 i hi k o⟩;cases i with
    | zero=>omega
    | succ i=>exact⟨hs.2.2.2.1.1,hs.2.2.2.2.1⟩
  have b:Db W:=Lj h.right q (fun i hi=>by have:=h.trees.1 i (by unfold memN;omega);rw[B9 hi]at this;exact this) (fun i hi=>by have:=h.trees.1 (W.pn+i) (by unfold memN;omega);rw[By]at this;exact this);have c:∀i,i<memN W->KC W (A6 W i):=fun i hi=>(XL b hi).1 (h.trees.2 i hi)
  have f:=(VF b (fun j m=>by have:=a.pos j m;omega) c).1 h.homes;exact⟨h.right,q,h.lines,fun i hi=>b.BI hi,fun i hi=>⟨b.set hi,(c (W.pn+i) (by unfold memN;omega)).1⟩,fun i hi=>(c i (by unfold memN;omega)).1,f.1,fun i hi=>(c i hi).2,f.2⟩
 ·intro h;have a:=h.AP.Cu;have b:Db W:=Lj h.right h.AP h.A0 (fun i hi=>(h.A2 i hi).1);have c:∀i,i<memN W->KC W (A6 W i):=fun i hi=>by
   refine⟨?_,h.born i hi⟩;by_cases g:i<W.pn
   ·exact h.dead i g
   ·have:=(h.A2 (i - W.pn) (by unfold memN at hi;omega)).2;rw[show W.pn+(i - W.pn)=i by omega]at this;exact this
  have f:=(VF b (fun j m=>by have:=a.pos j m;omega) c).2 ⟨h.reach,h.BY⟩;refine⟨⟨h.AP.1,h.AP.2.1,⟨h.AP.2.2.1,fun i hi=>?_⟩,⟨h.AP.2.2.2.1,fun i hi=>?_,fun i hi k o=>(h.AP.2.2.2.2.2 i hi).2.2 k o⟩⟩,h.right,fun i hi=>?_,h.lines,⟨b.tree,fun i hi=>(XL b hi).2 (c i hi)⟩,f⟩
  ·have hs:=h.AP.2.2.2.2.1 i hi;exact⟨hs.1,(XU hs.1).2 hs.2.1⟩
  ·have hs:=h.AP.2.2.2.2.2 i hi;refine⟨hs.1.2.2.2.2.2,hs.1.2.2.2.2.1,a.less i hi,?_,?_⟩
   ·cases i with
    | zero=>exact⟨by have:=hs.1.1;show(0:Int)<_;omega,hs.1.2.1⟩
    | succ i=>exact⟨(hs.2.1.1 (by omega)).1,hs.1.2.1⟩
   ·cases i with
    | zero=>exact⟨by have:=hs.1.2.2.1;show(0:Int)<_;omega,hs.1.2.2.2.1⟩
    | succ i=>exact⟨(hs.2.1.1 (by omega)).2,hs.1.2.2.2.1⟩
  ·refine(QQ a.pos).2 ?_;by_cases g:i<W.pn
   ·rw[B9 g];exact a.A5 i g
   ·have e:=By W (i - W.pn);rw[show W.pn+(i - W.pn)=i by omega]at e;rw[e];exact a.A2 _ (by unfold memN at hi;omega)
def EH(w:World)(b:Nat)(v0 v1 v2 v3 v4 v5 v6 v7:Value):Prop:=AF w b 0 v0/\AF w b 1 v1/\AF w b 2 v2/\AF w b 3 v3/\AF w b 4 v4/\AF w b 5 v5/\AF w b 6 v6/\AF w b 7 v7
variable{w':World}{b:Nat}{v0 v1 v2 v3 v4 v5 v6 v7:Value}
theorem EH.A1(h:EH w b v0 v1 v2 v3 v4 v5 v6 v7)(t:Below w.heap.size w w'):EH w' b v0 v1 v2 v3 v4 v5 v6 v7:=⟨h.1.A1 t,h.2.1.A1 t,h.2.2.1.A1 t,h.2.2.2.1.A1 t,h.2.2.2.2.1.A1 t,h.2.2.2.2.2.1.A1 t,h.2.2.2.2.2.2.1.A1 t,h.2.2.2.2.2.2.2.A1 t⟩
theorem EH.AD{S:Nat->Prop}(h:EH w b v0 v1 v2 v3 v4 v5 v6 v7)(t:AC S w w')(hs:¬S b):EH w' b v0 v1 v2 v3 v4 v5 v6 v7:=⟨h.1.AD t hs,h.2.1.AD t hs,h.2.2.1.AD t hs,h.2.2.2.1.AD t hs,h.2.2.2.2.1.AD t hs,h.2.2.2.2.2.1.AD t hs,h.2.2.2.2.2.2.1.AD t hs,h.2.2.2.2.2.2.2.AD t hs⟩
theorem EH.new(w:World)(b v1 c d e f g h:Value)(t:TypeId):EH (w.alloc (.cells #[b,v1,c,d,e,f,g,h] t)) w.heap.size b v1 c d e f g h:=by
 have a:(w.alloc (.cells #[b,v1,c,d,e,f,g,h] t)).heap[w.heap.size]?=some (.cells #[b,v1,c,d,e,f,g,h] t):=heap_alloc_new _ _;exact⟨At a rfl,At a rfl,At a rfl,At a rfl,At a rfl,At a rfl,At a rfl,At a rfl⟩
abbrev putR8(w:World)(b:Nat)(u0 u1 u2 u3 u4 u5 u6 u7:Value):World:=(((((((w.setCell ⟨b,0,none⟩ u0).setCell ⟨b,1,none⟩ u1).setCell ⟨b,2,none⟩ u2).setCell ⟨b,3,none⟩ u3).setCell ⟨b,4,none⟩ u4).setCell ⟨b,5,none⟩ u5).setCell ⟨b,6,none⟩ u6).setCell ⟨b,7,none⟩ u7
theorem EH.put(h:EH w b v0 v1 v2 v3 v4 v5 v6 v7)(a c u2 u3 u4 d e f:Value):EH (putR8 w b a c u2 u3 u4 d e f) b a c u2 u3 u4 d e f:=by
 obtain⟨g,i,j,k,l,m,n,o⟩:=h;refine⟨?_,?_,?_,?_,?_,?_,?_,?_⟩
 ·exact(((((((g.set _).other _ (Or.inr (by omega))).other _ (Or.inr (by omega))).other _ (Or.inr (by omega))).other _ (Or.inr (by omega))).other _ (Or.inr (by omega))).other _ (Or.inr (by omega))).other _ (Or.inr (by omega))
 ·exact(((((((i.other _ (Or.inr (by omega))).set _).other _ (Or.inr (by omega))).other _ (Or.inr (by omega))).other _ (Or.inr (by omega))).other _ (Or.inr (by omega))).other _ (Or.inr (by omega))).other _ (Or.inr (by omega))
 ·exact(((((((j.other _ (Or.inr (by omega))).other _ (Or.inr (by omega))).set _).other _ (Or.inr (by omega))).other _ (Or.inr (by omega))).other _ (Or.inr (by omega))).other _ (Or.inr (by omega))).other _ (Or.inr (by omega))
 ·exact(((((((k.other _ (Or.inr (by omega))).other _ (Or.inr (by omega))).other _ (Or.inr (by omega))).set _).other _ (Or.inr (by omega))).other _ (Or.inr (by omega))).other _ (Or.inr (by omega))).other _ (Or.inr (by omega))
 ·exact(((((((l.other _ (Or.inr (by omega))).other _ (Or.inr (by omega))).other _ (Or.inr (by omega))).other _ (Or.inr (by omega))).set _).other _ (Or.inr (by omega))).other _ (Or.inr (by omega))).other _ (Or.inr (by omega))
 ·exact(((((((m.other _ (Or.inr (by omega))).other _ (Or.inr (by omega))).other _ (Or.inr (by omega))).other _ (Or.inr (by omega))).other _ (Or.inr (by omega))).set _).other _ (Or.inr (by omega))).other _ (Or.inr (by omega))
 ·exact(((((((n.other _ (Or.inr (by omega))).other _ (Or.inr (by omega))).other _ (Or.inr (by omega))).other _ (Or.inr (by omega))).other _ (Or.inr (by omega))).other _ (Or.inr (by omega))).set _).other _ (Or.inr (by omega))
 ·exact(((((((o.other _ (Or.inr (by omega))).other _ (Or.inr (by omega))).other _ (Or.inr (by omega))).other _ (Or.inr (by omega))).other _ (Or.inr (by omega))).other _ (Or.inr (by omega))).other _ (Or.inr (by omega))).set _
theorem AC.putR8(w:World)(b:Nat)(a c u2 u3 u4 d e f:Value):AC (fun k=>k=b) w (putR8 w b a c u2 u3 u4 d e f):=
 (((((((AC.put w b 0 a).trans (AC.put _ b 1 c)).trans (AC.put _ b 2 u2)).trans (AC.put _ b 3 u3)).trans (AC.put _ b 4 u4)).trans (AC.put _ b 5 d)).trans (AC.put _ b 6 e)).trans (AC.put _ b 7 f)
def Te:Ac:=⟨⟨#[]⟩,0,0,0,0,0,fun _=>0,fun _=>0⟩
open Classical in
noncomputable def GY(W:A4)(x:Int):AT:=if Ab W then AB W x else CQ
theorem YC{x:Int}(h:Ab W):GY W x=AB W x:=if_pos h
theorem zk{x:Int}(h:¬Ab W):GY W x=CQ:=if_neg h
theorem zAf(h:JQ W)(x:Int):(AB W x).dn<=1048576:=by
 by_cases b:∃k,BB W x k
 ·obtain⟨k,a⟩:=b;rw[Cn a];exact h.2 k a.1
 ·have:AB W x=CQ:=(by unfold AB;rw[dif_neg b]);rw[this];exact Nat.zero_le _
def T5(s:AT)(w:World)(e:Ending)(w':World):Prop:=∃v b,e = .returned (BX v s)/\Bm w' b v s.dn s.ds s.db/\(0<s.dn->w.heap.size<=b/\b<w'.heap.size)/\Below w.heap.size w w'
theorem zBo(h:Below w.heap.size w w'):T5 CQ w (.returned (.agg #[.int .i64 0,.string ⟨#[]⟩,.string ⟨#[]⟩,.int .i64 0,.int .i64 0,.int .i64 0,.int .i64 0,.slice none 0 0])) w':=
 ⟨.slice none 0 0,0,rfl,⟨Nat.zero_le _,none,0,rfl,Nat.le_refl _,fun h=>absurd h (Nat.lt_irrefl _)⟩,fun h=>absurd h (Nat.lt_irrefl _),h⟩
variable{P:Program}
theorem zD2{c:Array Oper}{o:Oper}{a:Act}{K:Act->World->Prop}{Q:Exit->Act->World->Prop}{E:Prop}(d:o.guard=none)(s x:Operand)(t:TypeId)
 (g:o.op = .call {callee:=.builtin .append,args:=#[s,x],argTypes:=#[t,t]}) (vs f e:Value) (hs:a.eval s=vs) (j:a.eval x=f) (b:(Builtin.append_ #[t,t] o.type #[vs,f]).run P w = .ok e w1)
 (h:K (a.put o.dst e) w1):if Region.wanted o (yielded c a.tmps)=true then Oper.wp P o a w K Q else E:=by
 have i:Region.wanted o (yielded c a.tmps)=true:=by simp[Region.wanted,d]
 rw[if_pos i];unfold Oper.wp;simp[execOp,g,resolve,invoke,builtin,hs,j,b,Result.andThen];exact h
variable{lo hi e d:Nat}
theorem De.wide(h:De w lo hi v n f)(r:e<=lo)(s:hi<=d)(p:∀{v n f g},Ay w lo hi v n f g->Ay w e d v n f g):De w e d v n f:=by
 obtain⟨m,a,c,hv,o,q⟩:=h;refine⟨m,a,c,hv,o,fun j=>?_⟩;obtain⟨b,off,l,t,u,k⟩:=q j;refine⟨b,off,l,by omega,by omega,fun i hi=>?_⟩;obtain⟨vd,hs⟩:=k i hi;exact⟨vd,hs.c0,hs.c1,hs.c2,hs.c3,hs.c4,hs.c5,p hs.dead,hs.Bo⟩
theorem D8.wide{f:Nat->AT}(h:D8 w lo hi v n f)(r:e<=lo)(s:hi<=d)(p:∀{v n f g},Ay w lo hi v n f g->Ay w e d v n f g):D8 w e d v n f:=by
 obtain⟨m,a,c,hv,o,q⟩:=h;refine⟨m,a,c,hv,o,fun j=>?_⟩;obtain⟨b,off,l,t,u,k⟩:=q j;refine⟨b,off,l,by omega,by omega,fun i hi=>?_⟩;obtain⟨vd,hs⟩:=k i hi;exact⟨vd,hs.c0,hs.c1,hs.c2,hs.c3,hs.c4,hs.c5,hs.c6,hs.c7,p hs.dead,hs.Bo⟩
theorem BU.wide{f:Nat->AG}(h:BU w lo hi v n f)(l:e<=lo)(o:hi<=d):BU w e d v n f:=by
 obtain⟨m,a,c,hv,r,t⟩:=h;refine⟨m,a,c,hv,r,fun k=>?_⟩;obtain⟨b,off,q,z,A,p⟩:=t k;refine⟨b,off,q,by omega,by omega,fun i hi=>?_⟩;obtain⟨u,x,y,c0,c1,g,e0,s,j,hs⟩:=p i hi;exact⟨u,x,y,c0,c1,g,e0,s.wide l o,j,hs⟩
theorem BM.wide{c:Nat}(h:BM w lo hi v0 v1 v2 v3 W)(a:d<=lo)(b:hi<=c):BM w d c v0 v1 v2 v3 W:=
 ⟨⟨h.pool.1.wide a b,h.pool.2.wide a b⟩,h.A2.wide a b (fun e=>e.wide a b),h.A0.wide a b (fun e=>e.wide a b)⟩
open Go.Shelf
abbrev Dp:=(Int×Int)×(Int×Int)
abbrev Fv:={x:Dp // (Lit.int .i64 x.2.1).wf=true/\(Lit.int .i64 x.2.2).wf=true/\(x.1.1=2->0<=x.1.2/\x.1.2<64)}
abbrev L3(x:Fv):Array Value:=#[.agg #[.int .i64 x.1.1.1,.int .i64 x.1.1.2],.agg #[.int .i64 x.1.2.1,.int .i64 x.1.2.2]]
def E3(f:Nat->List Dp):Nat->List Dp
 | 0=>[]
 | k+1=>E3 f k ++ f k
def Fx(p:A7)(L:Int)(G:Int->Int->Int->List Dp)(num xs xb:Int):List Dp:=if Nil xs xb then [] else((L,num),(xs,xb)) :: E3 (fun i=>G (num*8+i) (AL (p.s xs.toNat) i) (AW (p.s xs.toNat) i)) 8
def L7(p:A7):Int->Int->Int->List Dp:=Fx p 2 (fun _ _ _=>[])
def Md(p:A7):Int->Int->Int->List Dp:=Fx p 1 (L7 p)
def FT(p:A7)(rs rb:Int):List Dp:=Fx p 0 (Md p) 0 rs rb
theorem UV:∀k,E3 (fun _=>[]) k = []
 | 0=>rfl
 | k+1=>by rw[E3,UV k];rfl
theorem UU{f:Nat->List Dp}{m:Nat}(h:∀i,(f i).length<=m):∀k,(E3 f k).length<=m*k
 | 0=>Nat.le_refl _
 | k+1=>by
  have:=UU h k;have:=h k;rw[E3,List.length_append];have:m*(k+1)=m*k+m:=Nat.mul_succ _ _;omega
theorem U9(p:A7)(num xs xb:Int):L7 p num xs xb=if Nil xs xb then [] else [((2,num),(xs,xb))]:=by
 unfold L7 Fx;rw[UV]
theorem UW{f:Nat->List Dp}{g:Nat->List (Int×Int)}(h:∀i,(f i).map (·.2)=g i):∀k,(E3 f k).map (·.2)=(List.range k).flatMap g
 | 0=>rfl
 | k+1=>by rw[E3,List.map_append,UW h k,h k,List.range_succ,List.flatMap_append];simp
theorem Xe(F:Int->Int->List (Int×Int))(s:AG):∀k,D3 F s k=(List.range k).flatMap (fun i=>F (AL s i) (AW s i))
 | 0=>rfl
 | k+1=>by rw[D3,Xe F s k,List.range_succ,List.flatMap_append];simp
variable{G:Int->Int->Int->List Dp}
theorem Uz{p:A7}{L:Int}{F:Int->Int->List (Int×Int)}(h:∀num xs xb,(G num xs xb).map (·.2)=F xs xb)(num xs xb:Int):(Fx p L G num xs xb).map (·.2)=FR p F xs xb:=by
 unfold Fx FR;by_cases hn:Nil xs xb
 ·rw[if_pos hn,if_pos hn];rfl
 ·rw[if_neg hn,if_neg hn,List.map_cons,UW (g:=fun i=>F (AL (p.s xs.toNat) i) (AW (p.s xs.toNat) i)) (fun i=>h _ _ _),Xe]
theorem V2(p:A7)(rs rb:Int):(FT p rs rb).map (·.2)=AE p rs rb:=by
 have b:∀num xs xb,(L7 p num xs xb).map (·.2)=one xs xb:=fun num xs xb=>by
  rw[U9];unfold one;by_cases hn:Nil xs xb
  ·rw[if_pos hn,if_pos hn];rfl
  ·rw[if_neg hn,if_neg hn];rfl
 have a:∀num xs xb,(Md p num xs xb).map (·.2)=DA p xs xb:=fun num xs xb=>by
  unfold Md;rw[Uz b];unfold FR DA Gm;rw[Qn]
 unfold FT;rw[Uz a];unfold FR AE;rw[Qm]
def CE(n₀ B:Nat)(W W':World):Prop:=Below n₀ W W'/\∀k o,B<=k->W.heap[k]?=some o->o.isCells=true->W'.heap[k]?=some o
theorem CE.refl(n₀ B:Nat)(W:World):CE n₀ B W W:=⟨Below.refl _ _,fun _ _ _ h _=>h⟩
variable{n₀ B:Nat}
theorem Jl{X Y Z:World}(h:CE n₀ B X Y)(k:CE n₀ B Y Z):CE n₀ B X Z:=⟨h.1.trans k.1,fun i o hi b a=>k.2 i o hi (h.2 i o hi b a) a⟩
theorem VJ(hn:n₀<=w.heap.size)(W:World)(l:Nat)(o o':Obj)(d:w.heap.size<=l)(h:W.heap[l]?=some o)(c:o.isCells=false)(f:o.isWalk=false):CE n₀ B W (W.putObj l o'):=by
 refine⟨belowK_b hn W l o o' d h c f,fun k ok g a b=>?_⟩;by_cases e:k=l
 ·subst e;rw[h]at a;cases a;rw[c]at b;exact absurd b (by simp)
 ·exact(World.putObj_heap_other e).trans a
variable{W W':World}
theorem CE.CX(h:Below W.heap.size W W')(hn:n₀<=W.heap.size):CE n₀ B W W':=
 ⟨h.mono hn,fun k o _ a _=>(h.block k (Array.getElem?_eq_some_iff.1 a).1).trans a⟩
theorem Yf{o:Nat}(h:W.cell? ⟨b,o,none⟩=some v):∃ob:Obj,W.heap[b]?=some ob/\ob.isCells=true:=by
 simp only[World.cell?]at h;cases hb:W.heap[b]? with
 | none=>rw[hb]at h;simp at h
 | some ob=>
  refine⟨ob,rfl,?_⟩;rw[hb]at h;cases ob<;>first | rfl | (simp at h)
theorem CE.cell(h:CE n₀ B W W'){o:Nat}(g:B<=b)(c:AF W b o v):AF W' b o v:=by
 obtain⟨ob,d,f⟩:=Yf c.1;have e:W'.heap[b]?=W.heap[b]?:=(h.2 b ob g d f).trans d.symm;exact⟨(World.cell?_of_block (a:=⟨b,o,none⟩) e).trans c.1,(World.frozen?_of_block (a:=⟨b,o,none⟩) e).trans c.2⟩
theorem CE.size(h:CE n₀ B W W'):W.heap.size<=W'.heap.size:=h.1.size
attribute [go_sem] Oper.semAt_some
theorem zB0{F:Fence}(a:F.depth=none)(k:Nat):F.room k:=fun d h=>by rw[a]at h;cases h
theorem zDw{m:Nat}(d:Nat){l:Nat}{args:Array Value}{R:Ending->World->Prop}(h:YieldAt Fence.wide m P l args W R):YieldAt Fence.wide d P l args W R:=by
 obtain⟨fn,tmps,assign,body,b,a⟩:=h;exact⟨fn,tmps,assign,body,b,⟨a.1,fun c cs _=>a.2 c cs (zB0 rfl _)⟩⟩
theorem AV{P:Prop}(h:P):Hid P:=h
theorem zCm(L num:Int)(i:Nat)(c:0<=L/\L<=2)(hn:0<=num/\num<=1000)(hi:i<8)(w:World) :
 Calls Tryz.prog 171 #[.agg #[.int .i64 L,.int .i64 num],.int .i64 (i:Int)] w fun e w'=>e = .returned (.agg #[.int .i64 (L+1),.int .i64 (num*8+i)])/\Below w.heap.size w w':=by
 have a:=A9 w (.cells #[.int .i64 L,.int .i64 num] 120);have b:=A9 (w.alloc (.cells #[.int .i64 L,.int .i64 num] 120)) (.cells #[.int .i64 (L+1),.int .i64 (num*8+i)] 120);obtain⟨⟨d,-⟩,⟨f,-⟩⟩:=(Ad.new w (.int .i64 L) (.int .i64 num) 120);go_enter Tryz.func171,Tryz.ntmps171;go_wp2;refine bodyPost_ret (v:=.agg #[.int .i64 (L+1),.int .i64 (num*8+i)]) (by simp[results,Tryz.results171,go_sem]) rfl ⟨rfl,?_⟩;exact A8 a b
def LH(p:A7)(C:Int->Int->Prop)(xs xb:Int):Prop:=Nil xs xb\/(BA p xs xb/\∀i,i<8->C (AL (p.s xs.toNat) i) (AW (p.s xs.toNat) i))
section
variable (n₀ B N l : Nat) (p : A7) (sv : Value) (lo hi : Nat) (J Jx : List Fv -> World -> Prop)
def zDF(pre:List Fv)(out:List Dp)(W:World)(e:Ending)(W':World):Prop:=
 ∃t:Bool,e = .returned (.bool t)/\(t=true->(∃ys:List Fv,ys.map (·.1)=out/\J (pre ++ ys) W')/\CE n₀ B W W')/\(t=false->∃q,Jx q W')
def PM(L:Int)(G:Int->Int->Int->List Dp)(C:Int->Int->Prop)(M:Int):Prop:=
 ∀(n:Nat) (num xs xb:Int) (pre:List Fv) (W:World),C xs xb->0<=num->num<=M->B<=W.heap.size->J pre W->pre.length+(G num xs xb).length<=N->
  CallsIn Fence.wide n Tryz.prog 134 #[sv,.agg #[.int .i64 L,.int .i64 num],.agg #[.int .i64 xs,.int .i64 xb],.func (.yield l) #[] #[]] W (zDF n₀ B J Jx pre (G num xs xb) W)
end
theorem zDt(n₀ B N l:Nat)(p:A7)(sv:Value)(J Jx:List Fv->World->Prop)(hn:n₀<=B)(i:∀s W b,J s W->Below W.heap.size W b->J s b)(L M:Int)(hs:∃a n c,sv = .slice a n c):PM n₀ B N l sv J Jx L (fun _ _ _=>[]) Nil M:=by
 intro n num xs xb pre W g q t r o u;obtain⟨rfl,rfl⟩:=g;obtain⟨a,k,c,rfl⟩:=hs;have j:=A9 W (.cells #[.int .i64 L,.int .i64 num] 120);have m:=A9 (W.alloc (.cells #[.int .i64 L,.int .i64 num] 120)) (.cells #[.int .i64 0,.int .i64 0] 40);have d:=A8 j m;have f:=AV (i _ _ _ o d);have e:=Ad.new (W.alloc (.cells #[.int .i64 L,.int .i64 num] 120)) (.int .i64 0) (.int .i64 0) 40;rw[World.size_alloc]at e;obtain⟨⟨y0,-⟩,⟨y1,-⟩⟩:=e;refine callsIn_of_wp Tryz.func134 rfl trivial ?_ rfl;simp only[Tryz.ntmps134,List.size_toArray,List.length_cons,List.length_nil,Nat.reduceAdd,Nat.reduceSub,Array.replicate_succ,Array.replicate_zero,List.push_toArray,List.append_toArray,List.nil_append,List.cons_append]
 gi_wp2
 go_ret;exact⟨true,rfl,fun _=>⟨⟨[],rfl,by rw[List.append_nil];exact f.out⟩,CE.CX d (by omega)⟩,fun h=>(by cases h)⟩
theorem zFq{p:A7}{N k j:Nat}{L num xb:Int}{pre ys:List Fv}(l:pre.length+(((L,num),((k:Int),xb)) :: E3 (fun i=>G (num*8+i) (AL (p.s k) i) (AW (p.s k) i)) 8).length<=N)(c:ys.map (·.1)=((L,num),((k:Int),xb)) :: E3 (fun i=>G (num*8+i) (AL (p.s k) i) (AW (p.s k) i)) j)(n:j<8) :
 (pre ++ ys).length+(G (num*8+j) (AL (p.s k) j) (AW (p.s k) j)).length<=N:=by
 have d:=congrArg List.length c;rw[List.length_map]at d;have m:∀(f:Nat->List Dp) (a b:Nat),a<=b->(E3 f a).length<=(E3 f b).length:=fun f a b h=>by
  induction b with
  | zero=>
    obtain rfl:a=0:=(by omega);exact Nat.le_refl _
  | succ b ih=>
    by_cases e:a=b+1
    · subst e;exact Nat.le_refl _
    · have:=ih (by omega)
      rw[E3,List.length_append];omega
 have g:=m (fun i=>G (num*8+i) (AL (p.s k) i) (AW (p.s k) i)) (j+1) 8 (by omega);rw[E3,List.length_append]at g;rw[List.length_append];rw[List.length_cons]at d l;omega
theorem zu(s:AG){j:Nat}(h:j<8):∀w:World,(Instr.index 204 (.agg (BC s)) (.int .i64 (j:Int))).run Tryz.prog w = .ok (.agg #[.int .i64 (AL s j),.int .i64 (AW s j)]) w:=by
 intro w;obtain rfl | rfl | rfl | rfl | rfl | rfl | rfl | rfl:j=0\/j=1\/j=2\/j=3\/j=4\/j=5\/j=6\/j=7:=by omega
 all_goals kernel_rfl
theorem Qg(n₀ B N l:Nat)(p:A7)(sv:Value)(lo hi:Nat)(J Jx:List Fv->World->Prop)(hn:n₀<=B)(hR:AX p)(hJ:∀s W W',J s W->Below W.heap.size W W'->J s W')(hS:∀s W,J s W->BU W lo hi sv p.n p.s)
 (hY:∀m pre x W,J pre W->pre.length<N->B<=W.heap.size->YieldAt Fence.wide m Tryz.prog l (L3 x) W fun e W'=>(e = .returned (.bool true)/\J (pre ++ [x]) W'/\CE n₀ B W W')\/(e = .returned (.bool false)/\Jx (pre ++ [x]) W'))
 (L M:Int) (hL:0<=L/\L<=2) (hM:0<=M/\M<=100) (lC:L=2->M<64) (G:Int->Int->Int->List Dp) (C:Int->Int->Prop) (H:PM n₀ B N l sv J Jx (L+1) G C (M*8+7)):PM n₀ B N l sv J Jx L (Fx p L G) (LH p C) M:=by
 intro n num xs xb pre W hC h0 mD hB hj hN;obtain⟨a,c,rfl⟩:∃a c,sv = .slice a p.n c:=(by obtain⟨_,a,c,h,_⟩:=hS _ _ hj;exact⟨a,c,h⟩);have ha:=A9 W (.cells #[.int .i64 L,.int .i64 num] 120);have hb:=A9 (W.alloc (.cells #[.int .i64 L,.int .i64 num] 120)) (.cells #[.int .i64 xs,.int .i64 xb] 40);have hA:=A8 ha hb;have HX:=AV ((Ad.new W (.int .i64 L) (.int .i64 num) 120).A1 hb);have I:=Ad.new (W.alloc (.cells #[.int .i64 L,.int .i64 num] 120)) (.int .i64 xs) (.int .i64 xb) 40;rw[World.size_alloc]at I;have HY:=AV I;have E:=hJ _ _ _ hj hA;have Z:((W.alloc (.cells #[.int .i64 L,.int .i64 num] 120)).alloc (.cells #[.int .i64 xs,.int .i64 xb] 40)).heap.size=W.heap.size+1+1:=(by rw[World.size_alloc,World.size_alloc]);have HZ:=AV Z;clear ha hb I hj;obtain⟨⟨x0,-⟩,⟨x1,-⟩⟩:=HX.out;obtain⟨⟨y0,-⟩,⟨y1,-⟩⟩:=HY.out;by_cases f:Nil xs xb
 · have HN:=AV f
   have vB:=AV E;obtain⟨rfl,rfl⟩:=f;clear E Z;refine callsIn_of_wp Tryz.func134 rfl trivial ?_ rfl;simp only[Tryz.ntmps134,List.size_toArray,List.length_cons,List.length_nil,Nat.reduceAdd,Nat.reduceSub,Array.replicate_succ,Array.replicate_zero,List.push_toArray,List.append_toArray,List.nil_append,List.cons_append]
   gi_wp2
   go_ret;exact⟨true,rfl,fun _=>⟨⟨[],by rw[show Fx p L G num 0 0 = [] from if_pos HN.out];rfl,by rw[List.append_nil];exact vB.out⟩,CE.CX hA (by omega)⟩,fun h=>(by cases h)⟩
 have w:Fx p L G num xs xb=((L,num),(xs,xb)) :: E3 (fun i=>G (num*8+i) (AL (p.s xs.toNat) i) (AW (p.s xs.toNat) i)) 8:=if_neg f;have e0:=On f;obtain⟨g,v⟩:=hC.resolve_left f;have Hf:=AV (Ep hR g);rw[w]at hN ⊢;have kB:(Lit.int .i64 xs).wf=true/\(Lit.int .i64 xb).wf=true/\(L=2->0<=num/\num<64):=by
  have h1:=g.2.2.1;have h2:=g.2.1;have h3:=g.1;have h4:=hR.1;have h5:=Hf.out.1.2;have h6:=g.2.2.2;exact⟨WalkArith.wf_i64 (by omega),WalkArith.wf_i64 (by omega),fun e=>⟨h0,by have:=lC e;omega⟩⟩
 obtain⟨k,rfl⟩:=Int.eq_ofNat_of_zero_le g.2.1;rw[Int.toNat_natCast]at Hf v hN ⊢;have hk:k<p.n:=(by have:=g.2.2.1;omega);have pD:(k:Int)<(p.n:Int):=(by omega);have dC:=AV hN;have pA:=AV v;have rA:=AV H;have iD:=AV hY;rw[List.length_cons]at hN;have nC:=hY (n - 1) pre ⟨((L,num),((k:Int),xb)),kB⟩ _ E (by omega) (by rw[HZ.out];omega);clear f hC g w E Z H v hN hY;obtain⟨fn,tmps,assign,body,I,Y⟩:=nC;unfold L3 at I;dsimp only at I;have D:∀k:Nat,(Fence.wide.depth.isSome=true->1<=k):=fun k h=>by simp[Fence.wide]at h
 rcases e0 with e0 | ⟨e0,e1⟩
 all_goals
  refine callsIn_of_wp Tryz.func134 rfl trivial ?_ rfl;simp only[Tryz.ntmps134,List.size_toArray,List.length_cons,List.length_nil,Nat.reduceAdd,Nat.reduceSub,Array.replicate_succ,Array.replicate_zero,List.push_toArray,List.append_toArray,List.nil_append,List.cons_append]
  gi_wp2
  refine⟨D _,Y.mono ?_⟩;rintro e W2 (⟨rfl,X,o⟩ | ⟨rfl,lB⟩);rotate_left
  · have iC:=AV lB
    clear lB Y I x0 x1 y0 y1
    gi_wp2
    go_ret;exact⟨false,rfl,fun h=>(by cases h),fun _=>⟨_,iC.out⟩⟩
  have dA:=AV X;have hz:=HZ.out;have gA:=AV (Jl (CE.CX (n₀:=n₀) (B:=B) hA (by omega)) o);have R:=AV (show Ad W2 W.heap.size (.int .i64 L) (.int .i64 num)from⟨o.cell hB HX.out.1,o.cell hB HX.out.2⟩);have nA:=AV (show Ad W2 (W.heap.size+1) (.int .i64 (k:Int)) (.int .i64 xb)from⟨o.cell (by omega) HY.out.1,o.cell (by omega) HY.out.2⟩);have S:=AV (show W.heap.size+1+1<=W2.heap.size by have:=o.size;omega);obtain⟨b,off,ka,kc,rfl,gB⟩:=(hS _ _ X).cells hk;have HC:=AV gB.slot;obtain⟨q0,q1,q2,-⟩:=gB;clear X o Y I x0 x1 y0 y1 HX HY hA hz;obtain⟨⟨x0,-⟩,⟨x1,-⟩⟩:=R.out;obtain⟨⟨y0,-⟩,⟨y1,-⟩⟩:=nA.out
  gi_wp2
  refine⟨trivial,D _,(callsIn_wide.2 (OP _ _ _ lo hi (p.s k) _ HC.out (KM Hf.out))).mono ?_⟩;rintro e W3 ⟨rfl,u⟩;have eA:=AV (hJ _ _ _ dA.out u);have iA:=AV (Jl gA.out (CE.CX u (by have:=S.out;omega)));have kA:=AV (R.out.A1 u);have oA:=AV (show W.heap.size+1+1<=W3.heap.size by have:=S.out;have:=u.size;omega);clear u q0 q1 q2 x0 x1 y0 y1 dA gA R nA S HC
  gi_wp2
  gi_loopw [25] (fun i wr=>∃(j:Nat) (ys:List Fv),j<=8/\i = .int .i64 j/\ys.map (·.1)=((L,num),((k:Int),xb)) :: E3 (fun i=>G (num*8+i) (AL (p.s k) i) (AW (p.s k) i)) j/\J (pre ++ ys) wr/\CE n₀ B W wr/\Ad wr W.heap.size (.int .i64 L) (.int .i64 num)/\W.heap.size+1+1<=wr.heap.size) (fun i _=>8 - (intOf i).toNat)
  case atStart=>exact⟨0,[⟨((L,num),((k:Int),xb)),kB⟩],by omega,rfl,rfl,eA.out,iA.out,kA.out,oA.out⟩
  case round=>
   obtain⟨j,ys,nD,rfl,mB,tA,aB,cB,eB⟩:=hrel;have U:=AV mB;have K:=AV tA;have O:=AV aB;have mA:=AV cB;have T:=AV eB;clear mB tA aB cB eB eA iA kA oA;by_cases F:j<8
   · have eD:(j:Int)<8:=by omega
     have pC:=zu (p.s k) F;have A:=A9 wr (.cells #[.int .i64 (AL (p.s k) j),.int .i64 (AW (p.s k) j)] 40);have z:=AV (Ad.new wr (.int .i64 (AL (p.s k) j)) (.int .i64 (AW (p.s k) j)) 40);have y:=AV (mA.out.A1 A);have fA:=AV (hJ _ _ _ K.out A);have r:=AV (show W.heap.size+1+1<=wr.heap.size/\(wr.alloc (.cells #[.int .i64 (AL (p.s k) j),.int .i64 (AW (p.s k) j)] 40)).heap.size=wr.heap.size+1 from⟨T.out,World.size_alloc _ _⟩);have jA:=AV (Jl O.out (CE.CX A (by have:=T.out;omega)));have cC:=AV (zFq dC.out U.out F);clear A K O mA T
     gi_wp2
     clear pC;generalize wr.alloc (.cells #[.int .i64 (AL (p.s k) j),.int .i64 (AW (p.s k) j)] 40)=W4 at z y fA r jA ⊢;generalize wr.heap.size=V at z r ⊢;obtain⟨⟨x0,-⟩,⟨x1,-⟩⟩:=y.out;obtain⟨⟨y0,-⟩,⟨y1,-⟩⟩:=z.out
     gi_region_with (first
      | (refine⟨trivial,D _,?_⟩;gi_at_call 171;refine(callsIn_wide.2 (zCm L num j hL ⟨h0,by omega⟩ F _)).mono ?_;rintro e W5 ⟨rfl,fB⟩;have d:=Cs fB;obtain⟨⟨z0,-⟩,⟨z1,-⟩⟩:=z.out.A1 d;obtain⟨⟨m0,-⟩,⟨m1,-⟩⟩:=y.out.A1 d)
      | (refine⟨trivial,D _,?_⟩;gi_at_call 134;refine(rA.out (n - 1) (num*8+j) _ _ (pre ++ ys) _ (pA.out j F) (by omega) (by omega) (by have:=d.size;have:=r.out;omega) (hJ _ _ _ fA.out d) cC.out).mono ?_;rintro e W6 ⟨t,rfl,iB,jB⟩))
     all_goals
      have P:=AV iB;have Q:=AV jB;clear iB jB;cases t
     all_goals first
      | (have HQ:=AV (Q.out rfl)
         clear P Q
         gi_wp2
         go_ret;exact⟨false,rfl,fun h=>(by cases h),fun _=>HQ.out⟩)
      | (obtain⟨⟨zs,nB,sA⟩,vA⟩:=P.out rfl
         have jC:=AV nB;have aC:=AV sA;have q:=AV vA;have lA:=AV (y.out.A1 d);have eC:=AV (show W.heap.size+1+1<=W5.heap.size by have:=r.out;have:=d.size;omega);have bC:=AV (Jl jA.out (CE.CX d (by have:=r.out;omega)));clear P Q nB sA vA fB d x0 x1 y0 y1 z0 z1 m0 m1
         gi_wp2
         go_roundw
         case rel=>exact⟨j+1,ys ++ zs,by omega,by go_num,by rw[List.map_append,U.out,jC.out];rfl,by rw[<-List.append_assoc];exact aC.out,Jl bC.out q.out,⟨q.out.cell hB lA.out.1,q.out.cell hB lA.out.2⟩,by have:=q.out.size;have:=eC.out;omega⟩
         case measure=>simp[intOf];omega)
   · obtain rfl:j=8:=by omega
     gi_wp2
     go_ret;exact⟨true,rfl,fun _=>⟨⟨ys,U.out,K.out⟩,O.out⟩,fun h=>(by cases h)⟩
end Go.Proofs.YtnfjcaoclahfjaaGreatDoor
