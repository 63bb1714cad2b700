/- A part of the proof. -/
import Derived.Test.YtddigaohmfpepaaGreatDoorF11
import Derived.LaidEql
import Derived.Stop.Asserts
import Derived.RowKitTokens
set_option linter.unusedVariables false
set_option maxRecDepth 20000
set_option maxHeartbeats 4000000
namespace Go.Proofs.YtddigaohmfpepaaGreatDoor
open Go.RowKit Go.Maps
theorem zHT(s t:ByteArray):(s.toList == t.toList)=true↔s=t:=⟨fun h=>G7 (by simpa using h),fun h=>LQ h⟩
theorem zDo(a:Option Addr)(c:Nat)(s:Aa)(name:ByteArray)(T:Nat)(w:World)(f:w.cell? ⟨T,0,none⟩=some (.string name)) :
 Calls Tryz.prog 166 #[DI (.slice a s.dn c) s,.pointer (some ⟨T,0,none⟩)] w fun e w'=>AJ (s.set=name) e/\Below w.heap.size w w':=by
 unfold DI;have d:=AB w (.cells #[A0 s.id,.string s.name,.string s.set,A0 s.A8,A0 s.time,A0 s.rs,A0 s.rb,.slice a s.dn c] 41);have g:=(d.cell (p:=⟨T,0,none⟩) (AV f)).trans f;obtain⟨⟨⟨h,-⟩,⟨i,-⟩,⟨j,-⟩,⟨k,-⟩⟩,-⟩:=DX.new w (A0 s.id) (.string s.name) (.string s.set) (A0 s.A8) (A0 s.time) (A0 s.rs) (A0 s.rb) (.slice a s.dn c) 41;clear f;have b:=A4 (zHT s.set name);go_enter Tryz.func166,Tryz.ntmps166;go_wp2;go_ret;exact⟨⟨_,rfl,b.out⟩,d⟩
def F0(w:World)(base:Nat)(v:Value)(n:Nat):Prop:=∃xs,w.ownsRow base 41 8 v n xs
variable{w w1:World}{base n:Nat}{v:Value}
theorem F0.A1(h:F0 w base v n)(a:Below w.heap.size w w1):F0 w1 base v n:=by
 obtain⟨xs,h⟩:=h;exact⟨xs,h.kept (EK a none) (by cases v.ownBlock<;>simp)⟩
theorem F0.lt(h:F0 w base v n){q:Nat}(a:v.ownBlock=some q):base<=q/\q<w.heap.size:=by
 obtain⟨xs,h⟩:=h;rcases h.2 with⟨rfl,_⟩ | ⟨g,cap,b,rfl,c,d,_⟩
 ·simp[Value.ownBlock]at a
 ·simp only[Value.ownBlock,Option.some.injEq]at a;subst a;exact⟨c,(Array.getElem?_eq_some_iff.1 d).1⟩
variable{row:Option Nat}
theorem F0.AD(h:F0 w base v n)(b:w.grownBy w1 row)(a:∀q,v.ownBlock=some q->row≠some q):F0 w1 base v n:=by
 obtain⟨xs,h⟩:=h;refine⟨xs,h.kept b ?_⟩;cases hv:v.ownBlock with
 | none=>simp
 | some q=>exact Or.inr (fun e=>a q hv e.symm)
theorem zI:(Tryz.prog.info? 41).map (fun i=>(i.zero,i.size,i.bytes))=some (some (.agg #[A0 0,.string ⟨#[]⟩,.string ⟨#[]⟩,A0 0,A0 0,A0 0,A0 0,A5]),8,96):=by kernel_rfl
def zId(w w':World)(v v':Value)(n n':Nat):Prop:=F0 w' w.heap.size v n/\F0 w' w.heap.size v' n'/\(∀q,v.ownBlock=some q->v'.ownBlock≠some q)/\Below w.heap.size w w'
variable{g cap:Nat}
theorem Vv{w2:World}{n':Nat}{v':Value}{xs:List Value}(d:F0 w1 base v' n')(f:∀q,v.ownBlock=some q->v'.ownBlock≠some q)
 (a:w2.ownsRow base 41 8 (.slice (some ⟨g,0,none⟩) (n+1) cap) (n+1) xs) (i:w1.grownBy w2 v.ownBlock) (c:v.ownBlock=some g\/g=w1.heap.size) :
 F0 w2 base (.slice (some ⟨g,0,none⟩) (n+1) cap) (n+1)/\F0 w2 base v' n'/\(∀q,(Value.slice (some ⟨g,0,none⟩) (n+1) cap).ownBlock=some q->v'.ownBlock≠some q):=by
 refine⟨⟨xs,a⟩,d.AD i (fun q b e=>f q e b),fun q b e=>?_⟩;simp only[Value.ownBlock,Option.some.injEq]at b;subst b;rcases c with h | h
 ·exact f _ h e
 ·have:=(d.lt e).2;omega
theorem zC2(v:Value)(lo hi:Nat)(W:A6)(name:ByteArray)(T:Nat)(w:World)(h:EE w lo hi v W.pn W.A3)(hn:W.pn<=20)(hT:w.cell? ⟨T,0,none⟩=some (.string name)) :
 Calls Tryz.prog 165 #[v,.func (.func 166) #[] #[.pointer (some ⟨T,0,none⟩)]] w fun e w'=>∃a c Z,e = .returned (.tuple #[.slice a (ownN W name W.pn) c,Z])/\Below w.heap.size w w':=by
 have Hp:=A4 h;have HT:=A4 hT;obtain⟨m1,a,c,rfl,mc,-⟩:=id h;unfold maxLen at m1;clear h hT;obtain⟨i0,K,D⟩:=Option.map_eq_some_iff.1 zI;simp only[Prod.mk.injEq]at D;have u:=A4 (And.intro K D);clear K D;have aB:∀(fn:Fn) (first cap:Array Value) (w:World),(Instr.makeFunc fn first cap).run Tryz.prog w = .ok (.func fn first cap) w:=fun _ _ _ _=>rfl
 go_enter Tryz.func165,Tryz.ntmps165;go_wp2
 go_loopw [6,7,12] (fun vy Z i wr=>∃k:Nat,k<=W.pn/\i=A0 k/\zId w wr vy Z (ownN W name k) (k - ownN W name k)) (fun _ _ i _=>W.pn - (intOf i).toNat)
 case atStart=>exact⟨0,Nat.zero_le _,rfl,⟨[],World.ownsRow_nil _ _ _ _⟩,⟨[],World.ownsRow_nil _ _ _ _⟩,fun q l=>by simp[Value.ownBlock]at l,Below.refl _ _⟩
 case round=>
  obtain⟨k,hk,rfl,hy,ho,J,U⟩:=hrel;have Q:=A4 hy;have Ho:=A4 ho;have F:=A4 J;have eA:=NW W name k;clear hy ho J;by_cases V:k<W.pn
  ·have fA:(k:Int)<(W.pn:Int):=(by omega);obtain⟨b,off,vd,rfl,f⟩:=(Hp.out.A1 U).cells V;obtain⟨-,A,B,rfl,-,-⟩:=id f.dead;have t:=AB wr (.cells #[A0 (W.A3 k).id,.string (W.A3 k).name,.string (W.A3 k).set,A0 (W.A3 k).A8,A0 (W.A3 k).time,A0 (W.A3 k).rs,A0 (W.A3 k).rb,.slice A (W.A3 k).dn B] 41);have N:=A4 (DX.new wr (A0 (W.A3 k).id) (.string (W.A3 k).name) (.string (W.A3 k).set) (A0 (W.A3 k).A8) (A0 (W.A3 k).time) (A0 (W.A3 k).rs) (A0 (W.A3 k).rb) (.slice A (W.A3 k).dn B) 41);have C:=A9 U t;have E:=A4 ((C.cell (p:=⟨T,0,none⟩) (AV HT.out)).trans HT.out);have q0:=f.c0;have q1:=f.c1;have q2:=f.c2;have q3:=f.c3;have q4:=f.c4;have q5:=f.c5;have q6:=f.c6;have q7:=f.c7;obtain⟨⟨⟨y0,-⟩,⟨y1,-⟩,⟨y2,-⟩,⟨y3,-⟩⟩,⟨y4,-⟩,⟨y5,-⟩,⟨y6,-⟩,⟨y7,-⟩⟩:=N.out;clear f;go_wp2_with fail;clear q0 q1 q2 q3 q4 q5 q6 q7 y0 y1 y2 y3 y4 y5 y6 y7;refine(zDo A B (W.A3 k) name T _ E.out).mono ?_;rintro e M ⟨⟨s,rfl,hs⟩,n⟩;have R:=A4 ((Q.out.A1 t).A1 n);have P:=A4 ((Ho.out.A1 t).A1 n);have O:=A4 (N.out.A1 n);have I:=A9 C n;clear n C t Q Ho N E;have bB:=I.size;obtain⟨⟨⟨y0,-⟩,⟨y1,-⟩,⟨y2,-⟩,⟨y3,-⟩⟩,⟨y4,-⟩,⟨y5,-⟩,⟨y6,-⟩,⟨y7,-⟩⟩:=O.out;have o:=AB M (.cells #[A0 (W.A3 k).id,.string (W.A3 k).name,.string (W.A3 k).set,A0 (W.A3 k).A8,A0 (W.A3 k).time,A0 (W.A3 k).rs,A0 (W.A3 k).rb,.slice A (W.A3 k).dn B] 41);have z:=A4 (R.out.A1 o);have x:=A4 (P.out.A1 o);have r:=A9 I o;have cB:=o.size;have HN:=A4 (World.news_of_block (heap_alloc_last M (.cells #[A0 (W.A3 k).id,.string (W.A3 k).name,.string (W.A3 k).set,A0 (W.A3 k).A8,A0 (W.A3 k).time,A0 (W.A3 k).rs,A0 (W.A3 k).rb,.slice A (W.A3 k).dn B] 41)));clear o;by_cases l:(W.A3 k).set=name
   ·obtain rfl:s=true:=hs.2 l;have H:=A4 (No l);clear hs l;obtain⟨xs,g⟩:=z.out;have y:=A4 g;clear g;go_wp2_with (first
     | (at_builtin;refine wpList_append_lies _ rfl _ _ 28 rfl w.heap.size 41 i0 (.agg #[A0 0,.string ⟨#[]⟩,.string ⟨#[]⟩,A0 0,A0 0,A0 0,A0 0,A5]) 8 96 (by kernel_rfl) u.out.1 u.out.2.1 u.out.2.2.1 u.out.2.2.2 rfl (by decide) _ _ _ rfl y.out ⟨M.heap.size,0,none⟩ 1 1 [A0 (W.A3 k).id,.string (W.A3 k).name,.string (W.A3 k).set,A0 (W.A3 k).A8,A0 (W.A3 k).time,A0 (W.A3 k).rs,A0 (W.A3 k).rb,.slice A (W.A3 k).dn B] rfl rfl HN.out (by simp[Value.oneCell']) (by decide) (by unfold maxLen;omega) (by omega) (by omega) _ rfl ?_;intro g' G w4 j d m L)
     | go_in)
    go_roundw
    case rel=>
     obtain⟨r1,X,Y⟩:=Vv x.out F.out j d m;refine⟨k+1,by omega,by go_num,by rw[H.out];exact r1,?_,Y,r.grown d r.size (fun q l=>(z.out.lt l).1)⟩;rw[H.out,show k+1 - (ownN W name k+1)=k - ownN W name k by omega];exact X
    case measure=>simp[intOf];omega
   ·obtain rfl:s=false:=BQ hs l;have H:=A4 (NX l);clear hs l;obtain⟨xs,g⟩:=x.out;have y:=A4 g;clear g;go_wp2_with (first
     | (at_builtin;refine wpList_append_lies _ rfl _ _ 28 rfl w.heap.size 41 i0 (.agg #[A0 0,.string ⟨#[]⟩,.string ⟨#[]⟩,A0 0,A0 0,A0 0,A0 0,A5]) 8 96 (by kernel_rfl) u.out.1 u.out.2.1 u.out.2.2.1 u.out.2.2.2 rfl (by decide) _ _ _ rfl y.out ⟨M.heap.size,0,none⟩ 1 1 [A0 (W.A3 k).id,.string (W.A3 k).name,.string (W.A3 k).set,A0 (W.A3 k).A8,A0 (W.A3 k).time,A0 (W.A3 k).rs,A0 (W.A3 k).rb,.slice A (W.A3 k).dn B] rfl rfl HN.out (by simp[Value.oneCell']) (by decide) (by unfold maxLen;omega) (by omega) (by omega) _ rfl ?_;intro g' G w4 j d m L)
     | go_in)
    go_roundw
    case rel=>
     obtain⟨r1,X,Y⟩:=Vv z.out (fun q h S=>F.out q S h) j d m;refine⟨k+1,by omega,by go_num,by rw[H.out];exact X,?_,fun q h S=>Y q S h,r.grown d r.size (fun q l=>(x.out.lt l).1)⟩;rw[H.out,show k+1 - ownN W name k=k - ownN W name k+1 by omega];exact r1
    case measure=>simp[intOf];omega
  ·obtain rfl:k=W.pn:=(by omega);obtain⟨xs,g⟩:=Q.out;obtain⟨ay,cy,rfl,-⟩:=Bw g;clear g;go_wp2
   go_ret2
   exact⟨ay,cy,_,rfl,U⟩
variable{W:A6}{name:ByteArray}
theorem zT(a:name.toList.isEmpty=false)(y:Int):(AI W y).set=name↔F5 W name y:=by
 constructor
 ·intro h;by_cases c:∃k,BW W y k
  ·obtain⟨k,b⟩:=c;rw[DW b]at h;exact⟨k,b,h⟩
  ·have e:AI W y=DL:=(by unfold AI;rw[dif_neg c]);rw[e]at h;rw[<-h]at a;have d:DL.set.toList = []:=(by rw[Go.ByteArray.toList_eq];rfl);rw[d]at a;exact absurd a (by decide)
 ·rintro⟨k,b,h⟩;rw[DW b];exact h
variable{start y:Int}
theorem EZ.wf(h:EZ W name start n y):(Lit.int .i64 y).wf=true:=by
 have a:=h.least;have b:=h.sum;exact WalkArith.wf_i64 (by omega)
theorem zCc(r v1 s o:Value)(lo hi:Nat)(W:A6)(A:Nat)(Q:Option Addr)(sc:Nat)(S:Ab)(w:World)(h:C7 w lo hi r v1 s o W)(V:W.pn<=20)(hA:G3 w lo hi W A)(hD:Hj W)(hP:G0 W)(O:S.name.toList.isEmpty=false)(hS:S.A8=0\/CK W S.A8) :
 Calls Tryz.prog 128 #[Cc r v1 s o W,Fm (.slice Q S.dn sc) S,KK A] w fun e w'=>AJ (FA W S.name S.A8 S.origin) e/\Below w.heap.size w w':=by
 unfold Fm;have Hp:=A4 h;have HA:=A4 hA;have HD:=A4 hD;have HP:=A4 hP;have p:=A4 (zT (W:=W) O);have dA:=A4 hS;clear h hA hD hP O hS;have kB:∀(fn:Fn) (first cap:Array Value) (w:World),(Instr.makeFunc fn first cap).run Tryz.prog w = .ok (.func fn first cap) w:=fun _ _ _ _=>rfl
 have ha:=AB w (.cells #[r,v1,A0 W.time,A0 W.next,s,o] 30);have hB:=At.new w r v1 (A0 W.time) (A0 W.next) s o 30;have hz:(w.alloc (.cells #[r,v1,A0 W.time,A0 W.next,s,o] 30)).heap.size=w.heap.size+1:=World.size_alloc _ _;have B:=AB (w.alloc (.cells #[r,v1,A0 W.time,A0 W.next,s,o] 30)) (.cells #[.string S.name,A0 S.origin,A0 S.A8,A0 S.rs,A0 S.rb,.slice Q S.dn sc] 46);have E:=At.new (w.alloc (.cells #[r,v1,A0 W.time,A0 W.next,s,o] 30)) (.string S.name) (A0 S.origin) (A0 S.A8) (A0 S.rs) (A0 S.rb) (.slice Q S.dn sc) 46;rw[hz]at E;have d:=A4 E;have l:=A9 ha B;obtain⟨x0,x2,x4,x6,x8,kA⟩:=(hB.A1 B).c;clear E ha B hB;go_enter Tryz.func128,Tryz.ntmps128;go_wp2_with fail;clear x0 x2 x4 x6 x8 kA;generalize (w.alloc (.cells #[r,v1,A0 W.time,A0 W.next,s,o] 30)).alloc (.cells #[.string S.name,A0 S.origin,A0 S.A8,A0 S.rs,A0 S.rb,.slice Q S.dn sc] 46)=W0 at d l ⊢;refine(zC2 o lo hi W S.name (w.heap.size+1) W0 (Hp.out.A3.A1 l) V d.out.1.1).mono ?_;rintro e w1 ⟨ay,cy,vo,rfl,C⟩;have t:=A4 (d.out.A1 C);have L:=A9 l C;have mB:=NW W S.name W.pn;clear d l C hz;obtain⟨⟨Y,-⟩,⟨Z,-⟩,⟨y2,-⟩,-⟩:=t.out;go_wp2;clear Y Z y2;generalize w.heap.size+1=T at *
 go_loopw [9,10] (fun x i wr=>∃(n:Nat) (y:Int),i=A0 n/\x=A0 y/\EZ W S.name S.A8 n y/\At wr T (.string S.name) (A0 S.origin) (A0 S.A8) (A0 S.rs) (A0 S.rb) (.slice Q S.dn sc)/\Below w.heap.size w wr) (fun x _ _=>(intOf x).toNat)
 case atStart=>exact⟨0,_,rfl,rfl,EZ.start HP.out _ dA.out,t.out,L⟩
 case round=>
  clear t L;obtain⟨n,y,rfl,rfl,P,E,M⟩:=hrel;have d:=A4 E;have Hw:=A4 P;have v:=A4 P.wf;have bB:=P.sum;have jB:=P.least;clear E P;have j:=A4 (HA.out.A1 M);obtain⟨⟨Y,-⟩,⟨Z,-⟩,-⟩:=d.out;by_cases F:(AI W y).set=S.name
  ·obtain⟨X,f,N⟩:=(p.out y).1 F;have I:=A4 (Hw.out.next HP.out f N);have fA:=A4 (show(W.A3 X).A8<y by have q:=HP.out.less X f.1;have z:=f.2.1;omega);have iA:=A4 (show(AI W y).A8=(W.A3 X).A8 by rw[DW f]);have Hq:=A4 F;clear f N F;go_wp2_with fail;go_region_held3 (fun w'=>w'.cell? ⟨T,0,none⟩=some (.string S.name)) (go_keep)
    (first | (go_at_call 126;refine(Jo lo hi W A y _ ?_ HD.out v.out V).mono ?_;(exact j.out.A1 (Below.refl _ _).drew);rintro e w6 ⟨R,U,rfl,g,a⟩;have m:=fun w=>(show(Instr.field 41 (DI (.slice R (AI W y).dn U) (AI W y)) 2).run Tryz.prog w = .ok (.string S.name) w by rw[<-Hq.out];exact(ON (.slice R (AI W y).dn U) (AI W y) w).2.1);obtain⟨⟨z0,_⟩,_⟩:=d.out.A1 (Cp a)))
   have k:=A4 (d.out.A1 (Cp a));have b:=RC M a;have G:=A4 (HA.out.A1 b);have lB:(n:Int)<1000000:=(by omega);clear a g m z0 Y Z d j M;go_wp2_with fail;refine(Jo lo hi W A y _ G.out HD.out v.out V).mono ?_;rintro e w7 ⟨J,K,rfl,g,D⟩;have m:=fun w=>(show(Instr.field 41 (DI (.slice J (AI W y).dn K) (AI W y)) 3).run Tryz.prog w = .ok (A0 (W.A3 X).A8) w by rw[<-iA.out];exact(ON (.slice J (AI W y).dn K) (AI W y) w).2.2.1)
   have eA:=A4 (k.out.A1 D);have jA:=A9 b D;clear g D k b G;go_wp2;go_roundw
   case rel=>exact⟨n+1,_,by go_num,rfl,I.out,eA.out,jA⟩
   case measure=>simp[intOf];have:=fA.out;have:=I.out.least;omega
  ·have gA:=A4 (fun h=>F ((p.out y).2 h));have f1:=N3 F;clear F;go_wp2_with fail;go_region_held3 (fun w'=>w'.cell? ⟨T,0,none⟩=some (.string S.name)) (go_keep)
    (first | (go_at_call 126;refine(Jo lo hi W A y _ ?_ HD.out v.out V).mono ?_;(exact j.out.A1 (Below.refl _ _).drew);rintro e w6 ⟨R,U,rfl,g,a⟩;have m:=fun w=>(ON (.slice R (AI W y).dn U) (AI W y) w).2.1;obtain⟨⟨z0,_⟩,_⟩:=d.out.A1 (Cp a)))
   have k:=A4 (d.out.A1 (Cp a));have b:=RC M a;clear a g m z0 Y Z d j M f1;obtain⟨⟨z0,-⟩,⟨z1,-⟩,-⟩:=k.out;have u:=A4 (Up (origin:=S.origin) Hw.out.steps gA.out);by_cases q:n=ownN W S.name W.pn
   ·by_cases z:y=S.origin
    ·have H:=A4 (u.out.2 ⟨q,z⟩);have g1:((n:Int) == (ownN W S.name W.pn:Int))=true:=(by simp[q]);have g2:(y == S.origin)=true:=(by simp[z]);clear q z;go_wp2;go_ret;exact⟨AJ.yes H.out,b⟩
    ·have H:=A4 (fun h=>z (u.out.1 h).2);have g1:((n:Int) == (ownN W S.name W.pn:Int))=true:=(by simp[q]);have g2:(y == S.origin)=false:=(by simp[z]);clear q z;go_wp2;go_ret;exact⟨AJ.no H.out,b⟩
   ·have H:=A4 (fun h=>q (u.out.1 h).1);have h3:¬(n:Int)=(ownN W S.name W.pn:Int):=(by omega);have g1:((n:Int) == (ownN W S.name W.pn:Int))=false:=(by simp[h3]);clear q h3;go_wp2;go_ret;exact⟨AJ.no H.out,b⟩
theorem zCy(r v1 T s:Value)(lo hi:Nat)(W:A6)(A:Nat)(w:World)(h:C7 w lo hi r v1 T s W)(Y:W.pn<=20)(hs:W.sn<=8)(q:G3 w lo hi W A)(O:Hj W)(P:G0 W) :
 Calls Tryz.prog 67 #[Cc r v1 T s W,KK A] w fun e w'=>AJ (∀i,i<W.sn->FA W (W.A2 i).name (W.A2 i).A8 (W.A2 i).origin) e/\Below w.heap.size w w':=by
 have N:=A4 h;have U:=A4 q;have V:=A4 O;have z:=A4 P;obtain⟨Z,D,c',rfl,aA,-⟩:=id h.A2;unfold maxLen at Z;clear h q O P;have R:=AB w (.cells #[r,v1,A0 W.time,A0 W.next,.slice D W.sn c',s] 30);have y:=A4 (At.new w r v1 (A0 W.time) (A0 W.next) (.slice D W.sn c') s 30);obtain⟨G,H,I,J,K,p⟩:=y.out.c;go_enter Tryz.func67,Tryz.ntmps67;go_wp2;clear G H I J K p
 go_loopw [10] (fun i wr=>∃k:Nat,k<=W.sn/\i=A0 k/\(∀j,j<k->FA W (W.A2 j).name (W.A2 j).A8 (W.A2 j).origin)/\At wr w.heap.size r v1 (A0 W.time) (A0 W.next) (.slice D W.sn c') s/\Below w.heap.size w wr) (fun i _=>W.sn - (intOf i).toNat)
 case atStart=>exact⟨0,Nat.zero_le _,rfl,fun j X=>absurd X (Nat.not_lt_zero _),y.out,R⟩
 case round=>
  clear y R;obtain⟨k,hk,rfl,l,Q,x⟩:=hrel;have g:=A4 l;have M:=A4 Q;clear l Q;by_cases d:k<W.sn;rotate_left
  ·obtain rfl:k=W.sn:=(by omega);go_wp2;go_ret;exact⟨AJ.yes g.out,x⟩
  have S:(k:Int)<(W.sn:Int):=(by omega);obtain⟨b,off,vd,rfl,a⟩:=(N.out.A2.A1 x).cells d;obtain⟨-,E,F,rfl,-,-⟩:=id a.dead;have o:=AB wr (.cells #[.string (W.A2 k).name,A0 (W.A2 k).origin,A0 (W.A2 k).A8,A0 (W.A2 k).rs,A0 (W.A2 k).rb,.slice E (W.A2 k).dn F] 46);have L:=A4 (At.new wr (.string (W.A2 k).name) (A0 (W.A2 k).origin) (A0 (W.A2 k).A8) (A0 (W.A2 k).rs) (A0 (W.A2 k).rb) (.slice E (W.A2 k).dn F) 46);have m:=A4 (M.out.A1 o);have f:=A9 x o;have q0:=a.c0;have q1:=a.c1;have q2:=a.c2;have q3:=a.c3;have q4:=a.c4;have q5:=a.c5;obtain⟨y0,y1,y2,y3,y4,y5⟩:=L.out.c;obtain⟨G,H,I,J,K,p⟩:=m.out.c;clear a o;go_wp2_with fail;clear q0 q1 q2 q3 q4 q5 y0 y1 y2 y3 y4 y5 G H I J K p M x L;refine(zCc r v1 _ s lo hi W A E F (W.A2 k) _ (N.out.A1 f) Y (U.out.A1 f) V.out z.out (z.out.Aq k d) (z.out.A2 k d)).mono ?_;rintro e w6 ⟨⟨t6,rfl,u⟩,n⟩;have B:=A4 (m.out.A1 n);have t:=A9 f n;have v:=A4 u;clear u n f m;cases t6
  ·have C:=A4 (show ¬FA W (W.A2 k).name (W.A2 k).A8 (W.A2 k).origin from fun q=>absurd (v.out.2 q) (by simp));clear v;go_wp2;go_ret;exact⟨AJ.no fun q=>C.out (q k d),t⟩
  ·have C:=A4 (v.out.1 rfl);clear v;go_wp2;go_roundw
   case rel=>exact⟨k+1,by omega,by go_num,Br d g.out C.out,B.out,t⟩
   case measure=>simp[intOf];omega
structure Eo (W:A6):Prop where
 time:Jb W.time 1 900000
 next:Jb W.next 1 900000
 A2:qX W.sn W.A2
 A3:ZZ W
structure DE (W:A6):Prop where
 Aq:Eo W
 right:AZ W.pool
 prevs:∀i,i<memN W->JO W i
 lines:∀i,i<W.sn->FA W (W.A2 i).name (W.A2 i).A8 (W.A2 i).origin
 trees:Za W
 homes:Lh W
theorem Eo.range(h:Eo W):∀i,i<W.pn->1<=(W.A3 i).id/\(W.A3 i).id<W.next/\1<=(W.A3 i).time/\(W.A3 i).time<W.time
 | 0,hi=>by
  have:=(h.A3.2.1 0 hi).2.2.2;have a:Mid 0 (W.A3 0).id W.next:=this.1;have b:Mid 0 (W.A3 0).time W.time:=this.2;have c:=a.1;have d:=a.2;have e:=b.1;have f:=b.2;omega
 | i+1,hi=>by
  have g:=h.range i (by omega);have:=(h.A3.2.1 (i+1) hi).2.2.2;have a:Mid (W.A3 i).id (W.A3 (i+1)).id W.next:=this.1;have b:Mid (W.A3 i).time (W.A3 (i+1)).time W.time:=this.2;have c:=a.1;have d:=a.2;have e:=b.1;have f:=b.2;omega
theorem Eo.rise(h:Eo W):∀i,i<W.pn->∀j,j<i->(W.A3 j).id<(W.A3 i).id
 | 0,_,j,hj=>absurd hj (Nat.not_lt_zero _)
 | i+1,hi,j,hj=>by
  have b:Mid (W.A3 i).id (W.A3 (i+1)).id W.next:=(h.A3.2.1 (i+1) hi).2.2.2.1;have a:=b.1;by_cases e:j=i
  ·subst e;exact a
  ·have:=h.rise i (by omega) j (by omega);omega
theorem Eo.dist(h:Eo W):Hj W:=fun i hi j a e=>by have:=h.rise i hi j a;omega
theorem Eo.idsWf(h:Eo W):Mo W.pn W.A3:=fun i hi=>by
 have a:=h.range i hi;have b:=h.next.2;exact WalkArith.wf_i64 (by omega)
theorem Eo.times(h:Eo W):Q1 W:=fun x=>by
 by_cases b:∃k,BW W x k
 ·obtain⟨k,a⟩:=b;rw[DW a];have c:=h.range k a.1;have d:=h.time.2;exact⟨by omega,by omega⟩
 ·have:AI W x=DL:=(by unfold AI;rw[dif_neg b]);rw[this];exact⟨Int.le_refl _,by decide⟩
variable{i:Nat}
theorem QB(c:NL W):JO W i↔((AA W i).A8=0\/CK W (AA W i).A8):=by
 unfold JO;constructor
 ·intro h;by_cases b:∃k,BW W (AA W i).A8 k
  ·obtain⟨k,a⟩:=b;exact Or.inr ⟨k,a.1,a.2.1⟩
  ·have e:AI W (AA W i).A8=DL:=(by unfold AI;rw[dif_neg b]);rw[e]at h;exact Or.inl h.symm
 ·rintro(h | h)
  ·rw[h,RB (fun k a e=>by have:=c k a;omega)];rfl
  ·obtain⟨k,a⟩:=h.no;rw[DW a];exact a.2.1
theorem Eo.ER(h:Eo W)(b:∀i,i<memN W->JO W i):G0 W where
 ids:=fun k a=>by have c:=h.range k a;have d:=h.next.2;omega
 A8:=fun k a=>by
  have:=(QB (fun k a=>(h.range k a).1)).1 (b k (by unfold memN;omega));rw[CH a]at this;exact this
 less:=fun k a=>(h.A3.2.1 k a).2.2.1
 A2:=fun k a=>by
  have:=(QB (fun k a=>(h.range k a).1)).1 (b (W.pn+k) (by unfold memN;omega));rw[C4]at this;exact this
 Aq:=fun k a=>Rj (h.A2.2 k a).1
theorem zBG(h:G0 W)(hs:start=0\/CK W start):∀{n:Nat} {e:Int},Steps W name start n e->(e=0\/CK W e)
 | 0,_,.zero=>hs
 | n+1,_,.next (k:=k) _ hk _=>h.A8 k hk.1
variable{f:Nat->Ab}
theorem Xj(hn:BX (f i).name):Cd (Fv f i) (f i).name↔(0<i->Cd (f (i - 1)).name (f i).name):=by
 cases i with
 | zero=>
  refine⟨fun _ h=>absurd h (by omega),fun _=>?_⟩;have b:=Rj hn;unfold Cd Fv;have c:(⟨#[]⟩:ByteArray).toList = []:=(by rw[Go.ByteArray.toList_eq]);rw[c];cases hl:(f 0).name.toList with
  | nil=>rw[hl]at b;exact absurd b (by decide)
  | cons a l=>simp[Op.bytesLess]
 | succ i=>exact⟨fun h _=>h,fun h=>h (by omega)⟩
theorem Qy(W:A6):DE W↔B4 W:=by
 constructor
 ·intro h;have a:=h.Aq.ER h.prevs;have q:DD W:=by
   refine⟨h.Aq.time,h.Aq.next,h.Aq.A2.1,h.Aq.A3.1,fun i hi=>?_,fun i hi=>?_⟩
   ·have hs:=h.Aq.A2.2 i hi;refine⟨hs.1,(Xj hs.1).1 hs.2,fun d=>(a.A2 i hi).resolve_left d,fun d=>?_⟩;obtain⟨n,e,p,_,_,rfl⟩:=h.lines i hi;exact(zBG a (a.A2 i hi) p).resolve_left d
   ·have hs:=h.Aq.A3.2.1 i hi;have l:=h.Aq.range i hi;refine⟨⟨l.1,l.2.1,l.2.2.1,l.2.2.2,hs.2.1,hs.1⟩,⟨fun r=>?_,fun d=>⟨hs.2.2.1,(a.A8 i hi).resolve_left d⟩⟩,fun k o=>h.Aq.A3.2.2 i hi k o⟩;cases i with
    | zero=>omega
    | succ i=>exact⟨hs.2.2.2.1.1,hs.2.2.2.2.1⟩
  have b:EV W:=Nw h.right q (fun i hi=>by have:=h.trees.1 i (by unfold memN;omega);rw[CH hi]at this;exact this) (fun i hi=>by have:=h.trees.1 (W.pn+i) (by unfold memN;omega);rw[C4]at this;exact this);have c:∀i,i<memN W->K7 W (AA W i):=fun i hi=>(Xw b hi).1 (h.trees.2 i hi)
  have f:=(XY b (fun j m=>by have:=a.pos j m;omega) c).1 h.homes;exact⟨h.right,q,h.lines,fun i hi=>b.snap hi,fun i hi=>⟨b.set hi,(c (W.pn+i) (by unfold memN;omega)).1⟩,fun i hi=>(c i (by unfold memN;omega)).1,f.1,fun i hi=>(c i hi).2,f.2⟩
 ·intro h;have a:=h.Aq.ER;have b:EV W:=Nw h.right h.Aq h.A3 (fun i hi=>(h.A2 i hi).1);have c:∀i,i<memN W->K7 W (AA W i):=fun i hi=>by
   refine⟨?_,h.born i hi⟩;by_cases g:i<W.pn
   ·exact h.dead i g
   ·have:=(h.A2 (i - W.pn) (by unfold memN at hi;omega)).2;rw[show W.pn+(i - W.pn)=i by omega]at this;exact this
  have f:=(XY b (fun j m=>by have:=a.pos j m;omega) c).2 ⟨h.reach,h.Bn⟩;refine⟨⟨h.Aq.1,h.Aq.2.1,⟨h.Aq.2.2.1,fun i hi=>?_⟩,⟨h.Aq.2.2.2.1,fun i hi=>?_,fun i hi k o=>(h.Aq.2.2.2.2.2 i hi).2.2 k o⟩⟩,h.right,fun i hi=>?_,h.lines,⟨b.tree,fun i hi=>(Xw b hi).2 (c i hi)⟩,f⟩
  ·have hs:=h.Aq.2.2.2.2.1 i hi;exact⟨hs.1,(Xj hs.1).2 hs.2.1⟩
  ·have hs:=h.Aq.2.2.2.2.2 i hi;refine⟨hs.1.2.2.2.2.2,hs.1.2.2.2.2.1,a.less i hi,?_,?_⟩
   ·cases i with
    | zero=>exact⟨by have:=hs.1.1;show(0:Int)<_;omega,hs.1.2.1⟩
    | succ i=>exact⟨(hs.2.1.1 (by omega)).1,hs.1.2.1⟩
   ·cases i with
    | zero=>exact⟨by have:=hs.1.2.2.1;show(0:Int)<_;omega,hs.1.2.2.2.1⟩
    | succ i=>exact⟨(hs.2.1.1 (by omega)).2,hs.1.2.2.2.1⟩
  ·refine(QB a.pos).2 ?_;by_cases g:i<W.pn
   ·rw[CH g];exact a.A8 i g
   ·have e:=C4 W (i - W.pn);rw[show W.pn+(i - W.pn)=i by omega]at e;rw[e];exact a.A2 _ (by unfold memN at hi;omega)
def Jx(w:World)(b:Nat)(v0 v1 v2 v3 v4 v5 v6 v7:Value):Prop:=AO w b 0 v0/\AO w b 1 v1/\AO w b 2 v2/\AO w b 3 v3/\AO w b 4 v4/\AO w b 5 v5/\AO w b 6 v6/\AO w b 7 v7
variable{w':World}{b:Nat}{v0 v1 v2 v3 v4 v5 v6 v7:Value}
theorem Jx.A1(h:Jx w b v0 v1 v2 v3 v4 v5 v6 v7)(t:Below w.heap.size w w'):Jx w' b v0 v1 v2 v3 v4 v5 v6 v7:=⟨h.1.A1 t,h.2.1.A1 t,h.2.2.1.A1 t,h.2.2.2.1.A1 t,h.2.2.2.2.1.A1 t,h.2.2.2.2.2.1.A1 t,h.2.2.2.2.2.2.1.A1 t,h.2.2.2.2.2.2.2.A1 t⟩
theorem Jx.new(w:World)(b v1 c d e f g h:Value)(t:TypeId):Jx (w.alloc (.cells #[b,v1,c,d,e,f,g,h] t)) w.heap.size b v1 c d e f g h:=by
 have a:(w.alloc (.cells #[b,v1,c,d,e,f,g,h] t)).heap[w.heap.size]?=some (.cells #[b,v1,c,d,e,f,g,h] t):=heap_alloc_new _ _;exact⟨Az a rfl,Az a rfl,Az a rfl,Az a rfl,Az a rfl,Az a rfl,Az a rfl,Az a rfl⟩
def UT:Ab:=⟨⟨#[]⟩,0,0,0,0,0,fun _=>0,fun _=>0⟩
variable{p:A7}{xs:Int}{j:Nat}
theorem Ub(b:j<=p.hn):Has j (CQ p xs).h y↔Has j p.h y:=by
 constructor
 ·rintro⟨k,a,e⟩;exact⟨k,a,by rw[<-e];exact(if_neg (by omega:¬k=p.hn)).symm⟩
 ·rintro⟨k,a,e⟩;exact⟨k,a,by rw[<-e];exact if_neg (by omega:¬k=p.hn)⟩
variable{xb:Int}
theorem zu(c:AZ p)(b:B8 p xs xb)(m:¬Has p.hn p.h xs):AZ (CQ p xs):=by
 refine⟨c.1,fun j d=>c.2.1 j d,fun j d=>?_⟩;by_cases e:j=p.hn
 ·subst e;have a:(CQ p xs).h p.hn=xs:=if_pos rfl;refine⟨?_,?_,?_,?_⟩
  ·rw[a];exact b.2.1
  ·rw[a];exact b.2.2.1
  ·rw[a];intro n;have g:=b.2.2.2;have o:(p.s xs.toNat).birth=0:=n.1;have:=b.1;omega
  ·rw[a,Ub (Nat.le_refl _)];exact m
 ·have f:j<p.hn:=(by have:j<p.hn+1:=d;omega);have a:(CQ p xs).h j=p.h j:=if_neg e;obtain⟨i,k,l,g⟩:=c.2.2 j f;refine⟨?_,?_,?_,?_⟩
  ·rw[a];exact i
  ·rw[a];exact k
  ·rw[a];exact l
  ·rw[a,Ub (by omega)];exact g
def BJ(p:A7):List (Int×Int)->A7
 | []=>p
 | x :: l=>BJ (CQ p x.1) l
def CT(p:A7)(l:List (Int×Int)):Prop:=AZ p/\(∀x,x∈l->B8 p x.1 x.2/\¬Has p.hn p.h x.1)/\(l.map Prod.fst).Nodup
theorem XU(h:Has (p.hn+1) (CQ p xs).h y):Has p.hn p.h y\/y=xs:=by
 obtain⟨j,b,e⟩:=h;by_cases a:j=p.hn
 ·right;rw[<-e,a];exact if_pos rfl
 ·left;exact⟨j,by omega,by rw[<-e];exact(if_neg a).symm⟩
variable{l:List (Int×Int)}
theorem CT.head{x:Int×Int}(h:CT p (x :: l)):JL p x.1 x.2=⟨CQ p x.1,0,0,0⟩/\CT (CQ p x.1) l:=by
 obtain⟨d,f,a⟩:=h;obtain⟨b,c⟩:=f x List.mem_cons_self;rw[List.map_cons,List.nodup_cons]at a;refine⟨Sq d b c,zu d b c,fun y g=>?_,a.2⟩;obtain⟨j,k⟩:=f y (List.mem_cons_of_mem _ g);refine⟨j,fun i=>?_⟩;rcases XU i with e | e
 ·exact k e
 ·exact a.1 (e▸List.mem_map_of_mem g)
theorem CT.cut{l':List (Int×Int)}:∀{l:List (Int×Int)} {p:A7},CT p (l ++ l')->CT (BJ p l) l'
 | [],_,h=>h
 | x :: l,p,h=>CT.cut (l:=l) (p:=CQ p x.1) (CT.head (p:=p) (x:=x) (l:=l ++ l') h).2
theorem Ot(x:Int×Int):∀(l:List (Int×Int)) (p:A7),BJ p (l ++ [x])=CQ (BJ p l) x.1
 | [],_=>rfl
 | y :: l,p=>Ot x l (CQ p y.1)
theorem EQ:∀(l:List (Int×Int)) (p:A7),(BJ p l).n=p.n/\(BJ p l).s=p.s/\(BJ p l).hn=p.hn+l.length
 | [],_=>⟨rfl,rfl,rfl⟩
 | y :: l,p=>by
  obtain⟨a,b,c⟩:=EQ l (CQ p y.1);refine⟨a,b,?_⟩;show(BJ (CQ p y.1) l).hn=_;rw[c,List.length_cons];show p.hn+1+l.length=_;omega
theorem CT.next(h:CT p l)(hi:i<l.length):JL (BJ p (l.take i)) l[i].1 l[i].2=⟨BJ p (l.take (i+1)),0,0,0⟩/\AZ (BJ p (l.take i)):=by
 have e:l=l.take i ++ l[i] :: l.drop (i+1):=by
  rw[List.getElem_cons_drop,List.take_append_drop]
 have a:CT (BJ p (l.take i)) (l[i] :: l.drop (i+1)):=CT.cut (l:=l.take i) (by rw[<-e];exact h);refine⟨?_,a.1⟩;rw[a.head.1,List.take_succ_eq_append_getElem hi,Ot]
theorem CT.last(h:CT p l):AZ (BJ p l):=(CT.cut (l:=l) (l':=[]) (by rw[List.append_nil];exact h)).1
theorem MD(f g:Nat->Int)(t:Int):∀k,(Bl f g t k).Sublist ((List.range k).map fun i=>(f i,g i))
 | 0=>List.Sublist.refl _
 | k+1=>by
  rw[List.range_succ,List.map_append,List.map_singleton];unfold Bl;split
  ·exact(MD f g t k).append (List.Sublist.refl _)
  ·exact(MD f g t k).trans (List.sublist_append_left _ _)
theorem CT.sub{l':List (Int×Int)}(h:CT p l)(hs:l'.Sublist l):CT p l':=⟨h.1,fun x a=>h.2.1 x (hs.subset a),List.Nodup.sublist (hs.map _) h.2.2⟩
variable{rs:Int}
theorem CT.tree{rb:Int}(a:AZ p)(b:B3 p rs rb):CT p (AG p rs rb):=by
 refine⟨a,fun x c=>?_,?_⟩
 ·have:=ED a b c;exact⟨this.1,this.2.2⟩
 ·rcases b with h | h
  ·rw[AG,if_pos h];exact List.nodup_nil
  ·exact h.2.2
def CN(w:World)(e:TypeId)(s:Nat)(v:Value)(n:Nat):Prop:=
 (n=0/\∃a,v = .slice a 0 0)\/(0<n/\∃g cap cur,v = .slice (some ⟨g,0,none⟩) n cap/\w.heap[g]?=some (.cells cur e (0,0))/\n<=cap/\cap<=maxLen/\cur.size=cap*s)
variable{e:TypeId}{s:Nat}{xs:List Value}
theorem J8(h:w.ownsRow base e s v n xs)(k:n=0->∃a,v = .slice a 0 0):CN w e s v n:=by
 rcases Nat.eq_zero_or_pos n with b | b
 ·exact Or.inl ⟨b,k b⟩
 ·rcases h.2 with h | ⟨g,cap,c,hv,_,j,d,f,i,_⟩
  ·omega
  ·exact Or.inr ⟨b,g,cap,c,hv,j,d,f,i⟩
theorem CN.A1(h:CN w e s v n)(t:Below w.heap.size w w'):CN w' e s v n:=by
 rcases h with h | ⟨c,g,cap,a,hv,b,d⟩
 ·exact Or.inl h
 ·exact Or.inr ⟨c,g,cap,a,hv,(t.block g (Array.getElem?_eq_some_iff.1 b).1).trans b,d⟩
theorem CN.kept(h:CN w e s v n)(i:w.grownBy w' row)(b:0<n->v.ownBlock≠row):CN w' e s v n:=by
 rcases h with h | ⟨c,g,cap,a,hv,d,f⟩
 ·exact Or.inl h
 ·exact Or.inr ⟨c,g,cap,a,hv,(i.block g (Array.getElem?_eq_some_iff.1 d).1 (fun e=>b c (by rw[hv];exact e))).trans d,f⟩
theorem zCm{c:Array Value}(h:w.heap[g]?=some (.cells c e (0,0)))(a:Addr)(u:Value):∃b,(w.setCell a u).heap[g]?=some (.cells b e (0,0))/\b.size=c.size:=by
 by_cases d:a.block=g
 ·subst d;unfold World.setCell;simp only[Array.getElem?_modify,h,if_true,Option.map_some];refine⟨_,rfl,?_⟩;split<;>simp
 ·refine⟨c,?_,rfl⟩;unfold World.setCell;simp only[Array.getElem?_modify,d,if_false,h]
theorem CN.set(h:CN w e s v n)(a:Addr)(u:Value):CN (w.setCell a u) e s v n:=by
 rcases h with h | ⟨f,g,cap,d,hv,l,i,j,k⟩
 ·exact Or.inl h
 ·obtain⟨b,c,hs⟩:=zCm l a u;exact Or.inr ⟨f,g,cap,b,hv,c,i,j,by rw[hs];exact k⟩
theorem CN.owns(h:CN w e s v n)(t:0<n)(q:xs.length=n*s)(o:∀g,v.ownBlock=some g->base<=g)
 (p:∀g,v.ownBlock=some g->∀j u,xs[j]?=some u->w.cell? ⟨g,j,none⟩=some u):w.ownsRow base e s v n xs:=by
 refine⟨q,?_⟩;rcases h with h | ⟨_,g,cap,a,hv,f,b,l,c⟩
 ·omega
 ·refine Or.inr ⟨g,cap,a,hv,o g (by rw[hv];rfl),f,b,l,c,?_⟩;have r:n*s<=a.size:=(by rw[c];exact Nat.mul_le_mul_right s b);refine List.ext_getElem? fun j=>?_
  rw[List.getElem?_take];by_cases i:j<n*s
  ·rw[if_pos i];have k:j<xs.length:=(by omega);have d:=p g (by rw[hv];rfl) j xs[j] (by rw[List.getElem?_eq_getElem k]);have m:w.cell? ⟨g,j,none⟩=a[j]?:=by
    simp[World.cell?,f]
   rw[m]at d;rw[List.getElem?_eq_getElem k,<-d,Array.getElem?_toList]
  ·rw[if_neg i,List.getElem?_eq_none (by omega)]
variable{P:Program}
theorem zD4(t ty e:TypeId)(i:TypeInfo)(a:Option Addr)(b:Addr)(m c:Nat)(k:P.underlying t=some (.slice e))(hi:P.info? e=some i)(j:0<m)(l:m*i.bytes<=140737488355328) :
 (Builtin.append_ #[t,t] ty #[.slice a 0 0,.slice (some b) m c]).run P w=(Builtin.append_ #[t,t] ty #[A5,.slice (some b) m c]).run P w:=by
 cases a with
 | none=>rfl
 | some a=>
  have d:¬m=0:=(by omega);have f:Builtin.nextslicecap m 0=m:=(by unfold Builtin.nextslicecap;simp[j]);have g:¬(281474976710656:Nat)<m*i.bytes:=(by omega);have h:∀w:World,(loadCells a 0).run P w = .ok #[] w:=fun w=>by first | rfl | simp[loadCells] | simp[loadCells,loadCellsFrom]
  simp[Builtin.append_,run_underlying k,sizeOf,typeInfo,hi,Builtin.lenOf,Builtin.firstCells,d,f,g,h]
theorem CN.append(t ty e:TypeId)(i:TypeInfo)(z:Value)(s bytes base:Nat)(H:P.underlying t=some (.slice e))(hi:P.info? e=some i)(J:i.zero=some z)(l:i.size=s)(q:i.bytes=bytes)(B:z.cells.size=s)(A:0<s) (h:CN w e s v n) (M:xs.length=n*s) (K:0<n->∀g,v.ownBlock=some g->base<=g) (L:0<n->∀g,v.ownBlock=some g->∀j u,xs[j]?=some u->w.cell? ⟨g,j,none⟩=some u)
 (r:Addr) (m c:Nat) (b:List Value) (y:b.length=m*s) (k:∀j u,b[j]?=some u->w.cell? (r.add j)=some u) (I:∀u∈b,u.oneCell'=true) (F:0<m) (x:n+m<=maxLen) (d:(n+m)*bytes<=140737488355328) (f:base<=w.heap.size) :
 ∃g cap w' row,(Builtin.append_ #[t,t] ty #[v,.slice (some r) m c]).run P w = .ok (.slice (some ⟨g,0,none⟩) (n+m) cap) w'/\w'.ownsRow base e s (.slice (some ⟨g,0,none⟩) (n+m) cap) (n+m) (xs ++ b)/\w.grownBy w' row/\(row=none\/(0<n/\row=v.ownBlock))/\((0<n/\v.ownBlock=some g)\/g=w.heap.size)/\g<w'.heap.size:=by
 rcases Nat.eq_zero_or_pos n with o | o
 ·rcases h with⟨_,a,rfl⟩ | ⟨N,_⟩
  ·subst o;obtain rfl:xs = []:=List.eq_nil_of_length_eq_zero (by omega);obtain⟨g,cap,w',G,C,D,p,E⟩:=run_append_lies (P:=P) w t ty base e i z s bytes H hi J l q B A (A5) 0 [] ⟨by simp,Or.inl ⟨rfl,rfl⟩⟩ r m c b y k I F x d f w.heap.size rfl;refine⟨g,cap,w',none,?_,C,D,Or.inl rfl,Or.inr ?_,E⟩
   ·rw[zD4 t ty e i a r m c H hi F (by rw[q];simpa using d)];exact G
   ·rcases p with p | p
    ·cases p
    ·exact p
  ·omega
 ·obtain⟨g,cap,w',G,C,D,p,E⟩:=run_append_lies (P:=P) w t ty base e i z s bytes H hi J l q B A v n xs (h.owns o M (K o) (L o)) r m c b y k I F x d f w.heap.size rfl;exact⟨g,cap,w',v.ownBlock,G,C,D,Or.inr ⟨o,rfl⟩,p.imp (fun h=>⟨o,h⟩) id,E⟩
def FC(w:World)(S:Nat->Prop)(v:Value)(n:Nat)(f:Nat->Ab):Prop:=∃(bs:Nat) (kb:Nat->Nat) (kv:Nat->Value),Dz w bs kb kv v n f/\M2 kb n f/\(∀k,Fy bs kb n f k->S k)/\CN w 46 6 v n/\∀i,i<n->CN w 38 2 (kv i) (f i).dn
def FH(w:World)(S:Nat->Prop)(v:Value)(n:Nat)(f:Nat->Aa):Prop:=∃(bs:Nat) (kb:Nat->Nat) (kv:Nat->Value),Ew w bs kb kv v n f/\Kv kb n f/\(∀k,Ii bs kb n f k->S k)/\CN w 41 8 v n/\∀i,i<n->CN w 38 2 (kv i) (f i).dn
variable{S:Nat->Prop}
theorem FC.isIn(h:FC w S v n f):GQ w S v n f:=by
 obtain⟨a,e,kv,b,c,d,_⟩:=h;exact⟨a,e,kv,b,c,d⟩
theorem FH.isIn{f:Nat->Aa}(h:FH w S v n f):Ff w S v n f:=by
 obtain⟨a,e,kv,b,c,d,_⟩:=h;exact⟨a,e,kv,b,c,d⟩
theorem FC.A1(h:FC w S v n f)(t:Below w.heap.size w w'):FC w' S v n f:=by
 obtain⟨a,j,kv,b,c,d,e,g⟩:=h;exact⟨a,j,kv,b.A1 t,c,d,e.A1 t,fun i hi=>(g i hi).A1 t⟩
theorem FH.A1{f:Nat->Aa}(h:FH w S v n f)(t:Below w.heap.size w w'):FH w' S v n f:=by
 obtain⟨a,j,kv,b,c,d,e,g⟩:=h;exact⟨a,j,kv,b.A1 t,c,d,e.A1 t,fun i hi=>(g i hi).A1 t⟩
theorem FC.set(h:FC w S v n f)(b o:Nat)(u:Value)(m:¬S b):FC (w.setCell ⟨b,o,none⟩ u) S v n f:=by
 obtain⟨c,q,kv,d,g,a,j,l⟩:=h;exact⟨c,q,kv,d.AD (AC.put w b o u) (fun k p e=>m (e▸a k p)),g,a,j.set _ _,fun i hi=>(l i hi).set _ _⟩
theorem FH.set{f:Nat->Aa}(h:FH w S v n f)(b o:Nat)(u:Value)(m:¬S b):FH (w.setCell ⟨b,o,none⟩ u) S v n f:=by
 obtain⟨c,q,kv,d,g,a,j,l⟩:=h;exact⟨c,q,kv,d.AD (AC.put w b o u) (fun k p e=>m (e▸a k p)),g,a,j.set _ _,fun i hi=>(l i hi).set _ _⟩
theorem FC.put6(h:FC w S v n f)(b:Nat)(c d u2 u3 u4 e:Value)(a:¬S b):FC (put6 w b c d u2 u3 u4 e) S v n f:=(((((h.set b 0 c a).set b 1 d a).set b 2 u2 a).set b 3 u3 a).set b 4 u4 a).set b 5 e a
theorem FH.put6{f:Nat->Aa}(h:FH w S v n f)(b:Nat)(c d u2 u3 u4 e:Value)(a:¬S b):FH (put6 w b c d u2 u3 u4 e) S v n f:=(((((h.set b 0 c a).set b 1 d a).set b 2 u2 a).set b 3 u3 a).set b 4 u4 a).set b 5 e a
structure GY (w:World) (P Q R:Nat->Prop) (v0 v1 v2 v3:Value) (W:A6):Prop where
 pool:DJ w P v0 v1 W.pool
 A2:FC w Q v2 W.sn W.A2
 A3:FH w R v3 W.pn W.A3
 pq:∀k,P k->¬Q k
 pr:∀k,P k->¬R k
 qr:∀k,Q k->¬R k
def D5(w:World)(lo hi:Nat)(v0 v1 v2 v3:Value)(W:A6):Prop:=∃P Q R,GY w P Q R v0 v1 v2 v3 W/\∀k,P k\/Q k\/R k->lo<=k/\k<hi
variable{P Q R:Nat->Prop}
theorem GY.isIn(h:GY w P Q R v0 v1 v2 v3 W):KL w P Q R v0 v1 v2 v3 W:=⟨h.pool,h.A2.isIn,h.A3.isIn,h.pq,h.pr,h.qr⟩
variable{lo hi:Nat}
theorem D5.own(h:D5 w lo hi v0 v1 v2 v3 W):EL w lo hi v0 v1 v2 v3 W:=by
 obtain⟨P,Q,R,h,a⟩:=h;exact⟨P,Q,R,h.isIn,a⟩
theorem GY.A1(h:GY w P Q R v0 v1 v2 v3 W)(t:Below w.heap.size w w'):GY w' P Q R v0 v1 v2 v3 W:=⟨h.pool.A1 t,h.A2.A1 t,h.A3.A1 t,h.pq,h.pr,h.qr⟩
theorem D5.A1(h:D5 w lo hi v0 v1 v2 v3 W)(t:Below w.heap.size w w'):D5 w' lo hi v0 v1 v2 v3 W:=by
 obtain⟨P,Q,R,h,a⟩:=h;exact⟨P,Q,R,h.A1 t,a⟩
theorem GY.set(h:GY w P Q R v0 v1 v2 v3 W)(b o:Nat)(u:Value)(a:¬(P b\/Q b\/R b)):GY (w.setCell ⟨b,o,none⟩ u) P Q R v0 v1 v2 v3 W:=
 ⟨h.pool.AD (AC.put w b o u) (fun k c e=>a (Or.inl (e▸c))),h.A2.set b o u (fun h=>a (Or.inr (Or.inl h))),h.A3.set b o u (fun h=>a (Or.inr (Or.inr h))),h.pq,h.pr,h.qr⟩
theorem D5.set(h:D5 w lo hi v0 v1 v2 v3 W)(b o:Nat)(u:Value)(d:b<lo\/hi<=b):D5 (w.setCell ⟨b,o,none⟩ u) lo hi v0 v1 v2 v3 W:=by
 obtain⟨P,Q,R,h,a⟩:=h;exact⟨P,Q,R,h.set b o u (fun c=>by have:=a b c;omega),a⟩
theorem D5.put6(h:D5 w lo hi v0 v1 v2 v3 W)(b:Nat)(c d u2 u3 u4 e:Value)(a:b<lo\/hi<=b):D5 (put6 w b c d u2 u3 u4 e) lo hi v0 v1 v2 v3 W:=(((((h.set b 0 c a).set b 1 d a).set b 2 u2 a).set b 3 u3 a).set b 4 u4 a).set b 5 e a
theorem D5.form(h:D5 w lo hi v0 v1 v2 v3 W):∃a c0 b c1 c e d c3,v0 = .slice a W.pool.n c0/\v1 = .slice b W.pool.hn c1/\v2 = .slice c W.sn e/\v3 = .slice d W.pn c3:=h.own.form
theorem D5.wide{lo' hi':Nat}(h:D5 w lo hi v0 v1 v2 v3 W)(c:lo'<=lo)(d:hi<=hi'):D5 w lo' hi' v0 v1 v2 v3 W:=by
 obtain⟨P,Q,R,h,b⟩:=h;exact⟨P,Q,R,h,fun k a=>by have:=b k a;omega⟩
def zQ(W:A6)(w:World)(e:Ending)(w':World):Prop:=∃v0 v1 v2 v3,e = .returned (Cc v0 v1 v2 v3 W)/\D5 w' w.heap.size w'.heap.size v0 v1 v2 v3 W/\Below w.heap.size w w'
theorem Ok(h:w.grownBy w' row):AC (fun k=>row=some k) w w':=⟨h.os,h.tape,h.output,h.size,fun k a hn=>h.block k a (fun e=>hn e.symm)⟩
variable{kb:Nat->Nat}{kv:Nat->Value}{k:Nat}
theorem Dz.edit{bs off c:Nat}(q:Dz w bs kb kv (.slice (some ⟨bs,off,none⟩) n c) n f)(t:k<n){s':Ab}{nb:Nat}{nv:Value}
 (s:AC (fun j=>j=bs) w w') (d:∀j,j<n->j≠k->∀r,r<6->∀u,AO w bs (off+j*6+r) u->AO w' bs (off+j*6+r) u) (hs:EO w' bs (off+k*6) nb nv s') :
 Dz w' bs (fun j=>if j=k then nb else kb j) (fun j=>if j=k then nv else kv j) (.slice (some ⟨bs,off,none⟩) n c) n (fun j=>if j=k then s' else f j):=by
 obtain⟨p,a,cap,hv,o,l⟩:=q;simp only[Value.slice.injEq,true_and]at hv;obtain⟨rfl,rfl⟩:=hv;refine⟨p,_,_,rfl,o,fun i=>?_⟩;obtain⟨m,e,g⟩:=l i;simp only[Option.some.injEq,Addr.mk.injEq,true_and,and_true]at e;subst e;refine⟨off,rfl,fun j b=>?_⟩;by_cases e:j=k
 ·subst e;simp only[if_true];exact hs
 ·simp only[if_neg e];have h:=g j b;exact⟨d j b e 0 (by omega) _ h.c0,d j b e 1 (by omega) _ h.c1,d j b e 2 (by omega) _ h.c2,d j b e 3 (by omega) _ h.c3,d j b e 4 (by omega) _ h.c4,d j b e 5 (by omega) _ h.c5,h.dead.AD s (fun i e=>h.Bn i e),h.CG,h.Bn⟩
def JF(s:Aa)(dv:Value):List Value:=[A0 s.id,.string s.name,.string s.set,A0 s.A8,A0 s.time,A0 s.rs,A0 s.rb,dv]
theorem zBz{bs nb:Nat}{dv:Value}{f:Nat->Aa}{s:Aa}(N:Ew w bs kb kv v n f)(F:Kv kb n f)
 (O:CS w' nb dv s.dn s.ds s.db) (J:s.name.size<=maxLen/\s.set.size<=maxLen) (q:0<s.dn->(∀i,i<n->0<(f i).dn->kb i≠nb)/\nb≠g)
 (B:w'.ownsRow base 41 8 (.slice (some ⟨g,0,none⟩) (n+1) cap) (n+1) (Et f kv n ++ JF s dv)) (P:w.grownBy w' row) (R:row=none\/(0<n/\row=v.ownBlock)) (G:(0<n/\v.ownBlock=some g)\/g=w.heap.size) (Q:n+1<=maxLen) :
 Ew w' g (fun j=>if j=n then nb else kb j) (fun j=>if j=n then dv else kv j) (.slice (some ⟨g,0,none⟩) (n+1) cap) (n+1) (fun j=>if j=n then s else f j)/\Kv (fun j=>if j=n then nb else kb j) (n+1) (fun j=>if j=n then s else f j):=by
 have A:0<n->v.ownBlock=some bs:=fun k=>by
  obtain⟨_,a,c,hv,_,K⟩:=N;obtain⟨off,M,_⟩:=K k;rw[hv,M];rfl
 have y:∀i,i<n->∃o,GU w bs o (kb i) (kv i) (f i):=fun i hi=>by
  obtain⟨_,a,c,hv,_,K⟩:=N;obtain⟨off,M,h⟩:=K (by omega);exact⟨_,h i hi⟩
 have z:∀i,i<n->0<(f i).dn->kb i≠g/\row≠some (kb i):=fun i hi k=>by
  obtain⟨o,h⟩:=y i hi;have l:=h.Bn k;have p:=h.deadLt k;refine⟨?_,?_⟩
  ·rcases G with⟨E,D⟩ | D
   ·rw[A E]at D;injection D with D;omega
   ·omega
  ·rcases R with e | ⟨E,e⟩
   ·rw[e];exact fun h=>by cases h
   ·rw[e,A E];exact fun h=>l (by injection h with h;exact h.symm)
 obtain⟨g',L,C,x,_,_,d⟩:=FI B (by omega);simp only[Value.slice.injEq,Option.some.injEq,Addr.mk.injEq,and_true,true_and]at C;obtain⟨rfl,rfl⟩:=C;refine⟨⟨Q,_,_,rfl,x,fun _=>⟨0,rfl,fun i hi=>?_⟩⟩,fun i j hi S H l p=>?_⟩
 ·rw[Nat.zero_add];by_cases e:i=n
  ·subst e;simp only[if_true];have b:∀r u,(JF s dv)[r]?=some u->AO w' g (i*8+r) u:=fun r u h=>d _ _ (by
    rw[List.getElem?_append_right (by rw[Gj];omega),Gj,show i*8+r - i*8=r by omega];exact h)
   exact⟨b 0 _ rfl,b 1 _ rfl,b 2 _ rfl,b 3 _ rfl,b 4 _ rfl,b 5 _ rfl,b 6 _ rfl,b 7 _ rfl,O,J,fun k=>(q k).2⟩
  ·simp only[if_neg e];have hi':i<n:=(by omega);obtain⟨o,h⟩:=y i hi';have b:∀r,r<8->AO w' g (i*8+r) (O6 f kv i r):=fun r I=>d _ _ (by
    rw[List.getElem?_append_left (by rw[Gj];omega)];exact G5 f kv n hi' I)
   exact⟨b 0 (by omega),b 1 (by omega),b 2 (by omega),b 3 (by omega),b 4 (by omega),b 5 (by omega),b 6 (by omega),b 7 (by omega),h.dead.AD (Ok P) (fun k=>(z i hi' k).2),h.CG,fun k=>(z i hi' k).1⟩
 ·show(if i=n then nb else kb i)≠(if j=n then nb else kb j);by_cases t:i=n
  ·by_cases m:j=n
   ·omega
   ·rw[if_pos t,if_neg m];simp only[if_pos t]at l;simp only[if_neg m]at p;exact fun e=>(q l).1 j (by omega) p e.symm
  ·by_cases m:j=n
   ·rw[if_neg t,if_pos m];simp only[if_neg t]at l;simp only[if_pos m]at p;exact(q p).1 i (by omega) l
   ·rw[if_neg t,if_neg m];simp only[if_neg t]at l;simp only[if_neg m]at p;exact F i j (by omega) (by omega) H l p
def OC(w:World)(lo hi m top:Nat)(v0 v1 v2 v3:Value)(W:A6):Prop:=∃P Q R,KL w P Q R v0 v1 v2 v3 W/\∀k,P k\/Q k\/R k->(lo<=k/\k<hi)\/(m<=k/\k<top)
theorem OC.own{m a:Nat}(h:OC w lo hi m a v0 v1 v2 v3 W)(d:lo<=m)(e:hi<=a):EL w lo a v0 v1 v2 v3 W:=by
 obtain⟨P,Q,R,h,c⟩:=h;exact⟨P,Q,R,h,fun k b=>by have:=c k b;omega⟩
def Ed(W:A6)(k:Nat)(name set:ByteArray):Aa:={id:=W.next,name:=name,set:=set,A8:=(W.A2 k).A8,time:=W.time,rs:=(W.A2 k).rs,rb:=(W.A2 k).rb,dn:=(W.A2 k).dn,ds:=(W.A2 k).ds,db:=(W.A2 k).db}
def Co(W:A6)(k:Nat)(name set:ByteArray):A6:={W with time:=W.time+1,next:=W.next+1,A2:=fun j=>if j=k then {W.A2 k with A8:=W.next,dn:=0}else W.A2 j,pn:=W.pn+1,A3:=fun j=>if j=W.pn then Ed W k name set else W.A3 j}
theorem zBE{b2 l c2:Nat}{set:ByteArray}{dv:Value}{z:Nat->Nat}{O:Nat->Value}{q:Nat}{d:Nat->Nat}{G:Nat->Value}
 (hP:DJ w P v0 v1 W.pool) (hS:Dz w b2 d G (.slice (some ⟨b2,l,none⟩) W.sn c2) W.sn W.A2) (I:M2 d W.sn W.A2) (t:∀j,Fy b2 d W.sn W.A2 j->Q j)
 (hZ:Ew w q z O v3 W.pn W.A3) (cA:Kv z W.pn W.A3) (v:∀j,Ii q z W.pn W.A3 j->R j)
 (pq:∀j,P j->¬Q j) (pr:∀j,P j->¬R j) (S:∀j,Q j->¬R j) (n:∀j,P j\/Q j\/R j->lo<=j/\j<hi) (tA:hi<=w.heap.size) (U:k<W.sn) (hm:W.pn+1<=maxLen) (hn:name.size<=maxLen) (hs:set.size<=maxLen)
 (N:w1.ownsRow base 41 8 (.slice (some ⟨g,0,none⟩) (W.pn+1) cap) (W.pn+1) (Et W.A3 O W.pn ++ JF (Ed W k name set) (G k))) (hg:w.grownBy w1 row) (hr:row=none\/(0<W.pn/\row=v3.ownBlock)) (K:(0<W.pn/\v3.ownBlock=some g)\/g=w.heap.size) (vA:lo<=w.heap.size) (sA:g<w1.heap.size) :
 OC ((w1.setCell ⟨b2,l+k*6+2,none⟩ (A0 W.next)).setCell ⟨b2,l+k*6+5,none⟩ (A5)) lo hi w.heap.size w1.heap.size v0 v1 (.slice (some ⟨b2,l,none⟩) W.sn c2) (.slice (some ⟨g,0,none⟩) (W.pn+1) cap) (Co W k name set):=by
 have L:0<W.pn->v3.ownBlock=some q/\R q:=fun b=>by
  refine⟨?_,v _ (Or.inl ⟨b,rfl⟩)⟩;obtain⟨_,a,c,hv,_,hx⟩:=hZ;obtain⟨off,T,_⟩:=hx b;rw[hv,T];rfl
 have M:∀j,row=some j->R j:=fun j e=>by
  rcases hr with h | ⟨b,h⟩
  ·rw[h]at e;cases e
  ·obtain⟨o,p⟩:=L b;rw[h,o]at e;injection e with e;exact e▸p
 have E:R g\/g=w.heap.size:=by
  rcases K with⟨b,h⟩ | h
  ·obtain⟨o,p⟩:=L b;rw[o]at h;injection h with h;exact Or.inl (h▸p)
  ·exact Or.inr h
 have hT:=Ok hg;have X:∀j,P j->¬(row=some j):=fun j f e=>pr j f (M j e)
 have Y:∀j,Q j->¬(row=some j):=fun j f e=>S j f (M j e)
 have x:Q b2:=t _ (Or.inl ⟨by omega,rfl⟩);have H:=hS.AD hT (fun j f=>Y j (t j f));have D:AC (fun j=>j=b2) w1 ((w1.setCell ⟨b2,l+k*6+2,none⟩ (A0 W.next)).setCell ⟨b2,l+k*6+5,none⟩ (A5)):=(AC.put w1 b2 _ _).trans (AC.put _ b2 _ _);have m:EO w1 b2 (l+k*6) (d k) (G k) (W.A2 k):=by
  obtain⟨_,a,c,hv,_,hx⟩:=H;obtain⟨off,T,h⟩:=hx (by omega);simp only[Value.slice.injEq,true_and]at hv;obtain⟨rfl,_⟩:=hv;simp only[Option.some.injEq,Addr.mk.injEq,true_and,and_true]at T;subst T;exact h k U
 have y:0<(W.A2 k).dn->Q (d k):=fun b=>t _ (Or.inr ⟨k,U,b,rfl⟩)
 have F:∀j,Q j->j≠g:=fun j f e=>by
  rcases E with h | h
  ·exact S j f (e▸h)
  ·have:=(n j (Or.inr (Or.inl f))).2;omega
 have eA:∀j,P j->j≠g:=fun j f e=>by
  rcases E with h | h
  ·exact pr j f (e▸h)
  ·have:=(n j (Or.inl f)).2;omega
 obtain⟨aA,J⟩:=zBz (s:=Ed W k name set) (nb:=d k) hZ cA (m.dead) ⟨hn,hs⟩ (fun b=>⟨fun i hi o e=>S _ (y b) (v _ (Or.inr ⟨i,hi,o,e.symm⟩)),F _ (y b)⟩) N hg hr K hm;have bA:=aA.AD D (fun j f e=>by
  rcases f with⟨_,h⟩ | ⟨i,hi,b,h⟩
  ·exact F b2 x (by rw[<-e];exact h)
  ·by_cases A:i=W.pn
   ·simp only[if_pos A]at h b;exact m.Bn b (by rw[<-h];exact e)
   ·simp only[if_neg A]at h b;exact S b2 x (v _ (Or.inr ⟨i,by omega,b,by rw[<-e];exact h⟩)))
 have Z:=H.edit U (s':={W.A2 k with A8:=W.next,dn:=0}) (nb:=d k) (nv:=A5) D
  (fun j f bB r hr u hc=>(hc.other _ (Or.inr (by omega))).other _ (Or.inr (by omega)))
  ⟨(m.c0.other _ (Or.inr (by omega))).other _ (Or.inr (by omega)),(m.c1.other _ (Or.inr (by omega))).other _ (Or.inr (by omega)),(m.c2.set _).other _ (Or.inr (by omega)),(m.c3.other _ (Or.inr (by omega))).other _ (Or.inr (by omega)),(m.c4.other _ (Or.inr (by omega))).other _ (Or.inr (by omega)),(m.c5.other _ (Or.inr (by omega))).set _,⟨Nat.zero_le _,none,0,rfl,Nat.le_refl _,fun h=>absurd h (Nat.lt_irrefl _)⟩,m.CG,fun h=>absurd h (Nat.lt_irrefl _)⟩
 have cB:=hg.size;have B:∀j,Fy b2 (fun j=>if j=k then d k else d j) W.sn (fun j=>if j=k then {W.A2 k with A8:=W.next,dn:=0}else W.A2 j) j->Q j/\(0<(W.A2 k).dn->j≠d k):=by
  rintro j (⟨b,rfl⟩ | ⟨i,hi,b,rfl⟩)
  ·exact⟨x,fun h e=>m.Bn h e.symm⟩
  ·by_cases e:i=k
   ·simp only[if_pos e]at b;exact absurd b (Nat.lt_irrefl _)
   ·simp only[if_neg e]at b ⊢;exact⟨t _ (Or.inr ⟨i,hi,b,rfl⟩),fun h A=>I i k hi U e b h A⟩
 have C:∀j,Ii g (fun j=>if j=W.pn then d k else z j) (W.pn+1) (fun j=>if j=W.pn then Ed W k name set else W.A3 j) j->R j\/j=g\/(0<(W.A2 k).dn/\j=d k):=by
  rintro j (⟨b,rfl⟩ | ⟨i,hi,b,rfl⟩)
  ·exact Or.inr (Or.inl rfl)
  ·by_cases e:i=W.pn
   ·simp only[if_pos e]at b ⊢;exact Or.inr (Or.inr ⟨b,trivial⟩)
   ·simp only[if_neg e]at b ⊢;exact Or.inl (v _ (Or.inr ⟨i,by omega,b,rfl⟩))
 refine⟨P,_,_,⟨(hP.AD hT X).AD D (fun j f e=>pq j f (e▸x)),⟨b2,_,_,Z,?_,fun j f=>f⟩,⟨g,_,_,bA,J,fun j f=>f⟩,?_,?_,?_⟩,?_⟩
 ·intro i j hi f fA o p;show(if i=k then d k else d i)≠(if j=k then d k else d j);dsimp only[Co]at o p;by_cases V:i=k
  ·simp only[if_pos V]at o;exact absurd o (Nat.lt_irrefl _)
  ·by_cases A:j=k
   ·simp only[if_pos A]at p;exact absurd p (Nat.lt_irrefl _)
   ·simp only[if_neg V]at o;simp only[if_neg A]at p;rw[if_neg V,if_neg A];exact I i j hi f fA o p
 ·exact fun j f h=>pq j f (B j h).1
 ·intro j f h;rcases C j h with h | h | ⟨b,h⟩
  ·exact pr j f h
  ·exact eA j f h
  ·exact pq j f (h▸y b)
 ·intro j f h;obtain⟨o,p⟩:=B j f;rcases C j h with h | h | ⟨b,h⟩
  ·exact S j o h
  ·exact F j o h
  ·exact p b h
 ·rintro j (h | h | h)
  ·have:=n j (Or.inl h);omega
  ·have:=n j (Or.inr (Or.inl (B j h).1));omega
  ·rcases C j h with h | h | ⟨b,h⟩
   ·have:=n j (Or.inr (Or.inr h));omega
   ·rcases E with h3 | h3
    ·have:=n g (Or.inr (Or.inr h3));omega
    ·omega
   ·have:=n _ (Or.inr (Or.inl (y b)));omega
def ins{α : Type}(f:Nat->α)(k:Nat)(s:α):Nat->α:=fun j=>if j<k then f j else if j=k then s else f (j - 1)
variable{α:Type}
theorem Zn{f:Nat->α}{s:α}(h:j<k):ins f k s j=f j:=if_pos h
theorem Zl{f:Nat->α}{s:α}:ins f k s k=s:=by
 unfold ins;rw[if_neg (Nat.lt_irrefl _),if_pos rfl]
theorem Zm{f:Nat->α}{s:α}(h:k<j):ins f k s j=f (j - 1):=by
 unfold ins;rw[if_neg (by omega),if_neg (by omega)]
def JZ(W:A6)(k:Nat)(s:Ab):A6:={W with sn:=W.sn+1,A2:=ins W.A2 k s}
def noW:A6:={pool:=Cs 0,time:=0,next:=0,sn:=0,A2:=fun _=>⟨⟨#[]⟩,0,0,0,0,0,fun _=>0,fun _=>0⟩,pn:=0,A3:=fun _=>⟨0,⟨#[]⟩,⟨#[]⟩,0,0,0,0,0,fun _=>0,fun _=>0⟩}
theorem TQ:EL w lo hi (A5) (A5) (A5) (A5) noW:=by
 refine⟨fun k=>lo<=k/\k<hi,fun _=>False,fun _=>False,⟨(QK (lo:=lo) (hi:=hi)).isIn (fun k b c=>⟨b,c⟩),?_,?_,fun _ _ h=>h,fun _ _ h=>h,fun _ h=>h.elim⟩,fun k a=>?_⟩
 ·exact⟨0,fun _=>0,fun _=>A5,⟨Nat.zero_le _,none,0,rfl,Nat.le_refl _,fun h=>absurd h (Nat.lt_irrefl _)⟩,fun i j hi=>absurd hi (Nat.not_lt_zero _),fun k a=>by
   rcases a with⟨h,_⟩ | ⟨i,h,_⟩
   ·exact absurd h (Nat.lt_irrefl _)
   ·exact absurd h (Nat.not_lt_zero _)⟩
 ·exact⟨0,fun _=>0,fun _=>A5,⟨Nat.zero_le _,none,0,rfl,Nat.le_refl _,fun h=>absurd h (Nat.lt_irrefl _)⟩,fun i j hi=>absurd hi (Nat.not_lt_zero _),fun k a=>by
   rcases a with⟨h,_⟩ | ⟨i,h,_⟩
   ·exact absurd h (Nat.lt_irrefl _)
   ·exact absurd h (Nat.not_lt_zero _)⟩
 ·rcases a with h | h | h
  ·exact h
  ·exact h.elim
  ·exact h.elim
def Bb(w:World)(b:Nat)(v0 v1 v2 v3 v4 v5 v6 v7 v8:Value):Prop:=AO w b 0 v0/\AO w b 1 v1/\AO w b 2 v2/\AO w b 3 v3/\AO w b 4 v4/\AO w b 5 v5/\AO w b 6 v6/\AO w b 7 v7/\AO w b 8 v8
variable{v8:Value}
theorem Bb.c(h:Bb w b v0 v1 v2 v3 v4 v5 v6 v7 v8):w.cell? ⟨b,0,none⟩=some v0/\w.cell? ⟨b,1,none⟩=some v1/\w.cell? ⟨b,2,none⟩=some v2/\w.cell? ⟨b,3,none⟩=some v3/\w.cell? ⟨b,4,none⟩=some v4/\w.cell? ⟨b,5,none⟩=some v5/\w.cell? ⟨b,6,none⟩=some v6/\w.cell? ⟨b,7,none⟩=some v7/\w.cell? ⟨b,8,none⟩=some v8:=
 ⟨h.1.1,h.2.1.1,h.2.2.1.1,h.2.2.2.1.1,h.2.2.2.2.1.1,h.2.2.2.2.2.1.1,h.2.2.2.2.2.2.1.1,h.2.2.2.2.2.2.2.1.1,h.2.2.2.2.2.2.2.2.1⟩
theorem Bb.A1(h:Bb w b v0 v1 v2 v3 v4 v5 v6 v7 v8)(t:Below w.heap.size w w'):Bb w' b v0 v1 v2 v3 v4 v5 v6 v7 v8:=⟨h.1.A1 t,h.2.1.A1 t,h.2.2.1.A1 t,h.2.2.2.1.A1 t,h.2.2.2.2.1.A1 t,h.2.2.2.2.2.1.A1 t,h.2.2.2.2.2.2.1.A1 t,h.2.2.2.2.2.2.2.1.A1 t,h.2.2.2.2.2.2.2.2.A1 t⟩
theorem Bb.AD(h:Bb w b v0 v1 v2 v3 v4 v5 v6 v7 v8)(t:AC S w w')(hs:¬S b):Bb w' b v0 v1 v2 v3 v4 v5 v6 v7 v8:=⟨h.1.AD t hs,h.2.1.AD t hs,h.2.2.1.AD t hs,h.2.2.2.1.AD t hs,h.2.2.2.2.1.AD t hs,h.2.2.2.2.2.1.AD t hs,h.2.2.2.2.2.2.1.AD t hs,h.2.2.2.2.2.2.2.1.AD t hs,h.2.2.2.2.2.2.2.2.AD t hs⟩
theorem Bb.new(w:World)(b v1 c d e f g h i:Value)(t:TypeId):Bb (w.alloc (.cells #[b,v1,c,d,e,f,g,h,i] t)) w.heap.size b v1 c d e f g h i:=by
 have a:(w.alloc (.cells #[b,v1,c,d,e,f,g,h,i] t)).heap[w.heap.size]?=some (.cells #[b,v1,c,d,e,f,g,h,i] t):=heap_alloc_new _ _;exact⟨Az a rfl,Az a rfl,Az a rfl,Az a rfl,Az a rfl,Az a rfl,Az a rfl,Az a rfl,Az a rfl⟩
abbrev put9(w:World)(b:Nat)(u0 u1 u2 u3 u4 u5 u6 u7 u8:Value):World:=((((((((w.setCell ⟨b,0,none⟩ u0).setCell ⟨b,1,none⟩ u1).setCell ⟨b,2,none⟩ u2).setCell ⟨b,3,none⟩ u3).setCell ⟨b,4,none⟩ u4).setCell ⟨b,5,none⟩ u5).setCell ⟨b,6,none⟩ u6).setCell ⟨b,7,none⟩ u7).setCell ⟨b,8,none⟩ u8
theorem Bb.put(h:Bb w b v0 v1 v2 v3 v4 v5 v6 v7 v8)(a d u2 u3 u4 f g j u8:Value):Bb (put9 w b a d u2 u3 u4 f g j u8) b a d u2 u3 u4 f g j u8:=
 have H (i:Nat) (u v:Value) (e:[a,d,u2,u3,u4,f,g,j,u8][i]?=some u) (c:AO w b i v):AO (put9 w b a d u2 u3 u4 f g j u8) b i u:=LZ [a,d,u2,u3,u4,f,g,j,u8] w 0 i i e (Nat.zero_add i) c
 ⟨H 0 _ _ rfl h.1,H 1 _ _ rfl h.2.1,H 2 _ _ rfl h.2.2.1,H 3 _ _ rfl h.2.2.2.1,H 4 _ _ rfl h.2.2.2.2.1,H 5 _ _ rfl h.2.2.2.2.2.1,H 6 _ _ rfl h.2.2.2.2.2.2.1,H 7 _ _ rfl h.2.2.2.2.2.2.2.1,H 8 _ _ rfl h.2.2.2.2.2.2.2.2⟩
theorem AC.put9(w:World)(b:Nat)(a c u2 u3 u4 d e f u8:Value):AC (fun k=>k=b) w (put9 w b a c u2 u3 u4 d e f u8):=((((((((AC.put w b 0 a).trans (AC.put _ b 1 c)).trans (AC.put _ b 2 u2)).trans (AC.put _ b 3 u3)).trans (AC.put _ b 4 u4)).trans (AC.put _ b 5 d)).trans (AC.put _ b 6 e)).trans (AC.put _ b 7 f)).trans (AC.put _ b 8 u8)
open Go.Extern.Stop Go.Stop Go.Extern
theorem AQ{P:Prop}(h:P):Hid P:=h
abbrev Af(a:Addr):Value:=.iface 233 (.pointer (some a))
def errG:Nat->Nat
 | 0=>4
 | 1=>3
 | 2=>0
 | 3=>1
 | 4=>2
 | 5=>5
 | _=>6
def Ca:Nat->Int
 | 0=>1
 | 1=>2
 | 2=>4
 | 3=>5
 | 4=>6
 | 5=>7
 | _=>8
structure D8 (w:World) (p:Nat->Addr):Prop where
 cell:∀i,i<7->w.cell? ⟨errG i,0,none⟩=some (Af (p i))
 row:∀i,i<7->∃cs t,w.heap[(p i).block]?=some (.cells cs t (0,0))
 ne:∀i j,i<7->j<7->i≠j->p i≠p j
theorem D8.A1{p:Nat->Addr}(h:D8 w p)(t:Below w.heap.size w w'):D8 w' p:=
 ⟨fun i hi=>(t.cell (AV (h.cell i hi))).trans (h.cell i hi),fun i hi=>by
  obtain⟨cs,ty,a⟩:=h.row i hi;exact⟨cs,ty,(t.block _ (Array.getElem?_eq_some_iff.1 a).1).trans a⟩,h.ne⟩
theorem Uh(v:Value)(w:World):(Extern.ReflectliteType.typeOf #[.iface 233 v]).run Tryz.prog w = .ok (.iface 218 (.agg #[.pointer (some ⟨7,233,none⟩)])) w:=by kernel_rfl
def SC:Array Value->Sem Value:=Extern.ReflectliteType.method fun t=>do Extern.Rtype.noPackHeld "Comparable" t;pure (.bool (<-typeInfo t).comparable)
theorem Z0(w:World):(SC #[.agg #[.pointer (some ⟨7,233,none⟩)]]).run Tryz.prog w = .ok (.bool true) w:=by kernel_rfl
theorem ZT(v:Value)(w:World):(Go.method 371 218 v "Comparable").run Tryz.prog w = .ok (215,v) w:=by kernel_rfl
theorem Zo:(Tryz.prog.info? 233).map (·.comparable)=some true:=by kernel_rfl
theorem Zp:(Tryz.prog.info? 259).map (·.size)=some 1:=by kernel_rfl
theorem zIp(v:Value)(a:TypeId)(w:World):(Instr.typeAssert (.iface 233 v) a 220 true).run Tryz.prog w = .ok (.tuple #[.nilIface,.bool false]) w:=run_typeAssert_lacksB Tryz.underlying220 (by kernel_rfl) (by kernel_rfl) v a w
theorem zDl(v:Value)(a:TypeId)(w:World):(Instr.typeAssert (.iface 233 v) a 223 true).run Tryz.prog w = .ok (.tuple #[.nilIface,.bool false]) w:=run_typeAssert_lacksB Tryz.underlying223 (by kernel_rfl) (by kernel_rfl) v a w
theorem zAJ(v:Value)(a:TypeId)(w:World):(Instr.typeAssert (.iface 233 v) a 225 true).run Tryz.prog w = .ok (.tuple #[.nilIface,.bool false]) w:=run_typeAssert_lacksB Tryz.underlying225 (by kernel_rfl) (by kernel_rfl) v a w
theorem zGr(a:Addr)(w:World):Calls Tryz.prog 120 #[Af a,Af a] w fun e w'=>e = .returned (.bool true)/\w'=w:=by
 obtain⟨i,hi,b⟩:=Option.map_eq_some_iff.1 Zo;obtain⟨j,f,g⟩:=Option.map_eq_some_iff.1 Zp;have k:=@run_callFunc_extern Tryz.prog 158 _ Extern.ReflectliteType.typeOf Tryz.func158 (by kernel_rfl) (by kernel_rfl) (by kernel_rfl) (by kernel_rfl);have c:=@run_callFunc_extern Tryz.prog 215 _ SC Tryz.func215 (by kernel_rfl) (by kernel_rfl) (by kernel_rfl) (by kernel_rfl);have tT:=Uh;have h:=Z0;have l:=ZT;have d:=run_eql_iface_ptr_same (P:=Tryz.prog) w a Tryz.underlying59 Tryz.underlying233 hi b f;go_enter Tryz.func120,Tryz.ntmps120;go_wp2;refine wp_loop_rounds 1 ?_;rw[rounds_succ];go_wp2;go_ret;exact⟨rfl,rfl⟩
theorem zEy(a b:Addr)(g h:Array Value)(p tb:TypeId)(w:World)(f:a≠b)(l:w.heap[a.block]?=some (.cells g p (0,0)))(m:w.heap[b.block]?=some (.cells h tb (0,0))):Calls Tryz.prog 120 #[Af a,Af b] w fun e w'=>e = .returned (.bool false)/\w'=w:=by
 obtain⟨i,hi,c⟩:=Option.map_eq_some_iff.1 Zo;obtain⟨j,o,d⟩:=Option.map_eq_some_iff.1 Zp;have r:=@run_callFunc_extern Tryz.prog 158 _ Extern.ReflectliteType.typeOf Tryz.func158 (by kernel_rfl) (by kernel_rfl) (by kernel_rfl) (by kernel_rfl);have k:=@run_callFunc_extern Tryz.prog 215 _ SC Tryz.func215 (by kernel_rfl) (by kernel_rfl) (by kernel_rfl) (by kernel_rfl);have tT:=Uh;have q:=Z0;have s:=ZT;have t:=zIp;have u:=zDl;have v:=zAJ;have n:=run_eql_iface_ptr_other (P:=Tryz.prog) w Tryz.underlying59 Tryz.underlying233 hi c o (by rw[d];decide) f l m;go_enter Tryz.func120,Tryz.ntmps120;go_wp2;refine wp_loop_rounds 1 ?_;rw[rounds_succ];go_wp2;go_ret;exact⟨rfl,rfl⟩
def L6(p:Nat->Addr):Array Value:=#[Af (p 0),A0 1,Af (p 1),A0 2,Af (p 2),A0 4,Af (p 3),A0 5,Af (p 4),A0 6,Af (p 5),A0 7,Af (p 6),A0 8]
theorem Sm(p:Nat->Addr)(hi:i<7):(L6 p)[i*2]?=some (Af (p i))/\(L6 p)[i*2+1]?=some (A0 (Ca i)):=by
 match i,hi with
 | 0,_=>exact⟨rfl,rfl⟩
 | 1,_=>exact⟨rfl,rfl⟩
 | 2,_=>exact⟨rfl,rfl⟩
 | 3,_=>exact⟨rfl,rfl⟩
 | 4,_=>exact⟨rfl,rfl⟩
 | 5,_=>exact⟨rfl,rfl⟩
 | 6,_=>exact⟨rfl,rfl⟩
theorem Yw(p:Nat->Addr)(w:World)(h:D8 w p):Calls Tryz.prog 119 #[] w fun e w'=>e = .returned (.slice (some ⟨w.heap.size,0,none⟩) 7 7)/\w'=w.alloc (.cells (L6 p) 160):=by
 have a:w.cell? ⟨4,0,none⟩=some (Af (p 0)):=h.cell 0 (by omega);have b:w.cell? ⟨3,0,none⟩=some (Af (p 1)):=h.cell 1 (by omega);have c:w.cell? ⟨0,0,none⟩=some (Af (p 2)):=h.cell 2 (by omega);have d:w.cell? ⟨1,0,none⟩=some (Af (p 3)):=h.cell 3 (by omega);have f:w.cell? ⟨2,0,none⟩=some (Af (p 4)):=h.cell 4 (by omega);have g:w.cell? ⟨5,0,none⟩=some (Af (p 5)):=h.cell 5 (by omega);have i:w.cell? ⟨6,0,none⟩=some (Af (p 6)):=h.cell 6 (by omega);clear h;go_enter Tryz.func119,Tryz.ntmps119;go_wp2;go_ret;exact⟨rfl,rfl⟩
structure Bm where
 world:A6
 id:Int
 many:Int
 code:Int
abbrev zJG(v0 v1 v2 v3:Value)(o:Bm):Value:=.agg #[v0,v1,A0 o.world.time,A0 o.world.next,v2,v3,A0 o.id,A0 o.many,A0 o.code]
def Iv(o:Bm)(w:World)(e:Ending)(w':World):Prop:=∃v0 v1 v2 v3,e = .returned (zJG v0 v1 v2 v3 o)/\EL w' w.heap.size w'.heap.size v0 v1 v2 v3 o.world/\Below w.heap.size w w'
theorem Bb.six(h:Bb w b v0 v1 v2 v3 v4 v5 v6 v7 v8)(d f u2 u3 u4 g:Value):Bb (put6 w b d f u2 u3 u4 g) b d f u2 u3 u4 g v6 v7 v8:=
 have H (i j:Nat) (u v:Value) (e:[d,f,u2,u3,u4,g][i]?=some u) (a:0+i=j) (c:AO w b j v):AO (Ma w b 0 [d,f,u2,u3,u4,g]) b j u:=LZ [d,f,u2,u3,u4,g] w 0 i j e a c;have K (j:Nat) (v:Value) (a:j<0\/6<=j) (c:AO w b j v):AO (Ma w b 0 [d,f,u2,u3,u4,g]) b j v:=QC [d,f,u2,u3,u4,g] w 0 c a
 ⟨H 0 0 _ _ rfl rfl h.1,H 1 1 _ _ rfl rfl h.2.1,H 2 2 _ _ rfl rfl h.2.2.1,H 3 3 _ _ rfl rfl h.2.2.2.1,H 4 4 _ _ rfl rfl h.2.2.2.2.1,H 5 5 _ _ rfl rfl h.2.2.2.2.2.1,K 6 _ (by omega) h.2.2.2.2.2.2.1,K 7 _ (by omega) h.2.2.2.2.2.2.2.1,K 8 _ (by omega) h.2.2.2.2.2.2.2.2⟩
theorem AO.under{B o:Nat}(h:AO w b o v)(t:Below B w w')(a:b<B):AO w' b o v:=⟨(t.cell (p:=⟨b,o,none⟩) a).trans h.1,(t.frozen (p:=⟨b,o,none⟩) a).trans h.2⟩
def BP(c:Int):Bm:=⟨noW,0,0,c⟩
def Ez(r:Option Nat)(o:Bm):Bm:=match r with
 | some i=>BP (Ca i)
 | none=>o
theorem ye(hi:i<l.length):(AN l i,AP l i)=l[i]:=by
 unfold AN AP;rw[List.getD_eq_getElem?_getD,List.getElem?_eq_getElem hi];rfl
theorem CT.ptrs(h:CT p l)(r:l.length<=200):Cf l.length (AN l) (AP l):=by
 refine⟨by omega,fun i hi=>?_,fun i hi k q e=>?_⟩
 ·have m:(AN l i,AP l i)∈l:=(by rw[ye hi];exact List.getElem_mem hi);have a:=(h.2.1 _ m).1;have g:=Ey h.1 a;have f:=g.1;have n:=h.1.1;unfold B8 at a;unfold DS at f;unfold FU;dsimp only at a f ⊢;have o:=a.2.2.2;omega
 ·have hn:=h.2.2;have hi':i<(l.map Prod.fst).length:=(by rw[List.length_map];exact hi);have c:k<(l.map Prod.fst).length:=(by rw[List.length_map];omega);have d:∀j (b:j<(l.map Prod.fst).length),(l.map Prod.fst)[j]=AN l j:=fun j b=>by
   rw[List.length_map]at b;rw[List.getElem_map];unfold AN;rw[List.getD_eq_getElem?_getD,List.getElem?_eq_getElem b];rfl
  have:=(List.getElem_inj (h₀:=c) (h₁:=hi') hn).1 (by rw[d,d];exact e);omega
theorem Vf(l:List (Int×Int)):((List.range l.length).map fun i=>(AN l i,AP l i))=l:=by
 refine List.ext_getElem (by simp) (fun i b a=>?_);rw[List.getElem_map,List.getElem_range];exact ye a
def Bu(n:Nat)(f g:Nat->Int):List (Int×Int):=(List.range n).map fun i=>(f i,g i)
theorem Jm(n:Nat)(f g:Nat->Int):(Bu n f g).length=n:=by
 unfold Bu;rw[List.length_map,List.length_range]
theorem QE(f g:Nat->Int)(hi:i<n):AN (Bu n f g) i=f i/\AP (Bu n f g) i=g i:=by
 unfold AN AP Bu;rw[List.getD_eq_getElem?_getD,List.getElem?_map,List.getElem?_range hi];exact⟨rfl,rfl⟩
theorem UV(f g:Nat->Int)(t:Int):∀n,(C6 f g t n).length<=n
 | 0=>Nat.le_refl _
 | n+1=>by
  have:=UV f g t n;unfold C6;split
  ·omega
  ·rw[List.length_append,List.length_singleton];omega
variable{x:Int}
theorem J7:x∈Bk l↔∃y,(x,y)∈l:=by
 unfold Bk;rw[List.mem_map];constructor
 ·rintro⟨⟨a,b⟩,h,rfl⟩;exact⟨b,h⟩
 ·rintro⟨y,h⟩;exact⟨(x,y),h,rfl⟩
variable{xs:Int}
theorem ZF:x∈Bk (one xs xb)↔x=xs/\¬Nil xs xb:=by
 rw[J7];constructor
 ·rintro⟨y,h⟩;obtain⟨e,hn⟩:=Pu.1 h;simp only[Prod.mk.injEq]at e;exact⟨e.1,hn⟩
 ·rintro⟨rfl,hn⟩;exact⟨xb,Pu.2 ⟨rfl,hn⟩⟩
theorem P3{ks kb:Nat->Int}:x∈Bk (kidsUp ks kb k)↔∃i,i<k/\x=ks i/\¬Nil (ks i) (kb i):=by
 rw[J7];constructor
 ·rintro⟨y,h⟩;obtain⟨i,hi,e,hn⟩:=Gk.1 h;simp only[Prod.mk.injEq]at e;exact⟨i,hi,e.1,hn⟩
 ·rintro⟨i,hi,rfl,hn⟩;exact⟨kb i,Gk.2 ⟨i,hi,rfl,hn⟩⟩
theorem zDp(xs xb:Int):(Bk (one xs xb)).Nodup:=by
 unfold one Bk;split<;>simp
theorem Ou{ks kb:Nat->Int}:∀{k:Nat},(Bk (kidsUp ks kb k)).Nodup↔∀i,i<k->∀j,j<i->¬Nil (ks i) (kb i)->¬Nil (ks j) (kb j)->ks j≠ks i
 | 0=>by simp[kidsUp,Bk]
 | k+1=>by
  rw[kidsUp,L2,List.nodup_append,Ou (k:=k)];constructor
  ·rintro⟨g,_,l⟩ i hi j c f d;by_cases e:i=k
   ·subst e;exact l _ (P3.2 ⟨j,c,rfl,d⟩) _ (ZF.2 ⟨rfl,f⟩)
   ·exact g i (by omega) j c f d
  ·intro h;refine⟨fun i hi j c=>h i (by omega) j c,zDp _ _,fun a m b n=>?_⟩;obtain⟨j,c,rfl,d⟩:=P3.1 m;obtain⟨rfl,o⟩:=ZF.1 n;exact h k (Nat.lt_succ_self k) j c o d
theorem YT{p:A7}{s:AH}:∀{k:Nat},(Bk (CR p s k)).Nodup↔(∀i,i<k->(Bk (Ck p (AK s i) (AW s i))).Nodup)/\∀i,i<k->∀j,j<i->∀x,x∈Bk (Ck p (AK s j) (AW s j))->∀y,y∈Bk (Ck p (AK s i) (AW s i))->x≠y
 | 0=>by simp[CR,Bk]
 | k+1=>by
  rw[CR,L2,List.nodup_append,YT (k:=k)];constructor
  ·rintro⟨⟨c,d⟩,n,o⟩;refine⟨fun i hi=>?_,fun i hi j f x l y m=>?_⟩
   ·by_cases e:i=k
    ·subst e;exact n
    ·exact c i (by omega)
   ·by_cases e:i=k
    ·subst e;obtain⟨z,g⟩:=J7.1 l;exact o x (J7.2 ⟨z,Gf.2 ⟨j,f,g⟩⟩) y m
    ·exact d i (by omega) j f x l y m
  ·rintro⟨c,d⟩;refine⟨⟨fun i hi=>c i (by omega),fun i hi=>d i (by omega)⟩,c k (Nat.lt_succ_self k),fun a q b r=>?_⟩;obtain⟨z,g⟩:=J7.1 q;obtain⟨j,f,h⟩:=Gf.1 g;exact d k (Nat.lt_succ_self k) j f a (J7.2 ⟨z,h⟩) b r
variable{yb:Int}
theorem Gg(h:Db p x xb)(a:Ep p y yb):x≠y:=fun e=>by
 subst e;have:=h.2.1;have:=a.2.1;omega
theorem Oj(h:Db p x xb):¬Nil x xb:=fun e=>by
 have:=h.1.1;have:=e.2;omega
theorem Vd(a:LL p (p.s rs.toNat))(hi:i<8)(hn:¬Nil (AK (p.s rs.toNat) i) (AW (p.s rs.toNat) i)):AK (p.s rs.toNat) i≠rs:=fun e=>by
 have b:=(a.1 i hi).resolve_left hn;rw[e]at b;obtain⟨j,c,d⟩:=a.2;have f:=((a.1 j c).resolve_left d).1;have g:=(b.2.1 j c).resolve_left d;exact Gg f g rfl
def SD(p:A7)(s:AH):Prop:=
 (∀i,i<8->∀j,j<8->¬Nil (AK s i) (AW s i)->¬Nil (AK s j) (AW s j)->AK s j=AK s i->j=i)/\
 ∀i,i<8->∀j,j<8->∀a,a<8->∀c,c<8->¬Nil (AK s i) (AW s i)->¬Nil (AK s j) (AW s j)->
  ¬Nil (AK (p.s (AK s i).toNat) a) (AW (p.s (AK s i).toNat) a)->¬Nil (AK (p.s (AK s j).toNat) c) (AW (p.s (AK s j).toNat) c)->
  AK (p.s (AK s j).toNat) c=AK (p.s (AK s i).toNat) a->j=i/\c=a
theorem Fj:x∈Bk (Ck p xs xb)↔¬Nil xs xb/\(x=xs\/∃a,a<8/\x=AK (p.s xs.toNat) a/\¬Nil (AK (p.s xs.toNat) a) (AW (p.s xs.toNat) a)):=by
 unfold Ck;by_cases h:Nil xs xb
 ·rw[if_pos h];simp[Bk,h]
 ·rw[if_neg h];show x∈xs :: Bk (Eh (p.s xs.toNat))↔_;rw[List.mem_cons];unfold Eh;rw[P3];exact⟨fun b=>⟨h,b⟩,fun b=>b.2⟩
theorem Xp{rb:Int}(E:Db p rs rb)(A:LL p (p.s rs.toNat)):(Bk (AG p rs rb)).Nodup↔SD p (p.s rs.toNat):=by
 have D:=Oj E;have k:∀i,i<8->¬Nil (AK (p.s rs.toNat) i) (AW (p.s rs.toNat) i)->Db p (AK (p.s rs.toNat) i) (AW (p.s rs.toNat) i):=fun i hi hn=>((A.1 i hi).resolve_left hn).1
 have d:∀i,i<8->¬Nil (AK (p.s rs.toNat) i) (AW (p.s rs.toNat) i)->∀a,a<8->¬Nil (AK (p.s (AK (p.s rs.toNat) i).toNat) a) (AW (p.s (AK (p.s rs.toNat) i).toNat) a)->Ep p (AK (p.s (AK (p.s rs.toNat) i).toNat) a) (AW (p.s (AK (p.s rs.toNat) i).toNat) a):=fun i hi hn a g f=>(((A.1 i hi).resolve_left hn).2.1 a g).resolve_left f
 unfold AG;rw[if_neg D];show(rs :: Bk (CR p (p.s rs.toNat) 8)).Nodup↔_;rw[List.nodup_cons,YT];constructor
 ·rintro⟨_,v,q⟩;refine⟨fun i hi j t b l e=>?_,fun i hi j t a g c r b l f n e=>?_⟩
  ·rcases Nat.lt_trichotomy j i with h | h | h
   ·exact absurd e (q i hi j h _ (Fj.2 ⟨l,Or.inl rfl⟩) _ (Fj.2 ⟨b,Or.inl rfl⟩))
   ·exact h
   ·exact absurd e.symm (q j t i h _ (Fj.2 ⟨b,Or.inl rfl⟩) _ (Fj.2 ⟨l,Or.inl rfl⟩))
  ·rcases Nat.lt_trichotomy j i with h | h | h
   ·exact absurd e (q i hi j h _ (Fj.2 ⟨l,Or.inr ⟨c,r,rfl,n⟩⟩) _ (Fj.2 ⟨b,Or.inr ⟨a,g,rfl,f⟩⟩))
   ·subst h;refine⟨rfl,?_⟩;have w:=v j t;unfold Ck at w;rw[if_neg l]at w;have u:(Bk (Eh (p.s (AK (p.s rs.toNat) j).toNat))).Nodup:=(List.nodup_cons.1 w).2;unfold Eh at u;rw[Ou]at u;rcases Nat.lt_trichotomy c a with h | h | h
    ·exact absurd e (u a g c h f n)
    ·exact h
    ·exact absurd e.symm (u c r a h n f)
   ·exact absurd e.symm (q j t i h _ (Fj.2 ⟨b,Or.inr ⟨a,g,rfl,f⟩⟩) _ (Fj.2 ⟨l,Or.inr ⟨c,r,rfl,n⟩⟩))
 ·rintro⟨v,q⟩;refine⟨fun B=>?_,fun i hi=>?_,fun i hi j t x C y F e=>?_⟩
  ·obtain⟨z,D⟩:=J7.1 B;obtain⟨i,hi,C⟩:=Gf.1 D;obtain⟨b,h | ⟨a,g,h,f⟩⟩:=Fj.1 (J7.2 ⟨z,C⟩)
   ·exact Vd A hi b h.symm
   ·exact Gg E (d i hi b a g f) h
  ·by_cases b:Nil (AK (p.s rs.toNat) i) (AW (p.s rs.toNat) i)
   ·unfold Ck;rw[if_pos b];simp[Bk]
   ·unfold Ck;rw[if_neg b];show(AK (p.s rs.toNat) i :: Bk (Eh _)).Nodup;rw[List.nodup_cons];unfold Eh;refine⟨fun B=>?_,?_⟩
    ·obtain⟨a,g,h,f⟩:=P3.1 B;exact Gg (k i hi b) (d i hi b a g f) h
    ·rw[Ou];intro a g c r f n e;have:=(q i hi i hi a g c (by omega) b b f n e).2;omega
  ·have m:j<8:=(by omega);subst e;obtain⟨l,h | ⟨c,r,h,n⟩⟩:=Fj.1 C
   ·obtain⟨b,o | ⟨a,g,o,f⟩⟩:=Fj.1 F
    ·have:=v i hi j m b l (by rw[<-h,<-o]);omega
    ·exact Gg (k j m l) (d i hi b a g f) (h▸o)
   ·obtain⟨b,o | ⟨a,g,o,f⟩⟩:=Fj.1 F
    ·exact Gg (k i hi b) (d j m l c r n) (o▸h)
    ·have:=(q i hi j m a g c r b l f n (by rw[<-h,<-o])).1;omega
structure Ext (p q:A7):Prop where
 n:q.n=p.n
 hn:q.hn=p.hn
 h:q.h=p.h
 s:∀j,¬Ah (p.s j)->q.s j=p.s j
theorem Ext.refl(p:A7):Ext p p:=⟨rfl,rfl,rfl,fun _ _=>rfl⟩
variable{q:A7}
theorem Ext.trans{r:A7}(h:Ext p q)(k:Ext q r):Ext p r:=⟨k.n.trans h.n,k.hn.trans h.hn,k.h.trans h.h,fun j a=>(k.s j (by rw[h.s j a];exact a)).trans (h.s j a)⟩
theorem Ext.set(hi:Ah (p.s i))(s:AH):Ext p (Au p i s):=⟨rfl,rfl,rfl,fun j a=>J2 p s (fun e=>a (e▸hi))⟩
theorem Ro(h:B8 p xs xb):¬Ah (p.s xs.toNat):=fun a=>by
 have:=a.1;have:=h.1;have:=h.2.2.2;omega
theorem Ext.at(h:Ext p q)(a:B8 p xs xb):q.s xs.toNat=p.s xs.toNat:=h.s _ (Ro a)
theorem Ext.points(h:Ext p q)(a:B8 p xs xb):B8 q xs xb:=⟨a.1,a.2.1,by rw[h.n];exact a.2.2.1,by rw[h.at a];exact a.2.2.2⟩
theorem Ext.has(h:Ext p q)(x:Int):Has q.hn q.h x↔Has p.hn p.h x:=by rw[h.hn,h.h]
theorem Ext.node(h:Ext p q)(a:Db p xs xb):Db q xs xb:=⟨h.points a.1,by rw[h.at a.1];exact a.2.1,fun e=>a.2.2 ((h.has xs).1 e)⟩
theorem Ext.AM(h:Ext p q)(a:Ep p xs xb):Ep q xs xb:=⟨h.points a.1,by rw[h.at a.1];exact a.2.1,fun e=>a.2.2 ((h.has xs).1 e)⟩
theorem Ext.low(h:Ext p q){s:AH}(a:LI p s):LI q s:=⟨fun i hi=>(a.1 i hi).imp id h.AM,a.2⟩
theorem Ext.kid(h:Ext p q)(b:Nil xs xb\/B8 p xs xb)(i:Nat):BU q xs xb i=BU p xs xb i/\Bf q xs xb i=Bf p xs xb i:=by
 unfold BU Bf;by_cases a:Nil xs xb
 ·simp only[if_pos a];exact⟨trivial,trivial⟩
 ·simp only[if_neg a];rw[h.at (b.resolve_left a)];exact⟨rfl,rfl⟩
theorem YY(b:B3 p xs xb):Nil xs xb\/B8 p xs xb:=b.imp id (fun a=>a.1.1)
theorem Yt(a:As p xs xb)(hi:i<8):Nil (BU p xs xb i) (Bf p xs xb i)\/B8 p (BU p xs xb i) (Bf p xs xb i):=(LY a hi).imp id And.left
theorem Ext.pages(h:Ext p q)(a:As p xs xb)(b:k<64):BZ q xs xb k=BZ p xs xb k/\Bh q xs xb k=Bh p xs xb k:=by
 unfold BZ Bh BV Bj;rw[(h.kid (YY a.2) (k / 8)).1,(h.kid (YY a.2) (k / 8)).2];exact h.kid (Yt a (by omega)) (k % 8)
def Fx(p:A7)(x:Int):Prop:=Ah (p.s x.toNat)
structure New (p:A7) (xs xb:Int) (n:Nat) (b:Int) (q:A7) (ys yb ms mb gs gb:Int):Prop where
 ext:Ext p q
 right:AZ q
 AM:Nil gs gb\/(Ep q gs gb/\Fx p gs)
 node:(Nil ms mb/\Df (Ao p xs xb n 1 gs) (Am p xs xb n 1 gb))\/(Db q ms mb/\Fx p ms/\q.s ms.toNat=Bc (Ao p xs xb n 1 gs) (Am p xs xb n 1 gb) b/\¬Df (Ao p xs xb n 1 gs) (Am p xs xb n 1 gb))
 root:(Nil ys yb/\Df (Ao p xs xb n 0 ms) (Am p xs xb n 0 mb))\/(Db q ys yb/\Fx p ys/\q.s ys.toNat=Bc (Ao p xs xb n 0 ms) (Am p xs xb n 0 mb) b/\¬Df (Ao p xs xb n 0 ms) (Am p xs xb n 0 mb))
 born:Nil gs gb\/gb=b
 only:∀j,q.s j=p.s j\/((j:Int)=gs/\¬Nil gs gb)\/((j:Int)=ms/\¬Nil ms mb)\/((j:Int)=ys/\¬Nil ys yb)
theorem Gi(f g:Nat->Int)(b:Int)(hi:i<8):AK (Bc f g b) i=f i/\AW (Bc f g b) i=g i:=⟨FE rfl hi,FD rfl hi⟩
variable{b ys ms mb gs gb:Int}
theorem New.nodes(h:New p xs xb n b q ys yb ms mb gs gb)(hi:i<8):BU q ys yb i=Ao p xs xb n 0 ms i/\Bf q ys yb i=Am p xs xb n 0 mb i:=by
 unfold BU Bf;rcases h.root with⟨a,c⟩ | ⟨a,c,d,e⟩
 ·simp only[if_pos a];exact⟨(c i hi).1.symm,(c i hi).2.symm⟩
 ·simp only[if_neg (Oj a)];rw[d];exact Gi _ _ _ hi
theorem New.lows(h:New p xs xb n b q ys yb ms mb gs gb)(hi:i<8):BU q ms mb i=Ao p xs xb n 1 gs i/\Bf q ms mb i=Am p xs xb n 1 gb i:=by
 unfold BU Bf;rcases h.node with⟨a,c⟩ | ⟨a,c,d,e⟩
 ·simp only[if_pos a];exact⟨(c i hi).1.symm,(c i hi).2.symm⟩
 ·simp only[if_neg (Oj a)];rw[d];exact Gi _ _ _ hi
theorem EB(hi:i≠n / 8):Ao p xs xb n 0 x i=BU p xs xb i/\Am p xs xb n 0 x i=Bf p xs xb i:=⟨if_neg hi,if_neg hi⟩
theorem Ng(hi:i≠n % 8):Ao p xs xb n 1 x i=BU p (BV p xs xb n) (Bj p xs xb n) i/\Am p xs xb n 1 x i=Bf p (BV p xs xb n) (Bj p xs xb n) i:=⟨if_neg hi,if_neg hi⟩
theorem New.pages(h:New p xs xb n b q ys yb ms mb gs gb)(d:As p xs xb)(m:k<64):BZ q ys yb k=(if k=n then gs else BZ p xs xb k)/\Bh q ys yb k=(if k=n then gb else Bh p xs xb k):=by
 obtain⟨j,l⟩:=h.nodes (i:=k / 8) (by omega);unfold BZ Bh;rw[show BV q ys yb k=Ao p xs xb n 0 ms (k / 8)from j,show Bj q ys yb k=Am p xs xb n 0 mb (k / 8)from l];by_cases e:k / 8=n / 8
 ·rw[show Ao p xs xb n 0 ms (k / 8)=ms from if_pos e,show Am p xs xb n 0 mb (k / 8)=mb from if_pos e];obtain⟨f,g⟩:=h.lows (i:=k % 8) (by omega);rw[f,g];by_cases c:k % 8=n % 8
  ·have a:k=n:=(by omega);rw[if_pos a,if_pos a];exact⟨if_pos c,if_pos c⟩
  ·have a:k≠n:=fun h=>c (by rw[h])
   rw[if_neg a,if_neg a,(Ng c).1,(Ng c).2];unfold BV Bj;rw[e];exact⟨rfl,rfl⟩
 ·have a:k≠n:=fun h=>e (by rw[h])
  rw[if_neg a,if_neg a,(EB e).1,(EB e).2];exact h.ext.kid (Yt d (by omega)) (k % 8)
theorem GA(o:As p xs xb){z:Int×Int}:z∈AG p xs xb↔(z=(xs,xb)/\¬Nil xs xb)\/(∃i,i<8/\z=(BU p xs xb i,Bf p xs xb i)/\¬Nil (BU p xs xb i) (Bf p xs xb i))\/∃k,k<64/\z=(BZ p xs xb k,Bh p xs xb k)/\¬Nil (BZ p xs xb k) (Bh p xs xb k):=by
 by_cases c:Nil xs xb
 ·have e0:∀i,BU p xs xb i=0/\Bf p xs xb i=0:=fun i=>⟨if_pos c,if_pos c⟩
  have d:∀k,Nil (BZ p xs xb k) (Bh p xs xb k):=fun k=>by
   have hn:Nil (BV p xs xb k) (Bj p xs xb k):=e0 (k / 8);exact⟨if_pos hn,if_pos hn⟩
  unfold AG;rw[if_pos c];constructor
  ·intro h;simp at h
  ·rintro(⟨_,h⟩ | ⟨i,_,_,h⟩ | ⟨k,_,_,h⟩)
   ·exact absurd c h
   ·exact absurd (e0 i) h
   ·exact absurd (d k) h
 ·have e0:∀i,BU p xs xb i=AK (p.s xs.toNat) i/\Bf p xs xb i=AW (p.s xs.toNat) i:=fun i=>⟨if_neg c,if_neg c⟩
  unfold AG;rw[if_neg c,List.mem_cons,Gf];constructor
  ·rintro(h | ⟨i,hi,h⟩)
   ·exact Or.inl ⟨h,c⟩
   ·obtain⟨hn,h⟩:=I5.1 h;rw[<-(e0 i).1,<-(e0 i).2]at hn;rcases h with h | h
    ·exact Or.inr (Or.inl ⟨i,hi,by rw[(e0 i).1,(e0 i).2];exact h,hn⟩)
    ·obtain⟨a,q,h,n⟩:=Gk.1 h;have q1:(i*8+a) / 8=i:=(by omega);have l:(i*8+a) % 8=a:=(by omega);have d:BZ p xs xb (i*8+a)=AK (p.s (AK (p.s xs.toNat) i).toNat) a:=by
      unfold BZ BV Bj;rw[q1,l];unfold BU at hn ⊢;rw[if_neg c]at hn ⊢;rw[if_neg hn]
     have f:Bh p xs xb (i*8+a)=AW (p.s (AK (p.s xs.toNat) i).toNat) a:=by
      have e:=hn;rw[(e0 i).1,(e0 i).2]at e;unfold Bh BV Bj;rw[q1,l,(e0 i).1,(e0 i).2];exact if_neg e
     exact Or.inr (Or.inr ⟨i*8+a,by omega,by rw[d,f];exact h,by rw[d,f];exact n⟩)
  ·rintro(⟨h,_⟩ | ⟨i,hi,h,hn⟩ | ⟨k,r,h,hn⟩)
   ·exact Or.inl h
   ·rw[(e0 i).1,(e0 i).2]at h hn;exact Or.inr ⟨i,hi,I5.2 ⟨hn,Or.inl h⟩⟩
   ·have b:¬Nil (BV p xs xb k) (Bj p xs xb k):=fun j=>hn ⟨if_pos j,if_pos j⟩
    have d:BZ p xs xb k=AK (p.s (BV p xs xb k).toNat) (k % 8):=if_neg b;have f:Bh p xs xb k=AW (p.s (BV p xs xb k).toNat) (k % 8):=if_neg b;rw[d,f]at h hn;have g:BV p xs xb k=AK (p.s xs.toNat) (k / 8):=(e0 (k / 8)).1;have m:Bj p xs xb k=AW (p.s xs.toNat) (k / 8):=(e0 (k / 8)).2;rw[g]at h hn;rw[g,m]at b;exact Or.inr ⟨k / 8,by omega,I5.2 ⟨b,Or.inr (Gk.2 ⟨k % 8,by omega,h,hn⟩)⟩⟩
end Go.Proofs.YtddigaohmfpepaaGreatDoor
