/- A part of the proof. -/
import Derived.Test.YtehdoekmnicdiaaGreatDoorF19
set_option linter.unusedVariables false
set_option maxRecDepth 20000
set_option maxHeartbeats 4000000
namespace Go.Proofs.YtehdoekmnicdiaaGreatDoor
open Go.RowKit Go.Maps
theorem zHN(s t:ByteArray):(s.toList == t.toList)=true↔s=t:=⟨fun h=>GA (by simpa using h),fun h=>qX h⟩
theorem zDi(a:Option Addr)(c:Nat)(s:Ae)(name:ByteArray)(T:Nat)(w:World)(f:w.cell? ⟨T,0,none⟩=some (.string name)) :
 Calls Tryz.prog 176 #[DE (.slice a s.dn c) s,.pointer (some ⟨T,0,none⟩)] w fun e w'=>AL (s.set=name) e/\Below w.heap.size w w':=by
 unfold DE;have d:=AC w (.cells #[.int .i64 s.id,.string s.name,.string s.set,.int .i64 s.A6,.int .i64 s.time,.int .i64 s.rs,.int .i64 s.rb,.slice a s.dn c] 83);have g:=(d.cell (p:=⟨T,0,none⟩) (AZ f)).trans f;obtain⟨⟨⟨h,-⟩,⟨i,-⟩,⟨j,-⟩,⟨k,-⟩⟩,-⟩:=Dc.new w (.int .i64 s.id) (.string s.name) (.string s.set) (.int .i64 s.A6) (.int .i64 s.time) (.int .i64 s.rs) (.int .i64 s.rb) (.slice a s.dn c) 83;clear f;have b:=A3 (zHN s.set name);go_enter Tryz.func176,Tryz.ntmps176;go_wp2;go_ret;exact⟨⟨_,rfl,b.out⟩,d⟩
def Eu(w:World)(base:Nat)(v:Value)(n:Nat):Prop:=∃xs,w.ownsRow base 83 8 v n xs
variable{w w1:World}{base n:Nat}{v:Value}
theorem Eu.A0(h:Eu w base v n)(a:Below w.heap.size w w1):Eu w1 base v n:=by
 obtain⟨xs,h⟩:=h;exact⟨xs,h.kept (EC a none) (by cases v.ownBlock<;>simp)⟩
theorem Eu.lt(h:Eu w base v n){q:Nat}(a:v.ownBlock=some q):base<=q/\q<w.heap.size:=by
 obtain⟨xs,h⟩:=h;rcases h.2 with⟨rfl,_⟩ | ⟨g,cap,b,rfl,c,d,_⟩
 ·simp[Value.ownBlock]at a
 ·simp only[Value.ownBlock,Option.some.injEq]at a;subst a;exact⟨c,(Array.getElem?_eq_some_iff.1 d).1⟩
variable{row:Option Nat}
theorem Eu.AD(h:Eu w base v n)(b:w.grownBy w1 row)(a:∀q,v.ownBlock=some q->row≠some q):Eu w1 base v n:=by
 obtain⟨xs,h⟩:=h;refine⟨xs,h.kept b ?_⟩;cases hv:v.ownBlock with
 | none=>simp
 | some q=>exact Or.inr (fun e=>a q hv e.symm)
theorem zAH:(Tryz.prog.info? 83).map (fun i=>(i.zero,i.size,i.bytes))=some (some (.agg #[.int .i64 0,.string ⟨#[]⟩,.string ⟨#[]⟩,.int .i64 0,.int .i64 0,.int .i64 0,.int .i64 0,.slice none 0 0]),8,96):=by kernel_rfl
def zIv(w w':World)(v v':Value)(n n':Nat):Prop:=Eu w' w.heap.size v n/\Eu w' w.heap.size v' n'/\(∀q,v.ownBlock=some q->v'.ownBlock≠some q)/\Below w.heap.size w w'
theorem XM{w2:World}{g cap n':Nat}{v':Value}{xs:List Value}(d:Eu w1 base v' n')(f:∀q,v.ownBlock=some q->v'.ownBlock≠some q)
 (a:w2.ownsRow base 83 8 (.slice (some ⟨g,0,none⟩) (n+1) cap) (n+1) xs) (i:w1.grownBy w2 v.ownBlock) (c:v.ownBlock=some g\/g=w1.heap.size) :
 Eu w2 base (.slice (some ⟨g,0,none⟩) (n+1) cap) (n+1)/\Eu w2 base v' n'/\(∀q,(Value.slice (some ⟨g,0,none⟩) (n+1) cap).ownBlock=some q->v'.ownBlock≠some q):=by
 refine⟨⟨xs,a⟩,d.AD i (fun q b e=>f q e b),fun q b e=>?_⟩;simp only[Value.ownBlock,Option.some.injEq]at b;subst b;rcases c with h | h
 ·exact f _ h e
 ·have:=(d.lt e).2;omega
theorem zCH(v:Value)(lo hi:Nat)(W:A4)(name:ByteArray)(T:Nat)(w:World)(h:EJ w lo hi v W.pn W.A2)(hn:W.pn<=20)(hT:w.cell? ⟨T,0,none⟩=some (.string name)) :
 Calls Tryz.prog 175 #[v,.func (.func 176) #[] #[.pointer (some ⟨T,0,none⟩)]] w fun e w'=>∃a c Z,e = .returned (.tuple #[.slice a (ownN W name W.pn) c,Z])/\Below w.heap.size w w':=by
 have Hp:=A3 h;have HT:=A3 hT;obtain⟨m1,a,c,rfl,mc,-⟩:=id h;unfold maxLen at m1;clear h hT;obtain⟨i0,K,D⟩:=Option.map_eq_some_iff.1 zAH;simp only[Prod.mk.injEq]at D;have u:=A3 (And.intro K D);clear K D;have aB:∀(fn:Fn) (first cap:Array Value) (w:World),(Instr.makeFunc fn first cap).run Tryz.prog w = .ok (.func fn first cap) w:=fun _ _ _ _=>rfl
 go_enter Tryz.func175,Tryz.ntmps175;go_wp2
 go_loopw [6,7,12] (fun vy Z i wr=>∃k:Nat,k<=W.pn/\i = .int .i64 k/\zIv w wr vy Z (ownN W name k) (k - ownN W name k)) (fun _ _ i _=>W.pn - (intOf i).toNat)
 case atStart=>exact⟨0,Nat.zero_le _,rfl,⟨[],World.ownsRow_nil _ _ _ _⟩,⟨[],World.ownsRow_nil _ _ _ _⟩,fun q l=>by simp[Value.ownBlock]at l,Below.refl _ _⟩
 case round=>
  obtain⟨k,hk,rfl,hy,ho,J,U⟩:=hrel;have Q:=A3 hy;have Ho:=A3 ho;have F:=A3 J;have eA:=Nc W name k;clear hy ho J;by_cases V:k<W.pn
  ·have fA:(k:Int)<(W.pn:Int):=(by omega);obtain⟨b,off,vd,rfl,f⟩:=(Hp.out.A0 U).cells V;obtain⟨-,A,B,rfl,-,-⟩:=id f.dead;have t:=AC wr (.cells #[.int .i64 (W.A2 k).id,.string (W.A2 k).name,.string (W.A2 k).set,.int .i64 (W.A2 k).A6,.int .i64 (W.A2 k).time,.int .i64 (W.A2 k).rs,.int .i64 (W.A2 k).rb,.slice A (W.A2 k).dn B] 83);have N:=A3 (Dc.new wr (.int .i64 (W.A2 k).id) (.string (W.A2 k).name) (.string (W.A2 k).set) (.int .i64 (W.A2 k).A6) (.int .i64 (W.A2 k).time) (.int .i64 (W.A2 k).rs) (.int .i64 (W.A2 k).rb) (.slice A (W.A2 k).dn B) 83);have C:=A7 U t;have E:=A3 ((C.cell (p:=⟨T,0,none⟩) (AZ HT.out)).trans HT.out);have q0:=f.c0;have q1:=f.c1;have q2:=f.c2;have q3:=f.c3;have q4:=f.c4;have q5:=f.c5;have q6:=f.c6;have q7:=f.c7;obtain⟨⟨⟨y0,-⟩,⟨y1,-⟩,⟨y2,-⟩,⟨y3,-⟩⟩,⟨y4,-⟩,⟨y5,-⟩,⟨y6,-⟩,⟨y7,-⟩⟩:=N.out;clear f;go_wp2_with fail;clear q0 q1 q2 q3 q4 q5 q6 q7 y0 y1 y2 y3 y4 y5 y6 y7;refine(zDi A B (W.A2 k) name T _ E.out).mono ?_;rintro e M ⟨⟨s,rfl,hs⟩,n⟩;have R:=A3 ((Q.out.A0 t).A0 n);have P:=A3 ((Ho.out.A0 t).A0 n);have O:=A3 (N.out.A0 n);have I:=A7 C n;clear n C t Q Ho N E;have bB:=I.size;obtain⟨⟨⟨y0,-⟩,⟨y1,-⟩,⟨y2,-⟩,⟨y3,-⟩⟩,⟨y4,-⟩,⟨y5,-⟩,⟨y6,-⟩,⟨y7,-⟩⟩:=O.out;have o:=AC M (.cells #[.int .i64 (W.A2 k).id,.string (W.A2 k).name,.string (W.A2 k).set,.int .i64 (W.A2 k).A6,.int .i64 (W.A2 k).time,.int .i64 (W.A2 k).rs,.int .i64 (W.A2 k).rb,.slice A (W.A2 k).dn B] 83);have z:=A3 (R.out.A0 o);have x:=A3 (P.out.A0 o);have r:=A7 I o;have cB:=o.size;have HN:=A3 (World.news_of_block (heap_alloc_last M (.cells #[.int .i64 (W.A2 k).id,.string (W.A2 k).name,.string (W.A2 k).set,.int .i64 (W.A2 k).A6,.int .i64 (W.A2 k).time,.int .i64 (W.A2 k).rs,.int .i64 (W.A2 k).rb,.slice A (W.A2 k).dn B] 83)));clear o;by_cases l:(W.A2 k).set=name
   ·obtain rfl:s=true:=hs.2 l;have H:=A3 (QL l);clear hs l;obtain⟨xs,g⟩:=z.out;have y:=A3 g;clear g;go_wp2_with (first
     | (at_builtin;refine wpList_append_lies _ rfl _ _ 28 rfl w.heap.size 83 i0 (.agg #[.int .i64 0,.string ⟨#[]⟩,.string ⟨#[]⟩,.int .i64 0,.int .i64 0,.int .i64 0,.int .i64 0,.slice none 0 0]) 8 96 (by kernel_rfl) u.out.1 u.out.2.1 u.out.2.2.1 u.out.2.2.2 rfl (by decide) _ _ _ rfl y.out ⟨M.heap.size,0,none⟩ 1 1 [.int .i64 (W.A2 k).id,.string (W.A2 k).name,.string (W.A2 k).set,.int .i64 (W.A2 k).A6,.int .i64 (W.A2 k).time,.int .i64 (W.A2 k).rs,.int .i64 (W.A2 k).rb,.slice A (W.A2 k).dn B] rfl rfl HN.out (by simp[Value.oneCell']) (by decide) (by unfold maxLen;omega) (by omega) (by omega) _ rfl ?_;intro g' G w4 j d m L)
     | go_in)
    go_roundw
    case rel=>
     obtain⟨r1,X,Y⟩:=XM x.out F.out j d m;refine⟨k+1,by omega,by go_num,by rw[H.out];exact r1,?_,Y,r.grown d r.size (fun q l=>(z.out.lt l).1)⟩;rw[H.out,show k+1 - (ownN W name k+1)=k - ownN W name k by omega];exact X
    case measure=>simp[intOf];omega
   ·obtain rfl:s=false:=BR hs l;have H:=A3 (Pk l);clear hs l;obtain⟨xs,g⟩:=x.out;have y:=A3 g;clear g;go_wp2_with (first
     | (at_builtin;refine wpList_append_lies _ rfl _ _ 28 rfl w.heap.size 83 i0 (.agg #[.int .i64 0,.string ⟨#[]⟩,.string ⟨#[]⟩,.int .i64 0,.int .i64 0,.int .i64 0,.int .i64 0,.slice none 0 0]) 8 96 (by kernel_rfl) u.out.1 u.out.2.1 u.out.2.2.1 u.out.2.2.2 rfl (by decide) _ _ _ rfl y.out ⟨M.heap.size,0,none⟩ 1 1 [.int .i64 (W.A2 k).id,.string (W.A2 k).name,.string (W.A2 k).set,.int .i64 (W.A2 k).A6,.int .i64 (W.A2 k).time,.int .i64 (W.A2 k).rs,.int .i64 (W.A2 k).rb,.slice A (W.A2 k).dn B] rfl rfl HN.out (by simp[Value.oneCell']) (by decide) (by unfold maxLen;omega) (by omega) (by omega) _ rfl ?_;intro g' G w4 j d m L)
     | go_in)
    go_roundw
    case rel=>
     obtain⟨r1,X,Y⟩:=XM z.out (fun q h S=>F.out q S h) j d m;refine⟨k+1,by omega,by go_num,by rw[H.out];exact X,?_,fun q h S=>Y q S h,r.grown d r.size (fun q l=>(x.out.lt l).1)⟩;rw[H.out,show k+1 - ownN W name k=k - ownN W name k+1 by omega];exact r1
    case measure=>simp[intOf];omega
  ·obtain rfl:k=W.pn:=(by omega);obtain⟨xs,g⟩:=Q.out;obtain⟨ay,cy,rfl,-⟩:=Bh g;clear g;go_wp2
   go_ret2
   exact⟨ay,cy,_,rfl,U⟩
variable{W:A4}{name:ByteArray}
theorem zr(a:name.toList.isEmpty=false)(y:Int):(AI W y).set=name↔FN W name y:=by
 constructor
 ·intro h;by_cases c:∃k,Be W y k
  ·obtain⟨k,b⟩:=c;rw[Dv b]at h;exact⟨k,b,h⟩
  ·have e:AI W y=DH:=(by unfold AI;rw[dif_neg c]);rw[e]at h;rw[<-h]at a;have d:DH.set.toList = []:=(by rw[Go.ByteArray.toList_eq];rfl);rw[d]at a;exact absurd a (by decide)
 ·rintro⟨k,b,h⟩;rw[Dv b];exact h
variable{start y:Int}
theorem ER.wf(h:ER W name start n y):(Lit.int .i64 y).wf=true:=by
 have a:=h.least;have b:=h.sum;exact WalkArith.wf_i64 (by omega)
theorem zCn(r v1 s o:Value)(lo hi:Nat)(W:A4)(A:Nat)(Q:Option Addr)(sc:Nat)(S:Ad)(w:World)(h:CE w lo hi r v1 s o W)(V:W.pn<=20)(hA:G6 w lo hi W A)(hD:I2 W)(hP:G3 W)(O:S.name.toList.isEmpty=false)(hS:S.A6=0\/CT W S.A6) :
 Calls Tryz.prog 144 #[Cn r v1 s o W,Fq (.slice Q S.dn sc) S,KP A] w fun e w'=>AL (F3 W S.name S.A6 S.origin) e/\Below w.heap.size w w':=by
 unfold Fq;have Hp:=A3 h;have HA:=A3 hA;have HD:=A3 hD;have HP:=A3 hP;have p:=A3 (zr (W:=W) O);have dA:=A3 hS;clear h hA hD hP O hS;have kB:∀(fn:Fn) (first cap:Array Value) (w:World),(Instr.makeFunc fn first cap).run Tryz.prog w = .ok (.func fn first cap) w:=fun _ _ _ _=>rfl
 have ha:=AC w (.cells #[r,v1,.int .i64 W.time,.int .i64 W.next,s,o] 30);have hB:=As.new w r v1 (.int .i64 W.time) (.int .i64 W.next) s o 30;have hz:(w.alloc (.cells #[r,v1,.int .i64 W.time,.int .i64 W.next,s,o] 30)).heap.size=w.heap.size+1:=World.size_alloc _ _;have B:=AC (w.alloc (.cells #[r,v1,.int .i64 W.time,.int .i64 W.next,s,o] 30)) (.cells #[.string S.name,.int .i64 S.origin,.int .i64 S.A6,.int .i64 S.rs,.int .i64 S.rb,.slice Q S.dn sc] 41);have E:=As.new (w.alloc (.cells #[r,v1,.int .i64 W.time,.int .i64 W.next,s,o] 30)) (.string S.name) (.int .i64 S.origin) (.int .i64 S.A6) (.int .i64 S.rs) (.int .i64 S.rb) (.slice Q S.dn sc) 41;rw[hz]at E;have d:=A3 E;have l:=A7 ha B;obtain⟨x0,x2,x4,x6,x8,kA⟩:=(hB.A0 B).c;clear E ha B hB;go_enter Tryz.func144,Tryz.ntmps144;go_wp2_with fail;clear x0 x2 x4 x6 x8 kA;generalize (w.alloc (.cells #[r,v1,.int .i64 W.time,.int .i64 W.next,s,o] 30)).alloc (.cells #[.string S.name,.int .i64 S.origin,.int .i64 S.A6,.int .i64 S.rs,.int .i64 S.rb,.slice Q S.dn sc] 41)=W0 at d l ⊢;refine(zCH o lo hi W S.name (w.heap.size+1) W0 (Hp.out.A2.A0 l) V d.out.1.1).mono ?_;rintro e w1 ⟨ay,cy,vo,rfl,C⟩;have t:=A3 (d.out.A0 C);have L:=A7 l C;have mB:=Nc W S.name W.pn;clear d l C hz;obtain⟨⟨Y,-⟩,⟨Z,-⟩,⟨y2,-⟩,-⟩:=t.out;go_wp2;clear Y Z y2;generalize w.heap.size+1=T at *
 go_loopw [9,10] (fun x i wr=>∃(n:Nat) (y:Int),i = .int .i64 n/\x = .int .i64 y/\ER W S.name S.A6 n y/\As wr T (.string S.name) (.int .i64 S.origin) (.int .i64 S.A6) (.int .i64 S.rs) (.int .i64 S.rb) (.slice Q S.dn sc)/\Below w.heap.size w wr) (fun x _ _=>(intOf x).toNat)
 case atStart=>exact⟨0,_,rfl,rfl,ER.start HP.out _ dA.out,t.out,L⟩
 case round=>
  clear t L;obtain⟨n,y,rfl,rfl,P,E,M⟩:=hrel;have d:=A3 E;have Hw:=A3 P;have v:=A3 P.wf;have bB:=P.sum;have jB:=P.least;clear E P;have j:=A3 (HA.out.A0 M);obtain⟨⟨Y,-⟩,⟨Z,-⟩,-⟩:=d.out;by_cases F:(AI W y).set=S.name
  ·obtain⟨X,f,N⟩:=(p.out y).1 F;have I:=A3 (Hw.out.next HP.out f N);have fA:=A3 (show(W.A2 X).A6<y by have q:=HP.out.less X f.1;have z:=f.2.1;omega);have iA:=A3 (show(AI W y).A6=(W.A2 X).A6 by rw[Dv f]);have Hq:=A3 F;clear f N F;go_wp2_with fail;go_region_held3 (fun w'=>w'.cell? ⟨T,0,none⟩=some (.string S.name)) (go_keep)
    (first | (go_at_call 142;refine(Jp lo hi W A y _ ?_ HD.out v.out V).mono ?_;(exact j.out.A0 (Below.refl _ _).drew);rintro e w6 ⟨R,U,rfl,g,a⟩;have m:=fun w=>(show(Instr.field 83 (DE (.slice R (AI W y).dn U) (AI W y)) 2).run Tryz.prog w = .ok (.string S.name) w by rw[<-Hq.out];exact(Om (.slice R (AI W y).dn U) (AI W y) w).2.1);obtain⟨⟨z0,_⟩,_⟩:=d.out.A0 (Cr a)))
   have k:=A3 (d.out.A0 (Cr a));have b:=RJ M a;have G:=A3 (HA.out.A0 b);have lB:(n:Int)<1000000:=(by omega);clear a g m z0 Y Z d j M;go_wp2_with fail;refine(Jp lo hi W A y _ G.out HD.out v.out V).mono ?_;rintro e w7 ⟨J,K,rfl,g,D⟩;have m:=fun w=>(show(Instr.field 83 (DE (.slice J (AI W y).dn K) (AI W y)) 3).run Tryz.prog w = .ok (.int .i64 (W.A2 X).A6) w by rw[<-iA.out];exact(Om (.slice J (AI W y).dn K) (AI W y) w).2.2.1)
   have eA:=A3 (k.out.A0 D);have jA:=A7 b D;clear g D k b G;go_wp2;go_roundw
   case rel=>exact⟨n+1,_,by go_num,rfl,I.out,eA.out,jA⟩
   case measure=>simp[intOf];have:=fA.out;have:=I.out.least;omega
  ·have gA:=A3 (fun h=>F ((p.out y).2 h));have f1:=qY F;clear F;go_wp2_with fail;go_region_held3 (fun w'=>w'.cell? ⟨T,0,none⟩=some (.string S.name)) (go_keep)
    (first | (go_at_call 142;refine(Jp lo hi W A y _ ?_ HD.out v.out V).mono ?_;(exact j.out.A0 (Below.refl _ _).drew);rintro e w6 ⟨R,U,rfl,g,a⟩;have m:=fun w=>(Om (.slice R (AI W y).dn U) (AI W y) w).2.1;obtain⟨⟨z0,_⟩,_⟩:=d.out.A0 (Cr a)))
   have k:=A3 (d.out.A0 (Cr a));have b:=RJ M a;clear a g m z0 Y Z d j M f1;obtain⟨⟨z0,-⟩,⟨z1,-⟩,-⟩:=k.out;have u:=A3 (V5 (origin:=S.origin) Hw.out.steps gA.out);by_cases q:n=ownN W S.name W.pn
   ·by_cases z:y=S.origin
    ·have H:=A3 (u.out.2 ⟨q,z⟩);have g1:((n:Int) == (ownN W S.name W.pn:Int))=true:=(by simp[q]);have g2:(y == S.origin)=true:=(by simp[z]);clear q z;go_wp2;go_ret;exact⟨AL.yes H.out,b⟩
    ·have H:=A3 (fun h=>z (u.out.1 h).2);have g1:((n:Int) == (ownN W S.name W.pn:Int))=true:=(by simp[q]);have g2:(y == S.origin)=false:=(by simp[z]);clear q z;go_wp2;go_ret;exact⟨AL.no H.out,b⟩
   ·have H:=A3 (fun h=>q (u.out.1 h).1);have h3:¬(n:Int)=(ownN W S.name W.pn:Int):=(by omega);have g1:((n:Int) == (ownN W S.name W.pn:Int))=false:=(by simp[h3]);clear q h3;go_wp2;go_ret;exact⟨AL.no H.out,b⟩
theorem zD5(r v1 T s:Value)(lo hi:Nat)(W:A4)(A:Nat)(w:World)(h:CE w lo hi r v1 T s W)(Y:W.pn<=20)(hs:W.sn<=8)(q:G6 w lo hi W A)(O:I2 W)(P:G3 W) :
 Calls Tryz.prog 78 #[Cn r v1 T s W,KP A] w fun e w'=>AL (∀i,i<W.sn->F3 W (W.A1 i).name (W.A1 i).A6 (W.A1 i).origin) e/\Below w.heap.size w w':=by
 have N:=A3 h;have U:=A3 q;have V:=A3 O;have z:=A3 P;obtain⟨Z,D,c',rfl,aA,-⟩:=id h.A1;unfold maxLen at Z;clear h q O P;have R:=AC w (.cells #[r,v1,.int .i64 W.time,.int .i64 W.next,.slice D W.sn c',s] 30);have y:=A3 (As.new w r v1 (.int .i64 W.time) (.int .i64 W.next) (.slice D W.sn c') s 30);obtain⟨G,H,I,J,K,p⟩:=y.out.c;go_enter Tryz.func78,Tryz.ntmps78;go_wp2;clear G H I J K p
 go_loopw [10] (fun i wr=>∃k:Nat,k<=W.sn/\i = .int .i64 k/\(∀j,j<k->F3 W (W.A1 j).name (W.A1 j).A6 (W.A1 j).origin)/\As wr w.heap.size r v1 (.int .i64 W.time) (.int .i64 W.next) (.slice D W.sn c') s/\Below w.heap.size w wr) (fun i _=>W.sn - (intOf i).toNat)
 case atStart=>exact⟨0,Nat.zero_le _,rfl,fun j X=>absurd X (Nat.not_lt_zero _),y.out,R⟩
 case round=>
  clear y R;obtain⟨k,hk,rfl,l,Q,x⟩:=hrel;have g:=A3 l;have M:=A3 Q;clear l Q;by_cases d:k<W.sn;rotate_left
  ·obtain rfl:k=W.sn:=(by omega);go_wp2;go_ret;exact⟨AL.yes g.out,x⟩
  have S:(k:Int)<(W.sn:Int):=(by omega);obtain⟨b,off,vd,rfl,a⟩:=(N.out.A1.A0 x).cells d;obtain⟨-,E,F,rfl,-,-⟩:=id a.dead;have o:=AC wr (.cells #[.string (W.A1 k).name,.int .i64 (W.A1 k).origin,.int .i64 (W.A1 k).A6,.int .i64 (W.A1 k).rs,.int .i64 (W.A1 k).rb,.slice E (W.A1 k).dn F] 41);have L:=A3 (As.new wr (.string (W.A1 k).name) (.int .i64 (W.A1 k).origin) (.int .i64 (W.A1 k).A6) (.int .i64 (W.A1 k).rs) (.int .i64 (W.A1 k).rb) (.slice E (W.A1 k).dn F) 41);have m:=A3 (M.out.A0 o);have f:=A7 x o;have q0:=a.c0;have q1:=a.c1;have q2:=a.c2;have q3:=a.c3;have q4:=a.c4;have q5:=a.c5;obtain⟨y0,y1,y2,y3,y4,y5⟩:=L.out.c;obtain⟨G,H,I,J,K,p⟩:=m.out.c;clear a o;go_wp2_with fail;clear q0 q1 q2 q3 q4 q5 y0 y1 y2 y3 y4 y5 G H I J K p M x L;refine(zCn r v1 _ s lo hi W A E F (W.A1 k) _ (N.out.A0 f) Y (U.out.A0 f) V.out z.out (z.out.Ap k d) (z.out.A1 k d)).mono ?_;rintro e w6 ⟨⟨t6,rfl,u⟩,n⟩;have B:=A3 (m.out.A0 n);have t:=A7 f n;have v:=A3 u;clear u n f m;cases t6
  ·have C:=A3 (show ¬F3 W (W.A1 k).name (W.A1 k).A6 (W.A1 k).origin from fun q=>absurd (v.out.2 q) (by simp));clear v;go_wp2;go_ret;exact⟨AL.no fun q=>C.out (q k d),t⟩
  ·have C:=A3 (v.out.1 rfl);clear v;go_wp2;go_roundw
   case rel=>exact⟨k+1,by omega,by go_num,Bu d g.out C.out,B.out,t⟩
   case measure=>simp[intOf];omega
structure Eh (W:A4):Prop where
 time:Jc W.time 1 900000
 next:Jc W.next 1 900000
 A1:yD W.sn W.A1
 A2:Zm W
structure D3 (W:A4):Prop where
 Ap:Eh W
 right:AY W.pool
 prevs:∀i,i<memN W->JV W i
 lines:∀i,i<W.sn->F3 W (W.A1 i).name (W.A1 i).A6 (W.A1 i).origin
 trees:Zn W
 homes:Lp W
theorem Eh.range(h:Eh W):∀i,i<W.pn->1<=(W.A2 i).id/\(W.A2 i).id<W.next/\1<=(W.A2 i).time/\(W.A2 i).time<W.time
 | 0,hi=>by
  have:=(h.A2.2.1 0 hi).2.2.2;have a:Mid 0 (W.A2 0).id W.next:=this.1;have b:Mid 0 (W.A2 0).time W.time:=this.2;have c:=a.1;have d:=a.2;have e:=b.1;have f:=b.2;omega
 | i+1,hi=>by
  have g:=h.range i (by omega);have:=(h.A2.2.1 (i+1) hi).2.2.2;have a:Mid (W.A2 i).id (W.A2 (i+1)).id W.next:=this.1;have b:Mid (W.A2 i).time (W.A2 (i+1)).time W.time:=this.2;have c:=a.1;have d:=a.2;have e:=b.1;have f:=b.2;omega
theorem Eh.rise(h:Eh W):∀i,i<W.pn->∀j,j<i->(W.A2 j).id<(W.A2 i).id
 | 0,_,j,hj=>absurd hj (Nat.not_lt_zero _)
 | i+1,hi,j,hj=>by
  have b:Mid (W.A2 i).id (W.A2 (i+1)).id W.next:=(h.A2.2.1 (i+1) hi).2.2.2.1;have a:=b.1;by_cases e:j=i
  ·subst e;exact a
  ·have:=h.rise i (by omega) j (by omega);omega
theorem Eh.dist(h:Eh W):I2 W:=fun i hi j a e=>by have:=h.rise i hi j a;omega
theorem Eh.idsWf(h:Eh W):Mw W.pn W.A2:=fun i hi=>by
 have a:=h.range i hi;have b:=h.next.2;exact WalkArith.wf_i64 (by omega)
theorem Eh.times(h:Eh W):Pm W:=fun x=>by
 by_cases b:∃k,Be W x k
 ·obtain⟨k,a⟩:=b;rw[Dv a];have c:=h.range k a.1;have d:=h.time.2;exact⟨by omega,by omega⟩
 ·have:AI W x=DH:=(by unfold AI;rw[dif_neg b]);rw[this];exact⟨Int.le_refl _,by decide⟩
variable{i:Nat}
theorem QM(c:NQ W):JV W i↔((A8 W i).A6=0\/CT W (A8 W i).A6):=by
 unfold JV;constructor
 ·intro h;by_cases b:∃k,Be W (A8 W i).A6 k
  ·obtain⟨k,a⟩:=b;exact Or.inr ⟨k,a.1,a.2.1⟩
  ·have e:AI W (A8 W i).A6=DH:=(by unfold AI;rw[dif_neg b]);rw[e]at h;exact Or.inl h.symm
 ·rintro(h | h)
  ·rw[h,RI (fun k a e=>by have:=c k a;omega)];rfl
  ·obtain⟨k,a⟩:=h.no;rw[Dv a];exact a.2.1
theorem Eh.EM(h:Eh W)(b:∀i,i<memN W->JV W i):G3 W where
 ids:=fun k a=>by have c:=h.range k a;have d:=h.next.2;omega
 A6:=fun k a=>by
  have:=(QM (fun k a=>(h.range k a).1)).1 (b k (by unfold memN;omega));rw[Co a]at this;exact this
 less:=fun k a=>(h.A2.2.1 k a).2.2.1
 A1:=fun k a=>by
  have:=(QM (fun k a=>(h.range k a).1)).1 (b (W.pn+k) (by unfold memN;omega));rw[Cp]at this;exact this
 Ap:=fun k a=>Rs (h.A1.2 k a).1
theorem zBd(h:G3 W)(hs:start=0\/CT W start):∀{n:Nat} {e:Int},Steps W name start n e->(e=0\/CT W e)
 | 0,_,.zero=>hs
 | n+1,_,.next (k:=k) _ hk _=>h.A6 k hk.1
variable{f:Nat->Ad}
theorem Y0(hn:Bp (f i).name):Ce (Fv f i) (f i).name↔(0<i->Ce (f (i - 1)).name (f i).name):=by
 cases i with
 | zero=>
  refine⟨fun _ h=>absurd h (by omega),fun _=>?_⟩;have b:=Rs hn;unfold Ce Fv;have c:(⟨#[]⟩:ByteArray).toList = []:=(by rw[Go.ByteArray.toList_eq]);rw[c];cases hl:(f 0).name.toList with
  | nil=>rw[hl]at b;exact absurd b (by decide)
  | cons a l=>simp[Op.bytesLess]
 | succ i=>exact⟨fun h _=>h,fun h=>h (by omega)⟩
theorem OB(W:A4):D3 W↔BE W:=by
 constructor
 ·intro h;have a:=h.Ap.EM h.prevs;have q:EG W:=by
   refine⟨h.Ap.time,h.Ap.next,h.Ap.A1.1,h.Ap.A2.1,fun i hi=>?_,fun i hi=>?_⟩
   ·have hs:=h.Ap.A1.2 i hi;refine⟨hs.1,(Y0 hs.1).1 hs.2,fun d=>(a.A1 i hi).resolve_left d,fun d=>?_⟩;obtain⟨n,e,p,_,_,rfl⟩:=h.lines i hi;exact(zBd a (a.A1 i hi) p).resolve_left d
   ·have hs:=h.Ap.A2.2.1 i hi;have l:=h.Ap.range i hi;refine⟨⟨l.1,l.2.1,l.2.2.1,l.2.2.2,hs.2.1,hs.1⟩,⟨fun r=>?_,fun d=>⟨hs.2.2.1,(a.A6 i hi).resolve_left d⟩⟩,fun k o=>h.Ap.A2.2.2 i hi k o⟩;cases i with
    | zero=>omega
    | succ i=>exact⟨hs.2.2.2.1.1,hs.2.2.2.2.1⟩
  have b:Ej W:=O5 h.right q (fun i hi=>by have:=h.trees.1 i (by unfold memN;omega);rw[Co hi]at this;exact this) (fun i hi=>by have:=h.trees.1 (W.pn+i) (by unfold memN;omega);rw[Cp]at this;exact this);have c:∀i,i<memN W->KE W (A8 W i):=fun i hi=>(Xs b hi).1 (h.trees.2 i hi)
  have f:=(Vd b (fun j m=>by have:=a.pos j m;omega) c).1 h.homes;exact⟨h.right,q,h.lines,fun i hi=>b.snap hi,fun i hi=>⟨b.set hi,(c (W.pn+i) (by unfold memN;omega)).1⟩,fun i hi=>(c i (by unfold memN;omega)).1,f.1,fun i hi=>(c i hi).2,f.2⟩
 ·intro h;have a:=h.Ap.EM;have b:Ej W:=O5 h.right h.Ap h.A2 (fun i hi=>(h.A1 i hi).1);have c:∀i,i<memN W->KE W (A8 W i):=fun i hi=>by
   refine⟨?_,h.born i hi⟩;by_cases g:i<W.pn
   ·exact h.dead i g
   ·have:=(h.A1 (i - W.pn) (by unfold memN at hi;omega)).2;rw[show W.pn+(i - W.pn)=i by omega]at this;exact this
  have f:=(Vd b (fun j m=>by have:=a.pos j m;omega) c).2 ⟨h.reach,h.C7⟩;refine⟨⟨h.Ap.1,h.Ap.2.1,⟨h.Ap.2.2.1,fun i hi=>?_⟩,⟨h.Ap.2.2.2.1,fun i hi=>?_,fun i hi k o=>(h.Ap.2.2.2.2.2 i hi).2.2 k o⟩⟩,h.right,fun i hi=>?_,h.lines,⟨b.tree,fun i hi=>(Xs b hi).2 (c i hi)⟩,f⟩
  ·have hs:=h.Ap.2.2.2.2.1 i hi;exact⟨hs.1,(Y0 hs.1).2 hs.2.1⟩
  ·have hs:=h.Ap.2.2.2.2.2 i hi;refine⟨hs.1.2.2.2.2.2,hs.1.2.2.2.2.1,a.less i hi,?_,?_⟩
   ·cases i with
    | zero=>exact⟨by have:=hs.1.1;show(0:Int)<_;omega,hs.1.2.1⟩
    | succ i=>exact⟨(hs.2.1.1 (by omega)).1,hs.1.2.1⟩
   ·cases i with
    | zero=>exact⟨by have:=hs.1.2.2.1;show(0:Int)<_;omega,hs.1.2.2.2.1⟩
    | succ i=>exact⟨(hs.2.1.1 (by omega)).2,hs.1.2.2.2.1⟩
  ·refine(QM a.pos).2 ?_;by_cases g:i<W.pn
   ·rw[Co g];exact a.A6 i g
   ·have e:=Cp W (i - W.pn);rw[show W.pn+(i - W.pn)=i by omega]at e;rw[e];exact a.A1 _ (by unfold memN at hi;omega)
def K5(w:World)(b:Nat)(v0 v1 v2 v3 v4 v5 v6 v7:Value):Prop:=AN w b 0 v0/\AN w b 1 v1/\AN w b 2 v2/\AN w b 3 v3/\AN w b 4 v4/\AN w b 5 v5/\AN w b 6 v6/\AN w b 7 v7
variable{w':World}{b:Nat}{v0 v1 v2 v3 v4 v5 v6 v7:Value}
theorem K5.A0(h:K5 w b v0 v1 v2 v3 v4 v5 v6 v7)(t:Below w.heap.size w w'):K5 w' b v0 v1 v2 v3 v4 v5 v6 v7:=⟨h.1.A0 t,h.2.1.A0 t,h.2.2.1.A0 t,h.2.2.2.1.A0 t,h.2.2.2.2.1.A0 t,h.2.2.2.2.2.1.A0 t,h.2.2.2.2.2.2.1.A0 t,h.2.2.2.2.2.2.2.A0 t⟩
theorem K5.new(w:World)(b v1 c d e f g h:Value)(t:TypeId):K5 (w.alloc (.cells #[b,v1,c,d,e,f,g,h] t)) w.heap.size b v1 c d e f g h:=by
 have a:(w.alloc (.cells #[b,v1,c,d,e,f,g,h] t)).heap[w.heap.size]?=some (.cells #[b,v1,c,d,e,f,g,h] t):=heap_alloc_new _ _;exact⟨Au a rfl,Au a rfl,Au a rfl,Au a rfl,Au a rfl,Au a rfl,Au a rfl,Au a rfl⟩
def Ua:Ad:=⟨⟨#[]⟩,0,0,0,0,0,fun _=>0,fun _=>0⟩
variable{p:A5}{xs:Int}{j:Nat}
theorem Up(b:j<=p.hn):Has j (CM p xs).h y↔Has j p.h y:=by
 constructor
 ·rintro⟨k,a,e⟩;exact⟨k,a,by rw[<-e];exact(if_neg (by omega:¬k=p.hn)).symm⟩
 ·rintro⟨k,a,e⟩;exact⟨k,a,by rw[<-e];exact if_neg (by omega:¬k=p.hn)⟩
theorem zAM{xb:Int}(c:AY p)(b:B5 p xs xb)(m:¬Has p.hn p.h xs):AY (CM p xs):=by
 refine⟨c.1,fun j d=>c.2.1 j d,fun j d=>?_⟩;by_cases e:j=p.hn
 ·subst e;have a:(CM p xs).h p.hn=xs:=if_pos rfl;refine⟨?_,?_,?_,?_⟩
  ·rw[a];exact b.2.1
  ·rw[a];exact b.2.2.1
  ·rw[a];intro n;have g:=b.2.2.2;have o:(p.s xs.toNat).birth=0:=n.1;have:=b.1;omega
  ·rw[a,Up (Nat.le_refl _)];exact m
 ·have f:j<p.hn:=(by have:j<p.hn+1:=d;omega);have a:(CM p xs).h j=p.h j:=if_neg e;obtain⟨i,k,l,g⟩:=c.2.2 j f;refine⟨?_,?_,?_,?_⟩
  ·rw[a];exact i
  ·rw[a];exact k
  ·rw[a];exact l
  ·rw[a,Up (by omega)];exact g
def BH(p:A5):List (Int×Int)->A5
 | []=>p
 | x :: l=>BH (CM p x.1) l
def CP(p:A5)(l:List (Int×Int)):Prop:=AY p/\(∀x,x∈l->B5 p x.1 x.2/\¬Has p.hn p.h x.1)/\(l.map Prod.fst).Nodup
theorem XR(h:Has (p.hn+1) (CM p xs).h y):Has p.hn p.h y\/y=xs:=by
 obtain⟨j,b,e⟩:=h;by_cases a:j=p.hn
 ·right;rw[<-e,a];exact if_pos rfl
 ·left;exact⟨j,by omega,by rw[<-e];exact(if_neg a).symm⟩
variable{l:List (Int×Int)}
theorem CP.head{x:Int×Int}(h:CP p (x :: l)):JP p x.1 x.2=⟨CM p x.1,0,0,0⟩/\CP (CM p x.1) l:=by
 obtain⟨d,f,a⟩:=h;obtain⟨b,c⟩:=f x List.mem_cons_self;rw[List.map_cons,List.nodup_cons]at a;refine⟨To d b c,zAM d b c,fun y g=>?_,a.2⟩;obtain⟨j,k⟩:=f y (List.mem_cons_of_mem _ g);refine⟨j,fun i=>?_⟩;rcases XR i with e | e
 ·exact k e
 ·exact a.1 (e▸List.mem_map_of_mem g)
theorem CP.cut{l':List (Int×Int)}:∀{l:List (Int×Int)} {p:A5},CP p (l ++ l')->CP (BH p l) l'
 | [],_,h=>h
 | x :: l,p,h=>CP.cut (l:=l) (p:=CM p x.1) (CP.head (p:=p) (x:=x) (l:=l ++ l') h).2
theorem Oy(x:Int×Int):∀(l:List (Int×Int)) (p:A5),BH p (l ++ [x])=CM (BH p l) x.1
 | [],_=>rfl
 | y :: l,p=>Oy x l (CM p y.1)
theorem EL:∀(l:List (Int×Int)) (p:A5),(BH p l).n=p.n/\(BH p l).s=p.s/\(BH p l).hn=p.hn+l.length
 | [],_=>⟨rfl,rfl,rfl⟩
 | y :: l,p=>by
  obtain⟨a,b,c⟩:=EL l (CM p y.1);refine⟨a,b,?_⟩;show(BH (CM p y.1) l).hn=_;rw[c,List.length_cons];show p.hn+1+l.length=_;omega
theorem CP.next(h:CP p l)(hi:i<l.length):JP (BH p (l.take i)) l[i].1 l[i].2=⟨BH p (l.take (i+1)),0,0,0⟩/\AY (BH p (l.take i)):=by
 have e:l=l.take i ++ l[i] :: l.drop (i+1):=by
  rw[List.getElem_cons_drop,List.take_append_drop]
 have a:CP (BH p (l.take i)) (l[i] :: l.drop (i+1)):=CP.cut (l:=l.take i) (by rw[<-e];exact h);refine⟨?_,a.1⟩;rw[a.head.1,List.take_succ_eq_append_getElem hi,Oy]
theorem CP.last(h:CP p l):AY (BH p l):=(CP.cut (l:=l) (l':=[]) (by rw[List.append_nil];exact h)).1
theorem MO(f g:Nat->Int)(t:Int):∀k,(Bj f g t k).Sublist ((List.range k).map fun i=>(f i,g i))
 | 0=>List.Sublist.refl _
 | k+1=>by
  rw[List.range_succ,List.map_append,List.map_singleton];unfold Bj;split
  ·exact(MO f g t k).append (List.Sublist.refl _)
  ·exact(MO f g t k).trans (List.sublist_append_left _ _)
theorem CP.sub{l':List (Int×Int)}(h:CP p l)(hs:l'.Sublist l):CP p l':=⟨h.1,fun x a=>h.2.1 x (hs.subset a),List.Nodup.sublist (hs.map _) h.2.2⟩
theorem CP.tree{rs rb:Int}(a:AY p)(b:Ay p rs rb):CP p (AF p rs rb):=by
 refine⟨a,fun x c=>?_,?_⟩
 ·have:=EE a b c;exact⟨this.1,this.2.2⟩
 ·rcases b with h | h
  ·rw[AF,if_pos h];exact List.nodup_nil
  ·exact h.2.2
def CJ(w:World)(e:TypeId)(s:Nat)(v:Value)(n:Nat):Prop:=
 (n=0/\∃a,v = .slice a 0 0)\/(0<n/\∃g cap cur,v = .slice (some ⟨g,0,none⟩) n cap/\w.heap[g]?=some (.cells cur e (0,0))/\n<=cap/\cap<=maxLen/\cur.size=cap*s)
variable{e:TypeId}{s:Nat}{xs:List Value}
theorem J9(h:w.ownsRow base e s v n xs)(k:n=0->∃a,v = .slice a 0 0):CJ w e s v n:=by
 rcases Nat.eq_zero_or_pos n with b | b
 ·exact Or.inl ⟨b,k b⟩
 ·rcases h.2 with h | ⟨g,cap,c,hv,_,j,d,f,i,_⟩
  ·omega
  ·exact Or.inr ⟨b,g,cap,c,hv,j,d,f,i⟩
theorem CJ.A0(h:CJ w e s v n)(t:Below w.heap.size w w'):CJ w' e s v n:=by
 rcases h with h | ⟨c,g,cap,a,hv,b,d⟩
 ·exact Or.inl h
 ·exact Or.inr ⟨c,g,cap,a,hv,(t.block g (Array.getElem?_eq_some_iff.1 b).1).trans b,d⟩
theorem CJ.kept(h:CJ w e s v n)(i:w.grownBy w' row)(b:0<n->v.ownBlock≠row):CJ w' e s v n:=by
 rcases h with h | ⟨c,g,cap,a,hv,d,f⟩
 ·exact Or.inl h
 ·exact Or.inr ⟨c,g,cap,a,hv,(i.block g (Array.getElem?_eq_some_iff.1 d).1 (fun e=>b c (by rw[hv];exact e))).trans d,f⟩
theorem zCb{g:Nat}{c:Array Value}(h:w.heap[g]?=some (.cells c e (0,0)))(a:Addr)(u:Value):∃b,(w.setCell a u).heap[g]?=some (.cells b e (0,0))/\b.size=c.size:=by
 by_cases d:a.block=g
 ·subst d;unfold World.setCell;simp only[Array.getElem?_modify,h,if_true,Option.map_some];refine⟨_,rfl,?_⟩;split<;>simp
 ·refine⟨c,?_,rfl⟩;unfold World.setCell;simp only[Array.getElem?_modify,d,if_false,h]
theorem CJ.set(h:CJ w e s v n)(a:Addr)(u:Value):CJ (w.setCell a u) e s v n:=by
 rcases h with h | ⟨f,g,cap,d,hv,l,i,j,k⟩
 ·exact Or.inl h
 ·obtain⟨b,c,hs⟩:=zCb l a u;exact Or.inr ⟨f,g,cap,b,hv,c,i,j,by rw[hs];exact k⟩
theorem CJ.owns(h:CJ w e s v n)(t:0<n)(q:xs.length=n*s)(o:∀g,v.ownBlock=some g->base<=g)
 (p:∀g,v.ownBlock=some g->∀j u,xs[j]?=some u->w.cell? ⟨g,j,none⟩=some u):w.ownsRow base e s v n xs:=by
 refine⟨q,?_⟩;rcases h with h | ⟨_,g,cap,a,hv,f,b,l,c⟩
 ·omega
 ·refine Or.inr ⟨g,cap,a,hv,o g (by rw[hv];rfl),f,b,l,c,?_⟩;have r:n*s<=a.size:=(by rw[c];exact Nat.mul_le_mul_right s b);refine List.ext_getElem? fun j=>?_
  rw[List.getElem?_take];by_cases i:j<n*s
  ·rw[if_pos i];have k:j<xs.length:=(by omega);have d:=p g (by rw[hv];rfl) j xs[j] (by rw[List.getElem?_eq_getElem k]);have m:w.cell? ⟨g,j,none⟩=a[j]?:=by
    simp[World.cell?,f]
   rw[m]at d;rw[List.getElem?_eq_getElem k,<-d,Array.getElem?_toList]
  ·rw[if_neg i,List.getElem?_eq_none (by omega)]
variable{P:Program}
theorem zDI(t ty e:TypeId)(i:TypeInfo)(a:Option Addr)(b:Addr)(m c:Nat)(k:P.underlying t=some (.slice e))(hi:P.info? e=some i)(j:0<m)(l:m*i.bytes<=140737488355328) :
 (Builtin.append_ #[t,t] ty #[.slice a 0 0,.slice (some b) m c]).run P w=(Builtin.append_ #[t,t] ty #[.slice none 0 0,.slice (some b) m c]).run P w:=by
 cases a with
 | none=>rfl
 | some a=>
  have d:¬m=0:=(by omega);have f:Builtin.nextslicecap m 0=m:=(by unfold Builtin.nextslicecap;simp[j]);have g:¬(281474976710656:Nat)<m*i.bytes:=(by omega);have h:∀w:World,(loadCells a 0).run P w = .ok #[] w:=fun w=>by first | rfl | simp[loadCells] | simp[loadCells,loadCellsFrom]
  simp[Builtin.append_,run_underlying k,sizeOf,typeInfo,hi,Builtin.lenOf,Builtin.firstCells,d,f,g,h]
theorem CJ.append(t ty e:TypeId)(i:TypeInfo)(z:Value)(s bytes base:Nat)(H:P.underlying t=some (.slice e))(hi:P.info? e=some i)(J:i.zero=some z)(l:i.size=s)(q:i.bytes=bytes)(B:z.cells.size=s)(A:0<s) (h:CJ w e s v n) (M:xs.length=n*s) (K:0<n->∀g,v.ownBlock=some g->base<=g) (L:0<n->∀g,v.ownBlock=some g->∀j u,xs[j]?=some u->w.cell? ⟨g,j,none⟩=some u)
 (r:Addr) (m c:Nat) (b:List Value) (y:b.length=m*s) (k:∀j u,b[j]?=some u->w.cell? (r.add j)=some u) (I:∀u∈b,u.oneCell'=true) (F:0<m) (x:n+m<=maxLen) (d:(n+m)*bytes<=140737488355328) (f:base<=w.heap.size) :
 ∃g cap w' row,(Builtin.append_ #[t,t] ty #[v,.slice (some r) m c]).run P w = .ok (.slice (some ⟨g,0,none⟩) (n+m) cap) w'/\w'.ownsRow base e s (.slice (some ⟨g,0,none⟩) (n+m) cap) (n+m) (xs ++ b)/\w.grownBy w' row/\(row=none\/(0<n/\row=v.ownBlock))/\((0<n/\v.ownBlock=some g)\/g=w.heap.size)/\g<w'.heap.size:=by
 rcases Nat.eq_zero_or_pos n with o | o
 ·rcases h with⟨_,a,rfl⟩ | ⟨N,_⟩
  ·subst o;obtain rfl:xs = []:=List.eq_nil_of_length_eq_zero (by omega);obtain⟨g,cap,w',G,C,D,p,E⟩:=run_append_lies (P:=P) w t ty base e i z s bytes H hi J l q B A (.slice none 0 0) 0 [] ⟨by simp,Or.inl ⟨rfl,rfl⟩⟩ r m c b y k I F x d f w.heap.size rfl;refine⟨g,cap,w',none,?_,C,D,Or.inl rfl,Or.inr ?_,E⟩
   ·rw[zDI t ty e i a r m c H hi F (by rw[q];simpa using d)];exact G
   ·rcases p with p | p
    ·cases p
    ·exact p
  ·omega
 ·obtain⟨g,cap,w',G,C,D,p,E⟩:=run_append_lies (P:=P) w t ty base e i z s bytes H hi J l q B A v n xs (h.owns o M (K o) (L o)) r m c b y k I F x d f w.heap.size rfl;exact⟨g,cap,w',v.ownBlock,G,C,D,Or.inr ⟨o,rfl⟩,p.imp (fun h=>⟨o,h⟩) id,E⟩
def F6(w:World)(S:Nat->Prop)(v:Value)(n:Nat)(f:Nat->Ad):Prop:=∃(bs:Nat) (kb:Nat->Nat) (kv:Nat->Value),EV w bs kb kv v n f/\OC kb n f/\(∀k,Gu bs kb n f k->S k)/\CJ w 41 6 v n/\∀i,i<n->CJ w 38 2 (kv i) (f i).dn
def FB(w:World)(S:Nat->Prop)(v:Value)(n:Nat)(f:Nat->Ae):Prop:=∃(bs:Nat) (kb:Nat->Nat) (kv:Nat->Value),G8 w bs kb kv v n f/\RH kb n f/\(∀k,KO bs kb n f k->S k)/\CJ w 83 8 v n/\∀i,i<n->CJ w 38 2 (kv i) (f i).dn
variable{S:Nat->Prop}
theorem F6.isIn(h:F6 w S v n f):GW w S v n f:=by
 obtain⟨a,e,kv,b,c,d,_⟩:=h;exact⟨a,e,kv,b,c,d⟩
theorem FB.isIn{f:Nat->Ae}(h:FB w S v n f):Fd w S v n f:=by
 obtain⟨a,e,kv,b,c,d,_⟩:=h;exact⟨a,e,kv,b,c,d⟩
theorem F6.A0(h:F6 w S v n f)(t:Below w.heap.size w w'):F6 w' S v n f:=by
 obtain⟨a,j,kv,b,c,d,e,g⟩:=h;exact⟨a,j,kv,b.A0 t,c,d,e.A0 t,fun i hi=>(g i hi).A0 t⟩
theorem FB.A0{f:Nat->Ae}(h:FB w S v n f)(t:Below w.heap.size w w'):FB w' S v n f:=by
 obtain⟨a,j,kv,b,c,d,e,g⟩:=h;exact⟨a,j,kv,b.A0 t,c,d,e.A0 t,fun i hi=>(g i hi).A0 t⟩
theorem F6.set(h:F6 w S v n f)(b o:Nat)(u:Value)(m:¬S b):F6 (w.setCell ⟨b,o,none⟩ u) S v n f:=by
 obtain⟨c,q,kv,d,g,a,j,l⟩:=h;exact⟨c,q,kv,d.AD (AE.put w b o u) (fun k p e=>m (e▸a k p)),g,a,j.set _ _,fun i hi=>(l i hi).set _ _⟩
theorem FB.set{f:Nat->Ae}(h:FB w S v n f)(b o:Nat)(u:Value)(m:¬S b):FB (w.setCell ⟨b,o,none⟩ u) S v n f:=by
 obtain⟨c,q,kv,d,g,a,j,l⟩:=h;exact⟨c,q,kv,d.AD (AE.put w b o u) (fun k p e=>m (e▸a k p)),g,a,j.set _ _,fun i hi=>(l i hi).set _ _⟩
theorem F6.put6(h:F6 w S v n f)(b:Nat)(c d u2 u3 u4 e:Value)(a:¬S b):F6 (put6 w b c d u2 u3 u4 e) S v n f:=(((((h.set b 0 c a).set b 1 d a).set b 2 u2 a).set b 3 u3 a).set b 4 u4 a).set b 5 e a
theorem FB.put6{f:Nat->Ae}(h:FB w S v n f)(b:Nat)(c d u2 u3 u4 e:Value)(a:¬S b):FB (put6 w b c d u2 u3 u4 e) S v n f:=(((((h.set b 0 c a).set b 1 d a).set b 2 u2 a).set b 3 u3 a).set b 4 u4 a).set b 5 e a
structure I7 (w:World) (P Q R:Nat->Prop) (v0 v1 v2 v3:Value) (W:A4):Prop where
 pool:DP w P v0 v1 W.pool
 A1:F6 w Q v2 W.sn W.A1
 A2:FB w R v3 W.pn W.A2
 pq:∀k,P k->¬Q k
 pr:∀k,P k->¬R k
 qr:∀k,Q k->¬R k
def DA(w:World)(lo hi:Nat)(v0 v1 v2 v3:Value)(W:A4):Prop:=∃P Q R,I7 w P Q R v0 v1 v2 v3 W/\∀k,P k\/Q k\/R k->lo<=k/\k<hi
variable{P Q R:Nat->Prop}
theorem I7.isIn(h:I7 w P Q R v0 v1 v2 v3 W):Ll w P Q R v0 v1 v2 v3 W:=⟨h.pool,h.A1.isIn,h.A2.isIn,h.pq,h.pr,h.qr⟩
variable{lo hi:Nat}
theorem DA.own(h:DA w lo hi v0 v1 v2 v3 W):EY w lo hi v0 v1 v2 v3 W:=by
 obtain⟨P,Q,R,h,a⟩:=h;exact⟨P,Q,R,h.isIn,a⟩
theorem I7.A0(h:I7 w P Q R v0 v1 v2 v3 W)(t:Below w.heap.size w w'):I7 w' P Q R v0 v1 v2 v3 W:=⟨h.pool.A0 t,h.A1.A0 t,h.A2.A0 t,h.pq,h.pr,h.qr⟩
theorem DA.A0(h:DA w lo hi v0 v1 v2 v3 W)(t:Below w.heap.size w w'):DA w' lo hi v0 v1 v2 v3 W:=by
 obtain⟨P,Q,R,h,a⟩:=h;exact⟨P,Q,R,h.A0 t,a⟩
theorem I7.set(h:I7 w P Q R v0 v1 v2 v3 W)(b o:Nat)(u:Value)(a:¬(P b\/Q b\/R b)):I7 (w.setCell ⟨b,o,none⟩ u) P Q R v0 v1 v2 v3 W:=
 ⟨h.pool.AD (AE.put w b o u) (fun k c e=>a (Or.inl (e▸c))),h.A1.set b o u (fun h=>a (Or.inr (Or.inl h))),h.A2.set b o u (fun h=>a (Or.inr (Or.inr h))),h.pq,h.pr,h.qr⟩
theorem DA.set(h:DA w lo hi v0 v1 v2 v3 W)(b o:Nat)(u:Value)(d:b<lo\/hi<=b):DA (w.setCell ⟨b,o,none⟩ u) lo hi v0 v1 v2 v3 W:=by
 obtain⟨P,Q,R,h,a⟩:=h;exact⟨P,Q,R,h.set b o u (fun c=>by have:=a b c;omega),a⟩
theorem DA.put6(h:DA w lo hi v0 v1 v2 v3 W)(b:Nat)(c d u2 u3 u4 e:Value)(a:b<lo\/hi<=b):DA (put6 w b c d u2 u3 u4 e) lo hi v0 v1 v2 v3 W:=(((((h.set b 0 c a).set b 1 d a).set b 2 u2 a).set b 3 u3 a).set b 4 u4 a).set b 5 e a
theorem DA.form(h:DA w lo hi v0 v1 v2 v3 W):∃a c0 b c1 c e d c3,v0 = .slice a W.pool.n c0/\v1 = .slice b W.pool.hn c1/\v2 = .slice c W.sn e/\v3 = .slice d W.pn c3:=h.own.form
theorem DA.wide{lo' hi':Nat}(h:DA w lo hi v0 v1 v2 v3 W)(c:lo'<=lo)(d:hi<=hi'):DA w lo' hi' v0 v1 v2 v3 W:=by
 obtain⟨P,Q,R,h,b⟩:=h;exact⟨P,Q,R,h,fun k a=>by have:=b k a;omega⟩
def zo(W:A4)(w:World)(e:Ending)(w':World):Prop:=∃v0 v1 v2 v3,e = .returned (Cn v0 v1 v2 v3 W)/\DA w' w.heap.size w'.heap.size v0 v1 v2 v3 W/\Below w.heap.size w w'
theorem zC2(h:w.grownBy w' row):AE (fun k=>row=some k) w w':=⟨h.os,h.tape,h.output,h.size,fun k a hn=>h.block k a (fun e=>hn e.symm)⟩
def MM(W:A4)(k:Nat)(name set:ByteArray):Ae:={id:=W.next,name:=name,set:=set,A6:=(W.A1 k).A6,time:=W.time,rs:=(W.A1 k).rs,rb:=(W.A1 k).rb,dn:=(W.A1 k).dn,ds:=(W.A1 k).ds,db:=(W.A1 k).db}
def UE(W:A4)(k:Nat)(name set:ByteArray):A4:={W with time:=W.time+1,next:=W.next+1,A1:=fun j=>if j=k then {W.A1 k with A6:=W.next,dn:=0}else W.A1 j,pn:=W.pn+1,A2:=fun j=>if j=W.pn then MM W k name set else W.A2 j}
def ins{α : Type}(f:Nat->α)(k:Nat)(s:α):Nat->α:=fun j=>if j<k then f j else if j=k then s else f (j - 1)
variable{α:Type}{k:Nat}
theorem Zk{f:Nat->α}{s:α}(h:j<k):ins f k s j=f j:=if_pos h
theorem Zi{f:Nat->α}{s:α}:ins f k s k=s:=by
 unfold ins;rw[if_neg (Nat.lt_irrefl _),if_pos rfl]
theorem Zj{f:Nat->α}{s:α}(h:k<j):ins f k s j=f (j - 1):=by
 unfold ins;rw[if_neg (by omega),if_neg (by omega)]
def Jb(W:A4)(k:Nat)(s:Ad):A4:={W with sn:=W.sn+1,A1:=ins W.A1 k s}
def noW:A4:={pool:=Ck 0,time:=0,next:=0,sn:=0,A1:=fun _=>⟨⟨#[]⟩,0,0,0,0,0,fun _=>0,fun _=>0⟩,pn:=0,A2:=fun _=>⟨0,⟨#[]⟩,⟨#[]⟩,0,0,0,0,0,fun _=>0,fun _=>0⟩}
theorem TO:EY w lo hi (.slice none 0 0) (.slice none 0 0) (.slice none 0 0) (.slice none 0 0) noW:=by
 refine⟨fun k=>lo<=k/\k<hi,fun _=>False,fun _=>False,⟨(QJ (lo:=lo) (hi:=hi)).isIn (fun k b c=>⟨b,c⟩),?_,?_,fun _ _ h=>h,fun _ _ h=>h,fun _ h=>h.elim⟩,fun k a=>?_⟩
 ·exact⟨0,fun _=>0,fun _=>.slice none 0 0,⟨Nat.zero_le _,none,0,rfl,Nat.le_refl _,fun h=>absurd h (Nat.lt_irrefl _)⟩,fun i j hi=>absurd hi (Nat.not_lt_zero _),fun k a=>by
   rcases a with⟨h,_⟩ | ⟨i,h,_⟩
   ·exact absurd h (Nat.lt_irrefl _)
   ·exact absurd h (Nat.not_lt_zero _)⟩
 ·exact⟨0,fun _=>0,fun _=>.slice none 0 0,⟨Nat.zero_le _,none,0,rfl,Nat.le_refl _,fun h=>absurd h (Nat.lt_irrefl _)⟩,fun i j hi=>absurd hi (Nat.not_lt_zero _),fun k a=>by
   rcases a with⟨h,_⟩ | ⟨i,h,_⟩
   ·exact absurd h (Nat.lt_irrefl _)
   ·exact absurd h (Nat.not_lt_zero _)⟩
 ·rcases a with h | h | h
  ·exact h
  ·exact h.elim
  ·exact h.elim
def Bd(w:World)(b:Nat)(v0 v1 v2 v3 v4 v5 v6 v7 v8:Value):Prop:=AN w b 0 v0/\AN w b 1 v1/\AN w b 2 v2/\AN w b 3 v3/\AN w b 4 v4/\AN w b 5 v5/\AN w b 6 v6/\AN w b 7 v7/\AN w b 8 v8
variable{v8:Value}
theorem Bd.c(h:Bd w b v0 v1 v2 v3 v4 v5 v6 v7 v8):w.cell? ⟨b,0,none⟩=some v0/\w.cell? ⟨b,1,none⟩=some v1/\w.cell? ⟨b,2,none⟩=some v2/\w.cell? ⟨b,3,none⟩=some v3/\w.cell? ⟨b,4,none⟩=some v4/\w.cell? ⟨b,5,none⟩=some v5/\w.cell? ⟨b,6,none⟩=some v6/\w.cell? ⟨b,7,none⟩=some v7/\w.cell? ⟨b,8,none⟩=some v8:=
 ⟨h.1.1,h.2.1.1,h.2.2.1.1,h.2.2.2.1.1,h.2.2.2.2.1.1,h.2.2.2.2.2.1.1,h.2.2.2.2.2.2.1.1,h.2.2.2.2.2.2.2.1.1,h.2.2.2.2.2.2.2.2.1⟩
theorem Bd.A0(h:Bd w b v0 v1 v2 v3 v4 v5 v6 v7 v8)(t:Below w.heap.size w w'):Bd w' b v0 v1 v2 v3 v4 v5 v6 v7 v8:=⟨h.1.A0 t,h.2.1.A0 t,h.2.2.1.A0 t,h.2.2.2.1.A0 t,h.2.2.2.2.1.A0 t,h.2.2.2.2.2.1.A0 t,h.2.2.2.2.2.2.1.A0 t,h.2.2.2.2.2.2.2.1.A0 t,h.2.2.2.2.2.2.2.2.A0 t⟩
theorem Bd.AD(h:Bd w b v0 v1 v2 v3 v4 v5 v6 v7 v8)(t:AE S w w')(hs:¬S b):Bd w' b v0 v1 v2 v3 v4 v5 v6 v7 v8:=⟨h.1.AD t hs,h.2.1.AD t hs,h.2.2.1.AD t hs,h.2.2.2.1.AD t hs,h.2.2.2.2.1.AD t hs,h.2.2.2.2.2.1.AD t hs,h.2.2.2.2.2.2.1.AD t hs,h.2.2.2.2.2.2.2.1.AD t hs,h.2.2.2.2.2.2.2.2.AD t hs⟩
theorem Bd.new(w:World)(b v1 c d e f g h i:Value)(t:TypeId):Bd (w.alloc (.cells #[b,v1,c,d,e,f,g,h,i] t)) w.heap.size b v1 c d e f g h i:=by
 have a:(w.alloc (.cells #[b,v1,c,d,e,f,g,h,i] t)).heap[w.heap.size]?=some (.cells #[b,v1,c,d,e,f,g,h,i] t):=heap_alloc_new _ _;exact⟨Au a rfl,Au a rfl,Au a rfl,Au a rfl,Au a rfl,Au a rfl,Au a rfl,Au a rfl,Au a rfl⟩
abbrev put9(w:World)(b:Nat)(u0 u1 u2 u3 u4 u5 u6 u7 u8:Value):World:=((((((((w.setCell ⟨b,0,none⟩ u0).setCell ⟨b,1,none⟩ u1).setCell ⟨b,2,none⟩ u2).setCell ⟨b,3,none⟩ u3).setCell ⟨b,4,none⟩ u4).setCell ⟨b,5,none⟩ u5).setCell ⟨b,6,none⟩ u6).setCell ⟨b,7,none⟩ u7).setCell ⟨b,8,none⟩ u8
theorem Bd.put(h:Bd w b v0 v1 v2 v3 v4 v5 v6 v7 v8)(a d u2 u3 u4 f g j u8:Value):Bd (put9 w b a d u2 u3 u4 f g j u8) b a d u2 u3 u4 f g j u8:=
 have H (i:Nat) (u v:Value) (e:[a,d,u2,u3,u4,f,g,j,u8][i]?=some u) (c:AN w b i v):AN (put9 w b a d u2 u3 u4 f g j u8) b i u:=Li [a,d,u2,u3,u4,f,g,j,u8] w 0 i i e (Nat.zero_add i) c
 ⟨H 0 _ _ rfl h.1,H 1 _ _ rfl h.2.1,H 2 _ _ rfl h.2.2.1,H 3 _ _ rfl h.2.2.2.1,H 4 _ _ rfl h.2.2.2.2.1,H 5 _ _ rfl h.2.2.2.2.2.1,H 6 _ _ rfl h.2.2.2.2.2.2.1,H 7 _ _ rfl h.2.2.2.2.2.2.2.1,H 8 _ _ rfl h.2.2.2.2.2.2.2.2⟩
theorem AE.put9(w:World)(b:Nat)(a c u2 u3 u4 d e f u8:Value):AE (fun k=>k=b) w (put9 w b a c u2 u3 u4 d e f u8):=((((((((AE.put w b 0 a).trans (AE.put _ b 1 c)).trans (AE.put _ b 2 u2)).trans (AE.put _ b 3 u3)).trans (AE.put _ b 4 u4)).trans (AE.put _ b 5 d)).trans (AE.put _ b 6 e)).trans (AE.put _ b 7 f)).trans (AE.put _ b 8 u8)
end Go.Proofs.YtehdoekmnicdiaaGreatDoor
