/- A part of the proof. -/
import Derived.Test.YtddigaohmfpepaaGreatDoorF13
import Derived.LaidEql
import Derived.Stop.Asserts
import Derived.RowKitTokens
set_option linter.unusedVariables false
set_option maxRecDepth 20000
set_option maxHeartbeats 4000000
namespace Go.Proofs.YtddigaohmfpepaaGreatDoor
open Go.RowKit Go.Maps
variable{W:A6}
theorem zIJ(h:∀i,i<memN W->B3 W.pool (AA W i).rs (AA W i).rb)(x:Int):B3 W.pool (AI W x).rs (AI W x).rb:=by
 by_cases b:∃k,BW W x k
 ·obtain⟨k,a⟩:=b;rw[DW a];have:=h k (by unfold memN;have:=a.1;omega);rw[CH a.1]at this;exact this
 ·have:AI W x=DL:=by
   unfold AI;rw[dif_neg b]
  rw[this];exact Or.inl ⟨rfl,rfl⟩
def Mo(W:A6)(i:Nat):Prop:=Jx W (AA W i) (AI W (AA W i).A8)
def Za(W:A6):Prop:=(∀i,i<memN W->B3 W.pool (AA W i).rs (AA W i).rb)/\∀i,i<memN W->Mo W i
def Ps(W:A6):Prop:=∀x,FZ (AI W x).time
theorem zCo(x v1 C D:Value)(lo hi:Nat)(W:A6)(A:Nat)(w:World)(h:C7 w lo hi x v1 C D W)(hs:W.sn<=8)(hp:W.pn<=20)(t:G3 w lo hi W A)(hD:Hj W)(P:G4 W)(hR:AZ W.pool)(hT:Ps W) :
 Calls Tryz.prog 68 #[Cc x v1 C D W,KL A] w fun e w'=>AJ (Za W) e/\Below w.heap.size w w':=by
 have Hp:=A4 h;have HA:=A4 t;have HD:=A4 hD;have gA:=A4 P;have Z:=A4 hR;have bA:=A4 hT;clear h t hD P hR hT;have X:=AB w (.cells #[x,v1,A0 W.time,A0 W.next,C,D] 30);have T:=A4 (At.new w x v1 (A0 W.time) (A0 W.next) C D 30);obtain⟨R,S,x4,x6,x8,pA⟩:=T.out.c;go_enter Tryz.func68,Tryz.ntmps68;go_wp2_with fail;clear R S x4 x6 x8 pA;generalize w.alloc (.cells #[x,v1,A0 W.time,A0 W.next,C,D] 30)=W0 at X T ⊢;refine(RY x v1 C D lo hi W W0 (Hp.out.A1 X) hs hp).mono ?_;rintro e Y ⟨vm,vd,rfl,hm,G⟩;have U:=A4 hm;have I:=A4 (T.out.A1 G);have p:=A9 X G;obtain⟨am,cm,rfl,bC⟩:=id hm.form;have cC:memN W<=28:=by unfold memN;omega
 clear X G hm T;go_wp2
 go_loopw [14] (fun i wr=>∃k:Nat,k<=memN W/\i=A0 k/\(∀j,j<k->B3 W.pool (AA W j).rs (AA W j).rb)/\Below Y.heap.size Y wr) (fun i _=>memN W - (intOf i).toNat)
 case atStart=>exact⟨0,Nat.zero_le _,rfl,fun j hj=>absurd hj (Nat.not_lt_zero _),Below.refl _ _⟩
 case round=>
  obtain⟨k,hk,rfl,f,q⟩:=hrel;have b:=A4 f;clear f;by_cases a:k<memN W
  ·have M:(k:Int)<(memN W:Int):=(by omega);obtain⟨g,cg,e,q0,q1,q2,q3,Q⟩:=(U.out.A1 q).cells k a;obtain⟨-,z,B,s,-,-⟩:=id ((U.out.A1 q).dead k a);rw[s]at Q;cases e;have m:=AB wr (.cells #[A0 (AA W k).A8,A0 (AA W k).time,A0 (AA W k).rs,A0 (AA W k).rb,.slice z (AA W k).dn B] 169);have y:=A4 (Fw.new wr (A0 (AA W k).A8) (A0 (AA W k).time) (A0 (AA W k).rs) (A0 (AA W k).rb) (.slice z (AA W k).dn B) 169);have n:=A4 ((I.out.A1 q).A1 m);have l:=A9 q m;clear s m;obtain⟨⟨y0,-⟩,⟨y1,-⟩,⟨y2,-⟩,⟨y3,-⟩,⟨y4,-⟩⟩:=y.out;obtain⟨⟨R,-⟩,⟨S,-⟩,-⟩:=n.out;go_wp2_with fail;clear q0 q1 q2 q3 Q y0 y1 y2 y3 y4 R S;refine(Z8 x v1 lo hi W.pool (AA W k).rs (AA W k).rb _ (Hp.out.pool.A1 (A9 p l)) Z.out).mono ?_;rintro e w6 ⟨⟨t6,rfl,N⟩,r⟩;have u:=A4 (N.trans (Nj Z.out));have o:=A9 l r;clear N r l y n;cases t6
   ·have F:=A4 (show ¬B3 W.pool (AA W k).rs (AA W k).rb from fun t=>absurd (u.out.2 t) (by simp));clear u;go_wp2;go_ret;exact⟨AJ.no fun t=>F.out (t.1 k a),A9 p o⟩
   ·have F:=A4 (u.out.1 rfl);clear u;go_wp2;go_roundw
    case rel=>exact⟨k+1,by omega,by go_num,Br a b.out F.out,o⟩
    case measure=>simp[intOf];omega
  obtain rfl:k=memN W:=(by omega);have E:=A4 b.out;clear b a hk;go_wp2
  go_loopw [27] (fun i wr=>∃k:Nat,k<=memN W/\i=A0 k/\(∀j,j<k->Mo W j)/\Below Y.heap.size Y wr) (fun i _=>memN W - (intOf i).toNat)
  case atStart=>exact⟨0,Nat.zero_le _,rfl,fun j hj=>absurd hj (Nat.not_lt_zero _),q⟩
  case round=>
   clear q;obtain⟨k,hk,rfl,f,q⟩:=hrel;have b:=A4 f;clear f;by_cases a:k<memN W;rotate_left
   ·obtain rfl:k=memN W:=(by omega);go_wp2;go_ret;exact⟨AJ.yes ⟨E.out,b.out⟩,A9 p q⟩
   have M:(k:Int)<(memN W:Int):=(by omega);obtain⟨g,cg,e,q0,q1,q2,q3,Q⟩:=(U.out.A1 q).cells k a;have v:=(U.out.A1 q).dead k a;obtain⟨-,z,B,s,-,-⟩:=id v;rw[s]at Q v;cases e;have m:=AB wr (.cells #[A0 (AA W k).A8,A0 (AA W k).time,A0 (AA W k).rs,A0 (AA W k).rb,.slice z (AA W k).dn B] 169);have y:=A4 (Fw.new wr (A0 (AA W k).A8) (A0 (AA W k).time) (A0 (AA W k).rs) (A0 (AA W k).rb) (.slice z (AA W k).dn B) 169);have n:=A4 ((I.out.A1 q).A1 m);have J:=A4 (v.A1 m);have l:=A9 q m;have H:=A4 (HA.out.A1 (A9 p l));have K:=A4 (Hp.out.A1 (A9 p l));have iA:=A4 (gA.out k a);have aA:=A4 (E.out k a);have cA:=A4 (zIJ E.out (AA W k).A8);have fA:=A4 (bA.out (AA W k).A8);have eA:=A4 (show Mo W k↔Jx W (AA W k) (AI W (AA W k).A8)from Iff.rfl);clear s m v;generalize AA W k=mk at *;go_wp2_with fail;clear q0 q1 q2 q3 Q;generalize wr.alloc (.cells #[A0 mk.A8,A0 mk.time,A0 mk.rs,A0 mk.rb,.slice z mk.dn B] 169)=W2 at y n J H K l ⊢;generalize wr.heap.size=V at y ⊢;obtain⟨⟨y0,-⟩,⟨y1,-⟩,⟨y2,-⟩,⟨y3,-⟩,⟨y4,-⟩⟩:=y.out;obtain⟨R,x1,S,x3,x4,x5⟩:=n.out.c;go_region_held3 (fun w'=>w'.cell? ⟨w.heap.size,0,none⟩=some x/\w'.cell? ⟨w.heap.size,1,none⟩=some v1/\w'.cell? ⟨w.heap.size,2,none⟩=some (A0 W.time)/\w'.cell? ⟨w.heap.size,3,none⟩=some (A0 W.next)/\w'.cell? ⟨w.heap.size,4,none⟩=some C/\w'.cell? ⟨w.heap.size,5,none⟩=some D/\w'.cell? ⟨V,0,none⟩=some (A0 mk.A8)/\w'.cell? ⟨V,1,none⟩=some (A0 mk.time)/\w'.cell? ⟨V,2,none⟩=some (A0 mk.rs)/\w'.cell? ⟨V,3,none⟩=some (A0 mk.rb)/\w'.cell? ⟨V,4,none⟩=some (.slice z mk.dn B)) (go_keep)
    (first
     | (go_at_call 126;refine(Jo lo hi W A mk.A8 _ ?_ HD.out iA.out hp).mono ?_;(exact H.out.A1 (Below.refl _ _).drew);rintro e w6 ⟨aa,ca,rfl,lA,r⟩;have d:=Cp r;obtain⟨⟨k0,_⟩,⟨k1,_⟩,⟨k2,_⟩,⟨k3,_⟩,⟨k4,_⟩,⟨k5,_⟩⟩:=n.out.A1 d;obtain⟨⟨l0,_⟩,⟨l1,_⟩,⟨l2,_⟩,⟨l3,_⟩,⟨l4,_⟩⟩:=y.out.A1 d)
     | (go_at_call 130;refine(zD9 x v1 C D lo hi W mk (AI W mk.A8) z aa B ca _ (K.out.A1 d) Z.out aA.out cA.out (J.out.A1 d) fA.out).mono ?_;rintro e w7 ⟨⟨t7,rfl,O⟩,o⟩;obtain⟨⟨f0,_⟩,⟨f1,_⟩,⟨f2,_⟩,⟨f3,_⟩,⟨f4,_⟩,⟨f5,_⟩⟩:=(n.out.A1 d).A1 o;obtain⟨⟨g0,_⟩,⟨g1,_⟩,⟨g2,_⟩,⟨g3,_⟩,⟨g4,_⟩⟩:=(y.out.A1 d).A1 o))
   have L:=A9 (A9 l d) o;have u:=A4 (O.trans eA.out.symm);clear O o d r lA k0 k1 k2 k3 k4 k5 l0 l1 l2 l3 l4 f0 f1 f2 f3 f4 f5 g0 g1 g2 g3 g4 R x1 S x3 x4 x5 y0 y1 y2 y3 y4;cases t7
   ·have F:=A4 (show ¬Mo W k from fun t=>absurd (u.out.2 t) (by simp));clear u;go_wp2;go_ret;exact⟨AJ.no fun t=>F.out (t.2 k a),A9 p L⟩
   ·have F:=A4 (u.out.1 rfl);clear u;go_wp2;go_roundw
    case rel=>exact⟨k+1,by omega,by go_num,Br a b.out F.out,L⟩
    case measure=>simp[intOf];omega
theorem zHT(s t:ByteArray):(s.toList == t.toList)=true↔s=t:=⟨fun h=>G7 (by simpa using h),fun h=>LP h⟩
theorem zDo(a:Option Addr)(c:Nat)(s:Aa)(name:ByteArray)(T:Nat)(w:World)(f:w.cell? ⟨T,0,none⟩=some (.string name)) :
 Calls Tryz.prog 166 #[DI (.slice a s.dn c) s,.pointer (some ⟨T,0,none⟩)] w fun e w'=>AJ (s.set=name) e/\Below w.heap.size w w':=by
 unfold DI;have d:=AB w (.cells #[A0 s.id,.string s.name,.string s.set,A0 s.A8,A0 s.time,A0 s.rs,A0 s.rb,.slice a s.dn c] 41);have g:=(d.cell (p:=⟨T,0,none⟩) (AV f)).trans f;obtain⟨⟨⟨h,-⟩,⟨i,-⟩,⟨j,-⟩,⟨k,-⟩⟩,-⟩:=DX.new w (A0 s.id) (.string s.name) (.string s.set) (A0 s.A8) (A0 s.time) (A0 s.rs) (A0 s.rb) (.slice a s.dn c) 41;clear f;have b:=A4 (zHT s.set name);go_enter Tryz.func166,Tryz.ntmps166;go_wp2;go_ret;exact⟨⟨_,rfl,b.out⟩,d⟩
def F0(w:World)(base:Nat)(v:Value)(n:Nat):Prop:=∃xs,w.ownsRow base 41 8 v n xs
variable{w w1:World}{base n:Nat}{v:Value}
theorem F0.A1(h:F0 w base v n)(a:Below w.heap.size w w1):F0 w1 base v n:=by
 obtain⟨xs,h⟩:=h;exact⟨xs,h.kept (EK a none) (by cases v.ownBlock<;>simp)⟩
theorem F0.lt(h:F0 w base v n){q:Nat}(a:v.ownBlock=some q):base<=q/\q<w.heap.size:=by
 obtain⟨xs,h⟩:=h;rcases h.2 with⟨rfl,_⟩ | ⟨g,cap,b,rfl,c,d,_⟩
 ·simp[Value.ownBlock]at a
 ·simp only[Value.ownBlock,Option.some.injEq]at a;subst a;exact⟨c,(Array.getElem?_eq_some_iff.1 d).1⟩
variable{row:Option Nat}
theorem F0.AD(h:F0 w base v n)(b:w.grownBy w1 row)(a:∀q,v.ownBlock=some q->row≠some q):F0 w1 base v n:=by
 obtain⟨xs,h⟩:=h;refine⟨xs,h.kept b ?_⟩;cases hv:v.ownBlock with
 | none=>simp
 | some q=>exact Or.inr (fun e=>a q hv e.symm)
theorem zw:(Tryz.prog.info? 41).map (fun i=>(i.zero,i.size,i.bytes))=some (some (.agg #[A0 0,.string ⟨#[]⟩,.string ⟨#[]⟩,A0 0,A0 0,A0 0,A0 0,A5]),8,96):=by kernel_rfl
def zId(w w':World)(v v':Value)(n n':Nat):Prop:=F0 w' w.heap.size v n/\F0 w' w.heap.size v' n'/\(∀q,v.ownBlock=some q->v'.ownBlock≠some q)/\Below w.heap.size w w'
variable{g cap:Nat}
theorem Vt{w2:World}{n':Nat}{v':Value}{xs:List Value}(d:F0 w1 base v' n')(f:∀q,v.ownBlock=some q->v'.ownBlock≠some q)
 (a:w2.ownsRow base 41 8 (.slice (some ⟨g,0,none⟩) (n+1) cap) (n+1) xs) (i:w1.grownBy w2 v.ownBlock) (c:v.ownBlock=some g\/g=w1.heap.size) :
 F0 w2 base (.slice (some ⟨g,0,none⟩) (n+1) cap) (n+1)/\F0 w2 base v' n'/\(∀q,(Value.slice (some ⟨g,0,none⟩) (n+1) cap).ownBlock=some q->v'.ownBlock≠some q):=by
 refine⟨⟨xs,a⟩,d.AD i (fun q b e=>f q e b),fun q b e=>?_⟩;simp only[Value.ownBlock,Option.some.injEq]at b;subst b;rcases c with h | h
 ·exact f _ h e
 ·have:=(d.lt e).2;omega
theorem zCP(v:Value)(lo hi:Nat)(W:A6)(name:ByteArray)(T:Nat)(w:World)(h:EE w lo hi v W.pn W.A3)(hn:W.pn<=20)(hT:w.cell? ⟨T,0,none⟩=some (.string name)) :
 Calls Tryz.prog 165 #[v,.func (.func 166) #[] #[.pointer (some ⟨T,0,none⟩)]] w fun e w'=>∃a c Z,e = .returned (.tuple #[.slice a (ownN W name W.pn) c,Z])/\Below w.heap.size w w':=by
 have Hp:=A4 h;have HT:=A4 hT;obtain⟨m1,a,c,rfl,mc,-⟩:=id h;unfold maxLen at m1;clear h hT;obtain⟨i0,K,D⟩:=Option.map_eq_some_iff.1 zw;simp only[Prod.mk.injEq]at D;have u:=A4 (And.intro K D);clear K D;have aB:∀(fn:Fn) (first cap:Array Value) (w:World),(Instr.makeFunc fn first cap).run Tryz.prog w = .ok (.func fn first cap) w:=fun _ _ _ _=>rfl
 go_enter Tryz.func165,Tryz.ntmps165;go_wp2
 go_loopw [6,7,12] (fun vy Z i wr=>∃k:Nat,k<=W.pn/\i=A0 k/\zId w wr vy Z (ownN W name k) (k - ownN W name k)) (fun _ _ i _=>W.pn - (intOf i).toNat)
 case atStart=>exact⟨0,Nat.zero_le _,rfl,⟨[],World.ownsRow_nil _ _ _ _⟩,⟨[],World.ownsRow_nil _ _ _ _⟩,fun q l=>by simp[Value.ownBlock]at l,Below.refl _ _⟩
 case round=>
  obtain⟨k,hk,rfl,hy,ho,J,U⟩:=hrel;have Q:=A4 hy;have Ho:=A4 ho;have F:=A4 J;have eA:=NL W name k;clear hy ho J;by_cases V:k<W.pn
  ·have fA:(k:Int)<(W.pn:Int):=(by omega);obtain⟨b,off,vd,rfl,f⟩:=(Hp.out.A1 U).cells V;obtain⟨-,A,B,rfl,-,-⟩:=id f.dead;have t:=AB wr (.cells #[A0 (W.A3 k).id,.string (W.A3 k).name,.string (W.A3 k).set,A0 (W.A3 k).A8,A0 (W.A3 k).time,A0 (W.A3 k).rs,A0 (W.A3 k).rb,.slice A (W.A3 k).dn B] 41);have N:=A4 (DX.new wr (A0 (W.A3 k).id) (.string (W.A3 k).name) (.string (W.A3 k).set) (A0 (W.A3 k).A8) (A0 (W.A3 k).time) (A0 (W.A3 k).rs) (A0 (W.A3 k).rb) (.slice A (W.A3 k).dn B) 41);have C:=A9 U t;have E:=A4 ((C.cell (p:=⟨T,0,none⟩) (AV HT.out)).trans HT.out);have q0:=f.c0;have q1:=f.c1;have q2:=f.c2;have q3:=f.c3;have q4:=f.c4;have q5:=f.c5;have q6:=f.c6;have q7:=f.c7;obtain⟨⟨⟨y0,-⟩,⟨y1,-⟩,⟨y2,-⟩,⟨y3,-⟩⟩,⟨y4,-⟩,⟨y5,-⟩,⟨y6,-⟩,⟨y7,-⟩⟩:=N.out;clear f;go_wp2_with fail;clear q0 q1 q2 q3 q4 q5 q6 q7 y0 y1 y2 y3 y4 y5 y6 y7;refine(zDo A B (W.A3 k) name T _ E.out).mono ?_;rintro e M ⟨⟨s,rfl,hs⟩,n⟩;have R:=A4 ((Q.out.A1 t).A1 n);have P:=A4 ((Ho.out.A1 t).A1 n);have O:=A4 (N.out.A1 n);have I:=A9 C n;clear n C t Q Ho N E;have bB:=I.size;obtain⟨⟨⟨y0,-⟩,⟨y1,-⟩,⟨y2,-⟩,⟨y3,-⟩⟩,⟨y4,-⟩,⟨y5,-⟩,⟨y6,-⟩,⟨y7,-⟩⟩:=O.out;have o:=AB M (.cells #[A0 (W.A3 k).id,.string (W.A3 k).name,.string (W.A3 k).set,A0 (W.A3 k).A8,A0 (W.A3 k).time,A0 (W.A3 k).rs,A0 (W.A3 k).rb,.slice A (W.A3 k).dn B] 41);have z:=A4 (R.out.A1 o);have x:=A4 (P.out.A1 o);have r:=A9 I o;have cB:=o.size;have HN:=A4 (World.news_of_block (heap_alloc_last M (.cells #[A0 (W.A3 k).id,.string (W.A3 k).name,.string (W.A3 k).set,A0 (W.A3 k).A8,A0 (W.A3 k).time,A0 (W.A3 k).rs,A0 (W.A3 k).rb,.slice A (W.A3 k).dn B] 41)));clear o;by_cases l:(W.A3 k).set=name
   ·obtain rfl:s=true:=hs.2 l;have H:=A4 (Nc l);clear hs l;obtain⟨xs,g⟩:=z.out;have y:=A4 g;clear g;go_wp2_with (first
     | (at_builtin;refine wpList_append_lies _ rfl _ _ 28 rfl w.heap.size 41 i0 (.agg #[A0 0,.string ⟨#[]⟩,.string ⟨#[]⟩,A0 0,A0 0,A0 0,A0 0,A5]) 8 96 (by kernel_rfl) u.out.1 u.out.2.1 u.out.2.2.1 u.out.2.2.2 rfl (by decide) _ _ _ rfl y.out ⟨M.heap.size,0,none⟩ 1 1 [A0 (W.A3 k).id,.string (W.A3 k).name,.string (W.A3 k).set,A0 (W.A3 k).A8,A0 (W.A3 k).time,A0 (W.A3 k).rs,A0 (W.A3 k).rb,.slice A (W.A3 k).dn B] rfl rfl HN.out (by simp[Value.oneCell']) (by decide) (by unfold maxLen;omega) (by omega) (by omega) _ rfl ?_;intro g' G w4 j d m L)
     | go_in)
    go_roundw
    case rel=>
     obtain⟨r1,X,Y⟩:=Vt x.out F.out j d m;refine⟨k+1,by omega,by go_num,by rw[H.out];exact r1,?_,Y,r.grown d r.size (fun q l=>(z.out.lt l).1)⟩;rw[H.out,show k+1 - (ownN W name k+1)=k - ownN W name k by omega];exact X
    case measure=>simp[intOf];omega
   ·obtain rfl:s=false:=BQ hs l;have H:=A4 (NM l);clear hs l;obtain⟨xs,g⟩:=x.out;have y:=A4 g;clear g;go_wp2_with (first
     | (at_builtin;refine wpList_append_lies _ rfl _ _ 28 rfl w.heap.size 41 i0 (.agg #[A0 0,.string ⟨#[]⟩,.string ⟨#[]⟩,A0 0,A0 0,A0 0,A0 0,A5]) 8 96 (by kernel_rfl) u.out.1 u.out.2.1 u.out.2.2.1 u.out.2.2.2 rfl (by decide) _ _ _ rfl y.out ⟨M.heap.size,0,none⟩ 1 1 [A0 (W.A3 k).id,.string (W.A3 k).name,.string (W.A3 k).set,A0 (W.A3 k).A8,A0 (W.A3 k).time,A0 (W.A3 k).rs,A0 (W.A3 k).rb,.slice A (W.A3 k).dn B] rfl rfl HN.out (by simp[Value.oneCell']) (by decide) (by unfold maxLen;omega) (by omega) (by omega) _ rfl ?_;intro g' G w4 j d m L)
     | go_in)
    go_roundw
    case rel=>
     obtain⟨r1,X,Y⟩:=Vt z.out (fun q h S=>F.out q S h) j d m;refine⟨k+1,by omega,by go_num,by rw[H.out];exact X,?_,fun q h S=>Y q S h,r.grown d r.size (fun q l=>(x.out.lt l).1)⟩;rw[H.out,show k+1 - ownN W name k=k - ownN W name k+1 by omega];exact r1
    case measure=>simp[intOf];omega
  ·obtain rfl:k=W.pn:=(by omega);obtain⟨xs,g⟩:=Q.out;obtain⟨ay,cy,rfl,-⟩:=Bw g;clear g;go_wp2
   go_ret2
   exact⟨ay,cy,_,rfl,U⟩
variable{name:ByteArray}
theorem zR(a:name.toList.isEmpty=false)(y:Int):(AI W y).set=name↔F5 W name y:=by
 constructor
 ·intro h;by_cases c:∃k,BW W y k
  ·obtain⟨k,b⟩:=c;rw[DW b]at h;exact⟨k,b,h⟩
  ·have e:AI W y=DL:=(by unfold AI;rw[dif_neg c]);rw[e]at h;rw[<-h]at a;have d:DL.set.toList = []:=(by rw[Go.ByteArray.toList_eq];rfl);rw[d]at a;exact absurd a (by decide)
 ·rintro⟨k,b,h⟩;rw[DW b];exact h
variable{start y:Int}
theorem EZ.wf(h:EZ W name start n y):(Lit.int .i64 y).wf=true:=by
 have a:=h.least;have b:=h.sum;exact WalkArith.wf_i64 (by omega)
theorem zCf(r v1 s o:Value)(lo hi:Nat)(W:A6)(A:Nat)(Q:Option Addr)(sc:Nat)(S:Ab)(w:World)(h:C7 w lo hi r v1 s o W)(V:W.pn<=20)(hA:G3 w lo hi W A)(hD:Hj W)(hP:G0 W)(O:S.name.toList.isEmpty=false)(hS:S.A8=0\/CK W S.A8) :
 Calls Tryz.prog 128 #[Cc r v1 s o W,Fm (.slice Q S.dn sc) S,KL A] w fun e w'=>AJ (FA W S.name S.A8 S.origin) e/\Below w.heap.size w w':=by
 unfold Fm;have Hp:=A4 h;have HA:=A4 hA;have HD:=A4 hD;have HP:=A4 hP;have p:=A4 (zR (W:=W) O);have dA:=A4 hS;clear h hA hD hP O hS;have kB:∀(fn:Fn) (first cap:Array Value) (w:World),(Instr.makeFunc fn first cap).run Tryz.prog w = .ok (.func fn first cap) w:=fun _ _ _ _=>rfl
 have ha:=AB w (.cells #[r,v1,A0 W.time,A0 W.next,s,o] 30);have hB:=At.new w r v1 (A0 W.time) (A0 W.next) s o 30;have hz:(w.alloc (.cells #[r,v1,A0 W.time,A0 W.next,s,o] 30)).heap.size=w.heap.size+1:=World.size_alloc _ _;have B:=AB (w.alloc (.cells #[r,v1,A0 W.time,A0 W.next,s,o] 30)) (.cells #[.string S.name,A0 S.origin,A0 S.A8,A0 S.rs,A0 S.rb,.slice Q S.dn sc] 46);have E:=At.new (w.alloc (.cells #[r,v1,A0 W.time,A0 W.next,s,o] 30)) (.string S.name) (A0 S.origin) (A0 S.A8) (A0 S.rs) (A0 S.rb) (.slice Q S.dn sc) 46;rw[hz]at E;have d:=A4 E;have l:=A9 ha B;obtain⟨x0,x2,x4,x6,x8,kA⟩:=(hB.A1 B).c;clear E ha B hB;go_enter Tryz.func128,Tryz.ntmps128;go_wp2_with fail;clear x0 x2 x4 x6 x8 kA;generalize (w.alloc (.cells #[r,v1,A0 W.time,A0 W.next,s,o] 30)).alloc (.cells #[.string S.name,A0 S.origin,A0 S.A8,A0 S.rs,A0 S.rb,.slice Q S.dn sc] 46)=W0 at d l ⊢;refine(zCP o lo hi W S.name (w.heap.size+1) W0 (Hp.out.A3.A1 l) V d.out.1.1).mono ?_;rintro e w1 ⟨ay,cy,vo,rfl,C⟩;have t:=A4 (d.out.A1 C);have L:=A9 l C;have mB:=NL W S.name W.pn;clear d l C hz;obtain⟨⟨Y,-⟩,⟨Z,-⟩,⟨y2,-⟩,-⟩:=t.out;go_wp2;clear Y Z y2;generalize w.heap.size+1=T at *
 go_loopw [9,10] (fun x i wr=>∃(n:Nat) (y:Int),i=A0 n/\x=A0 y/\EZ W S.name S.A8 n y/\At wr T (.string S.name) (A0 S.origin) (A0 S.A8) (A0 S.rs) (A0 S.rb) (.slice Q S.dn sc)/\Below w.heap.size w wr) (fun x _ _=>(intOf x).toNat)
 case atStart=>exact⟨0,_,rfl,rfl,EZ.start HP.out _ dA.out,t.out,L⟩
 case round=>
  clear t L;obtain⟨n,y,rfl,rfl,P,E,M⟩:=hrel;have d:=A4 E;have Hw:=A4 P;have v:=A4 P.wf;have bB:=P.sum;have jB:=P.least;clear E P;have j:=A4 (HA.out.A1 M);obtain⟨⟨Y,-⟩,⟨Z,-⟩,-⟩:=d.out;by_cases F:(AI W y).set=S.name
  ·obtain⟨X,f,N⟩:=(p.out y).1 F;have I:=A4 (Hw.out.next HP.out f N);have fA:=A4 (show(W.A3 X).A8<y by have q:=HP.out.less X f.1;have z:=f.2.1;omega);have iA:=A4 (show(AI W y).A8=(W.A3 X).A8 by rw[DW f]);have Hq:=A4 F;clear f N F;go_wp2_with fail;go_region_held3 (fun w'=>w'.cell? ⟨T,0,none⟩=some (.string S.name)) (go_keep)
    (first | (go_at_call 126;refine(Jo lo hi W A y _ ?_ HD.out v.out V).mono ?_;(exact j.out.A1 (Below.refl _ _).drew);rintro e w6 ⟨R,U,rfl,g,a⟩;have m:=fun w=>(show(Instr.field 41 (DI (.slice R (AI W y).dn U) (AI W y)) 2).run Tryz.prog w = .ok (.string S.name) w by rw[<-Hq.out];exact(OC (.slice R (AI W y).dn U) (AI W y) w).2.1);obtain⟨⟨z0,_⟩,_⟩:=d.out.A1 (Cp a)))
   have k:=A4 (d.out.A1 (Cp a));have b:=R2 M a;have G:=A4 (HA.out.A1 b);have lB:(n:Int)<1000000:=(by omega);clear a g m z0 Y Z d j M;go_wp2_with fail;refine(Jo lo hi W A y _ G.out HD.out v.out V).mono ?_;rintro e w7 ⟨J,K,rfl,g,D⟩;have m:=fun w=>(show(Instr.field 41 (DI (.slice J (AI W y).dn K) (AI W y)) 3).run Tryz.prog w = .ok (A0 (W.A3 X).A8) w by rw[<-iA.out];exact(OC (.slice J (AI W y).dn K) (AI W y) w).2.2.1)
   have eA:=A4 (k.out.A1 D);have jA:=A9 b D;clear g D k b G;go_wp2;go_roundw
   case rel=>exact⟨n+1,_,by go_num,rfl,I.out,eA.out,jA⟩
   case measure=>simp[intOf];have:=fA.out;have:=I.out.least;omega
  ·have gA:=A4 (fun h=>F ((p.out y).2 h));have f1:=Mx F;clear F;go_wp2_with fail;go_region_held3 (fun w'=>w'.cell? ⟨T,0,none⟩=some (.string S.name)) (go_keep)
    (first | (go_at_call 126;refine(Jo lo hi W A y _ ?_ HD.out v.out V).mono ?_;(exact j.out.A1 (Below.refl _ _).drew);rintro e w6 ⟨R,U,rfl,g,a⟩;have m:=fun w=>(OC (.slice R (AI W y).dn U) (AI W y) w).2.1;obtain⟨⟨z0,_⟩,_⟩:=d.out.A1 (Cp a)))
   have k:=A4 (d.out.A1 (Cp a));have b:=R2 M a;clear a g m z0 Y Z d j M f1;obtain⟨⟨z0,-⟩,⟨z1,-⟩,-⟩:=k.out;have u:=A4 (Uj (origin:=S.origin) Hw.out.steps gA.out);by_cases q:n=ownN W S.name W.pn
   ·by_cases z:y=S.origin
    ·have H:=A4 (u.out.2 ⟨q,z⟩);have g1:((n:Int) == (ownN W S.name W.pn:Int))=true:=(by simp[q]);have g2:(y == S.origin)=true:=(by simp[z]);clear q z;go_wp2;go_ret;exact⟨AJ.yes H.out,b⟩
    ·have H:=A4 (fun h=>z (u.out.1 h).2);have g1:((n:Int) == (ownN W S.name W.pn:Int))=true:=(by simp[q]);have g2:(y == S.origin)=false:=(by simp[z]);clear q z;go_wp2;go_ret;exact⟨AJ.no H.out,b⟩
   ·have H:=A4 (fun h=>q (u.out.1 h).1);have h3:¬(n:Int)=(ownN W S.name W.pn:Int):=(by omega);have g1:((n:Int) == (ownN W S.name W.pn:Int))=false:=(by simp[h3]);clear q h3;go_wp2;go_ret;exact⟨AJ.no H.out,b⟩
theorem zD4(r v1 T s:Value)(lo hi:Nat)(W:A6)(A:Nat)(w:World)(h:C7 w lo hi r v1 T s W)(Y:W.pn<=20)(hs:W.sn<=8)(q:G3 w lo hi W A)(O:Hj W)(P:G0 W) :
 Calls Tryz.prog 67 #[Cc r v1 T s W,KL A] w fun e w'=>AJ (∀i,i<W.sn->FA W (W.A2 i).name (W.A2 i).A8 (W.A2 i).origin) e/\Below w.heap.size w w':=by
 have N:=A4 h;have U:=A4 q;have V:=A4 O;have z:=A4 P;obtain⟨Z,D,c',rfl,aA,-⟩:=id h.A2;unfold maxLen at Z;clear h q O P;have R:=AB w (.cells #[r,v1,A0 W.time,A0 W.next,.slice D W.sn c',s] 30);have y:=A4 (At.new w r v1 (A0 W.time) (A0 W.next) (.slice D W.sn c') s 30);obtain⟨G,H,I,J,K,p⟩:=y.out.c;go_enter Tryz.func67,Tryz.ntmps67;go_wp2;clear G H I J K p
 go_loopw [10] (fun i wr=>∃k:Nat,k<=W.sn/\i=A0 k/\(∀j,j<k->FA W (W.A2 j).name (W.A2 j).A8 (W.A2 j).origin)/\At wr w.heap.size r v1 (A0 W.time) (A0 W.next) (.slice D W.sn c') s/\Below w.heap.size w wr) (fun i _=>W.sn - (intOf i).toNat)
 case atStart=>exact⟨0,Nat.zero_le _,rfl,fun j X=>absurd X (Nat.not_lt_zero _),y.out,R⟩
 case round=>
  clear y R;obtain⟨k,hk,rfl,l,Q,x⟩:=hrel;have g:=A4 l;have M:=A4 Q;clear l Q;by_cases d:k<W.sn;rotate_left
  ·obtain rfl:k=W.sn:=(by omega);go_wp2;go_ret;exact⟨AJ.yes g.out,x⟩
  have S:(k:Int)<(W.sn:Int):=(by omega);obtain⟨b,off,vd,rfl,a⟩:=(N.out.A2.A1 x).cells d;obtain⟨-,E,F,rfl,-,-⟩:=id a.dead;have o:=AB wr (.cells #[.string (W.A2 k).name,A0 (W.A2 k).origin,A0 (W.A2 k).A8,A0 (W.A2 k).rs,A0 (W.A2 k).rb,.slice E (W.A2 k).dn F] 46);have L:=A4 (At.new wr (.string (W.A2 k).name) (A0 (W.A2 k).origin) (A0 (W.A2 k).A8) (A0 (W.A2 k).rs) (A0 (W.A2 k).rb) (.slice E (W.A2 k).dn F) 46);have m:=A4 (M.out.A1 o);have f:=A9 x o;have q0:=a.c0;have q1:=a.c1;have q2:=a.c2;have q3:=a.c3;have q4:=a.c4;have q5:=a.c5;obtain⟨y0,y1,y2,y3,y4,y5⟩:=L.out.c;obtain⟨G,H,I,J,K,p⟩:=m.out.c;clear a o;go_wp2_with fail;clear q0 q1 q2 q3 q4 q5 y0 y1 y2 y3 y4 y5 G H I J K p M x L;refine(zCf r v1 _ s lo hi W A E F (W.A2 k) _ (N.out.A1 f) Y (U.out.A1 f) V.out z.out (z.out.Aq k d) (z.out.A2 k d)).mono ?_;rintro e w6 ⟨⟨t6,rfl,u⟩,n⟩;have B:=A4 (m.out.A1 n);have t:=A9 f n;have v:=A4 u;clear u n f m;cases t6
  ·have C:=A4 (show ¬FA W (W.A2 k).name (W.A2 k).A8 (W.A2 k).origin from fun q=>absurd (v.out.2 q) (by simp));clear v;go_wp2;go_ret;exact⟨AJ.no fun q=>C.out (q k d),t⟩
  ·have C:=A4 (v.out.1 rfl);clear v;go_wp2;go_roundw
   case rel=>exact⟨k+1,by omega,by go_num,Br d g.out C.out,B.out,t⟩
   case measure=>simp[intOf];omega
structure Eo (W:A6):Prop where
 time:Jb W.time 1 900000
 next:Jb W.next 1 900000
 A2:qX W.sn W.A2
 A3:ZZ W
structure DE (W:A6):Prop where
 Aq:Eo W
 right:AZ W.pool
 prevs:∀i,i<memN W->JO W i
 lines:∀i,i<W.sn->FA W (W.A2 i).name (W.A2 i).A8 (W.A2 i).origin
 trees:Za W
 homes:Lg W
theorem Eo.range(h:Eo W):∀i,i<W.pn->1<=(W.A3 i).id/\(W.A3 i).id<W.next/\1<=(W.A3 i).time/\(W.A3 i).time<W.time
 | 0,hi=>by
  have:=(h.A3.2.1 0 hi).2.2.2;have a:Mid 0 (W.A3 0).id W.next:=this.1;have b:Mid 0 (W.A3 0).time W.time:=this.2;have c:=a.1;have d:=a.2;have e:=b.1;have f:=b.2;omega
 | i+1,hi=>by
  have g:=h.range i (by omega);have:=(h.A3.2.1 (i+1) hi).2.2.2;have a:Mid (W.A3 i).id (W.A3 (i+1)).id W.next:=this.1;have b:Mid (W.A3 i).time (W.A3 (i+1)).time W.time:=this.2;have c:=a.1;have d:=a.2;have e:=b.1;have f:=b.2;omega
theorem Eo.rise(h:Eo W):∀i,i<W.pn->∀j,j<i->(W.A3 j).id<(W.A3 i).id
 | 0,_,j,hj=>absurd hj (Nat.not_lt_zero _)
 | i+1,hi,j,hj=>by
  have b:Mid (W.A3 i).id (W.A3 (i+1)).id W.next:=(h.A3.2.1 (i+1) hi).2.2.2.1;have a:=b.1;by_cases e:j=i
  ·subst e;exact a
  ·have:=h.rise i (by omega) j (by omega);omega
theorem Eo.dist(h:Eo W):Hj W:=fun i hi j a e=>by have:=h.rise i hi j a;omega
theorem Eo.idsWf(h:Eo W):Mm W.pn W.A3:=fun i hi=>by
 have a:=h.range i hi;have b:=h.next.2;exact WalkArith.wf_i64 (by omega)
theorem Eo.times(h:Eo W):Ps W:=fun x=>by
 by_cases b:∃k,BW W x k
 ·obtain⟨k,a⟩:=b;rw[DW a];have c:=h.range k a.1;have d:=h.time.2;exact⟨by omega,by omega⟩
 ·have:AI W x=DL:=(by unfold AI;rw[dif_neg b]);rw[this];exact⟨Int.le_refl _,by decide⟩
variable{i:Nat}
theorem Q3(c:N9 W):JO W i↔((AA W i).A8=0\/CK W (AA W i).A8):=by
 unfold JO;constructor
 ·intro h;by_cases b:∃k,BW W (AA W i).A8 k
  ·obtain⟨k,a⟩:=b;exact Or.inr ⟨k,a.1,a.2.1⟩
  ·have e:AI W (AA W i).A8=DL:=(by unfold AI;rw[dif_neg b]);rw[e]at h;exact Or.inl h.symm
 ·rintro(h | h)
  ·rw[h,R1 (fun k a e=>by have:=c k a;omega)];rfl
  ·obtain⟨k,a⟩:=h.no;rw[DW a];exact a.2.1
theorem Eo.ER(h:Eo W)(b:∀i,i<memN W->JO W i):G0 W where
 ids:=fun k a=>by have c:=h.range k a;have d:=h.next.2;omega
 A8:=fun k a=>by
  have:=(Q3 (fun k a=>(h.range k a).1)).1 (b k (by unfold memN;omega));rw[CH a]at this;exact this
 less:=fun k a=>(h.A3.2.1 k a).2.2.1
 A2:=fun k a=>by
  have:=(Q3 (fun k a=>(h.range k a).1)).1 (b (W.pn+k) (by unfold memN;omega));rw[C4]at this;exact this
 Aq:=fun k a=>RZ (h.A2.2 k a).1
theorem zBK(h:G0 W)(hs:start=0\/CK W start):∀{n:Nat} {e:Int},Steps W name start n e->(e=0\/CK W e)
 | 0,_,.zero=>hs
 | n+1,_,.next (k:=k) _ hk _=>h.A8 k hk.1
variable{f:Nat->Ab}
theorem Xi(hn:BX (f i).name):Cd (Fv f i) (f i).name↔(0<i->Cd (f (i - 1)).name (f i).name):=by
 cases i with
 | zero=>
  refine⟨fun _ h=>absurd h (by omega),fun _=>?_⟩;have b:=RZ hn;unfold Cd Fv;have c:(⟨#[]⟩:ByteArray).toList = []:=(by rw[Go.ByteArray.toList_eq]);rw[c];cases hl:(f 0).name.toList with
  | nil=>rw[hl]at b;exact absurd b (by decide)
  | cons a l=>simp[Op.bytesLess]
 | succ i=>exact⟨fun h _=>h,fun h=>h (by omega)⟩
theorem Qo(W:A6):DE W↔B4 W:=by
 constructor
 ·intro h;have a:=h.Aq.ER h.prevs;have q:DD W:=by
   refine⟨h.Aq.time,h.Aq.next,h.Aq.A2.1,h.Aq.A3.1,fun i hi=>?_,fun i hi=>?_⟩
   ·have hs:=h.Aq.A2.2 i hi;refine⟨hs.1,(Xi hs.1).1 hs.2,fun d=>(a.A2 i hi).resolve_left d,fun d=>?_⟩;obtain⟨n,e,p,_,_,rfl⟩:=h.lines i hi;exact(zBK a (a.A2 i hi) p).resolve_left d
   ·have hs:=h.Aq.A3.2.1 i hi;have l:=h.Aq.range i hi;refine⟨⟨l.1,l.2.1,l.2.2.1,l.2.2.2,hs.2.1,hs.1⟩,⟨fun r=>?_,fun d=>⟨hs.2.2.1,(a.A8 i hi).resolve_left d⟩⟩,fun k o=>h.Aq.A3.2.2 i hi k o⟩;cases i with
    | zero=>omega
    | succ i=>exact⟨hs.2.2.2.1.1,hs.2.2.2.2.1⟩
  have b:EV W:=Nl h.right q (fun i hi=>by have:=h.trees.1 i (by unfold memN;omega);rw[CH hi]at this;exact this) (fun i hi=>by have:=h.trees.1 (W.pn+i) (by unfold memN;omega);rw[C4]at this;exact this);have c:∀i,i<memN W->K8 W (AA W i):=fun i hi=>(Xv b hi).1 (h.trees.2 i hi)
  have f:=(XW b (fun j m=>by have:=a.pos j m;omega) c).1 h.homes;exact⟨h.right,q,h.lines,fun i hi=>b.snap hi,fun i hi=>⟨b.set hi,(c (W.pn+i) (by unfold memN;omega)).1⟩,fun i hi=>(c i (by unfold memN;omega)).1,f.1,fun i hi=>(c i hi).2,f.2⟩
 ·intro h;have a:=h.Aq.ER;have b:EV W:=Nl h.right h.Aq h.A3 (fun i hi=>(h.A2 i hi).1);have c:∀i,i<memN W->K8 W (AA W i):=fun i hi=>by
   refine⟨?_,h.born i hi⟩;by_cases g:i<W.pn
   ·exact h.dead i g
   ·have:=(h.A2 (i - W.pn) (by unfold memN at hi;omega)).2;rw[show W.pn+(i - W.pn)=i by omega]at this;exact this
  have f:=(XW b (fun j m=>by have:=a.pos j m;omega) c).2 ⟨h.reach,h.Bn⟩;refine⟨⟨h.Aq.1,h.Aq.2.1,⟨h.Aq.2.2.1,fun i hi=>?_⟩,⟨h.Aq.2.2.2.1,fun i hi=>?_,fun i hi k o=>(h.Aq.2.2.2.2.2 i hi).2.2 k o⟩⟩,h.right,fun i hi=>?_,h.lines,⟨b.tree,fun i hi=>(Xv b hi).2 (c i hi)⟩,f⟩
  ·have hs:=h.Aq.2.2.2.2.1 i hi;exact⟨hs.1,(Xi hs.1).2 hs.2.1⟩
  ·have hs:=h.Aq.2.2.2.2.2 i hi;refine⟨hs.1.2.2.2.2.2,hs.1.2.2.2.2.1,a.less i hi,?_,?_⟩
   ·cases i with
    | zero=>exact⟨by have:=hs.1.1;show(0:Int)<_;omega,hs.1.2.1⟩
    | succ i=>exact⟨(hs.2.1.1 (by omega)).1,hs.1.2.1⟩
   ·cases i with
    | zero=>exact⟨by have:=hs.1.2.2.1;show(0:Int)<_;omega,hs.1.2.2.2.1⟩
    | succ i=>exact⟨(hs.2.1.1 (by omega)).2,hs.1.2.2.2.1⟩
  ·refine(Q3 a.pos).2 ?_;by_cases g:i<W.pn
   ·rw[CH g];exact a.A8 i g
   ·have e:=C4 W (i - W.pn);rw[show W.pn+(i - W.pn)=i by omega]at e;rw[e];exact a.A2 _ (by unfold memN at hi;omega)
def Jy(w:World)(b:Nat)(v0 v1 v2 v3 v4 v5 v6 v7:Value):Prop:=AO w b 0 v0/\AO w b 1 v1/\AO w b 2 v2/\AO w b 3 v3/\AO w b 4 v4/\AO w b 5 v5/\AO w b 6 v6/\AO w b 7 v7
variable{w':World}{b:Nat}{v0 v1 v2 v3 v4 v5 v6 v7:Value}
theorem Jy.A1(h:Jy w b v0 v1 v2 v3 v4 v5 v6 v7)(t:Below w.heap.size w w'):Jy w' b v0 v1 v2 v3 v4 v5 v6 v7:=⟨h.1.A1 t,h.2.1.A1 t,h.2.2.1.A1 t,h.2.2.2.1.A1 t,h.2.2.2.2.1.A1 t,h.2.2.2.2.2.1.A1 t,h.2.2.2.2.2.2.1.A1 t,h.2.2.2.2.2.2.2.A1 t⟩
theorem Jy.new(w:World)(b v1 c d e f g h:Value)(t:TypeId):Jy (w.alloc (.cells #[b,v1,c,d,e,f,g,h] t)) w.heap.size b v1 c d e f g h:=by
 have a:(w.alloc (.cells #[b,v1,c,d,e,f,g,h] t)).heap[w.heap.size]?=some (.cells #[b,v1,c,d,e,f,g,h] t):=heap_alloc_new _ _;exact⟨Az a rfl,Az a rfl,Az a rfl,Az a rfl,Az a rfl,Az a rfl,Az a rfl,Az a rfl⟩
def UN:Ab:=⟨⟨#[]⟩,0,0,0,0,0,fun _=>0,fun _=>0⟩
variable{p:A7}{xs:Int}{j:Nat}
theorem UV(b:j<=p.hn):Has j (CQ p xs).h y↔Has j p.h y:=by
 constructor
 ·rintro⟨k,a,e⟩;exact⟨k,a,by rw[<-e];exact(if_neg (by omega:¬k=p.hn)).symm⟩
 ·rintro⟨k,a,e⟩;exact⟨k,a,by rw[<-e];exact if_neg (by omega:¬k=p.hn)⟩
theorem zA2{xb:Int}(c:AZ p)(b:B8 p xs xb)(m:¬Has p.hn p.h xs):AZ (CQ p xs):=by
 refine⟨c.1,fun j d=>c.2.1 j d,fun j d=>?_⟩;by_cases e:j=p.hn
 ·subst e;have a:(CQ p xs).h p.hn=xs:=if_pos rfl;refine⟨?_,?_,?_,?_⟩
  ·rw[a];exact b.2.1
  ·rw[a];exact b.2.2.1
  ·rw[a];intro n;have g:=b.2.2.2;have o:(p.s xs.toNat).birth=0:=n.1;have:=b.1;omega
  ·rw[a,UV (Nat.le_refl _)];exact m
 ·have f:j<p.hn:=(by have:j<p.hn+1:=d;omega);have a:(CQ p xs).h j=p.h j:=if_neg e;obtain⟨i,k,l,g⟩:=c.2.2 j f;refine⟨?_,?_,?_,?_⟩
  ·rw[a];exact i
  ·rw[a];exact k
  ·rw[a];exact l
  ·rw[a,UV (by omega)];exact g
def BJ(p:A7):List (Int×Int)->A7
 | []=>p
 | x :: l=>BJ (CQ p x.1) l
def CT(p:A7)(l:List (Int×Int)):Prop:=AZ p/\(∀x,x∈l->B8 p x.1 x.2/\¬Has p.hn p.h x.1)/\(l.map Prod.fst).Nodup
theorem XS(h:Has (p.hn+1) (CQ p xs).h y):Has p.hn p.h y\/y=xs:=by
 obtain⟨j,b,e⟩:=h;by_cases a:j=p.hn
 ·right;rw[<-e,a];exact if_pos rfl
 ·left;exact⟨j,by omega,by rw[<-e];exact(if_neg a).symm⟩
variable{l:List (Int×Int)}
theorem CT.head{x:Int×Int}(h:CT p (x :: l)):JK p x.1 x.2=⟨CQ p x.1,0,0,0⟩/\CT (CQ p x.1) l:=by
 obtain⟨d,f,a⟩:=h;obtain⟨b,c⟩:=f x List.mem_cons_self;rw[List.map_cons,List.nodup_cons]at a;refine⟨TU d b c,zA2 d b c,fun y g=>?_,a.2⟩;obtain⟨j,k⟩:=f y (List.mem_cons_of_mem _ g);refine⟨j,fun i=>?_⟩;rcases XS i with e | e
 ·exact k e
 ·exact a.1 (e▸List.mem_map_of_mem g)
theorem CT.cut{l':List (Int×Int)}:∀{l:List (Int×Int)} {p:A7},CT p (l ++ l')->CT (BJ p l) l'
 | [],_,h=>h
 | x :: l,p,h=>CT.cut (l:=l) (p:=CQ p x.1) (CT.head (p:=p) (x:=x) (l:=l ++ l') h).2
theorem Of(x:Int×Int):∀(l:List (Int×Int)) (p:A7),BJ p (l ++ [x])=CQ (BJ p l) x.1
 | [],_=>rfl
 | y :: l,p=>Of x l (CQ p y.1)
theorem EQ:∀(l:List (Int×Int)) (p:A7),(BJ p l).n=p.n/\(BJ p l).s=p.s/\(BJ p l).hn=p.hn+l.length
 | [],_=>⟨rfl,rfl,rfl⟩
 | y :: l,p=>by
  obtain⟨a,b,c⟩:=EQ l (CQ p y.1);refine⟨a,b,?_⟩;show(BJ (CQ p y.1) l).hn=_;rw[c,List.length_cons];show p.hn+1+l.length=_;omega
theorem CT.next(h:CT p l)(hi:i<l.length):JK (BJ p (l.take i)) l[i].1 l[i].2=⟨BJ p (l.take (i+1)),0,0,0⟩/\AZ (BJ p (l.take i)):=by
 have e:l=l.take i ++ l[i] :: l.drop (i+1):=by
  rw[List.getElem_cons_drop,List.take_append_drop]
 have a:CT (BJ p (l.take i)) (l[i] :: l.drop (i+1)):=CT.cut (l:=l.take i) (by rw[<-e];exact h);refine⟨?_,a.1⟩;rw[a.head.1,List.take_succ_eq_append_getElem hi,Of]
theorem CT.last(h:CT p l):AZ (BJ p l):=(CT.cut (l:=l) (l':=[]) (by rw[List.append_nil];exact h)).1
theorem MD(f g:Nat->Int)(t:Int):∀k,(Bl f g t k).Sublist ((List.range k).map fun i=>(f i,g i))
 | 0=>List.Sublist.refl _
 | k+1=>by
  rw[List.range_succ,List.map_append,List.map_singleton];unfold Bl;split
  ·exact(MD f g t k).append (List.Sublist.refl _)
  ·exact(MD f g t k).trans (List.sublist_append_left _ _)
theorem CT.sub{l':List (Int×Int)}(h:CT p l)(hs:l'.Sublist l):CT p l':=⟨h.1,fun x a=>h.2.1 x (hs.subset a),List.Nodup.sublist (hs.map _) h.2.2⟩
theorem CT.tree{rs rb:Int}(a:AZ p)(b:B3 p rs rb):CT p (AG p rs rb):=by
 refine⟨a,fun x c=>?_,?_⟩
 ·have:=ED a b c;exact⟨this.1,this.2.2⟩
 ·rcases b with h | h
  ·rw[AG,if_pos h];exact List.nodup_nil
  ·exact h.2.2
def CN(w:World)(e:TypeId)(s:Nat)(v:Value)(n:Nat):Prop:=
 (n=0/\∃a,v = .slice a 0 0)\/(0<n/\∃g cap cur,v = .slice (some ⟨g,0,none⟩) n cap/\w.heap[g]?=some (.cells cur e (0,0))/\n<=cap/\cap<=maxLen/\cur.size=cap*s)
variable{e:TypeId}{s:Nat}{xs:List Value}
theorem J8(h:w.ownsRow base e s v n xs)(k:n=0->∃a,v = .slice a 0 0):CN w e s v n:=by
 rcases Nat.eq_zero_or_pos n with b | b
 ·exact Or.inl ⟨b,k b⟩
 ·rcases h.2 with h | ⟨g,cap,c,hv,_,j,d,f,i,_⟩
  ·omega
  ·exact Or.inr ⟨b,g,cap,c,hv,j,d,f,i⟩
theorem CN.A1(h:CN w e s v n)(t:Below w.heap.size w w'):CN w' e s v n:=by
 rcases h with h | ⟨c,g,cap,a,hv,b,d⟩
 ·exact Or.inl h
 ·exact Or.inr ⟨c,g,cap,a,hv,(t.block g (Array.getElem?_eq_some_iff.1 b).1).trans b,d⟩
theorem CN.kept(h:CN w e s v n)(i:w.grownBy w' row)(b:0<n->v.ownBlock≠row):CN w' e s v n:=by
 rcases h with h | ⟨c,g,cap,a,hv,d,f⟩
 ·exact Or.inl h
 ·exact Or.inr ⟨c,g,cap,a,hv,(i.block g (Array.getElem?_eq_some_iff.1 d).1 (fun e=>b c (by rw[hv];exact e))).trans d,f⟩
theorem zCr{c:Array Value}(h:w.heap[g]?=some (.cells c e (0,0)))(a:Addr)(u:Value):∃b,(w.setCell a u).heap[g]?=some (.cells b e (0,0))/\b.size=c.size:=by
 by_cases d:a.block=g
 ·subst d;unfold World.setCell;simp only[Array.getElem?_modify,h,if_true,Option.map_some];refine⟨_,rfl,?_⟩;split<;>simp
 ·refine⟨c,?_,rfl⟩;unfold World.setCell;simp only[Array.getElem?_modify,d,if_false,h]
theorem CN.set(h:CN w e s v n)(a:Addr)(u:Value):CN (w.setCell a u) e s v n:=by
 rcases h with h | ⟨f,g,cap,d,hv,l,i,j,k⟩
 ·exact Or.inl h
 ·obtain⟨b,c,hs⟩:=zCr l a u;exact Or.inr ⟨f,g,cap,b,hv,c,i,j,by rw[hs];exact k⟩
theorem CN.owns(h:CN w e s v n)(t:0<n)(q:xs.length=n*s)(o:∀g,v.ownBlock=some g->base<=g)
 (p:∀g,v.ownBlock=some g->∀j u,xs[j]?=some u->w.cell? ⟨g,j,none⟩=some u):w.ownsRow base e s v n xs:=by
 refine⟨q,?_⟩;rcases h with h | ⟨_,g,cap,a,hv,f,b,l,c⟩
 ·omega
 ·refine Or.inr ⟨g,cap,a,hv,o g (by rw[hv];rfl),f,b,l,c,?_⟩;have r:n*s<=a.size:=(by rw[c];exact Nat.mul_le_mul_right s b);refine List.ext_getElem? fun j=>?_
  rw[List.getElem?_take];by_cases i:j<n*s
  ·rw[if_pos i];have k:j<xs.length:=(by omega);have d:=p g (by rw[hv];rfl) j xs[j] (by rw[List.getElem?_eq_getElem k]);have m:w.cell? ⟨g,j,none⟩=a[j]?:=by
    simp[World.cell?,f]
   rw[m]at d;rw[List.getElem?_eq_getElem k,<-d,Array.getElem?_toList]
  ·rw[if_neg i,List.getElem?_eq_none (by omega)]
variable{P:Program}
theorem zDB(t ty e:TypeId)(i:TypeInfo)(a:Option Addr)(b:Addr)(m c:Nat)(k:P.underlying t=some (.slice e))(hi:P.info? e=some i)(j:0<m)(l:m*i.bytes<=140737488355328) :
 (Builtin.append_ #[t,t] ty #[.slice a 0 0,.slice (some b) m c]).run P w=(Builtin.append_ #[t,t] ty #[A5,.slice (some b) m c]).run P w:=by
 cases a with
 | none=>rfl
 | some a=>
  have d:¬m=0:=(by omega);have f:Builtin.nextslicecap m 0=m:=(by unfold Builtin.nextslicecap;simp[j]);have g:¬(281474976710656:Nat)<m*i.bytes:=(by omega);have h:∀w:World,(loadCells a 0).run P w = .ok #[] w:=fun w=>by first | rfl | simp[loadCells] | simp[loadCells,loadCellsFrom]
  simp[Builtin.append_,run_underlying k,sizeOf,typeInfo,hi,Builtin.lenOf,Builtin.firstCells,d,f,g,h]
theorem CN.append(t ty e:TypeId)(i:TypeInfo)(z:Value)(s bytes base:Nat)(H:P.underlying t=some (.slice e))(hi:P.info? e=some i)(J:i.zero=some z)(l:i.size=s)(q:i.bytes=bytes)(B:z.cells.size=s)(A:0<s) (h:CN w e s v n) (M:xs.length=n*s) (K:0<n->∀g,v.ownBlock=some g->base<=g) (L:0<n->∀g,v.ownBlock=some g->∀j u,xs[j]?=some u->w.cell? ⟨g,j,none⟩=some u)
 (r:Addr) (m c:Nat) (b:List Value) (y:b.length=m*s) (k:∀j u,b[j]?=some u->w.cell? (r.add j)=some u) (I:∀u∈b,u.oneCell'=true) (F:0<m) (x:n+m<=maxLen) (d:(n+m)*bytes<=140737488355328) (f:base<=w.heap.size) :
 ∃g cap w' row,(Builtin.append_ #[t,t] ty #[v,.slice (some r) m c]).run P w = .ok (.slice (some ⟨g,0,none⟩) (n+m) cap) w'/\w'.ownsRow base e s (.slice (some ⟨g,0,none⟩) (n+m) cap) (n+m) (xs ++ b)/\w.grownBy w' row/\(row=none\/(0<n/\row=v.ownBlock))/\((0<n/\v.ownBlock=some g)\/g=w.heap.size)/\g<w'.heap.size:=by
 rcases Nat.eq_zero_or_pos n with o | o
 ·rcases h with⟨_,a,rfl⟩ | ⟨N,_⟩
  ·subst o;obtain rfl:xs = []:=List.eq_nil_of_length_eq_zero (by omega);obtain⟨g,cap,w',G,C,D,p,E⟩:=run_append_lies (P:=P) w t ty base e i z s bytes H hi J l q B A (A5) 0 [] ⟨by simp,Or.inl ⟨rfl,rfl⟩⟩ r m c b y k I F x d f w.heap.size rfl;refine⟨g,cap,w',none,?_,C,D,Or.inl rfl,Or.inr ?_,E⟩
   ·rw[zDB t ty e i a r m c H hi F (by rw[q];simpa using d)];exact G
   ·rcases p with p | p
    ·cases p
    ·exact p
  ·omega
 ·obtain⟨g,cap,w',G,C,D,p,E⟩:=run_append_lies (P:=P) w t ty base e i z s bytes H hi J l q B A v n xs (h.owns o M (K o) (L o)) r m c b y k I F x d f w.heap.size rfl;exact⟨g,cap,w',v.ownBlock,G,C,D,Or.inr ⟨o,rfl⟩,p.imp (fun h=>⟨o,h⟩) id,E⟩
def FC(w:World)(S:Nat->Prop)(v:Value)(n:Nat)(f:Nat->Ab):Prop:=∃(bs:Nat) (kb:Nat->Nat) (kv:Nat->Value),Dz w bs kb kv v n f/\M1 kb n f/\(∀k,Fy bs kb n f k->S k)/\CN w 46 6 v n/\∀i,i<n->CN w 38 2 (kv i) (f i).dn
def FH(w:World)(S:Nat->Prop)(v:Value)(n:Nat)(f:Nat->Aa):Prop:=∃(bs:Nat) (kb:Nat->Nat) (kv:Nat->Value),Ew w bs kb kv v n f/\Kv kb n f/\(∀k,Ii bs kb n f k->S k)/\CN w 41 8 v n/\∀i,i<n->CN w 38 2 (kv i) (f i).dn
variable{S:Nat->Prop}
theorem FC.isIn(h:FC w S v n f):GQ w S v n f:=by
 obtain⟨a,e,kv,b,c,d,_⟩:=h;exact⟨a,e,kv,b,c,d⟩
theorem FH.isIn{f:Nat->Aa}(h:FH w S v n f):Ff w S v n f:=by
 obtain⟨a,e,kv,b,c,d,_⟩:=h;exact⟨a,e,kv,b,c,d⟩
theorem FC.A1(h:FC w S v n f)(t:Below w.heap.size w w'):FC w' S v n f:=by
 obtain⟨a,j,kv,b,c,d,e,g⟩:=h;exact⟨a,j,kv,b.A1 t,c,d,e.A1 t,fun i hi=>(g i hi).A1 t⟩
theorem FH.A1{f:Nat->Aa}(h:FH w S v n f)(t:Below w.heap.size w w'):FH w' S v n f:=by
 obtain⟨a,j,kv,b,c,d,e,g⟩:=h;exact⟨a,j,kv,b.A1 t,c,d,e.A1 t,fun i hi=>(g i hi).A1 t⟩
theorem FC.set(h:FC w S v n f)(b o:Nat)(u:Value)(m:¬S b):FC (w.setCell ⟨b,o,none⟩ u) S v n f:=by
 obtain⟨c,q,kv,d,g,a,j,l⟩:=h;exact⟨c,q,kv,d.AD (AC.put w b o u) (fun k p e=>m (e▸a k p)),g,a,j.set _ _,fun i hi=>(l i hi).set _ _⟩
theorem FH.set{f:Nat->Aa}(h:FH w S v n f)(b o:Nat)(u:Value)(m:¬S b):FH (w.setCell ⟨b,o,none⟩ u) S v n f:=by
 obtain⟨c,q,kv,d,g,a,j,l⟩:=h;exact⟨c,q,kv,d.AD (AC.put w b o u) (fun k p e=>m (e▸a k p)),g,a,j.set _ _,fun i hi=>(l i hi).set _ _⟩
theorem FC.put6(h:FC w S v n f)(b:Nat)(c d u2 u3 u4 e:Value)(a:¬S b):FC (put6 w b c d u2 u3 u4 e) S v n f:=(((((h.set b 0 c a).set b 1 d a).set b 2 u2 a).set b 3 u3 a).set b 4 u4 a).set b 5 e a
theorem FH.put6{f:Nat->Aa}(h:FH w S v n f)(b:Nat)(c d u2 u3 u4 e:Value)(a:¬S b):FH (put6 w b c d u2 u3 u4 e) S v n f:=(((((h.set b 0 c a).set b 1 d a).set b 2 u2 a).set b 3 u3 a).set b 4 u4 a).set b 5 e a
structure GY (w:World) (P Q R:Nat->Prop) (v0 v1 v2 v3:Value) (W:A6):Prop where
 pool:DJ w P v0 v1 W.pool
 A2:FC w Q v2 W.sn W.A2
 A3:FH w R v3 W.pn W.A3
 pq:∀k,P k->¬Q k
 pr:∀k,P k->¬R k
 qr:∀k,Q k->¬R k
def D5(w:World)(lo hi:Nat)(v0 v1 v2 v3:Value)(W:A6):Prop:=∃P Q R,GY w P Q R v0 v1 v2 v3 W/\∀k,P k\/Q k\/R k->lo<=k/\k<hi
variable{P Q R:Nat->Prop}
theorem GY.isIn(h:GY w P Q R v0 v1 v2 v3 W):KM w P Q R v0 v1 v2 v3 W:=⟨h.pool,h.A2.isIn,h.A3.isIn,h.pq,h.pr,h.qr⟩
variable{lo hi:Nat}
theorem D5.own(h:D5 w lo hi v0 v1 v2 v3 W):EL w lo hi v0 v1 v2 v3 W:=by
 obtain⟨P,Q,R,h,a⟩:=h;exact⟨P,Q,R,h.isIn,a⟩
theorem GY.A1(h:GY w P Q R v0 v1 v2 v3 W)(t:Below w.heap.size w w'):GY w' P Q R v0 v1 v2 v3 W:=⟨h.pool.A1 t,h.A2.A1 t,h.A3.A1 t,h.pq,h.pr,h.qr⟩
theorem D5.A1(h:D5 w lo hi v0 v1 v2 v3 W)(t:Below w.heap.size w w'):D5 w' lo hi v0 v1 v2 v3 W:=by
 obtain⟨P,Q,R,h,a⟩:=h;exact⟨P,Q,R,h.A1 t,a⟩
theorem GY.set(h:GY w P Q R v0 v1 v2 v3 W)(b o:Nat)(u:Value)(a:¬(P b\/Q b\/R b)):GY (w.setCell ⟨b,o,none⟩ u) P Q R v0 v1 v2 v3 W:=
 ⟨h.pool.AD (AC.put w b o u) (fun k c e=>a (Or.inl (e▸c))),h.A2.set b o u (fun h=>a (Or.inr (Or.inl h))),h.A3.set b o u (fun h=>a (Or.inr (Or.inr h))),h.pq,h.pr,h.qr⟩
theorem D5.set(h:D5 w lo hi v0 v1 v2 v3 W)(b o:Nat)(u:Value)(d:b<lo\/hi<=b):D5 (w.setCell ⟨b,o,none⟩ u) lo hi v0 v1 v2 v3 W:=by
 obtain⟨P,Q,R,h,a⟩:=h;exact⟨P,Q,R,h.set b o u (fun c=>by have:=a b c;omega),a⟩
theorem D5.put6(h:D5 w lo hi v0 v1 v2 v3 W)(b:Nat)(c d u2 u3 u4 e:Value)(a:b<lo\/hi<=b):D5 (put6 w b c d u2 u3 u4 e) lo hi v0 v1 v2 v3 W:=(((((h.set b 0 c a).set b 1 d a).set b 2 u2 a).set b 3 u3 a).set b 4 u4 a).set b 5 e a
theorem D5.form(h:D5 w lo hi v0 v1 v2 v3 W):∃a c0 b c1 c e d c3,v0 = .slice a W.pool.n c0/\v1 = .slice b W.pool.hn c1/\v2 = .slice c W.sn e/\v3 = .slice d W.pn c3:=h.own.form
theorem D5.wide{lo' hi':Nat}(h:D5 w lo hi v0 v1 v2 v3 W)(c:lo'<=lo)(d:hi<=hi'):D5 w lo' hi' v0 v1 v2 v3 W:=by
 obtain⟨P,Q,R,h,b⟩:=h;exact⟨P,Q,R,h,fun k a=>by have:=b k a;omega⟩
def zO(W:A6)(w:World)(e:Ending)(w':World):Prop:=∃v0 v1 v2 v3,e = .returned (Cc v0 v1 v2 v3 W)/\D5 w' w.heap.size w'.heap.size v0 v1 v2 v3 W/\Below w.heap.size w w'
theorem OX(h:w.grownBy w' row):AC (fun k=>row=some k) w w':=⟨h.os,h.tape,h.output,h.size,fun k a hn=>h.block k a (fun e=>hn e.symm)⟩
variable{kb:Nat->Nat}{kv:Nat->Value}{k:Nat}
theorem Dz.edit{bs off c:Nat}(q:Dz w bs kb kv (.slice (some ⟨bs,off,none⟩) n c) n f)(t:k<n){s':Ab}{nb:Nat}{nv:Value}
 (s:AC (fun j=>j=bs) w w') (d:∀j,j<n->j≠k->∀r,r<6->∀u,AO w bs (off+j*6+r) u->AO w' bs (off+j*6+r) u) (hs:EO w' bs (off+k*6) nb nv s') :
 Dz w' bs (fun j=>if j=k then nb else kb j) (fun j=>if j=k then nv else kv j) (.slice (some ⟨bs,off,none⟩) n c) n (fun j=>if j=k then s' else f j):=by
 obtain⟨p,a,cap,hv,o,l⟩:=q;simp only[Value.slice.injEq,true_and]at hv;obtain⟨rfl,rfl⟩:=hv;refine⟨p,_,_,rfl,o,fun i=>?_⟩;obtain⟨m,e,g⟩:=l i;simp only[Option.some.injEq,Addr.mk.injEq,true_and,and_true]at e;subst e;refine⟨off,rfl,fun j b=>?_⟩;by_cases e:j=k
 ·subst e;simp only[if_true];exact hs
 ·simp only[if_neg e];have h:=g j b;exact⟨d j b e 0 (by omega) _ h.c0,d j b e 1 (by omega) _ h.c1,d j b e 2 (by omega) _ h.c2,d j b e 3 (by omega) _ h.c3,d j b e 4 (by omega) _ h.c4,d j b e 5 (by omega) _ h.c5,h.dead.AD s (fun i e=>h.Bn i e),h.CG,h.Bn⟩
def JF(s:Aa)(dv:Value):List Value:=[A0 s.id,.string s.name,.string s.set,A0 s.A8,A0 s.time,A0 s.rs,A0 s.rb,dv]
theorem zC3{bs nb:Nat}{dv:Value}{f:Nat->Aa}{s:Aa}(N:Ew w bs kb kv v n f)(F:Kv kb n f)
 (O:CS w' nb dv s.dn s.ds s.db) (J:s.name.size<=maxLen/\s.set.size<=maxLen) (q:0<s.dn->(∀i,i<n->0<(f i).dn->kb i≠nb)/\nb≠g)
 (B:w'.ownsRow base 41 8 (.slice (some ⟨g,0,none⟩) (n+1) cap) (n+1) (Et f kv n ++ JF s dv)) (P:w.grownBy w' row) (R:row=none\/(0<n/\row=v.ownBlock)) (G:(0<n/\v.ownBlock=some g)\/g=w.heap.size) (Q:n+1<=maxLen) :
 Ew w' g (fun j=>if j=n then nb else kb j) (fun j=>if j=n then dv else kv j) (.slice (some ⟨g,0,none⟩) (n+1) cap) (n+1) (fun j=>if j=n then s else f j)/\Kv (fun j=>if j=n then nb else kb j) (n+1) (fun j=>if j=n then s else f j):=by
 have A:0<n->v.ownBlock=some bs:=fun k=>by
  obtain⟨_,a,c,hv,_,K⟩:=N;obtain⟨off,M,_⟩:=K k;rw[hv,M];rfl
 have y:∀i,i<n->∃o,GU w bs o (kb i) (kv i) (f i):=fun i hi=>by
  obtain⟨_,a,c,hv,_,K⟩:=N;obtain⟨off,M,h⟩:=K (by omega);exact⟨_,h i hi⟩
 have z:∀i,i<n->0<(f i).dn->kb i≠g/\row≠some (kb i):=fun i hi k=>by
  obtain⟨o,h⟩:=y i hi;have l:=h.Bn k;have p:=h.deadLt k;refine⟨?_,?_⟩
  ·rcases G with⟨E,D⟩ | D
   ·rw[A E]at D;injection D with D;omega
   ·omega
  ·rcases R with e | ⟨E,e⟩
   ·rw[e];exact fun h=>by cases h
   ·rw[e,A E];exact fun h=>l (by injection h with h;exact h.symm)
 obtain⟨g',L,C,x,_,_,d⟩:=FI B (by omega);simp only[Value.slice.injEq,Option.some.injEq,Addr.mk.injEq,and_true,true_and]at C;obtain⟨rfl,rfl⟩:=C;refine⟨⟨Q,_,_,rfl,x,fun _=>⟨0,rfl,fun i hi=>?_⟩⟩,fun i j hi S H l p=>?_⟩
 ·rw[Nat.zero_add];by_cases e:i=n
  ·subst e;simp only[if_true];have b:∀r u,(JF s dv)[r]?=some u->AO w' g (i*8+r) u:=fun r u h=>d _ _ (by
    rw[List.getElem?_append_right (by rw[Gj];omega),Gj,show i*8+r - i*8=r by omega];exact h)
   exact⟨b 0 _ rfl,b 1 _ rfl,b 2 _ rfl,b 3 _ rfl,b 4 _ rfl,b 5 _ rfl,b 6 _ rfl,b 7 _ rfl,O,J,fun k=>(q k).2⟩
  ·simp only[if_neg e];have hi':i<n:=(by omega);obtain⟨o,h⟩:=y i hi';have b:∀r,r<8->AO w' g (i*8+r) (Nv f kv i r):=fun r I=>d _ _ (by
    rw[List.getElem?_append_left (by rw[Gj];omega)];exact G5 f kv n hi' I)
   exact⟨b 0 (by omega),b 1 (by omega),b 2 (by omega),b 3 (by omega),b 4 (by omega),b 5 (by omega),b 6 (by omega),b 7 (by omega),h.dead.AD (OX P) (fun k=>(z i hi' k).2),h.CG,fun k=>(z i hi' k).1⟩
 ·show(if i=n then nb else kb i)≠(if j=n then nb else kb j);by_cases t:i=n
  ·by_cases m:j=n
   ·omega
   ·rw[if_pos t,if_neg m];simp only[if_pos t]at l;simp only[if_neg m]at p;exact fun e=>(q l).1 j (by omega) p e.symm
  ·by_cases m:j=n
   ·rw[if_neg t,if_pos m];simp only[if_neg t]at l;simp only[if_pos m]at p;exact(q p).1 i (by omega) l
   ·rw[if_neg t,if_neg m];simp only[if_neg t]at l;simp only[if_neg m]at p;exact F i j (by omega) (by omega) H l p
def O1(w:World)(lo hi m top:Nat)(v0 v1 v2 v3:Value)(W:A6):Prop:=∃P Q R,KM w P Q R v0 v1 v2 v3 W/\∀k,P k\/Q k\/R k->(lo<=k/\k<hi)\/(m<=k/\k<top)
theorem O1.own{m a:Nat}(h:O1 w lo hi m a v0 v1 v2 v3 W)(d:lo<=m)(e:hi<=a):EL w lo a v0 v1 v2 v3 W:=by
 obtain⟨P,Q,R,h,c⟩:=h;exact⟨P,Q,R,h,fun k b=>by have:=c k b;omega⟩
def Ed(W:A6)(k:Nat)(name set:ByteArray):Aa:={id:=W.next,name:=name,set:=set,A8:=(W.A2 k).A8,time:=W.time,rs:=(W.A2 k).rs,rb:=(W.A2 k).rb,dn:=(W.A2 k).dn,ds:=(W.A2 k).ds,db:=(W.A2 k).db}
def Co(W:A6)(k:Nat)(name set:ByteArray):A6:={W with time:=W.time+1,next:=W.next+1,A2:=fun j=>if j=k then {W.A2 k with A8:=W.next,dn:=0}else W.A2 j,pn:=W.pn+1,A3:=fun j=>if j=W.pn then Ed W k name set else W.A3 j}
theorem zBI{b2 l c2:Nat}{set:ByteArray}{dv:Value}{z:Nat->Nat}{O:Nat->Value}{q:Nat}{d:Nat->Nat}{G:Nat->Value}
 (hP:DJ w P v0 v1 W.pool) (hS:Dz w b2 d G (.slice (some ⟨b2,l,none⟩) W.sn c2) W.sn W.A2) (I:M1 d W.sn W.A2) (t:∀j,Fy b2 d W.sn W.A2 j->Q j)
 (hZ:Ew w q z O v3 W.pn W.A3) (cA:Kv z W.pn W.A3) (v:∀j,Ii q z W.pn W.A3 j->R j)
 (pq:∀j,P j->¬Q j) (pr:∀j,P j->¬R j) (S:∀j,Q j->¬R j) (n:∀j,P j\/Q j\/R j->lo<=j/\j<hi) (tA:hi<=w.heap.size) (U:k<W.sn) (hm:W.pn+1<=maxLen) (hn:name.size<=maxLen) (hs:set.size<=maxLen)
 (N:w1.ownsRow base 41 8 (.slice (some ⟨g,0,none⟩) (W.pn+1) cap) (W.pn+1) (Et W.A3 O W.pn ++ JF (Ed W k name set) (G k))) (hg:w.grownBy w1 row) (hr:row=none\/(0<W.pn/\row=v3.ownBlock)) (K:(0<W.pn/\v3.ownBlock=some g)\/g=w.heap.size) (vA:lo<=w.heap.size) (sA:g<w1.heap.size) :
 O1 ((w1.setCell ⟨b2,l+k*6+2,none⟩ (A0 W.next)).setCell ⟨b2,l+k*6+5,none⟩ (A5)) lo hi w.heap.size w1.heap.size v0 v1 (.slice (some ⟨b2,l,none⟩) W.sn c2) (.slice (some ⟨g,0,none⟩) (W.pn+1) cap) (Co W k name set):=by
 have L:0<W.pn->v3.ownBlock=some q/\R q:=fun b=>by
  refine⟨?_,v _ (Or.inl ⟨b,rfl⟩)⟩;obtain⟨_,a,c,hv,_,hx⟩:=hZ;obtain⟨off,T,_⟩:=hx b;rw[hv,T];rfl
 have M:∀j,row=some j->R j:=fun j e=>by
  rcases hr with h | ⟨b,h⟩
  ·rw[h]at e;cases e
  ·obtain⟨o,p⟩:=L b;rw[h,o]at e;injection e with e;exact e▸p
 have E:R g\/g=w.heap.size:=by
  rcases K with⟨b,h⟩ | h
  ·obtain⟨o,p⟩:=L b;rw[o]at h;injection h with h;exact Or.inl (h▸p)
  ·exact Or.inr h
 have hT:=OX hg;have X:∀j,P j->¬(row=some j):=fun j f e=>pr j f (M j e)
 have Y:∀j,Q j->¬(row=some j):=fun j f e=>S j f (M j e)
 have x:Q b2:=t _ (Or.inl ⟨by omega,rfl⟩);have H:=hS.AD hT (fun j f=>Y j (t j f));have D:AC (fun j=>j=b2) w1 ((w1.setCell ⟨b2,l+k*6+2,none⟩ (A0 W.next)).setCell ⟨b2,l+k*6+5,none⟩ (A5)):=(AC.put w1 b2 _ _).trans (AC.put _ b2 _ _);have m:EO w1 b2 (l+k*6) (d k) (G k) (W.A2 k):=by
  obtain⟨_,a,c,hv,_,hx⟩:=H;obtain⟨off,T,h⟩:=hx (by omega);simp only[Value.slice.injEq,true_and]at hv;obtain⟨rfl,_⟩:=hv;simp only[Option.some.injEq,Addr.mk.injEq,true_and,and_true]at T;subst T;exact h k U
 have y:0<(W.A2 k).dn->Q (d k):=fun b=>t _ (Or.inr ⟨k,U,b,rfl⟩)
 have F:∀j,Q j->j≠g:=fun j f e=>by
  rcases E with h | h
  ·exact S j f (e▸h)
  ·have:=(n j (Or.inr (Or.inl f))).2;omega
 have eA:∀j,P j->j≠g:=fun j f e=>by
  rcases E with h | h
  ·exact pr j f (e▸h)
  ·have:=(n j (Or.inl f)).2;omega
 obtain⟨aA,J⟩:=zC3 (s:=Ed W k name set) (nb:=d k) hZ cA (m.dead) ⟨hn,hs⟩ (fun b=>⟨fun i hi o e=>S _ (y b) (v _ (Or.inr ⟨i,hi,o,e.symm⟩)),F _ (y b)⟩) N hg hr K hm;have bA:=aA.AD D (fun j f e=>by
  rcases f with⟨_,h⟩ | ⟨i,hi,b,h⟩
  ·exact F b2 x (by rw[<-e];exact h)
  ·by_cases A:i=W.pn
   ·simp only[if_pos A]at h b;exact m.Bn b (by rw[<-h];exact e)
   ·simp only[if_neg A]at h b;exact S b2 x (v _ (Or.inr ⟨i,by omega,b,by rw[<-e];exact h⟩)))
 have Z:=H.edit U (s':={W.A2 k with A8:=W.next,dn:=0}) (nb:=d k) (nv:=A5) D
  (fun j f bB r hr u hc=>(hc.other _ (Or.inr (by omega))).other _ (Or.inr (by omega)))
  ⟨(m.c0.other _ (Or.inr (by omega))).other _ (Or.inr (by omega)),(m.c1.other _ (Or.inr (by omega))).other _ (Or.inr (by omega)),(m.c2.set _).other _ (Or.inr (by omega)),(m.c3.other _ (Or.inr (by omega))).other _ (Or.inr (by omega)),(m.c4.other _ (Or.inr (by omega))).other _ (Or.inr (by omega)),(m.c5.other _ (Or.inr (by omega))).set _,⟨Nat.zero_le _,none,0,rfl,Nat.le_refl _,fun h=>absurd h (Nat.lt_irrefl _)⟩,m.CG,fun h=>absurd h (Nat.lt_irrefl _)⟩
 have cB:=hg.size;have B:∀j,Fy b2 (fun j=>if j=k then d k else d j) W.sn (fun j=>if j=k then {W.A2 k with A8:=W.next,dn:=0}else W.A2 j) j->Q j/\(0<(W.A2 k).dn->j≠d k):=by
  rintro j (⟨b,rfl⟩ | ⟨i,hi,b,rfl⟩)
  ·exact⟨x,fun h e=>m.Bn h e.symm⟩
  ·by_cases e:i=k
   ·simp only[if_pos e]at b;exact absurd b (Nat.lt_irrefl _)
   ·simp only[if_neg e]at b ⊢;exact⟨t _ (Or.inr ⟨i,hi,b,rfl⟩),fun h A=>I i k hi U e b h A⟩
 have C:∀j,Ii g (fun j=>if j=W.pn then d k else z j) (W.pn+1) (fun j=>if j=W.pn then Ed W k name set else W.A3 j) j->R j\/j=g\/(0<(W.A2 k).dn/\j=d k):=by
  rintro j (⟨b,rfl⟩ | ⟨i,hi,b,rfl⟩)
  ·exact Or.inr (Or.inl rfl)
  ·by_cases e:i=W.pn
   ·simp only[if_pos e]at b ⊢;exact Or.inr (Or.inr ⟨b,trivial⟩)
   ·simp only[if_neg e]at b ⊢;exact Or.inl (v _ (Or.inr ⟨i,by omega,b,rfl⟩))
 refine⟨P,_,_,⟨(hP.AD hT X).AD D (fun j f e=>pq j f (e▸x)),⟨b2,_,_,Z,?_,fun j f=>f⟩,⟨g,_,_,bA,J,fun j f=>f⟩,?_,?_,?_⟩,?_⟩
 ·intro i j hi f fA o p;show(if i=k then d k else d i)≠(if j=k then d k else d j);dsimp only[Co]at o p;by_cases V:i=k
  ·simp only[if_pos V]at o;exact absurd o (Nat.lt_irrefl _)
  ·by_cases A:j=k
   ·simp only[if_pos A]at p;exact absurd p (Nat.lt_irrefl _)
   ·simp only[if_neg V]at o;simp only[if_neg A]at p;rw[if_neg V,if_neg A];exact I i j hi f fA o p
 ·exact fun j f h=>pq j f (B j h).1
 ·intro j f h;rcases C j h with h | h | ⟨b,h⟩
  ·exact pr j f h
  ·exact eA j f h
  ·exact pq j f (h▸y b)
 ·intro j f h;obtain⟨o,p⟩:=B j f;rcases C j h with h | h | ⟨b,h⟩
  ·exact S j o h
  ·exact F j o h
  ·exact p b h
 ·rintro j (h | h | h)
  ·have:=n j (Or.inl h);omega
  ·have:=n j (Or.inr (Or.inl (B j h).1));omega
  ·rcases C j h with h | h | ⟨b,h⟩
   ·have:=n j (Or.inr (Or.inr h));omega
   ·rcases E with h3 | h3
    ·have:=n g (Or.inr (Or.inr h3));omega
    ·omega
   ·have:=n _ (Or.inr (Or.inl (y b)));omega
def ins{α : Type}(f:Nat->α)(k:Nat)(s:α):Nat->α:=fun j=>if j<k then f j else if j=k then s else f (j - 1)
variable{α:Type}
theorem Zn{f:Nat->α}{s:α}(h:j<k):ins f k s j=f j:=if_pos h
theorem Zl{f:Nat->α}{s:α}:ins f k s k=s:=by
 unfold ins;rw[if_neg (Nat.lt_irrefl _),if_pos rfl]
theorem Zm{f:Nat->α}{s:α}(h:k<j):ins f k s j=f (j - 1):=by
 unfold ins;rw[if_neg (by omega),if_neg (by omega)]
def JZ(W:A6)(k:Nat)(s:Ab):A6:={W with sn:=W.sn+1,A2:=ins W.A2 k s}
def noW:A6:={pool:=Cs 0,time:=0,next:=0,sn:=0,A2:=fun _=>⟨⟨#[]⟩,0,0,0,0,0,fun _=>0,fun _=>0⟩,pn:=0,A3:=fun _=>⟨0,⟨#[]⟩,⟨#[]⟩,0,0,0,0,0,fun _=>0,fun _=>0⟩}
theorem TA:EL w lo hi (A5) (A5) (A5) (A5) noW:=by
 refine⟨fun k=>lo<=k/\k<hi,fun _=>False,fun _=>False,⟨(QB (lo:=lo) (hi:=hi)).isIn (fun k b c=>⟨b,c⟩),?_,?_,fun _ _ h=>h,fun _ _ h=>h,fun _ h=>h.elim⟩,fun k a=>?_⟩
 ·exact⟨0,fun _=>0,fun _=>A5,⟨Nat.zero_le _,none,0,rfl,Nat.le_refl _,fun h=>absurd h (Nat.lt_irrefl _)⟩,fun i j hi=>absurd hi (Nat.not_lt_zero _),fun k a=>by
   rcases a with⟨h,_⟩ | ⟨i,h,_⟩
   ·exact absurd h (Nat.lt_irrefl _)
   ·exact absurd h (Nat.not_lt_zero _)⟩
 ·exact⟨0,fun _=>0,fun _=>A5,⟨Nat.zero_le _,none,0,rfl,Nat.le_refl _,fun h=>absurd h (Nat.lt_irrefl _)⟩,fun i j hi=>absurd hi (Nat.not_lt_zero _),fun k a=>by
   rcases a with⟨h,_⟩ | ⟨i,h,_⟩
   ·exact absurd h (Nat.lt_irrefl _)
   ·exact absurd h (Nat.not_lt_zero _)⟩
 ·rcases a with h | h | h
  ·exact h
  ·exact h.elim
  ·exact h.elim
def Bb(w:World)(b:Nat)(v0 v1 v2 v3 v4 v5 v6 v7 v8:Value):Prop:=AO w b 0 v0/\AO w b 1 v1/\AO w b 2 v2/\AO w b 3 v3/\AO w b 4 v4/\AO w b 5 v5/\AO w b 6 v6/\AO w b 7 v7/\AO w b 8 v8
variable{v8:Value}
theorem Bb.c(h:Bb w b v0 v1 v2 v3 v4 v5 v6 v7 v8):w.cell? ⟨b,0,none⟩=some v0/\w.cell? ⟨b,1,none⟩=some v1/\w.cell? ⟨b,2,none⟩=some v2/\w.cell? ⟨b,3,none⟩=some v3/\w.cell? ⟨b,4,none⟩=some v4/\w.cell? ⟨b,5,none⟩=some v5/\w.cell? ⟨b,6,none⟩=some v6/\w.cell? ⟨b,7,none⟩=some v7/\w.cell? ⟨b,8,none⟩=some v8:=
 ⟨h.1.1,h.2.1.1,h.2.2.1.1,h.2.2.2.1.1,h.2.2.2.2.1.1,h.2.2.2.2.2.1.1,h.2.2.2.2.2.2.1.1,h.2.2.2.2.2.2.2.1.1,h.2.2.2.2.2.2.2.2.1⟩
theorem Bb.A1(h:Bb w b v0 v1 v2 v3 v4 v5 v6 v7 v8)(t:Below w.heap.size w w'):Bb w' b v0 v1 v2 v3 v4 v5 v6 v7 v8:=⟨h.1.A1 t,h.2.1.A1 t,h.2.2.1.A1 t,h.2.2.2.1.A1 t,h.2.2.2.2.1.A1 t,h.2.2.2.2.2.1.A1 t,h.2.2.2.2.2.2.1.A1 t,h.2.2.2.2.2.2.2.1.A1 t,h.2.2.2.2.2.2.2.2.A1 t⟩
theorem Bb.AD(h:Bb w b v0 v1 v2 v3 v4 v5 v6 v7 v8)(t:AC S w w')(hs:¬S b):Bb w' b v0 v1 v2 v3 v4 v5 v6 v7 v8:=⟨h.1.AD t hs,h.2.1.AD t hs,h.2.2.1.AD t hs,h.2.2.2.1.AD t hs,h.2.2.2.2.1.AD t hs,h.2.2.2.2.2.1.AD t hs,h.2.2.2.2.2.2.1.AD t hs,h.2.2.2.2.2.2.2.1.AD t hs,h.2.2.2.2.2.2.2.2.AD t hs⟩
theorem Bb.new(w:World)(b v1 c d e f g h i:Value)(t:TypeId):Bb (w.alloc (.cells #[b,v1,c,d,e,f,g,h,i] t)) w.heap.size b v1 c d e f g h i:=by
 have a:(w.alloc (.cells #[b,v1,c,d,e,f,g,h,i] t)).heap[w.heap.size]?=some (.cells #[b,v1,c,d,e,f,g,h,i] t):=heap_alloc_new _ _;exact⟨Az a rfl,Az a rfl,Az a rfl,Az a rfl,Az a rfl,Az a rfl,Az a rfl,Az a rfl,Az a rfl⟩
abbrev put9(w:World)(b:Nat)(u0 u1 u2 u3 u4 u5 u6 u7 u8:Value):World:=((((((((w.setCell ⟨b,0,none⟩ u0).setCell ⟨b,1,none⟩ u1).setCell ⟨b,2,none⟩ u2).setCell ⟨b,3,none⟩ u3).setCell ⟨b,4,none⟩ u4).setCell ⟨b,5,none⟩ u5).setCell ⟨b,6,none⟩ u6).setCell ⟨b,7,none⟩ u7).setCell ⟨b,8,none⟩ u8
theorem Bb.put(h:Bb w b v0 v1 v2 v3 v4 v5 v6 v7 v8)(a d u2 u3 u4 f g j u8:Value):Bb (put9 w b a d u2 u3 u4 f g j u8) b a d u2 u3 u4 f g j u8:=
 have H (i:Nat) (u v:Value) (e:[a,d,u2,u3,u4,f,g,j,u8][i]?=some u) (c:AO w b i v):AO (put9 w b a d u2 u3 u4 f g j u8) b i u:=LY [a,d,u2,u3,u4,f,g,j,u8] w 0 i i e (Nat.zero_add i) c
 ⟨H 0 _ _ rfl h.1,H 1 _ _ rfl h.2.1,H 2 _ _ rfl h.2.2.1,H 3 _ _ rfl h.2.2.2.1,H 4 _ _ rfl h.2.2.2.2.1,H 5 _ _ rfl h.2.2.2.2.2.1,H 6 _ _ rfl h.2.2.2.2.2.2.1,H 7 _ _ rfl h.2.2.2.2.2.2.2.1,H 8 _ _ rfl h.2.2.2.2.2.2.2.2⟩
theorem AC.put9(w:World)(b:Nat)(a c u2 u3 u4 d e f u8:Value):AC (fun k=>k=b) w (put9 w b a c u2 u3 u4 d e f u8):=((((((((AC.put w b 0 a).trans (AC.put _ b 1 c)).trans (AC.put _ b 2 u2)).trans (AC.put _ b 3 u3)).trans (AC.put _ b 4 u4)).trans (AC.put _ b 5 d)).trans (AC.put _ b 6 e)).trans (AC.put _ b 7 f)).trans (AC.put _ b 8 u8)
open Go.Extern.Stop Go.Stop Go.Extern
theorem AQ{P:Prop}(h:P):Hid P:=h
abbrev Af(a:Addr):Value:=.iface 233 (.pointer (some a))
def errG:Nat->Nat
 | 0=>4
 | 1=>3
 | 2=>0
 | 3=>1
 | 4=>2
 | 5=>5
 | _=>6
def Ca:Nat->Int
 | 0=>1
 | 1=>2
 | 2=>4
 | 3=>5
 | 4=>6
 | 5=>7
 | _=>8
structure D8 (w:World) (p:Nat->Addr):Prop where
 cell:∀i,i<7->w.cell? ⟨errG i,0,none⟩=some (Af (p i))
 row:∀i,i<7->∃cs t,w.heap[(p i).block]?=some (.cells cs t (0,0))
 ne:∀i j,i<7->j<7->i≠j->p i≠p j
theorem D8.A1{p:Nat->Addr}(h:D8 w p)(t:Below w.heap.size w w'):D8 w' p:=
 ⟨fun i hi=>(t.cell (AV (h.cell i hi))).trans (h.cell i hi),fun i hi=>by
  obtain⟨cs,ty,a⟩:=h.row i hi;exact⟨cs,ty,(t.block _ (Array.getElem?_eq_some_iff.1 a).1).trans a⟩,h.ne⟩
theorem Ub(v:Value)(w:World):(Extern.ReflectliteType.typeOf #[.iface 233 v]).run Tryz.prog w = .ok (.iface 218 (.agg #[.pointer (some ⟨7,233,none⟩)])) w:=by kernel_rfl
def SA:Array Value->Sem Value:=Extern.ReflectliteType.method fun t=>do Extern.Rtype.noPackHeld "Comparable" t;pure (.bool (<-typeInfo t).comparable)
theorem Z0(w:World):(SA #[.agg #[.pointer (some ⟨7,233,none⟩)]]).run Tryz.prog w = .ok (.bool true) w:=by kernel_rfl
theorem ZT(v:Value)(w:World):(Go.method 371 218 v "Comparable").run Tryz.prog w = .ok (215,v) w:=by kernel_rfl
theorem Zo:(Tryz.prog.info? 233).map (·.comparable)=some true:=by kernel_rfl
theorem Zp:(Tryz.prog.info? 259).map (·.size)=some 1:=by kernel_rfl
theorem zIp(v:Value)(a:TypeId)(w:World):(Instr.typeAssert (.iface 233 v) a 220 true).run Tryz.prog w = .ok (.tuple #[.nilIface,.bool false]) w:=run_typeAssert_lacksB Tryz.underlying220 (by kernel_rfl) (by kernel_rfl) v a w
theorem zDl(v:Value)(a:TypeId)(w:World):(Instr.typeAssert (.iface 233 v) a 223 true).run Tryz.prog w = .ok (.tuple #[.nilIface,.bool false]) w:=run_typeAssert_lacksB Tryz.underlying223 (by kernel_rfl) (by kernel_rfl) v a w
theorem zAQ(v:Value)(a:TypeId)(w:World):(Instr.typeAssert (.iface 233 v) a 225 true).run Tryz.prog w = .ok (.tuple #[.nilIface,.bool false]) w:=run_typeAssert_lacksB Tryz.underlying225 (by kernel_rfl) (by kernel_rfl) v a w
theorem zGr(a:Addr)(w:World):Calls Tryz.prog 120 #[Af a,Af a] w fun e w'=>e = .returned (.bool true)/\w'=w:=by
 obtain⟨i,hi,b⟩:=Option.map_eq_some_iff.1 Zo;obtain⟨j,f,g⟩:=Option.map_eq_some_iff.1 Zp;have k:=@run_callFunc_extern Tryz.prog 158 _ Extern.ReflectliteType.typeOf Tryz.func158 (by kernel_rfl) (by kernel_rfl) (by kernel_rfl) (by kernel_rfl);have c:=@run_callFunc_extern Tryz.prog 215 _ SA Tryz.func215 (by kernel_rfl) (by kernel_rfl) (by kernel_rfl) (by kernel_rfl);have tT:=Ub;have h:=Z0;have l:=ZT;have d:=run_eql_iface_ptr_same (P:=Tryz.prog) w a Tryz.underlying59 Tryz.underlying233 hi b f;go_enter Tryz.func120,Tryz.ntmps120;go_wp2;refine wp_loop_rounds 1 ?_;rw[rounds_succ];go_wp2;go_ret;exact⟨rfl,rfl⟩
theorem zEy(a b:Addr)(g h:Array Value)(p tb:TypeId)(w:World)(f:a≠b)(l:w.heap[a.block]?=some (.cells g p (0,0)))(m:w.heap[b.block]?=some (.cells h tb (0,0))):Calls Tryz.prog 120 #[Af a,Af b] w fun e w'=>e = .returned (.bool false)/\w'=w:=by
 obtain⟨i,hi,c⟩:=Option.map_eq_some_iff.1 Zo;obtain⟨j,o,d⟩:=Option.map_eq_some_iff.1 Zp;have r:=@run_callFunc_extern Tryz.prog 158 _ Extern.ReflectliteType.typeOf Tryz.func158 (by kernel_rfl) (by kernel_rfl) (by kernel_rfl) (by kernel_rfl);have k:=@run_callFunc_extern Tryz.prog 215 _ SA Tryz.func215 (by kernel_rfl) (by kernel_rfl) (by kernel_rfl) (by kernel_rfl);have tT:=Ub;have q:=Z0;have s:=ZT;have t:=zIp;have u:=zDl;have v:=zAQ;have n:=run_eql_iface_ptr_other (P:=Tryz.prog) w Tryz.underlying59 Tryz.underlying233 hi c o (by rw[d];decide) f l m;go_enter Tryz.func120,Tryz.ntmps120;go_wp2;refine wp_loop_rounds 1 ?_;rw[rounds_succ];go_wp2;go_ret;exact⟨rfl,rfl⟩
def L5(p:Nat->Addr):Array Value:=#[Af (p 0),A0 1,Af (p 1),A0 2,Af (p 2),A0 4,Af (p 3),A0 5,Af (p 4),A0 6,Af (p 5),A0 7,Af (p 6),A0 8]
theorem TO(p:Nat->Addr)(hi:i<7):(L5 p)[i*2]?=some (Af (p i))/\(L5 p)[i*2+1]?=some (A0 (Ca i)):=by
 match i,hi with
 | 0,_=>exact⟨rfl,rfl⟩
 | 1,_=>exact⟨rfl,rfl⟩
 | 2,_=>exact⟨rfl,rfl⟩
 | 3,_=>exact⟨rfl,rfl⟩
 | 4,_=>exact⟨rfl,rfl⟩
 | 5,_=>exact⟨rfl,rfl⟩
 | 6,_=>exact⟨rfl,rfl⟩
theorem Yw(p:Nat->Addr)(w:World)(h:D8 w p):Calls Tryz.prog 119 #[] w fun e w'=>e = .returned (.slice (some ⟨w.heap.size,0,none⟩) 7 7)/\w'=w.alloc (.cells (L5 p) 160):=by
 have a:w.cell? ⟨4,0,none⟩=some (Af (p 0)):=h.cell 0 (by omega);have b:w.cell? ⟨3,0,none⟩=some (Af (p 1)):=h.cell 1 (by omega);have c:w.cell? ⟨0,0,none⟩=some (Af (p 2)):=h.cell 2 (by omega);have d:w.cell? ⟨1,0,none⟩=some (Af (p 3)):=h.cell 3 (by omega);have f:w.cell? ⟨2,0,none⟩=some (Af (p 4)):=h.cell 4 (by omega);have g:w.cell? ⟨5,0,none⟩=some (Af (p 5)):=h.cell 5 (by omega);have i:w.cell? ⟨6,0,none⟩=some (Af (p 6)):=h.cell 6 (by omega);clear h;go_enter Tryz.func119,Tryz.ntmps119;go_wp2;go_ret;exact⟨rfl,rfl⟩
end Go.Proofs.YtddigaohmfpepaaGreatDoor
