/- A part of the proof. -/
import Derived.Test.YtddigaohmfpepaaGreatDoorF10
set_option linter.unusedVariables false
set_option maxRecDepth 20000
set_option maxHeartbeats 8000000
namespace Go.Proofs.YtddigaohmfpepaaGreatDoor
open Go.RowKit Go.Maps
def Mj(vd:Value)(m:Cq):List Value:=[.int .i64 m.A8,.int .i64 m.time,.int .i64 m.rs,.int .i64 m.rb,vd]
def mrow(W:A6)(vd:Nat->Value):Nat->List Value
 | 0=>[]
 | k+1=>mrow W vd k ++ Mj (vd k) (AA W k)
theorem Nl(W:A6)(vd:Nat->Value):∀n,(mrow W vd n).length=n*5
 | 0=>rfl
 | n+1=>by simp[mrow,Nl W vd n,Mj];omega
theorem Ka{W:A6}{vd:Nat->Value}:∀{n i j:Nat},i<n->j<5->(mrow W vd n)[i*5+j]?=(Mj (vd i) (AA W i))[j]?
 | 0,i,j,hi,_=>absurd hi (Nat.not_lt_zero _)
 | n+1,i,j,hi,hj=>by
  unfold mrow;by_cases e:i=n
  ·subst e;rw[List.getElem?_append_right (by rw[Nl];omega),Nl,show i*5+j - i*5=j by omega]
  ·rw[List.getElem?_append_left (by rw[Nl];omega),Ka (by omega) hj]
def Qb(w:World)(lo hi:Nat)(W:A6)(vd:Nat->Value):Prop:=∀i,i<memN W->BG w lo hi (vd i) (AA W i).dn (AA W i).ds (AA W i).db
def ES(w:World)(base:Nat)(v:Value)(W:A6)(vd:Nat->Value)(n:Nat):Prop:=w.ownsRow base 169 5 v n (mrow W vd n)
variable{w w1:World}{base n:Nat}{v:Value}{W:A6}{vd:Nat->Value}
theorem ES.A1(h:ES w base v W vd n)(a:Below w.heap.size w w1):ES w1 base v W vd n:=
 h.kept (EK a none) (by cases v.ownBlock<;>simp)
theorem ES.lt(h:ES w base v W vd n){q:Nat}(a:v.ownBlock=some q):base<=q/\q<w.heap.size:=by
 rcases h.2 with⟨rfl,_⟩ | ⟨g,cap,b,rfl,c,d,_⟩
 ·simp[Value.ownBlock]at a
 ·simp only[Value.ownBlock,Option.some.injEq]at a;subst a;exact⟨c,(Array.getElem?_eq_some_iff.1 d).1⟩
theorem ES.next{w2:World}{g cap:Nat}(h:w2.ownsRow base 169 5 (.slice (some ⟨g,0,none⟩) (n+1) cap) (n+1) (mrow W vd n ++ Mj (vd n) (AA W n))):ES w2 base (.slice (some ⟨g,0,none⟩) (n+1) cap) W vd (n+1):=h
structure JY (w:World) (lo hi:Nat) (v:Value) (W:A6) (vd:Nat->Value):Prop where
 form:∃a c,v = .slice a (memN W) c/\memN W<=c
 cells:∀i,i<memN W->∃g c,v = .slice (some ⟨g,0,none⟩) (memN W) c/\w.cell? ⟨g,i*5,none⟩=some (.int .i64 (AA W i).A8)/\w.cell? ⟨g,i*5+1,none⟩=some (.int .i64 (AA W i).time)/\w.cell? ⟨g,i*5+2,none⟩=some (.int .i64 (AA W i).rs)/\w.cell? ⟨g,i*5+3,none⟩=some (.int .i64 (AA W i).rb)/\w.cell? ⟨g,i*5+4,none⟩=some (vd i)
 dead:Qb w lo hi W vd
theorem JY.A1{lo hi:Nat}(h:JY w lo hi v W vd)(t:Below w.heap.size w w1):JY w1 lo hi v W vd where
 form:=h.form
 cells:=fun i hi'=>by
  obtain⟨g,c,e,a,b,d,f,j⟩:=h.cells i hi';exact⟨g,c,e,(t.cell (AV a)).trans a,(t.cell (AV b)).trans b,(t.cell (AV d)).trans d,(t.cell (AV f)).trans f,(t.cell (AV j)).trans j⟩
 dead:=fun i hi'=>(h.dead i hi').A1 t
theorem ES.at{lo hi:Nat}(h:ES w base v W vd (memN W))(c:Qb w lo hi W vd):JY w lo hi v W vd where
 form:=Bw h
 cells:=fun i hi'=>by
  obtain⟨g,cap,e,b,f,d,a⟩:=FI h (by omega);refine⟨g,cap,e,?_,?_,?_,?_,?_⟩
  ·exact(a (i*5) _ (by have:=Ka (W:=W) (vd:=vd) hi' (show 0<5 by omega);rw[Nat.add_zero]at this;rw[this];rfl)).1
  ·exact(a (i*5+1) _ (by rw[Ka hi' (by omega)];rfl)).1
  ·exact(a (i*5+2) _ (by rw[Ka hi' (by omega)];rfl)).1
  ·exact(a (i*5+3) _ (by rw[Ka hi' (by omega)];rfl)).1
  ·exact(a (i*5+4) _ (by rw[Ka hi' (by omega)];rfl)).1
 dead:=c
theorem zGF:(Tryz.prog.info? 169).map (fun i=>(i.zero,i.size,i.bytes))=some (some (.agg #[.int .i64 0,.int .i64 0,.int .i64 0,.int .i64 0,.slice none 0 0]),5,56):=by kernel_rfl
theorem Ri(K v1 v2 v3:Value)(lo hi:Nat)(W:A6)(w:World)(h:C7 w lo hi K v1 v2 v3 W)(hs:W.sn<=8)(hp:W.pn<=20) :
 Calls Tryz.prog 127 #[Cc K v1 v2 v3 W] w fun e w'=>∃v vd,e = .returned v/\JY w' lo hi v W vd/\Below w.heap.size w w':=by
 have Hp:=A4 h;obtain⟨m1,a,c,rfl,mc,-⟩:=id h.A3;obtain⟨m2,a',c',rfl,gB,-⟩:=id h.A2;unfold maxLen at m1 m2;obtain⟨vs,Y,P⟩:=h.A3.vals;obtain⟨vt,Z,Q⟩:=h.A2.vals;have kA:∃vd:Nat->Value,(∀i,i<W.pn->vd i=vs i)/\(∀i,i<W.sn->vd (W.pn+i)=vt i)/\Qb w lo hi W vd:=by
  refine⟨fun i=>if i<W.pn then vs i else vt (i - W.pn),fun i hi'=>if_pos hi',fun i hi'=>?_,fun i hi'=>?_⟩
  ·show(if W.pn+i<W.pn then vs (W.pn+i)else vt (W.pn+i - W.pn))=vt i;rw[if_neg (by omega),show W.pn+i - W.pn=i by omega]
  ·show BG w lo hi (if i<W.pn then vs i else vt (i - W.pn)) _ _ _;by_cases C:i<W.pn
   ·rw[if_pos C,CH C];exact Y i C
   ·have e:=C4 W (i - W.pn);rw[show W.pn+(i - W.pn)=i by omega]at e;rw[if_neg C,e];unfold memN at hi';exact Z _ (by omega)
 obtain⟨vd,R,S,T⟩:=kA;have eA:=A4 P;have fA:=A4 Q;have gA:=A4 R;have iA:=A4 S;have jA:=A4 T;clear h Y P Z Q R S T;obtain⟨i0,U,I⟩:=Option.map_eq_some_iff.1 zGF;simp only[Prod.mk.injEq]at I;have D:=A4 (And.intro U I);clear U I;have ha:=AB w (.cells #[K,v1,.int .i64 W.time,.int .i64 W.next,.slice a' W.sn c',.slice a W.pn c] 30);have HB:=A4 (At.new w K v1 (.int .i64 W.time) (.int .i64 W.next) (.slice a' W.sn c') (.slice a W.pn c) 30);obtain⟨x0,x2,x4,x6,x8,J⟩:=HB.out.c;go_enter Tryz.func127,Tryz.ntmps127;go_wp2;clear x0 x2 x4 x6 x8 J
 go_loopw [3,11] (fun v i wr=>∃k:Nat,k<=W.pn/\i = .int .i64 k/\ES wr (w.heap.size+1) v W vd k/\At wr w.heap.size K v1 (.int .i64 W.time) (.int .i64 W.next) (.slice a' W.sn c') (.slice a W.pn c)/\Below w.heap.size w wr) (fun _ i _=>W.pn - (intOf i).toNat)
 case atStart=>exact⟨0,Nat.zero_le _,rfl,World.ownsRow_nil _ _ _ _,HB.out,ha⟩
 case round=>
  clear HB ha;obtain⟨k,hk,rfl,p,N,B⟩:=hrel;have g:=A4 p;have u:=A4 N;clear p N;by_cases r:k<W.pn
  ·have V:(k:Int)<(W.pn:Int):=(by omega);obtain⟨b,off,rfl,A⟩:=eA.out k r;have d:=A.A1 B;rw[<-gA.out k r]at d;obtain⟨-,n,o,t,-,-⟩:=id d.dead;have G:=A4 t;rw[t]at d;clear t A;have m:=AB wr (.cells #[.int .i64 (W.A3 k).id,.string (W.A3 k).name,.string (W.A3 k).set,.int .i64 (W.A3 k).A8,.int .i64 (W.A3 k).time,.int .i64 (W.A3 k).rs,.int .i64 (W.A3 k).rb,.slice n (W.A3 k).dn o] 41);have E:=A4 (DX.new wr (.int .i64 (W.A3 k).id) (.string (W.A3 k).name) (.string (W.A3 k).set) (.int .i64 (W.A3 k).A8) (.int .i64 (W.A3 k).time) (.int .i64 (W.A3 k).rs) (.int .i64 (W.A3 k).rb) (.slice n (W.A3 k).dn o) 41);have l:=AB (wr.alloc (.cells #[.int .i64 (W.A3 k).id,.string (W.A3 k).name,.string (W.A3 k).set,.int .i64 (W.A3 k).A8,.int .i64 (W.A3 k).time,.int .i64 (W.A3 k).rs,.int .i64 (W.A3 k).rb,.slice n (W.A3 k).dn o] 41)) (.cells #[.int .i64 (W.A3 k).A8,.int .i64 (W.A3 k).time,.int .i64 (W.A3 k).rs,.int .i64 (W.A3 k).rb,.slice n (W.A3 k).dn o] 169);have L:=A4 (World.news_of_block (heap_alloc_last (wr.alloc (.cells #[.int .i64 (W.A3 k).id,.string (W.A3 k).name,.string (W.A3 k).set,.int .i64 (W.A3 k).A8,.int .i64 (W.A3 k).time,.int .i64 (W.A3 k).rs,.int .i64 (W.A3 k).rb,.slice n (W.A3 k).dn o] 41)) (.cells #[.int .i64 (W.A3 k).A8,.int .i64 (W.A3 k).time,.int .i64 (W.A3 k).rs,.int .i64 (W.A3 k).rb,.slice n (W.A3 k).dn o] 169)));have j:=A4 ((g.out.A1 m).A1 l);have F:=A4 ((u.out.A1 m).A1 l);have x:=A9 (A9 B m) l;have lA:=u.out.1.lt;have H:(wr.alloc (.cells #[.int .i64 (W.A3 k).id,.string (W.A3 k).name,.string (W.A3 k).set,.int .i64 (W.A3 k).A8,.int .i64 (W.A3 k).time,.int .i64 (W.A3 k).rs,.int .i64 (W.A3 k).rb,.slice n (W.A3 k).dn o] 41)).heap.size=wr.heap.size+1:=World.size_alloc _ _;have mA:=l.size;rw[H]at L;have q0:=d.c0;have q1:=d.c1;have q2:=d.c2;have q3:=d.c3;have q4:=d.c4;have q5:=d.c5;have q6:=d.c6;have q7:=d.c7;obtain⟨⟨⟨y0,-⟩,⟨y1,-⟩,⟨y2,-⟩,⟨y3,-⟩⟩,⟨y4,-⟩,⟨y5,-⟩,⟨y6,-⟩,⟨y7,-⟩⟩:=E.out;clear d m l g u;go_wp2_with (first
    | (at_builtin;refine wpList_append_lies _ rfl _ _ 166 rfl (w.heap.size+1) 169 i0 (.agg #[.int .i64 0,.int .i64 0,.int .i64 0,.int .i64 0,.slice none 0 0]) 5 56 (by kernel_rfl) D.out.1 D.out.2.1 D.out.2.2.1 D.out.2.2.2 rfl (by decide) _ _ _ rfl j.out ⟨wr.heap.size+1,0,none⟩ 1 1 [.int .i64 (W.A3 k).A8,.int .i64 (W.A3 k).time,.int .i64 (W.A3 k).rs,.int .i64 (W.A3 k).rb,.slice n (W.A3 k).dn o] rfl rfl L.out (by simp[Value.oneCell']) (by decide) (by unfold maxLen;omega) (by omega) (by omega) _ rfl ?_;intro g' M w8 s f O X)
    | go_in)
   go_roundw
   case rel=>
    have y:∀q,Value.ownBlock _=some q->w.heap.size+1<=q:=fun q z=>(j.out.lt z).1
    refine⟨k+1,by omega,by go_num,?_,F.out.grown f (fun q z=>by have:=y q z;omega),x.grown f x.size (fun q z=>by have:=y q z;omega)⟩;refine ES.next ?_;rw[CH r,G.out];exact s
   case measure=>simp[intOf];omega
  ·obtain rfl:k=W.pn:=(by omega);obtain⟨x0,x2,x4,x6,x8,J⟩:=u.out.c;go_wp2;clear x0 x2 x4 x6 x8 J
   go_loopw [3,31] (fun v i wr=>∃k:Nat,k<=W.sn/\i = .int .i64 k/\ES wr (w.heap.size+1) v W vd (W.pn+k)/\At wr w.heap.size K v1 (.int .i64 W.time) (.int .i64 W.next) (.slice a' W.sn c') (.slice a W.pn c)/\Below w.heap.size w wr) (fun _ i _=>W.sn - (intOf i).toNat)
   case atStart=>exact⟨0,Nat.zero_le _,rfl,g.out,u.out,B⟩
   case round=>
    clear u B g hk r;obtain⟨k,hk,rfl,p,N,B⟩:=hrel;have g:=A4 p;have u:=A4 N;clear p N;by_cases r:k<W.sn
    ·have V:(k:Int)<(W.sn:Int):=(by omega);obtain⟨b,off,rfl,A⟩:=fA.out k r;have d:=A.A1 B;rw[<-iA.out k r]at d;obtain⟨-,n,o,t,-,-⟩:=id d.dead;have G:=A4 t;rw[t]at d;clear t A;have m:=AB wr (.cells #[.string (W.A2 k).name,.int .i64 (W.A2 k).origin,.int .i64 (W.A2 k).A8,.int .i64 (W.A2 k).rs,.int .i64 (W.A2 k).rb,.slice n (W.A2 k).dn o] 46);have E:=A4 (At.new wr (.string (W.A2 k).name) (.int .i64 (W.A2 k).origin) (.int .i64 (W.A2 k).A8) (.int .i64 (W.A2 k).rs) (.int .i64 (W.A2 k).rb) (.slice n (W.A2 k).dn o) 46);have dA:=A4 (u.out.A1 m);have l:=AB (wr.alloc (.cells #[.string (W.A2 k).name,.int .i64 (W.A2 k).origin,.int .i64 (W.A2 k).A8,.int .i64 (W.A2 k).rs,.int .i64 (W.A2 k).rb,.slice n (W.A2 k).dn o] 46)) (.cells #[.int .i64 (W.A2 k).A8,.int .i64 W.time,.int .i64 (W.A2 k).rs,.int .i64 (W.A2 k).rb,.slice n (W.A2 k).dn o] 169);have L:=A4 (World.news_of_block (heap_alloc_last (wr.alloc (.cells #[.string (W.A2 k).name,.int .i64 (W.A2 k).origin,.int .i64 (W.A2 k).A8,.int .i64 (W.A2 k).rs,.int .i64 (W.A2 k).rb,.slice n (W.A2 k).dn o] 46)) (.cells #[.int .i64 (W.A2 k).A8,.int .i64 W.time,.int .i64 (W.A2 k).rs,.int .i64 (W.A2 k).rb,.slice n (W.A2 k).dn o] 169)));have j:=A4 ((g.out.A1 m).A1 l);have F:=A4 ((u.out.A1 m).A1 l);have x:=A9 (A9 B m) l;have lA:=u.out.1.lt;have H:(wr.alloc (.cells #[.string (W.A2 k).name,.int .i64 (W.A2 k).origin,.int .i64 (W.A2 k).A8,.int .i64 (W.A2 k).rs,.int .i64 (W.A2 k).rb,.slice n (W.A2 k).dn o] 46)).heap.size=wr.heap.size+1:=World.size_alloc _ _;have mA:=l.size;rw[H]at L;have q0:=d.c0;have q1:=d.c1;have q2:=d.c2;have q3:=d.c3;have q4:=d.c4;have q5:=d.c5;obtain⟨y0,y1,y2,y3,y4,y5⟩:=E.out.c;obtain⟨z0,z2,z4,z6,z8,vB⟩:=dA.out.c;clear d m l g u;go_wp2_with (first
      | (at_builtin;refine wpList_append_lies _ rfl _ _ 166 rfl (w.heap.size+1) 169 i0 (.agg #[.int .i64 0,.int .i64 0,.int .i64 0,.int .i64 0,.slice none 0 0]) 5 56 (by kernel_rfl) D.out.1 D.out.2.1 D.out.2.2.1 D.out.2.2.2 rfl (by decide) _ _ _ rfl j.out ⟨wr.heap.size+1,0,none⟩ 1 1 [.int .i64 (W.A2 k).A8,.int .i64 W.time,.int .i64 (W.A2 k).rs,.int .i64 (W.A2 k).rb,.slice n (W.A2 k).dn o] rfl rfl L.out (by simp[Value.oneCell']) (by decide) (by unfold maxLen;omega) (by omega) (by omega) _ rfl ?_;intro g' M w8 s f O X)
      | go_in)
     go_roundw
     case rel=>
      have y:∀q,Value.ownBlock _=some q->w.heap.size+1<=q:=fun q z=>(j.out.lt z).1
      refine⟨k+1,by omega,by go_num,?_,F.out.grown f (fun q z=>by have:=y q z;omega),x.grown f x.size (fun q z=>by have:=y q z;omega)⟩;show ES w8 (w.heap.size+1) _ W vd (W.pn+k+1);refine ES.next ?_;rw[C4,G.out];exact s
     case measure=>simp[intOf];omega
    ·obtain rfl:k=W.sn:=(by omega);go_wp2;go_ret;exact⟨_,vd,rfl,ES.at g.out (fun i hi'=>(jA.out i hi').A1 B),B⟩
def Fw(w:World)(b:Nat)(v0 v1 v2 v3 v4:Value):Prop:=AO w b 0 v0/\AO w b 1 v1/\AO w b 2 v2/\AO w b 3 v3/\AO w b 4 v4
theorem Fw.A1{w':World}{b:Nat}{v0 v1 v2 v3 v4:Value}(h:Fw w b v0 v1 v2 v3 v4)(t:Below w.heap.size w w'):Fw w' b v0 v1 v2 v3 v4:=⟨h.1.A1 t,h.2.1.A1 t,h.2.2.1.A1 t,h.2.2.2.1.A1 t,h.2.2.2.2.A1 t⟩
theorem Fw.new(w:World)(b v1 c d e:Value)(t:TypeId):Fw (w.alloc (.cells #[b,v1,c,d,e] t)) w.heap.size b v1 c d e:=by
 have a:(w.alloc (.cells #[b,v1,c,d,e] t)).heap[w.heap.size]?=some (.cells #[b,v1,c,d,e] t):=heap_alloc_new _ _;exact⟨Az a rfl,Az a rfl,Az a rfl,Az a rfl,Az a rfl⟩
def G4(W:A6):Prop:=∀i,i<memN W->(Lit.int .i64 (AA W i).A8).wf=true
def JO(W:A6)(i:Nat):Prop:=(AI W (AA W i).A8).id=(AA W i).A8
theorem ON(v:Value)(s:Aa)(w:World):(Instr.field 41 (DI v s) 0).run Tryz.prog w = .ok (A0 s.id) w/\(Instr.field 41 (DI v s) 2).run Tryz.prog w = .ok (.string s.set) w/\(Instr.field 41 (DI v s) 3).run Tryz.prog w = .ok (A0 s.A8) w/\(Instr.field 41 (DI v s) 4).run Tryz.prog w = .ok (A0 s.time) w:=by
 refine⟨?_,?_,?_,?_⟩<;>kernel_rfl
theorem zCe(q v1 r s:Value)(lo hi:Nat)(W:A6)(A:Nat)(w:World)(h:C7 w lo hi q v1 r s W)(hs:W.sn<=8)(R:W.pn<=20)(O:G3 w lo hi W A)(P:Hj W)(B:G4 W) :
 Calls Tryz.prog 66 #[Cc q v1 r s W,KK A] w fun e w'=>AJ (∀i,i<memN W->JO W i) e/\Below w.heap.size w w':=by
 have Y:=A4 h;have U:=A4 O;have X:=A4 P;have F:=A4 B;clear h O P B;have D:=AB w (.cells #[q,v1,A0 W.time,A0 W.next,r,s] 30);obtain⟨x0,x2,x4,x6,x8,M⟩:=(At.new w q v1 (A0 W.time) (A0 W.next) r s 30).c;go_enter Tryz.func66,Tryz.ntmps66;go_wp2_with fail;clear x0 x2 x4 x6 x8 M;generalize w.alloc (.cells #[q,v1,A0 W.time,A0 W.next,r,s] 30)=W0 at D ⊢;refine(Ri q v1 r s lo hi W W0 (Y.out.A1 D) hs R).mono ?_;rintro e T ⟨vm,vd,rfl,K,v⟩;have N:=A4 K;have l:=A9 D v;obtain⟨am,cm,rfl,bA⟩:=id K.form;have eA:memN W<=28:=by unfold memN;omega
 clear D v K;go_wp2
 go_loopw [10] (fun i wr=>∃k:Nat,k<=memN W/\i=A0 k/\(∀j,j<k->JO W j)/\Below T.heap.size T wr) (fun i _=>memN W - (intOf i).toNat)
 case atStart=>exact⟨0,Nat.zero_le _,rfl,fun j hj=>absurd hj (Nat.not_lt_zero _),Below.refl _ _⟩
 case round=>
  obtain⟨k,hk,rfl,d,u⟩:=hrel;have b:=A4 d;clear d;by_cases a:k<memN W;rotate_left
  ·obtain rfl:k=memN W:=(by omega);go_wp2;go_ret;exact⟨AJ.yes b.out,A9 l u⟩
  have Q:(k:Int)<(memN W:Int):=(by omega);obtain⟨g,cg,e,q0,q1,q2,q3,S⟩:=(N.out.A1 u).cells k a;obtain⟨-,H,I,z,-,-⟩:=id ((N.out.A1 u).dead k a);rw[z]at S;cases e;have o:=AB wr (.cells #[A0 (AA W k).A8,A0 (AA W k).time,A0 (AA W k).rs,A0 (AA W k).rb,.slice H (AA W k).dn I] 169);have C:=A4 (Fw.new wr (A0 (AA W k).A8) (A0 (AA W k).time) (A0 (AA W k).rs) (A0 (AA W k).rb) (.slice H (AA W k).dn I) 169);have f:=A4 (U.out.A1 (A9 l (A9 u o)));have x:=A9 u o;have G:=A4 (F.out k a);have t:=A4 (show JO W k↔(AI W (AA W k).A8).id=(AA W k).A8 from Iff.rfl);clear z o;generalize AA W k=m at *;go_wp2_with fail;clear q0 q1 q2 q3 S;generalize wr.alloc (.cells #[A0 m.A8,A0 m.time,A0 m.rs,A0 m.rb,.slice H m.dn I] 169)=W2 at C f x ⊢;generalize wr.heap.size=V at C ⊢;obtain⟨⟨y0,-⟩,-⟩:=C.out;go_region_held3 (fun w'=>w'.cell? ⟨V,0,none⟩=some (A0 m.A8)) (go_keep)
   (first | (go_at_call 126;refine(Jo lo hi W A m.A8 _ ?_ X.out G.out R).mono ?_;(exact f.out.A1 (Below.refl _ _).drew);rintro e w6 ⟨Z,ca,rfl,L,n⟩;have J:=fun w=>(ON (.slice Z (AI W m.A8).dn ca) (AI W m.A8) w).1;obtain⟨⟨z0,_⟩,_⟩:=C.out.A1 (Cp n)))
  have y:=RC x n;clear n L J z0 y0 f;by_cases p:(AI W m.A8).id=m.A8
  ·have hd:((AI W m.A8).id != m.A8)=false:=(by simp[p]);have E:=A4 (t.out.2 p);clear p;go_wp2;go_roundw
   case rel=>exact⟨k+1,by omega,by go_num,Br a b.out E.out,y⟩
   case measure=>simp[intOf];omega
  ·have hd:((AI W m.A8).id != m.A8)=true:=(by simp[p]);have E:=A4 (fun h=>p (t.out.1 h));clear p;go_wp2;go_ret;exact⟨AJ.no fun h=>E.out (h k a),A9 l y⟩
theorem zAh(v:Value)(n lo hi:Nat)(f g:Nat->Int)(x y:Int)(w:World)(t:BG w lo hi v n f g) :
 Calls Tryz.prog 192 #[v,.agg #[A0 x,A0 y]] w fun e w'=>∃r:Int,e = .returned (A0 r)/\(0<=r↔PIn n f g x y)/\Below w.heap.size w w':=by
 have D:=A4 t;obtain⟨F,a,c,rfl,K,-⟩:=id t;unfold maxLen at F;clear t;have E:=AB w (.cells #[A0 x,A0 y] 38);have C:=A4 (Ad.new w (A0 x) (A0 y) 38);go_enter Tryz.func192,Tryz.ntmps192;go_wp2
 go_loopw [8] (fun i wr=>∃k:Nat,k<=n/\i=A0 k/\¬PIn k f g x y/\Ad wr w.heap.size (A0 x) (A0 y)/\Below w.heap.size w wr) (fun i _=>n - (intOf i).toNat)
 case atStart=>exact⟨0,Nat.zero_le _,rfl,fun ⟨j,A,_⟩=>absurd A (Nat.not_lt_zero _),C.out,E⟩
 case round=>
  obtain⟨k,J,rfl,p,z,q⟩:=hrel;have m:=A4 p;have u:=A4 z;clear p z;obtain⟨⟨L,M⟩,⟨N,O⟩⟩:=u.out;by_cases o:k<n
  ·have B:(k:Int)<(n:Int):=(by omega);obtain⟨b,off,rfl,G,q1⟩:=(D.out.A1 q).cellsD o;by_cases d:f k=x/\g k=y
   ·have H:=A4 (show PIn n f g x y from⟨k,o,d.1,d.2⟩);rw[d.1]at G;rw[d.2]at q1;clear d;go_wp2
    go_quiet (fail)
    go_wp2;go_ret;exact⟨k,rfl,⟨fun _=>H.out,fun _=>by omega⟩,Js q _⟩
   ·have H:=A4 d;have e0:(x == f k)=false\/(x == f k)=true/\(y == g k)=false:=by
     by_cases h:f k=x
     ·right;refine⟨by simp[h],?_⟩;have:¬y=g k:=fun s=>d ⟨h,s.symm⟩
      simp[this]
     ·left;have:¬x=f k:=fun s=>h s.symm
      simp[this]
    clear d;rcases e0 with e0 | ⟨e0,I⟩
    all_goals
     go_wp2
     go_quiet (fail)
     go_wp2;go_roundw
     case rel=>
      refine⟨k+1,by omega,by go_num,?_,u.out.A1 (Js (Below.refl _ _) _),Js q _⟩;rintro⟨j,A,l⟩;by_cases e:j=k
      ·subst e;exact H.out ⟨l.1,l.2⟩
      ·exact m.out ⟨j,by omega,l⟩
     case measure=>simp[intOf];omega
  ·obtain rfl:k=n:=(by omega);go_wp2;go_ret;exact⟨-1,rfl,⟨fun h=>absurd h (by decide),fun h=>absurd h m.out⟩,q⟩
theorem ZB(v:Value)(n lo hi:Nat)(f g:Nat->Int)(x y:Int)(w:World)(c:BG w lo hi v n f g) :
 Calls Tryz.prog 173 #[v,.agg #[A0 x,A0 y]] w fun e w'=>AJ (PIn n f g x y) e/\Below w.heap.size w w':=by
 have h:=A4 c;clear c;have b:=AB w (.cells #[A0 x,A0 y] 38);obtain⟨⟨k,-⟩,⟨l,-⟩⟩:=Ad.new w (A0 x) (A0 y) 38;go_enter Tryz.func173,Tryz.ntmps173;go_wp2_with fail;refine(zAh v n lo hi f g x y _ (h.out.A1 b)).mono ?_;rintro e m ⟨r,rfl,d,a⟩;have i:=A4 d;have j:=A9 b a;clear d a k l b;go_wp2;go_ret;refine⟨⟨_,rfl,?_⟩,j⟩;have:=i.out;simp only[decide_eq_true_eq];exact this
theorem zBO(v:Value)(n lo hi:Nat)(f g:Nat->Int)(x y:Int)(T:Nat)(w:World)(i:BG w lo hi v n f g)(j:w.cell? ⟨T,0,none⟩=some v) :
 Calls Tryz.prog 172 #[.agg #[A0 x,A0 y],.pointer (some ⟨T,0,none⟩)] w fun e w'=>AJ (PIn n f g x y) e/\Below w.heap.size w w':=by
 have l:=A4 i;obtain⟨s,a,c,rfl,t,-⟩:=id i;clear i;have h:=AB w (.cells #[A0 x,A0 y] 38);obtain⟨⟨q,-⟩,⟨r,-⟩⟩:=Ad.new w (A0 x) (A0 y) 38;have k:=(h.cell (p:=⟨T,0,none⟩) (AV j)).trans j;clear j;go_enter Tryz.func172,Tryz.ntmps172;go_wp2_with fail;refine(ZB _ n lo hi f g x y _ (l.out.A1 h)).mono ?_;rintro e z ⟨⟨u,rfl,d⟩,b⟩;have m:=A4 d;have o:=A9 h b;clear d b q r h k;go_wp2;go_ret;exact⟨⟨_,rfl,m.out⟩,o⟩
theorem zAf(v:Value)(n lo hi:Nat)(f g:Nat->Int)(x y:Int)(T:Nat)(w:World)(i:BG w lo hi v n f g)(j:w.cell? ⟨T,0,none⟩=some v) :
 Calls Tryz.prog 174 #[.agg #[A0 x,A0 y],.pointer (some ⟨T,0,none⟩)] w fun e w'=>AJ (PIn n f g x y) e/\Below w.heap.size w w':=by
 have l:=A4 i;obtain⟨s,a,c,rfl,t,-⟩:=id i;clear i;have h:=AB w (.cells #[A0 x,A0 y] 38);obtain⟨⟨q,-⟩,⟨r,-⟩⟩:=Ad.new w (A0 x) (A0 y) 38;have k:=(h.cell (p:=⟨T,0,none⟩) (AV j)).trans j;clear j;go_enter Tryz.func174,Tryz.ntmps174;go_wp2_with fail;refine(ZB _ n lo hi f g x y _ (l.out.A1 h)).mono ?_;rintro e z ⟨⟨u,rfl,d⟩,b⟩;have m:=A4 d;have o:=A9 h b;clear d b q r h k;go_wp2;go_ret;exact⟨⟨_,rfl,m.out⟩,o⟩
theorem Ku(q v1 b c:Value)(lo hi:Nat)(W:A6)(xs xb:Int)(w:World)(h:C7 w lo hi q v1 b c W)(k:AZ W.pool)(l:B3 W.pool xs xb) :
 Calls Tryz.prog 132 #[Cc q v1 b c W,.agg #[A0 xs,A0 xb]] w fun e w'=>∃v,e = .returned v/\Ax w' w.heap.size v (AG W.pool xs xb)/\Below w.heap.size w w':=by
 have t:=A4 h;have r:=A4 k;have s:=A4 (show Nil xs xb\/B8 W.pool xs xb from l.imp id (fun h=>h.1.1));obtain⟨D,f,c0,rfl,y,-⟩:=id h.pool.1;clear h k l;have o:=AB w (.cells #[.slice f W.pool.n c0,v1,A0 W.time,A0 W.next,b,c] 30);have i:=At.new w (.slice f W.pool.n c0) v1 (A0 W.time) (A0 W.next) b c 30;have x:(w.alloc (.cells #[.slice f W.pool.n c0,v1,A0 W.time,A0 W.next,b,c] 30)).heap.size=w.heap.size+1:=World.size_alloc _ _;have d:=AB (w.alloc (.cells #[.slice f W.pool.n c0,v1,A0 W.time,A0 W.next,b,c] 30)) (.cells #[A0 xs,A0 xb] 38);have m:=Ad.new (w.alloc (.cells #[.slice f W.pool.n c0,v1,A0 W.time,A0 W.next,b,c] 30)) (A0 xs) (A0 xb) 38;rw[x]at m;have a:=A9 o d;obtain⟨⟨z,-⟩,⟨A,-⟩,-⟩:=i.A1 d;obtain⟨⟨B,-⟩,⟨C,-⟩⟩:=m;clear i o d;go_enter Tryz.func132,Tryz.ntmps132;go_wp2_with fail;clear z A B C;generalize (w.alloc (.cells #[.slice f W.pool.n c0,v1,A0 W.time,A0 W.next,b,c] 30)).alloc (.cells #[A0 xs,A0 xb] 38)=W0 at a ⊢;refine(VZ W.pool r.out _ lo hi xs xb W0 (t.out.pool.1.A1 a) s.out).mono ?_;rintro e E ⟨v,rfl,p,g⟩;have u:=A4 p;have i:=A9 a g;have j:=a.size;clear p g;go_wp2;go_ret;exact⟨v,rfl,Ax.mono u.out j,i⟩
theorem Z7(n:Int)(w:World):Calls Tryz.prog 177 #[A0 n] w fun e w'=>AJ (FZ n) e/\w'=w:=by
 by_cases a:0<=n
 ·by_cases b:n<=1000000
  ·go_enter Tryz.func177,Tryz.ntmps177;go_wp2;go_ret;exact⟨AJ.yes ⟨a,b⟩,rfl⟩
  ·go_enter Tryz.func177,Tryz.ntmps177;go_wp2;go_ret;exact⟨AJ.no fun h=>by have:=h.2;omega,rfl⟩
 ·go_enter Tryz.func177,Tryz.ntmps177;go_wp2;go_ret;exact⟨AJ.no fun h=>by have:=h.1;omega,rfl⟩
theorem zAL(x y t:Int)(T:Nat)(w:World)(b:w.cell? ⟨T,0,none⟩=some (A0 t)):Calls Tryz.prog 178 #[.agg #[A0 x,A0 y],.pointer (some ⟨T,0,none⟩)] w fun e w'=>AJ (t<y) e/\Below w.heap.size w w':=by
 have a:=AB w (.cells #[A0 x,A0 y] 38);have c:=(a.cell (p:=⟨T,0,none⟩) (AV b)).trans b;by_cases h:t<y
 ·go_enter Tryz.func178,Tryz.ntmps178;go_wp2;go_ret;exact⟨⟨_,rfl,by simpa using h⟩,a⟩
 ·go_enter Tryz.func178,Tryz.ntmps178;go_wp2;go_ret;exact⟨⟨_,rfl,by simpa using h⟩,a⟩
def Ig(l l':List (Int×Int))(w w':World)(v v':Value):Prop:=Ax w' w.heap.size v l/\Ax w' w.heap.size v' l'/\(∀q,v.ownBlock=some q->v'.ownBlock≠some q)/\Below w.heap.size w w'
variable{l:List (Int×Int)}
theorem Kd{w2:World}{g cap:Nat}{v':Value}{l':List (Int×Int)}{x y:Int}(d:Ax w1 base v' l')(f:∀q,v.ownBlock=some q->v'.ownBlock≠some q)
 (a:w2.ownsRow base 38 2 (.slice (some ⟨g,0,none⟩) (l.length+1) cap) (l.length+1) (pcl l ++ [A0 x,A0 y])) (i:w1.grownBy w2 v.ownBlock) (c:v.ownBlock=some g\/g=w1.heap.size) :
 Ax w2 base (.slice (some ⟨g,0,none⟩) (l.length+1) cap) (l ++ [(x,y)])/\Ax w2 base v' l'/\(∀q,(Value.slice (some ⟨g,0,none⟩) (l.length+1) cap).ownBlock=some q->v'.ownBlock≠some q):=by
 refine⟨?_,d.AD i (fun q b e=>f q e b),fun q b e=>?_⟩
 ·unfold Ax;rw[MH,List.length_append];exact a
 ·simp only[Value.ownBlock,Option.some.injEq]at b;subst b;rcases c with h | h
  ·exact f _ h e
  ·have:=(d.lt e).2;omega
theorem zFr(v:Value)(n lo hi T:Nat)(f g:Nat->Int)(t:Int)(w:World)(W:BG w lo hi v n f g)(hn:n<=200)(hT:w.cell? ⟨T,0,none⟩=some (A0 t)) :
 Calls Tryz.prog 171 #[v,.func (.func 178) #[] #[.pointer (some ⟨T,0,none⟩)]] w fun e w'=>∃M L,e = .returned (.tuple #[M,L])/\Ig (Bl f g t n) (C6 f g t n) w w' M L:=by
 have Hp:=Ac W;have HT:=Ac hT;obtain⟨m1,a,c,rfl,mc,_⟩:=id W;clear W hT;obtain⟨i0,J,D⟩:=Option.map_eq_some_iff.1 Nz;simp only[Prod.mk.injEq]at D;have y:=Ac (And.intro J D);clear J D;go_enter Tryz.func171,Tryz.ntmps171;go_wp2
 go_loopw [6,7,12] (fun M L i wr=>∃k:Nat,k<=n/\i=A0 k/\Ig (Bl f g t k) (C6 f g t k) w wr M L) (fun _ _ i _=>n - (intOf i).toNat)
 case atStart=>exact⟨0,Nat.zero_le _,rfl,Ax.nil _ _,Ax.nil _ _,fun q l=>by simp[Value.ownBlock]at l,Below.refl _ _⟩
 case round=>
  obtain⟨k,hk,rfl,hy,ho,I,X⟩:=hrel;have Q:=Ac hy;have O:=Ac ho;have z:=Ac I;have fA:=Kq f g t k;clear hy ho I;by_cases Y:k<n
  ·have gA:(k:Int)<(n:Int):=(by omega);obtain⟨b,off,rfl,q0,q1⟩:=(Hp.out.A1 X).cellsD Y;have u:=AB wr (.cells #[A0 (f k),A0 (g k)] 38);have HV:=Ac (Ad.new wr (A0 (f k)) (A0 (g k)) 38);have C:=A9 X u;have F:=Ac ((C.cell (p:=⟨T,0,none⟩) (AV HT.out)).trans HT.out);have lA:∀(fn:Fn) (first cap:Array Value) (w:World),(Instr.makeFunc fn first cap).run Tryz.prog w = .ok (.func fn first cap) w:=fun _ _ _ _=>rfl
   go_wp2_with fail;refine(zAL (f k) (g k) t T _ F.out).mono ?_;rintro e E ⟨⟨s,rfl,hs⟩,o⟩;have R:=Ac ((Q.out.A1 u).A1 o);have P:=Ac ((O.out.A1 u).A1 o);have N:=Ac (HV.out.A1 o);have H:=A9 C o;clear o C u Q O HV q0 q1 F;have mA:=H.size;obtain⟨⟨x0,x1⟩,⟨x2,x3⟩⟩:=N.out;have x:=AB E (.cells #[A0 (f k),A0 (g k)] 38);have B:=Ac (R.out.A1 x);have A:=Ac (P.out.A1 x);have r:=A9 H x;have nA:(E.alloc (.cells #[A0 (f k),A0 (g k)] 38)).heap.size=E.heap.size+1:=World.size_alloc _ _;have HN:=Ac (World.news_of_block (heap_alloc_last E (.cells #[A0 (f k),A0 (g k)] 38)));clear x;by_cases l:t<g k
   ·obtain rfl:s=true:=hs.2 l;have U:Bl f g t (k+1)=Bl f g t k ++ [(f k,g k)]:=if_pos l;have S:C6 f g t (k+1)=C6 f g t k:=if_pos l;clear hs l;go_wp2_with (first
     | (at_builtin;refine wpList_append_lies _ rfl _ _ 39 rfl w.heap.size 38 i0 (.agg #[A0 0,A0 0]) 2 16 (by kernel_rfl) y.out.1 y.out.2.1 y.out.2.2.1 y.out.2.2.2 rfl (by decide) _ _ _ rfl B.out ⟨E.heap.size,0,none⟩ 1 1 [A0 (f k),A0 (g k)] rfl rfl HN.out (by simp[Value.oneCell']) (by decide) (by unfold maxLen;omega) (by omega) (by omega) _ rfl ?_;intro g' G w4 j d m K)
     | go_in)
    go_roundw
    case rel=>
     obtain⟨r1,Z,r3⟩:=Kd A.out z.out j d m;exact⟨k+1,by omega,by go_num,by rw[U];exact r1,by rw[S];exact Z,r3,r.grown d r.size (fun q l=>(B.out.lt l).1)⟩
    case measure=>simp[intOf];omega
   ·obtain rfl:s=false:=BQ hs l;have U:Bl f g t (k+1)=Bl f g t k:=if_neg l;have S:C6 f g t (k+1)=C6 f g t k ++ [(f k,g k)]:=if_neg l;clear hs l;go_wp2_with (first
     | (at_builtin;refine wpList_append_lies _ rfl _ _ 39 rfl w.heap.size 38 i0 (.agg #[A0 0,A0 0]) 2 16 (by kernel_rfl) y.out.1 y.out.2.1 y.out.2.2.1 y.out.2.2.2 rfl (by decide) _ _ _ rfl A.out ⟨E.heap.size,0,none⟩ 1 1 [A0 (f k),A0 (g k)] rfl rfl HN.out (by simp[Value.oneCell']) (by decide) (by unfold maxLen;omega) (by omega) (by omega) _ rfl ?_;intro g' G w4 j d m K)
     | go_in)
    go_roundw
    case rel=>
     obtain⟨r1,Z,r3⟩:=Kd B.out (fun q h V=>z.out q V h) j d m;exact⟨k+1,by omega,by go_num,by rw[U];exact Z,by rw[S];exact r1,fun q h V=>r3 q V h,r.grown d r.size (fun q l=>(A.out.lt l).1)⟩
    case measure=>simp[intOf];omega
  ·obtain rfl:k=n:=(by omega);go_wp2
   go_ret2
   exact⟨_,_,rfl,Q.out,O.out,z.out,X⟩
def zIS(n:Nat)(f g:Nat->Int)(t:Int)(l:List (Int×Int)):Prop:=(Cf n f g/\FZ t->l=Bl f g t n)/\(¬(Cf n f g/\FZ t)->l = [])
def zIR(n:Nat)(f g:Nat->Int)(t:Int)(l:List (Int×Int)):Prop:=(Cf n f g/\FZ t->l=C6 f g t n)/\(¬(Cf n f g/\FZ t)->l = [])
def zGU(n:Nat)(f g:Nat->Int)(t:Int)(w:World)(e:Ending)(w':World):Prop:=∃vy vo l l',e = .returned (.agg #[vy,vo])/\zIS n f g t l/\zIR n f g t l'/\Ig l l' w w' vy vo
theorem Rh(v:Value)(n lo hi:Nat)(f g:Nat->Int)(t:Int)(w:World)(F:BG w lo hi v n f g) :
 Calls Tryz.prog 131 #[v,A0 t] w (zGU n f g t w):=by
 have B:=Ac F;obtain⟨X,a,c,rfl,Y,_⟩:=id F;clear F;have N:∀(fn:Fn) (first cap:Array Value) (w:World),(Instr.makeFunc fn first cap).run Tryz.prog w = .ok (.func fn first cap) w:=fun _ _ _ _=>rfl
 have K:=AB w (.cells #[A0 t] 2);have y:=AB (w.alloc (.cells #[A0 t] 2)) (.cells #[A5,A5] 174);have k:=A9 K y;have r:=Ac (show AO ((w.alloc (.cells #[A0 t] 2)).alloc (.cells #[A5,A5] 174)) w.heap.size 0 (A0 t)from AO.A1 ⟨by rw[World.cell?_alloc_at _ _ _ _ rfl];rfl,World.frozen?_alloc_at _ _ _ _ rfl⟩ y);have m:=Ac (Ad.new (w.alloc (.cells #[A0 t] 2)) (A5) (A5) 174);rw[World.size_alloc]at m;clear K y;by_cases C:Cf n f g
 ·have o:=Ac C;clear C;by_cases u:FZ t
  ·have x:=Ac u;clear u;go_enter Tryz.func131,Tryz.ntmps131;go_wp2_with fail;generalize (w.alloc (.cells #[A0 t] 2)).alloc (.cells #[A5,A5] 174)=W at r m k ⊢;refine(J9 _ n lo hi f g _ (B.out.A1 k)).mono ?_;rintro e L ⟨⟨s,rfl,hs⟩,b⟩;obtain rfl:s=true:=hs.2 o.out;have l:=Ac (r.out.A1 b);have j:=Ac (m.out.A1 b);have d:=A9 k b;clear hs b k r m;obtain⟨I,J⟩:=l.out;go_wp2_with (first
    | (go_at_call 177;refine(Z7 t _).mono ?_;rintro e M ⟨⟨s,rfl,hs⟩,rfl⟩;obtain rfl:s=true:=hs.2 x.out;clear hs)
    | fail)
   go_wp2_with fail;refine(zFr _ n lo hi w.heap.size f g t _ (B.out.A1 d) o.out.1 l.out.1).mono ?_;rintro e w3 ⟨vy,Z,rfl,i⟩;have z:=i.2.2.2;have H:=Bw i.1;have A:=Bw i.2.1;obtain⟨U,V,rfl,_⟩:=H;obtain⟨O,P,rfl,_⟩:=A;have E:=Ac (j.out.A1 z);have D:=Ac i;have p:w.heap.size+1<M.heap.size:=j.out.1.lt;have G:=A9 d z;clear i z I J l j;obtain⟨⟨I,J⟩,⟨x2,x3⟩⟩:=E.out;go_wp2;refine bodyPost_ret (v:=.agg #[.slice U (Bl f g t n).length V,.slice O (C6 f g t n).length P]) (by simp[results,Tryz.results131,go_sem, *]) rfl ?_;refine⟨_,_,Bl f g t n,C6 f g t n,rfl,⟨fun _=>rfl,fun h=>absurd ⟨o.out,x.out⟩ h⟩,⟨fun _=>rfl,fun h=>absurd ⟨o.out,x.out⟩ h⟩,?_,?_,D.out.2.2.1,(G.setCell (by show w.heap.size<=w.heap.size+1;omega) _).setCell (by show w.heap.size<=w.heap.size+1;omega) _⟩
   ·exact(((Ax.put D.out.1 p _).put p _)).mono d.size
   ·exact(((Ax.put D.out.2.1 p _).put p _)).mono d.size
  ·have x:=Ac u;clear u;go_enter Tryz.func131,Tryz.ntmps131;go_wp2_with fail;generalize (w.alloc (.cells #[A0 t] 2)).alloc (.cells #[A5,A5] 174)=W at r m k ⊢;refine(J9 _ n lo hi f g _ (B.out.A1 k)).mono ?_;rintro e L ⟨⟨s,rfl,hs⟩,b⟩;obtain rfl:s=true:=hs.2 o.out;have l:=Ac (r.out.A1 b);have j:=Ac (m.out.A1 b);have d:=A9 k b;clear hs b k r m;obtain⟨I,J⟩:=l.out;obtain⟨⟨Q,R⟩,⟨S,T⟩⟩:=j.out;go_wp2_with (first
    | (go_at_call 177;refine(Z7 t _).mono ?_;rintro e M ⟨⟨s,rfl,hs⟩,rfl⟩;obtain rfl:s=false:=BQ hs x.out;clear hs)
    | fail)
   go_wp2;refine bodyPost_ret (v:=.agg #[A5,A5]) (by simp[results,Tryz.results131,go_sem, *]) rfl ?_;exact⟨_,_,[],[],rfl,⟨fun h=>absurd h.2 x.out,fun _=>rfl⟩,⟨fun h=>absurd h.2 x.out,fun _=>rfl⟩,Ax.nil _ _,Ax.nil _ _,fun q u=>by simp[Value.ownBlock]at u,(d.setCell (by show w.heap.size<=w.heap.size+1;omega) _).setCell (by show w.heap.size<=w.heap.size+1;omega) _⟩
 ·have o:=Ac C;clear C;go_enter Tryz.func131,Tryz.ntmps131;go_wp2_with fail;generalize (w.alloc (.cells #[A0 t] 2)).alloc (.cells #[A5,A5] 174)=W at r m k ⊢;refine(J9 _ n lo hi f g _ (B.out.A1 k)).mono ?_;rintro e L ⟨⟨s,rfl,hs⟩,b⟩;obtain rfl:s=false:=BQ hs o.out;have j:=Ac (m.out.A1 b);have d:=A9 k b;clear hs b k r m;obtain⟨⟨Q,R⟩,⟨S,T⟩⟩:=j.out;go_wp2;refine bodyPost_ret (v:=.agg #[A5,A5]) (by simp[results,Tryz.results131,go_sem, *]) rfl ?_;exact⟨_,_,[],[],rfl,⟨fun h=>absurd h.1 o.out,fun _=>rfl⟩,⟨fun h=>absurd h.1 o.out,fun _=>rfl⟩,Ax.nil _ _,Ax.nil _ _,fun q u=>by simp[Value.ownBlock]at u,(d.setCell (by show w.heap.size<=w.heap.size+1;omega) _).setCell (by show w.heap.size<=w.heap.size+1;omega) _⟩
variable{m:List (Int×Int)}
theorem VE{k:Nat}(a:k<l.length)(h:(AN l k,AP l k)∈m):Ct (l.take (k+1)) m=Ct (l.take k) m ++ [(AN l k,AP l k)]:=by
 unfold AN AP at h ⊢;rw[D6 a]at h ⊢;unfold Ct;rw[List.take_succ_eq_append_getElem a,List.filter_append,List.filter_cons];simp only[List.filter_nil];rw[if_pos (by simp;exact h)]
theorem Tq{k:Nat}(a:k<l.length)(h:(AN l k,AP l k)∉m):Ct (l.take (k+1)) m=Ct (l.take k) m:=by
 unfold AN AP at h;rw[D6 a]at h;unfold Ct;rw[List.take_succ_eq_append_getElem a,List.filter_append,List.filter_cons];simp only[List.filter_nil];rw[if_neg (by simp;exact h),List.append_nil]
theorem VD(l m:List (Int×Int))(k:Nat):(Ct (l.take k) m).length<=k/\(BR (l.take k) m).length<=k:=by
 refine⟨?_,Un l m k⟩;unfold Ct;exact Nat.le_trans (List.length_filter_le _ _) (by rw[List.length_take];omega)
theorem zCM(v v2:Value)(lo hi O M T:Nat)(l m:List (Int×Int))(w:World)(h1:BG w lo hi v l.length (AN l) (AP l))(hn:l.length<=200)(h2:BG w O M v2 m.length (AN m) (AP m))(hT:w.cell? ⟨T,0,none⟩=some v2) :
 Calls Tryz.prog 171 #[v,.func (.func 172) #[] #[.pointer (some ⟨T,0,none⟩)]] w fun e w'=>∃S R,e = .returned (.tuple #[S,R])/\Ig (Ct l m) (BR l m) w w' S R:=by
 have Hp:=Ac h1;have HT:=Ac hT;have U:=Ac h2;obtain⟨m1,a,c,rfl,mc,_⟩:=id h1;clear h1 hT h2;unfold maxLen at m1;obtain⟨i0,L,E⟩:=Option.map_eq_some_iff.1 Nz;simp only[Prod.mk.injEq]at E;have y:=Ac (And.intro L E);clear L E;go_enter Tryz.func171,Tryz.ntmps171;go_wp2
 go_loopw [6,7,12] (fun S R i wr=>∃k:Nat,k<=l.length/\i=A0 k/\Ig (Ct (l.take k) m) (BR (l.take k) m) w wr S R) (fun _ _ i _=>l.length - (intOf i).toNat)
 case atStart=>exact⟨0,Nat.zero_le _,rfl,Ax.nil _ _,Ax.nil _ _,fun q g=>by simp[Value.ownBlock]at g,Below.refl _ _⟩
 case round=>
  obtain⟨k,hk,rfl,hy,ho,K,hb⟩:=hrel;have Q:=Ac hy;have P:=Ac ho;have z:=Ac K;have mA:=VD l m k;clear hy ho K;by_cases o:k<l.length
  ·have nA:(k:Int)<(l.length:Int):=(by omega);obtain⟨b,off,rfl,q0,q1⟩:=(Hp.out.A1 hb).cellsD o;have u:=AB wr (.cells #[A0 (AN l k),A0 (AP l k)] 38);have HV:=Ac (Ad.new wr (A0 (AN l k)) (A0 (AP l k)) 38);have r:=A9 hb u;have H:=Ac ((r.cell (p:=⟨T,0,none⟩) (AV HT.out)).trans HT.out);have G:=Ac (U.out.A1 r);have vA:∀(fn:Fn) (first cap:Array Value) (w:World),(Instr.makeFunc fn first cap).run Tryz.prog w = .ok (.func fn first cap) w:=fun _ _ _ _=>rfl
   go_wp2_with fail;refine(zBO v2 m.length O M (AN m) (AP m) (AN l k) (AP l k) T _ G.out H.out).mono ?_;rintro e F ⟨⟨s,rfl,hs⟩,n⟩;have X:=Ac ((Q.out.A1 u).A1 n);have W:=Ac ((P.out.A1 u).A1 n);have V:=Ac (HV.out.A1 n);have J:=A9 r n;clear n r u Q P HV q0 q1 H G;have aB:=J.size;obtain⟨⟨x0,x1⟩,⟨x2,x3⟩⟩:=V.out;have x:=AB F (.cells #[A0 (AN l k),A0 (AP l k)] 38);have B:=Ac (X.out.A1 x);have A:=Ac (W.out.A1 x);have t:=A9 J x;have bB:(F.alloc (.cells #[A0 (AN l k),A0 (AP l k)] 38)).heap.size=F.heap.size+1:=World.size_alloc _ _;have HN:=Ac (World.news_of_block (heap_alloc_last F (.cells #[A0 (AN l k),A0 (AP l k)] 38)));clear x;by_cases g:(AN l k,AP l k)∈m
   ·obtain rfl:s=true:=hs.2 (Hu.2 g);have Z:=Ac (VE o g);have Y:=Ac (Po o g);clear hs g;go_wp2_with (first
     | (at_builtin;refine wpList_append_lies _ rfl _ _ 39 rfl w.heap.size 38 i0 (.agg #[A0 0,A0 0]) 2 16 (by kernel_rfl) y.out.1 y.out.2.1 y.out.2.2.1 y.out.2.2.2 rfl (by decide) _ _ _ rfl B.out ⟨F.heap.size,0,none⟩ 1 1 [A0 (AN l k),A0 (AP l k)] rfl rfl HN.out (by simp[Value.oneCell']) (by decide) (by unfold maxLen;omega) (by omega) (by omega) _ rfl ?_;intro g' I w4 f d j N)
     | go_in)
    go_roundw
    case rel=>
     obtain⟨r1,r2,r3⟩:=Kd A.out z.out f d j;exact⟨k+1,by omega,by go_num,by rw[Z.out];exact r1,by rw[Y.out];exact r2,r3,t.grown d t.size (fun q g=>(B.out.lt g).1)⟩
    case measure=>simp[intOf];omega
   ·obtain rfl:s=false:=BQ hs (fun h=>g (Hu.1 h));have Z:=Ac (Tq o g);have Y:=Ac (QT o g);clear hs g;go_wp2_with (first
     | (at_builtin;refine wpList_append_lies _ rfl _ _ 39 rfl w.heap.size 38 i0 (.agg #[A0 0,A0 0]) 2 16 (by kernel_rfl) y.out.1 y.out.2.1 y.out.2.2.1 y.out.2.2.2 rfl (by decide) _ _ _ rfl A.out ⟨F.heap.size,0,none⟩ 1 1 [A0 (AN l k),A0 (AP l k)] rfl rfl HN.out (by simp[Value.oneCell']) (by decide) (by unfold maxLen;omega) (by omega) (by omega) _ rfl ?_;intro g' I w4 f d j N)
     | go_in)
    go_roundw
    case rel=>
     obtain⟨r1,r2,r3⟩:=Kd B.out (fun q h h'=>z.out q h' h) f d j;exact⟨k+1,by omega,by go_num,by rw[Z.out];exact r2,by rw[Y.out];exact r1,fun q h h'=>r3 q h' h,t.grown d t.size (fun q g=>(A.out.lt g).1)⟩
    case measure=>simp[intOf];omega
  ·obtain rfl:k=l.length:=(by omega);have D:=Q.out;have C:=P.out;rw[List.take_length]at D C;have HY:=Ac D;have HO:=Ac C;clear D C Q P;go_wp2
   go_ret2
   exact⟨_,_,rfl,HY.out,HO.out,z.out,hb⟩
theorem zC1(v v2:Value)(lo hi O M T:Nat)(l m:List (Int×Int))(w:World)(h1:BG w lo hi v l.length (AN l) (AP l))(hn:l.length<=200)(h2:BG w O M v2 m.length (AN m) (AP m))(hT:w.cell? ⟨T,0,none⟩=some v2) :
 Calls Tryz.prog 171 #[v,.func (.func 174) #[] #[.pointer (some ⟨T,0,none⟩)]] w fun e w'=>∃S R,e = .returned (.tuple #[S,R])/\Ig (Ct l m) (BR l m) w w' S R:=by
 have Hp:=Ac h1;have HT:=Ac hT;have U:=Ac h2;obtain⟨m1,a,c,rfl,mc,_⟩:=id h1;clear h1 hT h2;unfold maxLen at m1;obtain⟨i0,L,E⟩:=Option.map_eq_some_iff.1 Nz;simp only[Prod.mk.injEq]at E;have y:=Ac (And.intro L E);clear L E;go_enter Tryz.func171,Tryz.ntmps171;go_wp2
 go_loopw [6,7,12] (fun S R i wr=>∃k:Nat,k<=l.length/\i=A0 k/\Ig (Ct (l.take k) m) (BR (l.take k) m) w wr S R) (fun _ _ i _=>l.length - (intOf i).toNat)
 case atStart=>exact⟨0,Nat.zero_le _,rfl,Ax.nil _ _,Ax.nil _ _,fun q g=>by simp[Value.ownBlock]at g,Below.refl _ _⟩
 case round=>
  obtain⟨k,hk,rfl,hy,ho,K,hb⟩:=hrel;have Q:=Ac hy;have P:=Ac ho;have z:=Ac K;have mA:=VD l m k;clear hy ho K;by_cases o:k<l.length
  ·have nA:(k:Int)<(l.length:Int):=(by omega);obtain⟨b,off,rfl,q0,q1⟩:=(Hp.out.A1 hb).cellsD o;have u:=AB wr (.cells #[A0 (AN l k),A0 (AP l k)] 38);have HV:=Ac (Ad.new wr (A0 (AN l k)) (A0 (AP l k)) 38);have r:=A9 hb u;have H:=Ac ((r.cell (p:=⟨T,0,none⟩) (AV HT.out)).trans HT.out);have G:=Ac (U.out.A1 r);have vA:∀(fn:Fn) (first cap:Array Value) (w:World),(Instr.makeFunc fn first cap).run Tryz.prog w = .ok (.func fn first cap) w:=fun _ _ _ _=>rfl
   go_wp2_with fail;refine(zAf v2 m.length O M (AN m) (AP m) (AN l k) (AP l k) T _ G.out H.out).mono ?_;rintro e F ⟨⟨s,rfl,hs⟩,n⟩;have X:=Ac ((Q.out.A1 u).A1 n);have W:=Ac ((P.out.A1 u).A1 n);have V:=Ac (HV.out.A1 n);have J:=A9 r n;clear n r u Q P HV q0 q1 H G;have aB:=J.size;obtain⟨⟨x0,x1⟩,⟨x2,x3⟩⟩:=V.out;have x:=AB F (.cells #[A0 (AN l k),A0 (AP l k)] 38);have B:=Ac (X.out.A1 x);have A:=Ac (W.out.A1 x);have t:=A9 J x;have bB:(F.alloc (.cells #[A0 (AN l k),A0 (AP l k)] 38)).heap.size=F.heap.size+1:=World.size_alloc _ _;have HN:=Ac (World.news_of_block (heap_alloc_last F (.cells #[A0 (AN l k),A0 (AP l k)] 38)));clear x;by_cases g:(AN l k,AP l k)∈m
   ·obtain rfl:s=true:=hs.2 (Hu.2 g);have Z:=Ac (VE o g);have Y:=Ac (Po o g);clear hs g;go_wp2_with (first
     | (at_builtin;refine wpList_append_lies _ rfl _ _ 39 rfl w.heap.size 38 i0 (.agg #[A0 0,A0 0]) 2 16 (by kernel_rfl) y.out.1 y.out.2.1 y.out.2.2.1 y.out.2.2.2 rfl (by decide) _ _ _ rfl B.out ⟨F.heap.size,0,none⟩ 1 1 [A0 (AN l k),A0 (AP l k)] rfl rfl HN.out (by simp[Value.oneCell']) (by decide) (by unfold maxLen;omega) (by omega) (by omega) _ rfl ?_;intro g' I w4 f d j N)
     | go_in)
    go_roundw
    case rel=>
     obtain⟨r1,r2,r3⟩:=Kd A.out z.out f d j;exact⟨k+1,by omega,by go_num,by rw[Z.out];exact r1,by rw[Y.out];exact r2,r3,t.grown d t.size (fun q g=>(B.out.lt g).1)⟩
    case measure=>simp[intOf];omega
   ·obtain rfl:s=false:=BQ hs (fun h=>g (Hu.1 h));have Z:=Ac (Tq o g);have Y:=Ac (QT o g);clear hs g;go_wp2_with (first
     | (at_builtin;refine wpList_append_lies _ rfl _ _ 39 rfl w.heap.size 38 i0 (.agg #[A0 0,A0 0]) 2 16 (by kernel_rfl) y.out.1 y.out.2.1 y.out.2.2.1 y.out.2.2.2 rfl (by decide) _ _ _ rfl A.out ⟨F.heap.size,0,none⟩ 1 1 [A0 (AN l k),A0 (AP l k)] rfl rfl HN.out (by simp[Value.oneCell']) (by decide) (by unfold maxLen;omega) (by omega) (by omega) _ rfl ?_;intro g' I w4 f d j N)
     | go_in)
    go_roundw
    case rel=>
     obtain⟨r1,r2,r3⟩:=Kd B.out (fun q h h'=>z.out q h' h) f d j;exact⟨k+1,by omega,by go_num,by rw[Z.out];exact r2,by rw[Y.out];exact r1,fun q h h'=>r3 q h' h,t.grown d t.size (fun q g=>(A.out.lt g).1)⟩
    case measure=>simp[intOf];omega
  ·obtain rfl:k=l.length:=(by omega);have D:=Q.out;have C:=P.out;rw[List.take_length]at D C;have HY:=Ac D;have HO:=Ac C;clear D C Q P;go_wp2
   go_ret2
   exact⟨_,_,rfl,HY.out,HO.out,z.out,hb⟩
theorem ZR(v Y:Value)(n lo hi y lo' hi':Nat)(f g f' g':Nat->Int)(w:World)(R:BG w lo hi v n f g)(S:BG w lo' hi' Y y f' g') :
 Calls Tryz.prog 175 #[v,Y] w fun e w'=>AJ (F6 n f g y f' g') e/\Below w.heap.size w w':=by
 have O:=Ac R;have F:=Ac S;obtain⟨m1,a,c,rfl,mc,_⟩:=id R;obtain⟨m2,a',c',rfl,iA,_⟩:=id S;unfold maxLen at m1 m2;clear R S;by_cases Q:Cf n f g
 ·have x:=Ac Q;clear Q;by_cases z:Cf y f' g'
  ·have l:=Ac z;clear z;go_enter Tryz.func175,Tryz.ntmps175;go_wp2_with fail;refine(J9 _ n lo hi f g _ O.out).mono ?_;rintro e Z ⟨⟨t,rfl,q⟩,d⟩;obtain rfl:t=true:=q.2 x.out;clear q;go_wp2_with fail;refine(J9 _ y lo' hi' f' g' _ (F.out.A1 d)).mono ?_;rintro e H ⟨⟨t,rfl,q⟩,s⟩;obtain rfl:t=true:=q.2 l.out;have r:=A9 d s;clear q d s;go_wp2_with fail;refine(Z5 _ n lo hi f g _ (O.out.A1 r) x.out.1 x.out.2.1).mono ?_;rintro e w3 ⟨rfl,X,M⟩;have V:=Ac X;have K:=A9 r M;have hz:w.heap.size<=H.heap.size:=r.size;clear X M r;go_wp2
   go_loopw [20] (fun i wr=>∃(k:Nat) (D:DataW Unit),k<=y/\i=A0 k/\Rv wr H.heap.size n D/\F4 n f g f' k D/\(∀j,j<k->PIn n f g (f' j) (g' j))/\Below w.heap.size w wr) (fun i _=>y - (intOf i).toNat)
   case atStart=>exact⟨0,_,Nat.zero_le _,rfl,V.out,F4.start x.out f',fun j T=>absurd T (Nat.not_lt_zero _),K⟩
   case round=>
    obtain⟨k,D,hk,rfl,E,u,N,P⟩:=hrel;have p:=Ac E;have m:=Ac u;have J:=Ac N;clear E u N V K;by_cases o:k<y
    ·have W:(k:Int)<(y:Int):=(by omega);obtain⟨b,off,rfl,q0,q1⟩:=(F.out.A1 P).cellsD o;have C:keyOf Tryz.prog 2 (A0 (f' k))=some (Cr (f' k)):=keyOf_int_mk PA (QH (l.out.2.1 k o).1 (by have:=(l.out.2.1 k o).2.1;omega));have B:=Ac C;clear C;have d:=P.alloc P.size (.cells #[A0 (f' k),A0 (g' k)] 38);have eA:H.heap.size<=wr.heap.size:=Nat.le_of_lt p.out.lt;go_wp2_with (first
      | (at_lookup;refine wpList_lookup_own_int _ rfl _ _ 231 rfl 2 2 .i64 SH MV PA (zJI _) H.heap.size n D rfl (p.out.alloc _) _ _ rfl B.out ?_;intro c0 L cA)
      | (at_delete;refine wpList_delete_own _ rfl _ _ 231 2 rfl 2 SH MV _ H.heap.size n D rfl (p.out.alloc _) _ _ rfl B.out ?_;intro w4 G A)
      | go_in)
     ·have U:c0≠g' k:=by
       have h:(c0 != g' k)=true:=(by assumption);simpa using h
      go_ret;exact⟨AJ.no (m.out.no x.out l.out o (show D.atKey (Cr (f' k)) (Dt 0)=Dt c0 from L) U),d⟩
     ·have he:c0=g' k:=by
       have h:(c0 != g' k)=false:=(by assumption);simpa using h
      subst he;have I:D.atKey (Cr (f' k)) (Dt 0)=Dt (g' k):=L;go_roundw
      case rel=>exact⟨k+1,_,by omega,by go_num,G,m.out.next l.out o I,Br o J.out (m.out.in l.out o I),d.grown A.grown d.size (fun j T=>by cases T;exact hz)⟩
      case measure=>simp[intOf];omega
    ·obtain rfl:k=y:=(by omega);go_wp2_with (first
      | (at_len;refine wpList_len_own _ rfl _ 231 rfl 2 2 MV _ H.heap.size n D rfl p.out ?_)
      | go_in)
     go_ret;refine⟨⟨_,rfl,?_⟩,P⟩;have He:=m.out.end x.out l.out J.out;rw[<-He];simp
  ·have l:=Ac z;clear z;go_enter Tryz.func175,Tryz.ntmps175;go_wp2_with fail;refine(J9 _ n lo hi f g _ O.out).mono ?_;rintro e Z ⟨⟨t,rfl,q⟩,d⟩;obtain rfl:t=true:=q.2 x.out;clear q;go_wp2_with fail;refine(J9 _ y lo' hi' f' g' _ (F.out.A1 d)).mono ?_;rintro e H ⟨⟨t,rfl,q⟩,s⟩;obtain rfl:t=false:=BQ q l.out;have r:=A9 d s;clear q d s;go_wp2;go_ret;exact⟨AJ.no fun h=>l.out h.2.1,r⟩
 ·have x:=Ac Q;clear Q;go_enter Tryz.func175,Tryz.ntmps175;go_wp2_with fail;refine(J9 _ n lo hi f g _ O.out).mono ?_;rintro e Z ⟨⟨t,rfl,q⟩,d⟩;obtain rfl:t=false:=BQ q x.out;clear q;go_wp2;go_ret;exact⟨AJ.no fun h=>x.out h.1,d⟩
abbrev zIh(vd:Value)(m:Cq):Value:=.agg #[.int .i64 m.A8,.int .i64 m.time,.int .i64 m.rs,.int .i64 m.rb,vd]
theorem Ax.putNe{b:Nat}(h:Ax w base v l)(i:v.ownBlock≠some b)(o:Nat)(u:Value):Ax (w.setCell ⟨b,o,none⟩ u) base v l:=by
 refine⟨h.1,h.2.imp id ?_⟩;rintro⟨g,cap,a,e,c,d,f⟩;subst e;exact⟨g,cap,a,rfl,c,(Below.heap_setCell _ _ _ _ (fun e=>i (by simp[Value.ownBlock];exact e))).trans d,f⟩
def Jw(W:A6)(m:Cq)(S:Aa):Prop:=m.rb<=m.time/\E6 (EA (AG W.pool m.rs m.rb) S.time).length (AN (EA (AG W.pool m.rs m.rb) S.time)) (AP (EA (AG W.pool m.rs m.rb) S.time)) (BR (AG W.pool m.rs m.rb) (AG W.pool S.rs S.rb))/\E6 m.dn m.ds m.db (BR (AG W.pool S.rs S.rb) (Ct (AG W.pool m.rs m.rb) (AG W.pool S.rs S.rb)))
theorem zH2(W:A6)(m:Cq)(S:Aa):Jw W m S↔(m.rb<=m.time/\F6 (EA (AG W.pool m.rs m.rb) S.time).length (AN (EA (AG W.pool m.rs m.rb) S.time)) (AP (EA (AG W.pool m.rs m.rb) S.time)) (BR (AG W.pool m.rs m.rb) (AG W.pool S.rs S.rb)).length (AN (BR (AG W.pool m.rs m.rb) (AG W.pool S.rs S.rb))) (AP (BR (AG W.pool m.rs m.rb) (AG W.pool S.rs S.rb)))/\F6 m.dn m.ds m.db (BR (AG W.pool S.rs S.rb) (Ct (AG W.pool m.rs m.rb) (AG W.pool S.rs S.rb))).length (AN (BR (AG W.pool S.rs S.rb) (Ct (AG W.pool m.rs m.rb) (AG W.pool S.rs S.rb)))) (AP (BR (AG W.pool S.rs S.rb) (Ct (AG W.pool m.rs m.rb) (AG W.pool S.rs S.rb))))):=Iff.rfl
theorem Xv(l:List (Int×Int))(t:Int):∀k,k<=l.length->Bl (AN l) (AP l) t k=EA (l.take k) t
 | 0,_=>by simp[Bl,EA]
 | k+1,hk=>by
  have a:k<l.length:=(by omega);unfold Bl;rw[Xv l t k (by omega)];unfold EA;rw[List.take_succ_eq_append_getElem a,List.filter_append,List.filter_cons];simp only[List.filter_nil];unfold AN AP;rw[D6 a];by_cases h:t<(l[k]).2
  ·rw[if_pos h,if_pos (by simpa using h)]
  ·rw[if_neg h,if_neg (by simpa using h),List.append_nil]
theorem QJ(l:List (Int×Int))(t:Int):Bl (AN l) (AP l) t l.length=EA l t:=by
 rw[Xv l t _ (Nat.le_refl _),List.take_length]
theorem Y5(v a:Value)(w:World):(Instr.field 174 (.agg #[v,a]) 0).run Tryz.prog w = .ok v w:=by kernel_rfl
theorem zD2(Z v1 v2 v3:Value)(lo hi:Nat)(W:A6)(m:Cq)(S:Aa)(ad sa:Option Addr)(cd sc:Nat)(w:World)(h:C7 w lo hi Z v1 v2 v3 W)(hR:AZ W.pool)(rC:B3 W.pool m.rs m.rb)(pC:B3 W.pool S.rs S.rb)(hD:BG w lo hi (.slice ad m.dn cd) m.dn m.ds m.db)(ht:FZ S.time) :
 Calls Tryz.prog 130 #[Cc Z v1 v2 v3 W,zIh (.slice ad m.dn cd) m,DI (.slice sa S.dn sc) S] w fun e w'=>AJ (Jw W m S) e/\Below w.heap.size w w':=by
 unfold DI;have Hp:=A4 h;have HR:=A4 hR;have fA:=A4 rC;have oA:=A4 pC;have jD:=A4 hD;have oD:=A4 ht;clear h hR rC pC hD ht;have vC:∀Wa Wb Wc:World,Wa=w.alloc (.cells #[Z,v1,.int .i64 W.time,.int .i64 W.next,v2,v3] 30)->Wb=Wa.alloc (.cells #[.int .i64 m.A8,.int .i64 m.time,.int .i64 m.rs,.int .i64 m.rb,.slice ad m.dn cd] 169)->Wc=Wb.alloc (.cells #[.int .i64 S.id,.string S.name,.string S.set,.int .i64 S.A8,.int .i64 S.time,.int .i64 S.rs,.int .i64 S.rb,.slice sa S.dn sc] 41)->At Wc w.heap.size Z v1 (.int .i64 W.time) (.int .i64 W.next) v2 v3/\Fw Wc (w.heap.size+1) (.int .i64 m.A8) (.int .i64 m.time) (.int .i64 m.rs) (.int .i64 m.rb) (.slice ad m.dn cd)/\DX Wc (w.heap.size+2) (.int .i64 S.id) (.string S.name) (.string S.set) (.int .i64 S.A8) (.int .i64 S.time) (.int .i64 S.rs) (.int .i64 S.rb) (.slice sa S.dn sc)/\Below w.heap.size w Wc:=by
  rintro Wa Wb Wc ea eb ec;have ha:=AB w (.cells #[Z,v1,.int .i64 W.time,.int .i64 W.next,v2,v3] 30);have h1:=At.new w Z v1 (.int .i64 W.time) (.int .i64 W.next) v2 v3 30;have z1:Wa.heap.size=w.heap.size+1:=(by rw[ea];exact World.size_alloc _ _);rw[<-ea]at ha h1;have hb:=AB Wa (.cells #[.int .i64 m.A8,.int .i64 m.time,.int .i64 m.rs,.int .i64 m.rb,.slice ad m.dn cd] 169);have h2:=Fw.new Wa (.int .i64 m.A8) (.int .i64 m.time) (.int .i64 m.rs) (.int .i64 m.rb) (.slice ad m.dn cd) 169;have z2:Wb.heap.size=w.heap.size+2:=(by rw[eb,World.size_alloc,z1]);rw[<-eb,z1]at h2;rw[<-eb]at hb;have hc:=AB Wb (.cells #[.int .i64 S.id,.string S.name,.string S.set,.int .i64 S.A8,.int .i64 S.time,.int .i64 S.rs,.int .i64 S.rb,.slice sa S.dn sc] 41);have h3:=DX.new Wb (.int .i64 S.id) (.string S.name) (.string S.set) (.int .i64 S.A8) (.int .i64 S.time) (.int .i64 S.rs) (.int .i64 S.rb) (.slice sa S.dn sc) 41;rw[<-ec,z2]at h3;rw[<-ec]at hc;exact⟨(h1.A1 hb).A1 hc,h2.A1 hc,h3,A9 (A9 ha hb) hc⟩
 obtain⟨hx,hm,tC,B⟩:=vC _ _ _ rfl rfl rfl;have i:=A4 hx;have f:=A4 hm;have g:=A4 tC;clear hx hm tC vC;go_enter Tryz.func130,Tryz.ntmps130;go_wp2_with fail;generalize ((w.alloc (.cells #[Z,v1,.int .i64 W.time,.int .i64 W.next,v2,v3] 30)).alloc (.cells #[.int .i64 m.A8,.int .i64 m.time,.int .i64 m.rs,.int .i64 m.rb,.slice ad m.dn cd] 169)).alloc (.cells #[.int .i64 S.id,.string S.name,.string S.set,.int .i64 S.A8,.int .i64 S.time,.int .i64 S.rs,.int .i64 S.rb,.slice sa S.dn sc] 41)=b at i f g B ⊢;obtain⟨x0,x1,x2,x3,x4,x5⟩:=i.out.c;obtain⟨-,-,⟨y2,-⟩,⟨y3,-⟩,-⟩:=f.out;obtain⟨-,-,⟨z5,-⟩,⟨z6,-⟩,-⟩:=g.out
 refine' zEz (fun hfin=>_) _
 rotate_left
 ·refine wp_region_held_drew (S:=(fun w'=>w'.cell? ⟨w.heap.size,0,none⟩=some Z/\w'.cell? ⟨w.heap.size,1,none⟩=some v1/\w'.cell? ⟨w.heap.size,2,none⟩=some (.int .i64 W.time)/\w'.cell? ⟨w.heap.size,3,none⟩=some (.int .i64 W.next)/\w'.cell? ⟨w.heap.size,4,none⟩=some v2/\w'.cell? ⟨w.heap.size,5,none⟩=some v3/\w'.cell? ⟨w.heap.size+1,2,none⟩=some (.int .i64 m.rs)/\w'.cell? ⟨w.heap.size+1,3,none⟩=some (.int .i64 m.rb)/\w'.cell? ⟨w.heap.size+2,5,none⟩=some (.int .i64 S.rs)/\w'.cell? ⟨w.heap.size+2,6,none⟩=some (.int .i64 S.rb))) (by kernel_rfl) ?_ (fun hHeld=>?_)
  ·(try dsimp only)
   go_keep
  have mB:Below b.heap.size b b.drew:=(Below.refl _ _).drew;have tD:b.drew.heap.size=b.heap.size:=rfl;refine tk 0 (h:=tk 1 (h:=tk 2 (h:=tk 4 (h:=tk 5 (h:=tk 6 (h:=?_))))));refine rd [3,8] (rc (fun K hK=>?_) (rc (fun K hK=>?_) .nil))
  ·go_simp;go_at_call 132;refine(Ku Z v1 v2 v3 lo hi W m.rs m.rb _ ?_ HR.out fA.out).mono ?_
   ·exact Hp.out.A1 (A9 B mB)
   rintro e D ⟨vt,rfl,y,C⟩;obtain⟨E,F,rfl,-⟩:=Bw y;have o:Below b.heap.size b D:=A9 mB C;obtain⟨⟨M,-⟩,⟨N,-⟩,⟨O,-⟩,⟨P,-⟩,⟨Q,-⟩,⟨R,-⟩⟩:=i.out.A1 o;obtain⟨-,-,⟨U,-⟩,⟨V,-⟩,-⟩:=f.out.A1 o;obtain⟨-,-,⟨X,-⟩,⟨Y,-⟩,-⟩:=g.out.A1 o
   (try go_wp2_with fail)
   refine hK.out _ _ (by(try dsimp only);go_keep) ?_;clear hK K hHeld;intro hHeld
   try simp only[Act.put,s1,s2,s3]
   refine rd [7,8] (rc (fun K hK=>?_) (rc (fun K hK=>?_) .nil))
   ·go_simp;go_at_call 132;refine(Ku Z v1 v2 v3 lo hi W S.rs S.rb _ ?_ HR.out oA.out).mono ?_
    ·exact Hp.out.A1 (A9 B o)
    rintro e A ⟨va,rfl,p,j⟩;obtain⟨s,cv,rfl,-⟩:=Bw p;have d:Below b.heap.size b A:=A9 o j;obtain⟨⟨M,-⟩,⟨N,-⟩,⟨O,-⟩,⟨P,-⟩,⟨Q,-⟩,⟨R,-⟩⟩:=i.out.A1 d;obtain⟨-,-,⟨U,-⟩,⟨V,-⟩,-⟩:=f.out.A1 d;obtain⟨-,-,⟨X,-⟩,⟨Y,-⟩,-⟩:=g.out.A1 d
    (try go_wp2_with fail)
    refine hK.out _ _ (by(try dsimp only);go_keep) ?_;clear hK K hHeld;intro hHeld
    try simp only[Act.put,s1,s2,s3]
    refine rd [8] (rc (fun K hK=>?_) .nil);go_simp;have G:=AB A (.cells #[.slice none 0 0] 39);have l:Below b.heap.size b (A.alloc (.cells #[.slice none 0 0] 39)):=A9 d G;have L:AO (A.alloc (.cells #[.slice none 0 0] 39)) A.heap.size 0 (.slice none 0 0):=Az (heap_alloc_new _ _) rfl;obtain⟨⟨M,-⟩,⟨N,-⟩,⟨O,-⟩,⟨P,-⟩,⟨Q,-⟩,⟨R,-⟩⟩:=i.out.A1 l;obtain⟨-,-,⟨U,-⟩,⟨V,-⟩,-⟩:=f.out.A1 l;obtain⟨-,-,⟨X,-⟩,⟨Y,-⟩,-⟩:=g.out.A1 l
    (try go_wp2_with fail)
    refine hK.out _ _ (by(try dsimp only);go_keep) ?_;clear hK K hHeld;intro hHeld
    try simp only[Act.put,s1,s2,s3]
    refine tk 9 (h:=?_);refine rd [10] (rc (fun K hK=>?_) .nil);go_simp;have I:=AB A (.cells #[.slice s (AG W.pool S.rs S.rb).length cv] 39);have a:Below b.heap.size b (A.alloc (.cells #[.slice s (AG W.pool S.rs S.rb).length cv] 39)):=A9 d I;obtain⟨⟨M,-⟩,⟨N,-⟩,⟨O,-⟩,⟨P,-⟩,⟨Q,-⟩,⟨R,-⟩⟩:=i.out.A1 a;obtain⟨-,-,⟨U,-⟩,⟨V,-⟩,-⟩:=f.out.A1 a;obtain⟨-,-,⟨X,-⟩,⟨Y,-⟩,-⟩:=g.out.A1 a
    (try go_wp2_with fail)
    refine hK.out _ _ (by(try dsimp only);go_keep) ?_;clear hK K hHeld;intro hHeld
    try simp only[Act.put,s1,s2,s3]
    refine wpAnyH_done (by kernel_rfl) ?_ _;have k:=A4 (show AO (A.alloc (.cells #[.slice s (AG W.pool S.rs S.rb).length cv] 39)) A.heap.size 0 (.slice s (AG W.pool S.rs S.rb).length cv)from Az (heap_alloc_new _ _) rfl);have r:=A4 (((y.A1 j).A1 I).mono (Nat.zero_le _));have q:=A4 ((p.A1 I).mono (Nat.zero_le _));clear G L l I;have z:=A4 (i.out.A1 a);have t:=A4 (f.out.A1 a);have u:=A4 (g.out.A1 a);have v:=A9 B a;clear a hHeld M N O P Q R U V X Y y p;generalize (A.alloc (.cells #[.slice s (AG W.pool S.rs S.rb).length cv] 39))=wz at k r q z t u v ⊢;generalize A.heap.size=T at k ⊢;revert k r q z t u v;revert T wz;revert E F s cv;exact hfin.out
   ·go_simp;have G:=AB D (.cells #[.slice none 0 0] 39);have d:Below b.heap.size b (D.alloc (.cells #[.slice none 0 0] 39)):=A9 o G;have L:AO (D.alloc (.cells #[.slice none 0 0] 39)) D.heap.size 0 (.slice none 0 0):=Az (heap_alloc_new _ _) rfl;obtain⟨⟨M,-⟩,⟨N,-⟩,⟨O,-⟩,⟨P,-⟩,⟨Q,-⟩,⟨R,-⟩⟩:=i.out.A1 d;obtain⟨-,-,⟨U,-⟩,⟨V,-⟩,-⟩:=f.out.A1 d;obtain⟨-,-,⟨X,-⟩,⟨Y,-⟩,-⟩:=g.out.A1 d
    (try go_wp2_with fail)
    refine hK.out _ _ (by(try dsimp only);go_keep) ?_;clear hK K hHeld;intro hHeld
    try simp only[Act.put,s1,s2,s3]
    refine rd [7] (rc (fun K hK=>?_) .nil);go_simp;go_at_call 132;refine(Ku Z v1 v2 v3 lo hi W S.rs S.rb _ ?_ HR.out oA.out).mono ?_
    ·exact Hp.out.A1 (A9 B d)
    rintro e A ⟨va,rfl,p,j⟩;obtain⟨s,cv,rfl,-⟩:=Bw p;have l:Below b.heap.size b A:=A9 d j;obtain⟨⟨M,-⟩,⟨N,-⟩,⟨O,-⟩,⟨P,-⟩,⟨Q,-⟩,⟨R,-⟩⟩:=i.out.A1 l;obtain⟨-,-,⟨U,-⟩,⟨V,-⟩,-⟩:=f.out.A1 l;obtain⟨-,-,⟨X,-⟩,⟨Y,-⟩,-⟩:=g.out.A1 l
    (try go_wp2_with fail)
    refine hK.out _ _ (by(try dsimp only);go_keep) ?_;clear hK K hHeld;intro hHeld
    try simp only[Act.put,s1,s2,s3]
    refine tk 9 (h:=?_);have nB:=L.A1 j;have kA:=(y.A1 G).A1 j;have aD:(D.alloc (.cells #[.slice none 0 0] 39)).heap.size=D.heap.size+1:=World.size_alloc _ _;have jA:Value.ownBlock (.slice E (AG W.pool m.rs m.rb).length F)≠some D.heap.size:=fun e=>by have:=(y.lt e).2;omega
    have iA:Value.ownBlock (.slice s (AG W.pool S.rs S.rb).length cv)≠some D.heap.size:=fun e=>by have:=(p.lt e).1;omega
    have bF:=o.size;obtain⟨sB,tB⟩:=nB;refine rd [10] (rc (fun K hK=>?_) .nil);go_simp;have a:Below b.heap.size b (A.setCell ⟨D.heap.size,0,none⟩ (.slice s (AG W.pool S.rs S.rb).length cv)):=l.setCell (show b.heap.size<=D.heap.size by omega) _;obtain⟨⟨M,-⟩,⟨N,-⟩,⟨O,-⟩,⟨P,-⟩,⟨Q,-⟩,⟨R,-⟩⟩:=i.out.A1 a;obtain⟨-,-,⟨U,-⟩,⟨V,-⟩,-⟩:=f.out.A1 a;obtain⟨-,-,⟨X,-⟩,⟨Y,-⟩,-⟩:=g.out.A1 a
    (try go_wp2_with fail)
    refine hK.out _ _ (by(try dsimp only);go_keep) ?_;clear hK K hHeld;intro hHeld
    try simp only[Act.put,s1,s2,s3]
    refine wpAnyH_done (by kernel_rfl) ?_ _;have k:=A4 (show AO (A.setCell ⟨D.heap.size,0,none⟩ (.slice s (AG W.pool S.rs S.rb).length cv)) D.heap.size 0 (.slice s (AG W.pool S.rs S.rb).length cv)from AO.set ⟨sB,tB⟩ _);have r:=A4 ((kA.putNe jA 0 (.slice s (AG W.pool S.rs S.rb).length cv)).mono (Nat.zero_le _));have q:=A4 ((p.putNe iA 0 (.slice s (AG W.pool S.rs S.rb).length cv)).mono (Nat.zero_le _));have z:=A4 (i.out.A1 a);have t:=A4 (f.out.A1 a);have u:=A4 (g.out.A1 a);have v:=A9 B a;clear a hHeld M N O P Q R U V X Y y p kA jA iA;generalize (A.setCell ⟨D.heap.size,0,none⟩ (.slice s (AG W.pool S.rs S.rb).length cv))=wz at k r q z t u v ⊢;generalize D.heap.size=T at k ⊢;revert k r q z t u v;revert T wz;revert E F s cv;exact hfin.out
  ·go_simp;have G:=AB b.drew (.cells #[.slice none 0 0] 39);have o:Below b.heap.size b (b.drew.alloc (.cells #[.slice none 0 0] 39)):=A9 mB G;have L:AO (b.drew.alloc (.cells #[.slice none 0 0] 39)) b.drew.heap.size 0 (.slice none 0 0):=Az (heap_alloc_new _ _) rfl;obtain⟨⟨M,-⟩,⟨N,-⟩,⟨O,-⟩,⟨P,-⟩,⟨Q,-⟩,⟨R,-⟩⟩:=i.out.A1 o;obtain⟨-,-,⟨U,-⟩,⟨V,-⟩,-⟩:=f.out.A1 o;obtain⟨-,-,⟨X,-⟩,⟨Y,-⟩,-⟩:=g.out.A1 o
   (try go_wp2_with fail)
   refine hK.out _ _ (by(try dsimp only);go_keep) ?_;clear hK K hHeld;intro hHeld
   try simp only[Act.put,s1,s2,s3]
   refine rd [3] (rc (fun K hK=>?_) .nil);go_simp;go_at_call 132;refine(Ku Z v1 v2 v3 lo hi W m.rs m.rb _ ?_ HR.out fA.out).mono ?_
   ·exact Hp.out.A1 (A9 B o)
   rintro e D ⟨vt,rfl,y,C⟩;obtain⟨E,F,rfl,-⟩:=Bw y;have d:Below b.heap.size b D:=A9 o C;obtain⟨⟨M,-⟩,⟨N,-⟩,⟨O,-⟩,⟨P,-⟩,⟨Q,-⟩,⟨R,-⟩⟩:=i.out.A1 d;obtain⟨-,-,⟨U,-⟩,⟨V,-⟩,-⟩:=f.out.A1 d;obtain⟨-,-,⟨X,-⟩,⟨Y,-⟩,-⟩:=g.out.A1 d
   (try go_wp2_with fail)
   refine hK.out _ _ (by(try dsimp only);go_keep) ?_;clear hK K hHeld;intro hHeld
   try simp only[Act.put,s1,s2,s3]
   refine rd [7] (rc (fun K hK=>?_) .nil);go_simp;go_at_call 132;refine(Ku Z v1 v2 v3 lo hi W S.rs S.rb _ ?_ HR.out oA.out).mono ?_
   ·exact Hp.out.A1 (A9 B d)
   rintro e A ⟨va,rfl,p,j⟩;obtain⟨s,cv,rfl,-⟩:=Bw p;have l:Below b.heap.size b A:=A9 d j;obtain⟨⟨M,-⟩,⟨N,-⟩,⟨O,-⟩,⟨P,-⟩,⟨Q,-⟩,⟨R,-⟩⟩:=i.out.A1 l;obtain⟨-,-,⟨U,-⟩,⟨V,-⟩,-⟩:=f.out.A1 l;obtain⟨-,-,⟨X,-⟩,⟨Y,-⟩,-⟩:=g.out.A1 l
   (try go_wp2_with fail)
   refine hK.out _ _ (by(try dsimp only);go_keep) ?_;clear hK K hHeld;intro hHeld
   try simp only[Act.put,s1,s2,s3]
   refine tk 9 (h:=?_);rw[tD]at L;have nB:=(L.A1 C).A1 j;have kA:=y.A1 j;have aD:(b.drew.alloc (.cells #[.slice none 0 0] 39)).heap.size=b.heap.size+1:=World.size_alloc _ _;have mE:(b.alloc (.cells #[.slice none 0 0] 39)).drew.heap.size=b.heap.size+1:=World.size_alloc _ _;have cF:=C.size;have jA:Value.ownBlock (.slice E (AG W.pool m.rs m.rb).length F)≠some b.heap.size:=fun e=>by have:=(y.lt e).1;omega
   have iA:Value.ownBlock (.slice s (AG W.pool S.rs S.rb).length cv)≠some b.heap.size:=fun e=>by have:=(p.lt e).1;omega
   obtain⟨sB,tB⟩:=nB;refine rd [10] (rc (fun K hK=>?_) .nil);go_simp;have a:Below b.heap.size b (A.setCell ⟨b.heap.size,0,none⟩ (.slice s (AG W.pool S.rs S.rb).length cv)):=l.setCell (show b.heap.size<=b.heap.size by omega) _;obtain⟨⟨M,-⟩,⟨N,-⟩,⟨O,-⟩,⟨P,-⟩,⟨Q,-⟩,⟨R,-⟩⟩:=i.out.A1 a;obtain⟨-,-,⟨U,-⟩,⟨V,-⟩,-⟩:=f.out.A1 a;obtain⟨-,-,⟨X,-⟩,⟨Y,-⟩,-⟩:=g.out.A1 a
   (try go_wp2_with fail)
   refine hK.out _ _ (by(try dsimp only);go_keep) ?_;clear hK K hHeld;intro hHeld
   try simp only[Act.put,s1,s2,s3]
   refine wpAnyH_done (by kernel_rfl) ?_ _;have k:=A4 (show AO (A.setCell ⟨b.heap.size,0,none⟩ (.slice s (AG W.pool S.rs S.rb).length cv)) b.heap.size 0 (.slice s (AG W.pool S.rs S.rb).length cv)from AO.set ⟨sB,tB⟩ _);have r:=A4 ((kA.putNe jA 0 (.slice s (AG W.pool S.rs S.rb).length cv)).mono (Nat.zero_le _));have q:=A4 ((p.putNe iA 0 (.slice s (AG W.pool S.rs S.rb).length cv)).mono (Nat.zero_le _));have z:=A4 (i.out.A1 a);have t:=A4 (f.out.A1 a);have u:=A4 (g.out.A1 a);have v:=A9 B a;clear a hHeld M N O P Q R U V X Y y p kA jA iA;generalize (A.setCell ⟨b.heap.size,0,none⟩ (.slice s (AG W.pool S.rs S.rb).length cv))=wz at k r q z t u v ⊢;generalize b.heap.size=T at k ⊢;revert k r q z t u v;revert T wz;revert E F s cv;exact hfin.out
 intro E F s cv wz T r q z t u v k;have fF:=Dh W.pool m.rs m.rb;have gF:=Dh W.pool S.rs S.rb;have lD:=A4 (show Cf (AG W.pool m.rs m.rb).length (AN (AG W.pool m.rs m.rb)) (AP (AG W.pool m.rs m.rb))from Ky HR.out (fun x hx=>(ED HR.out fA.out hx).1) (L0 HR.out fA.out) (by omega));have mA:=A4 (zH2 W m S);clear fA oA HR Hp z;generalize AG W.pool m.rs m.rb=tree at *;generalize AG W.pool S.rs S.rb=old at *;have eF:(Ct tree old).length<=tree.length:=List.length_filter_le _ _;have iF:(BR tree old).length<=tree.length:=List.length_filter_le _ _;have dF:(BR old (Ct tree old)).length<=old.length:=List.length_filter_le _ _;have jF:(EA tree S.time).length<=tree.length:=List.length_filter_le _ _;have kF:∀(fn:Fn) (first cap:Array Value) (w:World),(Instr.makeFunc fn first cap).run Tryz.prog w = .ok (.func fn first cap) w:=fun _ _ _ _=>rfl
 go_wp2_with fail;refine(zCM _ _ 0 _ 0 _ T tree old wz (r.out.atW (by omega)) (by omega) (q.out.atW (by omega)) k.out.1).mono ?_;rintro e w3 ⟨vk,vo,rfl,pB,rB,-,H⟩;obtain⟨ak,ck,rfl,-⟩:=Bw pB;obtain⟨ao,co,rfl,-⟩:=Bw rB;have n:=AB w3 (.cells #[.slice ak (Ct tree old).length ck] 39);have eA:=A4 ((k.out.A1 H).A1 n);have dA:=A4 ((r.out.A1 H).A1 n);have cA:=A4 ((q.out.A1 H).A1 n);have aB:=A4 (pB.A1 n);have eB:=A4 (rB.A1 n);have bB:=A4 ((t.out.A1 H).A1 n);have fB:=A4 ((u.out.A1 H).A1 n);have lA:=A4 (show AO (w3.alloc (.cells #[.slice ak (Ct tree old).length ck] 39)) w3.heap.size 0 (.slice ak (Ct tree old).length ck)from Az (heap_alloc_new _ _) rfl);have jB:=A9 (A9 v H) n;clear pB rB H n k r q t u v;obtain⟨c0,-⟩:=eA.out;go_wp2_with fail;clear c0;generalize w3.alloc (.cells #[.slice ak (Ct tree old).length ck] 39)=w4 at eA dA cA aB eB bB fB lA jB ⊢;generalize w3.heap.size=T9 at lA ⊢;refine(zC1 _ _ 0 _ 0 _ T9 old (Ct tree old) w4 (cA.out.atW (by omega)) (by omega) (aB.out.atW (by omega)) lA.out.1).mono ?_;rintro e w5 ⟨vx,nF,rfl,-,oB,-,J⟩;obtain⟨vE,aF,rfl,-⟩:=Bw oB;have vA:=A4 (dA.out.A1 J);have kC:=A4 (eB.out.A1 J);have jC:=A4 (bB.out.A1 J);have mC:=A4 (fB.out.A1 J);have sA:=A4 oB;have oC:=A9 jB J;clear oB J eA dA cA aB eB bB fB lA jB;obtain⟨-,⟨c4,-⟩,-⟩:=mC.out;go_wp2_with fail;clear c4;refine(Rh _ tree.length 0 _ (AN tree) (AP tree) S.time w5 (vA.out.atW (by omega))).mono ?_;rintro e w6 ⟨vy,vz,ly,lz,rfl,hY,-,hy,-,-,gA⟩;rw[(hY.1 ⟨lD.out,oD.out⟩).trans (QJ tree S.time)]at hy;have vD:∀w,(Instr.field 174 (.agg #[vy,vz]) 0).run Tryz.prog w = .ok vy w:=Y5 vy vz;have nC:=A4 hy;have lC:=A4 (kC.out.A1 gA);have cB:=A4 (jC.out.A1 gA);have tA:=A4 (sA.out.A1 gA);have kB:=A9 oC gA;clear hY hy gA vA kC jC mC sA oC;obtain⟨-,⟨c1,-⟩,-,⟨c3,-⟩,⟨c5,-⟩⟩:=cB.out;by_cases h1:m.rb<=m.time;rotate_left
 ·have Hn:=A4 (show ¬Jw W m S from fun h=>h1 (mA.out.1 h).1);go_wp2;go_ret;exact⟨AJ.no Hn.out,kB⟩
 have H1:=A4 h1;go_wp2_with fail;clear h1 c1 c3 c5 vD;refine(ZR _ _ _ 0 _ _ 0 _ _ _ _ _ w6 (nC.out.atW (by omega)) (lC.out.atW (by omega))).mono ?_;rintro e w7 ⟨⟨t7,rfl,bD⟩,rA⟩;have kD:=A4 (cB.out.A1 rA);have iC:=A4 (tA.out.A1 rA);have lB:=A9 kB rA;have pA:=A4 bD;clear bD rA nC lC cB tA kB;obtain⟨-,⟨c1,-⟩,-,⟨c3,-⟩,⟨c5,-⟩⟩:=kD.out;cases t7
 ·have Hn:=A4 (show ¬Jw W m S from fun h=>absurd (pA.out.2 (mA.out.1 h).2.1) (by simp));clear pA;go_wp2;go_ret;exact⟨AJ.no Hn.out,lB⟩
 have H2:=A4 (pA.out.1 rfl);clear pA;go_wp2_with fail;clear c1 c3 c5;refine(ZR _ _ _ lo hi _ 0 _ _ _ _ _ w7 (jD.out.A1 lB) (iC.out.atW (by omega))).mono ?_;rintro e w8 ⟨⟨t8,rfl,cD⟩,sC⟩;have nD:=A4 (cD.trans ⟨fun h=>mA.out.2 ⟨H1.out,H2.out,h⟩,fun h=>(mA.out.1 h).2.2⟩);have rD:=A9 lB sC;clear cD sC;go_wp2;go_ret;exact⟨⟨t8,rfl,nD.out⟩,rD⟩
theorem zIJ(h:∀i,i<memN W->B3 W.pool (AA W i).rs (AA W i).rb)(x:Int):B3 W.pool (AI W x).rs (AI W x).rb:=by
 by_cases b:∃k,BW W x k
 ·obtain⟨k,a⟩:=b;rw[DW a];have:=h k (by unfold memN;have:=a.1;omega);rw[CH a.1]at this;exact this
 ·have:AI W x=DL:=by
   unfold AI;rw[dif_neg b]
  rw[this];exact Or.inl ⟨rfl,rfl⟩
def Mq(W:A6)(i:Nat):Prop:=Jw W (AA W i) (AI W (AA W i).A8)
def Za(W:A6):Prop:=(∀i,i<memN W->B3 W.pool (AA W i).rs (AA W i).rb)/\∀i,i<memN W->Mq W i
def Q1(W:A6):Prop:=∀x,FZ (AI W x).time
theorem zCj(x v1 C D:Value)(lo hi:Nat)(W:A6)(A:Nat)(w:World)(h:C7 w lo hi x v1 C D W)(hs:W.sn<=8)(hp:W.pn<=20)(t:G3 w lo hi W A)(hD:Hj W)(P:G4 W)(hR:AZ W.pool)(hT:Q1 W) :
 Calls Tryz.prog 68 #[Cc x v1 C D W,KK A] w fun e w'=>AJ (Za W) e/\Below w.heap.size w w':=by
 have Hp:=A4 h;have HA:=A4 t;have HD:=A4 hD;have gA:=A4 P;have Z:=A4 hR;have bA:=A4 hT;clear h t hD P hR hT;have X:=AB w (.cells #[x,v1,A0 W.time,A0 W.next,C,D] 30);have T:=A4 (At.new w x v1 (A0 W.time) (A0 W.next) C D 30);obtain⟨R,S,x4,x6,x8,pA⟩:=T.out.c;go_enter Tryz.func68,Tryz.ntmps68;go_wp2_with fail;clear R S x4 x6 x8 pA;generalize w.alloc (.cells #[x,v1,A0 W.time,A0 W.next,C,D] 30)=W0 at X T ⊢;refine(Ri x v1 C D lo hi W W0 (Hp.out.A1 X) hs hp).mono ?_;rintro e Y ⟨vm,vd,rfl,hm,G⟩;have U:=A4 hm;have I:=A4 (T.out.A1 G);have p:=A9 X G;obtain⟨am,cm,rfl,bC⟩:=id hm.form;have cC:memN W<=28:=by unfold memN;omega
 clear X G hm T;go_wp2
 go_loopw [14] (fun i wr=>∃k:Nat,k<=memN W/\i=A0 k/\(∀j,j<k->B3 W.pool (AA W j).rs (AA W j).rb)/\Below Y.heap.size Y wr) (fun i _=>memN W - (intOf i).toNat)
 case atStart=>exact⟨0,Nat.zero_le _,rfl,fun j hj=>absurd hj (Nat.not_lt_zero _),Below.refl _ _⟩
 case round=>
  obtain⟨k,hk,rfl,f,q⟩:=hrel;have b:=A4 f;clear f;by_cases a:k<memN W
  ·have M:(k:Int)<(memN W:Int):=(by omega);obtain⟨g,cg,e,q0,q1,q2,q3,Q⟩:=(U.out.A1 q).cells k a;obtain⟨-,z,B,s,-,-⟩:=id ((U.out.A1 q).dead k a);rw[s]at Q;cases e;have m:=AB wr (.cells #[A0 (AA W k).A8,A0 (AA W k).time,A0 (AA W k).rs,A0 (AA W k).rb,.slice z (AA W k).dn B] 169);have y:=A4 (Fw.new wr (A0 (AA W k).A8) (A0 (AA W k).time) (A0 (AA W k).rs) (A0 (AA W k).rb) (.slice z (AA W k).dn B) 169);have n:=A4 ((I.out.A1 q).A1 m);have l:=A9 q m;clear s m;obtain⟨⟨y0,-⟩,⟨y1,-⟩,⟨y2,-⟩,⟨y3,-⟩,⟨y4,-⟩⟩:=y.out;obtain⟨⟨R,-⟩,⟨S,-⟩,-⟩:=n.out;go_wp2_with fail;clear q0 q1 q2 q3 Q y0 y1 y2 y3 y4 R S;refine(Z8 x v1 lo hi W.pool (AA W k).rs (AA W k).rb _ (Hp.out.pool.A1 (A9 p l)) Z.out).mono ?_;rintro e w6 ⟨⟨t6,rfl,N⟩,r⟩;have u:=A4 (N.trans (Nu Z.out));have o:=A9 l r;clear N r l y n;cases t6
   ·have F:=A4 (show ¬B3 W.pool (AA W k).rs (AA W k).rb from fun t=>absurd (u.out.2 t) (by simp));clear u;go_wp2;go_ret;exact⟨AJ.no fun t=>F.out (t.1 k a),A9 p o⟩
   ·have F:=A4 (u.out.1 rfl);clear u;go_wp2;go_roundw
    case rel=>exact⟨k+1,by omega,by go_num,Br a b.out F.out,o⟩
    case measure=>simp[intOf];omega
  obtain rfl:k=memN W:=(by omega);have E:=A4 b.out;clear b a hk;go_wp2
  go_loopw [27] (fun i wr=>∃k:Nat,k<=memN W/\i=A0 k/\(∀j,j<k->Mq W j)/\Below Y.heap.size Y wr) (fun i _=>memN W - (intOf i).toNat)
  case atStart=>exact⟨0,Nat.zero_le _,rfl,fun j hj=>absurd hj (Nat.not_lt_zero _),q⟩
  case round=>
   clear q;obtain⟨k,hk,rfl,f,q⟩:=hrel;have b:=A4 f;clear f;by_cases a:k<memN W;rotate_left
   ·obtain rfl:k=memN W:=(by omega);go_wp2;go_ret;exact⟨AJ.yes ⟨E.out,b.out⟩,A9 p q⟩
   have M:(k:Int)<(memN W:Int):=(by omega);obtain⟨g,cg,e,q0,q1,q2,q3,Q⟩:=(U.out.A1 q).cells k a;have v:=(U.out.A1 q).dead k a;obtain⟨-,z,B,s,-,-⟩:=id v;rw[s]at Q v;cases e;have m:=AB wr (.cells #[A0 (AA W k).A8,A0 (AA W k).time,A0 (AA W k).rs,A0 (AA W k).rb,.slice z (AA W k).dn B] 169);have y:=A4 (Fw.new wr (A0 (AA W k).A8) (A0 (AA W k).time) (A0 (AA W k).rs) (A0 (AA W k).rb) (.slice z (AA W k).dn B) 169);have n:=A4 ((I.out.A1 q).A1 m);have J:=A4 (v.A1 m);have l:=A9 q m;have H:=A4 (HA.out.A1 (A9 p l));have K:=A4 (Hp.out.A1 (A9 p l));have iA:=A4 (gA.out k a);have aA:=A4 (E.out k a);have cA:=A4 (zIJ E.out (AA W k).A8);have fA:=A4 (bA.out (AA W k).A8);have eA:=A4 (show Mq W k↔Jw W (AA W k) (AI W (AA W k).A8)from Iff.rfl);clear s m v;generalize AA W k=mk at *;go_wp2_with fail;clear q0 q1 q2 q3 Q;generalize wr.alloc (.cells #[A0 mk.A8,A0 mk.time,A0 mk.rs,A0 mk.rb,.slice z mk.dn B] 169)=W2 at y n J H K l ⊢;generalize wr.heap.size=V at y ⊢;obtain⟨⟨y0,-⟩,⟨y1,-⟩,⟨y2,-⟩,⟨y3,-⟩,⟨y4,-⟩⟩:=y.out;obtain⟨R,x1,S,x3,x4,x5⟩:=n.out.c;go_region_held3 (fun w'=>w'.cell? ⟨w.heap.size,0,none⟩=some x/\w'.cell? ⟨w.heap.size,1,none⟩=some v1/\w'.cell? ⟨w.heap.size,2,none⟩=some (A0 W.time)/\w'.cell? ⟨w.heap.size,3,none⟩=some (A0 W.next)/\w'.cell? ⟨w.heap.size,4,none⟩=some C/\w'.cell? ⟨w.heap.size,5,none⟩=some D/\w'.cell? ⟨V,0,none⟩=some (A0 mk.A8)/\w'.cell? ⟨V,1,none⟩=some (A0 mk.time)/\w'.cell? ⟨V,2,none⟩=some (A0 mk.rs)/\w'.cell? ⟨V,3,none⟩=some (A0 mk.rb)/\w'.cell? ⟨V,4,none⟩=some (.slice z mk.dn B)) (go_keep)
    (first
     | (go_at_call 126;refine(Jo lo hi W A mk.A8 _ ?_ HD.out iA.out hp).mono ?_;(exact H.out.A1 (Below.refl _ _).drew);rintro e w6 ⟨aa,ca,rfl,lA,r⟩;have d:=Cp r;obtain⟨⟨k0,_⟩,⟨k1,_⟩,⟨k2,_⟩,⟨k3,_⟩,⟨k4,_⟩,⟨k5,_⟩⟩:=n.out.A1 d;obtain⟨⟨l0,_⟩,⟨l1,_⟩,⟨l2,_⟩,⟨l3,_⟩,⟨l4,_⟩⟩:=y.out.A1 d)
     | (go_at_call 130;refine(zD2 x v1 C D lo hi W mk (AI W mk.A8) z aa B ca _ (K.out.A1 d) Z.out aA.out cA.out (J.out.A1 d) fA.out).mono ?_;rintro e w7 ⟨⟨t7,rfl,O⟩,o⟩;obtain⟨⟨f0,_⟩,⟨f1,_⟩,⟨f2,_⟩,⟨f3,_⟩,⟨f4,_⟩,⟨f5,_⟩⟩:=(n.out.A1 d).A1 o;obtain⟨⟨g0,_⟩,⟨g1,_⟩,⟨g2,_⟩,⟨g3,_⟩,⟨g4,_⟩⟩:=(y.out.A1 d).A1 o))
   have L:=A9 (A9 l d) o;have u:=A4 (O.trans eA.out.symm);clear O o d r lA k0 k1 k2 k3 k4 k5 l0 l1 l2 l3 l4 f0 f1 f2 f3 f4 f5 g0 g1 g2 g3 g4 R x1 S x3 x4 x5 y0 y1 y2 y3 y4;cases t7
   ·have F:=A4 (show ¬Mq W k from fun t=>absurd (u.out.2 t) (by simp));clear u;go_wp2;go_ret;exact⟨AJ.no fun t=>F.out (t.2 k a),A9 p L⟩
   ·have F:=A4 (u.out.1 rfl);clear u;go_wp2;go_roundw
    case rel=>exact⟨k+1,by omega,by go_num,Br a b.out F.out,L⟩
    case measure=>simp[intOf];omega
end Go.Proofs.YtddigaohmfpepaaGreatDoor
