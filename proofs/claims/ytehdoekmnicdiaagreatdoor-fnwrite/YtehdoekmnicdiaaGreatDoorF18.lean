/- A part of the proof. -/
import Derived.Test.YtehdoekmnicdiaaGreatDoorF17
set_option linter.unusedVariables false
set_option maxRecDepth 20000
set_option maxHeartbeats 4000000
namespace Go.Proofs.YtehdoekmnicdiaaGreatDoor
open Go.RowKit Go.Maps
def Mw(n:Nat)(f:Nat->Ae):Prop:=∀i,i<n->(Lit.int .i64 (f i).id).wf=true
theorem zCv(r v1 s R:Value)(lo hi:Nat)(W:A4)(w:World)(h:CE w lo hi r v1 s R W)(hn:W.pn<=20)(C:Mw W.pn W.A2) :
 Calls Tryz.prog 141 #[Cn r v1 s R W] w fun e w'=>∃vd,e = .returned (.map (some (w.heap.size+1)))/\Jd w' W (w.heap.size+1) W.pn vd/\OD w lo hi W.pn W.A2 vd/\Below w.heap.size w w':=by
 have Hp:=A3 h;have H:=A3 C;obtain⟨V,a,c,rfl,mc,-⟩:=id h.A2;unfold maxLen at V;obtain⟨vd,B,y⟩:=h.A2.vals;have F:=A3 B;have E:=A3 y;clear h B y C;have P:=AC w (.cells #[r,v1,.int .i64 W.time,.int .i64 W.next,s,.slice a W.pn c] 30);have L:=A3 (As.new w r v1 (.int .i64 W.time) (.int .i64 W.next) s (.slice a W.pn c) 30);have q:(w.alloc (.cells #[r,v1,.int .i64 W.time,.int .i64 W.next,s,.slice a W.pn c] 30)).heap.size=w.heap.size+1:=World.size_alloc _ _;have J:=World.ownsMap_made (w.alloc (.cells #[r,v1,.int .i64 W.time,.int .i64 W.next,s,.slice a W.pn c] 30)) Tryz.prog 2 D2;rw[q]at J;have M:=A3 J;have t:=A3 (L.out.A0 (AC _ (.map #[] 0)));have u:=A3 (A7 P (AC _ (.map #[] 0)));have T:=@run_makeMap Tryz.prog;obtain⟨X,Y,Z,x6,x8,K⟩:=t.out.c;clear J;go_enter Tryz.func141,Tryz.ntmps141;go_wp2;clear X Y Z x6 x8 K P
 go_loopw [10] (fun i wr=>∃k:Nat,k<=W.pn/\i = .int .i64 k/\Jd wr W (w.heap.size+1) k vd/\Below w.heap.size w wr/\w.heap.size+2<=wr.heap.size) (fun i _=>W.pn - (intOf i).toNat)
 case atStart=>exact⟨0,Nat.zero_le _,rfl,M.out,u.out,by rw[World.size_alloc,q];omega⟩
 case round=>
  clear M t u L q;obtain⟨k,hk,rfl,m,I,hz⟩:=hrel;have l:=A3 m;clear m;by_cases z:k<W.pn
  ·have Q:(k:Int)<(W.pn:Int):=(by omega);obtain⟨b,off,rfl,A⟩:=E.out k z;have d:=A.A0 I;obtain⟨-,N,O,p,-,-⟩:=id d.dead;have G:=A3 p;rw[p]at d;clear p A;have g:=AC wr (.cells #[.int .i64 (W.A2 k).id,.string (W.A2 k).name,.string (W.A2 k).set,.int .i64 (W.A2 k).A6,.int .i64 (W.A2 k).time,.int .i64 (W.A2 k).rs,.int .i64 (W.A2 k).rb,.slice N (W.A2 k).dn O] 83);have D:=A3 (Dc.new wr (.int .i64 (W.A2 k).id) (.string (W.A2 k).name) (.string (W.A2 k).set) (.int .i64 (W.A2 k).A6) (.int .i64 (W.A2 k).time) (.int .i64 (W.A2 k).rs) (.int .i64 (W.A2 k).rb) (.slice N (W.A2 k).dn O) 83);have x:=A7 I g;have q0:=d.c0;have q1:=d.c1;have q2:=d.c2;have q3:=d.c3;have q4:=d.c4;have q5:=d.c5;have q6:=d.c6;have q7:=d.c7;have v:=A3 (Tq (H.out k z));obtain⟨⟨⟨y0,-⟩,⟨y1,-⟩,⟨y2,-⟩,⟨y3,-⟩⟩,⟨y4,-⟩,⟨y5,-⟩,⟨y6,-⟩,⟨y7,-⟩⟩:=D.out;have n:=A3 (l.out.A0 g);have U:=g.size;clear d g;go_wp2_with (first
    | (at_mapUpdate;refine wpList_mapUpdate_own _ rfl _ _ _ 181 rfl 2 83 yz qU D2 (w.heap.size+1) k _ rfl n.out (by unfold maxLen;omega) _ _ _ rfl rfl v.out _ [] (Ga _) ?_;intro w1 o f)
    | go_in)
   go_roundw
   case rel=>
    refine⟨k+1,by omega,by go_num,?_,x.grown f x.size (fun j S=>by cases S;omega),by have:=f.size;omega⟩;unfold Jd putD DE;rw[G.out];exact o
   case measure=>simp[intOf];omega
  ·obtain rfl:k=W.pn:=(by omega);go_wp2;go_ret;exact⟨vd,rfl,l.out,F.out,I⟩
def MP(n:Nat)(f:Nat->Ae):Prop:=∀i,i<n->∀k,k<i->¬((f k).set=(f i).set/\(f k).name=(f i).name)
variable{n:Nat}
theorem MP.iff{f:Nat->Ae}{key:Nat->Lit}(c:∀i,i<n->keyOf Tryz.prog 209 (.agg #[.string (f i).set,.string (f i).name])=some (key i)):Gw n key↔MP n f:=by
 constructor
 ·intro h i hi k a e;refine h i hi k a ?_;have d:=c i hi;have b:=c k (by omega);rw[e.1,e.2,d]at b;exact(Option.some.inj b).symm
 ·intro h i hi k a e;have d:=c i hi;have b:=c k (by omega);rw[e]at b;have:=SS.inj b d;simp only[Value.agg.injEq,Array.mk.injEq,List.cons.injEq,Value.string.injEq,and_true]at this;exact h i hi k a this
theorem zCx(v:Value)(n lo hi:Nat)(f:Nat->Ae)(w:World)(h:EJ w lo hi v n f)(hn:n<=20) :
 Calls Tryz.prog 139 #[v] w fun e w'=>AL (MP n f) e/\Below w.heap.size w w':=by
 have L:=A3 h;obtain⟨R,a,c,rfl,U,-⟩:=id h;unfold maxLen at R;have o:∀i,∃l,WideAt.IsKeyLit l/\(i<n->keyOf Tryz.prog 209 (.agg #[.string (f i).set,.string (f i).name])=some l):=fun i=>by
  by_cases hi':i<n
  ·obtain⟨b,off,vd,_,hs⟩:=h.cells hi';obtain⟨l,I⟩:=zGB hs.CI.2 hs.CI.1;exact⟨l,SS.key I,fun _=>I⟩
  ·exact⟨.string [],trivial,fun h=>absurd h hi'⟩
 obtain⟨key,y,z⟩:∃key:Nat->Lit,H6 key/\∀i,i<n->keyOf Tryz.prog 209 (.agg #[.string (f i).set,.string (f i).name])=some (key i):=⟨fun i=>(o i).choose,fun i=>(o i).choose_spec.1,fun i=>(o i).choose_spec.2⟩;have C:=A3 y;have u:=A3 z;clear h o y z;have F:=A3 (World.ownsMap_made w Tryz.prog 209 D2);have P:=@run_makeMap Tryz.prog;go_enter Tryz.func139,Tryz.ntmps139;go_wp2
 go_loopw [9] (fun i wr=>∃k:Nat,k<=n/\i = .int .i64 k/\wr.ownsMap Tryz.prog 209 D2 w.heap.size k (putD key (fun i=>.int .i64 (f i).id) k)/\Below w.heap.size w wr/\w.heap.size+1<=wr.heap.size) (fun i _=>n - (intOf i).toNat)
 case atStart=>exact⟨0,Nat.zero_le _,rfl,F.out,AC _ _,by rw[World.size_alloc];omega⟩
 case round=>
  clear F;obtain⟨k,S,rfl,q,E,T⟩:=hrel;have p:=A3 q;clear q;by_cases A:k<n
  ·have J:(k:Int)<(n:Int):=(by omega);obtain⟨b,off,vd,rfl,d⟩:=(L.out.A0 E).cells A;obtain⟨-,G,H,rfl,-,-⟩:=id d.dead;have m:=AC wr (.cells #[.int .i64 (f k).id,.string (f k).name,.string (f k).set,.int .i64 (f k).A6,.int .i64 (f k).time,.int .i64 (f k).rs,.int .i64 (f k).rb,.slice G (f k).dn H] 83);have B:=A3 (Dc.new wr (.int .i64 (f k).id) (.string (f k).name) (.string (f k).set) (.int .i64 (f k).A6) (.int .i64 (f k).time) (.int .i64 (f k).rs) (.int .i64 (f k).rb) (.slice G (f k).dn H) 83);have x:=A7 E m;have V:=d.c0;have q1:=d.c1;have W:=d.c2;have X:=d.c3;have Y:=d.c4;have Z:=d.c5;have q6:=d.c6;have q7:=d.c7;have t:=A3 (u.out k A);obtain⟨⟨⟨y0,-⟩,⟨y1,-⟩,⟨y2,-⟩,⟨y3,-⟩⟩,⟨y4,-⟩,⟨y5,-⟩,⟨y6,-⟩,⟨y7,-⟩⟩:=B.out;have r:=A3 (p.out.kept (EC m none) (by simp));have Q:=m.size;clear d m;go_wp2_with (first
    | (at_mapUpdate;refine wpList_mapUpdate_own _ rfl _ _ _ 208 rfl 209 2 SS Zp D2 w.heap.size k _ rfl r.out (by unfold maxLen;omega) _ _ _ rfl rfl t.out _ [] (Ga _) ?_;intro w1 s g)
    | go_in)
   go_roundw
   case rel=>exact⟨k+1,by omega,by go_num,s,x.grown g x.size (fun j O=>by cases O;omega),by have:=g.size;omega⟩
   case measure=>simp[intOf];omega
  ·obtain rfl:k=n:=(by omega);have D:=A3 (R0 C.out (fun i=>.int .i64 (f i).id) k);have K:=A3 (MP.iff (f:=f) u.out);go_wp2_with (first
    | (at_len;refine wpList_len_own _ rfl _ 208 rfl 209 2 Zp D2 w.heap.size k _ rfl p.out ?_)
    | go_in)
   go_ret;refine⟨⟨_,rfl,?_⟩,E⟩;have M:=D.out.2;have N:=K.out;simp only[beq_iff_eq,Int.natCast_inj];exact M.trans N
def Fw(f:Nat->Ae):Nat->Ae
 | 0=>DH
 | k+1=>f k
def JL(W:A4)(i:Nat):Prop:=BP W (W.A2 i).set/\Bp (W.A2 i).name/\(W.A2 i).A6<(W.A2 i).id/\Mid (Fw W.A2 i).id (W.A2 i).id W.next/\Mid (Fw W.A2 i).time (W.A2 i).time W.time
def Zm(W:A4):Prop:=W.pn<=20/\(∀i,i<W.pn->JL W i)/\MP W.pn W.A2
theorem Nk(w:World):(zeroValue 41).run Tryz.prog w = .ok (.agg #[.string ⟨#[]⟩,.int .i64 0,.int .i64 0,.int .i64 0,.int .i64 0,.slice none 0 0]) w:=by kernel_rfl
variable{W:A4}{vd:Nat->Value}
theorem XH(m:∀i,i<W.sn->∃a n c,vd i = .slice a n c)(x:ByteArray):∃(j:ByteArray) (b d f g:Int) (a:Option Addr) (n c:Nat),(putD (fun i=>DK (W.A1 i).name) (fun i=>Fq (vd i) (W.A1 i)) W.sn).atKey (DK x) (.held (.agg #[.string ⟨#[]⟩,.int .i64 0,.int .i64 0,.int .i64 0,.int .i64 0,.slice none 0 0])) = .held (.agg #[.string j,.int .i64 b,.int .i64 d,.int .i64 f,.int .i64 g,.slice a n c]):=by
 have l:H6 (fun i=>DK (W.A1 i).name):=fun i=>Uy _
 have:∀k,k<=W.sn->∃(j:ByteArray) (b d f g:Int) (a:Option Addr) (n c:Nat),(putD (fun i=>DK (W.A1 i).name) (fun i=>Fq (vd i) (W.A1 i)) k).atKey (DK x) (.held (.agg #[.string ⟨#[]⟩,.int .i64 0,.int .i64 0,.int .i64 0,.int .i64 0,.slice none 0 0])) = .held (.agg #[.string j,.int .i64 b,.int .i64 d,.int .i64 f,.int .i64 g,.slice a n c]):=by
  intro k
  induction k with
  | zero=>exact fun _=>⟨⟨#[]⟩,0,0,0,0,none,0,0,Qz l _ (fun i hi=>absurd hi (Nat.not_lt_zero _)) _⟩
  | succ k ih=>
   intro o;by_cases e:DK (W.A1 k).name=DK x
   ·obtain⟨a,n,c,hv⟩:=m k (by omega);refine⟨(W.A1 k).name,(W.A1 k).origin,(W.A1 k).A6,(W.A1 k).rs,(W.A1 k).rb,a,n,c,?_⟩;rw[<-e];refine(atKey_put_same (Kt l _ k).isMap (l k) _ _).trans ?_;show DataW.held (Fq (vd k) (W.A1 k))=_;rw[hv];rfl
   ·obtain⟨j,b,d,f,g,a,n,c,h⟩:=ih (by omega);exact⟨j,b,d,f,g,a,n,c,(atKey_put_other (Ne.symm e) _ _).trans h⟩
 exact this W.sn (Nat.le_refl _)
theorem UB(x:ByteArray):Maps.has (putD (fun i=>DK (W.A1 i).name) (fun i=>Fq (vd i) (W.A1 i)) W.sn) (DK x)=true↔BP W x:=by
 rw[M0 (fun i=>Uy _)];constructor
 ·rintro⟨i,hi,e⟩;exact⟨i,hi,zF6 e⟩
 ·rintro⟨i,hi,e⟩;exact⟨i,hi,by rw[e]⟩
abbrev put8(w:World)(b:Nat)(u0 u1 u2 u3 u4 u5 u6 u7:Value):World:=(((((((w.setCell ⟨b,0,none⟩ u0).setCell ⟨b,1,none⟩ u1).setCell ⟨b,2,none⟩ u2).setCell ⟨b,3,none⟩ u3).setCell ⟨b,4,none⟩ u4).setCell ⟨b,5,none⟩ u5).setCell ⟨b,6,none⟩ u6).setCell ⟨b,7,none⟩ u7
variable{w:World}{b:Nat}
theorem Dc.put{v0 v1 v2 v3 v4 v5 v6 v7:Value}(h:Dc w b v0 v1 v2 v3 v4 v5 v6 v7)(a c u2 u3 u4 d e f:Value):Dc (put8 w b a c u2 u3 u4 d e f) b a c u2 u3 u4 d e f:=by
 obtain⟨⟨g,i,j,k⟩,l,m,n,o⟩:=h;refine⟨⟨?_,?_,?_,?_⟩,?_,?_,?_,?_⟩
 ·exact(((((((g.set _).other _ (Or.inr (by omega))).other _ (Or.inr (by omega))).other _ (Or.inr (by omega))).other _ (Or.inr (by omega))).other _ (Or.inr (by omega))).other _ (Or.inr (by omega))).other _ (Or.inr (by omega))
 ·exact(((((((i.other _ (Or.inr (by omega))).set _).other _ (Or.inr (by omega))).other _ (Or.inr (by omega))).other _ (Or.inr (by omega))).other _ (Or.inr (by omega))).other _ (Or.inr (by omega))).other _ (Or.inr (by omega))
 ·exact(((((((j.other _ (Or.inr (by omega))).other _ (Or.inr (by omega))).set _).other _ (Or.inr (by omega))).other _ (Or.inr (by omega))).other _ (Or.inr (by omega))).other _ (Or.inr (by omega))).other _ (Or.inr (by omega))
 ·exact(((((((k.other _ (Or.inr (by omega))).other _ (Or.inr (by omega))).other _ (Or.inr (by omega))).set _).other _ (Or.inr (by omega))).other _ (Or.inr (by omega))).other _ (Or.inr (by omega))).other _ (Or.inr (by omega))
 ·exact(((((((l.other _ (Or.inr (by omega))).other _ (Or.inr (by omega))).other _ (Or.inr (by omega))).other _ (Or.inr (by omega))).set _).other _ (Or.inr (by omega))).other _ (Or.inr (by omega))).other _ (Or.inr (by omega))
 ·exact(((((((m.other _ (Or.inr (by omega))).other _ (Or.inr (by omega))).other _ (Or.inr (by omega))).other _ (Or.inr (by omega))).other _ (Or.inr (by omega))).set _).other _ (Or.inr (by omega))).other _ (Or.inr (by omega))
 ·exact(((((((n.other _ (Or.inr (by omega))).other _ (Or.inr (by omega))).other _ (Or.inr (by omega))).other _ (Or.inr (by omega))).other _ (Or.inr (by omega))).other _ (Or.inr (by omega))).set _).other _ (Or.inr (by omega))
 ·exact(((((((o.other _ (Or.inr (by omega))).other _ (Or.inr (by omega))).other _ (Or.inr (by omega))).other _ (Or.inr (by omega))).other _ (Or.inr (by omega))).other _ (Or.inr (by omega))).other _ (Or.inr (by omega))).set _
theorem AE.put8(w:World)(b:Nat)(a c u2 u3 u4 d e f:Value):AE (fun k=>k=b) w (put8 w b a c u2 u3 u4 d e f):=
 (((((((AE.put w b 0 a).trans (AE.put _ b 1 c)).trans (AE.put _ b 2 u2)).trans (AE.put _ b 3 u3)).trans (AE.put _ b 4 u4)).trans (AE.put _ b 5 d)).trans (AE.put _ b 6 e)).trans (AE.put _ b 7 f)
theorem GY.put8{M:Nat}(h:GY w W M n vd)(a:M≠b)(c d u2 u3 u4 e f g:Value):GY (Go.Proofs.YtehdoekmnicdiaaGreatDoor.put8 w b c d u2 u3 u4 e f g) W M n vd:=
 (((((((World.ownsMap.setCell h a c).setCell a d).setCell a u2).setCell a u3).setCell a u4).setCell a e).setCell a f).setCell a g
variable{w':World}
theorem zAm{B:Nat}(h:Below B w w')(a:B<=b)(c d u2 u3 u4 e f g:Value):Below B w (put8 w' b c d u2 u3 u4 e f g):=
 (((((((h.setCell a c).setCell a d).setCell a u2).setCell a u3).setCell a u4).setCell a e).setCell a f).setCell a g
theorem zD2(Q v1 R v3:Value)(lo hi:Nat)(W:A4)(w:World)(h:CE w lo hi Q v1 R v3 W)(hs:W.sn<=8) :
 Calls Tryz.prog 74 #[Cn Q v1 R v3 W] w fun e w'=>AL (Zm W) e/\Below w.heap.size w w':=by
 have Hp:=A3 h;obtain⟨m1,a,c,rfl,mc,-⟩:=id h.A2;unfold maxLen at m1;clear h;have ha:=AC w (.cells #[Q,v1,.int .i64 W.time,.int .i64 W.next,R,.slice a W.pn c] 30);have D:=A3 (As.new w Q v1 (.int .i64 W.time) (.int .i64 W.next) R (.slice a W.pn c) 30);obtain⟨S,T,U,V,X,o⟩:=D.out.c;by_cases hn:W.pn<=20;rotate_left
 ·have eB:(20:Int)<(W.pn:Int):=(by omega);go_enter Tryz.func74,Tryz.ntmps74;go_wp2;go_ret;exact⟨AL.no fun h=>hn h.1,ha⟩
 have eB:¬(20:Int)<(W.pn:Int):=by omega
 go_enter Tryz.func74,Tryz.ntmps74;go_wp2_with fail;clear S T U V X o;generalize w.alloc (.cells #[Q,v1,.int .i64 W.time,.int .i64 W.next,R,.slice a W.pn c] 30)=W0 at ha D ⊢;refine(ZQ Q v1 R _ lo hi W W0 (Hp.out.A0 ha) hs).mono ?_;rintro e w1 ⟨vd,rfl,t,nA,P⟩;have kA:∀i,i<W.sn->∃a n c,vd i = .slice a n c:=fun i hi'=>by
  obtain⟨_,aa,cc,hv,_⟩:=nA i hi';exact⟨aa,_,cc,hv⟩
 have O:=A3 (XH kA);have A:=A3 (UB (W:=W) (vd:=vd));have y:=AC w1 (.cells #[.int .i64 0,.string ⟨#[]⟩,.string ⟨#[]⟩,.int .i64 0,.int .i64 0,.int .i64 0,.int .i64 0,.slice none 0 0] 83);have J:=A3 ((D.out.A0 P).A0 y);have E:=A3 (Dc.new w1 (.int .i64 0) (.string ⟨#[]⟩) (.string ⟨#[]⟩) (.int .i64 0) (.int .i64 0) (.int .i64 0) (.int .i64 0) (.slice none 0 0) 83);have F:=A3 (t.A0 y);have Z:=A3 (A7 (A7 ha P) y);have fA:W0.heap.size+1<w1.heap.size:=t.lt;have bA:=A3 (show w.heap.size<W0.heap.size+1 by have:=D.out.1.lt;omega);clear t nA kA P y ha D;obtain⟨S,T,U,V,X,o⟩:=J.out.c;go_wp2;clear S T U V X o;obtain⟨L,hL⟩:∃L,L=w1.heap.size:=⟨_,rfl⟩;rw[<-hL]at E fA ⊢;obtain⟨M,hM⟩:∃M,M=W0.heap.size+1:=⟨_,rfl⟩;rw[<-hM]at F fA bA ⊢;have aD:w.heap.size<L:=by have:=bA.out;omega
 go_loopw [18] (fun i wr=>∃(k:Nat) (al:Option Addr) (nl cl:Nat),k<=W.pn/\i = .int .i64 k/\(∀j,j<k->JL W j)/\Dc wr L (.int .i64 (Fw W.A2 k).id) (.string (Fw W.A2 k).name) (.string (Fw W.A2 k).set) (.int .i64 (Fw W.A2 k).A6) (.int .i64 (Fw W.A2 k).time) (.int .i64 (Fw W.A2 k).rs) (.int .i64 (Fw W.A2 k).rb) (.slice al nl cl)/\As wr w.heap.size Q v1 (.int .i64 W.time) (.int .i64 W.next) R (.slice a W.pn c)/\GY wr W M W.sn vd/\Below w.heap.size w wr) (fun i _=>W.pn - (intOf i).toNat)
 case atStart=>exact⟨0,none,0,0,Nat.zero_le _,rfl,fun j hj=>absurd hj (Nat.not_lt_zero _),E.out,J.out,F.out,Z.out⟩
 case round=>
  clear E J F Z hL hM;obtain⟨k,al,nl,cl,hk,rfl,B,hV,hX,hM,hb⟩:=hrel;have z:=A3 B;have HV:=A3 hV;have HX:=A3 hX;have HM:=A3 hM;clear B hV hX hM;obtain⟨S,T,U,V,X,o⟩:=HX.out.c;by_cases m:k<W.pn
  ·have vB:(k:Int)<(W.pn:Int):=(by omega);obtain⟨b,off,lD,rfl,f⟩:=(Hp.out.A2.A0 hb).cells m;obtain⟨-,ad,cd,rfl,-,-⟩:=id f.dead;obtain⟨s0,i1,i2,i3,i4,sa,sn,sc,iA⟩:=O.out (W.A2 k).set;have N:=A3 iA;have s:=A3 (Q2 f.CI.2);have fB:=f.CI.1;clear iA;have bB:wr.heap.size≠L:=(by have:=HV.out.1.1.lt;omega);have q:=AC wr (.cells #[.int .i64 (W.A2 k).id,.string (W.A2 k).name,.string (W.A2 k).set,.int .i64 (W.A2 k).A6,.int .i64 (W.A2 k).time,.int .i64 (W.A2 k).rs,.int .i64 (W.A2 k).rb,.slice ad (W.A2 k).dn cd] 83);have r:=AC (wr.alloc (.cells #[.int .i64 (W.A2 k).id,.string (W.A2 k).name,.string (W.A2 k).set,.int .i64 (W.A2 k).A6,.int .i64 (W.A2 k).time,.int .i64 (W.A2 k).rs,.int .i64 (W.A2 k).rb,.slice ad (W.A2 k).dn cd] 83)) (.cells #[.string s0,.int .i64 i1,.int .i64 i2,.int .i64 i3,.int .i64 i4,.slice sa sn sc] 41);have H:=A3 (Dc.new wr (.int .i64 (W.A2 k).id) (.string (W.A2 k).name) (.string (W.A2 k).set) (.int .i64 (W.A2 k).A6) (.int .i64 (W.A2 k).time) (.int .i64 (W.A2 k).rs) (.int .i64 (W.A2 k).rb) (.slice ad (W.A2 k).dn cd) 83);have G:=A3 (HM.out.A0 q);have v:=A3 (H.out.A0 r);have I:=A3 ((HV.out.A0 q).A0 r);have K:=A3 ((HX.out.A0 q).A0 r);have Y:=A3 ((HM.out.A0 q).A0 r);have l:=A7 (A7 hb q) r;have lA:((wr.alloc (.cells #[.int .i64 (W.A2 k).id,.string (W.A2 k).name,.string (W.A2 k).set,.int .i64 (W.A2 k).A6,.int .i64 (W.A2 k).time,.int .i64 (W.A2 k).rs,.int .i64 (W.A2 k).rb,.slice ad (W.A2 k).dn cd] 83)).alloc (.cells #[.string s0,.int .i64 i1,.int .i64 i2,.int .i64 i3,.int .i64 i4,.slice sa sn sc] 41)).heap.size=wr.heap.size+2:=(by rw[World.size_alloc,World.size_alloc]);have q0:=f.c0;have q1:=f.c1;have q2:=f.c2;have q3:=f.c3;have q4:=f.c4;have q5:=f.c5;have q6:=f.c6;have q7:=f.c7;obtain⟨⟨⟨y0,-⟩,⟨y1,-⟩,⟨y2,-⟩,⟨y3,-⟩⟩,⟨y4,-⟩,⟨y5,-⟩,⟨y6,-⟩,⟨y7,-⟩⟩:=H.out;obtain⟨⟨⟨z0,-⟩,⟨z1,-⟩,⟨z2,-⟩,⟨z3,-⟩⟩,⟨z4,-⟩,⟨z5,-⟩,⟨z6,-⟩,⟨z7,-⟩⟩:=v.out;clear f;by_cases g:BP W (W.A2 k).set;rotate_left
   ·have Hc:=A3 (show Maps.has (putD (fun i=>DK (W.A1 i).name) (fun i=>Fq (vd i) (W.A1 i)) W.sn) (DK (W.A2 k).set)=false by rw[Bool.eq_false_iff];exact fun h=>g ((A.out _).1 h));have x:=A3 (show ¬JL W k from fun h=>g h.1);clear g;go_wp2_with (first
     | (at_lookup;refine PA _ rfl _ _ 157 rfl 9 41 Mf LI (Nk _) M W.sn _ rfl G.out _ _ rfl s.out _ N.out false Hc.out ?_)
     | go_in)
    go_ret;exact⟨AL.no fun h=>x.out (h.2.1 k m),l⟩
   have aA:=A3 g;have Hc:=A3 ((A.out _).2 g);clear g;go_wp2_with (first
    | (at_lookup;refine PA _ rfl _ _ 157 rfl 9 41 Mf LI (Nk _) M W.sn _ rfl G.out _ _ rfl s.out _ N.out true Hc.out ?_)
    | fail)
   clear S T U V X o y0 y1 y2 y3 y4 y5 y6 y7 z0 z1 z2 z3 z4 z5 z6 z7 q0 q1 q2 q3 q4 q5 q6 q7 H G HV HX HM hb q r s N Hc;generalize (wr.alloc (.cells #[.int .i64 (W.A2 k).id,.string (W.A2 k).name,.string (W.A2 k).set,.int .i64 (W.A2 k).A6,.int .i64 (W.A2 k).time,.int .i64 (W.A2 k).rs,.int .i64 (W.A2 k).rb,.slice ad (W.A2 k).dn cd] 83)).alloc (.cells #[.string s0,.int .i64 i1,.int .i64 i2,.int .i64 i3,.int .i64 i4,.slice sa sn sc] 41)=W2 at v I K Y l lA ⊢;generalize wr.heap.size=V8 at v bB ⊢;obtain⟨S,T,U,V,X,o⟩:=K.out.c;obtain⟨⟨⟨z0,-⟩,⟨z1,-⟩,⟨z2,-⟩,⟨z3,-⟩⟩,⟨z4,-⟩,⟨z5,-⟩,⟨z6,-⟩,⟨z7,-⟩⟩:=v.out;obtain⟨⟨⟨l0,m0⟩,⟨l1,n1⟩,⟨l2,n2⟩,⟨l3,n3⟩⟩,⟨l4,n4⟩,⟨l5,n5⟩,⟨l6,n6⟩,⟨l7,n7⟩⟩:=I.out;refine(Rm (W.A2 k).name _ fB).mono ?_;rintro e wn ⟨⟨C,rfl,d⟩,rfl⟩;by_cases u:Bp (W.A2 k).name;rotate_left
   ·have x:=A3 (show ¬JL W k from fun h=>u h.2.1);obtain rfl:C=false:=BR d u;clear d u;go_wp2;go_ret;exact⟨AL.no fun h=>x.out (h.2.1 k m),l⟩
   have HA:=A3 u;obtain rfl:C=true:=d.2 u;clear d u;by_cases hg:(W.A2 k).id<=(W.A2 k).A6
   ·have x:=A3 (show ¬JL W k from fun h=>by have:=h.2.2.1;omega);go_wp2;go_ret;exact⟨AL.no fun h=>x.out (h.2.1 k m),l⟩
   have Hg:=A3 (show(W.A2 k).A6<(W.A2 k).id by omega);go_wp2_with fail;clear hg;refine(Z0 _ _ _ _).mono ?_;rintro e wn ⟨⟨C,rfl,d⟩,rfl⟩;by_cases p:Mid (Fw W.A2 k).id (W.A2 k).id W.next;rotate_left
   ·have x:=A3 (show ¬JL W k from fun h=>p h.2.2.2.1);obtain rfl:C=false:=BR d p;clear d p;go_wp2;go_ret;exact⟨AL.no fun h=>x.out (h.2.1 k m),l⟩
   have D:=A3 p;obtain rfl:C=true:=d.2 p;clear d p;go_wp2_with fail;refine(Z0 _ _ _ _).mono ?_;rintro e wn ⟨⟨C,rfl,d⟩,rfl⟩;by_cases p:Mid (Fw W.A2 k).time (W.A2 k).time W.time;rotate_left
   ·have x:=A3 (show ¬JL W k from fun h=>p h.2.2.2.2);obtain rfl:C=false:=BR d p;clear d p;go_wp2;go_ret;exact⟨AL.no fun h=>x.out (h.2.1 k m),l⟩
   have rA:=A3 p;obtain rfl:C=true:=d.2 p;clear d p;go_wp2;go_roundw
   case rel=>exact⟨k+1,_,_,_,by omega,by go_num,Bu m z.out ⟨aA.out,HA.out,Hg.out,D.out,rA.out⟩,I.out.put _ _ _ _ _ _ _ _,K.out.AD (AE.put8 _ L _ _ _ _ _ _ _ _) (by omega),Y.out.put8 (by omega) _ _ _ _ _ _ _ _,zAm l (by omega) _ _ _ _ _ _ _ _⟩
   case measure=>simp[intOf];omega
  ·obtain rfl:k=W.pn:=(by omega);go_wp2_with fail;clear S T U V X o;refine(zCx _ W.pn lo hi W.A2 _ (Hp.out.A2.A0 hb) hn).mono ?_;rintro e w6 ⟨⟨t6,rfl,mA⟩,cB⟩;have Ht:=A3 mA;clear mA;go_wp2;go_ret;exact⟨⟨t6,rfl,Ht.out.trans ⟨fun u=>⟨hn,z.out,u⟩,fun u=>u.2.2⟩⟩,A7 hb cB⟩
def I2(W:A4):Prop:=∀i,i<W.pn->∀j,j<i->(W.A2 j).id≠(W.A2 i).id
def G6(w:World)(lo hi:Nat)(W:A4)(A:Nat):Prop:=∃M vd,AN w A 0 (.map (some M))/\Jd w W M W.pn vd/\OD w lo hi W.pn W.A2 vd
abbrev KP(A:Nat):Value:=.func (.func 142) #[] #[.pointer (some ⟨A,0,none⟩)]
variable{lo hi:Nat}
theorem G6.A0{A:Nat}(h:G6 w lo hi W A)(t:Below w.heap.size w w'):G6 w' lo hi W A:=by
 obtain⟨M,vd,a,b,c⟩:=h;exact⟨M,vd,a.A0 t,b.A0 t,fun i hi'=>(c i hi').A0 t⟩
theorem zDV(w:World):(zeroValue 83).run Tryz.prog w = .ok (.agg #[.int .i64 0,.string ⟨#[]⟩,.string ⟨#[]⟩,.int .i64 0,.int .i64 0,.int .i64 0,.int .i64 0,.slice none 0 0]) w:=by kernel_rfl
theorem zAW(o:I2 W)(p:OD w lo hi W.pn W.A2 vd)(x:Int):∃a c,(putD (fun i=>Gp (W.A2 i).id) (fun i=>DE (vd i) (W.A2 i)) W.pn).atKey (Gp x) (.held (.agg #[.int .i64 0,.string ⟨#[]⟩,.string ⟨#[]⟩,.int .i64 0,.int .i64 0,.int .i64 0,.int .i64 0,.slice none 0 0])) = .held (DE (.slice a (AI W x).dn c) (AI W x))/\BI w lo hi (.slice a (AI W x).dn c) (AI W x).dn (AI W x).ds (AI W x).db:=by
 have f:H6 (fun i=>Gp (W.A2 i).id):=fun i=>zF5 _
 by_cases d:∃k,Be W x k
 ·obtain⟨k,b⟩:=d;rw[Dv b];have g:=p k b.1;obtain⟨_,a,c,hv,_⟩:=id g;refine⟨a,c,?_,by rw[<-hv];exact g⟩;have:=Pe f (fun i=>DE (vd i) (W.A2 i)) (.held (.agg #[.int .i64 0,.string ⟨#[]⟩,.string ⟨#[]⟩,.int .i64 0,.int .i64 0,.int .i64 0,.int .i64 0,.slice none 0 0])) W.pn k b.1 (fun j m n e=>o j n k m (Ux e).symm);rw[b.2.1]at this;rw[this,hv]
 ·have e:AI W x=DH:=(by unfold AI;rw[dif_neg d]);rw[e];refine⟨none,0,?_,⟨Nat.zero_le _,none,0,rfl,Nat.le_refl _,fun h=>absurd h (by simp[DH])⟩⟩;refine Qz f _ (fun i hi' l=>?_) _;exact d (R6 (Nat.le_refl _) ⟨i,hi',Ux l⟩)
theorem Jp(lo hi:Nat)(W:A4)(A:Nat)(x:Int)(w:World)(h:G6 w lo hi W A)(q:I2 W)(o:(Lit.int .i64 x).wf=true)(hn:W.pn<=20) :
 Calls Tryz.prog 142 #[.int .i64 x,.pointer (some ⟨A,0,none⟩)] w fun e w'=>∃a c,e = .returned (DE (.slice a (AI W x).dn c) (AI W x))/\BI w lo hi (.slice a (AI W x).dn c) (AI W x).dn (AI W x).ds (AI W x).db/\Below w.heap.size w w':=by
 obtain⟨M,vd,k,m,l⟩:=h;obtain⟨a,c,i,n⟩:=zAW q l x;have d:=A3 i;have j:=A3 n;have f:=A3 (Tq o);clear i n l o;unfold DE at d ⊢;generalize AI W x=S at *;have b:=AC w (.cells #[.int .i64 0,.string ⟨#[]⟩,.string ⟨#[]⟩,.int .i64 0,.int .i64 0,.int .i64 0,.int .i64 0,.slice none 0 0] 83);have p:=A3 (m.A0 b);obtain⟨D,-⟩:=k.A0 b;have g:=AC w (.cells #[.int .i64 S.id,.string S.name,.string S.set,.int .i64 S.A6,.int .i64 S.time,.int .i64 S.rs,.int .i64 S.rb,.slice a S.dn c] 83);obtain⟨⟨⟨r,-⟩,⟨s,-⟩,⟨t,-⟩,⟨u,-⟩⟩,⟨y,-⟩,⟨z,-⟩,⟨B,-⟩,⟨C,-⟩⟩:=Dc.new w (.int .i64 S.id) (.string S.name) (.string S.set) (.int .i64 S.A6) (.int .i64 S.time) (.int .i64 S.rs) (.int .i64 S.rb) (.slice a S.dn c) 83;clear m k b;go_enter Tryz.func142,Tryz.ntmps142;go_wp2_with (first
  | (at_lookup;refine zDO _ rfl _ _ 181 rfl 2 83 yz qU (zDV _) M W.pn _ rfl p.out _ _ rfl f.out _ d.out ?_)
  | go_in)
 refine bodyPost_ret (v:=.agg #[.int .i64 S.id,.string S.name,.string S.set,.int .i64 S.A6,.int .i64 S.time,.int .i64 S.rs,.int .i64 S.rb,.slice a S.dn c]) (by simp[results,Tryz.results142,go_sem,r,s,t,u,y,z,B,C]) rfl ⟨a,c,rfl,j.out,g⟩
theorem Yx(d v1 f g:Value)(lo hi:Nat)(W:A4)(w:World)(h:CE w lo hi d v1 f g W)(hn:W.pn<=20)(m:Mw W.pn W.A2) :
 Calls Tryz.prog 76 #[Cn d v1 f g W] w fun e w'=>∃A,e = .returned (KP A)/\G6 w' lo hi W A/\Below w.heap.size w w':=by
 have s:=A3 h;clear h;have t:∀(fn:Fn) (first cap:Array Value) (w:World),(Instr.makeFunc fn first cap).run Tryz.prog w = .ok (.func fn first cap) w:=fun _ _ _ _=>rfl
 have k:=AC w (.cells #[d,v1,.int .i64 W.time,.int .i64 W.next,f,g] 30);obtain⟨u,v,x,y,z,n⟩:=(As.new w d v1 (.int .i64 W.time) (.int .i64 W.next) f g 30).c;go_enter Tryz.func76,Tryz.ntmps76;go_wp2_with fail;clear u v x y z n;generalize w.alloc (.cells #[d,v1,.int .i64 W.time,.int .i64 W.next,f,g] 30)=W0 at k ⊢;refine(zCv d v1 f g lo hi W W0 (s.out.A0 k) hn m).mono ?_;rintro e j ⟨vd,rfl,q,p,b⟩;have a:=AC j (.cells #[.map (some (W0.heap.size+1))] 181);have o:AN (j.alloc (.cells #[.map (some (W0.heap.size+1))] 181)) j.heap.size 0 (.map (some (W0.heap.size+1))):=Au (heap_alloc_new _ _) rfl;have r:=A3 (show G6 (j.alloc (.cells #[.map (some (W0.heap.size+1))] 181)) lo hi W j.heap.size from⟨_,vd,o,q.A0 a,fun i hi'=>((p i hi').A0 b).A0 a⟩);have l:=A7 (A7 k b) a;clear q p b a o;go_wp2;go_ret;exact⟨_,rfl,r.out,l⟩
def Ms(vd:Value)(m:Dd):List Value:=[.int .i64 m.A6,.int .i64 m.time,.int .i64 m.rs,.int .i64 m.rb,vd]
def mrow(W:A4)(vd:Nat->Value):Nat->List Value
 | 0=>[]
 | k+1=>mrow W vd k ++ Ms (vd k) (A8 W k)
theorem Nx(W:A4)(vd:Nat->Value):∀n,(mrow W vd n).length=n*5
 | 0=>rfl
 | n+1=>by simp[mrow,Nx W vd n,Ms];omega
theorem Ki{W:A4}{vd:Nat->Value}:∀{n i j:Nat},i<n->j<5->(mrow W vd n)[i*5+j]?=(Ms (vd i) (A8 W i))[j]?
 | 0,i,j,hi,_=>absurd hi (Nat.not_lt_zero _)
 | n+1,i,j,hi,hj=>by
  unfold mrow;by_cases e:i=n
  ·subst e;rw[List.getElem?_append_right (by rw[Nx];omega),Nx,show i*5+j - i*5=j by omega]
  ·rw[List.getElem?_append_left (by rw[Nx];omega),Ki (by omega) hj]
def Qh(w:World)(lo hi:Nat)(W:A4)(vd:Nat->Value):Prop:=∀i,i<memN W->BI w lo hi (vd i) (A8 W i).dn (A8 W i).ds (A8 W i).db
def EN(w:World)(base:Nat)(v:Value)(W:A4)(vd:Nat->Value)(n:Nat):Prop:=w.ownsRow base 186 5 v n (mrow W vd n)
variable{base:Nat}{v:Value}
theorem EN.A0{w1:World}(h:EN w base v W vd n)(a:Below w.heap.size w w1):EN w1 base v W vd n:=
 h.kept (EC a none) (by cases v.ownBlock<;>simp)
theorem EN.lt(h:EN w base v W vd n){q:Nat}(a:v.ownBlock=some q):base<=q/\q<w.heap.size:=by
 rcases h.2 with⟨rfl,_⟩ | ⟨g,cap,b,rfl,c,d,_⟩
 ·simp[Value.ownBlock]at a
 ·simp only[Value.ownBlock,Option.some.injEq]at a;subst a;exact⟨c,(Array.getElem?_eq_some_iff.1 d).1⟩
theorem EN.next{w2:World}{g cap:Nat}(h:w2.ownsRow base 186 5 (.slice (some ⟨g,0,none⟩) (n+1) cap) (n+1) (mrow W vd n ++ Ms (vd n) (A8 W n))):EN w2 base (.slice (some ⟨g,0,none⟩) (n+1) cap) W vd (n+1):=h
structure JY (w:World) (lo hi:Nat) (v:Value) (W:A4) (vd:Nat->Value):Prop where
 form:∃a c,v = .slice a (memN W) c/\memN W<=c
 cells:∀i,i<memN W->∃g c,v = .slice (some ⟨g,0,none⟩) (memN W) c/\w.cell? ⟨g,i*5,none⟩=some (.int .i64 (A8 W i).A6)/\w.cell? ⟨g,i*5+1,none⟩=some (.int .i64 (A8 W i).time)/\w.cell? ⟨g,i*5+2,none⟩=some (.int .i64 (A8 W i).rs)/\w.cell? ⟨g,i*5+3,none⟩=some (.int .i64 (A8 W i).rb)/\w.cell? ⟨g,i*5+4,none⟩=some (vd i)
 dead:Qh w lo hi W vd
theorem JY.A0{w1:World}(h:JY w lo hi v W vd)(t:Below w.heap.size w w1):JY w1 lo hi v W vd where
 form:=h.form
 cells:=fun i hi'=>by
  obtain⟨g,c,e,a,b,d,f,j⟩:=h.cells i hi';exact⟨g,c,e,(t.cell (AZ a)).trans a,(t.cell (AZ b)).trans b,(t.cell (AZ d)).trans d,(t.cell (AZ f)).trans f,(t.cell (AZ j)).trans j⟩
 dead:=fun i hi'=>(h.dead i hi').A0 t
theorem EN.at(h:EN w base v W vd (memN W))(c:Qh w lo hi W vd):JY w lo hi v W vd where
 form:=Bh h
 cells:=fun i hi'=>by
  obtain⟨g,cap,e,b,f,d,a⟩:=Fj h (by omega);refine⟨g,cap,e,?_,?_,?_,?_,?_⟩
  ·exact(a (i*5) _ (by have:=Ki (W:=W) (vd:=vd) hi' (show 0<5 by omega);rw[Nat.add_zero]at this;rw[this];rfl)).1
  ·exact(a (i*5+1) _ (by rw[Ki hi' (by omega)];rfl)).1
  ·exact(a (i*5+2) _ (by rw[Ki hi' (by omega)];rfl)).1
  ·exact(a (i*5+3) _ (by rw[Ki hi' (by omega)];rfl)).1
  ·exact(a (i*5+4) _ (by rw[Ki hi' (by omega)];rfl)).1
 dead:=c
theorem zG6:(Tryz.prog.info? 186).map (fun i=>(i.zero,i.size,i.bytes))=some (some (.agg #[.int .i64 0,.int .i64 0,.int .i64 0,.int .i64 0,.slice none 0 0]),5,56):=by kernel_rfl
theorem Rr(K v1 v2 v3:Value)(lo hi:Nat)(W:A4)(w:World)(h:CE w lo hi K v1 v2 v3 W)(hs:W.sn<=8)(hp:W.pn<=20) :
 Calls Tryz.prog 143 #[Cn K v1 v2 v3 W] w fun e w'=>∃v vd,e = .returned v/\JY w' lo hi v W vd/\Below w.heap.size w w':=by
 have Hp:=A3 h;obtain⟨m1,a,c,rfl,mc,-⟩:=id h.A2;obtain⟨m2,a',c',rfl,gB,-⟩:=id h.A1;unfold maxLen at m1 m2;obtain⟨vs,Y,P⟩:=h.A2.vals;obtain⟨vt,Z,Q⟩:=h.A1.vals;have kA:∃vd:Nat->Value,(∀i,i<W.pn->vd i=vs i)/\(∀i,i<W.sn->vd (W.pn+i)=vt i)/\Qh w lo hi W vd:=by
  refine⟨fun i=>if i<W.pn then vs i else vt (i - W.pn),fun i hi'=>if_pos hi',fun i hi'=>?_,fun i hi'=>?_⟩
  ·show(if W.pn+i<W.pn then vs (W.pn+i)else vt (W.pn+i - W.pn))=vt i;rw[if_neg (by omega),show W.pn+i - W.pn=i by omega]
  ·show BI w lo hi (if i<W.pn then vs i else vt (i - W.pn)) _ _ _;by_cases C:i<W.pn
   ·rw[if_pos C,Co C];exact Y i C
   ·have e:=Cp W (i - W.pn);rw[show W.pn+(i - W.pn)=i by omega]at e;rw[if_neg C,e];unfold memN at hi';exact Z _ (by omega)
 obtain⟨vd,R,S,T⟩:=kA;have eA:=A3 P;have fA:=A3 Q;have gA:=A3 R;have iA:=A3 S;have jA:=A3 T;clear h Y P Z Q R S T;obtain⟨i0,U,I⟩:=Option.map_eq_some_iff.1 zG6;simp only[Prod.mk.injEq]at I;have D:=A3 (And.intro U I);clear U I;have ha:=AC w (.cells #[K,v1,.int .i64 W.time,.int .i64 W.next,.slice a' W.sn c',.slice a W.pn c] 30);have HB:=A3 (As.new w K v1 (.int .i64 W.time) (.int .i64 W.next) (.slice a' W.sn c') (.slice a W.pn c) 30);obtain⟨x0,x2,x4,x6,x8,J⟩:=HB.out.c;go_enter Tryz.func143,Tryz.ntmps143;go_wp2;clear x0 x2 x4 x6 x8 J
 go_loopw [3,11] (fun v i wr=>∃k:Nat,k<=W.pn/\i = .int .i64 k/\EN wr (w.heap.size+1) v W vd k/\As wr w.heap.size K v1 (.int .i64 W.time) (.int .i64 W.next) (.slice a' W.sn c') (.slice a W.pn c)/\Below w.heap.size w wr) (fun _ i _=>W.pn - (intOf i).toNat)
 case atStart=>exact⟨0,Nat.zero_le _,rfl,World.ownsRow_nil _ _ _ _,HB.out,ha⟩
 case round=>
  clear HB ha;obtain⟨k,hk,rfl,p,N,B⟩:=hrel;have g:=A3 p;have u:=A3 N;clear p N;by_cases r:k<W.pn
  ·have V:(k:Int)<(W.pn:Int):=(by omega);obtain⟨b,off,rfl,A⟩:=eA.out k r;have d:=A.A0 B;rw[<-gA.out k r]at d;obtain⟨-,n,o,t,-,-⟩:=id d.dead;have G:=A3 t;rw[t]at d;clear t A;have m:=AC wr (.cells #[.int .i64 (W.A2 k).id,.string (W.A2 k).name,.string (W.A2 k).set,.int .i64 (W.A2 k).A6,.int .i64 (W.A2 k).time,.int .i64 (W.A2 k).rs,.int .i64 (W.A2 k).rb,.slice n (W.A2 k).dn o] 83);have E:=A3 (Dc.new wr (.int .i64 (W.A2 k).id) (.string (W.A2 k).name) (.string (W.A2 k).set) (.int .i64 (W.A2 k).A6) (.int .i64 (W.A2 k).time) (.int .i64 (W.A2 k).rs) (.int .i64 (W.A2 k).rb) (.slice n (W.A2 k).dn o) 83);have l:=AC (wr.alloc (.cells #[.int .i64 (W.A2 k).id,.string (W.A2 k).name,.string (W.A2 k).set,.int .i64 (W.A2 k).A6,.int .i64 (W.A2 k).time,.int .i64 (W.A2 k).rs,.int .i64 (W.A2 k).rb,.slice n (W.A2 k).dn o] 83)) (.cells #[.int .i64 (W.A2 k).A6,.int .i64 (W.A2 k).time,.int .i64 (W.A2 k).rs,.int .i64 (W.A2 k).rb,.slice n (W.A2 k).dn o] 186);have L:=A3 (World.news_of_block (heap_alloc_last (wr.alloc (.cells #[.int .i64 (W.A2 k).id,.string (W.A2 k).name,.string (W.A2 k).set,.int .i64 (W.A2 k).A6,.int .i64 (W.A2 k).time,.int .i64 (W.A2 k).rs,.int .i64 (W.A2 k).rb,.slice n (W.A2 k).dn o] 83)) (.cells #[.int .i64 (W.A2 k).A6,.int .i64 (W.A2 k).time,.int .i64 (W.A2 k).rs,.int .i64 (W.A2 k).rb,.slice n (W.A2 k).dn o] 186)));have j:=A3 ((g.out.A0 m).A0 l);have F:=A3 ((u.out.A0 m).A0 l);have x:=A7 (A7 B m) l;have lA:=u.out.1.lt;have H:(wr.alloc (.cells #[.int .i64 (W.A2 k).id,.string (W.A2 k).name,.string (W.A2 k).set,.int .i64 (W.A2 k).A6,.int .i64 (W.A2 k).time,.int .i64 (W.A2 k).rs,.int .i64 (W.A2 k).rb,.slice n (W.A2 k).dn o] 83)).heap.size=wr.heap.size+1:=World.size_alloc _ _;have mA:=l.size;rw[H]at L;have q0:=d.c0;have q1:=d.c1;have q2:=d.c2;have q3:=d.c3;have q4:=d.c4;have q5:=d.c5;have q6:=d.c6;have q7:=d.c7;obtain⟨⟨⟨y0,-⟩,⟨y1,-⟩,⟨y2,-⟩,⟨y3,-⟩⟩,⟨y4,-⟩,⟨y5,-⟩,⟨y6,-⟩,⟨y7,-⟩⟩:=E.out;clear d m l g u;go_wp2_with (first
    | (at_builtin;refine wpList_append_lies _ rfl _ _ 183 rfl (w.heap.size+1) 186 i0 (.agg #[.int .i64 0,.int .i64 0,.int .i64 0,.int .i64 0,.slice none 0 0]) 5 56 (by kernel_rfl) D.out.1 D.out.2.1 D.out.2.2.1 D.out.2.2.2 rfl (by decide) _ _ _ rfl j.out ⟨wr.heap.size+1,0,none⟩ 1 1 [.int .i64 (W.A2 k).A6,.int .i64 (W.A2 k).time,.int .i64 (W.A2 k).rs,.int .i64 (W.A2 k).rb,.slice n (W.A2 k).dn o] rfl rfl L.out (by simp[Value.oneCell']) (by decide) (by unfold maxLen;omega) (by omega) (by omega) _ rfl ?_;intro g' M w8 s f O X)
    | go_in)
   go_roundw
   case rel=>
    have y:∀q,Value.ownBlock _=some q->w.heap.size+1<=q:=fun q z=>(j.out.lt z).1
    refine⟨k+1,by omega,by go_num,?_,F.out.grown f (fun q z=>by have:=y q z;omega),x.grown f x.size (fun q z=>by have:=y q z;omega)⟩;refine EN.next ?_;rw[Co r,G.out];exact s
   case measure=>simp[intOf];omega
  ·obtain rfl:k=W.pn:=(by omega);obtain⟨x0,x2,x4,x6,x8,J⟩:=u.out.c;go_wp2;clear x0 x2 x4 x6 x8 J
   go_loopw [3,31] (fun v i wr=>∃k:Nat,k<=W.sn/\i = .int .i64 k/\EN wr (w.heap.size+1) v W vd (W.pn+k)/\As wr w.heap.size K v1 (.int .i64 W.time) (.int .i64 W.next) (.slice a' W.sn c') (.slice a W.pn c)/\Below w.heap.size w wr) (fun _ i _=>W.sn - (intOf i).toNat)
   case atStart=>exact⟨0,Nat.zero_le _,rfl,g.out,u.out,B⟩
   case round=>
    clear u B g hk r;obtain⟨k,hk,rfl,p,N,B⟩:=hrel;have g:=A3 p;have u:=A3 N;clear p N;by_cases r:k<W.sn
    ·have V:(k:Int)<(W.sn:Int):=(by omega);obtain⟨b,off,rfl,A⟩:=fA.out k r;have d:=A.A0 B;rw[<-iA.out k r]at d;obtain⟨-,n,o,t,-,-⟩:=id d.dead;have G:=A3 t;rw[t]at d;clear t A;have m:=AC wr (.cells #[.string (W.A1 k).name,.int .i64 (W.A1 k).origin,.int .i64 (W.A1 k).A6,.int .i64 (W.A1 k).rs,.int .i64 (W.A1 k).rb,.slice n (W.A1 k).dn o] 41);have E:=A3 (As.new wr (.string (W.A1 k).name) (.int .i64 (W.A1 k).origin) (.int .i64 (W.A1 k).A6) (.int .i64 (W.A1 k).rs) (.int .i64 (W.A1 k).rb) (.slice n (W.A1 k).dn o) 41);have dA:=A3 (u.out.A0 m);have l:=AC (wr.alloc (.cells #[.string (W.A1 k).name,.int .i64 (W.A1 k).origin,.int .i64 (W.A1 k).A6,.int .i64 (W.A1 k).rs,.int .i64 (W.A1 k).rb,.slice n (W.A1 k).dn o] 41)) (.cells #[.int .i64 (W.A1 k).A6,.int .i64 W.time,.int .i64 (W.A1 k).rs,.int .i64 (W.A1 k).rb,.slice n (W.A1 k).dn o] 186);have L:=A3 (World.news_of_block (heap_alloc_last (wr.alloc (.cells #[.string (W.A1 k).name,.int .i64 (W.A1 k).origin,.int .i64 (W.A1 k).A6,.int .i64 (W.A1 k).rs,.int .i64 (W.A1 k).rb,.slice n (W.A1 k).dn o] 41)) (.cells #[.int .i64 (W.A1 k).A6,.int .i64 W.time,.int .i64 (W.A1 k).rs,.int .i64 (W.A1 k).rb,.slice n (W.A1 k).dn o] 186)));have j:=A3 ((g.out.A0 m).A0 l);have F:=A3 ((u.out.A0 m).A0 l);have x:=A7 (A7 B m) l;have lA:=u.out.1.lt;have H:(wr.alloc (.cells #[.string (W.A1 k).name,.int .i64 (W.A1 k).origin,.int .i64 (W.A1 k).A6,.int .i64 (W.A1 k).rs,.int .i64 (W.A1 k).rb,.slice n (W.A1 k).dn o] 41)).heap.size=wr.heap.size+1:=World.size_alloc _ _;have mA:=l.size;rw[H]at L;have q0:=d.c0;have q1:=d.c1;have q2:=d.c2;have q3:=d.c3;have q4:=d.c4;have q5:=d.c5;obtain⟨y0,y1,y2,y3,y4,y5⟩:=E.out.c;obtain⟨z0,z2,z4,z6,z8,vB⟩:=dA.out.c;clear d m l g u;go_wp2_with (first
      | (at_builtin;refine wpList_append_lies _ rfl _ _ 183 rfl (w.heap.size+1) 186 i0 (.agg #[.int .i64 0,.int .i64 0,.int .i64 0,.int .i64 0,.slice none 0 0]) 5 56 (by kernel_rfl) D.out.1 D.out.2.1 D.out.2.2.1 D.out.2.2.2 rfl (by decide) _ _ _ rfl j.out ⟨wr.heap.size+1,0,none⟩ 1 1 [.int .i64 (W.A1 k).A6,.int .i64 W.time,.int .i64 (W.A1 k).rs,.int .i64 (W.A1 k).rb,.slice n (W.A1 k).dn o] rfl rfl L.out (by simp[Value.oneCell']) (by decide) (by unfold maxLen;omega) (by omega) (by omega) _ rfl ?_;intro g' M w8 s f O X)
      | go_in)
     go_roundw
     case rel=>
      have y:∀q,Value.ownBlock _=some q->w.heap.size+1<=q:=fun q z=>(j.out.lt z).1
      refine⟨k+1,by omega,by go_num,?_,F.out.grown f (fun q z=>by have:=y q z;omega),x.grown f x.size (fun q z=>by have:=y q z;omega)⟩;show EN w8 (w.heap.size+1) _ W vd (W.pn+k+1);refine EN.next ?_;rw[Cp,G.out];exact s
     case measure=>simp[intOf];omega
    ·obtain rfl:k=W.sn:=(by omega);go_wp2;go_ret;exact⟨_,vd,rfl,EN.at g.out (fun i hi'=>(jA.out i hi').A0 B),B⟩
def Fz(w:World)(b:Nat)(v0 v1 v2 v3 v4:Value):Prop:=AN w b 0 v0/\AN w b 1 v1/\AN w b 2 v2/\AN w b 3 v3/\AN w b 4 v4
theorem Fz.A0{v0 v1 v2 v3 v4:Value}(h:Fz w b v0 v1 v2 v3 v4)(t:Below w.heap.size w w'):Fz w' b v0 v1 v2 v3 v4:=⟨h.1.A0 t,h.2.1.A0 t,h.2.2.1.A0 t,h.2.2.2.1.A0 t,h.2.2.2.2.A0 t⟩
theorem Fz.new(w:World)(b v1 c d e:Value)(t:TypeId):Fz (w.alloc (.cells #[b,v1,c,d,e] t)) w.heap.size b v1 c d e:=by
 have a:(w.alloc (.cells #[b,v1,c,d,e] t)).heap[w.heap.size]?=some (.cells #[b,v1,c,d,e] t):=heap_alloc_new _ _;exact⟨Au a rfl,Au a rfl,Au a rfl,Au a rfl,Au a rfl⟩
def G7(W:A4):Prop:=∀i,i<memN W->(Lit.int .i64 (A8 W i).A6).wf=true
def JV(W:A4)(i:Nat):Prop:=(AI W (A8 W i).A6).id=(A8 W i).A6
theorem Om(v:Value)(s:Ae)(w:World):(Instr.field 83 (DE v s) 0).run Tryz.prog w = .ok (.int .i64 s.id) w/\(Instr.field 83 (DE v s) 2).run Tryz.prog w = .ok (.string s.set) w/\(Instr.field 83 (DE v s) 3).run Tryz.prog w = .ok (.int .i64 s.A6) w/\(Instr.field 83 (DE v s) 4).run Tryz.prog w = .ok (.int .i64 s.time) w:=by
 refine⟨?_,?_,?_,?_⟩<;>kernel_rfl
theorem zCz(q v1 r s:Value)(lo hi:Nat)(W:A4)(A:Nat)(w:World)(h:CE w lo hi q v1 r s W)(hs:W.sn<=8)(R:W.pn<=20)(O:G6 w lo hi W A)(P:I2 W)(B:G7 W) :
 Calls Tryz.prog 77 #[Cn q v1 r s W,KP A] w fun e w'=>AL (∀i,i<memN W->JV W i) e/\Below w.heap.size w w':=by
 have Y:=A3 h;have U:=A3 O;have X:=A3 P;have F:=A3 B;clear h O P B;have D:=AC w (.cells #[q,v1,.int .i64 W.time,.int .i64 W.next,r,s] 30);obtain⟨x0,x2,x4,x6,x8,M⟩:=(As.new w q v1 (.int .i64 W.time) (.int .i64 W.next) r s 30).c;go_enter Tryz.func77,Tryz.ntmps77;go_wp2_with fail;clear x0 x2 x4 x6 x8 M;generalize w.alloc (.cells #[q,v1,.int .i64 W.time,.int .i64 W.next,r,s] 30)=W0 at D ⊢;refine(Rr q v1 r s lo hi W W0 (Y.out.A0 D) hs R).mono ?_;rintro e T ⟨vm,vd,rfl,K,v⟩;have N:=A3 K;have l:=A7 D v;obtain⟨am,cm,rfl,bA⟩:=id K.form;have eA:memN W<=28:=by unfold memN;omega
 clear D v K;go_wp2
 go_loopw [10] (fun i wr=>∃k:Nat,k<=memN W/\i = .int .i64 k/\(∀j,j<k->JV W j)/\Below T.heap.size T wr) (fun i _=>memN W - (intOf i).toNat)
 case atStart=>exact⟨0,Nat.zero_le _,rfl,fun j hj=>absurd hj (Nat.not_lt_zero _),Below.refl _ _⟩
 case round=>
  obtain⟨k,hk,rfl,d,u⟩:=hrel;have b:=A3 d;clear d;by_cases a:k<memN W;rotate_left
  ·obtain rfl:k=memN W:=(by omega);go_wp2;go_ret;exact⟨AL.yes b.out,A7 l u⟩
  have Q:(k:Int)<(memN W:Int):=(by omega);obtain⟨g,cg,e,q0,q1,q2,q3,S⟩:=(N.out.A0 u).cells k a;obtain⟨-,H,I,z,-,-⟩:=id ((N.out.A0 u).dead k a);rw[z]at S;cases e;have o:=AC wr (.cells #[.int .i64 (A8 W k).A6,.int .i64 (A8 W k).time,.int .i64 (A8 W k).rs,.int .i64 (A8 W k).rb,.slice H (A8 W k).dn I] 186);have C:=A3 (Fz.new wr (.int .i64 (A8 W k).A6) (.int .i64 (A8 W k).time) (.int .i64 (A8 W k).rs) (.int .i64 (A8 W k).rb) (.slice H (A8 W k).dn I) 186);have f:=A3 (U.out.A0 (A7 l (A7 u o)));have x:=A7 u o;have G:=A3 (F.out k a);have t:=A3 (show JV W k↔(AI W (A8 W k).A6).id=(A8 W k).A6 from Iff.rfl);clear z o;generalize A8 W k=m at *;go_wp2_with fail;clear q0 q1 q2 q3 S;generalize wr.alloc (.cells #[.int .i64 m.A6,.int .i64 m.time,.int .i64 m.rs,.int .i64 m.rb,.slice H m.dn I] 186)=W2 at C f x ⊢;generalize wr.heap.size=V at C ⊢;obtain⟨⟨y0,-⟩,-⟩:=C.out;go_region_held3 (fun w'=>w'.cell? ⟨V,0,none⟩=some (.int .i64 m.A6)) (go_keep)
   (first | (go_at_call 142;refine(Jp lo hi W A m.A6 _ ?_ X.out G.out R).mono ?_;(exact f.out.A0 (Below.refl _ _).drew);rintro e w6 ⟨Z,ca,rfl,L,n⟩;have J:=fun w=>(Om (.slice Z (AI W m.A6).dn ca) (AI W m.A6) w).1;obtain⟨⟨z0,_⟩,_⟩:=C.out.A0 (Cr n)))
  have y:=RJ x n;clear n L J z0 y0 f;by_cases p:(AI W m.A6).id=m.A6
  ·have hd:((AI W m.A6).id != m.A6)=false:=(by simp[p]);have E:=A3 (t.out.2 p);clear p;go_wp2;go_roundw
   case rel=>exact⟨k+1,by omega,by go_num,Bu a b.out E.out,y⟩
   case measure=>simp[intOf];omega
  ·have hd:((AI W m.A6).id != m.A6)=true:=(by simp[p]);have E:=A3 (fun h=>p (t.out.1 h));clear p;go_wp2;go_ret;exact⟨AL.no fun h=>E.out (h k a),A7 l y⟩
theorem zB5(v:Value)(n lo hi:Nat)(f g:Nat->Int)(x y:Int)(w:World)(t:BI w lo hi v n f g) :
 Calls Tryz.prog 187 #[v,.agg #[.int .i64 x,.int .i64 y]] w fun e w'=>∃r:Int,e = .returned (.int .i64 r)/\(0<=r↔PIn n f g x y)/\Below w.heap.size w w':=by
 have D:=A3 t;obtain⟨F,a,c,rfl,K,-⟩:=id t;unfold maxLen at F;clear t;have E:=AC w (.cells #[.int .i64 x,.int .i64 y] 38);have C:=A3 (Ac.new w (.int .i64 x) (.int .i64 y) 38);go_enter Tryz.func187,Tryz.ntmps187;go_wp2
 go_loopw [8] (fun i wr=>∃k:Nat,k<=n/\i = .int .i64 k/\¬PIn k f g x y/\Ac wr w.heap.size (.int .i64 x) (.int .i64 y)/\Below w.heap.size w wr) (fun i _=>n - (intOf i).toNat)
 case atStart=>exact⟨0,Nat.zero_le _,rfl,fun ⟨j,A,_⟩=>absurd A (Nat.not_lt_zero _),C.out,E⟩
 case round=>
  obtain⟨k,J,rfl,p,z,q⟩:=hrel;have m:=A3 p;have u:=A3 z;clear p z;obtain⟨⟨L,M⟩,⟨N,O⟩⟩:=u.out;by_cases o:k<n
  ·have B:(k:Int)<(n:Int):=(by omega);obtain⟨b,off,rfl,G,q1⟩:=(D.out.A0 q).cellsD o;by_cases d:f k=x/\g k=y
   ·have H:=A3 (show PIn n f g x y from⟨k,o,d.1,d.2⟩);rw[d.1]at G;rw[d.2]at q1;clear d;go_wp2
    go_quiet (fail)
    go_wp2;go_ret;exact⟨k,rfl,⟨fun _=>H.out,fun _=>by omega⟩,Jv q _⟩
   ·have H:=A3 d;have e0:(x == f k)=false\/(x == f k)=true/\(y == g k)=false:=by
     by_cases h:f k=x
     ·right;refine⟨by simp[h],?_⟩;have:¬y=g k:=fun s=>d ⟨h,s.symm⟩
      simp[this]
     ·left;have:¬x=f k:=fun s=>h s.symm
      simp[this]
    clear d;rcases e0 with e0 | ⟨e0,I⟩
    all_goals
     go_wp2
     go_quiet (fail)
     go_wp2;go_roundw
     case rel=>
      refine⟨k+1,by omega,by go_num,?_,u.out.A0 (Jv (Below.refl _ _) _),Jv q _⟩;rintro⟨j,A,l⟩;by_cases e:j=k
      ·subst e;exact H.out ⟨l.1,l.2⟩
      ·exact m.out ⟨j,by omega,l⟩
     case measure=>simp[intOf];omega
  ·obtain rfl:k=n:=(by omega);go_wp2;go_ret;exact⟨-1,rfl,⟨fun h=>absurd h (by decide),fun h=>absurd h m.out⟩,q⟩
theorem ZK(v:Value)(n lo hi:Nat)(f g:Nat->Int)(x y:Int)(w:World)(c:BI w lo hi v n f g) :
 Calls Tryz.prog 178 #[v,.agg #[.int .i64 x,.int .i64 y]] w fun e w'=>AL (PIn n f g x y) e/\Below w.heap.size w w':=by
 have h:=A3 c;clear c;have b:=AC w (.cells #[.int .i64 x,.int .i64 y] 38);obtain⟨⟨k,-⟩,⟨l,-⟩⟩:=Ac.new w (.int .i64 x) (.int .i64 y) 38;go_enter Tryz.func178,Tryz.ntmps178;go_wp2_with fail;refine(zB5 v n lo hi f g x y _ (h.out.A0 b)).mono ?_;rintro e m ⟨r,rfl,d,a⟩;have i:=A3 d;have j:=A7 b a;clear d a k l b;go_wp2;go_ret;refine⟨⟨_,rfl,?_⟩,j⟩;have:=i.out;simp only[decide_eq_true_eq];exact this
theorem zBi(v:Value)(n lo hi:Nat)(f g:Nat->Int)(x y:Int)(T:Nat)(w:World)(i:BI w lo hi v n f g)(j:w.cell? ⟨T,0,none⟩=some v) :
 Calls Tryz.prog 177 #[.agg #[.int .i64 x,.int .i64 y],.pointer (some ⟨T,0,none⟩)] w fun e w'=>AL (PIn n f g x y) e/\Below w.heap.size w w':=by
 have l:=A3 i;obtain⟨s,a,c,rfl,t,-⟩:=id i;clear i;have h:=AC w (.cells #[.int .i64 x,.int .i64 y] 38);obtain⟨⟨q,-⟩,⟨r,-⟩⟩:=Ac.new w (.int .i64 x) (.int .i64 y) 38;have k:=(h.cell (p:=⟨T,0,none⟩) (AZ j)).trans j;clear j;go_enter Tryz.func177,Tryz.ntmps177;go_wp2_with fail;refine(ZK _ n lo hi f g x y _ (l.out.A0 h)).mono ?_;rintro e z ⟨⟨u,rfl,d⟩,b⟩;have m:=A3 d;have o:=A7 h b;clear d b q r h k;go_wp2;go_ret;exact⟨⟨_,rfl,m.out⟩,o⟩
theorem zB3(v:Value)(n lo hi:Nat)(f g:Nat->Int)(x y:Int)(T:Nat)(w:World)(i:BI w lo hi v n f g)(j:w.cell? ⟨T,0,none⟩=some v) :
 Calls Tryz.prog 179 #[.agg #[.int .i64 x,.int .i64 y],.pointer (some ⟨T,0,none⟩)] w fun e w'=>AL (PIn n f g x y) e/\Below w.heap.size w w':=by
 have l:=A3 i;obtain⟨s,a,c,rfl,t,-⟩:=id i;clear i;have h:=AC w (.cells #[.int .i64 x,.int .i64 y] 38);obtain⟨⟨q,-⟩,⟨r,-⟩⟩:=Ac.new w (.int .i64 x) (.int .i64 y) 38;have k:=(h.cell (p:=⟨T,0,none⟩) (AZ j)).trans j;clear j;go_enter Tryz.func179,Tryz.ntmps179;go_wp2_with fail;refine(ZK _ n lo hi f g x y _ (l.out.A0 h)).mono ?_;rintro e z ⟨⟨u,rfl,d⟩,b⟩;have m:=A3 d;have o:=A7 h b;clear d b q r h k;go_wp2;go_ret;exact⟨⟨_,rfl,m.out⟩,o⟩
theorem L1(q v1 b c:Value)(lo hi:Nat)(W:A4)(xs xb:Int)(w:World)(h:CE w lo hi q v1 b c W)(k:AY W.pool)(l:Ay W.pool xs xb) :
 Calls Tryz.prog 146 #[Cn q v1 b c W,.agg #[.int .i64 xs,.int .i64 xb]] w fun e w'=>∃v,e = .returned v/\At w' w.heap.size v (AF W.pool xs xb)/\Below w.heap.size w w':=by
 have t:=A3 h;have r:=A3 k;have s:=A3 (show Nil xs xb\/B5 W.pool xs xb from l.imp id (fun h=>h.1.1));obtain⟨D,f,c0,rfl,y,-⟩:=id h.pool.1;clear h k l;have o:=AC w (.cells #[.slice f W.pool.n c0,v1,.int .i64 W.time,.int .i64 W.next,b,c] 30);have i:=As.new w (.slice f W.pool.n c0) v1 (.int .i64 W.time) (.int .i64 W.next) b c 30;have x:(w.alloc (.cells #[.slice f W.pool.n c0,v1,.int .i64 W.time,.int .i64 W.next,b,c] 30)).heap.size=w.heap.size+1:=World.size_alloc _ _;have d:=AC (w.alloc (.cells #[.slice f W.pool.n c0,v1,.int .i64 W.time,.int .i64 W.next,b,c] 30)) (.cells #[.int .i64 xs,.int .i64 xb] 38);have m:=Ac.new (w.alloc (.cells #[.slice f W.pool.n c0,v1,.int .i64 W.time,.int .i64 W.next,b,c] 30)) (.int .i64 xs) (.int .i64 xb) 38;rw[x]at m;have a:=A7 o d;obtain⟨⟨z,-⟩,⟨A,-⟩,-⟩:=i.A0 d;obtain⟨⟨B,-⟩,⟨C,-⟩⟩:=m;clear i o d;go_enter Tryz.func146,Tryz.ntmps146;go_wp2_with fail;clear z A B C;generalize (w.alloc (.cells #[.slice f W.pool.n c0,v1,.int .i64 W.time,.int .i64 W.next,b,c] 30)).alloc (.cells #[.int .i64 xs,.int .i64 xb] 38)=W0 at a ⊢;refine(X6 W.pool r.out _ lo hi xs xb W0 (t.out.pool.1.A0 a) s.out).mono ?_;rintro e E ⟨v,rfl,p,g⟩;have u:=A3 p;have i:=A7 a g;have j:=a.size;clear p g;go_wp2;go_ret;exact⟨v,rfl,At.mono u.out j,i⟩
end Go.Proofs.YtehdoekmnicdiaaGreatDoor
