/- A part of the proof. -/
import Derived.Test.YtibhefllijahkaaGreatDoorF16
set_option linter.unusedVariables false
set_option maxRecDepth 20000
set_option maxHeartbeats 4000000
namespace Go.Proofs.YtibhefllijahkaaGreatDoor
open Go.RowKit Go.Maps
theorem zI3(s t:ByteArray):(s.toList == t.toList)=true↔s=t:=⟨fun h=>G9 (by simpa using h),fun h=>Lb h⟩
theorem zEL(a:Option Addr)(c:Nat)(s:AL)(name:ByteArray)(T:Nat)(w:World)(g:w.cell? ⟨T,0,none⟩=some (.string name)) :
 Calls Tryz.prog 165 #[DK (.slice a s.dn c) s,.pointer (some ⟨T,0,none⟩)] w fun e w'=>AG (s.set=name) e/\Below w.heap.size w w':=by
 unfold DK;have d:=A9 w (.cells #[.int .i64 s.id,.string s.name,.string s.set,.int .i64 s.A6,.int .i64 s.time,.int .i64 s.rs,.int .i64 s.rb,.slice a s.dn c] 41);have h:=(d.cell (p:=⟨T,0,none⟩) (AZ g)).trans g;obtain⟨⟨⟨i,-⟩,⟨j,-⟩,⟨k,-⟩,⟨l,-⟩⟩,-⟩:=Bu.new w (.int .i64 s.id) (.string s.name) (.string s.set) (.int .i64 s.A6) (.int .i64 s.time) (.int .i64 s.rs) (.int .i64 s.rb) (.slice a s.dn c) 41;clear g;have b:=A4 (zI3 s.set name);go_enter Tryz.func165,Tryz.ntmps165;go_wp2;go_ret;exact⟨⟨_,rfl,b.out⟩,d⟩
def F7(w:World)(base:Nat)(v:Value)(n:Nat):Prop:=∃xs,w.ownsRow base 41 8 v n xs
variable{w w1:World}{base n:Nat}{v:Value}
theorem F7.A0(h:F7 w base v n)(a:Below w.heap.size w w1):F7 w1 base v n:=by
 obtain⟨xs,h⟩:=h;exact⟨xs,h.kept (Dy a none) (by cases v.ownBlock<;>simp)⟩
theorem F7.lt(h:F7 w base v n){q:Nat}(a:v.ownBlock=some q):base<=q/\q<w.heap.size:=by
 obtain⟨xs,h⟩:=h;rcases h.2 with⟨rfl,_⟩ | ⟨g,cap,b,rfl,c,d,_⟩
 ·simp[Value.ownBlock]at a
 ·simp only[Value.ownBlock,Option.some.injEq]at a;subst a;exact⟨c,(Array.getElem?_eq_some_iff.1 d).1⟩
variable{row:Option Nat}
theorem F7.AH(h:F7 w base v n)(b:w.grownBy w1 row)(a:∀q,v.ownBlock=some q->row≠some q):F7 w1 base v n:=by
 obtain⟨xs,h⟩:=h;refine⟨xs,h.kept b ?_⟩;cases hv:v.ownBlock with
 | none=>simp
 | some q=>exact Or.inr (fun e=>a q hv e.symm)
theorem zDt:(Tryz.prog.info? 41).map (fun i=>(i.zero,i.size,i.bytes))=some (some (.agg #[.int .i64 0,.string ⟨#[]⟩,.string ⟨#[]⟩,.int .i64 0,.int .i64 0,.int .i64 0,.int .i64 0,.slice none 0 0]),8,96):=by kernel_rfl
def zJf(w w':World)(v v':Value)(n n':Nat):Prop:=F7 w' w.heap.size v n/\F7 w' w.heap.size v' n'/\(∀q,v.ownBlock=some q->v'.ownBlock≠some q)/\Below w.heap.size w w'
variable{g cap:Nat}{xs:List Value}
theorem Vi{w2:World}{n':Nat}{v':Value}(d:F7 w1 base v' n')(i:∀q,v.ownBlock=some q->v'.ownBlock≠some q)
 (a:w2.ownsRow base 41 8 (.slice (some ⟨g,0,none⟩) (n+1) cap) (n+1) xs) (j:w1.grownBy w2 v.ownBlock) (c:v.ownBlock=some g\/g=w1.heap.size) :
 F7 w2 base (.slice (some ⟨g,0,none⟩) (n+1) cap) (n+1)/\F7 w2 base v' n'/\(∀q,(Value.slice (some ⟨g,0,none⟩) (n+1) cap).ownBlock=some q->v'.ownBlock≠some q):=by
 refine⟨⟨xs,a⟩,d.AH j (fun q b e=>i q e b),fun q b e=>?_⟩;simp only[Value.ownBlock,Option.some.injEq]at b;subst b;rcases c with h | h
 ·exact i _ h e
 ·have:=(d.lt e).2;omega
theorem zBk(v:Value)(lo hi:Nat)(W:A5)(name:ByteArray)(T:Nat)(w:World)(h:DR w lo hi v W.pn W.A1)(hn:W.pn<=20)(hT:w.cell? ⟨T,0,none⟩=some (.string name)) :
 Calls Tryz.prog 164 #[v,.func (.func 165) #[] #[.pointer (some ⟨T,0,none⟩)]] w fun e w'=>∃a c vo,e = .returned (.tuple #[.slice a (ownN W name W.pn) c,vo])/\Below w.heap.size w w':=by
 have Hp:=A4 h;have HT:=A4 hT;obtain⟨m1,a,c,rfl,mc,-⟩:=id h;unfold maxLen at m1;clear h hT;obtain⟨i0,L,E⟩:=Option.map_eq_some_iff.1 zDt;simp only[Prod.mk.injEq]at E;have x:=A4 (And.intro L E);clear L E;have bB:∀(fn:Fn) (first cap:Array Value) (w:World),(Instr.makeFunc fn first cap).run Tryz.prog w = .ok (.func fn first cap) w:=fun _ _ _ _=>rfl
 go_enter Tryz.func164,Tryz.ntmps164;go_wp2
 go_loopw [6,7,12] (fun vy vo i wr=>∃k:Nat,k<=W.pn/\i = .int .i64 k/\zJf w wr vy vo (ownN W name k) (k - ownN W name k)) (fun _ _ i _=>W.pn - (intOf i).toNat)
 case atStart=>exact⟨0,Nat.zero_le _,rfl,⟨[],World.ownsRow_nil _ _ _ _⟩,⟨[],World.ownsRow_nil _ _ _ _⟩,fun q m=>by simp[Value.ownBlock]at m,Below.refl _ _⟩
 case round=>
  obtain⟨k,hk,rfl,hy,ho,K,V⟩:=hrel;have R:=A4 hy;have Ho:=A4 ho;have G:=A4 K;have fA:=Na W name k;clear hy ho K;by_cases X:k<W.pn
  ·have gA:(k:Int)<(W.pn:Int):=(by omega);obtain⟨b,off,vd,rfl,g⟩:=(Hp.out.A0 V).cells X;obtain⟨-,B,C,rfl,-,-⟩:=id g.dead;have u:=A9 wr (.cells #[.int .i64 (W.A1 k).id,.string (W.A1 k).name,.string (W.A1 k).set,.int .i64 (W.A1 k).A6,.int .i64 (W.A1 k).time,.int .i64 (W.A1 k).rs,.int .i64 (W.A1 k).rb,.slice B (W.A1 k).dn C] 41);have O:=A4 (Bu.new wr (.int .i64 (W.A1 k).id) (.string (W.A1 k).name) (.string (W.A1 k).set) (.int .i64 (W.A1 k).A6) (.int .i64 (W.A1 k).time) (.int .i64 (W.A1 k).rs) (.int .i64 (W.A1 k).rb) (.slice B (W.A1 k).dn C) 41);have D:=A7 V u;have F:=A4 ((D.cell (p:=⟨T,0,none⟩) (AZ HT.out)).trans HT.out);have q0:=g.c0;have q1:=g.c1;have q2:=g.c2;have q3:=g.c3;have q4:=g.c4;have q5:=g.c5;have q6:=g.c6;have q7:=g.c7;obtain⟨⟨⟨y0,-⟩,⟨y1,-⟩,⟨y2,-⟩,⟨y3,-⟩⟩,⟨y4,-⟩,⟨y5,-⟩,⟨y6,-⟩,⟨y7,-⟩⟩:=O.out;clear g;go_wp2_with fail;clear q0 q1 q2 q3 q4 q5 q6 q7 y0 y1 y2 y3 y4 y5 y6 y7;refine(zEL B C (W.A1 k) name T _ F.out).mono ?_;rintro e N ⟨⟨s,rfl,hs⟩,o⟩;have S:=A4 ((R.out.A0 u).A0 o);have Q:=A4 ((Ho.out.A0 u).A0 o);have P:=A4 (O.out.A0 o);have J:=A7 D o;clear o D u R Ho O F;have cB:=J.size;obtain⟨⟨⟨y0,-⟩,⟨y1,-⟩,⟨y2,-⟩,⟨y3,-⟩⟩,⟨y4,-⟩,⟨y5,-⟩,⟨y6,-⟩,⟨y7,-⟩⟩:=P.out;have r:=A9 N (.cells #[.int .i64 (W.A1 k).id,.string (W.A1 k).name,.string (W.A1 k).set,.int .i64 (W.A1 k).A6,.int .i64 (W.A1 k).time,.int .i64 (W.A1 k).rs,.int .i64 (W.A1 k).rb,.slice B (W.A1 k).dn C] 41);have A:=A4 (S.out.A0 r);have y:=A4 (Q.out.A0 r);have t:=A7 J r;have eB:=r.size;have HN:=A4 (World.news_of_block (heap_alloc_last N (.cells #[.int .i64 (W.A1 k).id,.string (W.A1 k).name,.string (W.A1 k).set,.int .i64 (W.A1 k).A6,.int .i64 (W.A1 k).time,.int .i64 (W.A1 k).rs,.int .i64 (W.A1 k).rb,.slice B (W.A1 k).dn C] 41)));clear r;by_cases m:(W.A1 k).set=name
   ·obtain rfl:s=true:=hs.2 m;have I:=A4 (Np m);clear hs m;obtain⟨xs,j⟩:=A.out;have z:=A4 j;clear j;go_wp2_with (first
     | (at_builtin;refine wpList_append_lies _ rfl _ _ 28 rfl w.heap.size 41 i0 (.agg #[.int .i64 0,.string ⟨#[]⟩,.string ⟨#[]⟩,.int .i64 0,.int .i64 0,.int .i64 0,.int .i64 0,.slice none 0 0]) 8 96 (by kernel_rfl) x.out.1 x.out.2.1 x.out.2.2.1 x.out.2.2.2 rfl (by decide) _ _ _ rfl z.out ⟨N.heap.size,0,none⟩ 1 1 [.int .i64 (W.A1 k).id,.string (W.A1 k).name,.string (W.A1 k).set,.int .i64 (W.A1 k).A6,.int .i64 (W.A1 k).time,.int .i64 (W.A1 k).rs,.int .i64 (W.A1 k).rb,.slice B (W.A1 k).dn C] rfl rfl HN.out (by simp[Value.oneCell']) (by decide) (by unfold maxLen;omega) (by omega) (by omega) _ rfl ?_;intro g' H w4 l d n M)
     | go_in)
    go_roundw
    case rel=>
     obtain⟨r1,Y,Z⟩:=Vi y.out G.out l d n;refine⟨k+1,by omega,by go_num,by rw[I.out];exact r1,?_,Z,t.grown d t.size (fun q m=>(A.out.lt m).1)⟩;rw[I.out,show k+1 - (ownN W name k+1)=k - ownN W name k by omega];exact Y
    case measure=>simp[intOf];omega
   ·obtain rfl:s=false:=Bc hs m;have I:=A4 (Lt m);clear hs m;obtain⟨xs,j⟩:=y.out;have z:=A4 j;clear j;go_wp2_with (first
     | (at_builtin;refine wpList_append_lies _ rfl _ _ 28 rfl w.heap.size 41 i0 (.agg #[.int .i64 0,.string ⟨#[]⟩,.string ⟨#[]⟩,.int .i64 0,.int .i64 0,.int .i64 0,.int .i64 0,.slice none 0 0]) 8 96 (by kernel_rfl) x.out.1 x.out.2.1 x.out.2.2.1 x.out.2.2.2 rfl (by decide) _ _ _ rfl z.out ⟨N.heap.size,0,none⟩ 1 1 [.int .i64 (W.A1 k).id,.string (W.A1 k).name,.string (W.A1 k).set,.int .i64 (W.A1 k).A6,.int .i64 (W.A1 k).time,.int .i64 (W.A1 k).rs,.int .i64 (W.A1 k).rb,.slice B (W.A1 k).dn C] rfl rfl HN.out (by simp[Value.oneCell']) (by decide) (by unfold maxLen;omega) (by omega) (by omega) _ rfl ?_;intro g' H w4 l d n M)
     | go_in)
    go_roundw
    case rel=>
     obtain⟨r1,Y,Z⟩:=Vi A.out (fun q h U=>G.out q U h) l d n;refine⟨k+1,by omega,by go_num,by rw[I.out];exact Y,?_,fun q h U=>Z q U h,t.grown d t.size (fun q m=>(y.out.lt m).1)⟩;rw[I.out,show k+1 - ownN W name k=k - ownN W name k+1 by omega];exact r1
    case measure=>simp[intOf];omega
  ·obtain rfl:k=W.pn:=(by omega);obtain⟨xs,j⟩:=R.out;obtain⟨ay,cy,rfl,-⟩:=CV j;clear j;go_wp2
   go_ret2
   exact⟨ay,cy,_,rfl,V⟩
variable{W:A5}{name:ByteArray}
theorem zg(a:name.toList.isEmpty=false)(y:Int):(AC W y).set=name↔Ev W name y:=by
 constructor
 ·intro h;by_cases c:∃k,B5 W y k
  ·obtain⟨k,b⟩:=c;rw[CM b]at h;exact⟨k,b,h⟩
  ·have e:AC W y=Ap:=(by unfold AC;rw[dif_neg c]);rw[e]at h;rw[<-h]at a;have d:Ap.set.toList = []:=(by rw[Go.ByteArray.toList_eq];rfl);rw[d]at a;exact absurd a (by decide)
 ·rintro⟨k,b,h⟩;rw[CM b];exact h
variable{start:Int}
theorem Eh.wf{y:Int}(h:Eh W name start n y):(Lit.int .i64 y).wf=true:=by
 have a:=h.least;have b:=h.sum;exact WalkArith.wf_i64 (by omega)
theorem zCf(s v1 t p:Value)(lo hi:Nat)(W:A5)(A:Nat)(R:Option Addr)(sc:Nat)(S:AM)(w:World)(h:BR w lo hi s v1 t p W)(X:W.pn<=20)(hA:Fj w lo hi W A)(hD:Iv W)(hP:EQ W)(P:S.name.toList.isEmpty=false)(hS:S.A6=0\/Ba W S.A6) :
 Calls Tryz.prog 124 #[BS s v1 t p W,Dh (.slice R S.dn sc) S,Kb A] w fun e w'=>AG (Fd W S.name S.A6 S.origin) e/\Below w.heap.size w w':=by
 unfold Dh;have Hp:=A4 h;have HA:=A4 hA;have HD:=A4 hD;have HP:=A4 hP;have q:=A4 (zg (W:=W) P);have eA:=A4 hS;clear h hA hD hP P hS;have lB:∀(fn:Fn) (first cap:Array Value) (w:World),(Instr.makeFunc fn first cap).run Tryz.prog w = .ok (.func fn first cap) w:=fun _ _ _ _=>rfl
 have ha:=A9 w (.cells #[s,v1,.int .i64 W.time,.int .i64 W.next,t,p] 30);have hB:=Aj.new w s v1 (.int .i64 W.time) (.int .i64 W.next) t p 30;have hz:(w.alloc (.cells #[s,v1,.int .i64 W.time,.int .i64 W.next,t,p] 30)).heap.size=w.heap.size+1:=World.size_alloc _ _;have C:=A9 (w.alloc (.cells #[s,v1,.int .i64 W.time,.int .i64 W.next,t,p] 30)) (.cells #[.string S.name,.int .i64 S.origin,.int .i64 S.A6,.int .i64 S.rs,.int .i64 S.rb,.slice R S.dn sc] 44);have F:=Aj.new (w.alloc (.cells #[s,v1,.int .i64 W.time,.int .i64 W.next,t,p] 30)) (.string S.name) (.int .i64 S.origin) (.int .i64 S.A6) (.int .i64 S.rs) (.int .i64 S.rb) (.slice R S.dn sc) 44;rw[hz]at F;have d:=A4 F;have m:=A7 ha C;obtain⟨x0,x2,x4,x6,x8,lA⟩:=(hB.A0 C).c;clear F ha C hB;go_enter Tryz.func124,Tryz.ntmps124;go_wp2_with fail;clear x0 x2 x4 x6 x8 lA;generalize (w.alloc (.cells #[s,v1,.int .i64 W.time,.int .i64 W.next,t,p] 30)).alloc (.cells #[.string S.name,.int .i64 S.origin,.int .i64 S.A6,.int .i64 S.rs,.int .i64 S.rb,.slice R S.dn sc] 44)=W0 at d m ⊢;refine(zBk p lo hi W S.name (w.heap.size+1) W0 (Hp.out.A1.A0 m) X d.out.1.1).mono ?_;rintro e w1 ⟨ay,cy,vo,rfl,D⟩;have u:=A4 (d.out.A0 D);have M:=A7 m D;have nB:=Na W S.name W.pn;clear d m D hz;obtain⟨⟨Z,-⟩,⟨y1,-⟩,⟨y2,-⟩,-⟩:=u.out;go_wp2;clear Z y1 y2;generalize w.heap.size+1=T at *
 go_loopw [9,10] (fun x i wr=>∃(n:Nat) (y:Int),i = .int .i64 n/\x = .int .i64 y/\Eh W S.name S.A6 n y/\Aj wr T (.string S.name) (.int .i64 S.origin) (.int .i64 S.A6) (.int .i64 S.rs) (.int .i64 S.rb) (.slice R S.dn sc)/\Below w.heap.size w wr) (fun x _ _=>(intOf x).toNat)
 case atStart=>exact⟨0,_,rfl,rfl,Eh.start HP.out _ eA.out,u.out,M⟩
 case round=>
  clear u M;obtain⟨n,y,rfl,rfl,Q,F,N⟩:=hrel;have d:=A4 F;have Hw:=A4 Q;have z:=A4 Q.wf;have cB:=Q.sum;have kB:=Q.least;clear F Q;have k:=A4 (HA.out.A0 N);obtain⟨⟨Z,-⟩,⟨y1,-⟩,-⟩:=d.out;by_cases G:(AC W y).set=S.name
  ·obtain⟨Y,g,O⟩:=(q.out y).1 G;have J:=A4 (Hw.out.next HP.out g O);have gA:=A4 (show(W.A1 Y).A6<y by have r:=HP.out.less Y g.1;have B:=g.2.1;omega);have jA:=A4 (show(AC W y).A6=(W.A1 Y).A6 by rw[CM g]);have Hq:=A4 G;clear g O G;go_wp2_with fail;go_region_held3 (fun w'=>w'.cell? ⟨T,0,none⟩=some (.string S.name)) (go_keep)
    (first | (go_at_call 122;refine(Jy lo hi W A y _ ?_ HD.out z.out X).mono ?_;(exact k.out.A0 (Below.refl _ _).drew);rintro e w6 ⟨U,V,rfl,j,a⟩;have o:=fun w=>(show(Instr.field 41 (DK (.slice U (AC W y).dn V) (AC W y)) 2).run Tryz.prog w = .ok (.string S.name) w by rw[<-Hq.out];exact(Og (.slice U (AC W y).dn V) (AC W y) w).2.1);obtain⟨⟨z0,_⟩,_⟩:=d.out.A0 (Cp a)))
   have l:=A4 (d.out.A0 (Cp a));have b:=RM N a;have H:=A4 (HA.out.A0 b);have mB:(n:Int)<1000000:=(by omega);clear a j o z0 Z y1 d k N;go_wp2_with fail;refine(Jy lo hi W A y _ H.out HD.out z.out X).mono ?_;rintro e w7 ⟨K,L,rfl,j,E⟩;have o:=fun w=>(show(Instr.field 41 (DK (.slice K (AC W y).dn L) (AC W y)) 3).run Tryz.prog w = .ok (.int .i64 (W.A1 Y).A6) w by rw[<-jA.out];exact(Og (.slice K (AC W y).dn L) (AC W y) w).2.2.1)
   have fA:=A4 (l.out.A0 E);have kA:=A7 b E;clear j E l b H;go_wp2;go_roundw
   case rel=>exact⟨n+1,_,by go_num,rfl,J.out,fA.out,kA⟩
   case measure=>simp[intOf];have:=gA.out;have:=J.out.least;omega
  ·have iA:=A4 (fun h=>G ((q.out y).2 h));have f1:=KY G;clear G;go_wp2_with fail;go_region_held3 (fun w'=>w'.cell? ⟨T,0,none⟩=some (.string S.name)) (go_keep)
    (first | (go_at_call 122;refine(Jy lo hi W A y _ ?_ HD.out z.out X).mono ?_;(exact k.out.A0 (Below.refl _ _).drew);rintro e w6 ⟨U,V,rfl,j,a⟩;have o:=fun w=>(Og (.slice U (AC W y).dn V) (AC W y) w).2.1;obtain⟨⟨z0,_⟩,_⟩:=d.out.A0 (Cp a)))
   have l:=A4 (d.out.A0 (Cp a));have b:=RM N a;clear a j o z0 Z y1 d k N f1;obtain⟨⟨z0,-⟩,⟨z1,-⟩,-⟩:=l.out;have v:=A4 (VF (origin:=S.origin) Hw.out.steps iA.out);by_cases r:n=ownN W S.name W.pn
   ·by_cases B:y=S.origin
    ·have I:=A4 (v.out.2 ⟨r,B⟩);have g1:((n:Int) == (ownN W S.name W.pn:Int))=true:=(by simp[r]);have g2:(y == S.origin)=true:=(by simp[B]);clear r B;go_wp2;go_ret;exact⟨AG.yes I.out,b⟩
    ·have I:=A4 (fun h=>B (v.out.1 h).2);have g1:((n:Int) == (ownN W S.name W.pn:Int))=true:=(by simp[r]);have g2:(y == S.origin)=false:=(by simp[B]);clear r B;go_wp2;go_ret;exact⟨AG.no I.out,b⟩
   ·have I:=A4 (fun h=>r (v.out.1 h).1);have h3:¬(n:Int)=(ownN W S.name W.pn:Int):=(by omega);have g1:((n:Int) == (ownN W S.name W.pn:Int))=false:=(by simp[h3]);clear r h3;go_wp2;go_ret;exact⟨AG.no I.out,b⟩
theorem zCw(s v1 U t:Value)(lo hi:Nat)(W:A5)(A:Nat)(w:World)(h:BR w lo hi s v1 U t W)(Z:W.pn<=20)(hs:W.sn<=8)(r:Fj w lo hi W A)(P:Iv W)(Q:EQ W) :
 Calls Tryz.prog 76 #[BS s v1 U t W,Kb A] w fun e w'=>AG (∀i,i<W.sn->Fd W (W.A3 i).name (W.A3 i).A6 (W.A3 i).origin) e/\Below w.heap.size w w':=by
 have O:=A4 h;have V:=A4 r;have X:=A4 P;have B:=A4 Q;obtain⟨m2,E,c',rfl,bA,-⟩:=id h.A3;unfold maxLen at m2;clear h r P Q;have S:=A9 w (.cells #[s,v1,.int .i64 W.time,.int .i64 W.next,.slice E W.sn c',t] 30);have z:=A4 (Aj.new w s v1 (.int .i64 W.time) (.int .i64 W.next) (.slice E W.sn c') t 30);obtain⟨H,I,J,K,L,q⟩:=z.out.c;go_enter Tryz.func76,Tryz.ntmps76;go_wp2;clear H I J K L q
 go_loopw [10] (fun i wr=>∃k:Nat,k<=W.sn/\i = .int .i64 k/\(∀j,j<k->Fd W (W.A3 j).name (W.A3 j).A6 (W.A3 j).origin)/\Aj wr w.heap.size s v1 (.int .i64 W.time) (.int .i64 W.next) (.slice E W.sn c') t/\Below w.heap.size w wr) (fun i _=>W.sn - (intOf i).toNat)
 case atStart=>exact⟨0,Nat.zero_le _,rfl,fun j Y=>absurd Y (Nat.not_lt_zero _),z.out,S⟩
 case round=>
  clear z S;obtain⟨k,hk,rfl,m,R,y⟩:=hrel;have l:=A4 m;have N:=A4 R;clear m R;by_cases d:k<W.sn;rotate_left
  ·obtain rfl:k=W.sn:=(by omega);go_wp2;go_ret;exact⟨AG.yes l.out,y⟩
  have T:(k:Int)<(W.sn:Int):=(by omega);obtain⟨b,off,vd,rfl,a⟩:=(O.out.A3.A0 y).cells d;obtain⟨-,F,G,rfl,-,-⟩:=id a.dead;have p:=A9 wr (.cells #[.string (W.A3 k).name,.int .i64 (W.A3 k).origin,.int .i64 (W.A3 k).A6,.int .i64 (W.A3 k).rs,.int .i64 (W.A3 k).rb,.slice F (W.A3 k).dn G] 44);have M:=A4 (Aj.new wr (.string (W.A3 k).name) (.int .i64 (W.A3 k).origin) (.int .i64 (W.A3 k).A6) (.int .i64 (W.A3 k).rs) (.int .i64 (W.A3 k).rb) (.slice F (W.A3 k).dn G) 44);have n:=A4 (N.out.A0 p);have g:=A7 y p;have q0:=a.c0;have q1:=a.c1;have q2:=a.c2;have q3:=a.c3;have q4:=a.c4;have q5:=a.c5;obtain⟨y0,y1,y2,y3,y4,y5⟩:=M.out.c;obtain⟨H,I,J,K,L,q⟩:=n.out.c;clear a p;go_wp2_with fail;clear q0 q1 q2 q3 q4 q5 y0 y1 y2 y3 y4 y5 H I J K L q N y M;refine(zCf s v1 _ t lo hi W A F G (W.A3 k) _ (O.out.A0 g) Z (V.out.A0 g) X.out B.out (B.out.AX k d) (B.out.A3 k d)).mono ?_;rintro e w6 ⟨⟨t6,rfl,v⟩,o⟩;have C:=A4 (n.out.A0 o);have u:=A7 g o;have x:=A4 v;clear v o g n;cases t6
  ·have D:=A4 (show ¬Fd W (W.A3 k).name (W.A3 k).A6 (W.A3 k).origin from fun r=>absurd (x.out.2 r) (by simp));clear x;go_wp2;go_ret;exact⟨AG.no fun r=>D.out (r k d),u⟩
  ·have D:=A4 (x.out.1 rfl);clear x;go_wp2;go_roundw
   case rel=>exact⟨k+1,by omega,by go_num,Bf d l.out D.out,C.out,u⟩
   case measure=>simp[intOf];omega
structure C6 (W:A5):Prop where
 time:Kc W.time 1 900000
 next:Kc W.next 1 900000
 A3:JQ W.sn W.A3
 A1:Zf W
structure CF (W:A5):Prop where
 AX:C6 W
 right:Ag W.pool
 prevs:∀i,i<memN W->JW W i
 lines:∀i,i<W.sn->Fd W (W.A3 i).name (W.A3 i).A6 (W.A3 i).origin
 trees:Zg W
 homes:M2 W
theorem C6.range(h:C6 W):∀i,i<W.pn->1<=(W.A1 i).id/\(W.A1 i).id<W.next/\1<=(W.A1 i).time/\(W.A1 i).time<W.time
 | 0,hi=>by
  have:=(h.A1.2.1 0 hi).2.2.2;have a:Mid 0 (W.A1 0).id W.next:=this.1;have b:Mid 0 (W.A1 0).time W.time:=this.2;have c:=a.1;have d:=a.2;have e:=b.1;have g:=b.2;omega
 | i+1,hi=>by
  have j:=h.range i (by omega);have:=(h.A1.2.1 (i+1) hi).2.2.2;have a:Mid (W.A1 i).id (W.A1 (i+1)).id W.next:=this.1;have b:Mid (W.A1 i).time (W.A1 (i+1)).time W.time:=this.2;have c:=a.1;have d:=a.2;have e:=b.1;have g:=b.2;omega
theorem C6.rise(h:C6 W):∀i,i<W.pn->∀j,j<i->(W.A1 j).id<(W.A1 i).id
 | 0,_,j,hj=>absurd hj (Nat.not_lt_zero _)
 | i+1,hi,j,hj=>by
  have b:Mid (W.A1 i).id (W.A1 (i+1)).id W.next:=(h.A1.2.1 (i+1) hi).2.2.2.1;have a:=b.1;by_cases e:j=i
  ·subst e;exact a
  ·have:=h.rise i (by omega) j (by omega);omega
theorem C6.dist(h:C6 W):Iv W:=fun i hi j a e=>by have:=h.rise i hi j a;omega
theorem C6.idsWf(h:C6 W):SA W.pn W.A1:=fun i hi=>by
 have a:=h.range i hi;have b:=h.next.2;exact WalkArith.wf_i64 (by omega)
theorem C6.times(h:C6 W):Pw W:=fun x=>by
 by_cases b:∃k,B5 W x k
 ·obtain⟨k,a⟩:=b;rw[CM a];have c:=h.range k a.1;have d:=h.time.2;exact⟨by omega,by omega⟩
 ·have:AC W x=Ap:=(by unfold AC;rw[dif_neg b]);rw[this];exact⟨Int.le_refl _,by decide⟩
theorem QN{i:Nat}(c:NL W):JW W i↔((AB W i).A6=0\/Ba W (AB W i).A6):=by
 unfold JW;constructor
 ·intro h;by_cases b:∃k,B5 W (AB W i).A6 k
  ·obtain⟨k,a⟩:=b;exact Or.inr ⟨k,a.1,a.2.1⟩
  ·have e:AC W (AB W i).A6=Ap:=(by unfold AC;rw[dif_neg b]);rw[e]at h;exact Or.inl h.symm
 ·rintro(h | h)
  ·rw[h,Oi (fun k a e=>by have:=c k a;omega)];rfl
  ·obtain⟨k,a⟩:=h.no;rw[CM a];exact a.2.1
theorem C6.DG(h:C6 W)(b:∀i,i<memN W->JW W i):EQ W where
 ids:=fun k a=>by have c:=h.range k a;have d:=h.next.2;omega
 A6:=fun k a=>by
  have:=(QN (fun k a=>(h.range k a).1)).1 (b k (by unfold memN;omega));rw[CU a]at this;exact this
 less:=fun k a=>(h.A1.2.1 k a).2.2.1
 A3:=fun k a=>by
  have:=(QN (fun k a=>(h.range k a).1)).1 (b (W.pn+k) (by unfold memN;omega));rw[DN]at this;exact this
 AX:=fun k a=>Ru (h.A3.2 k a).1
theorem zBM(h:EQ W)(hs:start=0\/Ba W start):∀{n:Nat} {e:Int},Steps W name start n e->(e=0\/Ba W e)
 | 0,_,.zero=>hs
 | n+1,_,.next (k:=k) _ hk _=>h.A6 k hk.1
variable{f:Nat->AM}
theorem Y2{i:Nat}(hn:BK (f i).name):BF (Ee f i) (f i).name↔(0<i->BF (f (i - 1)).name (f i).name):=by
 cases i with
 | zero=>
  refine⟨fun _ h=>absurd h (by omega),fun _=>?_⟩;have b:=Ru hn;unfold BF Ee;have c:(⟨#[]⟩:ByteArray).toList = []:=(by rw[Go.ByteArray.toList_eq]);rw[c];cases hl:(f 0).name.toList with
  | nil=>rw[hl]at b;exact absurd b (by decide)
  | cons a l=>simp[Op.bytesLess]
 | succ i=>exact⟨fun h _=>h,fun h=>h (by omega)⟩
theorem GD(W:A5):CF W↔Ak W:=by
 constructor
 ·intro h;have a:=h.AX.DG h.prevs;have r:Cm W:=by
   refine⟨h.AX.time,h.AX.next,h.AX.A3.1,h.AX.A1.1,fun i hi=>?_,fun i hi=>?_⟩
   ·have hs:=h.AX.A3.2 i hi;refine⟨hs.1,(Y2 hs.1).1 hs.2,fun d=>(a.A3 i hi).resolve_left d,fun d=>?_⟩;obtain⟨n,e,q,_,_,rfl⟩:=h.lines i hi;exact(zBM a (a.A3 i hi) q).resolve_left d
   ·have hs:=h.AX.A1.2.1 i hi;have m:=h.AX.range i hi;refine⟨⟨m.1,m.2.1,m.2.2.1,m.2.2.2,hs.2.1,hs.1⟩,⟨fun s=>?_,fun d=>⟨hs.2.2.1,(a.A6 i hi).resolve_left d⟩⟩,fun k p=>h.AX.A1.2.2 i hi k p⟩;cases i with
    | zero=>omega
    | succ i=>exact⟨hs.2.2.2.1.1,hs.2.2.2.2.1⟩
  have b:Eg W:=Nu h.right r (fun i hi=>by have:=h.trees.1 i (by unfold memN;omega);rw[CU hi]at this;exact this) (fun i hi=>by have:=h.trees.1 (W.pn+i) (by unfold memN;omega);rw[DN]at this;exact this);have c:∀i,i<memN W->KU W (AB W i):=fun i hi=>(Xr b hi).1 (h.trees.2 i hi)
  have g:=(Vs b (fun j o=>by have:=a.pos j o;omega) c).1 h.homes;exact⟨h.right,r,h.lines,fun i hi=>b.snap hi,fun i hi=>⟨b.set hi,(c (W.pn+i) (by unfold memN;omega)).1⟩,fun i hi=>(c i (by unfold memN;omega)).1,g.1,fun i hi=>(c i hi).2,g.2⟩
 ·intro h;have a:=h.AX.DG;have b:Eg W:=Nu h.right h.AX h.A1 (fun i hi=>(h.A3 i hi).1);have c:∀i,i<memN W->KU W (AB W i):=fun i hi=>by
   refine⟨?_,h.born i hi⟩;by_cases l:i<W.pn
   ·exact h.dead i l
   ·have:=(h.A3 (i - W.pn) (by unfold memN at hi;omega)).2;rw[show W.pn+(i - W.pn)=i by omega]at this;exact this
  have g:=(Vs b (fun j o=>by have:=a.pos j o;omega) c).2 ⟨h.reach,h.Bi⟩;refine⟨⟨h.AX.1,h.AX.2.1,⟨h.AX.2.2.1,fun i hi=>?_⟩,⟨h.AX.2.2.2.1,fun i hi=>?_,fun i hi k p=>(h.AX.2.2.2.2.2 i hi).2.2 k p⟩⟩,h.right,fun i hi=>?_,h.lines,⟨b.tree,fun i hi=>(Xr b hi).2 (c i hi)⟩,g⟩
  ·have hs:=h.AX.2.2.2.2.1 i hi;exact⟨hs.1,(Y2 hs.1).2 hs.2.1⟩
  ·have hs:=h.AX.2.2.2.2.2 i hi;refine⟨hs.1.2.2.2.2.2,hs.1.2.2.2.2.1,a.less i hi,?_,?_⟩
   ·cases i with
    | zero=>exact⟨by have:=hs.1.1;show(0:Int)<_;omega,hs.1.2.1⟩
    | succ i=>exact⟨(hs.2.1.1 (by omega)).1,hs.1.2.1⟩
   ·cases i with
    | zero=>exact⟨by have:=hs.1.2.2.1;show(0:Int)<_;omega,hs.1.2.2.2.1⟩
    | succ i=>exact⟨(hs.2.1.1 (by omega)).2,hs.1.2.2.2.1⟩
  ·refine(QN a.pos).2 ?_;by_cases l:i<W.pn
   ·rw[CU l];exact a.A6 i l
   ·have e:=DN W (i - W.pn);rw[show W.pn+(i - W.pn)=i by omega]at e;rw[e];exact a.A3 _ (by unfold memN at hi;omega)
def KH(w:World)(b:Nat)(v0 v1 v2 v3 v4 v5 v6 v7:Value):Prop:=AJ w b 0 v0/\AJ w b 1 v1/\AJ w b 2 v2/\AJ w b 3 v3/\AJ w b 4 v4/\AJ w b 5 v5/\AJ w b 6 v6/\AJ w b 7 v7
variable{w':World}{v0 v1 v2 v3:Value}
theorem KH.A0{b:Nat}{v4 v5 v6 v7:Value}(h:KH w b v0 v1 v2 v3 v4 v5 v6 v7)(t:Below w.heap.size w w'):KH w' b v0 v1 v2 v3 v4 v5 v6 v7:=⟨h.1.A0 t,h.2.1.A0 t,h.2.2.1.A0 t,h.2.2.2.1.A0 t,h.2.2.2.2.1.A0 t,h.2.2.2.2.2.1.A0 t,h.2.2.2.2.2.2.1.A0 t,h.2.2.2.2.2.2.2.A0 t⟩
theorem KH.new(w:World)(b v1 c d e g h i:Value)(t:TypeId):KH (w.alloc (.cells #[b,v1,c,d,e,g,h,i] t)) w.heap.size b v1 c d e g h i:=by
 have a:(w.alloc (.cells #[b,v1,c,d,e,g,h,i] t)).heap[w.heap.size]?=some (.cells #[b,v1,c,d,e,g,h,i] t):=heap_alloc_new _ _;exact⟨B2 a rfl,B2 a rfl,B2 a rfl,B2 a rfl,B2 a rfl,B2 a rfl,B2 a rfl,B2 a rfl⟩
variable{P:Program}
theorem zDO{c:Array Oper}{rest:List Oper}{o:Oper}{a:Act}{Q:Exit->Act->World->Prop}(d:o.guard=none)(s x:Operand)(t:TypeId)
 (i:o.op = .call {callee:=.builtin .append,args:=#[s,x],argTypes:=#[t,t]}) (vs g e:Value) (hs:a.eval s=vs) (j:a.eval x=g) (b:(Builtin.append_ #[t,t] o.type #[vs,g]).run P w = .ok e w1)
 (h:wpList P c Q rest (a.put o.dst e) w1):wpList P c Q (o :: rest) a w:=by
 refine wpList_plain d fun K hK=>?_
 unfold Oper.wp;simp[execOp,i,resolve,invoke,builtin,hs,j,b,Result.andThen];exact hK _ _ h
def Js:AM:=⟨⟨#[]⟩,0,0,0,0,0,fun _=>0,fun _=>0⟩
open Classical in
noncomputable def Am(W:A5)(x:ByteArray):AM:=if h:∃k,Bl W x k then W.A3 h.choose else Js
variable{x:ByteArray}{k:Nat}
theorem Kv(h:Bl W x k):Am W x=W.A3 k:=by
 have a:∃k,Bl W x k:=⟨k,h⟩;unfold Am;rw[dif_pos a,a.choose_spec.uniq h]
theorem UO{W:A5}{x:ByteArray}:∀{n:Nat},n<=W.sn->(∃i,i<n/\(W.A3 i).name=x)->∃k,Bl W x k
 | 0,_,⟨i,hi,_⟩=>absurd hi (Nat.not_lt_zero _)
 | n+1,hn,⟨i,hi,e⟩=>by
  by_cases a:∃j,j<n/\(W.A3 j).name=x
  ·exact UO (by omega) a
  ·have:i=n:=by
    by_cases h:i=n
    ·exact h
    ·exact absurd ⟨i,by omega,e⟩ a
   subst this;exact⟨i,by omega,e,fun j c b=>a ⟨j,c,b⟩⟩
def RC(W:A5):Prop:=∀i,i<W.sn->∀j,j<i->(W.A3 j).name≠(W.A3 i).name
theorem Cm.rise{W:A5}(h:Cm W):∀i,i<W.sn->∀j,j<i->BF (W.A3 j).name (W.A3 i).name
 | 0,_,j,hj=>absurd hj (Nat.not_lt_zero _)
 | i+1,hi,j,hj=>by
  have a:BF (W.A3 i).name (W.A3 (i+1)).name:=(h.2.2.2.2.1 (i+1) hi).2.1 (by omega);by_cases e:j=i
  ·subst e;exact a
  ·exact QZ _ _ _ (Cm.rise h i (by omega) j (by omega)) a
theorem Cm.dist(h:Cm W):RC W:=fun i hi j a e=>by
 have:=h.rise i hi j a;unfold BF at this;rw[e,OB]at this;exact absurd this (by simp)
variable{lo hi:Nat}
theorem Ov{vd:Nat->Value}(q:RC W)(r:MJ w lo hi W.sn W.A3 vd)(x:ByteArray):∃a c,(putD (fun i=>CS (W.A3 i).name) (fun i=>Dh (vd i) (W.A3 i)) W.sn).atKey (CS x) (.held (.agg #[.string ⟨#[]⟩,.int .i64 0,.int .i64 0,.int .i64 0,.int .i64 0,.slice none 0 0])) = .held (Dh (.slice a (Am W x).dn c) (Am W x))/\B4 w lo hi (.slice a (Am W x).dn c) (Am W x).dn (Am W x).ds (Am W x).db:=by
 have l:GU (fun i=>CS (W.A3 i).name):=fun i=>QU _
 by_cases g:∃k,Bl W x k
 ·obtain⟨k,b⟩:=g;rw[Kv b];have m:=r k b.1;obtain⟨_,a,c,hv,_⟩:=id m;refine⟨a,c,?_,by rw[<-hv];exact m⟩;have:=Nc l (fun i=>Dh (vd i) (W.A3 i)) (.held (.agg #[.string ⟨#[]⟩,.int .i64 0,.int .i64 0,.int .i64 0,.int .i64 0,.slice none 0 0])) W.sn k b.1 (fun j o p e=>q j p k o (QT e).symm);rw[b.2.1]at this;rw[this,hv]
 ·have e:Am W x=Js:=(by unfold Am;rw[dif_neg g]);rw[e];refine⟨none,0,?_,⟨Nat.zero_le _,none,0,rfl,Nat.le_refl _,fun h=>absurd h (by simp[Js])⟩⟩;refine OL l _ (fun i d n=>?_) _;exact g (UO (Nat.le_refl _) ⟨i,d,QT n⟩)
def Bd(p:A8):List (Int×Int)->A8
 | []=>p
 | x :: l=>Bd (G6 p x.1) l
def Lm(p:A8)(l:List (Int×Int)):Prop:=Ag p/\(∀x,x∈l->BM p x.1 x.2/\¬Has p.hn p.h x.1)/\(l.map Prod.fst).Nodup
theorem Rp(x:Int×Int):∀(l:List (Int×Int)) (p:A8),Bd p (l ++ [x])=G6 (Bd p l) x.1
 | [],_=>rfl
 | y :: l,p=>Rp x l (G6 p y.1)
theorem Ft:∀(l:List (Int×Int)) (p:A8),(Bd p l).n=p.n/\(Bd p l).s=p.s/\(Bd p l).hn=p.hn+l.length
 | [],_=>⟨rfl,rfl,rfl⟩
 | y :: l,p=>by
  obtain⟨a,b,c⟩:=Ft l (G6 p y.1);refine⟨a,b,?_⟩;show(Bd (G6 p y.1) l).hn=_;rw[c,List.length_cons];show p.hn+1+l.length=_;omega
theorem R3(f g:Nat->Int)(t:Int):∀k,(Bz f g t k).Sublist ((List.range k).map fun i=>(f i,g i))
 | 0=>List.Sublist.refl _
 | k+1=>by
  rw[List.range_succ,List.map_append,List.map_singleton];unfold Bz;split
  ·exact(R3 f g t k).append (List.Sublist.refl _)
  ·exact(R3 f g t k).trans (List.sublist_append_left _ _)
theorem Lm.sub{p:A8}{l l':List (Int×Int)}(h:Lm p l)(hs:l'.Sublist l):Lm p l':=⟨h.1,fun x a=>h.2.1 x (hs.subset a),List.Nodup.sublist (hs.map _) h.2.2⟩
def CE(w:World)(e:TypeId)(s:Nat)(v:Value)(n:Nat):Prop:=
 (n=0/\∃a,v = .slice a 0 0)\/(0<n/\∃g cap cur,v = .slice (some ⟨g,0,none⟩) n cap/\w.heap[g]?=some (.cells cur e (0,0))/\n<=cap/\cap<=maxLen/\cur.size=cap*s)
variable{e:TypeId}{s:Nat}
theorem IM(h:w.ownsRow base e s v n xs)(l:n=0->∃a,v = .slice a 0 0):CE w e s v n:=by
 rcases Nat.eq_zero_or_pos n with b | b
 ·exact Or.inl ⟨b,l b⟩
 ·rcases h.2 with h | ⟨g,cap,c,hv,_,k,d,i,j,_⟩
  ·omega
  ·exact Or.inr ⟨b,g,cap,c,hv,k,d,i,j⟩
theorem CE.A0(h:CE w e s v n)(t:Below w.heap.size w w'):CE w' e s v n:=by
 rcases h with h | ⟨c,g,cap,a,hv,b,d⟩
 ·exact Or.inl h
 ·exact Or.inr ⟨c,g,cap,a,hv,(t.block g (Array.getElem?_eq_some_iff.1 b).1).trans b,d⟩
theorem zCR{c:Array Value}(h:w.heap[g]?=some (.cells c e (0,0)))(a:Addr)(u:Value):∃b,(w.setCell a u).heap[g]?=some (.cells b e (0,0))/\b.size=c.size:=by
 by_cases d:a.block=g
 ·subst d;unfold World.setCell;simp only[Array.getElem?_modify,h,if_true,Option.map_some];refine⟨_,rfl,?_⟩;split<;>simp
 ·refine⟨c,?_,rfl⟩;unfold World.setCell;simp only[Array.getElem?_modify,d,if_false,h]
theorem CE.set(h:CE w e s v n)(a:Addr)(u:Value):CE (w.setCell a u) e s v n:=by
 rcases h with h | ⟨i,g,cap,d,hv,m,j,k,l⟩
 ·exact Or.inl h
 ·obtain⟨b,c,hs⟩:=zCR m a u;exact Or.inr ⟨i,g,cap,b,hv,c,j,k,by rw[hs];exact l⟩
theorem CE.owns(h:CE w e s v n)(x:0<n)(r:xs.length=n*s)(p:∀g,v.ownBlock=some g->base<=g)
 (q:∀g,v.ownBlock=some g->∀j u,xs[j]?=some u->w.cell? ⟨g,j,none⟩=some u):w.ownsRow base e s v n xs:=by
 refine⟨r,?_⟩;rcases h with h | ⟨_,g,cap,a,hv,i,b,m,c⟩
 ·omega
 ·refine Or.inr ⟨g,cap,a,hv,p g (by rw[hv];rfl),i,b,m,c,?_⟩;have t:n*s<=a.size:=(by rw[c];exact Nat.mul_le_mul_right s b);refine List.ext_getElem? fun j=>?_
  rw[List.getElem?_take];by_cases k:j<n*s
  ·rw[if_pos k];have l:j<xs.length:=(by omega);have d:=q g (by rw[hv];rfl) j xs[j] (by rw[List.getElem?_eq_getElem l]);have o:w.cell? ⟨g,j,none⟩=a[j]?:=by
    simp[World.cell?,i]
   rw[o]at d;rw[List.getElem?_eq_getElem l,<-d,Array.getElem?_toList]
  ·rw[if_neg k,List.getElem?_eq_none (by omega)]
theorem zDG(t ty e:TypeId)(i:TypeInfo)(a:Option Addr)(b:Addr)(m c:Nat)(l:P.underlying t=some (.slice e))(hi:P.info? e=some i)(k:0<m)(n:m*i.bytes<=140737488355328) :
 (Builtin.append_ #[t,t] ty #[.slice a 0 0,.slice (some b) m c]).run P w=(Builtin.append_ #[t,t] ty #[.slice none 0 0,.slice (some b) m c]).run P w:=by
 cases a with
 | none=>rfl
 | some a=>
  have d:¬m=0:=(by omega);have g:Builtin.nextslicecap m 0=m:=(by unfold Builtin.nextslicecap;simp[k]);have h:¬(281474976710656:Nat)<m*i.bytes:=(by omega);have j:∀w:World,(loadCells a 0).run P w = .ok #[] w:=fun w=>by first | rfl | simp[loadCells] | simp[loadCells,loadCellsFrom]
  simp[Builtin.append_,run_underlying l,sizeOf,typeInfo,hi,Builtin.lenOf,Builtin.firstCells,d,g,h,j]
theorem CE.append(t ty e:TypeId)(i:TypeInfo)(z:Value)(s bytes base:Nat)(I:P.underlying t=some (.slice e))(hi:P.info? e=some i)(K:i.zero=some z)(o:i.size=s)(r:i.bytes=bytes)(C:z.cells.size=s)(B:0<s) (h:CE w e s v n) (N:xs.length=n*s) (L:0<n->∀g,v.ownBlock=some g->base<=g) (M:0<n->∀g,v.ownBlock=some g->∀j u,xs[j]?=some u->w.cell? ⟨g,j,none⟩=some u)
 (x:Addr) (m c:Nat) (b:List Value) (A:b.length=m*s) (l:∀j u,b[j]?=some u->w.cell? (x.add j)=some u) (J:∀u∈b,u.oneCell'=true) (G:0<m) (y:n+m<=maxLen) (d:(n+m)*bytes<=140737488355328) (k:base<=w.heap.size) :
 ∃g cap w' row,(Builtin.append_ #[t,t] ty #[v,.slice (some x) m c]).run P w = .ok (.slice (some ⟨g,0,none⟩) (n+m) cap) w'/\w'.ownsRow base e s (.slice (some ⟨g,0,none⟩) (n+m) cap) (n+m) (xs ++ b)/\w.grownBy w' row/\(row=none\/(0<n/\row=v.ownBlock))/\((0<n/\v.ownBlock=some g)\/g=w.heap.size)/\g<w'.heap.size:=by
 rcases Nat.eq_zero_or_pos n with p | p
 ·rcases h with⟨_,a,rfl⟩ | ⟨O,_⟩
  ·subst p;obtain rfl:xs = []:=List.eq_nil_of_length_eq_zero (by omega);obtain⟨g,cap,w',H,D,E,q,F⟩:=run_append_lies (P:=P) w t ty base e i z s bytes I hi K o r C B (.slice none 0 0) 0 [] ⟨by simp,Or.inl ⟨rfl,rfl⟩⟩ x m c b A l J G y d k w.heap.size rfl;refine⟨g,cap,w',none,?_,D,E,Or.inl rfl,Or.inr ?_,F⟩
   ·rw[zDG t ty e i a x m c I hi G (by rw[r];simpa using d)];exact H
   ·rcases q with q | q
    ·cases q
    ·exact q
  ·omega
 ·obtain⟨g,cap,w',H,D,E,q,F⟩:=run_append_lies (P:=P) w t ty base e i z s bytes I hi K o r C B v n xs (h.owns p N (L p) (M p)) x m c b A l J G y d k w.heap.size rfl;exact⟨g,cap,w',v.ownBlock,H,D,E,Or.inr ⟨p,rfl⟩,q.imp (fun h=>⟨p,h⟩) id,F⟩
def GX(w:World)(S:Nat->Prop)(v:Value)(n:Nat)(f:Nat->AM):Prop:=∃(bs:Nat) (kb:Nat->Nat) (kv:Nat->Value),DD w bs kb kv v n f/\IE kb n f/\(∀k,EN bs kb n f k->S k)/\CE w 44 6 v n/\∀i,i<n->CE w 38 2 (kv i) (f i).dn
def Gi(w:World)(S:Nat->Prop)(v:Value)(n:Nat)(f:Nat->AL):Prop:=∃(bs:Nat) (kb:Nat->Nat) (kv:Nat->Value),EI w bs kb kv v n f/\Mj kb n f/\(∀k,Io bs kb n f k->S k)/\CE w 41 8 v n/\∀i,i<n->CE w 38 2 (kv i) (f i).dn
variable{S:Nat->Prop}
theorem GX.isIn(h:GX w S v n f):I0 w S v n f:=by
 obtain⟨a,e,g,b,c,d,_⟩:=h;exact⟨a,e,g,b,c,d⟩
theorem Gi.isIn{f:Nat->AL}(h:Gi w S v n f):GZ w S v n f:=by
 obtain⟨a,e,g,b,c,d,_⟩:=h;exact⟨a,e,g,b,c,d⟩
theorem GX.set(h:GX w S v n f)(b o:Nat)(u:Value)(m:¬S b):GX (w.setCell ⟨b,o,none⟩ u) S v n f:=by
 obtain⟨c,q,r,d,g,a,j,l⟩:=h;exact⟨c,q,r,d.AH (AI.put w b o u) (fun k p e=>m (e▸a k p)),g,a,j.set _ _,fun i hi=>(l i hi).set _ _⟩
theorem Gi.set{f:Nat->AL}(h:Gi w S v n f)(b o:Nat)(u:Value)(m:¬S b):Gi (w.setCell ⟨b,o,none⟩ u) S v n f:=by
 obtain⟨c,q,r,d,g,a,j,l⟩:=h;exact⟨c,q,r,d.AH (AI.put w b o u) (fun k p e=>m (e▸a k p)),g,a,j.set _ _,fun i hi=>(l i hi).set _ _⟩
theorem GX.put6(h:GX w S v n f)(b:Nat)(c d e g i j:Value)(a:¬S b):GX (put6 w b c d e g i j) S v n f:=(((((h.set b 0 c a).set b 1 d a).set b 2 e a).set b 3 g a).set b 4 i a).set b 5 j a
theorem Gi.put6{f:Nat->AL}(h:Gi w S v n f)(b:Nat)(c d e g i j:Value)(a:¬S b):Gi (put6 w b c d e g i j) S v n f:=(((((h.set b 0 c a).set b 1 d a).set b 2 e a).set b 3 g a).set b 4 i a).set b 5 j a
structure Km (w:World) (P Q R:Nat->Prop) (v0 v1 v2 v3:Value) (W:A5):Prop where
 pool:FI w P v0 v1 W.pool
 A3:GX w Q v2 W.sn W.A3
 A1:Gi w R v3 W.pn W.A1
 pq:∀k,P k->¬Q k
 pr:∀k,P k->¬R k
 qr:∀k,Q k->¬R k
def DC(w:World)(lo hi:Nat)(v0 v1 v2 v3:Value)(W:A5):Prop:=∃P Q R,Km w P Q R v0 v1 v2 v3 W/\∀k,P k\/Q k\/R k->lo<=k/\k<hi
variable{P Q R:Nat->Prop}
theorem Km.isIn(h:Km w P Q R v0 v1 v2 v3 W):Ke w P Q R v0 v1 v2 v3 W:=⟨h.pool,h.A3.isIn,h.A1.isIn,h.pq,h.pr,h.qr⟩
theorem DC.own(h:DC w lo hi v0 v1 v2 v3 W):EJ w lo hi v0 v1 v2 v3 W:=by
 obtain⟨P,Q,R,h,a⟩:=h;exact⟨P,Q,R,h.isIn,a⟩
theorem Km.set(h:Km w P Q R v0 v1 v2 v3 W)(b o:Nat)(u:Value)(a:¬(P b\/Q b\/R b)):Km (w.setCell ⟨b,o,none⟩ u) P Q R v0 v1 v2 v3 W:=
 ⟨h.pool.AH (AI.put w b o u) (fun k c e=>a (Or.inl (e▸c))),h.A3.set b o u (fun h=>a (Or.inr (Or.inl h))),h.A1.set b o u (fun h=>a (Or.inr (Or.inr h))),h.pq,h.pr,h.qr⟩
theorem DC.set(h:DC w lo hi v0 v1 v2 v3 W)(b o:Nat)(u:Value)(d:b<lo\/hi<=b):DC (w.setCell ⟨b,o,none⟩ u) lo hi v0 v1 v2 v3 W:=by
 obtain⟨P,Q,R,h,a⟩:=h;exact⟨P,Q,R,h.set b o u (fun c=>by have:=a b c;omega),a⟩
theorem DC.put6(h:DC w lo hi v0 v1 v2 v3 W)(b:Nat)(c d e g i j:Value)(a:b<lo\/hi<=b):DC (put6 w b c d e g i j) lo hi v0 v1 v2 v3 W:=(((((h.set b 0 c a).set b 1 d a).set b 2 e a).set b 3 g a).set b 4 i a).set b 5 j a
theorem DC.C5(h:DC w lo hi v0 v1 v2 v3 W):∃a c0 b c1 c e d c3,v0 = .slice a W.pool.n c0/\v1 = .slice b W.pool.hn c1/\v2 = .slice c W.sn e/\v3 = .slice d W.pn c3:=h.own.C5
theorem DC.wide{b a:Nat}(h:DC w lo hi v0 v1 v2 v3 W)(e:b<=lo)(g:hi<=a):DC w b a v0 v1 v2 v3 W:=by
 obtain⟨P,Q,R,h,d⟩:=h;exact⟨P,Q,R,h,fun k c=>by have:=d k c;omega⟩
def ze(W:A5)(w:World)(e:Ending)(w':World):Prop:=∃v0 v1 v2 v3,e = .returned (BS v0 v1 v2 v3 W)/\DC w' w.heap.size w'.heap.size v0 v1 v2 v3 W/\Below w.heap.size w w'
theorem zBx(h:w.grownBy w' row):AI (fun k=>row=some k) w w':=⟨h.os,h.tape,h.output,h.size,fun k a hn=>h.block k a (fun e=>hn e.symm)⟩
def RE(w:World)(lo hi m top:Nat)(v0 v1 v2 v3:Value)(W:A5):Prop:=∃P Q R,Ke w P Q R v0 v1 v2 v3 W/\∀k,P k\/Q k\/R k->(lo<=k/\k<hi)\/(m<=k/\k<top)
theorem RE.own{m a:Nat}(h:RE w lo hi m a v0 v1 v2 v3 W)(d:lo<=m)(e:hi<=a):EJ w lo a v0 v1 v2 v3 W:=by
 obtain⟨P,Q,R,h,c⟩:=h;exact⟨P,Q,R,h,fun k b=>by have:=c k b;omega⟩
def MX(W:A5)(k:Nat)(name set:ByteArray):AL:={id:=W.next,name:=name,set:=set,A6:=(W.A3 k).A6,time:=W.time,rs:=(W.A3 k).rs,rb:=(W.A3 k).rb,dn:=(W.A3 k).dn,ds:=(W.A3 k).ds,db:=(W.A3 k).db}
def UT(W:A5)(k:Nat)(name set:ByteArray):A5:={W with time:=W.time+1,next:=W.next+1,A3:=fun j=>if j=k then {W.A3 k with A6:=W.next,dn:=0}else W.A3 j,pn:=W.pn+1,A1:=fun j=>if j=W.pn then MX W k name set else W.A1 j}
def ins{α : Type}(f:Nat->α)(k:Nat)(s:α):Nat->α:=fun j=>if j<k then f j else if j=k then s else f (j - 1)
variable{α:Type}{j:Nat}
theorem ET{f:Nat->α}{s:α}(h:j<k):ins f k s j=f j:=if_pos h
theorem ER{f:Nat->α}{s:α}:ins f k s k=s:=by
 unfold ins;rw[if_neg (Nat.lt_irrefl _),if_pos rfl]
theorem ES{f:Nat->α}{s:α}(h:k<j):ins f k s j=f (j - 1):=by
 unfold ins;rw[if_neg (by omega),if_neg (by omega)]
def M5(s:AM)(dv:Value)(r:Nat):Value:=CC (fun _=>s) (fun _=>dv) 0 r
theorem zHI(f:Nat->AM)(a:Nat->Value)(s:AM)(dv:Value)(r:Nat)(h:j<k):CC (ins f k s) (ins a k dv) j r=CC f a j r:=by
 unfold CC;rw[ET h,ET h]
theorem zHG(f:Nat->AM)(a:Nat->Value)(s:AM)(dv:Value)(k r:Nat):CC (ins f k s) (ins a k dv) k r=M5 s dv r:=by
 unfold M5 CC;rw[ER,ER]
theorem zHH(f:Nat->AM)(a:Nat->Value)(s:AM)(dv:Value)(r:Nat)(h:k<j):CC (ins f k s) (ins a k dv) j r=CC f a (j - 1) r:=by
 unfold CC;rw[ES h,ES h]
def Dp(W:A5)(x:ByteArray)(k:Nat):Prop:=k<=W.sn/\(∀j,j<k->BF (W.A3 j).name x)/\∀j,k<=j->j<W.sn->BF x (W.A3 j).name
theorem L6{a b:ByteArray}(h:BF a b):¬BF b a:=fun c=>Fr (K8 h c) rfl
theorem UI(a b:ByteArray)(c:a≠b):BF a b\/BF b a:=by
 rcases QY a.toList b.toList with h | h | h
 ·exact Or.inl h
 ·have:=KY c;rw[h]at this;simp at this
 ·exact Or.inr h
theorem XO(h:JQ n f):∀{i j:Nat},i<j->j<n->BF (f i).name (f j).name:=by
 intro i j c d
 induction j with
 | zero=>omega
 | succ j ih=>
  have a:=(h.2 (j+1) d).2;have b:Ee f (j+1)=(f j).name:=(by unfold Ee;simp);rw[b]at a;by_cases e:i=j
  ·subst e;exact a
  ·exact K8 (ih (by omega) (by omega)) a
theorem Dp.of(i:JQ W.sn W.A3)(b:¬B3 W x)(l:k<=W.sn)(d:∀j,j<k->BF (W.A3 j).name x)(g:k<W.sn->¬BF (W.A3 k).name x):Dp W x k:=by
 refine⟨l,d,fun j m a=>?_⟩;have c:BF x (W.A3 k).name:=by
  rcases UI (W.A3 k).name x (fun e=>b ⟨k,by omega,e⟩)with h | h
  ·exact absurd h (g (by omega))
  ·exact h
 by_cases e:j=k
 ·subst e;exact c
 ·exact K8 c (XO i (by omega) a)
theorem Dp.has(d:JQ W.sn W.A3)(a:¬B3 W x):∃k,Dp W x k:=by
 have:∀m,m<=W.sn->(∃k,Dp W x k)\/∀j,j<m->BF (W.A3 j).name x:=by
  intro m
  induction m with
  | zero=>exact fun _=>Or.inr (fun j b=>absurd b (Nat.not_lt_zero _))
  | succ m ih=>
   intro l;rcases ih (by omega)with h | h
   ·exact Or.inl h
   ·by_cases e:BF (W.A3 m).name x
    ·refine Or.inr (fun j b=>?_);by_cases c:j=m
     ·subst c;exact e
     ·exact h j (by omega)
    ·exact Or.inl ⟨m,Dp.of d a (by omega) h (fun _=>e)⟩
 rcases this W.sn (Nat.le_refl _)with h | h
 ·exact h
 ·exact⟨W.sn,Nat.le_refl _,h,fun j g i=>by omega⟩
theorem Dp.uniq{k':Nat}(h:Dp W x k)(a:Dp W x k'):k=k':=by
 rcases Nat.lt_trichotomy k k' with e | e | e
 ·exact absurd (h.2.2 k (Nat.le_refl _) (by have:=a.1;omega)) (L6 (a.2.1 k e))
 ·exact e
 ·exact absurd (a.2.2 k' (Nat.le_refl _) (by have:=h.1;omega)) (L6 (h.2.1 k' e))
def DE(W:A5)(k:Nat)(s:AM):A5:={W with sn:=W.sn+1,A3:=ins W.A3 k s}
variable{kb:Nat->Nat}{kv:Nat->Value}
theorem zGj{bs:Nat}{s:AM}(P:DD w bs kb kv v n f)(x:IE kb n f)(V:k<=n)(C:s.dn=0)(D:s.name.size<=maxLen)
 (Q:AI S w w') (E:∀i,i<n->0<(f i).dn->¬S (kb i)/\kb i≠g) (O:n+1<=maxLen) (p:n+1<=cap)
 (M:∀j,j<n+1->∀r,r<6->AJ w' g (j*6+r) (CC (ins f k s) (ins kv k (.slice none 0 0)) j r)) :
 DD w' g (ins kb k g) (ins kv k (.slice none 0 0)) (.slice (some ⟨g,0,none⟩) (n+1) cap) (n+1) (ins f k s)/\IE (ins kb k g) (n+1) (ins f k s):=by
 have y:∀i,i<n->∃o,Ff w bs o (kb i) (kv i) (f i):=fun i hi=>by
  obtain⟨_,a,c,hv,_,R⟩:=P;obtain⟨off,U,h⟩:=R (by omega);exact⟨_,h i hi⟩
 have l:∀i,i<n->CI w' (kb i) (kv i) (f i).dn (f i).ds (f i).db/\(f i).name.size<=maxLen/\(0<(f i).dn->kb i≠g):=fun i hi=>by
  obtain⟨o,h⟩:=y i hi;exact⟨h.dead.AH Q (fun d=>(E i hi d).1),h.Bo,fun d=>(E i hi d).2⟩
 have q:∀i,i<n+1->CI w' (ins kb k g i) (ins kv k (.slice none 0 0) i) (ins f k s i).dn (ins f k s i).ds (ins f k s i).db/\(ins f k s i).name.size<=maxLen/\(0<(ins f k s i).dn->ins kb k g i≠g):=fun i hi=>by
  rcases Nat.lt_trichotomy i k with e | e | e
  ·rw[ET e,ET e,ET e];exact l i (by omega)
  ·subst e;rw[ER,ER,ER];refine⟨⟨by omega,none,0,by rw[C],by omega,fun h=>by omega⟩,D,fun h=>by omega⟩
  ·rw[ES e,ES e,ES e];exact l (i - 1) (by omega)
 refine⟨⟨O,_,_,rfl,p,fun _=>⟨0,rfl,fun i hi=>?_⟩⟩,?_⟩
 ·rw[Nat.zero_add];obtain⟨t,u,L⟩:=q i hi;have b:=M i hi;exact⟨b 0 (by omega),b 1 (by omega),b 2 (by omega),b 3 (by omega),b 4 (by omega),b 5 (by omega),t,u,L⟩
 ·intro i j hi N A t u;have key:∀i,i<n+1->0<(ins f k s i).dn->∃m,m<n/\ins kb k g i=kb m/\0<(f m).dn/\i=(if m<k then m else m+1):=fun i hi d=>by
   rcases Nat.lt_trichotomy i k with e | e | e
   ·rw[ET e]at d;exact⟨i,by omega,ET e,d,by rw[if_pos e]⟩
   ·subst e;rw[ER]at d;omega
   ·rw[ES e]at d;exact⟨i - 1,by omega,ES e,d,by rw[if_neg (by omega)];omega⟩
  obtain⟨m,z,F,J,H⟩:=key i hi t;obtain⟨T,B,G,K,I⟩:=key j N u;rw[F,G];exact x m T z B (fun e=>A (by rw[H,I,e])) J K
theorem zAW{m bs:Nat}{s:AM}
 (N:FI w P v0 v1 W.pool) (H:DD w bs kb kv v2 W.sn W.A3) (B:IE kb W.sn W.A3) (v:∀j,EN bs kb W.sn W.A3 j->Q j) (O:GZ w R v3 W.pn W.A1) (J:∀j,P j->¬Q j) (Z:∀j,P j->¬R j) (K:∀j,Q j->¬R j)
 (d:∀j,P j\/Q j\/R j->lo<=j/\j<hi) (V:k<=W.sn) (D:s.dn=0) (E:s.name.size<=maxLen) (F:AI S w w') (A:∀j,S j->(0<W.sn/\j=bs)\/j<lo\/hi<=j) (I:(0<W.sn/\g=bs)\/(hi<=g/\m<=g)) (C:g<w'.heap.size) (X:W.sn+1<=maxLen) (q:W.sn+1<=cap)
 (T:∀j,j<W.sn+1->∀r,r<6->AJ w' g (j*6+r) (CC (ins W.A3 k s) (ins kv k (.slice none 0 0)) j r)) :
 RE w' lo hi m w'.heap.size v0 v1 (.slice (some ⟨g,0,none⟩) (W.sn+1) cap) v3 (DE W k s):=by
 have o:0<W.sn->Q bs:=fun b=>v _ (Or.inl ⟨b,rfl⟩)
 have y:∀j,P j->¬S j:=fun j l e=>by
  have u:=d j (Or.inl l);rcases A j e with⟨b,rfl⟩ | h | h
  ·exact J _ l (o b)
  ·omega
  ·omega
 have z:∀j,R j->¬S j:=fun j l e=>by
  have u:=d j (Or.inr (Or.inr l));rcases A j e with⟨b,rfl⟩ | h | h
  ·exact K _ (o b) l
  ·omega
  ·omega
 have t:∀i,i<W.sn->0<(W.A3 i).dn->kb i≠bs:=fun i hi b=>by
  obtain⟨_,a,c,hv,_,Y⟩:=H;obtain⟨off,ha,h⟩:=Y (by omega);exact(h i hi).Bi b
 have M:∀i,i<W.sn->0<(W.A3 i).dn->¬S (kb i)/\kb i≠g:=fun i hi b=>by
  have u:=d _ (Or.inr (Or.inl (v _ (Or.inr ⟨i,hi,b,rfl⟩))));refine⟨fun e=>?_,fun e=>?_⟩
  ·rcases A _ e with⟨_,h⟩ | h | h
   ·exact t i hi b h
   ·omega
   ·omega
  ·rcases I with⟨_,h⟩ | h
   ·exact t i hi b (e.trans h)
   ·omega
 obtain⟨x,p⟩:=zGj H B V D E F M X q T;have n:∀j,EN g (ins kb k g) (W.sn+1) (ins W.A3 k s) j->Q j\/(hi<=j/\m<=j/\j<w'.heap.size):=by
  rintro j (⟨_,rfl⟩ | ⟨i,U,b,rfl⟩)
  ·rcases I with⟨b,rfl⟩ | ⟨u,L⟩
   ·exact Or.inl (o b)
   ·exact Or.inr ⟨u,L,C⟩
  ·rcases Nat.lt_trichotomy i k with e | e | e
   ·rw[ET e]at b ⊢;exact Or.inl (v _ (Or.inr ⟨i,by omega,b,rfl⟩))
   ·subst e;rw[ER]at b;omega
   ·rw[ES e]at b ⊢;exact Or.inl (v _ (Or.inr ⟨i - 1,by omega,b,rfl⟩))
 refine⟨P,_,R,⟨N.AH F y,⟨g,_,_,x,p,fun j l=>l⟩,O.AH F z,?_,Z,?_⟩,?_⟩
 ·intro j l h;rcases n j h with h | h
  ·exact J j l h
  ·have:=d j (Or.inl l);omega
 ·intro j l h;rcases n j l with G | G
  ·exact K j G h
  ·have:=d j (Or.inr (Or.inr h));omega
 ·rintro j (h | h | h)
  ·exact Or.inl (d j (Or.inl h))
  ·rcases n j h with h | h
   ·exact Or.inl (d j (Or.inr (Or.inl h)))
   ·exact Or.inr h.2
  ·exact Or.inl (d j (Or.inr (Or.inr h)))
def noW:A5:={pool:=DW 0,time:=0,next:=0,sn:=0,A3:=fun _=>⟨⟨#[]⟩,0,0,0,0,0,fun _=>0,fun _=>0⟩,pn:=0,A1:=fun _=>⟨0,⟨#[]⟩,⟨#[]⟩,0,0,0,0,0,fun _=>0,fun _=>0⟩}
theorem TD:EJ w lo hi (.slice none 0 0) (.slice none 0 0) (.slice none 0 0) (.slice none 0 0) noW:=by
 refine⟨fun k=>lo<=k/\k<hi,fun _=>False,fun _=>False,⟨(zG7 (lo:=lo) (hi:=hi)).isIn (fun k b c=>⟨b,c⟩),?_,?_,fun _ _ h=>h,fun _ _ h=>h,fun _ h=>h.elim⟩,fun k a=>?_⟩
 ·exact⟨0,fun _=>0,fun _=>.slice none 0 0,⟨Nat.zero_le _,none,0,rfl,Nat.le_refl _,fun h=>absurd h (Nat.lt_irrefl _)⟩,fun i j hi=>absurd hi (Nat.not_lt_zero _),fun k a=>by
   rcases a with⟨h,_⟩ | ⟨i,h,_⟩
   ·exact absurd h (Nat.lt_irrefl _)
   ·exact absurd h (Nat.not_lt_zero _)⟩
 ·exact⟨0,fun _=>0,fun _=>.slice none 0 0,⟨Nat.zero_le _,none,0,rfl,Nat.le_refl _,fun h=>absurd h (Nat.lt_irrefl _)⟩,fun i j hi=>absurd hi (Nat.not_lt_zero _),fun k a=>by
   rcases a with⟨h,_⟩ | ⟨i,h,_⟩
   ·exact absurd h (Nat.lt_irrefl _)
   ·exact absurd h (Nat.not_lt_zero _)⟩
 ·rcases a with h | h | h
  ·exact h
  ·exact h.elim
  ·exact h.elim
end Go.Proofs.YtibhefllijahkaaGreatDoor
