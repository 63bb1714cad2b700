/- A part of the proof. -/
import Derived.Test.YtddigaohmfpepaaGreatDoorF14
set_option linter.unusedVariables false
set_option maxRecDepth 20000
set_option maxHeartbeats 4000000
namespace Go.Proofs.YtddigaohmfpepaaGreatDoor
open Go.RowKit
theorem zCA(s:Aa)(a:Option Addr)(c:Nat)(j k:Nat)(set name:ByteArray)(w:World)(g:w.cell? ⟨j,0,none⟩=some (.string set))(i:w.cell? ⟨k,0,none⟩=some (.string name)) :
 Calls Tryz.prog 110 #[.agg #[A0 s.id,.string s.name,.string s.set,A0 s.A8,A0 s.time,A0 s.rs,A0 s.rb,.slice a s.dn c],.pointer (some ⟨j,0,none⟩),.pointer (some ⟨k,0,none⟩)] w fun e w'=>AJ (s.set=set/\s.name=name) e/\Below w.heap.size w w':=by
 have f:=AB w (.cells #[A0 s.id,.string s.name,.string s.set,A0 s.A8,A0 s.time,A0 s.rs,A0 s.rb,.slice a s.dn c] 41);have n:=(f.cell (AV g)).trans g;have o:=(f.cell (AV i)).trans i;clear g i;obtain⟨⟨⟨p,-⟩,⟨q,-⟩,⟨r,-⟩,⟨t,-⟩⟩,⟨u,-⟩,⟨v,-⟩,⟨x,-⟩,⟨y,-⟩⟩:=DX.new w (A0 s.id) (.string s.name) (.string s.set) (A0 s.A8) (A0 s.time) (A0 s.rs) (A0 s.rb) (.slice a s.dn c) 41;by_cases b:s.set=set
 ·by_cases d:s.name=name
  ·skip;have l:=LQ b;have m:=LQ d;have H:=A4 (And.intro b d);clear b d;go_enter Tryz.func110,Tryz.ntmps110;go_wp2;go_ret;exact⟨AJ.yes H.out,f⟩
  ·skip;have l:=LQ b;have m:=N3 d;have H:=A4 (d);clear b d;go_enter Tryz.func110,Tryz.ntmps110;go_wp2;go_ret;exact⟨AJ.no fun h=>H.out h.2,f⟩
 ·skip;have l:=N3 b;have H:=A4 (b);clear b;go_enter Tryz.func110,Tryz.ntmps110;go_wp2;go_ret;exact⟨AJ.no fun h=>H.out h.1,f⟩
theorem zBN(b v1 d f:Value)(lo hi:Nat)(W:A6)(set name:ByteArray)(w:World)(h:C7 w lo hi b v1 d f W)(hn:W.pn<=20) :
 Calls Tryz.prog 56 #[Cc b v1 d f W,.string set,.string name] w fun e w'=>AJ (∃i,i<W.pn/\(W.A3 i).set=set/\(W.A3 i).name=name) e/\Below w.heap.size w w':=by
 have q:=A4 h;clear h;have s:=AB w (.cells #[b,v1,A0 W.time,A0 W.next,d,f] 30);have o:=AB (w.alloc (.cells #[b,v1,A0 W.time,A0 W.next,d,f] 30)) (.cells #[.string set] 9);have n:=AB ((w.alloc (.cells #[b,v1,A0 W.time,A0 W.next,d,f] 30)).alloc (.cells #[.string set] 9)) (.cells #[.string name] 9);have c0:((w.alloc (.cells #[b,v1,A0 W.time,A0 W.next,d,f] 30)).alloc (.cells #[.string set] 9)).cell? ⟨(w.alloc (.cells #[b,v1,A0 W.time,A0 W.next,d,f] 30)).heap.size,0,none⟩=some (.string set):=World.cell?_alloc_at _ _ _ _ rfl;have c1:(((w.alloc (.cells #[b,v1,A0 W.time,A0 W.next,d,f] 30)).alloc (.cells #[.string set] 9)).alloc (.cells #[.string name] 9)).cell? ⟨((w.alloc (.cells #[b,v1,A0 W.time,A0 W.next,d,f] 30)).alloc (.cells #[.string set] 9)).heap.size,0,none⟩=some (.string name):=World.cell?_alloc_at _ _ _ _ rfl;replace c0:=(n.cell (AV c0)).trans c0;rw[World.size_alloc]at c0;rw[World.size_alloc,World.size_alloc]at c1;have l:=A9 (A9 s o) n;have u:=((At.new w (b) (v1) (A0 W.time) (A0 W.next) (d) (f) 30).A1 o).A1 n;obtain⟨v,x,y,z,A,B⟩:=u.c;have j:=A4 c0;have k:=A4 c1;clear c0 c1;go_enter Tryz.func56,Tryz.ntmps56;go_wp2_with fail;clear v x y z A B;generalize ((w.alloc (.cells #[b,v1,A0 W.time,A0 W.next,d,f] 30)).alloc (.cells #[.string set] 9)).alloc (.cells #[.string name] 9)=W1 at l j k ⊢;refine(zCB 110 #[.pointer (some ⟨w.heap.size+1,0,none⟩),.pointer (some ⟨w.heap.size+1+1,0,none⟩)] (enters_of Tryz.func110 (by kernel_rfl) rfl) (fun i=>(W.A3 i).set=set/\(W.A3 i).name=name) _ W.pn lo hi W.A3 W1 (q.out.A3.A1 l) (by omega) (fun i hi' a c w' g C=>zCA (W.A3 i) a c _ _ set name w' ((g.cell (AV j.out)).trans j.out) ((g.cell (AV k.out)).trans k.out))).mono ?_;rintro e D ⟨⟨t,rfl,p⟩,m⟩;have r:=A4 p;clear p;go_wp2;go_ret;exact⟨⟨t,rfl,r.out⟩,A9 l m⟩
theorem zDC(b v1 d f:Value)(lo hi:Nat)(W:A6)(p q:Nat)(set name:ByteArray)(w:World)(h:C7 w lo hi b v1 d f W)(hn:W.pn<=20)(m:w.cell? ⟨p,0,none⟩=some (.string set))(n:w.cell? ⟨q,0,none⟩=some (.string name)) :
 Calls Tryz.prog 55 #[Cc b v1 d f W,.pointer (some ⟨p,0,none⟩),.pointer (some ⟨q,0,none⟩)] w fun e w'=>AJ (¬∃i,i<W.pn/\(W.A3 i).set=set/\(W.A3 i).name=name) e/\Below w.heap.size w w':=by
 have r:=A4 h;clear h;have j:=AB w (.cells #[b,v1,A0 W.time,A0 W.next,d,f] 30);have s:=(j.cell (AV m)).trans m;have u:=(j.cell (AV n)).trans n;obtain⟨v,x,y,z,A,B⟩:=(At.new w (b) (v1) (A0 W.time) (A0 W.next) (d) (f) 30).c;clear m n;go_enter Tryz.func55,Tryz.ntmps55;go_wp2_with fail;clear v x y z A B s u;generalize w.alloc (.cells #[b,v1,A0 W.time,A0 W.next,d,f] 30)=W0 at j ⊢;refine(zBN b v1 d f lo hi W set name W0 (r.out.A1 j) hn).mono ?_;rintro e C ⟨⟨t,rfl,k⟩,o⟩;have g:=A9 j o;by_cases a:∃i,i<W.pn/\(W.A3 i).set=set/\(W.A3 i).name=name
 ·obtain rfl:t=true:=k.2 a;have l:=A4 a;clear k a;go_wp2;go_ret;exact⟨AJ.no (fun h=>h l.out),g⟩
 ·obtain rfl:t=false:=BQ k a;have l:=A4 a;clear k a;go_wp2;go_ret;exact⟨AJ.yes l.out,g⟩
def Iw(W:A6):Prop:=W.pn<20/\W.time<900000/\W.next<900000
theorem zD7(d v1 f k:Value)(lo hi:Nat)(W:A6)(w:World)(h:C7 w lo hi d v1 f k W) :
 Calls Tryz.prog 57 #[Cc d v1 f k W] w fun e w'=>AJ (Iw W) e/\Below w.heap.size w w':=by
 obtain⟨q,j,sc,rfl,-,-⟩:=id h.A3;unfold maxLen at q;clear h;have b:=AB w (.cells #[d,v1,A0 W.time,A0 W.next,f,.slice j W.pn sc] 30);obtain⟨r,s,t,u,v,x⟩:=(At.new w d v1 (A0 W.time) (A0 W.next) f (.slice j W.pn sc) 30).c;by_cases a:W.pn<20;rotate_left
 ·have n:¬(W.pn:Int)<20:=(by omega);have H:=A4 a;clear a;go_enter Tryz.func57,Tryz.ntmps57;go_wp2;go_ret;exact⟨AJ.no fun h=>H.out h.1,b⟩
 have n:(W.pn:Int)<20:=by omega
 have l:=A4 a;clear a;by_cases g:W.time<900000;rotate_left
 ·have H:=A4 g;go_enter Tryz.func57,Tryz.ntmps57;go_wp2;go_ret;exact⟨AJ.no fun h=>by have o:=H.out;have p:=h.2.1;omega,b⟩
 have m:=A4 g;by_cases i:W.next<900000
 ·have H:=A4 i;go_enter Tryz.func57,Tryz.ntmps57;go_wp2;go_ret;exact⟨AJ.yes ⟨l.out,m.out,H.out⟩,b⟩
 ·have H:=A4 i;go_enter Tryz.func57,Tryz.ntmps57;go_wp2;go_ret;exact⟨AJ.no fun h=>by have o:=H.out;have p:=h.2.2;omega,b⟩
theorem zD8(p:Nat->Addr)(b:ByteArray)(s1:ByteArray)(w:World)(n:D8 w p) :
 Calls Tryz.prog 20 #[.string b,.string s1] w fun e w'=>∃l m:Nat,e = .returned (.agg #[.func (.func 55) #[] #[.pointer (some ⟨l,0,none⟩),.pointer (some ⟨m,0,none⟩)],Af (p 3)])/\w'.cell? ⟨l,0,none⟩=some (.string b)/\w'.cell? ⟨m,0,none⟩=some (.string s1)/\Below w.heap.size w w':=by
 have g:=AB w (.cells #[.string b] 9);have d:=AB (w.alloc (.cells #[.string b] 9)) (.cells #[.string s1] 9);have k:=AB ((w.alloc (.cells #[.string b] 9)).alloc (.cells #[.string s1] 9)) (.cells #[.nilFunc,.nilIface] 61);have o:=A9 (A9 (g) d) k;have c0:(w.alloc (.cells #[.string b] 9)).cell? ⟨w.heap.size,0,none⟩=some (.string b):=World.cell?_alloc_at _ _ _ _ rfl;replace c0:=(d.cell (AV c0)).trans c0;have c1:((w.alloc (.cells #[.string b] 9)).alloc (.cells #[.string s1] 9)).cell? ⟨(w.alloc (.cells #[.string b] 9)).heap.size,0,none⟩=some (.string s1):=World.cell?_alloc_at _ _ _ _ rfl;rw[World.size_alloc]at c1;have s:(((w.alloc (.cells #[.string b] 9)).alloc (.cells #[.string s1] 9)).alloc (.cells #[.nilFunc,.nilIface] 61)).cell? ⟨1,0,none⟩=some (Af (p 3)):=(n.A1 o).cell 3 (by omega);have f:=AB ((w.alloc (.cells #[.string b] 9)).alloc (.cells #[.string s1] 9)) (.cells #[.func (.func 55) #[] #[.pointer (some ⟨w.heap.size,0,none⟩),.pointer (some ⟨w.heap.size+1,0,none⟩)],Af (p 3)] 61);have j:=A9 (A9 (g) d) f;have h:=A4 ((f.cell (AV c0)).trans c0);clear c0;have i:=A4 ((f.cell (AV c1)).trans c1);clear c1;go_enter Tryz.func20,Tryz.ntmps20;have q:=fun (r:World) (a:Addr)=>run_store Tryz.prog r a (.func (.func 55) #[] #[.pointer (some ⟨w.heap.size,0,none⟩),.pointer (some ⟨w.heap.size+1,0,none⟩)]) .plain rfl
 go_wp2_with fail;have c:=Ad.new ((w.alloc (.cells #[.string b] 9)).alloc (.cells #[.string s1] 9)) (.func (.func 55) #[] #[.pointer (some ⟨w.heap.size,0,none⟩),.pointer (some ⟨w.heap.size+1,0,none⟩)]) (Af (p 3)) 61;rw[World.size_alloc,World.size_alloc]at c;refine bodyPost_ret (v:=.agg #[.func (.func 55) #[] #[.pointer (some ⟨w.heap.size,0,none⟩),.pointer (some ⟨w.heap.size+1,0,none⟩)],Af (p 3)]) (by simp[results,Tryz.results20,go_sem,c.1.1,c.2.1]) rfl ⟨_,_,rfl,h.out,i.out,j⟩
theorem zD3(p:Nat->Addr)(w:World)(g:D8 w p) :
 Calls Tryz.prog 21 #[] w fun e w'=>e = .returned (.agg #[.func (.func 57) #[] #[],Af (p 4)])/\Below w.heap.size w w':=by
 have d:=AB w (.cells #[.nilFunc,.nilIface] 61);have h:=d;have k:(w.alloc (.cells #[.nilFunc,.nilIface] 61)).cell? ⟨2,0,none⟩=some (Af (p 4)):=(g.A1 h).cell 4 (by omega);have f:=AB w (.cells #[.func (.func 57) #[] #[],Af (p 4)] 61);have c:=f;go_enter Tryz.func21,Tryz.ntmps21;have i:=fun (j:World) (a:Addr)=>run_store Tryz.prog j a (.func (.func 57) #[] #[]) .plain rfl
 go_wp2_with fail;have b:=Ad.new w (.func (.func 57) #[] #[]) (Af (p 4)) 61;skip;refine bodyPost_ret (v:=.agg #[.func (.func 57) #[] #[],Af (p 4)]) (by simp[results,Tryz.results21,go_sem,b.1.1,b.2.1]) rfl ⟨rfl,c⟩
theorem ZG(p:Nat->Addr)(u v1 y z:Value)(lo hi:Nat)(W:A6)(set:ByteArray)(name:ByteArray)(o:Bm)(w:World)(hE:D8 w p)(h:C7 w lo hi u v1 y z W)(fB:G4 W)(b1:Ap W.pool<=1048576)(b2:W.sn<=1048576)(b3:W.pn<=1048576)(b4:JX W)(bA:set.size<=maxLen)(iA:name.size<=maxLen)
 (cB:∀P B1 C w' z0 z1 z2 z3,w'.cell? ⟨P,0,none⟩=some (.string set)->P<C->w'.cell? ⟨B1,0,none⟩=some (.string name)->B1<C->DE W->¬(∃i,i<2/\8000<((fun i=>match i with | 0=>set | _=>name) i).size)->¬(∃i,i<1/\¬BX ((fun i=>match i with  | _=>name) i))->(∀j,j<3->(fun i=>match i with | 0=>BL W set | 1=>¬∃i,i<W.pn/\(W.A3 i).set=set/\(W.A3 i).name=name | _=>Iw W) j)->C<w'.heap.size->Below w.heap.size w w'->D5 w' (C+1) w'.heap.size z0 z1 z2 z3 W->Bb w' C z0 z1 (A0 W.time) (A0 W.next) z2 z3 (A0 0) (A0 0) .nilIface->Calls Tryz.prog 22 #[.pointer (some ⟨C,0,none⟩),.pointer (some ⟨P,0,none⟩),.pointer (some ⟨B1,0,none⟩)] w' (IU p o C w')) :
 Calls Tryz.prog 5 #[Cc u v1 y z W,.string set,.string name] w fun e w'=>∃r,FN W (∃i,i<2/\8000<((fun i=>match i with | 0=>set | _=>name) i).size) (∃i,i<1/\¬BX ((fun i=>match i with  | _=>name) i)) 3 (fun i=>match i with | 0=>BL W set | 1=>¬∃i,i<W.pn/\(W.A3 i).set=set/\(W.A3 i).name=name | _=>Iw W) (fun i=>match i with | 0=>2 | 1=>3 | _=>4) r/\Iv (Ez r o) w e w':=by
 have Hp:=AQ h;have HE:=AQ hE;have bC:=AQ cB;have fC:=AQ fB;have L:=AQ bA;have m:=AQ iA;clear h hE cB fB;have vA:=AB w (.cells #[u,v1,A0 W.time,A0 W.next,y,z] 30);have dA:=AB (w.alloc (.cells #[u,v1,A0 W.time,A0 W.next,y,z] 30)) (.cells #[.string set] 9);have R:=AB ((w.alloc (.cells #[u,v1,A0 W.time,A0 W.next,y,z] 30)).alloc (.cells #[.string set] 9)) (.cells #[.string name] 9);have N:=AB (((w.alloc (.cells #[u,v1,A0 W.time,A0 W.next,y,z] 30)).alloc (.cells #[.string set] 9)).alloc (.cells #[.string name] 9)) (.cells #[A5,A5,A0 0,A0 0,A5,A5,A0 0,A0 0,A0 0] 34);have hb:=A9 (A9 (A9 (vA) dA) R) N;have HX:=AQ ((((At.new w (u) (v1) (A0 W.time) (A0 W.next) (y) (z) 30).A1 dA).A1 R).A1 N);have c0:((w.alloc (.cells #[u,v1,A0 W.time,A0 W.next,y,z] 30)).alloc (.cells #[.string set] 9)).cell? ⟨(w.alloc (.cells #[u,v1,A0 W.time,A0 W.next,y,z] 30)).heap.size,0,none⟩=some (.string set):=World.cell?_alloc_at _ _ _ _ rfl;rw[World.size_alloc]at c0;replace c0:=(R.cell (AV c0)).trans c0;replace c0:=(N.cell (AV c0)).trans c0;have nA:=AQ c0;clear c0;have c1:(((w.alloc (.cells #[u,v1,A0 W.time,A0 W.next,y,z] 30)).alloc (.cells #[.string set] 9)).alloc (.cells #[.string name] 9)).cell? ⟨((w.alloc (.cells #[u,v1,A0 W.time,A0 W.next,y,z] 30)).alloc (.cells #[.string set] 9)).heap.size,0,none⟩=some (.string name):=World.cell?_alloc_at _ _ _ _ rfl;rw[World.size_alloc,World.size_alloc]at c1;replace c1:=(N.cell (AV c1)).trans c1;have oA:=AQ c1;clear c1;have hr:=Bb.new (((w.alloc (.cells #[u,v1,A0 W.time,A0 W.next,y,z] 30)).alloc (.cells #[.string set] 9)).alloc (.cells #[.string name] 9)) (A5) (A5) (A0 0) (A0 0) (A5) (A5) (A0 0) (A0 0) (A0 0) 34;rw[World.size_alloc,World.size_alloc,World.size_alloc]at hr;have HR:=AQ hr;clear hr;have hz:((((w.alloc (.cells #[u,v1,A0 W.time,A0 W.next,y,z] 30)).alloc (.cells #[.string set] 9)).alloc (.cells #[.string name] 9)).alloc (.cells #[A5,A5,A0 0,A0 0,A5,A5,A0 0,A0 0,A0 0] 34)).heap.size=w.heap.size+4:=by rw[World.size_alloc,World.size_alloc,World.size_alloc,World.size_alloc]
 go_enter Tryz.func5,Tryz.ntmps5;go_upto_region 1 with fail;generalize ((((w.alloc (.cells #[u,v1,A0 W.time,A0 W.next,y,z] 30)).alloc (.cells #[.string set] 9)).alloc (.cells #[.string name] 9)).alloc (.cells #[A5,A5,A0 0,A0 0,A5,A5,A0 0,A0 0,A0 0] 34))=W1 at hb HX HR hz nA oA ⊢;clear vA dA R N;obtain⟨x0,x1,x2,x3,x4,x5⟩:=HX.out.c;have k0:=nA.out;have k1:=oA.out;have a:=AQ (show ∀w',Below (w.heap.size+1+1+1) W1 w'->(fun w'=>w'.cell? ⟨w.heap.size,0,none⟩=some (u)/\w'.cell? ⟨w.heap.size,1,none⟩=some (v1)/\w'.cell? ⟨w.heap.size,2,none⟩=some (A0 W.time)/\w'.cell? ⟨w.heap.size,3,none⟩=some (A0 W.next)/\w'.cell? ⟨w.heap.size,4,none⟩=some (y)/\w'.cell? ⟨w.heap.size,5,none⟩=some (z)/\w'.cell? ⟨w.heap.size+1,0,none⟩=some (.string set)/\w'.cell? ⟨w.heap.size+1+1,0,none⟩=some (.string name)/\Below (w.heap.size+1+1+1) W1 w') w' from fun w' b=>⟨(b.cell (p:=⟨w.heap.size,0,none⟩) (by show w.heap.size<_;omega)).trans x0,(b.cell (p:=⟨w.heap.size,1,none⟩) (by show w.heap.size<_;omega)).trans x1,(b.cell (p:=⟨w.heap.size,2,none⟩) (by show w.heap.size<_;omega)).trans x2,(b.cell (p:=⟨w.heap.size,3,none⟩) (by show w.heap.size<_;omega)).trans x3,(b.cell (p:=⟨w.heap.size,4,none⟩) (by show w.heap.size<_;omega)).trans x4,(b.cell (p:=⟨w.heap.size,5,none⟩) (by show w.heap.size<_;omega)).trans x5,(b.cell (p:=⟨w.heap.size+1,0,none⟩) (by show w.heap.size+1<_;omega)).trans k0,(b.cell (p:=⟨w.heap.size+1+1,0,none⟩) (by show w.heap.size+1+1<_;omega)).trans k1,b⟩);have s:w.heap.size+1+1+1<=W1.heap.size:=by omega
 clear x0 x1 x2 x3 x4 x5 k0 k1;refine wp_region_held_drew (S:=(fun w'=>w'.cell? ⟨w.heap.size,0,none⟩=some (u)/\w'.cell? ⟨w.heap.size,1,none⟩=some (v1)/\w'.cell? ⟨w.heap.size,2,none⟩=some (A0 W.time)/\w'.cell? ⟨w.heap.size,3,none⟩=some (A0 W.next)/\w'.cell? ⟨w.heap.size,4,none⟩=some (y)/\w'.cell? ⟨w.heap.size,5,none⟩=some (z)/\w'.cell? ⟨w.heap.size+1,0,none⟩=some (.string set)/\w'.cell? ⟨w.heap.size+1+1,0,none⟩=some (.string name)/\Below (w.heap.size+1+1+1) W1 w')) (by kernel_rfl) (a.out _ ((Below.refl _ _).drew.mono s)) (fun hHeld=>?_);have lC:Below W1.heap.size W1 W1.drew:=(Below.refl _ _).drew;refine tk 0 (h:=?_);refine tk 1 (h:=?_);refine tk 3 (h:=?_);refine tk 5 (h:=?_);refine tk 7 (h:=?_);refine tk 8 (h:=?_);refine tk 12 (h:=?_);refine tk 14 (h:=?_);refine Qh [2,4,6,9,10,11] (fun i=>if i=11 then [6,9,10] else []) (fun i=>i+7) (fun i v w'=>(i=2->E3 w' v 2 (fun i=>match i with | 0=>set | _=>name))/\(i=4->E3 w' v 1 (fun i=>match i with  | _=>name))/\(i=6->QAt w' p 53 2 [.string set] v)/\(i=9->QAt w' p 55 3 [.string set,.string name] v)/\(i=10->QAt w' p 57 4 [] v)/\(i=11->Gw w' p 3 (fun i=>match i with | 0=>53 | 1=>55 | _=>57) (fun i=>match i with | 0=>2 | 1=>3 | _=>4) (fun i=>match i with | 0=>[.string set] | 1=>[.string set,.string name] | _=>[]) v)) 3 (G:=fun w'=>Below W1.heap.size W1 w') (by kernel_rfl) (by decide) (by decide) (by decide) ?_ (fun _ _ h t=>A9 h t) (by assumption) lC ?_ ?_
 ·intro i v w' bF hf t;exact⟨fun e=>(hf.1 e).A1 t,fun e=>(hf.2.1 e).A1 t,fun e=>(hf.2.2.1 e).A1 t,fun e=>(hf.2.2.2.1 e).A1 t,fun e=>(hf.2.2.2.2.1 e).A1 t,fun e=>(hf.2.2.2.2.2 e).A1 t⟩
 ·intro i hi x O hS F hD K hK;simp only[List.mem_cons,List.not_mem_nil,or_false]at hi;rcases hi with rfl | rfl | rfl | rfl | rfl | rfl
  ·refine wpOp_step (EC rfl) (fun K' f=>?_);simp only[BI,Act.put,Nat.reduceAdd,s1,s2,s3];have A:=AB O (.cells #[.string set,.string name] 9);go_simp;refine f _ _ (hK.out _ _ _ ?_ (a.out _ ((A9 F A).mono s)) ⟨fun _=>Vr L.out m.out rfl rfl,fun e=>absurd e (by decide),fun e=>absurd e (by decide),fun e=>absurd e (by decide),fun e=>absurd e (by decide),fun e=>absurd e (by decide)⟩ A);simp only[BI,Act.put,Nat.reduceAdd,s1,s2,s3]
  ·refine wpOp_step (EC rfl) (fun K' f=>?_);simp only[BI,Act.put,Nat.reduceAdd,s1,s2,s3];have A:=AB O (.cells #[.string name] 9);go_simp;refine f _ _ (hK.out _ _ _ ?_ (a.out _ ((A9 F A).mono s)) ⟨fun e=>absurd e (by decide),fun _=>zEK m.out rfl,fun e=>absurd e (by decide),fun e=>absurd e (by decide),fun e=>absurd e (by decide),fun e=>absurd e (by decide)⟩ A);simp only[BI,Act.put,Nat.reduceAdd,s1,s2,s3]
  ·refine wpOp_step (EC rfl) (fun K' f=>?_);simp only[BI,Act.put,Nat.reduceAdd,s1,s2,s3];go_simp;go_at_call 19;refine(Yz p set O (HE.out.A1 (A9 hb F))).mono ?_;rintro e w3 ⟨P,rfl,d,l⟩;refine f _ _ (hK.out _ _ w3 ?_ (a.out _ ((A9 F l).mono s)) ⟨fun e=>absurd e (by decide),fun e=>absurd e (by decide),fun _=>⟨_,rfl,D2.one d⟩,fun e=>absurd e (by decide),fun e=>absurd e (by decide),fun e=>absurd e (by decide)⟩ l);simp only[BI,Act.put,Nat.reduceAdd,s1,s2,s3]
  ·refine wpOp_step (EC rfl) (fun K' f=>?_);simp only[BI,Act.put,Nat.reduceAdd,s1,s2,s3];go_simp;go_at_call 20;refine(zD8 p set name O (HE.out.A1 (A9 hb F))).mono ?_;rintro e w3 ⟨P,B1,rfl,d,I,l⟩;refine f _ _ (hK.out _ _ w3 ?_ (a.out _ ((A9 F l).mono s)) ⟨fun e=>absurd e (by decide),fun e=>absurd e (by decide),fun e=>absurd e (by decide),fun _=>⟨_,rfl,D2.two d I⟩,fun e=>absurd e (by decide),fun e=>absurd e (by decide)⟩ l);simp only[BI,Act.put,Nat.reduceAdd,s1,s2,s3]
  ·refine wpOp_step (EC rfl) (fun K' f=>?_);simp only[BI,Act.put,Nat.reduceAdd,s1,s2,s3];go_simp;go_at_call 21;refine(zD3 p  O (HE.out.A1 (A9 hb F))).mono ?_;rintro e w3 ⟨rfl,l⟩;refine f _ _ (hK.out _ _ w3 ?_ (a.out _ ((A9 F l).mono s)) ⟨fun e=>absurd e (by decide),fun e=>absurd e (by decide),fun e=>absurd e (by decide),fun e=>absurd e (by decide),fun _=>⟨_,rfl,D2.zero⟩,fun e=>absurd e (by decide)⟩ l);simp only[BI,Act.put,Nat.reduceAdd,s1,s2,s3]
  ·refine wpOp_step (EC rfl) (fun K' f=>?_);simp only[BI,Act.put,Nat.reduceAdd,s1,s2,s3];obtain⟨gB,e0,eA⟩:=(hD 6 (by decide)).2.2.1 rfl;obtain⟨iB,e1,fA⟩:=(hD 9 (by decide)).2.2.2.1 rfl;obtain⟨jB,e2,gA⟩:=(hD 10 (by decide)).2.2.2.2.1 rfl;simp only[e0,e1,e2];have A:=AB O (.cells #[.func (.func 53) #[] gB,Af (p 2),.func (.func 55) #[] iB,Af (p 3),.func (.func 57) #[] jB,Af (p 4)] 61);have hA:Gw (O.alloc (.cells #[.func (.func 53) #[] gB,Af (p 2),.func (.func 55) #[] iB,Af (p 3),.func (.func 57) #[] jB,Af (p 4)] 61)) p 3 (fun i=>match i with | 0=>53 | 1=>55 | _=>57) (fun i=>match i with | 0=>2 | 1=>3 | _=>4) (fun i=>match i with | 0=>[.string set] | 1=>[.string set,.string name] | _=>[]) (.slice (some ⟨O.heap.size,0,none⟩) 3 3):=zHc (g:=(fun i=>match i with | 0=>53 | 1=>55 | _=>57)) (ei:=(fun i=>match i with | 0=>2 | 1=>3 | _=>4)) (caps:=(fun i=>match i with | 0=>[.string set] | 1=>[.string set,.string name] | _=>[])) eA fA gA;go_simp;refine f _ _ (hK.out _ _ _ ?_ (a.out _ ((A9 F A).mono s)) ⟨fun e=>absurd e (by decide),fun e=>absurd e (by decide),fun e=>absurd e (by decide),fun e=>absurd e (by decide),fun e=>absurd e (by decide),fun _=>hA⟩ A);simp only[BI,Act.put,Nat.reduceAdd,s1,s2,s3,e0,e1,e2]
 ·intro x O hS F hF;have Q:=(hF 2 (by decide)).1 rfl;obtain⟨-,ta,tc,et,-,-⟩:=id Q;have hN:=(hF 4 (by decide)).2.1 rfl;obtain⟨-,na,nc,en,-,-⟩:=id hN;obtain⟨lb,hA,Z⟩:=(hF 11 (by decide)).2.2.2.2.2 rfl;obtain⟨-,qa,qc,eq,-⟩:=id hA;simp only[BI,DF,if_true,Act.put,Nat.reduceAdd,s1,s2,s3,et,en,eq];rw[et]at Q;rw[en]at hN;rw[eq]at hA;have b:=A9 hb F;have dC:=AQ Q;have cC:=AQ hN;have aC:=AQ hA;have J:=AQ Z;clear Q hN hA Z hF;refine tk 13 (h:=?_);refine rd [15] (rc (fun K hK=>?_) .nil);go_simp;go_at_call 24;refine(qH p _ _ _ 22 #[.pointer (some ⟨w.heap.size+1,0,none⟩),.pointer (some ⟨w.heap.size+1+1,0,none⟩)] 2 1 3 (fun i=>match i with | 0=>set | _=>name) (fun i=>match i with  | _=>name) (fun i=>match i with | 0=>53 | 1=>55 | _=>57) lb (fun i=>match i with | 0=>2 | 1=>3 | _=>4) (fun i=>match i with | 0=>BL W set | 1=>¬∃i,i<W.pn/\(W.A3 i).set=set/\(W.A3 i).name=name | _=>Iw W) o _ _ _ _ lo hi W O (HE.out.A1 b) (Hp.out.A1 b) fC.out b1 b2 b3 b4 dC.out cC.out aC.out ?_ ?_ (enters_of Tryz.func22 (by kernel_rfl) rfl) ?_ ?_).mono ?_
  ·intro i hi;rcases(by omega:i=0\/i=1\/i=2)with rfl | rfl | rfl
   all_goals decide
  ·intro i hi;rcases(by omega:i=0\/i=1\/i=2)with rfl | rfl | rfl
   ·exact enters_of Tryz.func53 (by kernel_rfl) rfl
   ·exact enters_of Tryz.func55 (by kernel_rfl) rfl
   ·exact enters_of Tryz.func57 (by kernel_rfl) rfl
  ·intro i hi' w' D hI iE;have hW:=(Hp.out.A1 b).A1 D;have h8:=hI.Aq.A2.1;have iC:=hI.Aq.A3.1;rcases(by omega:i=0\/i=1\/i=2)with rfl | rfl | rfl
   ·obtain⟨P,M,d⟩:=(J.out 0 (by decide)).is1;replace d:=(D.cell (AV d)).trans d;rw[M];exact Z3 u v1 y z lo hi W P set w' hW h8 bA d
   ·obtain⟨P,B1,M,d,I⟩:=(J.out 1 (by decide)).is2;replace d:=(D.cell (AV d)).trans d;replace I:=(D.cell (AV I)).trans I;rw[M];exact zDC u v1 y z lo hi W P B1 set name w' hW iC d I
   ·have M:=(J.out 2 (by decide)).is0;rw[M];exact zD7 u v1 y z lo hi W w' hW
  ·intro C w' z0 z1 z2 z3 hC D jC hI hl oC hq E aB;exact bC.out (w.heap.size+1) (w.heap.size+1+1) C w' z0 z1 z2 z3 ((D.cell (AV hS.2.2.2.2.2.2.1)).trans hS.2.2.2.2.2.2.1) (by have:=F.size;omega) ((D.cell (AV hS.2.2.2.2.2.2.2.1)).trans hS.2.2.2.2.2.2.2.1) (by have:=F.size;omega) hI hl oC hq jC (A9 b D) E aB
  rintro e w3 ⟨r,aA,z0,z1,z2,z3,rfl,E,l⟩;obtain⟨n0,T,n1,U,n2,V,n3,X,rfl,rfl,rfl,rfl⟩:=E.form;have H:=A9 F l;have pA:=AQ (HR.out.A1 H);have Y:=AQ E;have rA:=AQ aA;clear E aA;generalize eB:Ez r o=oo at Y ⊢;have eC:=AQ eB;clear eB
  (try go_wp2_with fail)
  refine hK.out _ _ (a.out _ (H.mono s)) ?_;clear hK K hHeld;intro hHeld
  try simp only[Act.put,s1,s2,s3]
  refine rd [16] (rc (fun K hK=>?_) .nil);obtain⟨⟨r0,g0⟩,⟨r1,g1⟩,⟨r2,g2⟩,⟨r3,g3⟩,⟨r4,g4⟩,⟨r5,g5⟩,⟨r6,g6⟩,⟨r7,g7⟩,⟨r8,g8⟩⟩:=pA.out;go_simp
  (try go_wp2_with fail)
  have Q:=AC.put9 w3 (w.heap.size+1+1+1) (.slice n0 oo.world.pool.n T) (.slice n1 oo.world.pool.hn U) (A0 oo.world.time) (A0 oo.world.next) (.slice n2 oo.world.sn V) (.slice n3 oo.world.pn X) (A0 oo.id) (A0 oo.many) (A0 oo.code);have nC:Below (w.heap.size+1+1+1) W1 (((((((((w3.setCell ⟨w.heap.size+1+1+1,0,none⟩ (.slice n0 oo.world.pool.n T)).setCell ⟨w.heap.size+1+1+1,1,none⟩ (.slice n1 oo.world.pool.hn U)).setCell ⟨w.heap.size+1+1+1,2,none⟩ (A0 oo.world.time)).setCell ⟨w.heap.size+1+1+1,3,none⟩ (A0 oo.world.next)).setCell ⟨w.heap.size+1+1+1,4,none⟩ (.slice n2 oo.world.sn V)).setCell ⟨w.heap.size+1+1+1,5,none⟩ (.slice n3 oo.world.pn X)).setCell ⟨w.heap.size+1+1+1,6,none⟩ (A0 oo.id)).setCell ⟨w.heap.size+1+1+1,7,none⟩ (A0 oo.many)).setCell ⟨w.heap.size+1+1+1,8,none⟩ (A0 oo.code)):=(H.mono s).trans (Q.A1 (B:=w.heap.size+1+1+1) (by have:=H.size;omega) (fun k e=>by omega));refine hK.out _ _ (a.out _ nC) ?_;clear hK K hHeld r0 r1 r2 r3 r4 r5 r6 r7 r8 g0 g1 g2 g3 g4 g5 g6 g7 g8;intro hHeld
  try simp only[Act.put,s1,s2,s3]
  refine wpAnyH_done (by kernel_rfl) ?_ _;go_wp2_with fail;have q:=pA.out.put (.slice n0 oo.world.pool.n T) (.slice n1 oo.world.pool.hn U) (A0 oo.world.time) (A0 oo.world.next) (.slice n2 oo.world.sn V) (.slice n3 oo.world.pn X) (A0 oo.id) (A0 oo.many) (A0 oo.code);have bB:=A9 hb H;have rC:=Q.size;have mE:=H.size;refine bodyPost_ret (v:=.agg #[.slice n0 oo.world.pool.n T,.slice n1 oo.world.pool.hn U,A0 oo.world.time,A0 oo.world.next,.slice n2 oo.world.sn V,.slice n3 oo.world.pn X,A0 oo.id,A0 oo.many,A0 oo.code]) (by simp[results,Tryz.results5,go_sem,q.1.1,q.2.1.1,q.2.2.1.1,q.2.2.2.1.1,q.2.2.2.2.1.1,q.2.2.2.2.2.1.1,q.2.2.2.2.2.2.1.1,q.2.2.2.2.2.2.2.1.1,q.2.2.2.2.2.2.2.2.1]) rfl ⟨r,rA.out,?_⟩;rw[eC.out];refine⟨_,_,_,_,rfl,?_,?_⟩
  ·exact(Y.out.AD Q (fun k e=>by have:=F.size;omega)).wide (by have:=F.size;omega) rC
  ·exact bB.trans (Q.A1 (B:=w.heap.size) bB.size (fun k e=>by omega))
theorem zAO(s:Ab)(a:Option Addr)(c B:Nat)(name:ByteArray)(w:World)(d:w.cell? ⟨B,0,none⟩=some (.string name)) :
 Calls Tryz.prog 82 #[.agg #[.string s.name,A0 s.origin,A0 s.A8,A0 s.rs,A0 s.rb,.slice a s.dn c],.pointer (some ⟨B,0,none⟩)] w fun e w'=>AJ (s.name=name) e/\Below w.heap.size w w':=by
 have f:=AB w (.cells #[.string s.name,A0 s.origin,A0 s.A8,A0 s.rs,A0 s.rb,.slice a s.dn c] 46);have h:=(f.cell (AV d)).trans d;clear d;obtain⟨i,j,k,l,m,n⟩:=(At.new w (.string s.name) (A0 s.origin) (A0 s.A8) (A0 s.rs) (A0 s.rb) (.slice a s.dn c) 46).c;by_cases b:s.name=name
 ·skip;have g:=LQ b;have H:=A4 b;clear b;go_enter Tryz.func82,Tryz.ntmps82;go_wp2;go_ret;exact⟨AJ.yes H.out,f⟩
 ·skip;have g:=N3 b;have H:=A4 b;clear b;go_enter Tryz.func82,Tryz.ntmps82;go_wp2;go_ret;exact⟨AJ.no H.out,f⟩
variable{k:Nat}
theorem zEk{n:Nat}{f:Nat->Ab}{name:ByteArray}{e:Ending}(hn:(f k).name=name)(c:∀j,j<k->(f j).name≠name)(d:k<n)
 (g:(∃i:Nat,i<n/\(f i).name=name/\(∀j,j<i->¬(f j).name=name)/\e = .returned (A0 (i:Int)))\/((∀j,j<n->¬(f j).name=name)/\e = .returned (A0 (-1)))):e = .returned (A0 (k:Int)):=by
 rcases g with⟨i,hi,a,b,rfl⟩ | ⟨a,_⟩
 ·obtain rfl:i=k:=by
   rcases Nat.lt_trichotomy i k with h | h | h
   ·exact absurd a (c i h)
   ·exact h
   ·exact absurd hn (b k h)
  rfl
 ·exact absurd hn (a k d)
theorem R7(C lo hi n k q:Nat)(t:Option Addr)(f:Nat->Ab)(name:ByteArray)(w:World)(x:w.cell? ⟨C,4,none⟩=some (.slice t n q))(u:EJ w lo hi (.slice t n q) n f)(hn:n<=8)(y:k<n)(g:(f k).name=name)(d:∀j,j<k->(f j).name≠name) :
 Calls Tryz.prog 36 #[.pointer (some ⟨C,0,none⟩),.string name] w fun e w'=>(∃b off,t=some ⟨b,off,none⟩/\e = .returned (.pointer (some ⟨b,off+k*6,none⟩)))/\Below w.heap.size w w':=by
 have B:=A4 u;have A:=A4 g;have z:=A4 d;obtain⟨b,off,vd,rfl,-⟩:=u.cells y;clear u g d;have r:=AB w (.cells #[.string name] 9);have c0:(w.alloc (.cells #[.string name] 9)).cell? ⟨w.heap.size,0,none⟩=some (.string name):=World.cell?_alloc_at _ _ _ _ rfl;have m:=(r.cell (AV x)).trans x;have s:=A4 c0;have F:(k:Int)<(n:Int):=by omega
 clear c0 x;go_enter Tryz.func36,Tryz.ntmps36;go_wp2_with fail;generalize w.alloc (.cells #[.string name] 9)=W1 at r m s ⊢;have D:=A4 (show ∀w',Below W1.heap.size W1 w'->Calls Tryz.prog 81 #[.slice (some ⟨b,off,none⟩) n q,.func (.func 82) #[] #[.pointer (some ⟨w.heap.size,0,none⟩)]] w' fun e o=>e = .returned (A0 (k:Int))/\Below w'.heap.size w' o from fun w' p=>by
  refine(zCE 82 #[.pointer (some ⟨w.heap.size,0,none⟩)] (enters_of Tryz.func82 (by kernel_rfl) rfl) (fun i=>(f i).name=name) _ n lo hi f w' ((B.out.A1 r).A1 p) (by omega) (fun i hi' a c o v I=>zAO (f i) a c _ name o (((A9 p v).cell (AV s.out)).trans s.out))).mono ?_;rintro e H ⟨G,l⟩;exact⟨zEk A.out z.out y G,l⟩)
 go_region_held3 (fun w'=>w'.cell? ⟨C,4,none⟩=some (.slice (some ⟨b,off,none⟩) n q)) (go_keep)
  (first | (go_at_call 81;refine(D.out _ (Below.refl _ _).drew).mono ?_;rintro e H ⟨rfl,l⟩;have h:=Cp l;have E:=(h.cell (AV m)).trans m))
 go_wp2;go_ret;exact⟨⟨b,off,rfl,rfl⟩,A9 r h⟩
structure zHs (p:Prop):Prop where
 out:p
theorem zF0{A B:Prop}(f:zHs A->B)(h:A):B:=f ⟨h⟩
theorem zBv(p:Nat->Addr)(C k:Nat)(z0 z1 z2 z3:Value)(W:A6)(set name:ByteArray)(w:World)(h8:W.sn<=8)(mC:0<=W.time)(lC:0<=W.next)(J:Iw W)(hk:k<W.sn)(A:(W.A2 k).name=set)(x:∀j,j<k->(W.A2 j).name≠set)(iA:set.size<=maxLen)(jA:name.size<=maxLen)(kC:C<w.heap.size)
 (ho:D5 w (C+1) w.heap.size z0 z1 z2 z3 W) (hC:Bb w C z0 z1 (.int .i64 W.time) (.int .i64 W.next) z2 z3 (.int .i64 0) (.int .i64 0) .nilIface) :
 Calls Tryz.prog 23 #[.pointer (some ⟨C,0,none⟩),.string set,.string name] w (IU p ⟨Co W k name set,W.next,0,0⟩ C w):=by
 have Ho:=A4 ho;have HC:=A4 hC;have Hn:=A4 A;have Hf:=A4 x;obtain⟨l0,lA,l1,mA,l2,L,l3,fB,rfl,rfl,rfl,rfl⟩:=ho.form;obtain⟨i,d,vd,rfl,-⟩:=ho.own.at.A2.cells hk;obtain⟨r1,r2,r3⟩:=J;have sA:=A4 iA;have tA:=A4 jA;clear ho hC A x iA jA;have nC:IntKind.i64.wrap (W.time+1)=W.time+1:=wrap_small (by omega) (by omega);have oC:IntKind.i64.wrap (W.next+1)=W.next+1:=wrap_small (by omega) (by omega);obtain⟨-,-,-,c3,c4,-,-,-,-⟩:=HC.out.c;have IX:=A4 (show ∀w',Below w.heap.size w w'->Calls Tryz.prog 36 #[.pointer (some ⟨C,0,none⟩),.string set] w' fun e gB=>e = .returned (.pointer (some ⟨i,d+k*6,none⟩))/\Below w'.heap.size w' gB from fun w' dA=>by
  refine(R7 C (C+1) w.heap.size W.sn k L _ W.A2 set w' ((dA.cell (AV c4)).trans c4) (Ho.out.own.at.A2.A1 dA) h8 hk Hn.out Hf.out).mono ?_;rintro e s ⟨⟨b,off,e1,rfl⟩,E⟩;simp only[Option.some.injEq,Addr.mk.injEq,and_true]at e1;obtain⟨rfl,rfl⟩:=e1;exact⟨rfl,E⟩)
 clear c4;go_enter Tryz.func23,Tryz.ntmps23;go_wp2_with fail;go_region_held3 (fun w'=>w'.cell? ⟨C,3,none⟩=some (.int .i64 W.next)) (go_keep)
  (first | (go_at_call 36;refine(IX.out _ (Below.refl _ _).drew).mono ?_;rintro e s ⟨rfl,E⟩;have u:=Cp E;have eA:=(u.cell (AV c3)).trans c3))
 go_wp2_with fail;have aB:=A4 (Ho.out.A1 u);have G:=A4 (HC.out.A1 u);have pC:=u.size;clear c3 eA E IX Ho HC;obtain⟨⟨x2,-⟩,⟨x5,-⟩⟩:=(⟨G.out.2.2.1,G.out.2.2.2.2.2.1⟩:AO s C 2 _/\AO s C 5 _);obtain⟨P,Q,R,fA,F⟩:=aB.out;have H:Below s.heap.size s s.drew:=(Below.refl _ _).drew;obtain⟨dv,nb,l,jC,kA,g,cap,D,gA,t,oB,aA⟩:=zBC s.drew (C+1) s.heap.size (fA.A1 H) (fun j hj=>by have:=F j hj;omega) (Nat.le_refl _) (by show C+1<=s.heap.size;omega) hk r1 name set tA.out sA.out 28;obtain⟨Y,Z,rfl⟩:∃a c,dv = .slice a (W.A2 k).dn c:=by obtain⟨_,a,c,h,_⟩:=l.dead;exact⟨a,c,h⟩
 have pB:i<s.heap.size:=kA;have r:C≠i:=by omega
 have f:i≠C:=by omega
 have y:=A4 (show ∀w',Below s.drew.heap.size s.drew w'->(fun w':World=>w'.cell? ⟨C,2,none⟩=some (.int .i64 W.time)/\w'.cell? ⟨i,d+k*6+2,none⟩=some (.int .i64 (W.A2 k).A8)/\w'.cell? ⟨i,d+k*6+3,none⟩=some (.int .i64 (W.A2 k).rs)/\w'.cell? ⟨i,d+k*6+4,none⟩=some (.int .i64 (W.A2 k).rb)/\w'.cell? ⟨i,d+k*6+5,none⟩=some (.slice Y (W.A2 k).dn Z)) w' from fun w' hb=>⟨(hb.cell (p:=⟨C,2,none⟩) (AV x2)).trans x2,(l.c2.A1 hb).1,(l.c3.A1 hb).1,(l.c4.A1 hb).1,(l.c5.A1 hb).1⟩);have m:=(G.out.A1 H).AD t (fun h=>by omega);have q:∀{o v},AO s.drew i o v->AO D i o v:=fun h=>h.AD t (fun h=>h.2.2 rfl)
 have O:=A4 (show(fun w':World=>w'.cell? ⟨C,2,none⟩=some (.int .i64 W.time)/\w'.cell? ⟨i,d+k*6+2,none⟩=some (.int .i64 (W.A2 k).A8)/\w'.cell? ⟨i,d+k*6+3,none⟩=some (.int .i64 (W.A2 k).rs)/\w'.cell? ⟨i,d+k*6+4,none⟩=some (.int .i64 (W.A2 k).rb)/\w'.cell? ⟨i,d+k*6+5,none⟩=some (.slice Y (W.A2 k).dn Z)) D from⟨m.2.2.1.1,(q l.c2).1,(q l.c3).1,(q l.c4).1,(q l.c5).1⟩);have T:=A4 (show(fun w':World=>w'.cell? ⟨C,2,none⟩=some (.int .i64 W.time)/\w'.cell? ⟨i,d+k*6+2,none⟩=some (.int .i64 (W.A2 k).A8)/\w'.cell? ⟨i,d+k*6+3,none⟩=some (.int .i64 (W.A2 k).rs)/\w'.cell? ⟨i,d+k*6+4,none⟩=some (.int .i64 (W.A2 k).rb)/\w'.cell? ⟨i,d+k*6+5,none⟩=some (.slice Y (W.A2 k).dn Z)) (D.setCell ⟨C,5,none⟩ (.slice (some ⟨g,0,none⟩) (W.pn+1) cap))from⟨(m.2.2.1.other _ (Or.inr (by decide))).1,((q l.c2).other _ (Or.inl r)).1,((q l.c3).other _ (Or.inl r)).1,((q l.c4).other _ (Or.inl r)).1,((q l.c5).other _ (Or.inl r)).1⟩);have N:=A4 m;have U:=A4 (q l.c2);have V:=A4 (q l.c5);have pA:=A4 (aA.own (show C+1<=s.heap.size+1 by omega) (show s.heap.size<=D.heap.size from t.size));have X:=A4 (show AC (fun j=>C+1<=j/\j<s.heap.size/\j≠i) s D from⟨t.os,t.tape,t.output,t.size,t.block⟩);have HR:=A4 gA;have z:=A4 (AB s.drew (.cells #[.int .i64 W.next,.string name,.string set,.int .i64 (W.A2 k).A8,.int .i64 W.time,.int .i64 (W.A2 k).rs,.int .i64 (W.A2 k).rb,.slice Y (W.A2 k).dn Z] 41));have M:s.drew.cell? ⟨C,5,none⟩=some (.slice l3 W.pn fB):=x5;have X5:=A4 ((z.out.cell (AV M)).trans M);obtain⟨y5,g5⟩:=m.2.2.2.2.2.1;clear gA aA t l fA F kA m q x2 x5;refine wp_region_held_drew (S:=(fun w':World=>w'.cell? ⟨C,2,none⟩=some (.int .i64 W.time)/\w'.cell? ⟨i,d+k*6+2,none⟩=some (.int .i64 (W.A2 k).A8)/\w'.cell? ⟨i,d+k*6+3,none⟩=some (.int .i64 (W.A2 k).rs)/\w'.cell? ⟨i,d+k*6+4,none⟩=some (.int .i64 (W.A2 k).rb)/\w'.cell? ⟨i,d+k*6+5,none⟩=some (.slice Y (W.A2 k).dn Z))) (by kernel_rfl) (y.out _ (Below.refl _ _)) (fun hHeld=>?_);generalize s.drew=q0 at hHeld y HR z M X5 H ⊢
 refine' zF0 (fun hfin=>_) _
 rotate_left
 ·skip;refine tk 0 (h:=tk 1 (h:=tk 2 (h:=tk 3 (h:=tk 4 (h:=tk 6 (h:=tk 7 (h:=tk 8 (h:=tk 9 (h:=tk 10 (h:=tk 11 (h:=tk 12 (h:=tk 13 (h:=tk 14 (h:=tk 15 (h:=tk 16 (h:=tk 17 (h:=tk 18 (h:=tk 19 (h:=tk 20 (h:=tk 21 (h:=tk 22 (h:=tk 23 (h:=tk 24 (h:=tk 25 (h:=tk 26 (h:=?_))))))))))))))))))))))))));refine rd [5,27] (rc (fun K hK=>?_) (rc (fun K hK=>?_) .nil))
  ·go_simp
   (try go_wp2_with fail)
   refine hK.out _ _ (y.out _ (Below.refl _ _)) ?_;clear hK K;intro hHeld
   try simp only[Act.put,s1,s2,s3]
   refine rd [27] (rc (fun K hK=>?_) .nil);go_simp
   (try go_wp2_with fail)
   refine hK.out _ _ (y.out _ z.out) ?_;clear hK K;intro hHeld
   try simp only[Act.put,s1,s2,s3]
   refine rd [28] (rc (fun K hK=>?_) .nil);refine Rq rfl (.tmp 21) (.tmp 43) 28 rfl _ _ _ rfl rfl HR.out ?_
   (try go_wp2_with fail)
   refine hK.out _ _ (O.out) ?_;clear hK K;intro hHeld
   try simp only[Act.put,s1,s2,s3]
   refine tk 29 (h:=tk 30 (h:=tk 31 (h:=?_)));refine rd [32] (rc (fun K hK=>?_) .nil);go_simp
   (try go_wp2_with fail)
   refine hK.out _ _ (T.out) ?_;clear hK K;intro hHeld
   try simp only[Act.put,s1,s2,s3]
   refine wpAnyH_done (by kernel_rfl) ?_ _;exact hfin.out
  ·go_simp
   (try go_wp2_with fail)
   refine hK.out _ _ (y.out _ z.out) ?_;clear hK K;intro hHeld
   try simp only[Act.put,s1,s2,s3]
   refine rd [5] (rc (fun K hK=>?_) .nil);have jB:=X5.out;go_simp
   (try go_wp2_with fail)
   refine hK.out _ _ (y.out _ z.out) ?_;clear hK K;intro hHeld
   try simp only[Act.put,s1,s2,s3]
   clear jB;refine rd [28] (rc (fun K hK=>?_) .nil);refine Rq rfl (.tmp 21) (.tmp 43) 28 rfl _ _ _ rfl rfl HR.out ?_
   (try go_wp2_with fail)
   refine hK.out _ _ (O.out) ?_;clear hK K;intro hHeld
   try simp only[Act.put,s1,s2,s3]
   refine tk 29 (h:=tk 30 (h:=tk 31 (h:=?_)));refine rd [32] (rc (fun K hK=>?_) .nil);go_simp
   (try go_wp2_with fail)
   refine hK.out _ _ (T.out) ?_;clear hK K;intro hHeld
   try simp only[Act.put,s1,s2,s3]
   refine wpAnyH_done (by kernel_rfl) ?_ _;exact hfin.out
 obtain⟨-,-,⟨y2,g2⟩,⟨y3,g3⟩,-,-,⟨y6,g6⟩,-,-⟩:=N.out;obtain⟨t2,tC⟩:=U.out;obtain⟨t5,vC⟩:=V.out;go_wp2_with fail;have m:=N.out;have I:Bb ((((((D.setCell ⟨C,5,none⟩ (.slice (some ⟨g,0,none⟩) (W.pn+1) cap)).setCell ⟨i,d+k*6+2,none⟩ (.int .i64 W.next)).setCell ⟨i,d+k*6+5,none⟩ (.slice none 0 0)).setCell ⟨C,6,none⟩ (.int .i64 W.next)).setCell ⟨C,2,none⟩ (.int .i64 (W.time+1))).setCell ⟨C,3,none⟩ (.int .i64 (W.next+1))) C (.slice l0 W.pool.n lA) (.slice l1 W.pool.hn mA) (.int .i64 (W.time+1)) (.int .i64 (W.next+1)) (.slice (some ⟨i,d,none⟩) W.sn L) (.slice (some ⟨g,0,none⟩) (W.pn+1) cap) (.int .i64 W.next) (.int .i64 0) .nilIface:=⟨((((((m.1.other _ (Or.inr (by decide))).other _ (Or.inl f)).other _ (Or.inl f)).other _ (Or.inr (by decide))).other _ (Or.inr (by decide))).other _ (Or.inr (by decide))),((((((m.2.1.other _ (Or.inr (by decide))).other _ (Or.inl f)).other _ (Or.inl f)).other _ (Or.inr (by decide))).other _ (Or.inr (by decide))).other _ (Or.inr (by decide))),((((((m.2.2.1.other _ (Or.inr (by decide))).other _ (Or.inl f)).other _ (Or.inl f)).other _ (Or.inr (by decide))).set _).other _ (Or.inr (by decide))),((((((m.2.2.2.1.other _ (Or.inr (by decide))).other _ (Or.inl f)).other _ (Or.inl f)).other _ (Or.inr (by decide))).other _ (Or.inr (by decide))).set _),((((((m.2.2.2.2.1.other _ (Or.inr (by decide))).other _ (Or.inl f)).other _ (Or.inl f)).other _ (Or.inr (by decide))).other _ (Or.inr (by decide))).other _ (Or.inr (by decide))),((((((m.2.2.2.2.2.1.set _).other _ (Or.inl f)).other _ (Or.inl f)).other _ (Or.inr (by decide))).other _ (Or.inr (by decide))).other _ (Or.inr (by decide))),((((((m.2.2.2.2.2.2.1.other _ (Or.inr (by decide))).other _ (Or.inl f)).other _ (Or.inl f)).set _).other _ (Or.inr (by decide))).other _ (Or.inr (by decide))),((((((m.2.2.2.2.2.2.2.1.other _ (Or.inr (by decide))).other _ (Or.inl f)).other _ (Or.inl f)).other _ (Or.inr (by decide))).other _ (Or.inr (by decide))).other _ (Or.inr (by decide))),((((((m.2.2.2.2.2.2.2.2.other _ (Or.inr (by decide))).other _ (Or.inl f)).other _ (Or.inl f)).other _ (Or.inr (by decide))).other _ (Or.inr (by decide))).other _ (Or.inr (by decide)))⟩;have bB:EL ((((((D.setCell ⟨C,5,none⟩ (.slice (some ⟨g,0,none⟩) (W.pn+1) cap)).setCell ⟨i,d+k*6+2,none⟩ (.int .i64 W.next)).setCell ⟨i,d+k*6+5,none⟩ (.slice none 0 0)).setCell ⟨C,6,none⟩ (.int .i64 W.next)).setCell ⟨C,2,none⟩ (.int .i64 (W.time+1))).setCell ⟨C,3,none⟩ (.int .i64 (W.next+1))) (C+1) D.heap.size (.slice l0 W.pool.n lA) (.slice l1 W.pool.hn mA) (.slice (some ⟨i,d,none⟩) W.sn L) (.slice (some ⟨g,0,none⟩) (W.pn+1) cap) (Co W k name set):=by
  rw[Yy D 5 (d+k*6+2) _ _ r,Yy _ 5 (d+k*6+5) _ _ r];exact pA.out.AD ((((AC.put _ C 5 _).trans (AC.put _ C 6 _)).trans (AC.put _ C 2 _)).trans (AC.put _ C 3 _)) (fun j e=>by omega)
 have bA:AC (fun j=>C<=j) D ((((((D.setCell ⟨C,5,none⟩ (.slice (some ⟨g,0,none⟩) (W.pn+1) cap)).setCell ⟨i,d+k*6+2,none⟩ (.int .i64 W.next)).setCell ⟨i,d+k*6+5,none⟩ (.slice none 0 0)).setCell ⟨C,6,none⟩ (.int .i64 W.next)).setCell ⟨C,2,none⟩ (.int .i64 (W.time+1))).setCell ⟨C,3,none⟩ (.int .i64 (W.next+1))):=(((((AC.put _ C 5 _).mono (fun j e=>by omega)).trans ((AC.put _ i _ _).mono (fun j e=>by omega))).trans ((AC.put _ i _ _).mono (fun j e=>by omega))).trans ((AC.put _ C 6 _).mono (fun j e=>by omega))).trans (((AC.put _ C 2 _).mono (fun j e=>by omega)).trans ((AC.put _ C 3 _).mono (fun j e=>by omega)));have rC:=X.out.size;have eB:=bA.size;go_end0;refine⟨⟨_,rfl⟩,?_,by omega,Or.inl ⟨rfl,_,_,_,_,I,bB.wide (Nat.le_refl _) eB⟩⟩;exact(u.mono (by omega)).trans ((X.out.A1 (B:=C) (by omega) (fun j h=>by omega)).trans (bA.A1 (B:=C) (by omega) (fun j h=>h)))
theorem zCR(p:Nat->Addr)(C k r s:Nat)(m n o q:Value)(W:A6)(set name:ByteArray)(w:World)(D:W.sn<=8)(l:0<=W.time)(f:0<=W.next)(c:Iw W)(E:k<W.sn)(b:(W.A2 k).name=set)(a:∀j,j<k->(W.A2 j).name≠set)(g:set.size<=maxLen)(i:name.size<=maxLen)(d:C<w.heap.size)
 (F:w.cell? ⟨r,0,none⟩=some (.string set)) (G:w.cell? ⟨s,0,none⟩=some (.string name)) (u:D5 w (C+1) w.heap.size m n o q W) (t:Bb w C m n (.int .i64 W.time) (.int .i64 W.next) o q (.int .i64 0) (.int .i64 0) .nilIface) :
 Calls Tryz.prog 22 #[.pointer (some ⟨C,0,none⟩),.pointer (some ⟨r,0,none⟩),.pointer (some ⟨s,0,none⟩)] w (IU p ⟨Co W k name set,W.next,0,0⟩ C w):=by
 have H:=A4 (zBv p C k m n o q W set name w D l f c E b a g i d u t);clear u t b a c;go_enter Tryz.func22,Tryz.ntmps22;go_wp2_with fail;refine H.out.mono ?_;rintro e w' ⟨⟨v,rfl⟩,x⟩;have y:=A4 x;clear x;go_wp2_with fail;go_end0;refine⟨⟨_,rfl⟩,?_⟩;obtain⟨z,A,B⟩:=y.out;refine⟨z,A,?_⟩;rcases B with⟨-,h⟩ | h
 ·exact Or.inl ⟨rfl,h⟩
 ·exact Or.inr h
theorem zD1(p:Nat->Addr)(l v1 m n:Value)(lo hi:Nat)(W:A6)(set:ByteArray)(name:ByteArray)(w:World)(B:D8 w p)(h:C7 w lo hi l v1 m n W)(d:G4 W)(v:Ap W.pool<=1048576)(x:W.sn<=1048576)(y:W.pn<=1048576)(z:JX W)(b:set.size<=maxLen)(a:name.size<=maxLen) :
 Calls Tryz.prog 5 #[Cc l v1 m n W,.string set,.string name] w fun e w'=>∃r o,FN W (∃i,i<2/\8000<((fun i=>match i with | 0=>set | _=>name) i).size) (∃i,i<1/\¬BX ((fun i=>match i with  | _=>name) i)) 3 (fun i=>match i with | 0=>BL W set | 1=>¬∃i,i<W.pn/\(W.A3 i).set=set/\(W.A3 i).name=name | _=>Iw W) (fun i=>match i with | 0=>2 | 1=>3 | _=>4) r/\(r=none->∃k,Gs W set k/\o=⟨Co W k name set,W.next,0,0⟩)/\Iv (Ez r o) w e w':=by
 by_cases hs:BL W set
 ·obtain⟨k,j⟩:=Qr hs;refine(ZG p l v1 m n lo hi W set name ⟨Co W k name set,W.next,0,0⟩ w B h d v x y z b a ?_).mono ?_
  ·intro t u C w' G H I J E _ F _ g _ _ s c K D A;have L:=g.Aq.time;have hn:=g.Aq.next;exact zCR p C k t u G H I J W set name w' g.Aq.A2.1 (by have:=L.1;omega) (by have:=hn.1;omega) (s 2 (by omega)) j.1 j.2.1 j.2.2 b a c E F D A
  ·rintro e w' ⟨r,f,q⟩;exact⟨r,_,f,fun _=>⟨k,j,rfl⟩,q⟩
 ·refine(ZG p l v1 m n lo hi W set name (BP 0) w B h d v x y z b a ?_).mono ?_
  ·intro t u C w' G H I J E _ F _ g _ _ s c K D A;exact absurd (s 0 (by omega)) hs
  ·rintro e w' ⟨r,f,q⟩;exact⟨r,_,f,fun e=>absurd ((e▸f).all 0 (by omega)) hs,q⟩
def lwD(p:A7)(xs xb:Int)(k:Nat):ByteArray:=if Nil (BZ p xs xb k) (Bh p xs xb k)then⟨#[]⟩else(p.s (BZ p xs xb k).toNat).data
variable{p:A7}
theorem QW{xs xb:Int}(h:Nil xs xb):lwD p xs xb k=⟨#[]⟩:=by
 have hn:Nil (BV p xs xb k) (Bj p xs xb k):=⟨if_pos h,if_pos h⟩;exact if_pos ⟨if_pos hn,if_pos hn⟩
theorem QV{xs xb:Int}(hn:Nil (BV p xs xb k) (Bj p xs xb k)):lwD p xs xb k=⟨#[]⟩:=if_pos ⟨if_pos hn,if_pos hn⟩
open Go.Maps
theorem Nm{V:A6}(h:DD V):∀{k i:Nat},i<k->k<V.sn->Cd (V.A2 i).name (V.A2 k).name
 | k+1,i,hi,hk=>by
  have g:=(h.2.2.2.2.1 (k+1) hk).2.1 (by omega);rw[Nat.add_sub_cancel]at g;by_cases e:i=k
  ·rw[e];exact g
  ·exact zBL (Nm h (by omega) (by omega)) g
theorem ZU{V:A6}(h:DD V):∀{k i:Nat},i<k->k<V.pn->(V.A3 i).id<(V.A3 k).id
 | k+1,i,hi,hk=>by
  have g:=((h.2.2.2.2.2 (k+1) hk).2.1.1 (by omega)).1;rw[Nat.add_sub_cancel]at g;by_cases e:i=k
  ·rw[e];exact g
  ·exact Int.lt_trans (ZU h (by omega) (by omega)) g
def EU(p q:A7)(rs rb:Int):Prop:=q.n=p.n/\∀z,z∈AG p rs rb->q.s z.1.toNat=p.s z.1.toNat/\¬Has q.hn q.h z.1
section
variable {p q : A7} {rs rb : Int}
theorem Nk(h:¬Nil rs rb):(rs,rb)∈AG p rs rb:=by
 unfold AG;rw[if_neg h];exact List.mem_cons_self ..
variable{i:Nat}
theorem TK(h:¬Nil rs rb){x:Int×Int}(hi:i<8)(a:x∈Ck p (AK (p.s rs.toNat) i) (AW (p.s rs.toNat) i)):x∈AG p rs rb:=by
 unfold AG;rw[if_neg h];exact List.mem_cons_of_mem _ (Gf.2 ⟨i,hi,a⟩)
theorem Pt(h:¬Nil rs rb)(hi:i<8)(a:¬Nil (AK (p.s rs.toNat) i) (AW (p.s rs.toNat) i)):(AK (p.s rs.toNat) i,AW (p.s rs.toNat) i)∈AG p rs rb:=TK h hi (I5.2 ⟨a,.inl rfl⟩)
theorem TJ(h:¬Nil rs rb){j:Nat}(hi:i<8)(a:j<8)(b:¬Nil (AK (p.s rs.toNat) i) (AW (p.s rs.toNat) i))(c:¬Nil (AK (p.s (AK (p.s rs.toNat) i).toNat) j) (AW (p.s (AK (p.s rs.toNat) i).toNat) j)):(AK (p.s (AK (p.s rs.toNat) i).toNat) j,AW (p.s (AK (p.s rs.toNat) i).toNat) j)∈AG p rs rb:=TK h hi (I5.2 ⟨b,.inr (Gk.2 ⟨j,a,rfl,c⟩)⟩)
theorem UF{s:AH}:∀{k:Nat},(∀i,i<k->¬Nil (AK s i) (AW s i)->q.s (AK s i).toNat=p.s (AK s i).toNat)->CR q s k=CR p s k
 | 0,_=>rfl
 | k+1,h=>by
  unfold CR;rw[UF (fun i hi=>h i (by omega))];congr 1;unfold Ck;by_cases a:Nil (AK s k) (AW s k)
  ·rw[if_pos a,if_pos a]
  ·rw[if_neg a,if_neg a,h k (Nat.lt_succ_self k) a]
theorem EU.tree(h:EU p q rs rb):AG q rs rb=AG p rs rb:=by
 by_cases a:Nil rs rb
 ·unfold AG;rw[if_pos a,if_pos a]
 ·have e:=(h.2 _ (Nk a)).1;have:=UF (p:=p) (q:=q) (s:=p.s rs.toNat) (k:=8) fun i hi b=>(h.2 _ (Pt a hi b)).1
  unfold AG;rw[if_neg a,if_neg a,e,this]
theorem EU.ok(h:EU p q rs rb)(v:B3 p rs rb):B3 q rs rb:=by
 refine v.imp id fun ⟨n,hT,hD⟩=>?_
 have k:¬Nil rs rb:=fun e=>by have:=n.1.1;have:=e.2;omega
 have t:∀a b,(a,b)∈AG p rs rb->B8 p a b->B8 q a b:=fun a b d c=>⟨c.1,c.2.1,by rw[h.1];exact c.2.2.1,by rw[(h.2 _ d).1];exact c.2.2.2⟩
 have r:∀a b,(a,b)∈AG p rs rb->Db p a b->Db q a b:=fun a b d c=>⟨t a b d c.1,by rw[(h.2 _ d).1];exact c.2.1,(h.2 _ d).2⟩
 refine⟨r _ _ (Nk k) n,?_,by rw[h.tree];exact hD⟩;rw[(h.2 _ (Nk k)).1];refine⟨fun i hi=>?_,hT.2⟩;by_cases g:Nil (AK (p.s rs.toNat) i) (AW (p.s rs.toNat) i)
 ·exact .inl g
 obtain⟨u,m⟩:=(hT.1 i hi).resolve_left g;have d:=Pt k hi g;refine .inr ⟨r _ _ d u,?_⟩;rw[(h.2 _ d).1];refine⟨fun j o=>?_,m.2⟩;by_cases l:Nil (AK (p.s (AK (p.s rs.toNat) i).toNat) j) (AW (p.s (AK (p.s rs.toNat) i).toNat) j)
 ·exact .inl l
 have c:=(m.1 j o).resolve_left l;have f:=TJ k hi o g l;exact .inr ⟨t _ _ f c.1,by rw[(h.2 _ f).1];exact c.2.1,(h.2 _ f).2⟩
theorem EU.AM(h:EU p q rs rb)(m:k<64):lwD q rs rb k=lwD p rs rb k:=by
 by_cases a:Nil rs rb
 ·rw[QW a,QW a]
 have e:=(h.2 _ (Nk a)).1;have d:BV q rs rb k=BV p rs rb k/\Bj q rs rb k=Bj p rs rb k:=by
  unfold BV Bj BU Bf;rw[if_neg a,if_neg a,if_neg a,if_neg a,e];exact⟨rfl,rfl⟩
 by_cases hn:Nil (BV p rs rb k) (Bj p rs rb k)
 ·rw[QV hn,QV (by rw[d.1,d.2];exact hn)]
 have c1:BV p rs rb k=AK (p.s rs.toNat) (k / 8):=if_neg a;have i:Bj p rs rb k=AW (p.s rs.toNat) (k / 8):=if_neg a;have c:¬Nil (AK (p.s rs.toNat) (k / 8)) (AW (p.s rs.toNat) (k / 8)):=by rw[<-c1,<-i];exact hn
 have l:q.s (BV p rs rb k).toNat=p.s (BV p rs rb k).toNat:=by rw[c1];exact(h.2 _ (Pt a (by omega) c)).1
 have f:BZ q rs rb k=BZ p rs rb k/\Bh q rs rb k=Bh p rs rb k:=by
  unfold BZ Bh;rw[d.1,d.2];unfold BU Bf;rw[if_neg hn,if_neg hn,if_neg hn,if_neg hn,l];exact⟨rfl,rfl⟩
 unfold lwD;rw[f.1,f.2];by_cases b:Nil (BZ p rs rb k) (Bh p rs rb k)
 ·rw[if_pos b,if_pos b]
 ·rw[if_neg b,if_neg b];have g:BZ p rs rb k=AK (p.s (AK (p.s rs.toNat) (k / 8)).toNat) (k % 8):=(by rw[<-c1];exact if_neg hn);have j:Bh p rs rb k=AW (p.s (AK (p.s rs.toNat) (k / 8)).toNat) (k % 8):=(by rw[<-c1];exact if_neg hn);rw[g,j]at b;rw[g,(h.2 _ (TJ a (by omega) (by omega) c b)).1]
end
structure EI (W:A6):Prop where
 right:AZ W.pool
 Aq:DD W
 lines:∀i,i<W.sn->FA W (W.A2 i).name (W.A2 i).A8 (W.A2 i).origin
 A3:∀i,i<W.pn->B3 W.pool (W.A3 i).rs (W.A3 i).rb
 A2:∀i,i<W.sn->B3 W.pool (W.A2 i).rs (W.A2 i).rb/\DU W (W.pn+i)
 dead:∀i,i<W.pn->DU W i
 born:∀i,i<memN W->EX W i
 Bn:Ic W
variable{W:A6}
theorem B4.toU(h:B4 W):EI W:=⟨h.right,h.Aq,h.lines,h.A3,h.A2,h.dead,h.born,h.Bn⟩
theorem EI.spec(h:EI W)(a:Q9 W):B4 W:=⟨h.right,h.Aq,h.lines,h.A3,h.A2,h.dead,a,h.born,h.Bn⟩
variable{i:Nat}
theorem EI.mem(h:EI W)(hi:i<memN W):B3 W.pool (AA W i).rs (AA W i).rb:=(Nw h.right h.Aq h.A3 fun j a=>(h.A2 j a).1).tree i hi
theorem NE(h:B4 W)(hi:i<memN W):B3 W.pool (AA W i).rs (AA W i).rb:=h.toU.mem hi
variable{V:A6}{nm:ByteArray}
theorem Steps.same(a:V.pn=W.pn)(hs:V.A3=W.A3){st:Int}{n:Nat}{x:Int}(g:Steps W nm st n x):Steps V nm st n x:=by
 induction g with
 | zero=>exact .zero
 | next _ hk hn ih=>
  have:=Steps.next ih (show BW V _ _ by unfold BW at hk ⊢;rw[a,hs];exact hk) (by rw[hs];exact hn)
  rwa [hs]at this
theorem FA.same(b:V.pn=W.pn)(hs:V.A3=W.A3){st o:Int}(h:FA W nm st o):FA V nm st o:=by
 obtain⟨n,e,c,d,f,g⟩:=h;have a:∀k,ownN V nm k=ownN W nm k:=fun k=>by
  induction k with
  | zero=>rfl
  | succ k ih=>unfold ownN;rw[ih,hs]
 exact⟨n,e,c.same b hs,fun ⟨k,hk,hn⟩=>d ⟨k,by unfold BW at hk ⊢;rw[<-b,<-hs];exact hk,by rw[<-hs];exact hn⟩,by rw[a,b];exact f,g⟩
structure OnW (W V:A6):Prop where
 sn:V.sn=W.sn
 A2:V.A2=W.A2
 pn:V.pn=W.pn
 A3:V.A3=W.A3
 next:V.next=W.next
 time:W.time<=V.time/\V.time<=900000
 tree:∀i,i<memN W->EU W.pool V.pool (AA W i).rs (AA W i).rb
section
variable {W V : A6}
theorem OnW.snapNo(h:OnW W V)(x:Int)(k:Nat):BW V x k↔BW W x k:=by unfold BW;rw[h.pn,h.A3]
theorem OnW.ahead(h:OnW W V)(x:Int):AI V x=AI W x:=by
 by_cases b:∃k,BW W x k
 ·obtain⟨k,a⟩:=b;rw[DW a,DW ((h.snapNo x k).2 a),h.A3]
 ·unfold AI;rw[dif_neg b,dif_neg (fun ⟨k,a⟩=>b ⟨k,(h.snapNo x k).1 a⟩)]
theorem OnW.memN(h:OnW W V):memN V=memN W:=by unfold Go.Proofs.YtddigaohmfpepaaGreatDoor.memN;rw[h.sn,h.pn]
theorem OnW.mem(h:OnW W V)(i:Nat):∃t,AA V i = {AA W i with time:=t}/\(AA W i).time<=t:=by
 unfold AA;rw[h.pn,h.A3,h.A2];by_cases hi:i<W.pn
 ·rw[if_pos hi,if_pos hi];exact⟨_,rfl,Int.le_refl _⟩
 ·rw[if_neg hi,if_neg hi];exact⟨V.time,rfl,h.time.1⟩
theorem OnW.treeM(h:OnW W V)(hi:i<Go.Proofs.YtddigaohmfpepaaGreatDoor.memN W):treeM V (AA V i)=Go.Proofs.YtddigaohmfpepaaGreatDoor.treeM W (AA W i):=by
 obtain⟨t,e,-⟩:=h.mem i;rw[e];exact(h.tree i hi).tree
theorem OnW.root(h:OnW W V)(x:Int):AG V.pool (AI W x).rs (AI W x).rb=AG W.pool (AI W x).rs (AI W x).rb:=by
 by_cases b:∃k,BW W x k
 ·obtain⟨k,a⟩:=b;rw[DW a];have:=(h.tree k (by unfold Go.Proofs.YtddigaohmfpepaaGreatDoor.memN;have:=a.1;omega)).tree
  rwa [CH a.1]at this
 ·unfold AI;rw[dif_neg b];rfl
theorem OnW.oldM(h:OnW W V)(i:Nat):oldM V (AA V i)=Go.Proofs.YtddigaohmfpepaaGreatDoor.oldM W (AA W i):=by
 obtain⟨t,e,-⟩:=h.mem i;rw[e];show AG V.pool (AI V (AA W i).A8).rs (AI V (AA W i).A8).rb=_;rw[h.ahead,h.root];rfl
theorem OnW.specU(h:OnW W V)(hs:EI W)(C:AZ V.pool):EI V:=by
 have f:∀x,CK V x↔CK W x:=fun x=>by unfold CK;rw[h.pn,h.A3]
 have l:∀x,BL V x↔BL W x:=fun x=>by unfold BL;rw[h.sn,h.A2]
 have k:∀i,(AA V i).rs=(AA W i).rs/\(AA V i).rb=(AA W i).rb:=fun i=>by obtain⟨t,e,-⟩:=h.mem i;rw[e];exact⟨rfl,rfl⟩
 have a:∀i,i<Go.Proofs.YtddigaohmfpepaaGreatDoor.memN W->DU W i->DU V i:=fun i hi g=>by
  unfold DU at g ⊢;rw[h.treeM hi,h.oldM i];obtain⟨t,e,-⟩:=h.mem i;rw[e];exact g
 have m:∀i,i<V.pn->i<Go.Proofs.YtddigaohmfpepaaGreatDoor.memN W:=fun i hi=>by unfold Go.Proofs.YtddigaohmfpepaaGreatDoor.memN;rw[h.pn]at hi;omega
 have b:∀i,i<Go.Proofs.YtddigaohmfpepaaGreatDoor.memN W->B3 V.pool (AA V i).rs (AA V i).rb:=fun i hi=>by
  rw[(k i).1,(k i).2];exact(h.tree i hi).ok (hs.mem hi)
 refine⟨C,?_,?_,fun i hi=>?_,fun i hi=>?_,fun i hi=>a i (m i hi) (hs.dead i (by rw[<-h.pn];exact hi)),fun i hi=>?_,?_⟩
 ·obtain⟨⟨E,F⟩,q,r,s,u,v⟩:=hs.Aq;have n:=h.time;refine⟨⟨by omega,n.2⟩,by rw[h.next];exact q,by rw[h.sn];exact r,by rw[h.pn];exact s,fun i hi=>?_,fun i hi=>?_⟩
  ·have g:=u i (by rw[<-h.sn];exact hi);unfold GJ at g ⊢;rw[h.A2];exact⟨g.1,g.2.1,fun e=>(f _).2 (g.2.2.1 e),fun e=>(f _).2 (g.2.2.2 e)⟩
  ·have g:=v i (by rw[<-h.pn];exact hi);unfold KJ Mr LJ LK at g ⊢;rw[h.A3,h.next];obtain⟨⟨w,y,z,G,A,B⟩,⟨c1,o⟩,d⟩:=g;exact⟨⟨w,y,z,by omega,A,(l _).2 B⟩,⟨c1,fun e=>⟨(o e).1,(f _).2 (o e).2⟩⟩,d⟩
 ·intro i hi;rw[h.A2];exact(hs.lines i (by rw[<-h.sn];exact hi)).same h.pn h.A3
 ·have:=b i (m i hi)
  rwa [CH hi]at this
 ·have c:V.pn+i<Go.Proofs.YtddigaohmfpepaaGreatDoor.memN W:=(by rw[<-h.memN];unfold Go.Proofs.YtddigaohmfpepaaGreatDoor.memN;omega);have:=b _ c;rw[C4]at this;exact⟨this,a _ c (by rw[h.pn];exact(hs.A2 i (by rw[<-h.sn];exact hi)).2)⟩
 ·have c:i<Go.Proofs.YtddigaohmfpepaaGreatDoor.memN W:=(by rw[<-h.memN];exact hi);have g:=hs.born i c;unfold EX at g ⊢;rw[h.treeM c,h.oldM i];obtain⟨t,e,n⟩:=h.mem i;rw[e];dsimp only;rw[h.ahead];exact fun x p=>⟨Int.le_trans (g x p).1 n,(g x p).2⟩
 ·intro i hi j D;have c:i<Go.Proofs.YtddigaohmfpepaaGreatDoor.memN W:=(by rw[<-h.memN];exact hi);unfold CB;rw[h.treeM c,h.oldM i,h.treeM (show j<Go.Proofs.YtddigaohmfpepaaGreatDoor.memN W by omega),h.oldM j];exact hs.Bn i c j D
end
theorem NQ{z:Int}:∀{l:List (Int×Int)} {p:A7},Has (BJ p l).hn (BJ p l).h z↔Has p.hn p.h z\/∃x,x∈l/\x.1=z
 | [],p=>⟨.inl,fun h=>h.resolve_right fun ⟨_,b,_⟩=>by cases b⟩
 | a :: l,p=>by
  have e:Has (CQ p a.1).hn (CQ p a.1).h z↔Has p.hn p.h z\/z=a.1:=by
   refine⟨XU,fun h=>?_⟩;rcases h with⟨j,c,e⟩ | rfl
   ·exact⟨j,Nat.lt_succ_of_lt c,(if_neg (by omega)).trans e⟩
   ·exact⟨p.hn,Nat.lt_succ_self _,if_pos rfl⟩
  show Has (BJ (CQ p a.1) l).hn (BJ (CQ p a.1) l).h z↔_;rw[NQ,e];constructor
  ·rintro((h | rfl) | ⟨x,b,h⟩)
   ·exact .inl h
   ·exact .inr ⟨a,List.mem_cons_self ..,rfl⟩
   ·exact .inr ⟨x,List.mem_cons_of_mem _ b,h⟩
  ·rintro(h | ⟨x,b,h⟩)
   ·exact .inl (.inl h)
   ·rcases List.mem_cons.1 b with rfl | b
    ·exact .inl (.inr h.symm)
    ·exact .inr ⟨x,b,h⟩
theorem XV{l:List (Int×Int)}{rs rb:Int}(h:∀z,z∈AG p rs rb->¬Has p.hn p.h z.1/\∀x,x∈l->x.1≠z.1):EU p (BJ p l) rs rb:=
 ⟨(EQ l p).1,fun z a=>⟨by rw[(EQ l p).2.1],fun g=>(NQ.1 g).elim (h z a).1 fun ⟨x,hx,e⟩=>(h z a).2 x hx e⟩⟩
section
variable {W : A6}
variable{m:Cq}{x:Int×Int}
theorem NF(h:x∈oldM W m):∃j,BW W m.A8 j/\x∈treeM W (AA W j):=by
 by_cases a:∃j,BW W m.A8 j
 ·obtain⟨j,b⟩:=a;unfold oldM at h;rw[DW b]at h;exact⟨j,b,by rw[CH b.1];exact h⟩
 ·have:AI W m.A8=DL:=(by unfold AI;rw[dif_neg a]);unfold oldM at h;rw[this,AG,if_pos ⟨rfl,rfl⟩]at h;cases h
theorem Gx:x∈CB W m↔x∈treeM W m/\x∉oldM W m:=by
 unfold CB BR;rw[List.mem_filter,decide_eq_true_iff]
theorem XX(a:EI W){x:Int×Int}:∀(N:Nat) (k:Nat),k<W.pn->(W.A3 k).id<N->x∈treeM W (AA W k)->∃i,i<W.pn/\x∈CB W (AA W i)
 | 0,k,hk,h1,_=>by have:=a.Aq.ER.pos k hk;omega
 | N+1,k,hk,h1,hx=>by
  by_cases d:x∈oldM W (AA W k)
  ·obtain⟨j,c,b⟩:=NF d;have f:=a.Aq.ER.less k hk;have e:=c.2.1;rw[CH hk]at e;have g:(MW (W.A3 k)).A8=(W.A3 k).A8:=rfl;exact XX a N j c.1 (by omega) b
  ·exact⟨k,hk,Gx.2 ⟨hx,d⟩⟩
theorem zFj(a:EI W)(h:x∈oldM W m):∃i,i<W.pn/\x∈CB W (AA W i):=by
 obtain⟨j,b,c⟩:=NF h;have:=a.Aq.ER.pos j b.1;exact XX a ((W.A3 j).id.toNat+1) j b.1 (by omega) c
variable{y:Int×Int}
theorem EI.apart'(b:EI W){j:Nat}(hi:i<memN W)(f:j<memN W)(a:i≠j)(c:x∈CB W (AA W i))(d:y∈CB W (AA W j)):x.1≠y.1:=by
 rcases Nat.lt_or_gt_of_ne a with h | h
 ·exact fun e=>b.Bn j f i h y d x c e.symm
 ·exact b.Bn i hi j h x c y d
theorem VY(b:EI W)(j:k<W.sn)(e:x∈CB W (AA W (W.pn+k))){m:Nat}(f:m<memN W)(c:m≠W.pn+k)(g:y∈treeM W (AA W m)):x.1≠y.1:=by
 have a:W.pn+k<memN W:=by unfold memN;omega
 by_cases d:y∈oldM W (AA W m)
 ·obtain⟨i,hi,h⟩:=zFj b d;exact b.apart' a (by unfold memN;omega) (by omega) e h
 ·exact b.apart' a f (Ne.symm c) e (Gx.2 ⟨g,d⟩)
end
theorem zD9(v0 v1:Value)(lo hi:Nat)(p:A7)(xs xb:Int)(w:World)(Y:CD w lo hi v0 v1 p)(hn:Ap p<=1048576) :
 Calls Tryz.prog 135 #[.agg #[v0,v1],.agg #[A0 xs,A0 xb]] w (PT (JL p xs xb) w):=by
 have K:=AT Y;obtain⟨a,c,a',c',rfl,rfl⟩:=Y.form;have Hn:=AT hn;have pC:p.hn<=1048576:=(by unfold Ap at hn;omega);have rA:p.n<=1048576:=(by unfold Ap at hn;omega);have mA:Hid (∀j,j<p.n->(p.s j).kn<=1048576):=fun j hj=>by have h2:=U1 p.s hj;unfold Ce at h2;unfold Ap at hn;omega
 have aD:p.hn<=c':=(by obtain⟨_,⟨_,_,_,e,h,_⟩⟩:=Y;simp only[Value.slice.injEq,true_and]at e;omega);have fA:=zIT w (.slice a p.n c) (.slice a' p.hn c') (A0 xs) (A0 xb) 26 38 117;obtain⟨i0,eA,X⟩:=Option.map_eq_some_iff.1 Xb;simp only[Prod.mk.injEq]at X;have O:=AT (And.intro eA X);clear Y hn eA X;go_enter Tryz.func135,Tryz.ntmps135;go_wp2_with fail;generalize ((w.alloc (.cells #[.slice a p.n c,.slice a' p.hn c'] 26)).alloc (.cells #[A0 xs,A0 xb] 38)).alloc (.cells #[A5,A5,A0 0,A0 0,A0 0] 117)=W at fA ⊢;obtain⟨hB,hX,hR,U,hz⟩:=fA;refine(MR _ _ lo hi p _ (K.out.A1 U)).mono ?_;rintro e w1 ⟨⟨t,rfl,x⟩,A⟩;have S:=AT (hB.A1 A);have T:=AT (hX.A1 A);have I:=AT (hR.A1 A);have L:=A9 U A;have vA:w.heap.size+3<=w1.heap.size:=(by have:=A.size;omega);clear hB hX hR U A hz;by_cases z:AZ p
 · have y:=AT z
   obtain rfl:t=true:=x.2 z;clear x z;obtain⟨⟨x0,x1⟩,⟨x2,x3⟩⟩:=S.out;obtain⟨⟨y0,y1⟩,⟨y2,y3⟩⟩:=T.out;go_wp2_with fail;refine(OG _ p.n lo hi p.s _ _ _ (K.out.1.A1 L)).mono ?_;rintro e w2 ⟨⟨t,rfl,x⟩,C⟩;rw[OH y.out]at x;have F:=AT (S.out.A1 C);have J:=AT (T.out.A1 C);have q:=AT (I.out.A1 C);have r:=A9 L C;have tC:w.heap.size+3<=w2.heap.size:=(by have:=C.size;omega);clear C L S T I vA x0 x1 x2 x3 y0 y1 y2 y3;by_cases hP:B8 p xs xb
   · have HP:=AT hP
     obtain rfl:t=true:=x.2 hP;clear x hP;obtain⟨⟨x0,x1⟩,⟨x2,x3⟩⟩:=F.out;obtain⟨⟨y0,y1⟩,⟨y2,y3⟩⟩:=J.out;go_wp2_with fail;refine(On _ p.hn lo hi p.h _ _ (K.out.2.A1 r)).mono ?_;rintro e Q ⟨⟨t,rfl,x⟩,tA⟩;subst tA;by_cases Z:Has p.hn p.h xs
     · have HH:=AT Z
       obtain rfl:t=true:=x.2 Z;clear x Z;obtain⟨⟨u0,u1⟩,⟨u2,u3⟩,⟨u4,u5⟩,⟨u6,u7⟩,⟨u8,u9⟩⟩:=q.out;go_wp2;have b:=q.out.put (A5) (A5) (A0 0) (A0 0) (A0 4);have m:=Jh (R:=w.heap.size+1+1) (u2:=A0 0) (u3:=A0 0) (u4:=A0 4) (by omega) r;rw[XW y.out (fun h=>h.2 HH.out)];exact bodyPost_ret (v:=.agg #[A5,A5,A0 0,A0 0,A0 4]) (by simp[results,Tryz.results135,go_sem,b.1.1,b.2.1.1,b.2.2.1.1,b.2.2.2.1.1,b.2.2.2.2.1]) rfl ⟨_,_,rfl,m.1,m.2⟩
     · have HH:=AT Z
       obtain rfl:t=false:=BQ x Z;clear x Z;obtain⟨⟨u0,u1⟩,⟨u2,u3⟩,⟨u4,u5⟩,⟨u6,u7⟩,⟨u8,u9⟩⟩:=q.out;have vB:(p.hn:Int)<=(c':Int):=(by omega);have n0:w.heap.size+1+1≠w.heap.size:=(by omega);have n1:w.heap.size+1+1≠w.heap.size+1:=(by omega);go_wp2_with fail;go_region_held3 (fun w'=>w'.cell? ⟨w.heap.size,0,none⟩=some (.slice a p.n c)/\w'.cell? ⟨w.heap.size,1,none⟩=some (.slice a' p.hn c')/\w'.cell? ⟨w.heap.size+1,0,none⟩=some (A0 xs)) (go_keep)
        (first
          | (go_at_call 156;refine(ZM _ p.n lo hi p.s _ ?_ rA mA.out).mono ?_;(first | exact K.out.1.A1 r.drew | exact K.out.1.A1 (A9 r (AB _ _)).drew);rintro e E ⟨v5,bs,kb,kv,rfl,V,P,H,N⟩;obtain⟨_,sa,gA,rfl,_⟩:=id V;(first | (have sA:E.cell? ⟨Q.heap.size,0,none⟩=some (A0 xs):=((Az (i:=0) (v:=A0 xs) (heap_alloc_new Q (.cells #[A0 xs] 2)) rfl).A1 (Cp N)).1) | skip);have g:Below Q.heap.size Q E:=(by first | exact Cp N | exact A9 (AB _ _) (Cp N));have u:∀k,FY bs kb p.n p.s k->Q.heap.size<=k/\k<E.heap.size:=(by first | exact H | exact fun k hk=>(by have:=H k hk;simp at this;omega));have z0:=(F.out.A1 g).1.1;have z1:=(F.out.A1 g).2.1;have z2:=(J.out.A1 g).1.1)
          | (refine step_append_grows rfl (.tmp 33) (.tmp 36) 24 rfl 2 i0 (A0 0) 1 8 (by kernel_rfl) O.out.1 O.out.2.1 O.out.2.2.1 O.out.2.2.2 rfl (by decide) a' p.hn p.hn (ic p.h p.hn) (by simp[Act.eval]) (UU K.out.2) (Il _ _) (Td K.out.2 (A9 r (A9 g (AB E _)))) ⟨E.heap.size,0,none⟩ 1 1 [A0 xs] (by simp[Act.eval]) rfl (zIn _ _ _) (yz _) (by omega) (by unfold maxLen;omega) (by omega) ?_
             intro v6 w6 f l;obtain⟨a6,c6,rfl,_⟩:=Bw f;have D:Below E.heap.size E w6:=A9 (AB E _) (Rl l);have o:w6.ownsRow E.heap.size 2 1 (.slice a6 (p.hn+1) c6) (p.hn+1) (ic p.h p.hn ++ [A0 xs]):=Np f (by simp);have d:=A9 g D;obtain⟨⟨p0,p1⟩,⟨p2,p3⟩⟩:=F.out.A1 d;obtain⟨⟨p4,p5⟩,⟨p6,p7⟩⟩:=J.out.A1 d;obtain⟨⟨p8,p9⟩,⟨aB,bB⟩,⟨cB,eB⟩,⟨fB,gB⟩,⟨iB,jB⟩⟩:=q.out.A1 d;clear f l)
          | (refine step_append_grows rfl (.tmp 33) (.tmp 36) 24 rfl 2 i0 (A0 0) 1 8 (by kernel_rfl) O.out.1 O.out.2.1 O.out.2.2.1 O.out.2.2.2 rfl (by decide) a' p.hn p.hn (ic p.h p.hn) (by simp[Act.eval]) (UU K.out.2) (Il _ _) (Td K.out.2 (A9 r g)) ⟨Q.heap.size,0,none⟩ 1 1 [A0 xs] (by simp[Act.eval]) rfl (zFd sA) (yz _) (by omega) (by unfold maxLen;omega) (by omega) ?_
             intro v6 w6 f l;obtain⟨a6,c6,rfl,_⟩:=Bw f;have D:Below E.heap.size E w6:=Rl l;have o:w6.ownsRow E.heap.size 2 1 (.slice a6 (p.hn+1) c6) (p.hn+1) (ic p.h p.hn ++ [A0 xs]):=Np f (by simp);have d:=A9 g D;obtain⟨⟨p0,p1⟩,⟨p2,p3⟩⟩:=F.out.A1 d;obtain⟨⟨p4,p5⟩,⟨p6,p7⟩⟩:=J.out.A1 d;obtain⟨⟨p8,p9⟩,⟨aB,bB⟩,⟨cB,eB⟩,⟨fB,gB⟩,⟨iB,jB⟩⟩:=q.out.A1 d;clear f l))
       all_goals
        have nA:=AT (zDr (p:=CQ p xs) (B:=Q.heap.size) (M:=Q.heap.size) (V.A1 D) P (fun k hk=>by have:=u k hk;have:=D.size;omega) (by show p.hn+1<=maxLen;unfold maxLen;omega) (by rw[<-zGE]at o;exact o) (fun k e=>by
         have Y:=o.lt k e;refine⟨by have:=g.size;omega,Or.inr (Or.inr ⟨Y.2,fun hx=>?_⟩)⟩;have:=u k hx;omega) (Nat.le_refl _) (fun e=>absurd e (Nat.succ_ne_zero _)))
        have lA:=AT (q.out.A1 d);have oA:=A9 r d;clear V P H u N g D d o;go_wp2;have G:=lA.out.put (.slice sa p.n gA) (.slice a6 (p.hn+1) c6) (A0 0) (A0 0) (A0 0);have m:=NV (R:=w.heap.size+1+1) (u2:=A0 0) (u3:=A0 0) (u4:=A0 0) nA.out (by omega) (by omega) (Nat.le_refl _) oA;rw[Sq y.out HP.out HH.out];exact bodyPost_ret (v:=.agg #[.slice sa p.n gA,.slice a6 (p.hn+1) c6,A0 0,A0 0,A0 0]) (by simp[results,Tryz.results135,go_sem,G.1.1,G.2.1.1,G.2.2.1.1,G.2.2.2.1.1,G.2.2.2.2.1]) rfl ⟨_,_,rfl,m.1,m.2⟩
   · have HP:=AT hP
     obtain rfl:t=false:=BQ x hP;clear x hP;obtain⟨⟨u0,u1⟩,⟨u2,u3⟩,⟨u4,u5⟩,⟨u6,u7⟩,⟨u8,u9⟩⟩:=q.out;go_wp2;have b:=q.out.put (A5) (A5) (A0 0) (A0 0) (A0 4);have m:=Jh (R:=w.heap.size+1+1) (u2:=A0 0) (u3:=A0 0) (u4:=A0 4) (by omega) r;rw[XW y.out (fun h=>HP.out h.1)];exact bodyPost_ret (v:=.agg #[A5,A5,A0 0,A0 0,A0 4]) (by simp[results,Tryz.results135,go_sem,b.1.1,b.2.1.1,b.2.2.1.1,b.2.2.2.1.1,b.2.2.2.2.1]) rfl ⟨_,_,rfl,m.1,m.2⟩
 · have y:=AT z
   obtain rfl:t=false:=BQ x z;clear x z;obtain⟨⟨u0,u1⟩,⟨u2,u3⟩,⟨u4,u5⟩,⟨u6,u7⟩,⟨u8,u9⟩⟩:=I.out;go_wp2;have b:=I.out.put (A5) (A5) (A0 0) (A0 0) (A0 1);have m:=Jh (R:=w.heap.size+1+1) (u2:=A0 0) (u3:=A0 0) (u4:=A0 1) (by omega) L;rw[zE y.out];exact bodyPost_ret (v:=.agg #[A5,A5,A0 0,A0 0,A0 1]) (by simp[results,Tryz.results135,go_sem,b.1.1,b.2.1.1,b.2.2.1.1,b.2.2.2.1.1,b.2.2.2.2.1]) rfl ⟨_,_,rfl,m.1,m.2⟩
theorem zf(d v1:Value)(a b c:Int)(w:World):(Instr.field 117 (.agg #[d,v1,A0 a,A0 b,A0 c]) 0).run Tryz.prog w = .ok (.agg #[d,v1]) w:=by kernel_rfl
theorem zAN(C lo hi:Nat)(z0 z1 z2 z3 u8:Value)(tm V id m:Int)(p q:A7)(x:Int×Int)(w:World)(N:Bb w C z0 z1 (A0 tm) (A0 V) z2 z3 (A0 id) (A0 m) u8)(O:CD w lo hi z0 z1 p)(hn:Ap p<=1048576)(hh:JL p x.1 x.2=⟨q,0,0,0⟩)(hm:0<=m)(lA:m<=1000000) :
 Calls Tryz.prog 74 #[.pointer (some ⟨C,0,none⟩),.agg #[A0 x.1,A0 x.2]] w fun e w'=>(∃v,e = .returned v)/\∃Y Z,Bb w' C Y Z (A0 tm) (A0 V) z2 z3 (A0 id) (A0 (m+1)) u8/\Bq w' w.heap.size w'.heap.size Y Z q/\AC (fun j=>j=C) w w':=by
 obtain⟨a0,c0,a1,c1,rfl,rfl⟩:=O.form;have kA:=N.1.lt;have r:=AB w (.cells #[A0 x.1,A0 x.2] 38);have M:=A4 (Ad.new w (A0 x.1) (A0 x.2) 38);have L:=A4 (N.A1 r);have mA:IntKind.i64.wrap (m+1)=m+1:=by first | exact wrap_small (by omega) (by omega) | exact wrap_small _ (by omega) (by omega)
 have U:(w.alloc (.cells #[A0 x.1,A0 x.2] 38)).heap.size=w.heap.size+1:=World.size_alloc _ _;have f:=A4 (show ∀w',Below (w.alloc (.cells #[A0 x.1,A0 x.2] 38)).heap.size (w.alloc (.cells #[A0 x.1,A0 x.2] 38)) w'->Calls Tryz.prog 135 #[.agg #[.slice a0 p.n c0,.slice a1 p.hn c1],.agg #[A0 x.1,A0 x.2]] w' fun e B=>∃c d g i,e = .returned (.agg #[.slice c q.n d,.slice g q.hn i,A0 0,A0 0,A0 0])/\Bq B w'.heap.size B.heap.size (.slice c q.n d) (.slice g q.hn i) q/\Below w'.heap.size w' B from fun w' P=>by
  refine(zD9 _ _ lo hi p x.1 x.2 w' ((O.A1 r).A1 P) hn).mono ?_;rw[hh];rintro e w2 ⟨Y,Z,rfl,ho,Q⟩;obtain⟨c,d,g,i,rfl,rfl⟩:=ho.at.form;exact⟨c,d,g,i,rfl,ho,Q⟩)
 clear O hh N hn;go_enter Tryz.func74,Tryz.ntmps74;go_wp2_with fail;generalize w.alloc (.cells #[A0 x.1,A0 x.2] 38)=u at r M L U f ⊢;have s:Below u.heap.size u u.drew:=(Below.refl _ _).drew;have y:=A4 (show ∀w',Below u.drew.heap.size u.drew w'->(fun w':World=>w'.cell? ⟨w.heap.size,0,none⟩=some (A0 x.1)/\w'.cell? ⟨w.heap.size,1,none⟩=some (A0 x.2)) w' from fun w' hb=>by
  have h:=(M.out.A1 s).A1 hb;exact⟨h.1.1,h.2.1⟩)
 obtain⟨⟨x0,-⟩,⟨x1,-⟩,-⟩:=L.out.A1 s;refine wp_region_held_drew (S:=(fun w':World=>w'.cell? ⟨w.heap.size,0,none⟩=some (A0 x.1)/\w'.cell? ⟨w.heap.size,1,none⟩=some (A0 x.2))) (by kernel_rfl) (y.out _ (Below.refl _ _)) (fun hHeld=>?_);have t:=s;generalize u.drew=q0 at hHeld y x0 x1 s t ⊢;refine tk 0 (h:=tk 1 (h:=tk 2 (h:=tk 3 (h:=tk 4 (h:=tk 6 (h:=?_))))));refine rd [5] (rc (fun K hK=>?_) .nil);go_simp
 (try go_wp2_with fail)
 refine hK.out _ _ (y.out _ (Below.refl _ _)) ?_;clear hK K;intro hHeld
 try simp only[Act.put,s1,s2,s3]
 refine rd [7] (rc (fun K hK=>?_) .nil);go_simp;go_at_call 135;refine(f.out q0 t).mono ?_;rintro e D ⟨c,d,g,i,rfl,H,J⟩;have E:=A4 H;have l:Below u.heap.size u D:=A9 t J;have a:=A4 (L.out.A1 l);have o:=A4 (M.out.A1 l);clear H
 (try go_wp2_with fail)
 refine hK.out _ _ ⟨o.out.1.1,o.out.2.1⟩ ?_;clear hK K hHeld;intro hHeld
 try simp only[Act.put,s1,s2,s3]
 have T:=zf (.slice c q.n d) (.slice g q.hn i) 0 0 0;refine tk 8 (h:=tk 9 (h:=tk 10 (h:=tk 11 (h:=?_))));refine rd [12] (rc (fun K hK=>?_) .nil);obtain⟨⟨t0,W⟩,⟨t1,X⟩,-⟩:=a.out;go_simp
 (try go_wp2_with fail)
 have I:=(AC.put D C 0 (.slice c q.n d)).trans (AC.put (D.setCell ⟨C,0,none⟩ (.slice c q.n d)) C 1 (.slice g q.hn i));have A:=o.out.AD I (fun h=>by omega);refine hK.out _ _ ⟨A.1.1,A.2.1⟩ ?_;clear hK K hHeld t0 W t1 X;intro hHeld
 try simp only[Act.put,s1,s2,s3]
 refine wpAnyH_done (by kernel_rfl) ?_ _;have b:=A4 (show Bb ((D.setCell ⟨C,0,none⟩ (.slice c q.n d)).setCell ⟨C,1,none⟩ (.slice g q.hn i)) C (.slice c q.n d) (.slice g q.hn i) (A0 tm) (A0 V) z2 z3 (A0 id) (A0 m) u8 from⟨(a.out.1.set _).other _ (Or.inr (by decide)),(a.out.2.1.other _ (Or.inr (by decide))).set _,(a.out.2.2.1.other _ (Or.inr (by decide))).other _ (Or.inr (by decide)),(a.out.2.2.2.1.other _ (Or.inr (by decide))).other _ (Or.inr (by decide)),(a.out.2.2.2.2.1.other _ (Or.inr (by decide))).other _ (Or.inr (by decide)),(a.out.2.2.2.2.2.1.other _ (Or.inr (by decide))).other _ (Or.inr (by decide)),(a.out.2.2.2.2.2.2.1.other _ (Or.inr (by decide))).other _ (Or.inr (by decide)),(a.out.2.2.2.2.2.2.2.1.other _ (Or.inr (by decide))).other _ (Or.inr (by decide)),(a.out.2.2.2.2.2.2.2.2.other _ (Or.inr (by decide))).other _ (Or.inr (by decide))⟩);have R:Below w.heap.size w D:=A9 r l;have G:=A4 (show AC (fun j=>j=C) w ((D.setCell ⟨C,0,none⟩ (.slice c q.n d)).setCell ⟨C,1,none⟩ (.slice g q.hn i))from(AC.EF R).trans I);have oA:=J.size;have nA:=t.size;have F:=A4 ((E.out.AD I (fun k e=>by omega)).wide (show w.heap.size<=q0.heap.size by omega) I.size);clear A I T a o E;generalize ((D.setCell ⟨C,0,none⟩ (.slice c q.n d)).setCell ⟨C,1,none⟩ (.slice g q.hn i))=w4 at b G F ⊢;obtain⟨y7,vA⟩:=b.out.2.2.2.2.2.2.2.1;go_wp2_with fail;have z:=AC.put w4 C 7 (A0 (m+1));go_end0;refine⟨⟨_,rfl⟩,_,_,⟨b.out.1.other _ (Or.inr (by decide)),b.out.2.1.other _ (Or.inr (by decide)),b.out.2.2.1.other _ (Or.inr (by decide)),b.out.2.2.2.1.other _ (Or.inr (by decide)),b.out.2.2.2.2.1.other _ (Or.inr (by decide)),b.out.2.2.2.2.2.1.other _ (Or.inr (by decide)),b.out.2.2.2.2.2.2.1.other _ (Or.inr (by decide)),b.out.2.2.2.2.2.2.2.1.set _,b.out.2.2.2.2.2.2.2.2.other _ (Or.inr (by decide))⟩,?_,G.out.trans z⟩;exact(F.out.AD z (fun k e=>by omega)).wide (Nat.le_refl _) z.size
theorem zDU(C lo hi n:Nat)(P:Nat->Prop)(z0 z1 z2 z3 u8 v:Value)(tm nx id m t:Int)(p:A7)(f g:Nat->Int)(w:World)(hv:BG w lo hi v n f g)(z:Cf n f g)(ht:FZ t)(hH:CT p (Bl f g t n))(hC:Bb w C z0 z1 (A0 tm) (A0 nx) z2 z3 (A0 id) (A0 m) u8)(hP:DJ w P z0 z1 p)(mA:∀k,P k->C<k/\k<w.heap.size)(hm:0<=m)(rB:m<=900000) :
 Calls Tryz.prog 72 #[v,A0 t,.func (.func 74) #[.pointer (some ⟨C,0,none⟩)] #[]] w fun e w'=>∃A B D,e = .returned A/\Ax w' w.heap.size A (C6 f g t n)/\Bb w' C B D (A0 tm) (A0 nx) z2 z3 (A0 id) (A0 (m+((Bl f g t n).length:Int))) u8/\DJ w' (fun j=>P j\/(w.heap.size<=j/\j<w'.heap.size)) B D (BJ p (Bl f g t n))/\AC (fun j=>j=C) w w':=by
 have pB:=hC.1.lt;have W:(Bl f g t n).length<=200:=by have:=Kq f g t n;have:=z.1;omega
 have Y:=A4 (show Calls Tryz.prog 131 #[v,A0 t] w fun e w'=>∃X A,e = .returned (.agg #[X,A])/\Ig (Bl f g t n) (C6 f g t n) w w' X A by
  refine(Rh v n lo hi f g t w hv).mono ?_;rintro e I ⟨X,A,l,l',rfl,hy,ho,hr⟩;rw[hy.1 ⟨z,ht⟩,ho.1 ⟨z,ht⟩]at hr;exact⟨X,A,rfl,hr⟩)
 have HC:=A4 hC;have HP:=A4 hP;have HH:=A4 hH;obtain⟨-,av,cv,rfl,-,-⟩:=(show BG w lo hi v n f g from hv);clear hv z ht hC hP hH;generalize Bl f g t n=l at Y HH W ⊢;generalize C6 f g t n=l' at Y ⊢;go_enter Tryz.func72,Tryz.ntmps72;go_wp2_with fail;refine Y.out.mono ?_;clear Y;rintro e I ⟨X,A,rfl,G,H,-,U⟩;obtain⟨ay,cy,rfl,-⟩:=Bw G;obtain⟨Z,co,rfl,-⟩:=Bw H;obtain⟨bo,o,V⟩:=G.own (by unfold maxLen;omega);have x:=AB I (.cells #[.slice ay l.length cy,.slice Z l'.length co] 174);have HX:=A4 (Ad.new I (.slice ay l.length cy) (.slice Z l'.length co) 174);have y:=A9 U x;have J:=A4 (HC.out.A1 y);have M:=A4 (HP.out.A1 y);have F:=A4 (Ax.A1 H x);have L:=A4 (o.A1 x);have kA:=A4 V;have aC:=U.size;have oA:(I.alloc (.cells #[.slice ay l.length cy,.slice Z l'.length co] 174)).heap.size=I.heap.size+1:=World.size_alloc _ _;obtain⟨⟨x0,-⟩,⟨x1,-⟩⟩:=HX.out;clear G H o V HC HP;go_wp2_with fail;clear x0 x1;generalize I.alloc (.cells #[.slice ay l.length cy,.slice Z l'.length co] 174)=w2 at x HX y J M F L oA ⊢
 go_loopw [16] (fun i wr=>∃(k:Nat) (B D:Value),k<=l.length/\i=A0 k/\Bb wr C B D (A0 tm) (A0 nx) z2 z3 (A0 id) (A0 (m+(k:Int))) u8/\DJ wr (fun j=>P j\/(w.heap.size<=j/\j<wr.heap.size)) B D (BJ p (l.take k))/\AC (fun j=>j=C) w2 wr) (fun i _=>l.length - (intOf i).toNat)
 case atStart=>exact⟨0,_,_,Nat.zero_le _,rfl,by simpa using J.out,M.out.mono (fun j h=>Or.inl h),AC.refl _ _⟩
 case round=>
  obtain⟨k,B,D,hk,rfl,Q,S,u⟩:=hrel;have K:=A4 Q;have E:=A4 S;have b:=A4 u;have dC:=u.size;have hX:=HX.out.AD u (fun h=>by omega);obtain⟨⟨x0,-⟩,⟨x1,-⟩⟩:=hX;clear Q S u;by_cases s:k<l.length
  ·have gB:(k:Int)<(l.length:Int):=(by omega);have o:=L.out.AD b.out (fun h0 e=>by
    obtain⟨_,h,_⟩:=kA.out h0;omega)
   obtain⟨_,a,c,e1,_,hx⟩:=o;obtain⟨off,rfl,r⟩:=hx (by omega);simp only[Value.slice.injEq,true_and]at e1;obtain⟨rfl,rfl⟩:=e1;obtain⟨⟨q0,-⟩,⟨q1,-⟩⟩:=r k s;have hn:=HH.out.next s;have e0:l[k]=(AN l k,AP l k):=by
    unfold AN AP;rw[List.getD_eq_getElem?_getD,List.getElem?_eq_getElem s];rfl
   rw[e0]at hn;have HN:=A4 hn;clear hn e0 r hx;have d:=AB wr (.cells #[A0 (AN l k),A0 (AP l k)] 38);obtain⟨⟨r0,-⟩,⟨r1,-⟩⟩:=Ad.new wr (A0 (AN l k)) (A0 (AP l k)) 38;go_wp2_with fail;have bC:=d.size;refine(zAN C 0 wr.heap.size B D z2 z3 u8 tm nx id (m+(k:Int)) (BJ p (l.take k)) (BJ p (l.take (k+1))) (AN l k,AP l k) _ (K.out.A1 d) (((E.out.at (lo:=0) (hi:=wr.heap.size) (fun j h=>⟨Nat.zero_le _,by
    rcases h with h | h
    ·have:=mA j h;omega
    ·omega⟩))).A1 d) (by have:=Kz HN.out.2;omega) HN.out.1 (by omega) (by omega)).mono ?_
   rintro e w4 ⟨⟨ve,rfl⟩,t0,t1,O,R,T⟩;have gA:=A4 O;have iA:=A4 R;have N:=A4 T;clear r0 r1 q0 q1 x0 x1 O R T;go_wp2_with fail;go_roundw
   case rel=>
    have cC:=N.out.size;refine⟨k+1,t0,t1,by omega,by go_num,?_,iA.out.isIn (fun j h1 h2=>Or.inr ⟨by omega,h2⟩),b.out.trans ((AC.EF d).trans N.out)⟩;have e:m+((k+1:Nat):Int)=m+(k:Int)+1:=(by omega);rw[e];exact gA.out
   case measure=>simp[intOf];omega
  ·obtain rfl:k=l.length:=(by omega);go_wp2_with fail;rw[List.take_length]at E;go_ret;refine⟨_,B,D,rfl,?_,K.out,E.out,((AC.EF y).trans b.out)⟩;exact F.out.AD (row:=some C) ⟨b.out.os,b.out.tape,b.out.output,b.out.size,fun k hk hn=>b.out.block k hk (fun e=>hn (by rw[e]))⟩ (fun q hq e=>by
    injection e with e;have:=Ax.lt F.out hq;omega)
theorem zBe(v:Value)(s:Aa)(w:World):(Instr.field 41 (.agg #[A0 s.id,.string s.name,.string s.set,A0 s.A8,A0 s.time,A0 s.rs,A0 s.rb,v]) 4).run Tryz.prog w = .ok (A0 s.time) w:=by kernel_rfl
theorem zBy(C lo hi:Nat)(u y z D u6 u7 u8:Value)(W:A6)(x:Int)(w:World)(h:C7 w lo hi u y z D W)(q:Bb w C u y (A0 W.time) (A0 W.next) z D u6 u7 u8)(hn:W.pn<=20)(i:Mo W.pn W.A3)(r:Hj W)(t:(Lit.int .i64 x).wf=true) :
 Calls Tryz.prog 73 #[.pointer (some ⟨C,0,none⟩),A0 x] w fun e w'=>∃a c,e = .returned (DI (.slice a (AI W x).dn c) (AI W x))/\Below w.heap.size w w':=by
 have H:=A4 h;obtain⟨l0,R,l1,T,l2,U,l3,V,rfl,rfl,rfl,rfl⟩:=h.form;have F:=A4 r;have l:=A4 i;have I:=A4 t;have j:=AB w (.cells #[A0 0,.string ⟨#[]⟩,.string ⟨#[]⟩,A0 0,A0 0,A0 0,A0 0,A5] 41);obtain⟨⟨x0,-⟩,⟨x1,-⟩,⟨x2,-⟩,⟨x3,-⟩,⟨x4,-⟩,⟨x5,-⟩,-⟩:=q.A1 j;have o:=A4 (DX.new w (A0 0) (.string ⟨#[]⟩) (.string ⟨#[]⟩) (A0 0) (A0 0) (A0 0) (A0 0) (A5) 41);clear h r i t q;obtain⟨S,m⟩:∃S,S=AI W x:=⟨_,rfl⟩;rw[<-m];unfold DI;have G:=A4 m;clear m;go_enter Tryz.func73,Tryz.ntmps73;go_wp2_with fail;clear x0 x1 x2 x3 x4 x5;generalize w.alloc (.cells #[A0 0,.string ⟨#[]⟩,.string ⟨#[]⟩,A0 0,A0 0,A0 0,A0 0,A5] 41)=W1 at j o ⊢;refine(Yd _ _ _ _ lo hi W W1 (H.out.A1 j) hn l.out).mono ?_;rintro e w2 ⟨A,rfl,p,f⟩;have E:=A4 p;clear p;go_wp2_with fail;refine(Jo lo hi W A x w2 E.out F.out I.out hn).mono ?_;rw[<-G.out];unfold DI;rintro e w3 ⟨a,c,rfl,n,g⟩;have s:=A9 (A9 j f) g;have d:=A4 ((o.out.A1 f).A1 g);clear n;obtain⟨⟨⟨r0,g0⟩,⟨r1,J⟩,⟨X,K⟩,⟨Y,L⟩⟩,⟨Z,M⟩,⟨r5,N⟩,⟨r6,O⟩,⟨r7,P⟩⟩:=d.out;go_wp2_with fail;have b:=d.out.put (A0 S.id) (.string S.name) (.string S.set) (A0 S.A8) (A0 S.time) (A0 S.rs) (A0 S.rb) (.slice a S.dn c);have Q:=AC.put8 w3 w.heap.size (A0 S.id) (.string S.name) (.string S.set) (A0 S.A8) (A0 S.time) (A0 S.rs) (A0 S.rb) (.slice a S.dn c);clear r0 g0 r1 J X K Y L Z M r5 N r6 O r7 P;refine bodyPost_ret (v:=.agg #[A0 S.id,.string S.name,.string S.set,A0 S.A8,A0 S.time,A0 S.rs,A0 S.rb,.slice a S.dn c]) (by simp[results,Tryz.results73,go_sem,b.1.1.1,b.1.2.1.1,b.1.2.2.1.1,b.1.2.2.2.1,b.2.1.1,b.2.2.1.1,b.2.2.2.1.1,b.2.2.2.2.1]) rfl ⟨a,c,rfl,?_⟩
 ·exact s.trans (Q.A1 (B:=w.heap.size) s.size (fun k e=>by omega))
theorem zN(l:List (Int×Int)):BR l l = []:=List.filter_eq_nil_iff.2 fun x a=>by simp[a]
theorem zDt(f g h i:Nat->Int):F6 0 f g 0 h i:=⟨⟨Nat.zero_le _,fun i hi=>absurd hi (Nat.not_lt_zero _),fun i hi=>absurd hi (Nat.not_lt_zero _)⟩,⟨Nat.zero_le _,fun i hi=>absurd hi (Nat.not_lt_zero _),fun i hi=>absurd hi (Nat.not_lt_zero _)⟩,rfl,fun i hi=>absurd hi (Nat.not_lt_zero _)⟩
theorem zB5(c:V.pn=W.pn)(hs:V.A3=W.A3)(x:Int):AI V x=AI W x:=by
 have hn:∀k,BW V x k↔BW W x k:=fun k=>by unfold BW;rw[c,hs]
 by_cases b:∃k,BW W x k
 ·obtain⟨k,a⟩:=b;rw[DW a,DW ((hn k).2 a),hs]
 ·unfold AI;rw[dif_neg b,dif_neg fun ⟨k,a⟩=>b ⟨k,(hn k).1 a⟩]
section
variable {W : A6}
def Da(W:A6)(k:Nat)(r b:Int)(n:Nat)(f g:Nat->Int):A6:={W with A2:=fun j=>if j=k then {W.A2 k with rs:=r,rb:=b,dn:=n,ds:=f,db:=g}else W.A2 j}
variable{r b:Int}{n:Nat}{f g:Nat->Int}
theorem Lb(h:i≠W.pn+k):AA (Da W k r b n f g) i=AA W i:=by
 by_cases a:i<W.pn
 ·rw[CH a];exact CH a
 ·obtain⟨j,rfl⟩:∃j,i=W.pn+j:=⟨i - W.pn,by omega⟩;rw[C4];refine(C4 (Da W k r b n f g) j).trans ?_;show L4 W.time (if j=k then _ else W.A2 j)=_;rw[if_neg (by omega)]
theorem LP:AA (Da W k r b n f g) (W.pn+k)=⟨(W.A2 k).A8,W.time,r,b,n,f,g⟩:=by
 refine(C4 (Da W k r b n f g) k).trans ?_;show L4 W.time (if k=k then _ else W.A2 k)=_;rw[if_pos rfl];rfl
theorem Qo(x:Int):AI (Da W k r b n f g) x=AI W x:=zB5 rfl rfl x
theorem Nc(m:Cq):oldM (Da W k r b n f g) m=oldM W m:=by unfold oldM;rw[Qo];rfl
theorem EI.root(p:EI W)(Z:k<W.sn)(R:B3 W.pool r b)(Q:E6 n f g (BR (oldM W (AA W (W.pn+k))) (AG W.pool r b)))
 (P:F3 (AG W.pool r b) (oldM W (AA W (W.pn+k))) (AI W (W.A2 k).A8).time W.time) (C:∀x,x∈AG W.pool r b->x∉oldM W (AA W (W.pn+k))->∀m,m<memN W->m≠W.pn+k->∀y,y∈CB W (AA W m)->x.1≠y.1):EI (Da W k r b n f g):=by
 have l:oldM (Da W k r b n f g) ⟨(W.A2 k).A8,W.time,r,b,n,f,g⟩=oldM W (AA W (W.pn+k)):=by rw[Nc,C4];rfl
 have a:∀i,i<memN W->(i≠W.pn+k->DU W i)->DU (Da W k r b n f g) i:=fun i hi h=>by
  by_cases e:i=W.pn+k
  ·subst e;unfold DU;rw[LP,l];exact Q
  ·unfold DU;rw[Lb e,Nc];exact h e
 have s:∀i,((Da W k r b n f g).A2 i).name=(W.A2 i).name/\((Da W k r b n f g).A2 i).A8=(W.A2 i).A8/\((Da W k r b n f g).A2 i).origin=(W.A2 i).origin:=fun i=>by
  show(if i=k then _ else W.A2 i:Ab).name=_/\(if i=k then _ else W.A2 i:Ab).A8=_/\(if i=k then _ else W.A2 i:Ab).origin=_;by_cases e:i=k
  ·subst e;rw[if_pos rfl];exact⟨rfl,rfl,rfl⟩
  ·rw[if_neg e];exact⟨rfl,rfl,rfl⟩
 have v:∀x,BL (Da W k r b n f g) x↔BL W x:=fun x=>exists_congr fun j=>and_congr_right fun _=>by rw[(s j).1]
 have z:memN (Da W k r b n f g)=memN W:=rfl;have A:∀i,i<W.sn->W.pn+i<memN W:=fun i hi=>by unfold memN;omega
 refine⟨p.right,?_,fun i hi=>?_,p.A3,fun i hi=>⟨?_,a _ (A i hi) fun _=>(p.A2 i hi).2⟩,fun i hi=>a i (by unfold memN;have:i<W.pn:=hi;omega) fun _=>p.dead i hi,fun i hi=>?_,?_⟩
 ·obtain⟨D,E,F,G,H,I⟩:=p.Aq;refine⟨D,E,F,G,fun i hi=>?_,fun i hi=>?_⟩
  ·have q:=H i hi;unfold GJ at q ⊢;rw[(s i).1,(s i).2.1,(s i).2.2,(s (i - 1)).1];exact q
  ·obtain⟨⟨J,K,L,M,N,O⟩,c,d⟩:=I i hi;exact⟨⟨J,K,L,M,N,(v _).2 O⟩,c,d⟩
 ·rw[(s i).1,(s i).2.1,(s i).2.2];exact FA.same (W:=W) (V:=Da W k r b n f g) rfl rfl (p.lines i hi)
 ·by_cases e:i=k
  ·subst e;show B3 W.pool (if i=i then _ else W.A2 i:Ab).rs (if i=i then _ else W.A2 i:Ab).rb;rw[if_pos rfl];exact R
  ·show B3 W.pool (if i=k then _ else W.A2 i:Ab).rs (if i=k then _ else W.A2 i:Ab).rb;rw[if_neg e];exact(p.A2 i hi).1
 ·by_cases e:i=W.pn+k
  ·subst e;unfold EX;rw[LP,l];show F3 _ _ (AI (Da W k r b n f g) (W.A2 k).A8).time _;rw[Qo];exact P
  ·have q:=p.born i hi;unfold EX at q ⊢;rw[Lb e,Nc,Qo];exact q
 ·have o:∀i,i≠W.pn+k->CB (Da W k r b n f g) (AA (Da W k r b n f g) i)=CB W (AA W i):=fun i e=>by
   unfold CB;rw[Lb e,Nc];rfl
  have t:∀x,x∈CB (Da W k r b n f g) (AA (Da W k r b n f g) (W.pn+k))->x∈AG W.pool r b/\x∉oldM W (AA W (W.pn+k)):=fun x u=>by
   rw[LP]at u;have:=Gx.1 u;rw[l]at this;exact this
  intro i hi j S x u y w;by_cases e:i=W.pn+k
  ·subst e;obtain⟨T,U⟩:=t x u;rw[o j (by omega)]at w;exact C x T U j (by rw[z]at hi;omega) (by omega) y w
  ·rw[o i e]at u;by_cases B:j=W.pn+k
   ·subst B;obtain⟨X,Y⟩:=t y w;exact fun h=>C y X Y i hi e x u h.symm
   ·rw[o j B]at w;exact p.Bn i hi j S x u y w
theorem EI.deadOf(a:EI W)(hi:i<memN W):DU W i:=by
 by_cases b:i<W.pn
 ·exact a.dead i b
 ·obtain⟨j,rfl⟩:∃j,i=W.pn+j:=⟨i - W.pn,by omega⟩;exact(a.A2 j (by unfold memN at hi;omega)).2
end
end Go.Proofs.YtddigaohmfpepaaGreatDoor
