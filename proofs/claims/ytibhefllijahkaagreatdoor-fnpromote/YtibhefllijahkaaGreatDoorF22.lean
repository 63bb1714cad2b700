/- A part of the proof. -/
import Derived.Test.YtibhefllijahkaaGreatDoorF21
import Derived.Shelf.SlSortCmp.WholeK
import Derived.Lib.Bytealg
set_option linter.unusedVariables false
set_option maxRecDepth 20000
set_option maxHeartbeats 4000000
namespace Go.Proofs.YtibhefllijahkaaGreatDoor
open Go.RowKit
theorem YU(l v1 m o:Value)(lo hi:Nat)(W:A5)(name:ByteArray)(w:World)(h:BR w lo hi l v1 m o W)(A:W.sn<=8)(B:name.size<=maxLen) :
 Calls Tryz.prog 50 #[BS l v1 m o W,.string name] w fun e w'=>AG (B3 W name) e/\Below w.heap.size w w':=by
 have L:=A4 h;clear h;have v:=A9 w (.cells #[l,v1,.int .i64 W.time,.int .i64 W.next,m,o] 30);obtain⟨P,Q,R,S,T,U⟩:=(Aj.new w (l) (v1) (.int .i64 W.time) (.int .i64 W.next) (m) (o) 30).c;go_enter Tryz.func50,Tryz.ntmps50;go_wp2_with fail;clear P Q R S T U;generalize w.alloc (.cells #[l,v1,.int .i64 W.time,.int .i64 W.next,m,o] 30)=W0 at v ⊢;refine(K9 l v1 m o lo hi W W0 (L.out.A0 v) A).mono ?_;rintro e K ⟨vd,rfl,j,u,s⟩;have t:∀i,i<W.sn->∃a n c,vd i = .slice a n c:=fun i z=>by
  obtain⟨_,N,O,hv,_⟩:=u i z;exact⟨N,_,O,hv⟩
 obtain⟨H,D,E,F,G,I,J,sc,r⟩:=Vb t name;have p:=A4 r;have d:=A4 (UQ (W:=W) (vd:=vd));have k:=A4 j;have g:=A4 (NW B);have q:=A7 v s;clear j u t s v r;obtain⟨M,C⟩:∃M,M=W0.heap.size+1:=⟨_,rfl⟩;rw[<-C]at k ⊢;clear C;by_cases b:B3 W name
 ·skip;have x:=A4 (show Maps.has (putD (fun i=>CS (W.A3 i).name) (fun i=>Dh (vd i) (W.A3 i)) W.sn) (CS name)=true from(d.out name).2 b);have y:=A4 b;clear b;go_wp2_with (first
   | (at_lookup;refine P7 _ rfl _ _ 86 rfl 9 44 LM KQ (MF _) M W.sn _ rfl k.out _ _ rfl g.out _ p.out true x.out ?_)
   | go_in)
  go_ret;exact⟨AG.yes y.out,A7 q (A9 K (.cells #[.string H,.int .i64 D,.int .i64 E,.int .i64 F,.int .i64 G,.slice I J sc] 44))⟩
 ·skip;have x:=A4 (show Maps.has (putD (fun i=>CS (W.A3 i).name) (fun i=>Dh (vd i) (W.A3 i)) W.sn) (CS name)=false from by rw[Bool.eq_false_iff];exact fun h=>b ((d.out name).1 h));have y:=A4 b;clear b;go_wp2_with (first
   | (at_lookup;refine P7 _ rfl _ _ 86 rfl 9 44 LM KQ (MF _) M W.sn _ rfl k.out _ _ rfl g.out _ p.out false x.out ?_)
   | go_in)
  go_ret;exact⟨AG.no y.out,A7 q (A9 K (.cells #[.string H,.int .i64 D,.int .i64 E,.int .i64 F,.int .i64 G,.slice I J sc] 44))⟩
theorem zCl(b v1 d g:Value)(lo hi:Nat)(W:A5)(B:Nat)(name:ByteArray)(w:World)(h:BR w lo hi b v1 d g W)(p:W.sn<=8)(q:name.size<=maxLen)(n:w.cell? ⟨B,0,none⟩=some (.string name)) :
 Calls Tryz.prog 49 #[BS b v1 d g W,.pointer (some ⟨B,0,none⟩)] w fun e w'=>AG (B3 W name) e/\Below w.heap.size w w':=by
 have r:=A4 h;clear h;have j:=A9 w (.cells #[b,v1,.int .i64 W.time,.int .i64 W.next,d,g] 30);have o:=(j.cell (AZ n)).trans n;obtain⟨s,u,v,x,y,z⟩:=(Aj.new w (b) (v1) (.int .i64 W.time) (.int .i64 W.next) (d) (g) 30).c;go_enter Tryz.func49,Tryz.ntmps49;go_wp2_with fail;clear s u v x y z n o;generalize w.alloc (.cells #[b,v1,.int .i64 W.time,.int .i64 W.next,d,g] 30)=W0 at j ⊢;refine(YU b v1 d g lo hi W name W0 (r.out.A0 j) p q).mono ?_;rintro e A ⟨⟨t,rfl,k⟩,m⟩;have i:=A7 j m;by_cases a:B3 W name
 ·obtain rfl:t=true:=k.2 a;have l:=A4 a;clear k a;go_wp2;go_ret;exact⟨AG.yes l.out,i⟩
 ·obtain rfl:t=false:=Bc k a;have l:=A4 a;clear k a;go_wp2;go_ret;exact⟨AG.no l.out,i⟩
theorem zBs(p:Nat->Addr)(b:ByteArray)(w:World)(l:Cr w p) :
 Calls Tryz.prog 19 #[.string b] w fun e w'=>∃k:Nat,e = .returned (.agg #[.func (.func 49) #[] #[.pointer (some ⟨k,0,none⟩)],AY (p 2)])/\w'.cell? ⟨k,0,none⟩=some (.string b)/\Below w.heap.size w w':=by
 have d:=A9 w (.cells #[.string b] 9);have j:=A9 (w.alloc (.cells #[.string b] 9)) (.cells #[.nilFunc,.nilIface] 57);have m:=A7 (d) j;have c0:(w.alloc (.cells #[.string b] 9)).cell? ⟨w.heap.size,0,none⟩=some (.string b):=World.cell?_alloc_at _ _ _ _ rfl;have q:((w.alloc (.cells #[.string b] 9)).alloc (.cells #[.nilFunc,.nilIface] 57)).cell? ⟨0,0,none⟩=some (AY (p 2)):=(l.A0 m).cell 2 (by omega);have g:=A9 (w.alloc (.cells #[.string b] 9)) (.cells #[.func (.func 49) #[] #[.pointer (some ⟨w.heap.size,0,none⟩)],AY (p 2)] 57);have i:=A7 (d) g;have h:=A4 ((g.cell (AZ c0)).trans c0);clear c0;go_enter Tryz.func19,Tryz.ntmps19;have n:=fun (o:World) (a:Addr)=>run_store Tryz.prog o a (.func (.func 49) #[] #[.pointer (some ⟨w.heap.size,0,none⟩)]) .plain rfl
 go_wp2_with fail;have c:=Ad.new (w.alloc (.cells #[.string b] 9)) (.func (.func 49) #[] #[.pointer (some ⟨w.heap.size,0,none⟩)]) (AY (p 2)) 57;rw[World.size_alloc]at c;refine bodyPost_ret (v:=.agg #[.func (.func 49) #[] #[.pointer (some ⟨w.heap.size,0,none⟩)],AY (p 2)]) (by simp[results,Tryz.results19,go_sem,c.1.1,c.2.1]) rfl ⟨_,rfl,h.out,i⟩
theorem zDK(b v1 d g:Value)(lo hi:Nat)(W:A5)(B:Nat)(name:ByteArray)(w:World)(h:BR w lo hi b v1 d g W)(p:W.sn<=8)(q:name.size<=maxLen)(n:w.cell? ⟨B,0,none⟩=some (.string name)) :
 Calls Tryz.prog 88 #[BS b v1 d g W,.pointer (some ⟨B,0,none⟩)] w fun e w'=>AG (¬B3 W name) e/\Below w.heap.size w w':=by
 have r:=A4 h;clear h;have j:=A9 w (.cells #[b,v1,.int .i64 W.time,.int .i64 W.next,d,g] 30);have o:=(j.cell (AZ n)).trans n;obtain⟨s,u,v,x,y,z⟩:=(Aj.new w (b) (v1) (.int .i64 W.time) (.int .i64 W.next) (d) (g) 30).c;go_enter Tryz.func88,Tryz.ntmps88;go_wp2_with fail;clear s u v x y z n o;generalize w.alloc (.cells #[b,v1,.int .i64 W.time,.int .i64 W.next,d,g] 30)=W0 at j ⊢;refine(YU b v1 d g lo hi W name W0 (r.out.A0 j) p q).mono ?_;rintro e A ⟨⟨t,rfl,k⟩,m⟩;have i:=A7 j m;by_cases a:B3 W name
 ·obtain rfl:t=true:=k.2 a;have l:=A4 a;clear k a;go_wp2;go_ret;exact⟨AG.no (fun h=>h l.out),i⟩
 ·obtain rfl:t=false:=Bc k a;have l:=A4 a;clear k a;go_wp2;go_ret;exact⟨AG.yes l.out,i⟩
theorem zDH(p:Nat->Addr)(b:ByteArray)(w:World)(l:Cr w p) :
 Calls Tryz.prog 38 #[.string b] w fun e w'=>∃k:Nat,e = .returned (.agg #[.func (.func 88) #[] #[.pointer (some ⟨k,0,none⟩)],AY (p 3)])/\w'.cell? ⟨k,0,none⟩=some (.string b)/\Below w.heap.size w w':=by
 have d:=A9 w (.cells #[.string b] 9);have j:=A9 (w.alloc (.cells #[.string b] 9)) (.cells #[.nilFunc,.nilIface] 57);have m:=A7 (d) j;have c0:(w.alloc (.cells #[.string b] 9)).cell? ⟨w.heap.size,0,none⟩=some (.string b):=World.cell?_alloc_at _ _ _ _ rfl;have q:((w.alloc (.cells #[.string b] 9)).alloc (.cells #[.nilFunc,.nilIface] 57)).cell? ⟨2,0,none⟩=some (AY (p 3)):=(l.A0 m).cell 3 (by omega);have g:=A9 (w.alloc (.cells #[.string b] 9)) (.cells #[.func (.func 88) #[] #[.pointer (some ⟨w.heap.size,0,none⟩)],AY (p 3)] 57);have i:=A7 (d) g;have h:=A4 ((g.cell (AZ c0)).trans c0);clear c0;go_enter Tryz.func38,Tryz.ntmps38;have n:=fun (o:World) (a:Addr)=>run_store Tryz.prog o a (.func (.func 88) #[] #[.pointer (some ⟨w.heap.size,0,none⟩)]) .plain rfl
 go_wp2_with fail;have c:=Ad.new (w.alloc (.cells #[.string b] 9)) (.func (.func 88) #[] #[.pointer (some ⟨w.heap.size,0,none⟩)]) (AY (p 3)) 57;rw[World.size_alloc]at c;refine bodyPost_ret (v:=.agg #[.func (.func 88) #[] #[.pointer (some ⟨w.heap.size,0,none⟩)],AY (p 3)]) (by simp[results,Tryz.results38,go_sem,c.1.1,c.2.1]) rfl ⟨_,rfl,h.out,i⟩
theorem zDF(p v1 q r:Value)(lo hi:Nat)(W:A5)(w:World)(h:BR w lo hi p v1 q r W) :
 Calls Tryz.prog 89 #[BS p v1 q r W] w fun e w'=>AG (W.sn<8) e/\Below w.heap.size w w':=by
 obtain⟨k,a,l,b,m,d,o,g,rfl,rfl,rfl,rfl⟩:=h.C5;have t:=h.A3.1;unfold maxLen at t;clear h;have j:=A9 w (.cells #[.slice k W.pool.n a,.slice l W.pool.hn b,.int .i64 W.time,.int .i64 W.next,.slice m W.sn d,.slice o W.pn g] 30);obtain⟨u,v,x,y,z,A⟩:=(Aj.new w (.slice k W.pool.n a) (.slice l W.pool.hn b) (.int .i64 W.time) (.int .i64 W.next) (.slice m W.sn d) (.slice o W.pn g) 30).c;by_cases i:W.sn<8
 ·have s:(W.sn:Int)<8:=(by omega);have H:=A4 i;clear i;go_enter Tryz.func89,Tryz.ntmps89;go_wp2;go_ret;exact⟨AG.yes H.out,j⟩
 ·have s:¬(W.sn:Int)<8:=(by omega);have H:=A4 i;clear i;go_enter Tryz.func89,Tryz.ntmps89;go_wp2;go_ret;exact⟨AG.no H.out,j⟩
theorem zD0(p:Nat->Addr)(w:World)(h:Cr w p) :
 Calls Tryz.prog 39 #[] w fun e w'=>e = .returned (.agg #[.func (.func 89) #[] #[],AY (p 4)])/\Below w.heap.size w w':=by
 have d:=A9 w (.cells #[.nilFunc,.nilIface] 57);have i:=d;have l:(w.alloc (.cells #[.nilFunc,.nilIface] 57)).cell? ⟨3,0,none⟩=some (AY (p 4)):=(h.A0 i).cell 4 (by omega);have g:=A9 w (.cells #[.func (.func 89) #[] #[],AY (p 4)] 57);have c:=g;go_enter Tryz.func39,Tryz.ntmps39;have j:=fun (k:World) (a:Addr)=>run_store Tryz.prog k a (.func (.func 89) #[] #[]) .plain rfl
 go_wp2_with fail;have b:=Ad.new w (.func (.func 89) #[] #[]) (AY (p 4)) 57;skip;refine bodyPost_ret (v:=.agg #[.func (.func 89) #[] #[],AY (p 4)]) (by simp[results,Tryz.results39,go_sem,b.1.1,b.2.1]) rfl ⟨rfl,c⟩
theorem ZF(p:Nat->Addr)(z v1 A D:Value)(lo hi:Nat)(W:A5)(name:ByteArray)(o:BV)(w:World)(hE:Cr w p)(h:BR w lo hi z v1 A D W)(rA:E7 W)(b1:Az W.pool<=1048576)(b2:W.sn<=1048576)(b3:W.pn<=1048576)(b4:Je W)(J:name.size<=maxLen)
 (nA:∀B0 C w' z0 z1 z2 z3,w'.cell? ⟨B0,0,none⟩=some (.string name)->B0<C->CF W->¬(∃i,i<1/\8000<((fun (_:Nat)=>name) i).size)->¬(∃i,i<1/\¬BK ((fun i=>match i with  | _=>name) i))->(∀j,j<2->(fun i=>match i with | 0=>¬B3 W name | _=>W.sn<8) j)->C<w'.heap.size->Below w.heap.size w w'->DC w' (C+1) w'.heap.size z0 z1 z2 z3 W->Bp w' C z0 z1 (.int .i64 W.time) (.int .i64 W.next) z2 z3 (.int .i64 0) (.int .i64 0) .nilIface->Calls Tryz.prog 40 #[.pointer (some ⟨C,0,none⟩),.pointer (some ⟨B0,0,none⟩)] w' (JU p o C w')) :
 Calls Tryz.prog 14 #[BS z v1 A D W,.string name] w fun e w'=>∃r,Et W (∃i,i<1/\8000<((fun (_:Nat)=>name) i).size) (∃i,i<1/\¬BK ((fun i=>match i with  | _=>name) i)) 2 (fun i=>match i with | 0=>¬B3 W name | _=>W.sn<8) (fun i=>match i with | 0=>3 | _=>4) r/\Iw (F6 r o) w e w':=by
 have Hp:=AP h;have HE:=AP hE;have mB:=AP nA;have sB:=AP rA;have d:=AP J;clear h hE nA rA;have jA:=A9 w (.cells #[z,v1,.int .i64 W.time,.int .i64 W.next,A,D] 30);have Z:=A9 (w.alloc (.cells #[z,v1,.int .i64 W.time,.int .i64 W.next,A,D] 30)) (.cells #[.string name] 9);have M:=A9 ((w.alloc (.cells #[z,v1,.int .i64 W.time,.int .i64 W.next,A,D] 30)).alloc (.cells #[.string name] 9)) (.cells #[.slice none 0 0,.slice none 0 0,.int .i64 0,.int .i64 0,.slice none 0 0,.slice none 0 0,.int .i64 0,.int .i64 0,.int .i64 0] 34);have hb:=A7 (A7 (jA) Z) M;have HX:=AP (((Aj.new w (z) (v1) (.int .i64 W.time) (.int .i64 W.next) (A) (D) 30).A0 Z).A0 M);have c0:((w.alloc (.cells #[z,v1,.int .i64 W.time,.int .i64 W.next,A,D] 30)).alloc (.cells #[.string name] 9)).cell? ⟨(w.alloc (.cells #[z,v1,.int .i64 W.time,.int .i64 W.next,A,D] 30)).heap.size,0,none⟩=some (.string name):=World.cell?_alloc_at _ _ _ _ rfl;rw[World.size_alloc]at c0;replace c0:=(M.cell (AZ c0)).trans c0;have fA:=AP c0;clear c0;have hr:=Bp.new ((w.alloc (.cells #[z,v1,.int .i64 W.time,.int .i64 W.next,A,D] 30)).alloc (.cells #[.string name] 9)) (.slice none 0 0) (.slice none 0 0) (.int .i64 0) (.int .i64 0) (.slice none 0 0) (.slice none 0 0) (.int .i64 0) (.int .i64 0) (.int .i64 0) 34;rw[World.size_alloc,World.size_alloc]at hr;have HR:=AP hr;clear hr;have hz:(((w.alloc (.cells #[z,v1,.int .i64 W.time,.int .i64 W.next,A,D] 30)).alloc (.cells #[.string name] 9)).alloc (.cells #[.slice none 0 0,.slice none 0 0,.int .i64 0,.int .i64 0,.slice none 0 0,.slice none 0 0,.int .i64 0,.int .i64 0,.int .i64 0] 34)).heap.size=w.heap.size+3:=by rw[World.size_alloc,World.size_alloc,World.size_alloc]
 go_enter Tryz.func14,Tryz.ntmps14;go_upto_region 1 with fail;generalize (((w.alloc (.cells #[z,v1,.int .i64 W.time,.int .i64 W.next,A,D] 30)).alloc (.cells #[.string name] 9)).alloc (.cells #[.slice none 0 0,.slice none 0 0,.int .i64 0,.int .i64 0,.slice none 0 0,.slice none 0 0,.int .i64 0,.int .i64 0,.int .i64 0] 34))=W1 at hb HX HR hz fA ⊢;clear jA Z M;obtain⟨x0,x1,x2,x3,x4,x5⟩:=HX.out.c;have k0:=fA.out;have a:=AP (show ∀w',Below (w.heap.size+1+1) W1 w'->(fun w'=>w'.cell? ⟨w.heap.size,0,none⟩=some (z)/\w'.cell? ⟨w.heap.size,1,none⟩=some (v1)/\w'.cell? ⟨w.heap.size,2,none⟩=some (.int .i64 W.time)/\w'.cell? ⟨w.heap.size,3,none⟩=some (.int .i64 W.next)/\w'.cell? ⟨w.heap.size,4,none⟩=some (A)/\w'.cell? ⟨w.heap.size,5,none⟩=some (D)/\w'.cell? ⟨w.heap.size+1,0,none⟩=some (.string name)/\Below (w.heap.size+1+1) W1 w') w' from fun w' b=>⟨(b.cell (p:=⟨w.heap.size,0,none⟩) (by show w.heap.size<_;omega)).trans x0,(b.cell (p:=⟨w.heap.size,1,none⟩) (by show w.heap.size<_;omega)).trans x1,(b.cell (p:=⟨w.heap.size,2,none⟩) (by show w.heap.size<_;omega)).trans x2,(b.cell (p:=⟨w.heap.size,3,none⟩) (by show w.heap.size<_;omega)).trans x3,(b.cell (p:=⟨w.heap.size,4,none⟩) (by show w.heap.size<_;omega)).trans x4,(b.cell (p:=⟨w.heap.size,5,none⟩) (by show w.heap.size<_;omega)).trans x5,(b.cell (p:=⟨w.heap.size+1,0,none⟩) (by show w.heap.size+1<_;omega)).trans k0,b⟩);have q:w.heap.size+1+1<=W1.heap.size:=by omega
 clear x0 x1 x2 x3 x4 x5 k0;refine wp_region_held_drew (S:=(fun w'=>w'.cell? ⟨w.heap.size,0,none⟩=some (z)/\w'.cell? ⟨w.heap.size,1,none⟩=some (v1)/\w'.cell? ⟨w.heap.size,2,none⟩=some (.int .i64 W.time)/\w'.cell? ⟨w.heap.size,3,none⟩=some (.int .i64 W.next)/\w'.cell? ⟨w.heap.size,4,none⟩=some (A)/\w'.cell? ⟨w.heap.size,5,none⟩=some (D)/\w'.cell? ⟨w.heap.size+1,0,none⟩=some (.string name)/\Below (w.heap.size+1+1) W1 w')) (by kernel_rfl) (a.out _ ((Below.refl _ _).drew.mono q)) (fun hHeld=>?_);have vB:Below W1.heap.size W1 W1.drew:=(Below.refl _ _).drew;refine tk 0 (h:=?_);refine tk 2 (h:=?_);refine tk 4 (h:=?_);refine tk 8 (h:=?_);refine tk 10 (h:=?_);refine XG [1,3,5,6,7] (fun i=>if i=7 then [5,6] else []) (fun i=>i+5) (fun i v w'=>(i=1->E8 w' v 1 (fun (_:Nat)=>name))/\(i=3->E8 w' v 1 (fun i=>match i with  | _=>name))/\(i=5->QAt w' p 88 3 [.string name] v)/\(i=6->QAt w' p 89 4 [] v)/\(i=7->Hu w' p 2 (fun i=>match i with | 0=>88 | _=>89) (fun i=>match i with | 0=>3 | _=>4) (fun i=>match i with | 0=>[.string name] | _=>[]) v)) 3 (G:=fun w'=>Below W1.heap.size W1 w') (by kernel_rfl) (by decide) (by decide) (by decide) ?_ (fun _ _ h t=>A7 h t) (by assumption) vB ?_ ?_
 ·intro i v w' mE hf t;exact⟨fun e=>(hf.1 e).A0 t,fun e=>(hf.2.1 e).A0 t,fun e=>(hf.2.2.1 e).A0 t,fun e=>(hf.2.2.2.1 e).A0 t,fun e=>(hf.2.2.2.2 e).A0 t⟩
 ·intro i hi x R hS E hD K hK;simp only[List.mem_cons,List.not_mem_nil,or_false]at hi;rcases hi with rfl | rfl | rfl | rfl | rfl
  ·refine wpOp_step (FP rfl) (fun K' m=>?_);simp only[BJ,Act.put,Nat.reduceAdd,s1,s2,s3];have s:=A9 R (.cells #[.string name] 9);go_simp;refine m _ _ (hK.out _ _ _ ?_ (a.out _ ((A7 E s).mono q)) ⟨fun _=>Qz d.out rfl,fun e=>absurd e (by decide),fun e=>absurd e (by decide),fun e=>absurd e (by decide),fun e=>absurd e (by decide)⟩ s);simp only[BJ,Act.put,Nat.reduceAdd,s1,s2,s3]
  ·refine wpOp_step (FP rfl) (fun K' m=>?_);simp only[BJ,Act.put,Nat.reduceAdd,s1,s2,s3];have s:=A9 R (.cells #[.string name] 9);go_simp;refine m _ _ (hK.out _ _ _ ?_ (a.out _ ((A7 E s).mono q)) ⟨fun e=>absurd e (by decide),fun _=>Qz d.out rfl,fun e=>absurd e (by decide),fun e=>absurd e (by decide),fun e=>absurd e (by decide)⟩ s);simp only[BJ,Act.put,Nat.reduceAdd,s1,s2,s3]
  ·refine wpOp_step (FP rfl) (fun K' m=>?_);simp only[BJ,Act.put,Nat.reduceAdd,s1,s2,s3];go_simp;go_at_call 38;refine(zDH p name R (HE.out.A0 (A7 hb E))).mono ?_;rintro e w3 ⟨B0,rfl,H,y⟩;refine m _ _ (hK.out _ _ w3 ?_ (a.out _ ((A7 E y).mono q)) ⟨fun e=>absurd e (by decide),fun e=>absurd e (by decide),fun _=>⟨_,rfl,Cw.one H⟩,fun e=>absurd e (by decide),fun e=>absurd e (by decide)⟩ y);simp only[BJ,Act.put,Nat.reduceAdd,s1,s2,s3]
  ·refine wpOp_step (FP rfl) (fun K' m=>?_);simp only[BJ,Act.put,Nat.reduceAdd,s1,s2,s3];go_simp;go_at_call 39;refine(zD0 p  R (HE.out.A0 (A7 hb E))).mono ?_;rintro e w3 ⟨rfl,y⟩;refine m _ _ (hK.out _ _ w3 ?_ (a.out _ ((A7 E y).mono q)) ⟨fun e=>absurd e (by decide),fun e=>absurd e (by decide),fun e=>absurd e (by decide),fun _=>⟨_,rfl,Cw.zero⟩,fun e=>absurd e (by decide)⟩ y);simp only[BJ,Act.put,Nat.reduceAdd,s1,s2,s3]
  ·refine wpOp_step (FP rfl) (fun K' m=>?_);simp only[BJ,Act.put,Nat.reduceAdd,s1,s2,s3];obtain⟨sA,e0,aA⟩:=(hD 5 (by decide)).2.2.1 rfl;obtain⟨tA,e1,bA⟩:=(hD 6 (by decide)).2.2.2.1 rfl;simp only[e0,e1];have s:=A9 R (.cells #[.func (.func 88) #[] sA,AY (p 3),.func (.func 89) #[] tA,AY (p 4)] 57);have hA:Hu (R.alloc (.cells #[.func (.func 88) #[] sA,AY (p 3),.func (.func 89) #[] tA,AY (p 4)] 57)) p 2 (fun i=>match i with | 0=>88 | _=>89) (fun i=>match i with | 0=>3 | _=>4) (fun i=>match i with | 0=>[.string name] | _=>[]) (.slice (some ⟨R.heap.size,0,none⟩) 2 2):=zIK (g:=(fun i=>match i with | 0=>88 | _=>89)) (ei:=(fun i=>match i with | 0=>3 | _=>4)) (caps:=(fun i=>match i with | 0=>[.string name] | _=>[])) aA bA;go_simp;refine m _ _ (hK.out _ _ _ ?_ (a.out _ ((A7 E s).mono q)) ⟨fun e=>absurd e (by decide),fun e=>absurd e (by decide),fun e=>absurd e (by decide),fun e=>absurd e (by decide),fun _=>hA⟩ s);simp only[BJ,Act.put,Nat.reduceAdd,s1,s2,s3,e0,e1]
 ·intro x R hS E hF;have L:=(hF 1 (by decide)).1 rfl;obtain⟨-,ta,tc,et,-,-⟩:=id L;have hN:=(hF 3 (by decide)).2.1 rfl;obtain⟨-,na,nc,en,-,-⟩:=id hN;obtain⟨lb,hA,V⟩:=(hF 7 (by decide)).2.2.2.2 rfl;obtain⟨-,qa,qc,eq,-⟩:=id hA;simp only[BJ,D8,if_true,Act.put,Nat.reduceAdd,s1,s2,s3,et,en,eq];rw[et]at L;rw[en]at hN;rw[eq]at hA;have b:=A7 hb E;have pB:=AP L;have oB:=AP hN;have lB:=AP hA;have T:=AP V;clear L hN hA V hF;refine tk 9 (h:=?_);refine rd [11] (rc (fun K hK=>?_) .nil);go_simp;go_at_call 24;refine(qO p _ _ _ 40 #[.pointer (some ⟨w.heap.size+1,0,none⟩)] 1 1 2 (fun (_:Nat)=>name) (fun i=>match i with  | _=>name) (fun i=>match i with | 0=>88 | _=>89) lb (fun i=>match i with | 0=>3 | _=>4) (fun i=>match i with | 0=>¬B3 W name | _=>W.sn<8) o _ _ _ _ lo hi W R (HE.out.A0 b) (Hp.out.A0 b) sB.out b1 b2 b3 b4 pB.out oB.out lB.out ?_ ?_ (enters_of Tryz.func40 (by kernel_rfl) rfl) ?_ ?_).mono ?_
  ·intro i hi;rcases(by omega:i=0\/i=1)with rfl | rfl
   all_goals decide
  ·intro i hi;rcases(by omega:i=0\/i=1)with rfl | rfl
   ·exact enters_of Tryz.func88 (by kernel_rfl) rfl
   ·exact enters_of Tryz.func89 (by kernel_rfl) rfl
  ·intro i vD w' I hI tD;have hW:=(Hp.out.A0 b).A0 I;have h8:=hI.AX.A3.1;have rD:=hI.AX.A1.1;rcases(by omega:i=0\/i=1)with rfl | rfl
   ·obtain⟨B0,Y,H⟩:=(T.out 0 (by decide)).is1;replace H:=(I.cell (AZ H)).trans H;rw[Y];exact zDK z v1 A D lo hi W B0 name w' hW h8 J H
   ·have Y:=(T.out 1 (by decide)).is0;rw[Y];exact zDF z v1 A D lo hi W w' hW
  ·intro C w' z0 z1 z2 z3 hC I tB hI hl cC hq u lA;exact mB.out (w.heap.size+1) C w' z0 z1 z2 z3 ((I.cell (AZ hS.2.2.2.2.2.2.1)).trans hS.2.2.2.2.2.2.1) (by have:=E.size;omega) hI hl cC hq tB (A7 b I) u lA
  rintro e w3 ⟨r,X,z0,z1,z2,z3,rfl,u,y⟩;obtain⟨n0,N,n1,O,n2,P,n3,Q,rfl,rfl,rfl,rfl⟩:=u.C5;have F:=A7 E y;have gA:=AP (HR.out.A0 F);have U:=AP u;have iA:=AP X;clear u X;generalize pA:F6 r o=oo at U ⊢;have rB:=AP pA;clear pA
  (try go_wp2_with fail)
  refine hK.out _ _ (a.out _ (F.mono q)) ?_;clear hK K hHeld;intro hHeld
  try simp only[Act.put,s1,s2,s3]
  refine rd [12] (rc (fun K hK=>?_) .nil);obtain⟨⟨r0,g0⟩,⟨r1,g1⟩,⟨r2,g2⟩,⟨r3,g3⟩,⟨r4,g4⟩,⟨r5,g5⟩,⟨r6,g6⟩,⟨r7,g7⟩,⟨r8,g8⟩⟩:=gA.out;go_simp
  (try go_wp2_with fail)
  have L:=AI.put9 w3 (w.heap.size+1+1) (.slice n0 oo.world.pool.n N) (.slice n1 oo.world.pool.hn O) (.int .i64 oo.world.time) (.int .i64 oo.world.next) (.slice n2 oo.world.sn P) (.slice n3 oo.world.pn Q) (.int .i64 oo.id) (.int .i64 oo.many) (.int .i64 oo.code);have bC:Below (w.heap.size+1+1) W1 (((((((((w3.setCell ⟨w.heap.size+1+1,0,none⟩ (.slice n0 oo.world.pool.n N)).setCell ⟨w.heap.size+1+1,1,none⟩ (.slice n1 oo.world.pool.hn O)).setCell ⟨w.heap.size+1+1,2,none⟩ (.int .i64 oo.world.time)).setCell ⟨w.heap.size+1+1,3,none⟩ (.int .i64 oo.world.next)).setCell ⟨w.heap.size+1+1,4,none⟩ (.slice n2 oo.world.sn P)).setCell ⟨w.heap.size+1+1,5,none⟩ (.slice n3 oo.world.pn Q)).setCell ⟨w.heap.size+1+1,6,none⟩ (.int .i64 oo.id)).setCell ⟨w.heap.size+1+1,7,none⟩ (.int .i64 oo.many)).setCell ⟨w.heap.size+1+1,8,none⟩ (.int .i64 oo.code)):=(F.mono q).trans (L.A0 (B:=w.heap.size+1+1) (by have:=F.size;omega) (fun k e=>by omega));refine hK.out _ _ (a.out _ bC) ?_;clear hK K hHeld r0 r1 r2 r3 r4 r5 r6 r7 r8 g0 g1 g2 g3 g4 g5 g6 g7 g8;intro hHeld
  try simp only[Act.put,s1,s2,s3]
  refine wpAnyH_done (by kernel_rfl) ?_ _;go_wp2_with fail;have l:=gA.out.put (.slice n0 oo.world.pool.n N) (.slice n1 oo.world.pool.hn O) (.int .i64 oo.world.time) (.int .i64 oo.world.next) (.slice n2 oo.world.sn P) (.slice n3 oo.world.pn Q) (.int .i64 oo.id) (.int .i64 oo.many) (.int .i64 oo.code);have mA:=A7 hb F;have eC:=L.size;have dE:=F.size;refine bodyPost_ret (v:=.agg #[.slice n0 oo.world.pool.n N,.slice n1 oo.world.pool.hn O,.int .i64 oo.world.time,.int .i64 oo.world.next,.slice n2 oo.world.sn P,.slice n3 oo.world.pn Q,.int .i64 oo.id,.int .i64 oo.many,.int .i64 oo.code]) (by simp[results,Tryz.results14,go_sem,l.1.1,l.2.1.1,l.2.2.1.1,l.2.2.2.1.1,l.2.2.2.2.1.1,l.2.2.2.2.2.1.1,l.2.2.2.2.2.2.1.1,l.2.2.2.2.2.2.2.1.1,l.2.2.2.2.2.2.2.2.1]) rfl ⟨r,iA.out,?_⟩;rw[rB.out];refine⟨_,_,_,_,rfl,?_,?_⟩
  ·exact(U.out.AH L (fun k e=>by have:=E.size;omega)).wide (by have:=E.size;omega) eC
  ·exact mA.trans (L.A0 (B:=w.heap.size) mA.size (fun k e=>by omega))
theorem zJj:Tryz.prog.underlying 27=some (.slice 44):=by kernel_rfl
theorem zF2(b j:Nat):(⟨b,0,none⟩:Addr).add j=⟨b,j,none⟩:=by
 unfold Addr.add;split
 ·simp_all
 ·simp
variable{f:Nat->AM}{kv:Nat->Value}
theorem zBJ{w:World}{bs o nb:Nat}{i:Nat}(h:Ff w bs o nb (kv i) (f i)):∀r,r<6->w.cell? ⟨bs,o+r,none⟩=some (CC f kv i r)
 | 0,_=>h.c0.1
 | 1,_=>h.c1.1
 | 2,_=>h.c2.1
 | 3,_=>h.c3.1
 | 4,_=>h.c4.1
 | 5,_=>h.c5.1
 | n+6,h=>absurd h (by omega)
def PJ(s:AM):List Value:=[.string s.name,.int .i64 s.origin,.int .i64 s.A6,.int .i64 s.rs,.int .i64 s.rb,.slice none 0 0]
theorem zHt(s:AM):∀r,r<6->(PJ s)[r]?=some (M5 s (.slice none 0 0) r)
 | 0,_=>rfl
 | 1,_=>rfl
 | 2,_=>rfl
 | 3,_=>rfl
 | 4,_=>rfl
 | 5,_=>rfl
 | n+6,h=>absurd h (by omega)
def FA(f:Nat->AM)(n:Nat)(s:AM):Nat->AM:=fun j=>if j<n then f j else s
def Fy(kv:Nat->Value)(n:Nat):Nat->Value:=fun j=>if j<n then kv j else .slice none 0 0
variable{n:Nat}
theorem zA0{w:World}{bs B base:Nat}{kb:Nat->Nat}{v:Value}{s:AM}(T:DD w bs kb kv v n f)(R:CE w 44 6 v n)(hn:n<8)(F:0<n->base<=bs)(C:∀j u,(PJ s)[j]?=some u->w.cell? ⟨B,j,none⟩=some u)(p:base<=w.heap.size)(ty:TypeId) :
 ∃g cap w',(Builtin.append_ #[27,27] ty #[v,.slice (some ⟨B,0,none⟩) 1 1]).run Tryz.prog w = .ok (.slice (some ⟨g,0,none⟩) (n+1) cap) w'/\AI (fun j=>0<n/\j=bs) w w'/\((0<n/\g=bs)\/g=w.heap.size)/\g<w'.heap.size/\n+1<=cap/\CE w' 44 6 (.slice (some ⟨g,0,none⟩) (n+1) cap) (n+1)/\
  ∀i,i<n+1->∀r,r<6->AJ w' g (i*6+r) (CC (FA f n s) (Fy kv n) i r):=by
 obtain⟨i0,J,E⟩:=Option.map_eq_some_iff.1 V7;simp only[Prod.mk.injEq]at E;obtain⟨N,L,G⟩:=E;have q:0<n->v.ownBlock=some bs:=fun k=>by
  obtain⟨_,a,c,hv,_,M⟩:=T;obtain⟨off,W,_⟩:=M k;rw[hv,W];rfl
 obtain⟨g,cap,w',row,Z,o,X,K,H,I⟩:=CE.append (P:=Tryz.prog) 27 ty 44 i0 _ 6 72 base zJj J N L G rfl (by decide) R (IG f kv n)
  (fun k g b=>by
   rw[q k]at b;injection b with b;exact b▸F k)
  (fun k g b j u m=>by
   have Y:j<n*6:=by
    have:=(List.getElem?_eq_some_iff.1 m).1
    rwa [IG]at this
   obtain⟨_,a,c,hv,_,M⟩:=T;obtain⟨off,y,z⟩:=M k;rcases R with⟨e,_⟩ | ⟨_,g',t,V,d,_⟩
   ·omega
   ·rw[hv,y]at d;simp only[Value.slice.injEq,Option.some.injEq,Addr.mk.injEq,and_true,true_and]at d;obtain⟨⟨rfl,rfl⟩,rfl⟩:=d;rw[hv,y]at b;obtain rfl:bs=g:=(by injection b);have S:j / 6<n:=(by omega);have Q:=zBJ (z (j / 6) S) (j % 6) (by omega);have x:0+j / 6*6+j % 6=j:=(by omega);have O:=IA f kv n S (show j % 6<6 by omega);rw[show j / 6*6+j % 6=j by omega,m]at O;rw[x]at Q;rw[Q,O])
  ⟨B,0,none⟩ 1 1 (PJ s) rfl (fun j u m=>by rw[zF2];exact C j u m) (fun u U=>by
   simp only[PJ,List.mem_cons,List.not_mem_nil,or_false]at U;rcases U with rfl | rfl | rfl | rfl | rfl | rfl<;>rfl) (by omega) (by unfold maxLen;omega) (by omega) p
 obtain⟨g',t,d,A,_,_,l⟩:=FN o (by omega);simp only[Value.slice.injEq,Option.some.injEq,Addr.mk.injEq,and_true,true_and]at d;obtain⟨rfl,rfl⟩:=d;refine⟨g,cap,w',Z,(zBx X).mono ?_,?_,I,A,IM o (fun h=>by omega),?_⟩
 ·intro j m;rcases K with h | ⟨k,h⟩
  ·rw[h]at m;cases m
  ·rw[h,q k]at m;injection m with m;exact⟨k,m.symm⟩
 ·rcases H with⟨k,h⟩ | h
  ·rw[q k]at h;injection h with h;exact Or.inl ⟨k,h.symm⟩
  ·exact Or.inr h
 ·intro i hi r D;by_cases e:i<n
  ·have x:CC (FA f n s) (Fy kv n) i r=CC f kv i r:=by
    unfold CC FA Fy;rw[if_pos e,if_pos e]
   rw[x];exact l _ _ (by rw[List.getElem?_append_left (by rw[IG];omega)];exact IA f kv n e D)
  ·obtain rfl:i=n:=(by omega);have x:CC (FA f i s) (Fy kv i) i r=M5 s (.slice none 0 0) r:=by
    unfold M5 CC FA Fy;rw[if_neg e,if_neg e]
   rw[x];exact l _ _ (by rw[List.getElem?_append_right (by rw[IG];omega),IG,show i*6+r - i*6=r by omega];exact zHt s r D)
theorem zAb(s:AM)(a:Option Addr)(c B:Nat)(name:ByteArray)(w:World)(d:w.cell? ⟨B,0,none⟩=some (.string name)) :
 Calls Tryz.prog 97 #[.agg #[.string s.name,.int .i64 s.origin,.int .i64 s.A6,.int .i64 s.rs,.int .i64 s.rb,.slice a s.dn c],.pointer (some ⟨B,0,none⟩)] w fun e w'=>AG (s.name=name) e/\Below w.heap.size w w':=by
 have g:=A9 w (.cells #[.string s.name,.int .i64 s.origin,.int .i64 s.A6,.int .i64 s.rs,.int .i64 s.rb,.slice a s.dn c] 44);have i:=(g.cell (AZ d)).trans d;clear d;obtain⟨j,k,l,m,n,o⟩:=(Aj.new w (.string s.name) (.int .i64 s.origin) (.int .i64 s.A6) (.int .i64 s.rs) (.int .i64 s.rb) (.slice a s.dn c) 44).c;by_cases b:s.name=name
 ·skip;have h:=Lb b;have H:=A4 b;clear b;go_enter Tryz.func97,Tryz.ntmps97;go_wp2;go_ret;exact⟨AG.yes H.out,g⟩
 ·skip;have h:=KY b;have H:=A4 b;clear b;go_enter Tryz.func97,Tryz.ntmps97;go_wp2;go_ret;exact⟨AG.no H.out,g⟩
variable{k:Nat}
theorem zFL{name:ByteArray}{e:Ending}(hn:(f k).name=name)(c:∀j,j<k->(f j).name≠name)(d:k<n)
 (g:(∃i:Nat,i<n/\(f i).name=name/\(∀j,j<i->¬(f j).name=name)/\e = .returned (.int .i64 (i:Int)))\/((∀j,j<n->¬(f j).name=name)/\e = .returned (.int .i64 (-1)))):e = .returned (.int .i64 (k:Int)):=by
 rcases g with⟨i,hi,a,b,rfl⟩ | ⟨a,_⟩
 ·obtain rfl:i=k:=by
   rcases Nat.lt_trichotomy i k with h | h | h
   ·exact absurd a (c i h)
   ·exact h
   ·exact absurd hn (b k h)
  rfl
 ·exact absurd hn (a k d)
theorem zm(C lo hi n k q:Nat)(t:Option Addr)(f:Nat->AM)(name:ByteArray)(w:World)(x:w.cell? ⟨C,4,none⟩=some (.slice t n q))(u:EF w lo hi (.slice t n q) n f)(hn:n<=8)(y:k<n)(g:(f k).name=name)(d:∀j,j<k->(f j).name≠name) :
 Calls Tryz.prog 54 #[.pointer (some ⟨C,0,none⟩),.string name] w fun e w'=>(∃b off,t=some ⟨b,off,none⟩/\e = .returned (.pointer (some ⟨b,off+k*6,none⟩)))/\Below w.heap.size w w':=by
 have B:=A4 u;have A:=A4 g;have z:=A4 d;obtain⟨b,off,vd,rfl,-⟩:=u.cells y;clear u g d;have r:=A9 w (.cells #[.string name] 9);have c0:(w.alloc (.cells #[.string name] 9)).cell? ⟨w.heap.size,0,none⟩=some (.string name):=World.cell?_alloc_at _ _ _ _ rfl;have m:=(r.cell (AZ x)).trans x;have s:=A4 c0;have G:(k:Int)<(n:Int):=by omega
 clear c0 x;go_enter Tryz.func54,Tryz.ntmps54;go_wp2_with fail;generalize w.alloc (.cells #[.string name] 9)=W1 at r m s ⊢;have D:=A4 (show ∀w',Below W1.heap.size W1 w'->Calls Tryz.prog 96 #[.slice (some ⟨b,off,none⟩) n q,.func (.func 97) #[] #[.pointer (some ⟨w.heap.size,0,none⟩)]] w' fun e o=>e = .returned (.int .i64 (k:Int))/\Below w'.heap.size w' o from fun w' p=>by
  refine(zCK 97 #[.pointer (some ⟨w.heap.size,0,none⟩)] (enters_of Tryz.func97 (by kernel_rfl) rfl) (fun i=>(f i).name=name) _ n lo hi f w' ((B.out.A0 r).A0 p) (by omega) (fun i F a c o v J=>zAb (f i) a c _ name o (((A7 p v).cell (AZ s.out)).trans s.out))).mono ?_;rintro e I ⟨H,l⟩;exact⟨zFL A.out z.out y H,l⟩)
 go_region_held3 (fun w'=>w'.cell? ⟨C,4,none⟩=some (.slice (some ⟨b,off,none⟩) n q)) (go_keep)
  (first | (go_at_call 96;refine(D.out _ (Below.refl _ _).drew).mono ?_;rintro e I ⟨rfl,l⟩;have h:=Cp l;have E:=(h.cell (AZ m)).trans m))
 go_wp2;go_ret;exact⟨⟨b,off,rfl,rfl⟩,A7 r h⟩
structure zJD (p:Prop):Prop where
 out:p
theorem zFd{A B:Prop}(f:zJD A->B)(h:A):B:=f ⟨h⟩
open Go.Shelf
def zCp:Go.Shelf.Ren:=⟨fun | 6=>90 | 15=>146 | 14=>145 | 28=>193 | 29=>194 | 20=>185 | 21=>186 | 22=>187 | 23=>188 | 24=>189 | 25=>190 | 26=>191 | 27=>192 | 46=>215 | 47=>216 | 48=>217 | 49=>218 | 50=>219 | 57=>220 | n=>n,fun | 22=>27 | 24=>44 | 25=>124 | 3=>3 | 39=>171 | 0=>0 | 53=>220 | 55=>116 | 4=>4 | 46=>213 | 45=>212 | 50=>217 | 5=>5 | 9=>9 | 66=>247 | 70=>251 | 76=>253 | 77=>254 | n=>n,fun | n=>n⟩
theorem zEk:Go.Proofs.SlLaysF0.n6 Tryz.prog zCp:={
 mixed:=by kernel_rfl
 f6:=⟨Tryz.f90.name,by decide,Tryz.func90.trans (congrArg some (by kernel_rfl))⟩
 f14:=⟨Tryz.f145.name,by decide,Tryz.func145.trans (congrArg some (by kernel_rfl))⟩
 f15:=Tryz.func146.trans (congrArg some (by kernel_rfl))
 f20:=⟨Tryz.f185.name,by decide,Tryz.func185.trans (congrArg some (by kernel_rfl))⟩
 f21:=⟨Tryz.f186.name,by decide,Tryz.func186.trans (congrArg some (by kernel_rfl))⟩
 f22:=⟨Tryz.f187.name,by decide,Tryz.func187.trans (congrArg some (by kernel_rfl))⟩
 f23:=⟨Tryz.f188.name,by decide,Tryz.func188.trans (congrArg some (by kernel_rfl))⟩
 f24:=⟨Tryz.f189.name,by decide,Tryz.func189.trans (congrArg some (by kernel_rfl))⟩
 f25:=⟨Tryz.f190.name,by decide,Tryz.func190.trans (congrArg some (by kernel_rfl))⟩
 f26:=⟨Tryz.f191.name,by decide,Tryz.func191.trans (congrArg some (by kernel_rfl))⟩
 f27:=⟨Tryz.f192.name,by decide,Tryz.func192.trans (congrArg some (by kernel_rfl))⟩
 f28:=Tryz.func193.trans (congrArg some (by kernel_rfl))
 f29:=Tryz.func194.trans (congrArg some (by kernel_rfl))
 f46:=⟨Tryz.f215.name,by decide,Tryz.func215.trans (congrArg some (by kernel_rfl))⟩
 f47:=Tryz.func216.trans (congrArg some (by kernel_rfl))
 f48:=Tryz.func217.trans (congrArg some (by kernel_rfl))
 f49:=⟨Tryz.f218.name,by decide,Tryz.func218.trans (congrArg some (by kernel_rfl))⟩
 f50:=⟨Tryz.f219.name,by decide,Tryz.func219.trans (congrArg some (by kernel_rfl))⟩
 f57:=⟨Tryz.f220.name,by decide,Tryz.func220.trans (congrArg some (by kernel_rfl))⟩
 t0:=Tryz.underlying0
 a0:=Tryz.isAgg0
 z0:=Tryz.sizeOf0
 v0:=Tryz.zeroValue0
 t3:=Tryz.underlying3
 a3:=Tryz.isAgg3
 z3:=Tryz.sizeOf3
 v3:=Tryz.zeroValue3
 t4:=Tryz.underlying4
 a4:=Tryz.isAgg4
 z4:=Tryz.sizeOf4
 v4:=Tryz.zeroValue4
 t5:=Tryz.underlying5
 a5:=Tryz.isAgg5
 z5:=Tryz.sizeOf5
 v5:=Tryz.zeroValue5
 t9:=Tryz.underlying9
 a9:=Tryz.isAgg9
 z9:=Tryz.sizeOf9
 v9:=Tryz.zeroValue9
 t22:=Tryz.underlying27
 a22:=Tryz.isAgg27
 z22:=Tryz.sizeOf27
 v22:=Tryz.zeroValue27
 t25:=Tryz.underlying124
 a25:=Tryz.isAgg124
 z25:=Tryz.sizeOf124
 v25:=Tryz.zeroValue124
 t39:=Tryz.underlying171
 a39:=Tryz.isAgg171
 z39:=Tryz.sizeOf171
 v39:=Tryz.zeroValue171
 t45:=Tryz.underlying212
 a45:=Tryz.isAgg212
 z45:=Tryz.sizeOf212
 v45:=Tryz.zeroValue212
 t46:=Tryz.underlying213
 a46:=Tryz.isAgg213
 z46:=Tryz.sizeOf213
 v46:=Tryz.zeroValue213
 t50:=Tryz.underlying217
 a50:=Tryz.isAgg217
 z50:=Tryz.sizeOf217
 v50:=Tryz.zeroValue217
 t53:=Tryz.underlying220
 a53:=Tryz.isAgg220
 z53:=Tryz.sizeOf220
 v53:=Tryz.zeroValue220
 t55:=Tryz.underlying116
 a55:=Tryz.isAgg116
 z55:=Tryz.sizeOf116
 v55:=Tryz.zeroValue116
 t66:=Tryz.underlying247
 a66:=Tryz.isAgg247
 z66:=Tryz.sizeOf247
 v66:=Tryz.zeroValue247
 t70:=Tryz.underlying251
 a70:=Tryz.isAgg251
 z70:=Tryz.sizeOf251
 v70:=Tryz.zeroValue251
 t76:=Tryz.underlying253
 a76:=Tryz.isAgg253
 z76:=Tryz.sizeOf253
 v76:=Tryz.zeroValue253
 t77:=Tryz.underlying254
 a77:=Tryz.isAgg254
 z77:=Tryz.sizeOf254
 v77:=Tryz.zeroValue254}
theorem VT : ∀ x y : List UInt8, Lib.compareBytes x y < 0 ↔ Op.bytesLess x y = true
 | [], [] => by simp[Lib.compareBytes, Op.bytesLess]
 | [], b :: y => by simp[Lib.compareBytes, Op.bytesLess]
 | a :: x, [] => by simp[Lib.compareBytes, Op.bytesLess]
 | a :: x, b :: y => by
   simp only[Lib.compareBytes, Op.bytesLess, Bool.or_eq_true, decide_eq_true_eq, Bool.and_eq_true, beq_iff_eq];by_cases c : a < b
   · rw[if_pos c];simp[c]
   · rw[if_neg c]
     by_cases d : b < a
     · rw[if_pos d]
       have g : a ≠ b := fun e => by subst e;exact c d
       simp[c, g]
     · rw[if_neg d]
       have g : a = b := by
        rw[UInt8.lt_iff_toNat_lt]at c d;exact UInt8.toNat_inj.1 (by omega)
       rw[VT x y];simp[g]
/-- How the names of two of a row compare. -/
def IT (f : Nat -> AM) (x y : Nat) : Int := Lib.compareBytes (f x).name.data.toList (f y).name.data.toList
theorem Jh (f : Nat -> AM) (x y : Nat) : ltOf (IT f) x y = true ↔ BF (f x).name (f y).name := by
 unfold ltOf IT BF;rw[decide_eq_true_eq, VT, Go.ByteArray.toList_eq, Go.ByteArray.toList_eq]
theorem Kn (f : Nat -> AM) (x y : Nat) : ltOf (IT f) x y = false ↔ ¬ BF (f x).name (f y).name := by
 rw[<- Jh, Bool.not_eq_true]
theorem zJl (f : Nat -> AM) : Go.Sort.SWO (ltOf (IT f)) where
 irrefl x := (Kn f x x).2 (fun h => Fr h rfl)
 trans x y z h1 h2 := (Jh f x z).2 (K8 ((Jh f x y).1 h1) ((Jh f y z).1 h2))
 ntrans x y z h1 h2 := (Kn f x z).2 (fun h => by
  rw[Kn]at h1 h2;by_cases e : (f x).name = (f y).name
  · rw[e]at h;exact h2 h
  · rcases UI _ _ e with a | a
    · exact h1 a
    · exact h2 (K8 a h))
variable{d':Array Nat}
/-- The one order. -/
theorem zAB (F : k <= n) {lt : Nat -> Nat -> Bool} (p : ∀ i j, i < j -> j < n -> lt j i = false /\ lt i j = true) (t : ∀ i, i < k -> lt n i = false /\ lt i n = true) (u : ∀ i, k <= i -> i < n -> lt i n = false /\ lt n i = true) (E : d'.size = n + 1) (B : d'.toList.Perm (List.range (n + 1))) (hs : ∀ i j, i < j -> j < n + 1 -> lt d'[j]! d'[i]! = false) : d'.toList = List.range k ++ n :: List.range' k (n - k) := by
 have A : List.range (n + 1) = (List.range k ++ List.range' k (n - k)) ++ [n] := by
  rw[List.range_succ];congr 1;rw[List.range_eq_range', List.range_eq_range'];have := List.range'_append_1 (s := 0) (m := k) (n := n - k);rw[Nat.zero_add]at this;rw[this, show k + (n - k) = n by omega]
 refine List.Perm.eq_of_pairwise (le := fun x y => lt y x = false) ?_ ?_ ?_ (B.trans ?_)
 · intro a b d c h l
   have o : a < n + 1 := List.mem_range.1 (B.mem_iff.1 d);have C : b < n + 1 := by
    rw[List.mem_append, List.mem_cons, List.mem_range, List.mem_range'_1]at c;omega
   by_cases e : a = b
   · exact e
   · exfalso
     rcases Nat.lt_or_gt_of_ne e with e | e
     · by_cases q : b < n
       · rw[(p a b e q).2]at l;cases l
       · obtain rfl : b = n := by omega
         by_cases r : a < k
         · rw[(t a r).2]at l;cases l
         · rw[(u a (by omega) e).2]at h;cases h
     · by_cases q : a < n
       · rw[(p b a e q).2]at h;cases h
       · obtain rfl : a = n := by omega
         by_cases r : b < k
         · rw[(t b r).2]at h;cases h
         · rw[(u b (by omega) e).2]at l;cases l
 · rw[List.pairwise_iff_getElem]
   intro i j hi D w;have v : i < d'.size := by simpa using hi
   have z : j < d'.size := by simpa using D
   have := hs i j w (by omega);rw[getElem!_pos d' i v, getElem!_pos d' j z]at this;simpa using this
 · rw[List.pairwise_append]
   refine ⟨?_, ?_, ?_⟩
   · refine List.Pairwise.imp_of_mem ?_ (List.pairwise_lt_range (n := k))
     intro a b d c g;exact (p a b g (by have := List.mem_range.1 c;omega)).1
   · rw[List.pairwise_cons]
     refine ⟨fun a d => ?_, ?_⟩
     · rw[List.mem_range'_1]at d
       exact (u a (by omega) (by omega)).1
     · refine List.Pairwise.imp_of_mem ?_ (List.pairwise_lt_range' (s := k) (n := n - k))
       intro a b d c g;rw[List.mem_range'_1]at c;exact (p a b g (by omega)).1
   · intro a d b c
     have o := List.mem_range.1 d;rw[List.mem_cons, List.mem_range'_1]at c;rcases c with rfl | c
     · exact (t a o).1
     · exact (p a b (by omega) (by omega)).1
 · rw[A, List.append_assoc]
   exact List.Perm.append_left _ (List.perm_append_singleton n _)
theorem zFZ{j:Nat} (d : k <= n) (c : j < n + 1) (h : d'.toList = List.range k ++ n :: List.range' k (n - k)) : d'[j]! = if j < k then j else if j = k then n else j - 1 := by
 have b : d'.size = n + 1 := by
  have := congrArg List.length h;simp at this;omega
 rw[getElem!_pos d' j (by omega)];have e : d'.toList[j]? = some d'[j] := by
  rw[Array.getElem?_toList];exact Array.getElem?_eq_getElem (by omega)
 rw[h]at e;rcases Nat.lt_trichotomy j k with a | a | a
 · rw[if_pos a]
   rw[List.getElem?_append_left (by simpa using a), List.getElem?_range a]at e;injection e with e;exact e.symm
 · subst a
   rw[if_neg (Nat.lt_irrefl _), if_pos rfl];rw[List.getElem?_append_right (by simp), List.length_range, Nat.sub_self]at e;simp at e;exact e.symm
 · rw[if_neg (by omega), if_neg (by omega)]
   rw[List.getElem?_append_right (by simp;omega), List.length_range, show j - k = (j - 1 - k) + 1 by omega, List.getElem?_cons_succ, List.getElem?_range' (by omega)]at e;injection e with e;omega
theorem zCV (a b : ByteArray) (w : World) : Calls Tryz.prog 147 #[.string a, .string b] w fun e w' => e = .returned (.int .i64 (Lib.compareBytes a.data.toList b.data.toList)) /\ w' = w := by
 go_enter Tryz.func147, Tryz.ntmps147;go_wp2;rw[run_callFunc_extern Tryz.func195 (by kernel_rfl) (by kernel_rfl) (by kernel_rfl) (e := Extern.BytealgCompare.compare) (by kernel_rfl), Lib.run_compareString];simp only[Result.andThen];rw[Oper.upon_value];go_wp2;go_ret;exact ⟨rfl, rfl⟩
theorem zCu (a b : ByteArray) (w : World) : Calls Tryz.prog 92 #[.string a, .string b] w fun e w' => e = .returned (.int .i64 (Lib.compareBytes a.data.toList b.data.toList)) /\ w' = w := by
 go_enter Tryz.func92, Tryz.ntmps92;go_wp2_with (go_at_call 147;refine (zCV _ _ _).mono ?_;rintro e w' ⟨rfl, rfl⟩);go_ret;exact ⟨rfl, rfl⟩
def Gs (f : Nat -> AM) (kv : Nat -> Value) (i : Nat) : List Value := [.string (f i).name, .int .i64 (f i).origin, .int .i64 (f i).A6, .int .i64 (f i).rs, .int .i64 (f i).rb, kv i]
theorem zAU (f : Nat -> AM) (g : Nat -> Value) (d : ∀ i, ∃ a m c, g i = .slice a m c) (x y : Nat) (W : World) : Calls Tryz.prog 91 #[.agg (Gs f g x).toArray, .agg (Gs f g y).toArray] W fun e w' => e = .returned (.int .i64 (IT f x y)) /\ ∃ q h, w' = Go.Sort.grow (W.drewN q) h := by
 obtain ⟨n, s, c1, k⟩ := d x;obtain ⟨o, t, p, l⟩ := d y;have b := fun j => zCu (f x).name (f y).name j
 unfold Gs;rw[k, l];unfold IT;generalize Lib.compareBytes (f x).name.data.toList (f y).name.data.toList = r at b ⊢;clear d;go_enter Tryz.func91, Tryz.ntmps91;go_wp2_with (go_at_call 92;refine (b _).mono ?_;rintro e w' ⟨rfl, rfl⟩);go_ret;exact ⟨rfl, 0, _, by rw[Go.Sort.alloc_eq_grow, Go.Sort.alloc_eq_grow, Go.Sort.grow_grow];rfl⟩
theorem TL (f : Nat -> AM) (a : Nat -> Value) (i : Nat) : ∀ r, r < 6 -> (Gs f a i)[r]! = CC f a i r
 | 0, _ => rfl
 | 1, _ => rfl
 | 2, _ => rfl
 | 3, _ => rfl
 | 4, _ => rfl
 | 5, _ => rfl
 | n + 6, h => absurd h (by omega)
theorem zBO {α : Type} [Inhabited α] (enc : α -> List Value) (k : Nat) (w : World) (g m : Nat) (d : Array α) (os : Array Obj) : AI (fun j => j = g) w (sortWorldK enc k w g 0 m d os) := by
 refine ⟨rfl, rfl, rfl, ?_, fun j c b => ?_⟩
 · simp[sortWorldK, Go.Sort.grow, Go.Sort.putRowK, Go.Sort.putRow, Go.Sort.mapBlock, Go.Sort.ahead]
 · have a : ¬ g = j := fun e => b e.symm
   simp[sortWorldK, Go.Sort.grow, Go.Sort.putRowK, Go.Sort.putRow, Go.Sort.mapBlock, Go.Sort.ahead, Array.getElem?_append, Array.getElem_modify, c, a]
theorem zBt (n k g cap : Nat) (f : Nat -> AM) (b : Nat -> Value) (z : ∀ i, ∃ a m c, b i = .slice a m c) (w : World) (D : g < w.heap.size) (E : k <= n) (hn : n <= 1000)
 (J : ∀ i, i < n + 1 -> ∀ r, r < 6 -> AJ w g (i * 6 + r) (CC f b i r)) (F : ∀ i j, i < j -> j < n -> BF (f i).name (f j).name) (A : ∀ i, i < k -> BF (f i).name (f n).name) (B : ∀ i, k <= i -> i < n -> BF (f n).name (f i).name) :
 Calls Tryz.prog 90 #[.slice (some ⟨g, 0, none⟩) (n + 1) cap, .func (.func 91) #[] #[]] w fun e w' => e = .returned (.tuple #[]) /\ AI (fun j => j = g) w w' /\ ∀ j, j < n + 1 -> ∀ r, r < 6 -> AJ w' g (j * 6 + r) (CC (ins f k (f n)) (ins b k (b n)) j r) := by
 have l : (Array.range (n + 1)).size = n + 1 := Array.size_range;have C : Go.Sort.HoldsK (Gs f b) 6 w g 0 (Array.range (n + 1)) := by
  intro j q;rw[Go.Sort.size_flatK, l]at q;rw[Go.Sort.get_flatK _ _ _ _ (by rw[l];exact q), Nat.zero_add];have K : j / 6 < n + 1 := by omega
  rw[getElem!_pos (Array.range (n + 1)) (j / 6) (by omega), Array.getElem_range, TL _ _ _ _ (by omega)];have := J (j / 6) K (j % 6) (by omega);rw[show j / 6 * 6 + j % 6 = j by omega]at this;exact this
 have d := AnyQ.slices_SortFunc zEk 6 Tryz.isAgg44 Tryz.sizeOf44 (Gs f b) (fun _ => rfl) (fun x v hv => by
  obtain ⟨a, m, c, e⟩ := z x;simp only[Gs, List.mem_cons, List.not_mem_nil, or_false]at hv;rcases hv with rfl | rfl | rfl | rfl | rfl | rfl
  all_goals first | rfl | (rw[e];rfl)) (IT f) (zJl f) 91 #[] g 0 cap (Array.range (n + 1)) w (enters_of Tryz.func91 (by kernel_rfl) rfl) (fun m os M hs x y => zAU f b z x y _) C D (by omega)
 change Calls Tryz.prog 90 _ _ _ at d;rw[l]at d;refine d.mono ?_;rintro e w' ⟨rfl, d', m, os, G, hs, rfl⟩;refine ⟨rfl, zBO _ _ _ _ _ _ _, fun j q r H => ?_⟩;have p : d'.size = n + 1 := G.1.trans l;have I := zAB E (lt := ltOf (IT f)) (d' := d') (fun i j o u => ⟨(Kn f j i).2 (L6 (F i j o u)), (Jh f i j).2 (F i j o u)⟩)
  (fun i hi => ⟨(Kn f n i).2 (L6 (A i hi)), (Jh f i n).2 (A i hi)⟩)
  (fun i hi t => ⟨(Kn f i n).2 (L6 (B i hi t)), (Jh f n i).2 (B i hi t)⟩) p
  (by
    have s := G.2.2;rw[show d'.extract 0 (n + 1) = d' by rw[<- p];exact Array.extract_size, show (Array.range (n + 1)).extract 0 (n + 1) = Array.range (n + 1) by
     have := Array.extract_size (xs := Array.range (n + 1))
     rwa [l]at this]at s
    simpa using s)
  (fun i j o q => hs i j (Nat.zero_le _) o q)
 have L : Go.Sort.HoldsK (Gs f b) 6 (sortWorldK (Gs f b) 6 w g 0 m d' os) g 0 d' :=
  Go.Sort.holdsK_grow _ _ _ os g 0 d' (by simpa[Go.Sort.putRowK]using D) (Go.Sort.holdsK_putRowK _ _ _ g 0 (Array.range (n + 1)) d' (Go.Sort.holdsK_ahead _ _ w m g 0 _ C) (by omega))
 have s := L.cell (i := j) (c := r) (by omega) H;rw[Nat.zero_add, zFZ E q I, TL _ _ _ _ H]at s;have e : CC (ins f k (f n)) (ins b k (b n)) j r = CC f b (if j < k then j else if j = k then n else j - 1) r := by
  rcases Nat.lt_trichotomy j k with h | h | h
  · rw[if_pos h];exact zHI f b (f n) (b n) r h
  · rw[if_neg (by omega), if_pos h, h];exact zHG f b (f n) (b n) k r
  · rw[if_neg (by omega), if_neg (by omega)];exact zHH f b (f n) (b n) r h
 rw[e];exact s
end Go.Proofs.YtibhefllijahkaaGreatDoor
