/- A part of the proof. -/
import Derived.Test.YtnfjcaoclahfjaaGreatDoorF15
set_option linter.unusedVariables false
set_option maxRecDepth 20000
set_option maxHeartbeats 8000000
namespace Go.Proofs.YtnfjcaoclahfjaaGreatDoor
open Go.RowKit Go.Maps
theorem YX(n:Int)(w:World):Calls Tryz.prog 141 #[.int .i64 n] w fun e w'=>AJ (F2 n) e/\w'=w:=by
 by_cases a:0<=n
 ·by_cases b:n<=1000000
  ·go_enter Tryz.func141,Tryz.ntmps141;go_wp2;go_ret;exact⟨AJ.yes ⟨a,b⟩,rfl⟩
  ·go_enter Tryz.func141,Tryz.ntmps141;go_wp2;go_ret;exact⟨AJ.no fun h=>by have:=h.2;omega,rfl⟩
 ·go_enter Tryz.func141,Tryz.ntmps141;go_wp2;go_ret;exact⟨AJ.no fun h=>by have:=h.1;omega,rfl⟩
theorem zAk(x y t:Int)(T:Nat)(w:World)(b:w.cell? ⟨T,0,none⟩=some (.int .i64 t)):Calls Tryz.prog 143 #[.agg #[.int .i64 x,.int .i64 y],.pointer (some ⟨T,0,none⟩)] w fun e w'=>AJ (t<y) e/\Below w.heap.size w w':=by
 have a:=A9 w (.cells #[.int .i64 x,.int .i64 y] 40);have c:=(a.cell (p:=⟨T,0,none⟩) (AM b)).trans b;by_cases h:t<y
 ·go_enter Tryz.func143,Tryz.ntmps143;go_wp2;go_ret;exact⟨⟨_,rfl,by simpa using h⟩,a⟩
 ·go_enter Tryz.func143,Tryz.ntmps143;go_wp2;go_ret;exact⟨⟨_,rfl,by simpa using h⟩,a⟩
def Ib(l l':List (Int×Int))(w w':World)(v v':Value):Prop:=B6 w' w.heap.size v l/\B6 w' w.heap.size v' l'/\(∀q,v.ownBlock=some q->v'.ownBlock≠some q)/\Below w.heap.size w w'
variable{l:List (Int×Int)}
theorem KY{w1 w2:World}{base g cap:Nat}{v v':Value}{l':List (Int×Int)}{x y:Int}(d:B6 w1 base v' l')(f:∀q,v.ownBlock=some q->v'.ownBlock≠some q)
 (a:w2.ownsRow base 40 2 (.slice (some ⟨g,0,none⟩) (l.length+1) cap) (l.length+1) (pcl l ++ [.int .i64 x,.int .i64 y])) (i:w1.grownBy w2 v.ownBlock) (c:v.ownBlock=some g\/g=w1.heap.size) :
 B6 w2 base (.slice (some ⟨g,0,none⟩) (l.length+1) cap) (l ++ [(x,y)])/\B6 w2 base v' l'/\(∀q,(Value.slice (some ⟨g,0,none⟩) (l.length+1) cap).ownBlock=some q->v'.ownBlock≠some q):=by
 refine⟨?_,d.AD i (fun q b e=>f q e b),fun q b e=>?_⟩
 ·unfold B6;rw[Kx,List.length_append];exact a
 ·simp only[Value.ownBlock,Option.some.injEq]at b;subst b;rcases c with h | h
  ·exact f _ h e
  ·have:=(d.lt e).2;omega
theorem zFC(v:Value)(n lo hi T:Nat)(f g:Nat->Int)(t:Int)(w:World)(W:Ay w lo hi v n f g)(hn:n<=200)(hT:w.cell? ⟨T,0,none⟩=some (.int .i64 t)) :
 Calls Tryz.prog 142 #[v,.func (.func 143) #[] #[.pointer (some ⟨T,0,none⟩)]] w fun e w'=>∃M L,e = .returned (.tuple #[M,L])/\Ib (BE f g t n) (BS f g t n) w w' M L:=by
 have Hp:=AY W;have HT:=AY hT;obtain⟨m1,a,c,rfl,mc,_⟩:=id W;clear W hT;obtain⟨i0,J,D⟩:=Option.map_eq_some_iff.1 O4;simp only[Prod.mk.injEq]at D;have y:=AY (And.intro J D);clear J D;go_enter Tryz.func142,Tryz.ntmps142;go_wp2
 go_loopw [6,7,12] (fun M L i wr=>∃k:Nat,k<=n/\i = .int .i64 k/\Ib (BE f g t k) (BS f g t k) w wr M L) (fun _ _ i _=>n - (intOf i).toNat)
 case atStart=>exact⟨0,Nat.zero_le _,rfl,B6.nil _ _,B6.nil _ _,fun q l=>by simp[Value.ownBlock]at l,Below.refl _ _⟩
 case round=>
  obtain⟨k,hk,rfl,hy,ho,I,X⟩:=hrel;have Q:=AY hy;have O:=AY ho;have z:=AY I;have fA:=Kr f g t k;clear hy ho I;by_cases Y:k<n
  ·have gA:(k:Int)<(n:Int):=(by omega);obtain⟨b,off,rfl,q0,q1⟩:=(Hp.out.A1 X).cellsD Y;have u:=A9 wr (.cells #[.int .i64 (f k),.int .i64 (g k)] 40);have HV:=AY (Ad.new wr (.int .i64 (f k)) (.int .i64 (g k)) 40);have C:=A8 X u;have F:=AY ((C.cell (p:=⟨T,0,none⟩) (AM HT.out)).trans HT.out);have lA:∀(fn:Fn) (first cap:Array Value) (w:World),(Instr.makeFunc fn first cap).run Tryz.prog w = .ok (.func fn first cap) w:=fun _ _ _ _=>rfl
   go_wp2_with fail;refine(zAk (f k) (g k) t T _ F.out).mono ?_;rintro e E ⟨⟨s,rfl,hs⟩,o⟩;have R:=AY ((Q.out.A1 u).A1 o);have P:=AY ((O.out.A1 u).A1 o);have N:=AY (HV.out.A1 o);have H:=A8 C o;clear o C u Q O HV q0 q1 F;have mA:=H.size;obtain⟨⟨x0,x1⟩,⟨x2,x3⟩⟩:=N.out;have x:=A9 E (.cells #[.int .i64 (f k),.int .i64 (g k)] 40);have B:=AY (R.out.A1 x);have A:=AY (P.out.A1 x);have r:=A8 H x;have nA:(E.alloc (.cells #[.int .i64 (f k),.int .i64 (g k)] 40)).heap.size=E.heap.size+1:=World.size_alloc _ _;have HN:=AY (World.news_of_block (heap_alloc_last E (.cells #[.int .i64 (f k),.int .i64 (g k)] 40)));clear x;by_cases l:t<g k
   ·obtain rfl:s=true:=hs.2 l;have U:BE f g t (k+1)=BE f g t k ++ [(f k,g k)]:=if_pos l;have S:BS f g t (k+1)=BS f g t k:=if_pos l;clear hs l;go_wp2_with (first
     | (at_builtin;refine wpList_append_lies _ rfl _ _ 41 rfl w.heap.size 40 i0 (.agg #[.int .i64 0,.int .i64 0]) 2 16 (by kernel_rfl) y.out.1 y.out.2.1 y.out.2.2.1 y.out.2.2.2 rfl (by decide) _ _ _ rfl B.out ⟨E.heap.size,0,none⟩ 1 1 [.int .i64 (f k),.int .i64 (g k)] rfl rfl HN.out (by simp[Value.oneCell']) (by decide) (by unfold maxLen;omega) (by omega) (by omega) _ rfl ?_;intro g' G w4 j d m K)
     | go_in)
    go_roundw
    case rel=>
     obtain⟨r1,Z,r3⟩:=KY A.out z.out j d m;exact⟨k+1,by omega,by go_num,by rw[U];exact r1,by rw[S];exact Z,r3,r.grown d r.size (fun q l=>(B.out.lt l).1)⟩
    case measure=>simp[intOf];omega
   ·obtain rfl:s=false:=Bb hs l;have U:BE f g t (k+1)=BE f g t k:=if_neg l;have S:BS f g t (k+1)=BS f g t k ++ [(f k,g k)]:=if_neg l;clear hs l;go_wp2_with (first
     | (at_builtin;refine wpList_append_lies _ rfl _ _ 41 rfl w.heap.size 40 i0 (.agg #[.int .i64 0,.int .i64 0]) 2 16 (by kernel_rfl) y.out.1 y.out.2.1 y.out.2.2.1 y.out.2.2.2 rfl (by decide) _ _ _ rfl A.out ⟨E.heap.size,0,none⟩ 1 1 [.int .i64 (f k),.int .i64 (g k)] rfl rfl HN.out (by simp[Value.oneCell']) (by decide) (by unfold maxLen;omega) (by omega) (by omega) _ rfl ?_;intro g' G w4 j d m K)
     | go_in)
    go_roundw
    case rel=>
     obtain⟨r1,Z,r3⟩:=KY B.out (fun q h V=>z.out q V h) j d m;exact⟨k+1,by omega,by go_num,by rw[U];exact Z,by rw[S];exact r1,fun q h V=>r3 q V h,r.grown d r.size (fun q l=>(A.out.lt l).1)⟩
    case measure=>simp[intOf];omega
  ·obtain rfl:k=n:=(by omega);go_wp2
   go_ret2
   exact⟨_,_,rfl,Q.out,O.out,z.out,X⟩
def zIH(n:Nat)(f g:Nat->Int)(t:Int)(l:List (Int×Int)):Prop:=(C1 n f g/\F2 t->l=BE f g t n)/\(¬(C1 n f g/\F2 t)->l = [])
def zIG(n:Nat)(f g:Nat->Int)(t:Int)(l:List (Int×Int)):Prop:=(C1 n f g/\F2 t->l=BS f g t n)/\(¬(C1 n f g/\F2 t)->l = [])
def zG8(n:Nat)(f g:Nat->Int)(t:Int)(w:World)(e:Ending)(w':World):Prop:=∃vy vo l l',e = .returned (.agg #[vy,vo])/\zIH n f g t l/\zIG n f g t l'/\Ib l l' w w' vy vo
theorem RX(v:Value)(n lo hi:Nat)(f g:Nat->Int)(t:Int)(w:World)(F:Ay w lo hi v n f g) :
 Calls Tryz.prog 103 #[v,.int .i64 t] w (zG8 n f g t w):=by
 have B:=AY F;obtain⟨U,a,c,rfl,V,_⟩:=id F;clear F;have N:∀(fn:Fn) (first cap:Array Value) (w:World),(Instr.makeFunc fn first cap).run Tryz.prog w = .ok (.func fn first cap) w:=fun _ _ _ _=>rfl
 have K:=A9 w (.cells #[.int .i64 t] 2);have y:=A9 (w.alloc (.cells #[.int .i64 t] 2)) (.cells #[.slice none 0 0,.slice none 0 0] 147);have k:=A8 K y;have r:=AY (show AF ((w.alloc (.cells #[.int .i64 t] 2)).alloc (.cells #[.slice none 0 0,.slice none 0 0] 147)) w.heap.size 0 (.int .i64 t)from AF.A1 ⟨by rw[World.cell?_alloc_at _ _ _ _ rfl];rfl,World.frozen?_alloc_at _ _ _ _ rfl⟩ y);have m:=AY (Ad.new (w.alloc (.cells #[.int .i64 t] 2)) (.slice none 0 0) (.slice none 0 0) 147);rw[World.size_alloc]at m;clear K y;by_cases C:C1 n f g
 ·have o:=AY C;clear C;by_cases u:F2 t
  ·have x:=AY u;clear u;go_enter Tryz.func103,Tryz.ntmps103;go_wp2_with fail;generalize (w.alloc (.cells #[.int .i64 t] 2)).alloc (.cells #[.slice none 0 0,.slice none 0 0] 147)=W at r m k ⊢;refine(J2 _ n lo hi f g _ (B.out.A1 k)).mono ?_;rintro e L ⟨⟨s,rfl,hs⟩,b⟩;obtain rfl:s=true:=hs.2 o.out;have l:=AY (r.out.A1 b);have j:=AY (m.out.A1 b);have d:=A8 k b;clear hs b k r m;obtain⟨I,J⟩:=l.out;go_wp2_with (first
    | (go_at_call 141;refine(YX t _).mono ?_;rintro e M ⟨⟨s,rfl,hs⟩,rfl⟩;obtain rfl:s=true:=hs.2 x.out;clear hs)
    | fail)
   go_wp2_with fail;refine(zFC _ n lo hi w.heap.size f g t _ (B.out.A1 d) o.out.1 l.out.1).mono ?_;rintro e Z ⟨Y,X,rfl,i⟩;have z:=i.2.2.2;have H:=C6 i.1;have A:=C6 i.2.1;obtain⟨S,T,rfl,_⟩:=H;obtain⟨O,P,rfl,_⟩:=A;have E:=AY (j.out.A1 z);have D:=AY i;have p:w.heap.size+1<M.heap.size:=j.out.1.lt;have G:=A8 d z;clear i z I J l j;obtain⟨⟨I,J⟩,⟨x2,x3⟩⟩:=E.out;go_wp2;refine bodyPost_ret (v:=.agg #[.slice S (BE f g t n).length T,.slice O (BS f g t n).length P]) (by simp[results,Tryz.results103,go_sem, *]) rfl ?_;refine⟨_,_,BE f g t n,BS f g t n,rfl,⟨fun _=>rfl,fun h=>absurd ⟨o.out,x.out⟩ h⟩,⟨fun _=>rfl,fun h=>absurd ⟨o.out,x.out⟩ h⟩,?_,?_,D.out.2.2.1,(G.setCell (by show w.heap.size<=w.heap.size+1;omega) _).setCell (by show w.heap.size<=w.heap.size+1;omega) _⟩
   ·exact(((B6.put D.out.1 p _).put p _)).mono d.size
   ·exact(((B6.put D.out.2.1 p _).put p _)).mono d.size
  ·have x:=AY u;clear u;go_enter Tryz.func103,Tryz.ntmps103;go_wp2_with fail;generalize (w.alloc (.cells #[.int .i64 t] 2)).alloc (.cells #[.slice none 0 0,.slice none 0 0] 147)=W at r m k ⊢;refine(J2 _ n lo hi f g _ (B.out.A1 k)).mono ?_;rintro e L ⟨⟨s,rfl,hs⟩,b⟩;obtain rfl:s=true:=hs.2 o.out;have l:=AY (r.out.A1 b);have j:=AY (m.out.A1 b);have d:=A8 k b;clear hs b k r m;obtain⟨I,J⟩:=l.out;obtain⟨⟨y0,y1⟩,⟨Q,R⟩⟩:=j.out;go_wp2_with (first
    | (go_at_call 141;refine(YX t _).mono ?_;rintro e M ⟨⟨s,rfl,hs⟩,rfl⟩;obtain rfl:s=false:=Bb hs x.out;clear hs)
    | fail)
   go_wp2;refine bodyPost_ret (v:=.agg #[.slice none 0 0,.slice none 0 0]) (by simp[results,Tryz.results103,go_sem, *]) rfl ?_;exact⟨_,_,[],[],rfl,⟨fun h=>absurd h.2 x.out,fun _=>rfl⟩,⟨fun h=>absurd h.2 x.out,fun _=>rfl⟩,B6.nil _ _,B6.nil _ _,fun q u=>by simp[Value.ownBlock]at u,(d.setCell (by show w.heap.size<=w.heap.size+1;omega) _).setCell (by show w.heap.size<=w.heap.size+1;omega) _⟩
 ·have o:=AY C;clear C;go_enter Tryz.func103,Tryz.ntmps103;go_wp2_with fail;generalize (w.alloc (.cells #[.int .i64 t] 2)).alloc (.cells #[.slice none 0 0,.slice none 0 0] 147)=W at r m k ⊢;refine(J2 _ n lo hi f g _ (B.out.A1 k)).mono ?_;rintro e L ⟨⟨s,rfl,hs⟩,b⟩;obtain rfl:s=false:=Bb hs o.out;have j:=AY (m.out.A1 b);have d:=A8 k b;clear hs b k r m;obtain⟨⟨y0,y1⟩,⟨Q,R⟩⟩:=j.out;go_wp2;refine bodyPost_ret (v:=.agg #[.slice none 0 0,.slice none 0 0]) (by simp[results,Tryz.results103,go_sem, *]) rfl ?_;exact⟨_,_,[],[],rfl,⟨fun h=>absurd h.1 o.out,fun _=>rfl⟩,⟨fun h=>absurd h.1 o.out,fun _=>rfl⟩,B6.nil _ _,B6.nil _ _,fun q u=>by simp[Value.ownBlock]at u,(d.setCell (by show w.heap.size<=w.heap.size+1;omega) _).setCell (by show w.heap.size<=w.heap.size+1;omega) _⟩
variable{m:List (Int×Int)}
theorem UT{k:Nat}(a:k<l.length)(h:(AI l k,AK l k)∈m):Cc (l.take (k+1)) m=Cc (l.take k) m ++ [(AI l k,AK l k)]:=by
 unfold AI AK at h ⊢;rw[Co a]at h ⊢;unfold Cc;rw[List.take_succ_eq_append_getElem a,List.filter_append,List.filter_cons];simp only[List.filter_nil];rw[if_pos (by simp;exact h)]
theorem T8{k:Nat}(a:k<l.length)(h:(AI l k,AK l k)∉m):Cc (l.take (k+1)) m=Cc (l.take k) m:=by
 unfold AI AK at h;rw[Co a]at h;unfold Cc;rw[List.take_succ_eq_append_getElem a,List.filter_append,List.filter_cons];simp only[List.filter_nil];rw[if_neg (by simp;exact h),List.append_nil]
theorem UR(l m:List (Int×Int))(k:Nat):(Cc (l.take k) m).length<=k/\(BN (l.take k) m).length<=k:=by
 refine⟨?_,UK l m k⟩;unfold Cc;exact Nat.le_trans (List.length_filter_le _ _) (by rw[List.length_take];omega)
theorem zCg(v v2:Value)(lo hi O M T:Nat)(l m:List (Int×Int))(w:World)(h1:Ay w lo hi v l.length (AI l) (AK l))(hn:l.length<=200)(h2:Ay w O M v2 m.length (AI m) (AK m))(hT:w.cell? ⟨T,0,none⟩=some v2) :
 Calls Tryz.prog 142 #[v,.func (.func 166) #[] #[.pointer (some ⟨T,0,none⟩)]] w fun e w'=>∃S R,e = .returned (.tuple #[S,R])/\Ib (Cc l m) (BN l m) w w' S R:=by
 have Hp:=AY h1;have HT:=AY hT;have U:=AY h2;obtain⟨m1,a,c,rfl,mc,_⟩:=id h1;clear h1 hT h2;unfold maxLen at m1;obtain⟨i0,L,E⟩:=Option.map_eq_some_iff.1 O4;simp only[Prod.mk.injEq]at E;have y:=AY (And.intro L E);clear L E;go_enter Tryz.func142,Tryz.ntmps142;go_wp2
 go_loopw [6,7,12] (fun S R i wr=>∃k:Nat,k<=l.length/\i = .int .i64 k/\Ib (Cc (l.take k) m) (BN (l.take k) m) w wr S R) (fun _ _ i _=>l.length - (intOf i).toNat)
 case atStart=>exact⟨0,Nat.zero_le _,rfl,B6.nil _ _,B6.nil _ _,fun q g=>by simp[Value.ownBlock]at g,Below.refl _ _⟩
 case round=>
  obtain⟨k,hk,rfl,hy,ho,K,hb⟩:=hrel;have Q:=AY hy;have P:=AY ho;have z:=AY K;have mA:=UR l m k;clear hy ho K;by_cases o:k<l.length
  ·have nA:(k:Int)<(l.length:Int):=(by omega);obtain⟨b,off,rfl,q0,q1⟩:=(Hp.out.A1 hb).cellsD o;have u:=A9 wr (.cells #[.int .i64 (AI l k),.int .i64 (AK l k)] 40);have HV:=AY (Ad.new wr (.int .i64 (AI l k)) (.int .i64 (AK l k)) 40);have r:=A8 hb u;have H:=AY ((r.cell (p:=⟨T,0,none⟩) (AM HT.out)).trans HT.out);have G:=AY (U.out.A1 r);have vA:∀(fn:Fn) (first cap:Array Value) (w:World),(Instr.makeFunc fn first cap).run Tryz.prog w = .ok (.func fn first cap) w:=fun _ _ _ _=>rfl
   go_wp2_with fail;refine(zBb v2 m.length O M (AI m) (AK m) (AI l k) (AK l k) T _ G.out H.out).mono ?_;rintro e F ⟨⟨s,rfl,hs⟩,n⟩;have X:=AY ((Q.out.A1 u).A1 n);have W:=AY ((P.out.A1 u).A1 n);have V:=AY (HV.out.A1 n);have J:=A8 r n;clear n r u Q P HV q0 q1 H G;have aB:=J.size;obtain⟨⟨x0,x1⟩,⟨x2,x3⟩⟩:=V.out;have x:=A9 F (.cells #[.int .i64 (AI l k),.int .i64 (AK l k)] 40);have B:=AY (X.out.A1 x);have A:=AY (W.out.A1 x);have t:=A8 J x;have bB:(F.alloc (.cells #[.int .i64 (AI l k),.int .i64 (AK l k)] 40)).heap.size=F.heap.size+1:=World.size_alloc _ _;have HN:=AY (World.news_of_block (heap_alloc_last F (.cells #[.int .i64 (AI l k),.int .i64 (AK l k)] 40)));clear x;by_cases g:(AI l k,AK l k)∈m
   ·obtain rfl:s=true:=hs.2 (FG.2 g);have Z:=AY (UT o g);have Y:=AY (Pe o g);clear hs g;go_wp2_with (first
     | (at_builtin;refine wpList_append_lies _ rfl _ _ 41 rfl w.heap.size 40 i0 (.agg #[.int .i64 0,.int .i64 0]) 2 16 (by kernel_rfl) y.out.1 y.out.2.1 y.out.2.2.1 y.out.2.2.2 rfl (by decide) _ _ _ rfl B.out ⟨F.heap.size,0,none⟩ 1 1 [.int .i64 (AI l k),.int .i64 (AK l k)] rfl rfl HN.out (by simp[Value.oneCell']) (by decide) (by unfold maxLen;omega) (by omega) (by omega) _ rfl ?_;intro g' I w4 f d j N)
     | go_in)
    go_roundw
    case rel=>
     obtain⟨r1,r2,r3⟩:=KY A.out z.out f d j;exact⟨k+1,by omega,by go_num,by rw[Z.out];exact r1,by rw[Y.out];exact r2,r3,t.grown d t.size (fun q g=>(B.out.lt g).1)⟩
    case measure=>simp[intOf];omega
   ·obtain rfl:s=false:=Bb hs (fun h=>g (FG.1 h));have Z:=AY (T8 o g);have Y:=AY (QG o g);clear hs g;go_wp2_with (first
     | (at_builtin;refine wpList_append_lies _ rfl _ _ 41 rfl w.heap.size 40 i0 (.agg #[.int .i64 0,.int .i64 0]) 2 16 (by kernel_rfl) y.out.1 y.out.2.1 y.out.2.2.1 y.out.2.2.2 rfl (by decide) _ _ _ rfl A.out ⟨F.heap.size,0,none⟩ 1 1 [.int .i64 (AI l k),.int .i64 (AK l k)] rfl rfl HN.out (by simp[Value.oneCell']) (by decide) (by unfold maxLen;omega) (by omega) (by omega) _ rfl ?_;intro g' I w4 f d j N)
     | go_in)
    go_roundw
    case rel=>
     obtain⟨r1,r2,r3⟩:=KY B.out (fun q h h'=>z.out q h' h) f d j;exact⟨k+1,by omega,by go_num,by rw[Z.out];exact r2,by rw[Y.out];exact r1,fun q h h'=>r3 q h' h,t.grown d t.size (fun q g=>(A.out.lt g).1)⟩
    case measure=>simp[intOf];omega
  ·obtain rfl:k=l.length:=(by omega);have D:=Q.out;have C:=P.out;rw[List.take_length]at D C;have HY:=AY D;have HO:=AY C;clear D C Q P;go_wp2
   go_ret2
   exact⟨_,_,rfl,HY.out,HO.out,z.out,hb⟩
theorem zBq(v v2:Value)(lo hi O M T:Nat)(l m:List (Int×Int))(w:World)(h1:Ay w lo hi v l.length (AI l) (AK l))(hn:l.length<=200)(h2:Ay w O M v2 m.length (AI m) (AK m))(hT:w.cell? ⟨T,0,none⟩=some v2) :
 Calls Tryz.prog 142 #[v,.func (.func 168) #[] #[.pointer (some ⟨T,0,none⟩)]] w fun e w'=>∃S R,e = .returned (.tuple #[S,R])/\Ib (Cc l m) (BN l m) w w' S R:=by
 have Hp:=AY h1;have HT:=AY hT;have U:=AY h2;obtain⟨m1,a,c,rfl,mc,_⟩:=id h1;clear h1 hT h2;unfold maxLen at m1;obtain⟨i0,L,E⟩:=Option.map_eq_some_iff.1 O4;simp only[Prod.mk.injEq]at E;have y:=AY (And.intro L E);clear L E;go_enter Tryz.func142,Tryz.ntmps142;go_wp2
 go_loopw [6,7,12] (fun S R i wr=>∃k:Nat,k<=l.length/\i = .int .i64 k/\Ib (Cc (l.take k) m) (BN (l.take k) m) w wr S R) (fun _ _ i _=>l.length - (intOf i).toNat)
 case atStart=>exact⟨0,Nat.zero_le _,rfl,B6.nil _ _,B6.nil _ _,fun q g=>by simp[Value.ownBlock]at g,Below.refl _ _⟩
 case round=>
  obtain⟨k,hk,rfl,hy,ho,K,hb⟩:=hrel;have Q:=AY hy;have P:=AY ho;have z:=AY K;have mA:=UR l m k;clear hy ho K;by_cases o:k<l.length
  ·have nA:(k:Int)<(l.length:Int):=(by omega);obtain⟨b,off,rfl,q0,q1⟩:=(Hp.out.A1 hb).cellsD o;have u:=A9 wr (.cells #[.int .i64 (AI l k),.int .i64 (AK l k)] 40);have HV:=AY (Ad.new wr (.int .i64 (AI l k)) (.int .i64 (AK l k)) 40);have r:=A8 hb u;have H:=AY ((r.cell (p:=⟨T,0,none⟩) (AM HT.out)).trans HT.out);have G:=AY (U.out.A1 r);have vA:∀(fn:Fn) (first cap:Array Value) (w:World),(Instr.makeFunc fn first cap).run Tryz.prog w = .ok (.func fn first cap) w:=fun _ _ _ _=>rfl
   go_wp2_with fail;refine(zAV v2 m.length O M (AI m) (AK m) (AI l k) (AK l k) T _ G.out H.out).mono ?_;rintro e F ⟨⟨s,rfl,hs⟩,n⟩;have X:=AY ((Q.out.A1 u).A1 n);have W:=AY ((P.out.A1 u).A1 n);have V:=AY (HV.out.A1 n);have J:=A8 r n;clear n r u Q P HV q0 q1 H G;have aB:=J.size;obtain⟨⟨x0,x1⟩,⟨x2,x3⟩⟩:=V.out;have x:=A9 F (.cells #[.int .i64 (AI l k),.int .i64 (AK l k)] 40);have B:=AY (X.out.A1 x);have A:=AY (W.out.A1 x);have t:=A8 J x;have bB:(F.alloc (.cells #[.int .i64 (AI l k),.int .i64 (AK l k)] 40)).heap.size=F.heap.size+1:=World.size_alloc _ _;have HN:=AY (World.news_of_block (heap_alloc_last F (.cells #[.int .i64 (AI l k),.int .i64 (AK l k)] 40)));clear x;by_cases g:(AI l k,AK l k)∈m
   ·obtain rfl:s=true:=hs.2 (FG.2 g);have Z:=AY (UT o g);have Y:=AY (Pe o g);clear hs g;go_wp2_with (first
     | (at_builtin;refine wpList_append_lies _ rfl _ _ 41 rfl w.heap.size 40 i0 (.agg #[.int .i64 0,.int .i64 0]) 2 16 (by kernel_rfl) y.out.1 y.out.2.1 y.out.2.2.1 y.out.2.2.2 rfl (by decide) _ _ _ rfl B.out ⟨F.heap.size,0,none⟩ 1 1 [.int .i64 (AI l k),.int .i64 (AK l k)] rfl rfl HN.out (by simp[Value.oneCell']) (by decide) (by unfold maxLen;omega) (by omega) (by omega) _ rfl ?_;intro g' I w4 f d j N)
     | go_in)
    go_roundw
    case rel=>
     obtain⟨r1,r2,r3⟩:=KY A.out z.out f d j;exact⟨k+1,by omega,by go_num,by rw[Z.out];exact r1,by rw[Y.out];exact r2,r3,t.grown d t.size (fun q g=>(B.out.lt g).1)⟩
    case measure=>simp[intOf];omega
   ·obtain rfl:s=false:=Bb hs (fun h=>g (FG.1 h));have Z:=AY (T8 o g);have Y:=AY (QG o g);clear hs g;go_wp2_with (first
     | (at_builtin;refine wpList_append_lies _ rfl _ _ 41 rfl w.heap.size 40 i0 (.agg #[.int .i64 0,.int .i64 0]) 2 16 (by kernel_rfl) y.out.1 y.out.2.1 y.out.2.2.1 y.out.2.2.2 rfl (by decide) _ _ _ rfl A.out ⟨F.heap.size,0,none⟩ 1 1 [.int .i64 (AI l k),.int .i64 (AK l k)] rfl rfl HN.out (by simp[Value.oneCell']) (by decide) (by unfold maxLen;omega) (by omega) (by omega) _ rfl ?_;intro g' I w4 f d j N)
     | go_in)
    go_roundw
    case rel=>
     obtain⟨r1,r2,r3⟩:=KY B.out (fun q h h'=>z.out q h' h) f d j;exact⟨k+1,by omega,by go_num,by rw[Z.out];exact r2,by rw[Y.out];exact r1,fun q h h'=>r3 q h' h,t.grown d t.size (fun q g=>(A.out.lt g).1)⟩
    case measure=>simp[intOf];omega
  ·obtain rfl:k=l.length:=(by omega);have D:=Q.out;have C:=P.out;rw[List.take_length]at D C;have HY:=AY D;have HO:=AY C;clear D C Q P;go_wp2
   go_ret2
   exact⟨_,_,rfl,HY.out,HO.out,z.out,hb⟩
theorem Yg(v v':Value)(n lo hi y I G:Nat)(f g f' g':Nat->Int)(w:World)(T:Ay w lo hi v n f g)(U:Ay w I G v' y f' g') :
 Calls Tryz.prog 169 #[v,v'] w fun e w'=>AJ (FZ n f g y f' g') e/\Below w.heap.size w w':=by
 have Q:=AY T;have F:=AY U;obtain⟨m1,a,c,rfl,mc,_⟩:=id T;obtain⟨m2,a',c',rfl,kA,_⟩:=id U;unfold maxLen at m1 m2;clear T U;by_cases S:C1 n f g
 ·have x:=AY S;clear S;by_cases z:C1 y f' g'
  ·have l:=AY z;clear z;go_enter Tryz.func169,Tryz.ntmps169;go_wp2_with fail;refine(J2 _ n lo hi f g _ Q.out).mono ?_;rintro e w1 ⟨⟨t,rfl,q⟩,d⟩;obtain rfl:t=true:=q.2 x.out;clear q;go_wp2_with fail;refine(J2 _ y I G f' g' _ (F.out.A1 d)).mono ?_;rintro e J ⟨⟨t,rfl,q⟩,s⟩;obtain rfl:t=true:=q.2 l.out;have r:=A8 d s;clear q d s;go_wp2_with fail;refine(YV _ n lo hi f g _ (Q.out.A1 r) x.out.1 x.out.2.1).mono ?_;rintro e w3 ⟨rfl,Z,O⟩;have X:=AY Z;have M:=A8 r O;have hz:w.heap.size<=J.heap.size:=r.size;clear Z O r;go_wp2
   go_loopw [20] (fun i wr=>∃(k:Nat) (D:DataW Unit),k<=y/\i = .int .i64 k/\Rj wr J.heap.size n D/\F0 n f g f' k D/\(∀j,j<k->PIn n f g (f' j) (g' j))/\Below w.heap.size w wr) (fun i _=>y - (intOf i).toNat)
   case atStart=>exact⟨0,_,Nat.zero_le _,rfl,X.out,F0.start x.out f',fun j V=>absurd V (Nat.not_lt_zero _),M⟩
   case round=>
    obtain⟨k,D,hk,rfl,E,u,P,R⟩:=hrel;have p:=AY E;have m:=AY u;have L:=AY P;clear E u P X M;by_cases o:k<y
    ·have Y:(k:Int)<(y:Int):=(by omega);obtain⟨b,off,rfl,q0,q1⟩:=(F.out.A1 R).cellsD o;have C:keyOf Tryz.prog 2 (.int .i64 (f' k))=some (CY (f' k)):=keyOf_int_mk P4 (Q9 (l.out.2.1 k o).1 (by have:=(l.out.2.1 k o).2.1;omega));have B:=AY C;clear C;have d:=R.alloc R.size (.cells #[.int .i64 (f' k),.int .i64 (g' k)] 40);have gA:J.heap.size<=wr.heap.size:=Nat.le_of_lt p.out.lt;go_wp2_with (first
      | (at_lookup;refine wpList_lookup_own_int _ rfl _ _ 213 rfl 2 2 .i64 S5 MV P4 (zIw _) J.heap.size n D rfl (p.out.alloc _) _ _ rfl B.out ?_;intro c0 N eA)
      | (at_delete;refine wpList_delete_own _ rfl _ _ 213 2 rfl 2 S5 MV _ J.heap.size n D rfl (p.out.alloc _) _ _ rfl B.out ?_;intro w4 H A)
      | go_in)
     ·have W:c0≠g' k:=by
       have h:(c0 != g' k)=true:=(by assumption);simpa using h
      go_ret;exact⟨AJ.no (m.out.no x.out l.out o (show D.atKey (CY (f' k)) (DQ 0)=DQ c0 from N) W),d⟩
     ·have he:c0=g' k:=by
       have h:(c0 != g' k)=false:=(by assumption);simpa using h
      subst he;have K:D.atKey (CY (f' k)) (DQ 0)=DQ (g' k):=N;go_roundw
      case rel=>exact⟨k+1,_,by omega,by go_num,H,m.out.next l.out o K,Bf o L.out (m.out.in l.out o K),d.grown A.grown d.size (fun j V=>by cases V;exact hz)⟩
      case measure=>simp[intOf];omega
    ·obtain rfl:k=y:=(by omega);go_wp2_with (first
      | (at_len;refine wpList_len_own _ rfl _ 213 rfl 2 2 MV _ J.heap.size n D rfl p.out ?_)
      | go_in)
     go_ret;refine⟨⟨_,rfl,?_⟩,R⟩;have He:=m.out.end x.out l.out L.out;rw[<-He];simp
  ·have l:=AY z;clear z;go_enter Tryz.func169,Tryz.ntmps169;go_wp2_with fail;refine(J2 _ n lo hi f g _ Q.out).mono ?_;rintro e w1 ⟨⟨t,rfl,q⟩,d⟩;obtain rfl:t=true:=q.2 x.out;clear q;go_wp2_with fail;refine(J2 _ y I G f' g' _ (F.out.A1 d)).mono ?_;rintro e J ⟨⟨t,rfl,q⟩,s⟩;obtain rfl:t=false:=Bb q l.out;have r:=A8 d s;clear q d s;go_wp2;go_ret;exact⟨AJ.no fun h=>l.out h.2.1,r⟩
 ·have x:=AY S;clear S;go_enter Tryz.func169,Tryz.ntmps169;go_wp2_with fail;refine(J2 _ n lo hi f g _ Q.out).mono ?_;rintro e w1 ⟨⟨t,rfl,q⟩,d⟩;obtain rfl:t=false:=Bb q x.out;clear q;go_wp2;go_ret;exact⟨AJ.no fun h=>x.out h.1,d⟩
abbrev zJF(vd:Value)(m:DJ):Value:=.agg #[.int .i64 m.A5,.int .i64 m.time,.int .i64 m.rs,.int .i64 m.rb,vd]
theorem B6.putNe{w:World}{base b:Nat}{v:Value}(h:B6 w base v l)(i:v.ownBlock≠some b)(o:Nat)(u:Value):B6 (w.setCell ⟨b,o,none⟩ u) base v l:=by
 refine⟨h.1,h.2.imp id ?_⟩;rintro⟨g,cap,a,e,c,d,f⟩;subst e;exact⟨g,cap,a,rfl,c,(Below.heap_setCell _ _ _ _ (fun e=>i (by simp[Value.ownBlock];exact e))).trans d,f⟩
def K5(W:A4)(m:DJ)(S:AT):Prop:=m.rb<=m.time/\ES (Dv (AE W.pool m.rs m.rb) S.time).length (AI (Dv (AE W.pool m.rs m.rb) S.time)) (AK (Dv (AE W.pool m.rs m.rb) S.time)) (BN (AE W.pool m.rs m.rb) (AE W.pool S.rs S.rb))/\ES m.dn m.ds m.db (BN (AE W.pool S.rs S.rb) (Cc (AE W.pool m.rs m.rb) (AE W.pool S.rs S.rb)))
theorem zGm(W:A4)(m:DJ)(S:AT):K5 W m S↔(m.rb<=m.time/\FZ (Dv (AE W.pool m.rs m.rb) S.time).length (AI (Dv (AE W.pool m.rs m.rb) S.time)) (AK (Dv (AE W.pool m.rs m.rb) S.time)) (BN (AE W.pool m.rs m.rb) (AE W.pool S.rs S.rb)).length (AI (BN (AE W.pool m.rs m.rb) (AE W.pool S.rs S.rb))) (AK (BN (AE W.pool m.rs m.rb) (AE W.pool S.rs S.rb)))/\FZ m.dn m.ds m.db (BN (AE W.pool S.rs S.rb) (Cc (AE W.pool m.rs m.rb) (AE W.pool S.rs S.rb))).length (AI (BN (AE W.pool S.rs S.rb) (Cc (AE W.pool m.rs m.rb) (AE W.pool S.rs S.rb)))) (AK (BN (AE W.pool S.rs S.rb) (Cc (AE W.pool m.rs m.rb) (AE W.pool S.rs S.rb))))):=Iff.rfl
theorem X4(l:List (Int×Int))(t:Int):∀k,k<=l.length->BE (AI l) (AK l) t k=Dv (l.take k) t
 | 0,_=>by simp[BE,Dv]
 | k+1,hk=>by
  have a:k<l.length:=(by omega);unfold BE;rw[X4 l t k (by omega)];unfold Dv;rw[List.take_succ_eq_append_getElem a,List.filter_append,List.filter_cons];simp only[List.filter_nil];unfold AI AK;rw[Co a];by_cases h:t<(l[k]).2
  ·rw[if_pos h,if_pos (by simpa using h)]
  ·rw[if_neg h,if_neg (by simpa using h),List.append_nil]
theorem Td(l:List (Int×Int))(t:Int):BE (AI l) (AK l) t l.length=Dv l t:=by
 rw[X4 l t _ (Nat.le_refl _),List.take_length]
theorem Xo(v a:Value)(w:World):(Instr.field 147 (.agg #[v,a]) 0).run Tryz.prog w = .ok v w:=by kernel_rfl
theorem zD6(v0 v1 v2 v3:Value)(lo hi:Nat)(W:A4)(m:DJ)(S:AT)(ad sa:Option Addr)(cd sc:Nat)(w:World)(h:BM w lo hi v0 v1 v2 v3 W)(hR:AX W.pool)(sC:An W.pool m.rs m.rb)(rC:An W.pool S.rs S.rb)(hD:Ay w lo hi (.slice ad m.dn cd) m.dn m.ds m.db)(ht:F2 S.time) :
 Calls Tryz.prog 129 #[Bh v0 v1 v2 v3 W,zJF (.slice ad m.dn cd) m,BX (.slice sa S.dn sc) S] w fun e w'=>AJ (K5 W m S) e/\Below w.heap.size w w':=by
 unfold BX;have Hp:=A3 h;have HR:=A3 hR;have gA:=A3 sC;have pA:=A3 rC;have kD:=A3 hD;have pD:=A3 ht;clear h hR sC rC hD ht;have aD:∀Wa Wb Wc:World,Wa=w.alloc (.cells #[v0,v1,.int .i64 W.time,.int .i64 W.next,v2,v3] 30)->Wb=Wa.alloc (.cells #[.int .i64 m.A5,.int .i64 m.time,.int .i64 m.rs,.int .i64 m.rb,.slice ad m.dn cd] 143)->Wc=Wb.alloc (.cells #[.int .i64 S.id,.string S.name,.string S.set,.int .i64 S.A5,.int .i64 S.time,.int .i64 S.rs,.int .i64 S.rb,.slice sa S.dn sc] 43)->Af Wc w.heap.size v0 v1 (.int .i64 W.time) (.int .i64 W.next) v2 v3/\Ez Wc (w.heap.size+1) (.int .i64 m.A5) (.int .i64 m.time) (.int .i64 m.rs) (.int .i64 m.rb) (.slice ad m.dn cd)/\CG Wc (w.heap.size+2) (.int .i64 S.id) (.string S.name) (.string S.set) (.int .i64 S.A5) (.int .i64 S.time) (.int .i64 S.rs) (.int .i64 S.rb) (.slice sa S.dn sc)/\Below w.heap.size w Wc:=by
  rintro Wa Wb Wc ea eb ec;have ha:=A9 w (.cells #[v0,v1,.int .i64 W.time,.int .i64 W.next,v2,v3] 30);have h1:=Af.new w v0 v1 (.int .i64 W.time) (.int .i64 W.next) v2 v3 30;have z1:Wa.heap.size=w.heap.size+1:=(by rw[ea];exact World.size_alloc _ _);rw[<-ea]at ha h1;have hb:=A9 Wa (.cells #[.int .i64 m.A5,.int .i64 m.time,.int .i64 m.rs,.int .i64 m.rb,.slice ad m.dn cd] 143);have h2:=Ez.new Wa (.int .i64 m.A5) (.int .i64 m.time) (.int .i64 m.rs) (.int .i64 m.rb) (.slice ad m.dn cd) 143;have z2:Wb.heap.size=w.heap.size+2:=(by rw[eb,World.size_alloc,z1]);rw[<-eb,z1]at h2;rw[<-eb]at hb;have hc:=A9 Wb (.cells #[.int .i64 S.id,.string S.name,.string S.set,.int .i64 S.A5,.int .i64 S.time,.int .i64 S.rs,.int .i64 S.rb,.slice sa S.dn sc] 43);have h3:=CG.new Wb (.int .i64 S.id) (.string S.name) (.string S.set) (.int .i64 S.A5) (.int .i64 S.time) (.int .i64 S.rs) (.int .i64 S.rb) (.slice sa S.dn sc) 43;rw[<-ec,z2]at h3;rw[<-ec]at hc;exact⟨(h1.A1 hb).A1 hc,h2.A1 hc,h3,A8 (A8 ha hb) hc⟩
 obtain⟨hx,hm,vC,C⟩:=aD _ _ _ rfl rfl rfl;have i:=A3 hx;have f:=A3 hm;have g:=A3 vC;clear hx hm vC aD;go_enter Tryz.func129,Tryz.ntmps129;go_wp2_with fail;generalize ((w.alloc (.cells #[v0,v1,.int .i64 W.time,.int .i64 W.next,v2,v3] 30)).alloc (.cells #[.int .i64 m.A5,.int .i64 m.time,.int .i64 m.rs,.int .i64 m.rb,.slice ad m.dn cd] 143)).alloc (.cells #[.int .i64 S.id,.string S.name,.string S.set,.int .i64 S.A5,.int .i64 S.time,.int .i64 S.rs,.int .i64 S.rb,.slice sa S.dn sc] 43)=b at i f g C ⊢;obtain⟨x0,x1,x2,x3,x4,x5⟩:=i.out.c;obtain⟨-,-,⟨y2,-⟩,⟨y3,-⟩,-⟩:=f.out;obtain⟨-,-,⟨z5,-⟩,⟨z6,-⟩,-⟩:=g.out
 refine' zEX (fun hfin=>_) _
 rotate_left
 ·refine wp_region_held_drew (S:=(fun w'=>w'.cell? ⟨w.heap.size,0,none⟩=some v0/\w'.cell? ⟨w.heap.size,1,none⟩=some v1/\w'.cell? ⟨w.heap.size,2,none⟩=some (.int .i64 W.time)/\w'.cell? ⟨w.heap.size,3,none⟩=some (.int .i64 W.next)/\w'.cell? ⟨w.heap.size,4,none⟩=some v2/\w'.cell? ⟨w.heap.size,5,none⟩=some v3/\w'.cell? ⟨w.heap.size+1,2,none⟩=some (.int .i64 m.rs)/\w'.cell? ⟨w.heap.size+1,3,none⟩=some (.int .i64 m.rb)/\w'.cell? ⟨w.heap.size+2,5,none⟩=some (.int .i64 S.rs)/\w'.cell? ⟨w.heap.size+2,6,none⟩=some (.int .i64 S.rb))) (by kernel_rfl) ?_ (fun hHeld=>?_)
  ·(try dsimp only)
   go_keep
  have nB:Below b.heap.size b b.drew:=(Below.refl _ _).drew;have vD:b.drew.heap.size=b.heap.size:=rfl;refine tk 0 (h:=tk 1 (h:=tk 2 (h:=tk 4 (h:=tk 5 (h:=tk 6 (h:=?_))))));refine rd [3,8] (rc (fun K hK=>?_) (rc (fun K hK=>?_) .nil))
  ·go_simp;go_at_call 130;refine(Ky v0 v1 v2 v3 lo hi W m.rs m.rb _ ?_ HR.out gA.out).mono ?_
   ·exact Hp.out.A1 (A8 C nB)
   rintro e E ⟨vt,rfl,z,D⟩;obtain⟨F,G,rfl,-⟩:=C6 z;have o:Below b.heap.size b E:=A8 nB D;obtain⟨⟨N,-⟩,⟨O,-⟩,⟨P,-⟩,⟨Q,-⟩,⟨R,-⟩,⟨U,-⟩⟩:=i.out.A1 o;obtain⟨-,-,⟨V,-⟩,⟨X,-⟩,-⟩:=f.out.A1 o;obtain⟨-,-,⟨Y,-⟩,⟨Z,-⟩,-⟩:=g.out.A1 o
   (try go_wp2_with fail)
   refine hK.out _ _ (by(try dsimp only);go_keep) ?_;clear hK K hHeld;intro hHeld
   try simp only[Act.put,s1,s2,s3]
   refine rd [7,8] (rc (fun K hK=>?_) (rc (fun K hK=>?_) .nil))
   ·go_simp;go_at_call 130;refine(Ky v0 v1 v2 v3 lo hi W S.rs S.rb _ ?_ HR.out pA.out).mono ?_
    ·exact Hp.out.A1 (A8 C o)
    rintro e B ⟨va,rfl,p,j⟩;obtain⟨s,t,rfl,-⟩:=C6 p;have d:Below b.heap.size b B:=A8 o j;obtain⟨⟨N,-⟩,⟨O,-⟩,⟨P,-⟩,⟨Q,-⟩,⟨R,-⟩,⟨U,-⟩⟩:=i.out.A1 d;obtain⟨-,-,⟨V,-⟩,⟨X,-⟩,-⟩:=f.out.A1 d;obtain⟨-,-,⟨Y,-⟩,⟨Z,-⟩,-⟩:=g.out.A1 d
    (try go_wp2_with fail)
    refine hK.out _ _ (by(try dsimp only);go_keep) ?_;clear hK K hHeld;intro hHeld
    try simp only[Act.put,s1,s2,s3]
    refine rd [8] (rc (fun K hK=>?_) .nil);go_simp;have H:=A9 B (.cells #[.slice none 0 0] 41);have l:Below b.heap.size b (B.alloc (.cells #[.slice none 0 0] 41)):=A8 d H;have M:AF (B.alloc (.cells #[.slice none 0 0] 41)) B.heap.size 0 (.slice none 0 0):=At (heap_alloc_new _ _) rfl;obtain⟨⟨N,-⟩,⟨O,-⟩,⟨P,-⟩,⟨Q,-⟩,⟨R,-⟩,⟨U,-⟩⟩:=i.out.A1 l;obtain⟨-,-,⟨V,-⟩,⟨X,-⟩,-⟩:=f.out.A1 l;obtain⟨-,-,⟨Y,-⟩,⟨Z,-⟩,-⟩:=g.out.A1 l
    (try go_wp2_with fail)
    refine hK.out _ _ (by(try dsimp only);go_keep) ?_;clear hK K hHeld;intro hHeld
    try simp only[Act.put,s1,s2,s3]
    refine tk 9 (h:=?_);refine rd [10] (rc (fun K hK=>?_) .nil);go_simp;have J:=A9 B (.cells #[.slice s (AE W.pool S.rs S.rb).length t] 41);have a:Below b.heap.size b (B.alloc (.cells #[.slice s (AE W.pool S.rs S.rb).length t] 41)):=A8 d J;obtain⟨⟨N,-⟩,⟨O,-⟩,⟨P,-⟩,⟨Q,-⟩,⟨R,-⟩,⟨U,-⟩⟩:=i.out.A1 a;obtain⟨-,-,⟨V,-⟩,⟨X,-⟩,-⟩:=f.out.A1 a;obtain⟨-,-,⟨Y,-⟩,⟨Z,-⟩,-⟩:=g.out.A1 a
    (try go_wp2_with fail)
    refine hK.out _ _ (by(try dsimp only);go_keep) ?_;clear hK K hHeld;intro hHeld
    try simp only[Act.put,s1,s2,s3]
    refine wpAnyH_done (by kernel_rfl) ?_ _;have k:=A3 (show AF (B.alloc (.cells #[.slice s (AE W.pool S.rs S.rb).length t] 41)) B.heap.size 0 (.slice s (AE W.pool S.rs S.rb).length t)from At (heap_alloc_new _ _) rfl);have r:=A3 (((z.A1 j).A1 J).mono (Nat.zero_le _));have q:=A3 ((p.A1 J).mono (Nat.zero_le _));clear H M l J;have A:=A3 (i.out.A1 a);have u:=A3 (f.out.A1 a);have v:=A3 (g.out.A1 a);have y:=A8 C a;clear a hHeld N O P Q R U V X Y Z z p;generalize (B.alloc (.cells #[.slice s (AE W.pool S.rs S.rb).length t] 41))=wz at k r q A u v y ⊢;generalize B.heap.size=T at k ⊢;revert k r q A u v y;revert T wz;revert F G s t;exact hfin.out
   ·go_simp;have H:=A9 E (.cells #[.slice none 0 0] 41);have d:Below b.heap.size b (E.alloc (.cells #[.slice none 0 0] 41)):=A8 o H;have M:AF (E.alloc (.cells #[.slice none 0 0] 41)) E.heap.size 0 (.slice none 0 0):=At (heap_alloc_new _ _) rfl;obtain⟨⟨N,-⟩,⟨O,-⟩,⟨P,-⟩,⟨Q,-⟩,⟨R,-⟩,⟨U,-⟩⟩:=i.out.A1 d;obtain⟨-,-,⟨V,-⟩,⟨X,-⟩,-⟩:=f.out.A1 d;obtain⟨-,-,⟨Y,-⟩,⟨Z,-⟩,-⟩:=g.out.A1 d
    (try go_wp2_with fail)
    refine hK.out _ _ (by(try dsimp only);go_keep) ?_;clear hK K hHeld;intro hHeld
    try simp only[Act.put,s1,s2,s3]
    refine rd [7] (rc (fun K hK=>?_) .nil);go_simp;go_at_call 130;refine(Ky v0 v1 v2 v3 lo hi W S.rs S.rb _ ?_ HR.out pA.out).mono ?_
    ·exact Hp.out.A1 (A8 C d)
    rintro e B ⟨va,rfl,p,j⟩;obtain⟨s,t,rfl,-⟩:=C6 p;have l:Below b.heap.size b B:=A8 d j;obtain⟨⟨N,-⟩,⟨O,-⟩,⟨P,-⟩,⟨Q,-⟩,⟨R,-⟩,⟨U,-⟩⟩:=i.out.A1 l;obtain⟨-,-,⟨V,-⟩,⟨X,-⟩,-⟩:=f.out.A1 l;obtain⟨-,-,⟨Y,-⟩,⟨Z,-⟩,-⟩:=g.out.A1 l
    (try go_wp2_with fail)
    refine hK.out _ _ (by(try dsimp only);go_keep) ?_;clear hK K hHeld;intro hHeld
    try simp only[Act.put,s1,s2,s3]
    refine tk 9 (h:=?_);have oB:=M.A1 j;have lA:=(z.A1 H).A1 j;have bD:(E.alloc (.cells #[.slice none 0 0] 41)).heap.size=E.heap.size+1:=World.size_alloc _ _;have kA:Value.ownBlock (.slice F (AE W.pool m.rs m.rb).length G)≠some E.heap.size:=fun e=>by have:=(z.lt e).2;omega
    have jA:Value.ownBlock (.slice s (AE W.pool S.rs S.rb).length t)≠some E.heap.size:=fun e=>by have:=(p.lt e).1;omega
    have bF:=o.size;obtain⟨tB,vB⟩:=oB;refine rd [10] (rc (fun K hK=>?_) .nil);go_simp;have a:Below b.heap.size b (B.setCell ⟨E.heap.size,0,none⟩ (.slice s (AE W.pool S.rs S.rb).length t)):=l.setCell (show b.heap.size<=E.heap.size by omega) _;obtain⟨⟨N,-⟩,⟨O,-⟩,⟨P,-⟩,⟨Q,-⟩,⟨R,-⟩,⟨U,-⟩⟩:=i.out.A1 a;obtain⟨-,-,⟨V,-⟩,⟨X,-⟩,-⟩:=f.out.A1 a;obtain⟨-,-,⟨Y,-⟩,⟨Z,-⟩,-⟩:=g.out.A1 a
    (try go_wp2_with fail)
    refine hK.out _ _ (by(try dsimp only);go_keep) ?_;clear hK K hHeld;intro hHeld
    try simp only[Act.put,s1,s2,s3]
    refine wpAnyH_done (by kernel_rfl) ?_ _;have k:=A3 (show AF (B.setCell ⟨E.heap.size,0,none⟩ (.slice s (AE W.pool S.rs S.rb).length t)) E.heap.size 0 (.slice s (AE W.pool S.rs S.rb).length t)from AF.set ⟨tB,vB⟩ _);have r:=A3 ((lA.putNe kA 0 (.slice s (AE W.pool S.rs S.rb).length t)).mono (Nat.zero_le _));have q:=A3 ((p.putNe jA 0 (.slice s (AE W.pool S.rs S.rb).length t)).mono (Nat.zero_le _));have A:=A3 (i.out.A1 a);have u:=A3 (f.out.A1 a);have v:=A3 (g.out.A1 a);have y:=A8 C a;clear a hHeld N O P Q R U V X Y Z z p lA kA jA;generalize (B.setCell ⟨E.heap.size,0,none⟩ (.slice s (AE W.pool S.rs S.rb).length t))=wz at k r q A u v y ⊢;generalize E.heap.size=T at k ⊢;revert k r q A u v y;revert T wz;revert F G s t;exact hfin.out
  ·go_simp;have H:=A9 b.drew (.cells #[.slice none 0 0] 41);have o:Below b.heap.size b (b.drew.alloc (.cells #[.slice none 0 0] 41)):=A8 nB H;have M:AF (b.drew.alloc (.cells #[.slice none 0 0] 41)) b.drew.heap.size 0 (.slice none 0 0):=At (heap_alloc_new _ _) rfl;obtain⟨⟨N,-⟩,⟨O,-⟩,⟨P,-⟩,⟨Q,-⟩,⟨R,-⟩,⟨U,-⟩⟩:=i.out.A1 o;obtain⟨-,-,⟨V,-⟩,⟨X,-⟩,-⟩:=f.out.A1 o;obtain⟨-,-,⟨Y,-⟩,⟨Z,-⟩,-⟩:=g.out.A1 o
   (try go_wp2_with fail)
   refine hK.out _ _ (by(try dsimp only);go_keep) ?_;clear hK K hHeld;intro hHeld
   try simp only[Act.put,s1,s2,s3]
   refine rd [3] (rc (fun K hK=>?_) .nil);go_simp;go_at_call 130;refine(Ky v0 v1 v2 v3 lo hi W m.rs m.rb _ ?_ HR.out gA.out).mono ?_
   ·exact Hp.out.A1 (A8 C o)
   rintro e E ⟨vt,rfl,z,D⟩;obtain⟨F,G,rfl,-⟩:=C6 z;have d:Below b.heap.size b E:=A8 o D;obtain⟨⟨N,-⟩,⟨O,-⟩,⟨P,-⟩,⟨Q,-⟩,⟨R,-⟩,⟨U,-⟩⟩:=i.out.A1 d;obtain⟨-,-,⟨V,-⟩,⟨X,-⟩,-⟩:=f.out.A1 d;obtain⟨-,-,⟨Y,-⟩,⟨Z,-⟩,-⟩:=g.out.A1 d
   (try go_wp2_with fail)
   refine hK.out _ _ (by(try dsimp only);go_keep) ?_;clear hK K hHeld;intro hHeld
   try simp only[Act.put,s1,s2,s3]
   refine rd [7] (rc (fun K hK=>?_) .nil);go_simp;go_at_call 130;refine(Ky v0 v1 v2 v3 lo hi W S.rs S.rb _ ?_ HR.out pA.out).mono ?_
   ·exact Hp.out.A1 (A8 C d)
   rintro e B ⟨va,rfl,p,j⟩;obtain⟨s,t,rfl,-⟩:=C6 p;have l:Below b.heap.size b B:=A8 d j;obtain⟨⟨N,-⟩,⟨O,-⟩,⟨P,-⟩,⟨Q,-⟩,⟨R,-⟩,⟨U,-⟩⟩:=i.out.A1 l;obtain⟨-,-,⟨V,-⟩,⟨X,-⟩,-⟩:=f.out.A1 l;obtain⟨-,-,⟨Y,-⟩,⟨Z,-⟩,-⟩:=g.out.A1 l
   (try go_wp2_with fail)
   refine hK.out _ _ (by(try dsimp only);go_keep) ?_;clear hK K hHeld;intro hHeld
   try simp only[Act.put,s1,s2,s3]
   refine tk 9 (h:=?_);rw[vD]at M;have oB:=(M.A1 D).A1 j;have lA:=z.A1 j;have bD:(b.drew.alloc (.cells #[.slice none 0 0] 41)).heap.size=b.heap.size+1:=World.size_alloc _ _;have nE:(b.alloc (.cells #[.slice none 0 0] 41)).drew.heap.size=b.heap.size+1:=World.size_alloc _ _;have cF:=D.size;have kA:Value.ownBlock (.slice F (AE W.pool m.rs m.rb).length G)≠some b.heap.size:=fun e=>by have:=(z.lt e).1;omega
   have jA:Value.ownBlock (.slice s (AE W.pool S.rs S.rb).length t)≠some b.heap.size:=fun e=>by have:=(p.lt e).1;omega
   obtain⟨tB,vB⟩:=oB;refine rd [10] (rc (fun K hK=>?_) .nil);go_simp;have a:Below b.heap.size b (B.setCell ⟨b.heap.size,0,none⟩ (.slice s (AE W.pool S.rs S.rb).length t)):=l.setCell (show b.heap.size<=b.heap.size by omega) _;obtain⟨⟨N,-⟩,⟨O,-⟩,⟨P,-⟩,⟨Q,-⟩,⟨R,-⟩,⟨U,-⟩⟩:=i.out.A1 a;obtain⟨-,-,⟨V,-⟩,⟨X,-⟩,-⟩:=f.out.A1 a;obtain⟨-,-,⟨Y,-⟩,⟨Z,-⟩,-⟩:=g.out.A1 a
   (try go_wp2_with fail)
   refine hK.out _ _ (by(try dsimp only);go_keep) ?_;clear hK K hHeld;intro hHeld
   try simp only[Act.put,s1,s2,s3]
   refine wpAnyH_done (by kernel_rfl) ?_ _;have k:=A3 (show AF (B.setCell ⟨b.heap.size,0,none⟩ (.slice s (AE W.pool S.rs S.rb).length t)) b.heap.size 0 (.slice s (AE W.pool S.rs S.rb).length t)from AF.set ⟨tB,vB⟩ _);have r:=A3 ((lA.putNe kA 0 (.slice s (AE W.pool S.rs S.rb).length t)).mono (Nat.zero_le _));have q:=A3 ((p.putNe jA 0 (.slice s (AE W.pool S.rs S.rb).length t)).mono (Nat.zero_le _));have A:=A3 (i.out.A1 a);have u:=A3 (f.out.A1 a);have v:=A3 (g.out.A1 a);have y:=A8 C a;clear a hHeld N O P Q R U V X Y Z z p lA kA jA;generalize (B.setCell ⟨b.heap.size,0,none⟩ (.slice s (AE W.pool S.rs S.rb).length t))=wz at k r q A u v y ⊢;generalize b.heap.size=T at k ⊢;revert k r q A u v y;revert T wz;revert F G s t;exact hfin.out
 intro F G s t wz T r q A u v y k;have fF:=D7 W.pool m.rs m.rb;have gF:=D7 W.pool S.rs S.rb;have mD:=A3 (show C1 (AE W.pool m.rs m.rb).length (AI (AE W.pool m.rs m.rb)) (AK (AE W.pool m.rs m.rb))from Kt HR.out (fun x hx=>(EY HR.out gA.out hx).1) (Jr HR.out gA.out) (by omega));have nA:=A3 (zGm W m S);clear gA pA HR Hp A;generalize AE W.pool m.rs m.rb=tree at *;generalize AE W.pool S.rs S.rb=old at *;have eF:(Cc tree old).length<=tree.length:=List.length_filter_le _ _;have iF:(BN tree old).length<=tree.length:=List.length_filter_le _ _;have dF:(BN old (Cc tree old)).length<=old.length:=List.length_filter_le _ _;have jF:(Dv tree S.time).length<=tree.length:=List.length_filter_le _ _;have kF:∀(fn:Fn) (first cap:Array Value) (w:World),(Instr.makeFunc fn first cap).run Tryz.prog w = .ok (.func fn first cap) w:=fun _ _ _ _=>rfl
 go_wp2_with fail;refine(zCg _ _ 0 _ 0 _ T tree old wz (r.out.atW (by omega)) (by omega) (q.out.atW (by omega)) k.out.1).mono ?_;rintro e w3 ⟨vk,vo,rfl,rB,sB,-,I⟩;obtain⟨ak,ck,rfl,-⟩:=C6 rB;obtain⟨ao,co,rfl,-⟩:=C6 sB;have n:=A9 w3 (.cells #[.slice ak (Cc tree old).length ck] 41);have fA:=A3 ((k.out.A1 I).A1 n);have eA:=A3 ((r.out.A1 I).A1 n);have dA:=A3 ((q.out.A1 I).A1 n);have bB:=A3 (rB.A1 n);have fB:=A3 (sB.A1 n);have cB:=A3 ((u.out.A1 I).A1 n);have gB:=A3 ((v.out.A1 I).A1 n);have mA:=A3 (show AF (w3.alloc (.cells #[.slice ak (Cc tree old).length ck] 41)) w3.heap.size 0 (.slice ak (Cc tree old).length ck)from At (heap_alloc_new _ _) rfl);have kB:=A8 (A8 y I) n;clear rB sB I n k r q u v y;obtain⟨c0,-⟩:=fA.out;go_wp2_with fail;clear c0;generalize w3.alloc (.cells #[.slice ak (Cc tree old).length ck] 41)=w4 at fA eA dA bB fB cB gB mA kB ⊢;generalize w3.heap.size=T9 at mA ⊢;refine(zBq _ _ 0 _ 0 _ T9 old (Cc tree old) w4 (dA.out.atW (by omega)) (by omega) (bB.out.atW (by omega)) mA.out.1).mono ?_;rintro e w5 ⟨vx,nF,rfl,-,pB,-,L⟩;obtain⟨vE,aF,rfl,-⟩:=C6 pB;have aB:=A3 (eA.out.A1 L);have lC:=A3 (fB.out.A1 L);have kC:=A3 (cB.out.A1 L);have nC:=A3 (gB.out.A1 L);have tA:=A3 pB;have pC:=A8 kB L;clear pB L fA eA dA bB fB cB gB mA kB;obtain⟨-,⟨c4,-⟩,-⟩:=nC.out;go_wp2_with fail;clear c4;refine(RX _ tree.length 0 _ (AI tree) (AK tree) S.time w5 (aB.out.atW (by omega))).mono ?_;rintro e w6 ⟨vy,vz,ly,lz,rfl,hY,-,hy,-,-,iA⟩;rw[(hY.1 ⟨mD.out,pD.out⟩).trans (Td tree S.time)]at hy;have aE:∀w,(Instr.field 147 (.agg #[vy,vz]) 0).run Tryz.prog w = .ok vy w:=Xo vy vz;have oC:=A3 hy;have mC:=A3 (lC.out.A1 iA);have eB:=A3 (kC.out.A1 iA);have vA:=A3 (tA.out.A1 iA);have lB:=A8 pC iA;clear hY hy iA aB lC kC nC tA pC;obtain⟨-,⟨c1,-⟩,-,⟨c3,-⟩,⟨c5,-⟩⟩:=eB.out;by_cases h1:m.rb<=m.time;rotate_left
 ·have Hn:=A3 (show ¬K5 W m S from fun h=>h1 (nA.out.1 h).1);go_wp2;go_ret;exact⟨AJ.no Hn.out,lB⟩
 have H1:=A3 h1;go_wp2_with fail;clear h1 c1 c3 c5 aE;refine(Yg _ _ _ 0 _ _ 0 _ _ _ _ _ w6 (oC.out.atW (by omega)) (mC.out.atW (by omega))).mono ?_;rintro e w7 ⟨⟨t7,rfl,cD⟩,sA⟩;have lD:=A3 (eB.out.A1 sA);have jC:=A3 (vA.out.A1 sA);have mB:=A8 lB sA;have rA:=A3 cD;clear cD sA oC mC eB vA lB;obtain⟨-,⟨c1,-⟩,-,⟨c3,-⟩,⟨c5,-⟩⟩:=lD.out;cases t7
 ·have Hn:=A3 (show ¬K5 W m S from fun h=>absurd (rA.out.2 (nA.out.1 h).2.1) (by simp));clear rA;go_wp2;go_ret;exact⟨AJ.no Hn.out,mB⟩
 have H2:=A3 (rA.out.1 rfl);clear rA;go_wp2_with fail;clear c1 c3 c5;refine(Yg _ _ _ lo hi _ 0 _ _ _ _ _ w7 (kD.out.A1 mB) (jC.out.atW (by omega))).mono ?_;rintro e w8 ⟨⟨t8,rfl,dD⟩,tC⟩;have oD:=A3 (dD.trans ⟨fun h=>nA.out.2 ⟨H1.out,H2.out,h⟩,fun h=>(nA.out.1 h).2.2⟩);have sD:=A8 mB tC;clear dD tC;go_wp2;go_ret;exact⟨⟨t8,rfl,oD.out⟩,sD⟩
theorem zI3{W:A4}(h:∀i,i<memN W->An W.pool (A6 W i).rs (A6 W i).rb)(x:Int):An W.pool (AB W x).rs (AB W x).rb:=by
 by_cases b:∃k,BB W x k
 ·obtain⟨k,a⟩:=b;rw[Cn a];have:=h k (by unfold memN;have:=a.1;omega);rw[B9 a.1]at this;exact this
 ·have:AB W x=CQ:=by
   unfold AB;rw[dif_neg b]
  rw[this];exact Or.inl ⟨rfl,rfl⟩
def Mo(W:A4)(i:Nat):Prop:=K5 W (A6 W i) (AB W (A6 W i).A5)
def Yk(W:A4):Prop:=(∀i,i<memN W->An W.pool (A6 W i).rs (A6 W i).rb)/\∀i,i<memN W->Mo W i
def Pr(W:A4):Prop:=∀x,F2 (AB W x).time
theorem zCM(x v1 C D:Value)(lo hi:Nat)(W:A4)(A:Nat)(w:World)(h:BM w lo hi x v1 C D W)(hs:W.sn<=8)(hp:W.pn<=20)(t:G8 w lo hi W A)(hD:EC W)(P:F6 W)(hR:AX W.pool)(hT:Pr W) :
 Calls Tryz.prog 73 #[Bh x v1 C D W,JO A] w fun e w'=>AJ (Yk W) e/\Below w.heap.size w w':=by
 have Hp:=A3 h;have HA:=A3 t;have HD:=A3 hD;have gA:=A3 P;have Z:=A3 hR;have bA:=A3 hT;clear h t hD P hR hT;have X:=A9 w (.cells #[x,v1,.int .i64 W.time,.int .i64 W.next,C,D] 30);have T:=A3 (Af.new w x v1 (.int .i64 W.time) (.int .i64 W.next) C D 30);obtain⟨R,S,x4,x6,x8,pA⟩:=T.out.c;go_enter Tryz.func73,Tryz.ntmps73;go_wp2_with fail;clear R S x4 x6 x8 pA;generalize w.alloc (.cells #[x,v1,.int .i64 W.time,.int .i64 W.next,C,D] 30)=W0 at X T ⊢;refine(Oo x v1 C D lo hi W W0 (Hp.out.A1 X) hs hp).mono ?_;rintro e Y ⟨vm,vd,rfl,hm,G⟩;have U:=A3 hm;have I:=A3 (T.out.A1 G);have p:=A8 X G;obtain⟨am,cm,rfl,vB⟩:=id hm.Bv;have aC:memN W<=28:=by unfold memN;omega
 clear X G hm T;go_wp2
 go_loopw [14] (fun i wr=>∃k:Nat,k<=memN W/\i = .int .i64 k/\(∀j,j<k->An W.pool (A6 W j).rs (A6 W j).rb)/\Below Y.heap.size Y wr) (fun i _=>memN W - (intOf i).toNat)
 case atStart=>exact⟨0,Nat.zero_le _,rfl,fun j hj=>absurd hj (Nat.not_lt_zero _),Below.refl _ _⟩
 case round=>
  obtain⟨k,hk,rfl,f,q⟩:=hrel;have b:=A3 f;clear f;by_cases a:k<memN W
  ·have M:(k:Int)<(memN W:Int):=(by omega);obtain⟨g,cg,e,q0,q1,q2,q3,Q⟩:=(U.out.A1 q).cells k a;obtain⟨-,z,B,s,-,-⟩:=id ((U.out.A1 q).dead k a);rw[s]at Q;cases e;have m:=A9 wr (.cells #[.int .i64 (A6 W k).A5,.int .i64 (A6 W k).time,.int .i64 (A6 W k).rs,.int .i64 (A6 W k).rb,.slice z (A6 W k).dn B] 143);have y:=A3 (Ez.new wr (.int .i64 (A6 W k).A5) (.int .i64 (A6 W k).time) (.int .i64 (A6 W k).rs) (.int .i64 (A6 W k).rb) (.slice z (A6 W k).dn B) 143);have n:=A3 ((I.out.A1 q).A1 m);have l:=A8 q m;clear s m;obtain⟨⟨y0,-⟩,⟨y1,-⟩,⟨y2,-⟩,⟨y3,-⟩,⟨y4,-⟩⟩:=y.out;obtain⟨⟨R,-⟩,⟨S,-⟩,-⟩:=n.out;go_wp2_with fail;clear q0 q1 q2 q3 Q y0 y1 y2 y3 y4 R S;refine(zCn x v1 lo hi W.pool (A6 W k).rs (A6 W k).rb _ (Hp.out.pool.A1 (A8 p l)) Z.out).mono ?_;rintro e w6 ⟨⟨t6,rfl,N⟩,r⟩;have u:=A3 (N.trans (Q8 Z.out));have o:=A8 l r;clear N r l y n;cases t6
   ·have F:=A3 (show ¬An W.pool (A6 W k).rs (A6 W k).rb from fun t=>absurd (u.out.2 t) (by simp));clear u;go_wp2;go_ret;exact⟨AJ.no fun t=>F.out (t.1 k a),A8 p o⟩
   ·have F:=A3 (u.out.1 rfl);clear u;go_wp2;go_roundw
    case rel=>exact⟨k+1,by omega,by go_num,Bf a b.out F.out,o⟩
    case measure=>simp[intOf];omega
  obtain rfl:k=memN W:=(by omega);have E:=A3 b.out;clear b a hk;go_wp2
  go_loopw [27] (fun i wr=>∃k:Nat,k<=memN W/\i = .int .i64 k/\(∀j,j<k->Mo W j)/\Below Y.heap.size Y wr) (fun i _=>memN W - (intOf i).toNat)
  case atStart=>exact⟨0,Nat.zero_le _,rfl,fun j hj=>absurd hj (Nat.not_lt_zero _),q⟩
  case round=>
   clear q;obtain⟨k,hk,rfl,f,q⟩:=hrel;have b:=A3 f;clear f;by_cases a:k<memN W;rotate_left
   ·obtain rfl:k=memN W:=(by omega);go_wp2;go_ret;exact⟨AJ.yes ⟨E.out,b.out⟩,A8 p q⟩
   have M:(k:Int)<(memN W:Int):=(by omega);obtain⟨g,cg,e,q0,q1,q2,q3,Q⟩:=(U.out.A1 q).cells k a;have v:=(U.out.A1 q).dead k a;obtain⟨-,z,B,s,-,-⟩:=id v;rw[s]at Q v;cases e;have m:=A9 wr (.cells #[.int .i64 (A6 W k).A5,.int .i64 (A6 W k).time,.int .i64 (A6 W k).rs,.int .i64 (A6 W k).rb,.slice z (A6 W k).dn B] 143);have y:=A3 (Ez.new wr (.int .i64 (A6 W k).A5) (.int .i64 (A6 W k).time) (.int .i64 (A6 W k).rs) (.int .i64 (A6 W k).rb) (.slice z (A6 W k).dn B) 143);have n:=A3 ((I.out.A1 q).A1 m);have J:=A3 (v.A1 m);have l:=A8 q m;have H:=A3 (HA.out.A1 (A8 p l));have K:=A3 (Hp.out.A1 (A8 p l));have iA:=A3 (gA.out k a);have aA:=A3 (E.out k a);have cA:=A3 (zI3 E.out (A6 W k).A5);have fA:=A3 (bA.out (A6 W k).A5);have eA:=A3 (show Mo W k↔K5 W (A6 W k) (AB W (A6 W k).A5)from Iff.rfl);clear s m v;generalize A6 W k=mk at *;go_wp2_with fail;clear q0 q1 q2 q3 Q;generalize wr.alloc (.cells #[.int .i64 mk.A5,.int .i64 mk.time,.int .i64 mk.rs,.int .i64 mk.rb,.slice z mk.dn B] 143)=W2 at y n J H K l ⊢;generalize wr.heap.size=V at y ⊢;obtain⟨⟨y0,-⟩,⟨y1,-⟩,⟨y2,-⟩,⟨y3,-⟩,⟨y4,-⟩⟩:=y.out;obtain⟨R,x1,S,x3,x4,x5⟩:=n.out.c;go_region_held3 (fun w'=>w'.cell? ⟨w.heap.size,0,none⟩=some x/\w'.cell? ⟨w.heap.size,1,none⟩=some v1/\w'.cell? ⟨w.heap.size,2,none⟩=some (.int .i64 W.time)/\w'.cell? ⟨w.heap.size,3,none⟩=some (.int .i64 W.next)/\w'.cell? ⟨w.heap.size,4,none⟩=some C/\w'.cell? ⟨w.heap.size,5,none⟩=some D/\w'.cell? ⟨V,0,none⟩=some (.int .i64 mk.A5)/\w'.cell? ⟨V,1,none⟩=some (.int .i64 mk.time)/\w'.cell? ⟨V,2,none⟩=some (.int .i64 mk.rs)/\w'.cell? ⟨V,3,none⟩=some (.int .i64 mk.rb)/\w'.cell? ⟨V,4,none⟩=some (.slice z mk.dn B)) (go_keep)
    (first
     | (go_at_call 126;refine(Ji lo hi W A mk.A5 _ ?_ HD.out iA.out hp).mono ?_;(exact H.out.A1 (Below.refl _ _).drew);rintro e w6 ⟨aa,ca,rfl,lA,r⟩;have d:=Cs r;obtain⟨⟨k0,_⟩,⟨k1,_⟩,⟨k2,_⟩,⟨k3,_⟩,⟨k4,_⟩,⟨k5,_⟩⟩:=n.out.A1 d;obtain⟨⟨l0,_⟩,⟨l1,_⟩,⟨l2,_⟩,⟨l3,_⟩,⟨l4,_⟩⟩:=y.out.A1 d)
     | (go_at_call 129;refine(zD6 x v1 C D lo hi W mk (AB W mk.A5) z aa B ca _ (K.out.A1 d) Z.out aA.out cA.out (J.out.A1 d) fA.out).mono ?_;rintro e w7 ⟨⟨t7,rfl,O⟩,o⟩;obtain⟨⟨f0,_⟩,⟨f1,_⟩,⟨f2,_⟩,⟨f3,_⟩,⟨f4,_⟩,⟨f5,_⟩⟩:=(n.out.A1 d).A1 o;obtain⟨⟨g0,_⟩,⟨g1,_⟩,⟨g2,_⟩,⟨g3,_⟩,⟨g4,_⟩⟩:=(y.out.A1 d).A1 o))
   have L:=A8 (A8 l d) o;have u:=A3 (O.trans eA.out.symm);clear O o d r lA k0 k1 k2 k3 k4 k5 l0 l1 l2 l3 l4 f0 f1 f2 f3 f4 f5 g0 g1 g2 g3 g4 R x1 S x3 x4 x5 y0 y1 y2 y3 y4;cases t7
   ·have F:=A3 (show ¬Mo W k from fun t=>absurd (u.out.2 t) (by simp));clear u;go_wp2;go_ret;exact⟨AJ.no fun t=>F.out (t.2 k a),A8 p L⟩
   ·have F:=A3 (u.out.1 rfl);clear u;go_wp2;go_roundw
    case rel=>exact⟨k+1,by omega,by go_num,Bf a b.out F.out,L⟩
    case measure=>simp[intOf];omega
end Go.Proofs.YtnfjcaoclahfjaaGreatDoor
