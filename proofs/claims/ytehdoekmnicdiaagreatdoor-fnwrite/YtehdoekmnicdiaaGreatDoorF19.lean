/- A part of the proof. -/
import Derived.Test.YtehdoekmnicdiaaGreatDoorF18
set_option linter.unusedVariables false
set_option maxRecDepth 20000
set_option maxHeartbeats 8000000
namespace Go.Proofs.YtehdoekmnicdiaaGreatDoor
open Go.RowKit Go.Maps
theorem ZI(n:Int)(w:World):Calls Tryz.prog 154 #[.int .i64 n] w fun e w'=>AL (F4 n) e/\w'=w:=by
 by_cases a:0<=n
 ·by_cases b:n<=1000000
  ·go_enter Tryz.func154,Tryz.ntmps154;go_wp2;go_ret;exact⟨AL.yes ⟨a,b⟩,rfl⟩
  ·go_enter Tryz.func154,Tryz.ntmps154;go_wp2;go_ret;exact⟨AL.no fun h=>by have:=h.2;omega,rfl⟩
 ·go_enter Tryz.func154,Tryz.ntmps154;go_wp2;go_ret;exact⟨AL.no fun h=>by have:=h.1;omega,rfl⟩
theorem zAl(x y t:Int)(T:Nat)(w:World)(b:w.cell? ⟨T,0,none⟩=some (.int .i64 t)):Calls Tryz.prog 156 #[.agg #[.int .i64 x,.int .i64 y],.pointer (some ⟨T,0,none⟩)] w fun e w'=>AL (t<y) e/\Below w.heap.size w w':=by
 have a:=AC w (.cells #[.int .i64 x,.int .i64 y] 38);have c:=(a.cell (p:=⟨T,0,none⟩) (AZ b)).trans b;by_cases h:t<y
 ·go_enter Tryz.func156,Tryz.ntmps156;go_wp2;go_ret;exact⟨⟨_,rfl,by simpa using h⟩,a⟩
 ·go_enter Tryz.func156,Tryz.ntmps156;go_wp2;go_ret;exact⟨⟨_,rfl,by simpa using h⟩,a⟩
def Ik(l l':List (Int×Int))(w w':World)(v v':Value):Prop:=At w' w.heap.size v l/\At w' w.heap.size v' l'/\(∀q,v.ownBlock=some q->v'.ownBlock≠some q)/\Below w.heap.size w w'
variable{l:List (Int×Int)}
theorem Km{w1 w2:World}{base g cap:Nat}{v v':Value}{l':List (Int×Int)}{x y:Int}(d:At w1 base v' l')(f:∀q,v.ownBlock=some q->v'.ownBlock≠some q)
 (a:w2.ownsRow base 38 2 (.slice (some ⟨g,0,none⟩) (l.length+1) cap) (l.length+1) (pcl l ++ [.int .i64 x,.int .i64 y])) (i:w1.grownBy w2 v.ownBlock) (c:v.ownBlock=some g\/g=w1.heap.size) :
 At w2 base (.slice (some ⟨g,0,none⟩) (l.length+1) cap) (l ++ [(x,y)])/\At w2 base v' l'/\(∀q,(Value.slice (some ⟨g,0,none⟩) (l.length+1) cap).ownBlock=some q->v'.ownBlock≠some q):=by
 refine⟨?_,d.AD i (fun q b e=>f q e b),fun q b e=>?_⟩
 ·unfold At;rw[MT,List.length_append];exact a
 ·simp only[Value.ownBlock,Option.some.injEq]at b;subst b;rcases c with h | h
  ·exact f _ h e
  ·have:=(d.lt e).2;omega
theorem zFg(v:Value)(n lo hi T:Nat)(f g:Nat->Int)(t:Int)(w:World)(W:BI w lo hi v n f g)(hn:n<=200)(hT:w.cell? ⟨T,0,none⟩=some (.int .i64 t)) :
 Calls Tryz.prog 155 #[v,.func (.func 156) #[] #[.pointer (some ⟨T,0,none⟩)]] w fun e w'=>∃M L,e = .returned (.tuple #[M,L])/\Ik (Bj f g t n) (C5 f g t n) w w' M L:=by
 have Hp:=Aa W;have HT:=Aa hT;obtain⟨m1,a,c,rfl,mc,_⟩:=id W;clear W hT;obtain⟨i0,J,D⟩:=Option.map_eq_some_iff.1 Nr;simp only[Prod.mk.injEq]at D;have y:=Aa (And.intro J D);clear J D;go_enter Tryz.func155,Tryz.ntmps155;go_wp2
 go_loopw [6,7,12] (fun M L i wr=>∃k:Nat,k<=n/\i = .int .i64 k/\Ik (Bj f g t k) (C5 f g t k) w wr M L) (fun _ _ i _=>n - (intOf i).toNat)
 case atStart=>exact⟨0,Nat.zero_le _,rfl,At.nil _ _,At.nil _ _,fun q l=>by simp[Value.ownBlock]at l,Below.refl _ _⟩
 case round=>
  obtain⟨k,hk,rfl,hy,ho,I,X⟩:=hrel;have Q:=Aa hy;have O:=Aa ho;have z:=Aa I;have fA:=Kx f g t k;clear hy ho I;by_cases Y:k<n
  ·have gA:(k:Int)<(n:Int):=(by omega);obtain⟨b,off,rfl,q0,q1⟩:=(Hp.out.A0 X).cellsD Y;have u:=AC wr (.cells #[.int .i64 (f k),.int .i64 (g k)] 38);have HV:=Aa (Ac.new wr (.int .i64 (f k)) (.int .i64 (g k)) 38);have C:=A7 X u;have F:=Aa ((C.cell (p:=⟨T,0,none⟩) (AZ HT.out)).trans HT.out);have lA:∀(fn:Fn) (first cap:Array Value) (w:World),(Instr.makeFunc fn first cap).run Tryz.prog w = .ok (.func fn first cap) w:=fun _ _ _ _=>rfl
   go_wp2_with fail;refine(zAl (f k) (g k) t T _ F.out).mono ?_;rintro e E ⟨⟨s,rfl,hs⟩,o⟩;have R:=Aa ((Q.out.A0 u).A0 o);have P:=Aa ((O.out.A0 u).A0 o);have N:=Aa (HV.out.A0 o);have H:=A7 C o;clear o C u Q O HV q0 q1 F;have mA:=H.size;obtain⟨⟨x0,x1⟩,⟨x2,x3⟩⟩:=N.out;have x:=AC E (.cells #[.int .i64 (f k),.int .i64 (g k)] 38);have B:=Aa (R.out.A0 x);have A:=Aa (P.out.A0 x);have r:=A7 H x;have nA:(E.alloc (.cells #[.int .i64 (f k),.int .i64 (g k)] 38)).heap.size=E.heap.size+1:=World.size_alloc _ _;have HN:=Aa (World.news_of_block (heap_alloc_last E (.cells #[.int .i64 (f k),.int .i64 (g k)] 38)));clear x;by_cases l:t<g k
   ·obtain rfl:s=true:=hs.2 l;have U:Bj f g t (k+1)=Bj f g t k ++ [(f k,g k)]:=if_pos l;have S:C5 f g t (k+1)=C5 f g t k:=if_pos l;clear hs l;go_wp2_with (first
     | (at_builtin;refine wpList_append_lies _ rfl _ _ 39 rfl w.heap.size 38 i0 (.agg #[.int .i64 0,.int .i64 0]) 2 16 (by kernel_rfl) y.out.1 y.out.2.1 y.out.2.2.1 y.out.2.2.2 rfl (by decide) _ _ _ rfl B.out ⟨E.heap.size,0,none⟩ 1 1 [.int .i64 (f k),.int .i64 (g k)] rfl rfl HN.out (by simp[Value.oneCell']) (by decide) (by unfold maxLen;omega) (by omega) (by omega) _ rfl ?_;intro g' G w4 j d m K)
     | go_in)
    go_roundw
    case rel=>
     obtain⟨r1,Z,r3⟩:=Km A.out z.out j d m;exact⟨k+1,by omega,by go_num,by rw[U];exact r1,by rw[S];exact Z,r3,r.grown d r.size (fun q l=>(B.out.lt l).1)⟩
    case measure=>simp[intOf];omega
   ·obtain rfl:s=false:=BR hs l;have U:Bj f g t (k+1)=Bj f g t k:=if_neg l;have S:C5 f g t (k+1)=C5 f g t k ++ [(f k,g k)]:=if_neg l;clear hs l;go_wp2_with (first
     | (at_builtin;refine wpList_append_lies _ rfl _ _ 39 rfl w.heap.size 38 i0 (.agg #[.int .i64 0,.int .i64 0]) 2 16 (by kernel_rfl) y.out.1 y.out.2.1 y.out.2.2.1 y.out.2.2.2 rfl (by decide) _ _ _ rfl A.out ⟨E.heap.size,0,none⟩ 1 1 [.int .i64 (f k),.int .i64 (g k)] rfl rfl HN.out (by simp[Value.oneCell']) (by decide) (by unfold maxLen;omega) (by omega) (by omega) _ rfl ?_;intro g' G w4 j d m K)
     | go_in)
    go_roundw
    case rel=>
     obtain⟨r1,Z,r3⟩:=Km B.out (fun q h V=>z.out q V h) j d m;exact⟨k+1,by omega,by go_num,by rw[U];exact Z,by rw[S];exact r1,fun q h V=>r3 q V h,r.grown d r.size (fun q l=>(A.out.lt l).1)⟩
    case measure=>simp[intOf];omega
  ·obtain rfl:k=n:=(by omega);go_wp2
   go_ret2
   exact⟨_,_,rfl,Q.out,O.out,z.out,X⟩
def zID(n:Nat)(f g:Nat->Int)(t:Int)(l:List (Int×Int)):Prop:=(Cc n f g/\F4 t->l=Bj f g t n)/\(¬(Cc n f g/\F4 t)->l = [])
def zIC(n:Nat)(f g:Nat->Int)(t:Int)(l:List (Int×Int)):Prop:=(Cc n f g/\F4 t->l=C5 f g t n)/\(¬(Cc n f g/\F4 t)->l = [])
def zGO(n:Nat)(f g:Nat->Int)(t:Int)(w:World)(e:Ending)(w':World):Prop:=∃vy vo l l',e = .returned (.agg #[vy,vo])/\zID n f g t l/\zIC n f g t l'/\Ik l l' w w' vy vo
theorem Rq(v:Value)(n lo hi:Nat)(f g:Nat->Int)(t:Int)(w:World)(F:BI w lo hi v n f g) :
 Calls Tryz.prog 112 #[v,.int .i64 t] w (zGO n f g t w):=by
 have B:=Aa F;obtain⟨X,a,c,rfl,Y,_⟩:=id F;clear F;have N:∀(fn:Fn) (first cap:Array Value) (w:World),(Instr.makeFunc fn first cap).run Tryz.prog w = .ok (.func fn first cap) w:=fun _ _ _ _=>rfl
 have K:=AC w (.cells #[.int .i64 t] 2);have y:=AC (w.alloc (.cells #[.int .i64 t] 2)) (.cells #[.slice none 0 0,.slice none 0 0] 164);have k:=A7 K y;have r:=Aa (show AN ((w.alloc (.cells #[.int .i64 t] 2)).alloc (.cells #[.slice none 0 0,.slice none 0 0] 164)) w.heap.size 0 (.int .i64 t)from AN.A0 ⟨by rw[World.cell?_alloc_at _ _ _ _ rfl];rfl,World.frozen?_alloc_at _ _ _ _ rfl⟩ y);have m:=Aa (Ac.new (w.alloc (.cells #[.int .i64 t] 2)) (.slice none 0 0) (.slice none 0 0) 164);rw[World.size_alloc]at m;clear K y;by_cases C:Cc n f g
 ·have o:=Aa C;clear C;by_cases u:F4 t
  ·have x:=Aa u;clear u;go_enter Tryz.func112,Tryz.ntmps112;go_wp2_with fail;generalize (w.alloc (.cells #[.int .i64 t] 2)).alloc (.cells #[.slice none 0 0,.slice none 0 0] 164)=W at r m k ⊢;refine(JA _ n lo hi f g _ (B.out.A0 k)).mono ?_;rintro e L ⟨⟨s,rfl,hs⟩,b⟩;obtain rfl:s=true:=hs.2 o.out;have l:=Aa (r.out.A0 b);have j:=Aa (m.out.A0 b);have d:=A7 k b;clear hs b k r m;obtain⟨I,J⟩:=l.out;go_wp2_with (first
    | (go_at_call 154;refine(ZI t _).mono ?_;rintro e M ⟨⟨s,rfl,hs⟩,rfl⟩;obtain rfl:s=true:=hs.2 x.out;clear hs)
    | fail)
   go_wp2_with fail;refine(zFg _ n lo hi w.heap.size f g t _ (B.out.A0 d) o.out.1 l.out.1).mono ?_;rintro e w3 ⟨vy,Z,rfl,i⟩;have z:=i.2.2.2;have H:=Bh i.1;have A:=Bh i.2.1;obtain⟨U,V,rfl,_⟩:=H;obtain⟨O,P,rfl,_⟩:=A;have E:=Aa (j.out.A0 z);have D:=Aa i;have p:w.heap.size+1<M.heap.size:=j.out.1.lt;have G:=A7 d z;clear i z I J l j;obtain⟨⟨I,J⟩,⟨x2,x3⟩⟩:=E.out;go_wp2;refine bodyPost_ret (v:=.agg #[.slice U (Bj f g t n).length V,.slice O (C5 f g t n).length P]) (by simp[results,Tryz.results112,go_sem, *]) rfl ?_;refine⟨_,_,Bj f g t n,C5 f g t n,rfl,⟨fun _=>rfl,fun h=>absurd ⟨o.out,x.out⟩ h⟩,⟨fun _=>rfl,fun h=>absurd ⟨o.out,x.out⟩ h⟩,?_,?_,D.out.2.2.1,(G.setCell (by show w.heap.size<=w.heap.size+1;omega) _).setCell (by show w.heap.size<=w.heap.size+1;omega) _⟩
   ·exact(((At.put D.out.1 p _).put p _)).mono d.size
   ·exact(((At.put D.out.2.1 p _).put p _)).mono d.size
  ·have x:=Aa u;clear u;go_enter Tryz.func112,Tryz.ntmps112;go_wp2_with fail;generalize (w.alloc (.cells #[.int .i64 t] 2)).alloc (.cells #[.slice none 0 0,.slice none 0 0] 164)=W at r m k ⊢;refine(JA _ n lo hi f g _ (B.out.A0 k)).mono ?_;rintro e L ⟨⟨s,rfl,hs⟩,b⟩;obtain rfl:s=true:=hs.2 o.out;have l:=Aa (r.out.A0 b);have j:=Aa (m.out.A0 b);have d:=A7 k b;clear hs b k r m;obtain⟨I,J⟩:=l.out;obtain⟨⟨Q,R⟩,⟨S,T⟩⟩:=j.out;go_wp2_with (first
    | (go_at_call 154;refine(ZI t _).mono ?_;rintro e M ⟨⟨s,rfl,hs⟩,rfl⟩;obtain rfl:s=false:=BR hs x.out;clear hs)
    | fail)
   go_wp2;refine bodyPost_ret (v:=.agg #[.slice none 0 0,.slice none 0 0]) (by simp[results,Tryz.results112,go_sem, *]) rfl ?_;exact⟨_,_,[],[],rfl,⟨fun h=>absurd h.2 x.out,fun _=>rfl⟩,⟨fun h=>absurd h.2 x.out,fun _=>rfl⟩,At.nil _ _,At.nil _ _,fun q u=>by simp[Value.ownBlock]at u,(d.setCell (by show w.heap.size<=w.heap.size+1;omega) _).setCell (by show w.heap.size<=w.heap.size+1;omega) _⟩
 ·have o:=Aa C;clear C;go_enter Tryz.func112,Tryz.ntmps112;go_wp2_with fail;generalize (w.alloc (.cells #[.int .i64 t] 2)).alloc (.cells #[.slice none 0 0,.slice none 0 0] 164)=W at r m k ⊢;refine(JA _ n lo hi f g _ (B.out.A0 k)).mono ?_;rintro e L ⟨⟨s,rfl,hs⟩,b⟩;obtain rfl:s=false:=BR hs o.out;have j:=Aa (m.out.A0 b);have d:=A7 k b;clear hs b k r m;obtain⟨⟨Q,R⟩,⟨S,T⟩⟩:=j.out;go_wp2;refine bodyPost_ret (v:=.agg #[.slice none 0 0,.slice none 0 0]) (by simp[results,Tryz.results112,go_sem, *]) rfl ?_;exact⟨_,_,[],[],rfl,⟨fun h=>absurd h.1 o.out,fun _=>rfl⟩,⟨fun h=>absurd h.1 o.out,fun _=>rfl⟩,At.nil _ _,At.nil _ _,fun q u=>by simp[Value.ownBlock]at u,(d.setCell (by show w.heap.size<=w.heap.size+1;omega) _).setCell (by show w.heap.size<=w.heap.size+1;omega) _⟩
variable{m:List (Int×Int)}
theorem VU{k:Nat}(a:k<l.length)(h:(AK l k,AM l k)∈m):Cl (l.take (k+1)) m=Cl (l.take k) m ++ [(AK l k,AM l k)]:=by
 unfold AK AM at h ⊢;rw[Cz a]at h ⊢;unfold Cl;rw[List.take_succ_eq_append_getElem a,List.filter_append,List.filter_cons];simp only[List.filter_nil];rw[if_pos (by simp;exact h)]
theorem Tx{k:Nat}(a:k<l.length)(h:(AK l k,AM l k)∉m):Cl (l.take (k+1)) m=Cl (l.take k) m:=by
 unfold AK AM at h;rw[Cz a]at h;unfold Cl;rw[List.take_succ_eq_append_getElem a,List.filter_append,List.filter_cons];simp only[List.filter_nil];rw[if_neg (by simp;exact h),List.append_nil]
theorem VT(l m:List (Int×Int))(k:Nat):(Cl (l.take k) m).length<=k/\(BX (l.take k) m).length<=k:=by
 refine⟨?_,V1 l m k⟩;unfold Cl;exact Nat.le_trans (List.length_filter_le _ _) (by rw[List.length_take];omega)
theorem zCp(v v2:Value)(lo hi O M T:Nat)(l m:List (Int×Int))(w:World)(h1:BI w lo hi v l.length (AK l) (AM l))(hn:l.length<=200)(h2:BI w O M v2 m.length (AK m) (AM m))(hT:w.cell? ⟨T,0,none⟩=some v2) :
 Calls Tryz.prog 155 #[v,.func (.func 177) #[] #[.pointer (some ⟨T,0,none⟩)]] w fun e w'=>∃S R,e = .returned (.tuple #[S,R])/\Ik (Cl l m) (BX l m) w w' S R:=by
 have Hp:=Aa h1;have HT:=Aa hT;have U:=Aa h2;obtain⟨m1,a,c,rfl,mc,_⟩:=id h1;clear h1 hT h2;unfold maxLen at m1;obtain⟨i0,L,E⟩:=Option.map_eq_some_iff.1 Nr;simp only[Prod.mk.injEq]at E;have y:=Aa (And.intro L E);clear L E;go_enter Tryz.func155,Tryz.ntmps155;go_wp2
 go_loopw [6,7,12] (fun S R i wr=>∃k:Nat,k<=l.length/\i = .int .i64 k/\Ik (Cl (l.take k) m) (BX (l.take k) m) w wr S R) (fun _ _ i _=>l.length - (intOf i).toNat)
 case atStart=>exact⟨0,Nat.zero_le _,rfl,At.nil _ _,At.nil _ _,fun q g=>by simp[Value.ownBlock]at g,Below.refl _ _⟩
 case round=>
  obtain⟨k,hk,rfl,hy,ho,K,hb⟩:=hrel;have Q:=Aa hy;have P:=Aa ho;have z:=Aa K;have mA:=VT l m k;clear hy ho K;by_cases o:k<l.length
  ·have nA:(k:Int)<(l.length:Int):=(by omega);obtain⟨b,off,rfl,q0,q1⟩:=(Hp.out.A0 hb).cellsD o;have u:=AC wr (.cells #[.int .i64 (AK l k),.int .i64 (AM l k)] 38);have HV:=Aa (Ac.new wr (.int .i64 (AK l k)) (.int .i64 (AM l k)) 38);have r:=A7 hb u;have H:=Aa ((r.cell (p:=⟨T,0,none⟩) (AZ HT.out)).trans HT.out);have G:=Aa (U.out.A0 r);have vA:∀(fn:Fn) (first cap:Array Value) (w:World),(Instr.makeFunc fn first cap).run Tryz.prog w = .ok (.func fn first cap) w:=fun _ _ _ _=>rfl
   go_wp2_with fail;refine(zBi v2 m.length O M (AK m) (AM m) (AK l k) (AM l k) T _ G.out H.out).mono ?_;rintro e F ⟨⟨s,rfl,hs⟩,n⟩;have X:=Aa ((Q.out.A0 u).A0 n);have W:=Aa ((P.out.A0 u).A0 n);have V:=Aa (HV.out.A0 n);have J:=A7 r n;clear n r u Q P HV q0 q1 H G;have aB:=J.size;obtain⟨⟨x0,x1⟩,⟨x2,x3⟩⟩:=V.out;have x:=AC F (.cells #[.int .i64 (AK l k),.int .i64 (AM l k)] 38);have B:=Aa (X.out.A0 x);have A:=Aa (W.out.A0 x);have t:=A7 J x;have bB:(F.alloc (.cells #[.int .i64 (AK l k),.int .i64 (AM l k)] 38)).heap.size=F.heap.size+1:=World.size_alloc _ _;have HN:=Aa (World.news_of_block (heap_alloc_last F (.cells #[.int .i64 (AK l k),.int .i64 (AM l k)] 38)));clear x;by_cases g:(AK l k,AM l k)∈m
   ·obtain rfl:s=true:=hs.2 (IC.2 g);have Z:=Aa (VU o g);have Y:=Aa (Q3 o g);clear hs g;go_wp2_with (first
     | (at_builtin;refine wpList_append_lies _ rfl _ _ 39 rfl w.heap.size 38 i0 (.agg #[.int .i64 0,.int .i64 0]) 2 16 (by kernel_rfl) y.out.1 y.out.2.1 y.out.2.2.1 y.out.2.2.2 rfl (by decide) _ _ _ rfl B.out ⟨F.heap.size,0,none⟩ 1 1 [.int .i64 (AK l k),.int .i64 (AM l k)] rfl rfl HN.out (by simp[Value.oneCell']) (by decide) (by unfold maxLen;omega) (by omega) (by omega) _ rfl ?_;intro g' I w4 f d j N)
     | go_in)
    go_roundw
    case rel=>
     obtain⟨r1,r2,r3⟩:=Km A.out z.out f d j;exact⟨k+1,by omega,by go_num,by rw[Z.out];exact r1,by rw[Y.out];exact r2,r3,t.grown d t.size (fun q g=>(B.out.lt g).1)⟩
    case measure=>simp[intOf];omega
   ·obtain rfl:s=false:=BR hs (fun h=>g (IC.1 h));have Z:=Aa (Tx o g);have Y:=Aa (QU o g);clear hs g;go_wp2_with (first
     | (at_builtin;refine wpList_append_lies _ rfl _ _ 39 rfl w.heap.size 38 i0 (.agg #[.int .i64 0,.int .i64 0]) 2 16 (by kernel_rfl) y.out.1 y.out.2.1 y.out.2.2.1 y.out.2.2.2 rfl (by decide) _ _ _ rfl A.out ⟨F.heap.size,0,none⟩ 1 1 [.int .i64 (AK l k),.int .i64 (AM l k)] rfl rfl HN.out (by simp[Value.oneCell']) (by decide) (by unfold maxLen;omega) (by omega) (by omega) _ rfl ?_;intro g' I w4 f d j N)
     | go_in)
    go_roundw
    case rel=>
     obtain⟨r1,r2,r3⟩:=Km B.out (fun q h h'=>z.out q h' h) f d j;exact⟨k+1,by omega,by go_num,by rw[Z.out];exact r2,by rw[Y.out];exact r1,fun q h h'=>r3 q h' h,t.grown d t.size (fun q g=>(A.out.lt g).1)⟩
    case measure=>simp[intOf];omega
  ·obtain rfl:k=l.length:=(by omega);have D:=Q.out;have C:=P.out;rw[List.take_length]at D C;have HY:=Aa D;have HO:=Aa C;clear D C Q P;go_wp2
   go_ret2
   exact⟨_,_,rfl,HY.out,HO.out,z.out,hb⟩
theorem zCK(v v2:Value)(lo hi O M T:Nat)(l m:List (Int×Int))(w:World)(h1:BI w lo hi v l.length (AK l) (AM l))(hn:l.length<=200)(h2:BI w O M v2 m.length (AK m) (AM m))(hT:w.cell? ⟨T,0,none⟩=some v2) :
 Calls Tryz.prog 155 #[v,.func (.func 179) #[] #[.pointer (some ⟨T,0,none⟩)]] w fun e w'=>∃S R,e = .returned (.tuple #[S,R])/\Ik (Cl l m) (BX l m) w w' S R:=by
 have Hp:=Aa h1;have HT:=Aa hT;have U:=Aa h2;obtain⟨m1,a,c,rfl,mc,_⟩:=id h1;clear h1 hT h2;unfold maxLen at m1;obtain⟨i0,L,E⟩:=Option.map_eq_some_iff.1 Nr;simp only[Prod.mk.injEq]at E;have y:=Aa (And.intro L E);clear L E;go_enter Tryz.func155,Tryz.ntmps155;go_wp2
 go_loopw [6,7,12] (fun S R i wr=>∃k:Nat,k<=l.length/\i = .int .i64 k/\Ik (Cl (l.take k) m) (BX (l.take k) m) w wr S R) (fun _ _ i _=>l.length - (intOf i).toNat)
 case atStart=>exact⟨0,Nat.zero_le _,rfl,At.nil _ _,At.nil _ _,fun q g=>by simp[Value.ownBlock]at g,Below.refl _ _⟩
 case round=>
  obtain⟨k,hk,rfl,hy,ho,K,hb⟩:=hrel;have Q:=Aa hy;have P:=Aa ho;have z:=Aa K;have mA:=VT l m k;clear hy ho K;by_cases o:k<l.length
  ·have nA:(k:Int)<(l.length:Int):=(by omega);obtain⟨b,off,rfl,q0,q1⟩:=(Hp.out.A0 hb).cellsD o;have u:=AC wr (.cells #[.int .i64 (AK l k),.int .i64 (AM l k)] 38);have HV:=Aa (Ac.new wr (.int .i64 (AK l k)) (.int .i64 (AM l k)) 38);have r:=A7 hb u;have H:=Aa ((r.cell (p:=⟨T,0,none⟩) (AZ HT.out)).trans HT.out);have G:=Aa (U.out.A0 r);have vA:∀(fn:Fn) (first cap:Array Value) (w:World),(Instr.makeFunc fn first cap).run Tryz.prog w = .ok (.func fn first cap) w:=fun _ _ _ _=>rfl
   go_wp2_with fail;refine(zB3 v2 m.length O M (AK m) (AM m) (AK l k) (AM l k) T _ G.out H.out).mono ?_;rintro e F ⟨⟨s,rfl,hs⟩,n⟩;have X:=Aa ((Q.out.A0 u).A0 n);have W:=Aa ((P.out.A0 u).A0 n);have V:=Aa (HV.out.A0 n);have J:=A7 r n;clear n r u Q P HV q0 q1 H G;have aB:=J.size;obtain⟨⟨x0,x1⟩,⟨x2,x3⟩⟩:=V.out;have x:=AC F (.cells #[.int .i64 (AK l k),.int .i64 (AM l k)] 38);have B:=Aa (X.out.A0 x);have A:=Aa (W.out.A0 x);have t:=A7 J x;have bB:(F.alloc (.cells #[.int .i64 (AK l k),.int .i64 (AM l k)] 38)).heap.size=F.heap.size+1:=World.size_alloc _ _;have HN:=Aa (World.news_of_block (heap_alloc_last F (.cells #[.int .i64 (AK l k),.int .i64 (AM l k)] 38)));clear x;by_cases g:(AK l k,AM l k)∈m
   ·obtain rfl:s=true:=hs.2 (IC.2 g);have Z:=Aa (VU o g);have Y:=Aa (Q3 o g);clear hs g;go_wp2_with (first
     | (at_builtin;refine wpList_append_lies _ rfl _ _ 39 rfl w.heap.size 38 i0 (.agg #[.int .i64 0,.int .i64 0]) 2 16 (by kernel_rfl) y.out.1 y.out.2.1 y.out.2.2.1 y.out.2.2.2 rfl (by decide) _ _ _ rfl B.out ⟨F.heap.size,0,none⟩ 1 1 [.int .i64 (AK l k),.int .i64 (AM l k)] rfl rfl HN.out (by simp[Value.oneCell']) (by decide) (by unfold maxLen;omega) (by omega) (by omega) _ rfl ?_;intro g' I w4 f d j N)
     | go_in)
    go_roundw
    case rel=>
     obtain⟨r1,r2,r3⟩:=Km A.out z.out f d j;exact⟨k+1,by omega,by go_num,by rw[Z.out];exact r1,by rw[Y.out];exact r2,r3,t.grown d t.size (fun q g=>(B.out.lt g).1)⟩
    case measure=>simp[intOf];omega
   ·obtain rfl:s=false:=BR hs (fun h=>g (IC.1 h));have Z:=Aa (Tx o g);have Y:=Aa (QU o g);clear hs g;go_wp2_with (first
     | (at_builtin;refine wpList_append_lies _ rfl _ _ 39 rfl w.heap.size 38 i0 (.agg #[.int .i64 0,.int .i64 0]) 2 16 (by kernel_rfl) y.out.1 y.out.2.1 y.out.2.2.1 y.out.2.2.2 rfl (by decide) _ _ _ rfl A.out ⟨F.heap.size,0,none⟩ 1 1 [.int .i64 (AK l k),.int .i64 (AM l k)] rfl rfl HN.out (by simp[Value.oneCell']) (by decide) (by unfold maxLen;omega) (by omega) (by omega) _ rfl ?_;intro g' I w4 f d j N)
     | go_in)
    go_roundw
    case rel=>
     obtain⟨r1,r2,r3⟩:=Km B.out (fun q h h'=>z.out q h' h) f d j;exact⟨k+1,by omega,by go_num,by rw[Z.out];exact r2,by rw[Y.out];exact r1,fun q h h'=>r3 q h' h,t.grown d t.size (fun q g=>(A.out.lt g).1)⟩
    case measure=>simp[intOf];omega
  ·obtain rfl:k=l.length:=(by omega);have D:=Q.out;have C:=P.out;rw[List.take_length]at D C;have HY:=Aa D;have HO:=Aa C;clear D C Q P;go_wp2
   go_ret2
   exact⟨_,_,rfl,HY.out,HO.out,z.out,hb⟩
theorem Zb(v Y:Value)(n lo hi y lo' hi':Nat)(f g f' g':Nat->Int)(w:World)(R:BI w lo hi v n f g)(S:BI w lo' hi' Y y f' g') :
 Calls Tryz.prog 180 #[v,Y] w fun e w'=>AL (FO n f g y f' g') e/\Below w.heap.size w w':=by
 have O:=Aa R;have F:=Aa S;obtain⟨m1,a,c,rfl,mc,_⟩:=id R;obtain⟨m2,a',c',rfl,iA,_⟩:=id S;unfold maxLen at m1 m2;clear R S;by_cases Q:Cc n f g
 ·have x:=Aa Q;clear Q;by_cases z:Cc y f' g'
  ·have l:=Aa z;clear z;go_enter Tryz.func180,Tryz.ntmps180;go_wp2_with fail;refine(JA _ n lo hi f g _ O.out).mono ?_;rintro e Z ⟨⟨t,rfl,q⟩,d⟩;obtain rfl:t=true:=q.2 x.out;clear q;go_wp2_with fail;refine(JA _ y lo' hi' f' g' _ (F.out.A0 d)).mono ?_;rintro e H ⟨⟨t,rfl,q⟩,s⟩;obtain rfl:t=true:=q.2 l.out;have r:=A7 d s;clear q d s;go_wp2_with fail;refine(ZG _ n lo hi f g _ (O.out.A0 r) x.out.1 x.out.2.1).mono ?_;rintro e w3 ⟨rfl,X,M⟩;have V:=Aa X;have K:=A7 r M;have hz:w.heap.size<=H.heap.size:=r.size;clear X M r;go_wp2
   go_loopw [20] (fun i wr=>∃(k:Nat) (D:DataW Unit),k<=y/\i = .int .i64 k/\S5 wr H.heap.size n D/\Ew n f g f' k D/\(∀j,j<k->PIn n f g (f' j) (g' j))/\Below w.heap.size w wr) (fun i _=>y - (intOf i).toNat)
   case atStart=>exact⟨0,_,Nat.zero_le _,rfl,V.out,Ew.start x.out f',fun j T=>absurd T (Nat.not_lt_zero _),K⟩
   case round=>
    obtain⟨k,D,hk,rfl,E,u,N,P⟩:=hrel;have p:=Aa E;have m:=Aa u;have J:=Aa N;clear E u N V K;by_cases o:k<y
    ·have W:(k:Int)<(y:Int):=(by omega);obtain⟨b,off,rfl,q0,q1⟩:=(F.out.A0 P).cellsD o;have C:keyOf Tryz.prog 2 (.int .i64 (f' k))=some (Cj (f' k)):=keyOf_int_mk PB (QD (l.out.2.1 k o).1 (by have:=(l.out.2.1 k o).2.1;omega));have B:=Aa C;clear C;have d:=P.alloc P.size (.cells #[.int .i64 (f' k),.int .i64 (g' k)] 38);have eA:H.heap.size<=wr.heap.size:=Nat.le_of_lt p.out.lt;go_wp2_with (first
      | (at_lookup;refine wpList_lookup_own_int _ rfl _ _ 214 rfl 2 2 .i64 SQ Mg PB (zIq _) H.heap.size n D rfl (p.out.alloc _) _ _ rfl B.out ?_;intro c0 L cA)
      | (at_delete;refine wpList_delete_own _ rfl _ _ 214 2 rfl 2 SQ Mg _ H.heap.size n D rfl (p.out.alloc _) _ _ rfl B.out ?_;intro w4 G A)
      | go_in)
     ·have U:c0≠g' k:=by
       have h:(c0 != g' k)=true:=(by assumption);simpa using h
      go_ret;exact⟨AL.no (m.out.no x.out l.out o (show D.atKey (Cj (f' k)) (Do 0)=Do c0 from L) U),d⟩
     ·have he:c0=g' k:=by
       have h:(c0 != g' k)=false:=(by assumption);simpa using h
      subst he;have I:D.atKey (Cj (f' k)) (Do 0)=Do (g' k):=L;go_roundw
      case rel=>exact⟨k+1,_,by omega,by go_num,G,m.out.next l.out o I,Bu o J.out (m.out.in l.out o I),d.grown A.grown d.size (fun j T=>by cases T;exact hz)⟩
      case measure=>simp[intOf];omega
    ·obtain rfl:k=y:=(by omega);go_wp2_with (first
      | (at_len;refine wpList_len_own _ rfl _ 214 rfl 2 2 Mg _ H.heap.size n D rfl p.out ?_)
      | go_in)
     go_ret;refine⟨⟨_,rfl,?_⟩,P⟩;have He:=m.out.end x.out l.out J.out;rw[<-He];simp
  ·have l:=Aa z;clear z;go_enter Tryz.func180,Tryz.ntmps180;go_wp2_with fail;refine(JA _ n lo hi f g _ O.out).mono ?_;rintro e Z ⟨⟨t,rfl,q⟩,d⟩;obtain rfl:t=true:=q.2 x.out;clear q;go_wp2_with fail;refine(JA _ y lo' hi' f' g' _ (F.out.A0 d)).mono ?_;rintro e H ⟨⟨t,rfl,q⟩,s⟩;obtain rfl:t=false:=BR q l.out;have r:=A7 d s;clear q d s;go_wp2;go_ret;exact⟨AL.no fun h=>l.out h.2.1,r⟩
 ·have x:=Aa Q;clear Q;go_enter Tryz.func180,Tryz.ntmps180;go_wp2_with fail;refine(JA _ n lo hi f g _ O.out).mono ?_;rintro e Z ⟨⟨t,rfl,q⟩,d⟩;obtain rfl:t=false:=BR q x.out;clear q;go_wp2;go_ret;exact⟨AL.no fun h=>x.out h.1,d⟩
abbrev zIx(vd:Value)(m:Dd):Value:=.agg #[.int .i64 m.A6,.int .i64 m.time,.int .i64 m.rs,.int .i64 m.rb,vd]
theorem At.putNe{w:World}{base b:Nat}{v:Value}(h:At w base v l)(i:v.ownBlock≠some b)(o:Nat)(u:Value):At (w.setCell ⟨b,o,none⟩ u) base v l:=by
 refine⟨h.1,h.2.imp id ?_⟩;rintro⟨g,cap,a,e,c,d,f⟩;subst e;exact⟨g,cap,a,rfl,c,(Below.heap_setCell _ _ _ _ (fun e=>i (by simp[Value.ownBlock];exact e))).trans d,f⟩
def K4(W:A4)(m:Dd)(S:Ae):Prop:=m.rb<=m.time/\Dy (E5 (AF W.pool m.rs m.rb) S.time).length (AK (E5 (AF W.pool m.rs m.rb) S.time)) (AM (E5 (AF W.pool m.rs m.rb) S.time)) (BX (AF W.pool m.rs m.rb) (AF W.pool S.rs S.rb))/\Dy m.dn m.ds m.db (BX (AF W.pool S.rs S.rb) (Cl (AF W.pool m.rs m.rb) (AF W.pool S.rs S.rb)))
theorem zGu(W:A4)(m:Dd)(S:Ae):K4 W m S↔(m.rb<=m.time/\FO (E5 (AF W.pool m.rs m.rb) S.time).length (AK (E5 (AF W.pool m.rs m.rb) S.time)) (AM (E5 (AF W.pool m.rs m.rb) S.time)) (BX (AF W.pool m.rs m.rb) (AF W.pool S.rs S.rb)).length (AK (BX (AF W.pool m.rs m.rb) (AF W.pool S.rs S.rb))) (AM (BX (AF W.pool m.rs m.rb) (AF W.pool S.rs S.rb)))/\FO m.dn m.ds m.db (BX (AF W.pool S.rs S.rb) (Cl (AF W.pool m.rs m.rb) (AF W.pool S.rs S.rb))).length (AK (BX (AF W.pool S.rs S.rb) (Cl (AF W.pool m.rs m.rb) (AF W.pool S.rs S.rb)))) (AM (BX (AF W.pool S.rs S.rb) (Cl (AF W.pool m.rs m.rb) (AF W.pool S.rs S.rb))))):=Iff.rfl
theorem Xo(l:List (Int×Int))(t:Int):∀k,k<=l.length->Bj (AK l) (AM l) t k=E5 (l.take k) t
 | 0,_=>by simp[Bj,E5]
 | k+1,hk=>by
  have a:k<l.length:=(by omega);unfold Bj;rw[Xo l t k (by omega)];unfold E5;rw[List.take_succ_eq_append_getElem a,List.filter_append,List.filter_cons];simp only[List.filter_nil];unfold AK AM;rw[Cz a];by_cases h:t<(l[k]).2
  ·rw[if_pos h,if_pos (by simpa using h)]
  ·rw[if_neg h,if_neg (by simpa using h),List.append_nil]
theorem QG(l:List (Int×Int))(t:Int):Bj (AK l) (AM l) t l.length=E5 l t:=by
 rw[Xo l t _ (Nat.le_refl _),List.take_length]
theorem YR(v a:Value)(w:World):(Instr.field 164 (.agg #[v,a]) 0).run Tryz.prog w = .ok v w:=by kernel_rfl
theorem zDH(Z v1 v2 v3:Value)(lo hi:Nat)(W:A4)(m:Dd)(S:Ae)(ad sa:Option Addr)(cd sc:Nat)(w:World)(h:CE w lo hi Z v1 v2 v3 W)(hR:AY W.pool)(rC:Ay W.pool m.rs m.rb)(pC:Ay W.pool S.rs S.rb)(hD:BI w lo hi (.slice ad m.dn cd) m.dn m.ds m.db)(ht:F4 S.time) :
 Calls Tryz.prog 145 #[Cn Z v1 v2 v3 W,zIx (.slice ad m.dn cd) m,DE (.slice sa S.dn sc) S] w fun e w'=>AL (K4 W m S) e/\Below w.heap.size w w':=by
 unfold DE;have Hp:=A3 h;have HR:=A3 hR;have fA:=A3 rC;have oA:=A3 pC;have jD:=A3 hD;have oD:=A3 ht;clear h hR rC pC hD ht;have vC:∀Wa Wb Wc:World,Wa=w.alloc (.cells #[Z,v1,.int .i64 W.time,.int .i64 W.next,v2,v3] 30)->Wb=Wa.alloc (.cells #[.int .i64 m.A6,.int .i64 m.time,.int .i64 m.rs,.int .i64 m.rb,.slice ad m.dn cd] 186)->Wc=Wb.alloc (.cells #[.int .i64 S.id,.string S.name,.string S.set,.int .i64 S.A6,.int .i64 S.time,.int .i64 S.rs,.int .i64 S.rb,.slice sa S.dn sc] 83)->As Wc w.heap.size Z v1 (.int .i64 W.time) (.int .i64 W.next) v2 v3/\Fz Wc (w.heap.size+1) (.int .i64 m.A6) (.int .i64 m.time) (.int .i64 m.rs) (.int .i64 m.rb) (.slice ad m.dn cd)/\Dc Wc (w.heap.size+2) (.int .i64 S.id) (.string S.name) (.string S.set) (.int .i64 S.A6) (.int .i64 S.time) (.int .i64 S.rs) (.int .i64 S.rb) (.slice sa S.dn sc)/\Below w.heap.size w Wc:=by
  rintro Wa Wb Wc ea eb ec;have ha:=AC w (.cells #[Z,v1,.int .i64 W.time,.int .i64 W.next,v2,v3] 30);have h1:=As.new w Z v1 (.int .i64 W.time) (.int .i64 W.next) v2 v3 30;have z1:Wa.heap.size=w.heap.size+1:=(by rw[ea];exact World.size_alloc _ _);rw[<-ea]at ha h1;have hb:=AC Wa (.cells #[.int .i64 m.A6,.int .i64 m.time,.int .i64 m.rs,.int .i64 m.rb,.slice ad m.dn cd] 186);have h2:=Fz.new Wa (.int .i64 m.A6) (.int .i64 m.time) (.int .i64 m.rs) (.int .i64 m.rb) (.slice ad m.dn cd) 186;have z2:Wb.heap.size=w.heap.size+2:=(by rw[eb,World.size_alloc,z1]);rw[<-eb,z1]at h2;rw[<-eb]at hb;have hc:=AC Wb (.cells #[.int .i64 S.id,.string S.name,.string S.set,.int .i64 S.A6,.int .i64 S.time,.int .i64 S.rs,.int .i64 S.rb,.slice sa S.dn sc] 83);have h3:=Dc.new Wb (.int .i64 S.id) (.string S.name) (.string S.set) (.int .i64 S.A6) (.int .i64 S.time) (.int .i64 S.rs) (.int .i64 S.rb) (.slice sa S.dn sc) 83;rw[<-ec,z2]at h3;rw[<-ec]at hc;exact⟨(h1.A0 hb).A0 hc,h2.A0 hc,h3,A7 (A7 ha hb) hc⟩
 obtain⟨hx,hm,tC,B⟩:=vC _ _ _ rfl rfl rfl;have i:=A3 hx;have f:=A3 hm;have g:=A3 tC;clear hx hm tC vC;go_enter Tryz.func145,Tryz.ntmps145;go_wp2_with fail;generalize ((w.alloc (.cells #[Z,v1,.int .i64 W.time,.int .i64 W.next,v2,v3] 30)).alloc (.cells #[.int .i64 m.A6,.int .i64 m.time,.int .i64 m.rs,.int .i64 m.rb,.slice ad m.dn cd] 186)).alloc (.cells #[.int .i64 S.id,.string S.name,.string S.set,.int .i64 S.A6,.int .i64 S.time,.int .i64 S.rs,.int .i64 S.rb,.slice sa S.dn sc] 83)=b at i f g B ⊢;obtain⟨x0,x1,x2,x3,x4,x5⟩:=i.out.c;obtain⟨-,-,⟨y2,-⟩,⟨y3,-⟩,-⟩:=f.out;obtain⟨-,-,⟨z5,-⟩,⟨z6,-⟩,-⟩:=g.out
 refine' zF2 (fun hfin=>_) _
 rotate_left
 ·refine wp_region_held_drew (S:=(fun w'=>w'.cell? ⟨w.heap.size,0,none⟩=some Z/\w'.cell? ⟨w.heap.size,1,none⟩=some v1/\w'.cell? ⟨w.heap.size,2,none⟩=some (.int .i64 W.time)/\w'.cell? ⟨w.heap.size,3,none⟩=some (.int .i64 W.next)/\w'.cell? ⟨w.heap.size,4,none⟩=some v2/\w'.cell? ⟨w.heap.size,5,none⟩=some v3/\w'.cell? ⟨w.heap.size+1,2,none⟩=some (.int .i64 m.rs)/\w'.cell? ⟨w.heap.size+1,3,none⟩=some (.int .i64 m.rb)/\w'.cell? ⟨w.heap.size+2,5,none⟩=some (.int .i64 S.rs)/\w'.cell? ⟨w.heap.size+2,6,none⟩=some (.int .i64 S.rb))) (by kernel_rfl) ?_ (fun hHeld=>?_)
  ·(try dsimp only)
   go_keep
  have mB:Below b.heap.size b b.drew:=(Below.refl _ _).drew;have tD:b.drew.heap.size=b.heap.size:=rfl;refine tk 0 (h:=tk 1 (h:=tk 2 (h:=tk 4 (h:=tk 5 (h:=tk 6 (h:=?_))))));refine rd [3,8] (rc (fun K hK=>?_) (rc (fun K hK=>?_) .nil))
  ·go_simp;go_at_call 146;refine(L1 Z v1 v2 v3 lo hi W m.rs m.rb _ ?_ HR.out fA.out).mono ?_
   ·exact Hp.out.A0 (A7 B mB)
   rintro e D ⟨vt,rfl,y,C⟩;obtain⟨E,F,rfl,-⟩:=Bh y;have o:Below b.heap.size b D:=A7 mB C;obtain⟨⟨M,-⟩,⟨N,-⟩,⟨O,-⟩,⟨P,-⟩,⟨Q,-⟩,⟨R,-⟩⟩:=i.out.A0 o;obtain⟨-,-,⟨U,-⟩,⟨V,-⟩,-⟩:=f.out.A0 o;obtain⟨-,-,⟨X,-⟩,⟨Y,-⟩,-⟩:=g.out.A0 o
   (try go_wp2_with fail)
   refine hK.out _ _ (by(try dsimp only);go_keep) ?_;clear hK K hHeld;intro hHeld
   try simp only[Act.put,s1,s2,s3]
   refine rd [7,8] (rc (fun K hK=>?_) (rc (fun K hK=>?_) .nil))
   ·go_simp;go_at_call 146;refine(L1 Z v1 v2 v3 lo hi W S.rs S.rb _ ?_ HR.out oA.out).mono ?_
    ·exact Hp.out.A0 (A7 B o)
    rintro e A ⟨va,rfl,p,j⟩;obtain⟨s,cv,rfl,-⟩:=Bh p;have d:Below b.heap.size b A:=A7 o j;obtain⟨⟨M,-⟩,⟨N,-⟩,⟨O,-⟩,⟨P,-⟩,⟨Q,-⟩,⟨R,-⟩⟩:=i.out.A0 d;obtain⟨-,-,⟨U,-⟩,⟨V,-⟩,-⟩:=f.out.A0 d;obtain⟨-,-,⟨X,-⟩,⟨Y,-⟩,-⟩:=g.out.A0 d
    (try go_wp2_with fail)
    refine hK.out _ _ (by(try dsimp only);go_keep) ?_;clear hK K hHeld;intro hHeld
    try simp only[Act.put,s1,s2,s3]
    refine rd [8] (rc (fun K hK=>?_) .nil);go_simp;have G:=AC A (.cells #[.slice none 0 0] 39);have l:Below b.heap.size b (A.alloc (.cells #[.slice none 0 0] 39)):=A7 d G;have L:AN (A.alloc (.cells #[.slice none 0 0] 39)) A.heap.size 0 (.slice none 0 0):=Au (heap_alloc_new _ _) rfl;obtain⟨⟨M,-⟩,⟨N,-⟩,⟨O,-⟩,⟨P,-⟩,⟨Q,-⟩,⟨R,-⟩⟩:=i.out.A0 l;obtain⟨-,-,⟨U,-⟩,⟨V,-⟩,-⟩:=f.out.A0 l;obtain⟨-,-,⟨X,-⟩,⟨Y,-⟩,-⟩:=g.out.A0 l
    (try go_wp2_with fail)
    refine hK.out _ _ (by(try dsimp only);go_keep) ?_;clear hK K hHeld;intro hHeld
    try simp only[Act.put,s1,s2,s3]
    refine tk 9 (h:=?_);refine rd [10] (rc (fun K hK=>?_) .nil);go_simp;have I:=AC A (.cells #[.slice s (AF W.pool S.rs S.rb).length cv] 39);have a:Below b.heap.size b (A.alloc (.cells #[.slice s (AF W.pool S.rs S.rb).length cv] 39)):=A7 d I;obtain⟨⟨M,-⟩,⟨N,-⟩,⟨O,-⟩,⟨P,-⟩,⟨Q,-⟩,⟨R,-⟩⟩:=i.out.A0 a;obtain⟨-,-,⟨U,-⟩,⟨V,-⟩,-⟩:=f.out.A0 a;obtain⟨-,-,⟨X,-⟩,⟨Y,-⟩,-⟩:=g.out.A0 a
    (try go_wp2_with fail)
    refine hK.out _ _ (by(try dsimp only);go_keep) ?_;clear hK K hHeld;intro hHeld
    try simp only[Act.put,s1,s2,s3]
    refine wpAnyH_done (by kernel_rfl) ?_ _;have k:=A3 (show AN (A.alloc (.cells #[.slice s (AF W.pool S.rs S.rb).length cv] 39)) A.heap.size 0 (.slice s (AF W.pool S.rs S.rb).length cv)from Au (heap_alloc_new _ _) rfl);have r:=A3 (((y.A0 j).A0 I).mono (Nat.zero_le _));have q:=A3 ((p.A0 I).mono (Nat.zero_le _));clear G L l I;have z:=A3 (i.out.A0 a);have t:=A3 (f.out.A0 a);have u:=A3 (g.out.A0 a);have v:=A7 B a;clear a hHeld M N O P Q R U V X Y y p;generalize (A.alloc (.cells #[.slice s (AF W.pool S.rs S.rb).length cv] 39))=wz at k r q z t u v ⊢;generalize A.heap.size=T at k ⊢;revert k r q z t u v;revert T wz;revert E F s cv;exact hfin.out
   ·go_simp;have G:=AC D (.cells #[.slice none 0 0] 39);have d:Below b.heap.size b (D.alloc (.cells #[.slice none 0 0] 39)):=A7 o G;have L:AN (D.alloc (.cells #[.slice none 0 0] 39)) D.heap.size 0 (.slice none 0 0):=Au (heap_alloc_new _ _) rfl;obtain⟨⟨M,-⟩,⟨N,-⟩,⟨O,-⟩,⟨P,-⟩,⟨Q,-⟩,⟨R,-⟩⟩:=i.out.A0 d;obtain⟨-,-,⟨U,-⟩,⟨V,-⟩,-⟩:=f.out.A0 d;obtain⟨-,-,⟨X,-⟩,⟨Y,-⟩,-⟩:=g.out.A0 d
    (try go_wp2_with fail)
    refine hK.out _ _ (by(try dsimp only);go_keep) ?_;clear hK K hHeld;intro hHeld
    try simp only[Act.put,s1,s2,s3]
    refine rd [7] (rc (fun K hK=>?_) .nil);go_simp;go_at_call 146;refine(L1 Z v1 v2 v3 lo hi W S.rs S.rb _ ?_ HR.out oA.out).mono ?_
    ·exact Hp.out.A0 (A7 B d)
    rintro e A ⟨va,rfl,p,j⟩;obtain⟨s,cv,rfl,-⟩:=Bh p;have l:Below b.heap.size b A:=A7 d j;obtain⟨⟨M,-⟩,⟨N,-⟩,⟨O,-⟩,⟨P,-⟩,⟨Q,-⟩,⟨R,-⟩⟩:=i.out.A0 l;obtain⟨-,-,⟨U,-⟩,⟨V,-⟩,-⟩:=f.out.A0 l;obtain⟨-,-,⟨X,-⟩,⟨Y,-⟩,-⟩:=g.out.A0 l
    (try go_wp2_with fail)
    refine hK.out _ _ (by(try dsimp only);go_keep) ?_;clear hK K hHeld;intro hHeld
    try simp only[Act.put,s1,s2,s3]
    refine tk 9 (h:=?_);have nB:=L.A0 j;have kA:=(y.A0 G).A0 j;have aD:(D.alloc (.cells #[.slice none 0 0] 39)).heap.size=D.heap.size+1:=World.size_alloc _ _;have jA:Value.ownBlock (.slice E (AF W.pool m.rs m.rb).length F)≠some D.heap.size:=fun e=>by have:=(y.lt e).2;omega
    have iA:Value.ownBlock (.slice s (AF W.pool S.rs S.rb).length cv)≠some D.heap.size:=fun e=>by have:=(p.lt e).1;omega
    have bF:=o.size;obtain⟨sB,tB⟩:=nB;refine rd [10] (rc (fun K hK=>?_) .nil);go_simp;have a:Below b.heap.size b (A.setCell ⟨D.heap.size,0,none⟩ (.slice s (AF W.pool S.rs S.rb).length cv)):=l.setCell (show b.heap.size<=D.heap.size by omega) _;obtain⟨⟨M,-⟩,⟨N,-⟩,⟨O,-⟩,⟨P,-⟩,⟨Q,-⟩,⟨R,-⟩⟩:=i.out.A0 a;obtain⟨-,-,⟨U,-⟩,⟨V,-⟩,-⟩:=f.out.A0 a;obtain⟨-,-,⟨X,-⟩,⟨Y,-⟩,-⟩:=g.out.A0 a
    (try go_wp2_with fail)
    refine hK.out _ _ (by(try dsimp only);go_keep) ?_;clear hK K hHeld;intro hHeld
    try simp only[Act.put,s1,s2,s3]
    refine wpAnyH_done (by kernel_rfl) ?_ _;have k:=A3 (show AN (A.setCell ⟨D.heap.size,0,none⟩ (.slice s (AF W.pool S.rs S.rb).length cv)) D.heap.size 0 (.slice s (AF W.pool S.rs S.rb).length cv)from AN.set ⟨sB,tB⟩ _);have r:=A3 ((kA.putNe jA 0 (.slice s (AF W.pool S.rs S.rb).length cv)).mono (Nat.zero_le _));have q:=A3 ((p.putNe iA 0 (.slice s (AF W.pool S.rs S.rb).length cv)).mono (Nat.zero_le _));have z:=A3 (i.out.A0 a);have t:=A3 (f.out.A0 a);have u:=A3 (g.out.A0 a);have v:=A7 B a;clear a hHeld M N O P Q R U V X Y y p kA jA iA;generalize (A.setCell ⟨D.heap.size,0,none⟩ (.slice s (AF W.pool S.rs S.rb).length cv))=wz at k r q z t u v ⊢;generalize D.heap.size=T at k ⊢;revert k r q z t u v;revert T wz;revert E F s cv;exact hfin.out
  ·go_simp;have G:=AC b.drew (.cells #[.slice none 0 0] 39);have o:Below b.heap.size b (b.drew.alloc (.cells #[.slice none 0 0] 39)):=A7 mB G;have L:AN (b.drew.alloc (.cells #[.slice none 0 0] 39)) b.drew.heap.size 0 (.slice none 0 0):=Au (heap_alloc_new _ _) rfl;obtain⟨⟨M,-⟩,⟨N,-⟩,⟨O,-⟩,⟨P,-⟩,⟨Q,-⟩,⟨R,-⟩⟩:=i.out.A0 o;obtain⟨-,-,⟨U,-⟩,⟨V,-⟩,-⟩:=f.out.A0 o;obtain⟨-,-,⟨X,-⟩,⟨Y,-⟩,-⟩:=g.out.A0 o
   (try go_wp2_with fail)
   refine hK.out _ _ (by(try dsimp only);go_keep) ?_;clear hK K hHeld;intro hHeld
   try simp only[Act.put,s1,s2,s3]
   refine rd [3] (rc (fun K hK=>?_) .nil);go_simp;go_at_call 146;refine(L1 Z v1 v2 v3 lo hi W m.rs m.rb _ ?_ HR.out fA.out).mono ?_
   ·exact Hp.out.A0 (A7 B o)
   rintro e D ⟨vt,rfl,y,C⟩;obtain⟨E,F,rfl,-⟩:=Bh y;have d:Below b.heap.size b D:=A7 o C;obtain⟨⟨M,-⟩,⟨N,-⟩,⟨O,-⟩,⟨P,-⟩,⟨Q,-⟩,⟨R,-⟩⟩:=i.out.A0 d;obtain⟨-,-,⟨U,-⟩,⟨V,-⟩,-⟩:=f.out.A0 d;obtain⟨-,-,⟨X,-⟩,⟨Y,-⟩,-⟩:=g.out.A0 d
   (try go_wp2_with fail)
   refine hK.out _ _ (by(try dsimp only);go_keep) ?_;clear hK K hHeld;intro hHeld
   try simp only[Act.put,s1,s2,s3]
   refine rd [7] (rc (fun K hK=>?_) .nil);go_simp;go_at_call 146;refine(L1 Z v1 v2 v3 lo hi W S.rs S.rb _ ?_ HR.out oA.out).mono ?_
   ·exact Hp.out.A0 (A7 B d)
   rintro e A ⟨va,rfl,p,j⟩;obtain⟨s,cv,rfl,-⟩:=Bh p;have l:Below b.heap.size b A:=A7 d j;obtain⟨⟨M,-⟩,⟨N,-⟩,⟨O,-⟩,⟨P,-⟩,⟨Q,-⟩,⟨R,-⟩⟩:=i.out.A0 l;obtain⟨-,-,⟨U,-⟩,⟨V,-⟩,-⟩:=f.out.A0 l;obtain⟨-,-,⟨X,-⟩,⟨Y,-⟩,-⟩:=g.out.A0 l
   (try go_wp2_with fail)
   refine hK.out _ _ (by(try dsimp only);go_keep) ?_;clear hK K hHeld;intro hHeld
   try simp only[Act.put,s1,s2,s3]
   refine tk 9 (h:=?_);rw[tD]at L;have nB:=(L.A0 C).A0 j;have kA:=y.A0 j;have aD:(b.drew.alloc (.cells #[.slice none 0 0] 39)).heap.size=b.heap.size+1:=World.size_alloc _ _;have mE:(b.alloc (.cells #[.slice none 0 0] 39)).drew.heap.size=b.heap.size+1:=World.size_alloc _ _;have cF:=C.size;have jA:Value.ownBlock (.slice E (AF W.pool m.rs m.rb).length F)≠some b.heap.size:=fun e=>by have:=(y.lt e).1;omega
   have iA:Value.ownBlock (.slice s (AF W.pool S.rs S.rb).length cv)≠some b.heap.size:=fun e=>by have:=(p.lt e).1;omega
   obtain⟨sB,tB⟩:=nB;refine rd [10] (rc (fun K hK=>?_) .nil);go_simp;have a:Below b.heap.size b (A.setCell ⟨b.heap.size,0,none⟩ (.slice s (AF W.pool S.rs S.rb).length cv)):=l.setCell (show b.heap.size<=b.heap.size by omega) _;obtain⟨⟨M,-⟩,⟨N,-⟩,⟨O,-⟩,⟨P,-⟩,⟨Q,-⟩,⟨R,-⟩⟩:=i.out.A0 a;obtain⟨-,-,⟨U,-⟩,⟨V,-⟩,-⟩:=f.out.A0 a;obtain⟨-,-,⟨X,-⟩,⟨Y,-⟩,-⟩:=g.out.A0 a
   (try go_wp2_with fail)
   refine hK.out _ _ (by(try dsimp only);go_keep) ?_;clear hK K hHeld;intro hHeld
   try simp only[Act.put,s1,s2,s3]
   refine wpAnyH_done (by kernel_rfl) ?_ _;have k:=A3 (show AN (A.setCell ⟨b.heap.size,0,none⟩ (.slice s (AF W.pool S.rs S.rb).length cv)) b.heap.size 0 (.slice s (AF W.pool S.rs S.rb).length cv)from AN.set ⟨sB,tB⟩ _);have r:=A3 ((kA.putNe jA 0 (.slice s (AF W.pool S.rs S.rb).length cv)).mono (Nat.zero_le _));have q:=A3 ((p.putNe iA 0 (.slice s (AF W.pool S.rs S.rb).length cv)).mono (Nat.zero_le _));have z:=A3 (i.out.A0 a);have t:=A3 (f.out.A0 a);have u:=A3 (g.out.A0 a);have v:=A7 B a;clear a hHeld M N O P Q R U V X Y y p kA jA iA;generalize (A.setCell ⟨b.heap.size,0,none⟩ (.slice s (AF W.pool S.rs S.rb).length cv))=wz at k r q z t u v ⊢;generalize b.heap.size=T at k ⊢;revert k r q z t u v;revert T wz;revert E F s cv;exact hfin.out
 intro E F s cv wz T r q z t u v k;have fF:=DX W.pool m.rs m.rb;have gF:=DX W.pool S.rs S.rb;have lD:=A3 (show Cc (AF W.pool m.rs m.rb).length (AK (AF W.pool m.rs m.rb)) (AM (AF W.pool m.rs m.rb))from L7 HR.out (fun x hx=>(EE HR.out fA.out hx).1) (L8 HR.out fA.out) (by omega));have mA:=A3 (zGu W m S);clear fA oA HR Hp z;generalize AF W.pool m.rs m.rb=tree at *;generalize AF W.pool S.rs S.rb=old at *;have eF:(Cl tree old).length<=tree.length:=List.length_filter_le _ _;have iF:(BX tree old).length<=tree.length:=List.length_filter_le _ _;have dF:(BX old (Cl tree old)).length<=old.length:=List.length_filter_le _ _;have jF:(E5 tree S.time).length<=tree.length:=List.length_filter_le _ _;have kF:∀(fn:Fn) (first cap:Array Value) (w:World),(Instr.makeFunc fn first cap).run Tryz.prog w = .ok (.func fn first cap) w:=fun _ _ _ _=>rfl
 go_wp2_with fail;refine(zCp _ _ 0 _ 0 _ T tree old wz (r.out.atW (by omega)) (by omega) (q.out.atW (by omega)) k.out.1).mono ?_;rintro e w3 ⟨vk,vo,rfl,pB,rB,-,H⟩;obtain⟨ak,ck,rfl,-⟩:=Bh pB;obtain⟨ao,co,rfl,-⟩:=Bh rB;have n:=AC w3 (.cells #[.slice ak (Cl tree old).length ck] 39);have eA:=A3 ((k.out.A0 H).A0 n);have dA:=A3 ((r.out.A0 H).A0 n);have cA:=A3 ((q.out.A0 H).A0 n);have aB:=A3 (pB.A0 n);have eB:=A3 (rB.A0 n);have bB:=A3 ((t.out.A0 H).A0 n);have fB:=A3 ((u.out.A0 H).A0 n);have lA:=A3 (show AN (w3.alloc (.cells #[.slice ak (Cl tree old).length ck] 39)) w3.heap.size 0 (.slice ak (Cl tree old).length ck)from Au (heap_alloc_new _ _) rfl);have jB:=A7 (A7 v H) n;clear pB rB H n k r q t u v;obtain⟨c0,-⟩:=eA.out;go_wp2_with fail;clear c0;generalize w3.alloc (.cells #[.slice ak (Cl tree old).length ck] 39)=w4 at eA dA cA aB eB bB fB lA jB ⊢;generalize w3.heap.size=T9 at lA ⊢;refine(zCK _ _ 0 _ 0 _ T9 old (Cl tree old) w4 (cA.out.atW (by omega)) (by omega) (aB.out.atW (by omega)) lA.out.1).mono ?_;rintro e w5 ⟨vx,nF,rfl,-,oB,-,J⟩;obtain⟨vE,aF,rfl,-⟩:=Bh oB;have vA:=A3 (dA.out.A0 J);have kC:=A3 (eB.out.A0 J);have jC:=A3 (bB.out.A0 J);have mC:=A3 (fB.out.A0 J);have sA:=A3 oB;have oC:=A7 jB J;clear oB J eA dA cA aB eB bB fB lA jB;obtain⟨-,⟨c4,-⟩,-⟩:=mC.out;go_wp2_with fail;clear c4;refine(Rq _ tree.length 0 _ (AK tree) (AM tree) S.time w5 (vA.out.atW (by omega))).mono ?_;rintro e w6 ⟨vy,vz,ly,lz,rfl,hY,-,hy,-,-,gA⟩;rw[(hY.1 ⟨lD.out,oD.out⟩).trans (QG tree S.time)]at hy;have vD:∀w,(Instr.field 164 (.agg #[vy,vz]) 0).run Tryz.prog w = .ok vy w:=YR vy vz;have nC:=A3 hy;have lC:=A3 (kC.out.A0 gA);have cB:=A3 (jC.out.A0 gA);have tA:=A3 (sA.out.A0 gA);have kB:=A7 oC gA;clear hY hy gA vA kC jC mC sA oC;obtain⟨-,⟨c1,-⟩,-,⟨c3,-⟩,⟨c5,-⟩⟩:=cB.out;by_cases h1:m.rb<=m.time;rotate_left
 ·have Hn:=A3 (show ¬K4 W m S from fun h=>h1 (mA.out.1 h).1);go_wp2;go_ret;exact⟨AL.no Hn.out,kB⟩
 have H1:=A3 h1;go_wp2_with fail;clear h1 c1 c3 c5 vD;refine(Zb _ _ _ 0 _ _ 0 _ _ _ _ _ w6 (nC.out.atW (by omega)) (lC.out.atW (by omega))).mono ?_;rintro e w7 ⟨⟨t7,rfl,bD⟩,rA⟩;have kD:=A3 (cB.out.A0 rA);have iC:=A3 (tA.out.A0 rA);have lB:=A7 kB rA;have pA:=A3 bD;clear bD rA nC lC cB tA kB;obtain⟨-,⟨c1,-⟩,-,⟨c3,-⟩,⟨c5,-⟩⟩:=kD.out;cases t7
 ·have Hn:=A3 (show ¬K4 W m S from fun h=>absurd (pA.out.2 (mA.out.1 h).2.1) (by simp));clear pA;go_wp2;go_ret;exact⟨AL.no Hn.out,lB⟩
 have H2:=A3 (pA.out.1 rfl);clear pA;go_wp2_with fail;clear c1 c3 c5;refine(Zb _ _ _ lo hi _ 0 _ _ _ _ _ w7 (jD.out.A0 lB) (iC.out.atW (by omega))).mono ?_;rintro e w8 ⟨⟨t8,rfl,cD⟩,sC⟩;have nD:=A3 (cD.trans ⟨fun h=>mA.out.2 ⟨H1.out,H2.out,h⟩,fun h=>(mA.out.1 h).2.2⟩);have rD:=A7 lB sC;clear cD sC;go_wp2;go_ret;exact⟨⟨t8,rfl,nD.out⟩,rD⟩
theorem zI1{W:A4}(h:∀i,i<memN W->Ay W.pool (A8 W i).rs (A8 W i).rb)(x:Int):Ay W.pool (AI W x).rs (AI W x).rb:=by
 by_cases b:∃k,Be W x k
 ·obtain⟨k,a⟩:=b;rw[Dv a];have:=h k (by unfold memN;have:=a.1;omega);rw[Co a.1]at this;exact this
 ·have:AI W x=DH:=by
   unfold AI;rw[dif_neg b]
  rw[this];exact Or.inl ⟨rfl,rfl⟩
def My(W:A4)(i:Nat):Prop:=K4 W (A8 W i) (AI W (A8 W i).A6)
def Zn(W:A4):Prop:=(∀i,i<memN W->Ay W.pool (A8 W i).rs (A8 W i).rb)/\∀i,i<memN W->My W i
def Pm(W:A4):Prop:=∀x,F4 (AI W x).time
theorem zD4(x v1 C D:Value)(lo hi:Nat)(W:A4)(A:Nat)(w:World)(h:CE w lo hi x v1 C D W)(hs:W.sn<=8)(hp:W.pn<=20)(t:G6 w lo hi W A)(hD:I2 W)(P:G7 W)(hR:AY W.pool)(hT:Pm W) :
 Calls Tryz.prog 79 #[Cn x v1 C D W,KP A] w fun e w'=>AL (Zn W) e/\Below w.heap.size w w':=by
 have Hp:=A3 h;have HA:=A3 t;have HD:=A3 hD;have gA:=A3 P;have Z:=A3 hR;have bA:=A3 hT;clear h t hD P hR hT;have X:=AC w (.cells #[x,v1,.int .i64 W.time,.int .i64 W.next,C,D] 30);have T:=A3 (As.new w x v1 (.int .i64 W.time) (.int .i64 W.next) C D 30);obtain⟨R,S,x4,x6,x8,pA⟩:=T.out.c;go_enter Tryz.func79,Tryz.ntmps79;go_wp2_with fail;clear R S x4 x6 x8 pA;generalize w.alloc (.cells #[x,v1,.int .i64 W.time,.int .i64 W.next,C,D] 30)=W0 at X T ⊢;refine(Rr x v1 C D lo hi W W0 (Hp.out.A0 X) hs hp).mono ?_;rintro e Y ⟨vm,vd,rfl,hm,G⟩;have U:=A3 hm;have I:=A3 (T.out.A0 G);have p:=A7 X G;obtain⟨am,cm,rfl,bC⟩:=id hm.form;have cC:memN W<=28:=by unfold memN;omega
 clear X G hm T;go_wp2
 go_loopw [14] (fun i wr=>∃k:Nat,k<=memN W/\i = .int .i64 k/\(∀j,j<k->Ay W.pool (A8 W j).rs (A8 W j).rb)/\Below Y.heap.size Y wr) (fun i _=>memN W - (intOf i).toNat)
 case atStart=>exact⟨0,Nat.zero_le _,rfl,fun j hj=>absurd hj (Nat.not_lt_zero _),Below.refl _ _⟩
 case round=>
  obtain⟨k,hk,rfl,f,q⟩:=hrel;have b:=A3 f;clear f;by_cases a:k<memN W
  ·have M:(k:Int)<(memN W:Int):=(by omega);obtain⟨g,cg,e,q0,q1,q2,q3,Q⟩:=(U.out.A0 q).cells k a;obtain⟨-,z,B,s,-,-⟩:=id ((U.out.A0 q).dead k a);rw[s]at Q;cases e;have m:=AC wr (.cells #[.int .i64 (A8 W k).A6,.int .i64 (A8 W k).time,.int .i64 (A8 W k).rs,.int .i64 (A8 W k).rb,.slice z (A8 W k).dn B] 186);have y:=A3 (Fz.new wr (.int .i64 (A8 W k).A6) (.int .i64 (A8 W k).time) (.int .i64 (A8 W k).rs) (.int .i64 (A8 W k).rb) (.slice z (A8 W k).dn B) 186);have n:=A3 ((I.out.A0 q).A0 m);have l:=A7 q m;clear s m;obtain⟨⟨y0,-⟩,⟨y1,-⟩,⟨y2,-⟩,⟨y3,-⟩,⟨y4,-⟩⟩:=y.out;obtain⟨⟨R,-⟩,⟨S,-⟩,-⟩:=n.out;go_wp2_with fail;clear q0 q1 q2 q3 Q y0 y1 y2 y3 y4 R S;refine(ZJ x v1 lo hi W.pool (A8 W k).rs (A8 W k).rb _ (Hp.out.pool.A0 (A7 p l)) Z.out).mono ?_;rintro e w6 ⟨⟨t6,rfl,N⟩,r⟩;have u:=A3 (N.trans (O3 Z.out));have o:=A7 l r;clear N r l y n;cases t6
   ·have F:=A3 (show ¬Ay W.pool (A8 W k).rs (A8 W k).rb from fun t=>absurd (u.out.2 t) (by simp));clear u;go_wp2;go_ret;exact⟨AL.no fun t=>F.out (t.1 k a),A7 p o⟩
   ·have F:=A3 (u.out.1 rfl);clear u;go_wp2;go_roundw
    case rel=>exact⟨k+1,by omega,by go_num,Bu a b.out F.out,o⟩
    case measure=>simp[intOf];omega
  obtain rfl:k=memN W:=(by omega);have E:=A3 b.out;clear b a hk;go_wp2
  go_loopw [27] (fun i wr=>∃k:Nat,k<=memN W/\i = .int .i64 k/\(∀j,j<k->My W j)/\Below Y.heap.size Y wr) (fun i _=>memN W - (intOf i).toNat)
  case atStart=>exact⟨0,Nat.zero_le _,rfl,fun j hj=>absurd hj (Nat.not_lt_zero _),q⟩
  case round=>
   clear q;obtain⟨k,hk,rfl,f,q⟩:=hrel;have b:=A3 f;clear f;by_cases a:k<memN W;rotate_left
   ·obtain rfl:k=memN W:=(by omega);go_wp2;go_ret;exact⟨AL.yes ⟨E.out,b.out⟩,A7 p q⟩
   have M:(k:Int)<(memN W:Int):=(by omega);obtain⟨g,cg,e,q0,q1,q2,q3,Q⟩:=(U.out.A0 q).cells k a;have v:=(U.out.A0 q).dead k a;obtain⟨-,z,B,s,-,-⟩:=id v;rw[s]at Q v;cases e;have m:=AC wr (.cells #[.int .i64 (A8 W k).A6,.int .i64 (A8 W k).time,.int .i64 (A8 W k).rs,.int .i64 (A8 W k).rb,.slice z (A8 W k).dn B] 186);have y:=A3 (Fz.new wr (.int .i64 (A8 W k).A6) (.int .i64 (A8 W k).time) (.int .i64 (A8 W k).rs) (.int .i64 (A8 W k).rb) (.slice z (A8 W k).dn B) 186);have n:=A3 ((I.out.A0 q).A0 m);have J:=A3 (v.A0 m);have l:=A7 q m;have H:=A3 (HA.out.A0 (A7 p l));have K:=A3 (Hp.out.A0 (A7 p l));have iA:=A3 (gA.out k a);have aA:=A3 (E.out k a);have cA:=A3 (zI1 E.out (A8 W k).A6);have fA:=A3 (bA.out (A8 W k).A6);have eA:=A3 (show My W k↔K4 W (A8 W k) (AI W (A8 W k).A6)from Iff.rfl);clear s m v;generalize A8 W k=mk at *;go_wp2_with fail;clear q0 q1 q2 q3 Q;generalize wr.alloc (.cells #[.int .i64 mk.A6,.int .i64 mk.time,.int .i64 mk.rs,.int .i64 mk.rb,.slice z mk.dn B] 186)=W2 at y n J H K l ⊢;generalize wr.heap.size=V at y ⊢;obtain⟨⟨y0,-⟩,⟨y1,-⟩,⟨y2,-⟩,⟨y3,-⟩,⟨y4,-⟩⟩:=y.out;obtain⟨R,x1,S,x3,x4,x5⟩:=n.out.c;go_region_held3 (fun w'=>w'.cell? ⟨w.heap.size,0,none⟩=some x/\w'.cell? ⟨w.heap.size,1,none⟩=some v1/\w'.cell? ⟨w.heap.size,2,none⟩=some (.int .i64 W.time)/\w'.cell? ⟨w.heap.size,3,none⟩=some (.int .i64 W.next)/\w'.cell? ⟨w.heap.size,4,none⟩=some C/\w'.cell? ⟨w.heap.size,5,none⟩=some D/\w'.cell? ⟨V,0,none⟩=some (.int .i64 mk.A6)/\w'.cell? ⟨V,1,none⟩=some (.int .i64 mk.time)/\w'.cell? ⟨V,2,none⟩=some (.int .i64 mk.rs)/\w'.cell? ⟨V,3,none⟩=some (.int .i64 mk.rb)/\w'.cell? ⟨V,4,none⟩=some (.slice z mk.dn B)) (go_keep)
    (first
     | (go_at_call 142;refine(Jp lo hi W A mk.A6 _ ?_ HD.out iA.out hp).mono ?_;(exact H.out.A0 (Below.refl _ _).drew);rintro e w6 ⟨aa,ca,rfl,lA,r⟩;have d:=Cr r;obtain⟨⟨k0,_⟩,⟨k1,_⟩,⟨k2,_⟩,⟨k3,_⟩,⟨k4,_⟩,⟨k5,_⟩⟩:=n.out.A0 d;obtain⟨⟨l0,_⟩,⟨l1,_⟩,⟨l2,_⟩,⟨l3,_⟩,⟨l4,_⟩⟩:=y.out.A0 d)
     | (go_at_call 145;refine(zDH x v1 C D lo hi W mk (AI W mk.A6) z aa B ca _ (K.out.A0 d) Z.out aA.out cA.out (J.out.A0 d) fA.out).mono ?_;rintro e w7 ⟨⟨t7,rfl,O⟩,o⟩;obtain⟨⟨f0,_⟩,⟨f1,_⟩,⟨f2,_⟩,⟨f3,_⟩,⟨f4,_⟩,⟨f5,_⟩⟩:=(n.out.A0 d).A0 o;obtain⟨⟨g0,_⟩,⟨g1,_⟩,⟨g2,_⟩,⟨g3,_⟩,⟨g4,_⟩⟩:=(y.out.A0 d).A0 o))
   have L:=A7 (A7 l d) o;have u:=A3 (O.trans eA.out.symm);clear O o d r lA k0 k1 k2 k3 k4 k5 l0 l1 l2 l3 l4 f0 f1 f2 f3 f4 f5 g0 g1 g2 g3 g4 R x1 S x3 x4 x5 y0 y1 y2 y3 y4;cases t7
   ·have F:=A3 (show ¬My W k from fun t=>absurd (u.out.2 t) (by simp));clear u;go_wp2;go_ret;exact⟨AL.no fun t=>F.out (t.2 k a),A7 p L⟩
   ·have F:=A3 (u.out.1 rfl);clear u;go_wp2;go_roundw
    case rel=>exact⟨k+1,by omega,by go_num,Bu a b.out F.out,L⟩
    case measure=>simp[intOf];omega
end Go.Proofs.YtehdoekmnicdiaaGreatDoor
