/- A part of the proof. -/
import Derived.Test.YtibhefllijahkaaGreatDoorF15
set_option linter.unusedVariables false
set_option maxRecDepth 20000
set_option maxHeartbeats 8000000
namespace Go.Proofs.YtibhefllijahkaaGreatDoor
open Go.RowKit Go.Maps
theorem ZJ(n:Int)(w:World):Calls Tryz.prog 176 #[.int .i64 n] w fun e w'=>AG (Ip n) e/\w'=w:=by
 by_cases a:0<=n
 ·by_cases b:n<=1000000
  ·go_enter Tryz.func176,Tryz.ntmps176;go_wp2;go_ret;exact⟨AG.yes ⟨a,b⟩,rfl⟩
  ·go_enter Tryz.func176,Tryz.ntmps176;go_wp2;go_ret;exact⟨AG.no fun h=>by have:=h.2;omega,rfl⟩
 ·go_enter Tryz.func176,Tryz.ntmps176;go_wp2;go_ret;exact⟨AG.no fun h=>by have:=h.1;omega,rfl⟩
theorem zAa(x y t:Int)(T:Nat)(w:World)(b:w.cell? ⟨T,0,none⟩=some (.int .i64 t)):Calls Tryz.prog 177 #[.agg #[.int .i64 x,.int .i64 y],.pointer (some ⟨T,0,none⟩)] w fun e w'=>AG (t<y) e/\Below w.heap.size w w':=by
 have a:=A9 w (.cells #[.int .i64 x,.int .i64 y] 38);have c:=(a.cell (p:=⟨T,0,none⟩) (AZ b)).trans b;by_cases h:t<y
 ·go_enter Tryz.func177,Tryz.ntmps177;go_wp2;go_ret;exact⟨⟨_,rfl,by simpa using h⟩,a⟩
 ·go_enter Tryz.func177,Tryz.ntmps177;go_wp2;go_ret;exact⟨⟨_,rfl,by simpa using h⟩,a⟩
def Jb(l l':List (Int×Int))(w w':World)(v v':Value):Prop:=BQ w' w.heap.size v l/\BQ w' w.heap.size v' l'/\(∀q,v.ownBlock=some q->v'.ownBlock≠some q)/\Below w.heap.size w w'
variable{l:List (Int×Int)}
theorem Kw{w1 w2:World}{base g cap:Nat}{v v':Value}{l':List (Int×Int)}{x y:Int}(d:BQ w1 base v' l')(i:∀q,v.ownBlock=some q->v'.ownBlock≠some q)
 (a:w2.ownsRow base 38 2 (.slice (some ⟨g,0,none⟩) (l.length+1) cap) (l.length+1) (pcl l ++ [.int .i64 x,.int .i64 y])) (j:w1.grownBy w2 v.ownBlock) (c:v.ownBlock=some g\/g=w1.heap.size) :
 BQ w2 base (.slice (some ⟨g,0,none⟩) (l.length+1) cap) (l ++ [(x,y)])/\BQ w2 base v' l'/\(∀q,(Value.slice (some ⟨g,0,none⟩) (l.length+1) cap).ownBlock=some q->v'.ownBlock≠some q):=by
 refine⟨?_,d.AH j (fun q b e=>i q e b),fun q b e=>?_⟩
 ·unfold BQ;rw[Rb,List.length_append];exact a
 ·simp only[Value.ownBlock,Option.some.injEq]at b;subst b;rcases c with h | h
  ·exact i _ h e
  ·have:=(d.lt e).2;omega
theorem zFl(v:Value)(n lo hi T:Nat)(f g:Nat->Int)(t:Int)(w:World)(W:B4 w lo hi v n f g)(hn:n<=200)(hT:w.cell? ⟨T,0,none⟩=some (.int .i64 t)) :
 Calls Tryz.prog 170 #[v,.func (.func 177) #[] #[.pointer (some ⟨T,0,none⟩)]] w fun e w'=>∃M L,e = .returned (.tuple #[M,L])/\Jb (Bz f g t n) (Ce f g t n) w w' M L:=by
 have Hp:=Aa W;have HT:=Aa hT;obtain⟨m1,a,c,rfl,mc,_⟩:=id W;clear W hT;obtain⟨i0,J,D⟩:=Option.map_eq_some_iff.1 Qf;simp only[Prod.mk.injEq]at D;have y:=Aa (And.intro J D);clear J D;go_enter Tryz.func170,Tryz.ntmps170;go_wp2
 go_loopw [6,7,12] (fun M L i wr=>∃k:Nat,k<=n/\i = .int .i64 k/\Jb (Bz f g t k) (Ce f g t k) w wr M L) (fun _ _ i _=>n - (intOf i).toNat)
 case atStart=>exact⟨0,Nat.zero_le _,rfl,BQ.nil _ _,BQ.nil _ _,fun q l=>by simp[Value.ownBlock]at l,Below.refl _ _⟩
 case round=>
  obtain⟨k,hk,rfl,hy,ho,I,X⟩:=hrel;have Q:=Aa hy;have O:=Aa ho;have z:=Aa I;have fA:=MZ f g t k;clear hy ho I;by_cases Y:k<n
  ·have gA:(k:Int)<(n:Int):=(by omega);obtain⟨b,off,rfl,q0,q1⟩:=(Hp.out.A0 X).cellsD Y;have u:=A9 wr (.cells #[.int .i64 (f k),.int .i64 (g k)] 38);have HV:=Aa (Ad.new wr (.int .i64 (f k)) (.int .i64 (g k)) 38);have C:=A7 X u;have F:=Aa ((C.cell (p:=⟨T,0,none⟩) (AZ HT.out)).trans HT.out);have lA:∀(fn:Fn) (first cap:Array Value) (w:World),(Instr.makeFunc fn first cap).run Tryz.prog w = .ok (.func fn first cap) w:=fun _ _ _ _=>rfl
   go_wp2_with fail;refine(zAa (f k) (g k) t T _ F.out).mono ?_;rintro e E ⟨⟨s,rfl,hs⟩,o⟩;have R:=Aa ((Q.out.A0 u).A0 o);have P:=Aa ((O.out.A0 u).A0 o);have N:=Aa (HV.out.A0 o);have H:=A7 C o;clear o C u Q O HV q0 q1 F;have mA:=H.size;obtain⟨⟨x0,x1⟩,⟨x2,x3⟩⟩:=N.out;have x:=A9 E (.cells #[.int .i64 (f k),.int .i64 (g k)] 38);have B:=Aa (R.out.A0 x);have A:=Aa (P.out.A0 x);have r:=A7 H x;have nA:(E.alloc (.cells #[.int .i64 (f k),.int .i64 (g k)] 38)).heap.size=E.heap.size+1:=World.size_alloc _ _;have HN:=Aa (World.news_of_block (heap_alloc_last E (.cells #[.int .i64 (f k),.int .i64 (g k)] 38)));clear x;by_cases l:t<g k
   ·obtain rfl:s=true:=hs.2 l;have U:Bz f g t (k+1)=Bz f g t k ++ [(f k,g k)]:=if_pos l;have S:Ce f g t (k+1)=Ce f g t k:=if_pos l;clear hs l;go_wp2_with (first
     | (at_builtin;refine wpList_append_lies _ rfl _ _ 39 rfl w.heap.size 38 i0 (.agg #[.int .i64 0,.int .i64 0]) 2 16 (by kernel_rfl) y.out.1 y.out.2.1 y.out.2.2.1 y.out.2.2.2 rfl (by decide) _ _ _ rfl B.out ⟨E.heap.size,0,none⟩ 1 1 [.int .i64 (f k),.int .i64 (g k)] rfl rfl HN.out (by simp[Value.oneCell']) (by decide) (by unfold maxLen;omega) (by omega) (by omega) _ rfl ?_;intro g' G w4 j d m K)
     | go_in)
    go_roundw
    case rel=>
     obtain⟨r1,Z,r3⟩:=Kw A.out z.out j d m;exact⟨k+1,by omega,by go_num,by rw[U];exact r1,by rw[S];exact Z,r3,r.grown d r.size (fun q l=>(B.out.lt l).1)⟩
    case measure=>simp[intOf];omega
   ·obtain rfl:s=false:=Bc hs l;have U:Bz f g t (k+1)=Bz f g t k:=if_neg l;have S:Ce f g t (k+1)=Ce f g t k ++ [(f k,g k)]:=if_neg l;clear hs l;go_wp2_with (first
     | (at_builtin;refine wpList_append_lies _ rfl _ _ 39 rfl w.heap.size 38 i0 (.agg #[.int .i64 0,.int .i64 0]) 2 16 (by kernel_rfl) y.out.1 y.out.2.1 y.out.2.2.1 y.out.2.2.2 rfl (by decide) _ _ _ rfl A.out ⟨E.heap.size,0,none⟩ 1 1 [.int .i64 (f k),.int .i64 (g k)] rfl rfl HN.out (by simp[Value.oneCell']) (by decide) (by unfold maxLen;omega) (by omega) (by omega) _ rfl ?_;intro g' G w4 j d m K)
     | go_in)
    go_roundw
    case rel=>
     obtain⟨r1,Z,r3⟩:=Kw B.out (fun q h V=>z.out q V h) j d m;exact⟨k+1,by omega,by go_num,by rw[U];exact Z,by rw[S];exact r1,fun q h V=>r3 q V h,r.grown d r.size (fun q l=>(A.out.lt l).1)⟩
    case measure=>simp[intOf];omega
  ·obtain rfl:k=n:=(by omega);go_wp2
   go_ret2
   exact⟨_,_,rfl,Q.out,O.out,z.out,X⟩
def zIu(n:Nat)(f g:Nat->Int)(t:Int)(l:List (Int×Int)):Prop:=(Bq n f g/\Ip t->l=Bz f g t n)/\(¬(Bq n f g/\Ip t)->l = [])
def zIt(n:Nat)(f g:Nat->Int)(t:Int)(l:List (Int×Int)):Prop:=(Bq n f g/\Ip t->l=Ce f g t n)/\(¬(Bq n f g/\Ip t)->l = [])
def zGJ(n:Nat)(f g:Nat->Int)(t:Int)(w:World)(e:Ending)(w':World):Prop:=∃vy vo l l',e = .returned (.agg #[vy,vo])/\zIu n f g t l/\zIt n f g t l'/\Jb l l' w w' vy vo
theorem ZG(v:Value)(n lo hi:Nat)(f g:Nat->Int)(t:Int)(w:World)(F:B4 w lo hi v n f g) :
 Calls Tryz.prog 127 #[v,.int .i64 t] w (zGJ n f g t w):=by
 have B:=Aa F;obtain⟨X,a,c,rfl,Y,_⟩:=id F;clear F;have N:∀(fn:Fn) (first cap:Array Value) (w:World),(Instr.makeFunc fn first cap).run Tryz.prog w = .ok (.func fn first cap) w:=fun _ _ _ _=>rfl
 have K:=A9 w (.cells #[.int .i64 t] 2);have y:=A9 (w.alloc (.cells #[.int .i64 t] 2)) (.cells #[.slice none 0 0,.slice none 0 0] 165);have k:=A7 K y;have r:=Aa (show AJ ((w.alloc (.cells #[.int .i64 t] 2)).alloc (.cells #[.slice none 0 0,.slice none 0 0] 165)) w.heap.size 0 (.int .i64 t)from AJ.A0 ⟨by rw[World.cell?_alloc_at _ _ _ _ rfl];rfl,World.frozen?_alloc_at _ _ _ _ rfl⟩ y);have m:=Aa (Ad.new (w.alloc (.cells #[.int .i64 t] 2)) (.slice none 0 0) (.slice none 0 0) 165);rw[World.size_alloc]at m;clear K y;by_cases C:Bq n f g
 ·have o:=Aa C;clear C;by_cases u:Ip t
  ·have x:=Aa u;clear u;go_enter Tryz.func127,Tryz.ntmps127;go_wp2_with fail;generalize (w.alloc (.cells #[.int .i64 t] 2)).alloc (.cells #[.slice none 0 0,.slice none 0 0] 165)=W at r m k ⊢;refine(JC _ n lo hi f g _ (B.out.A0 k)).mono ?_;rintro e L ⟨⟨s,rfl,hs⟩,b⟩;obtain rfl:s=true:=hs.2 o.out;have l:=Aa (r.out.A0 b);have j:=Aa (m.out.A0 b);have d:=A7 k b;clear hs b k r m;obtain⟨I,J⟩:=l.out;go_wp2_with (first
    | (go_at_call 176;refine(ZJ t _).mono ?_;rintro e M ⟨⟨s,rfl,hs⟩,rfl⟩;obtain rfl:s=true:=hs.2 x.out;clear hs)
    | fail)
   go_wp2_with fail;refine(zFl _ n lo hi w.heap.size f g t _ (B.out.A0 d) o.out.1 l.out.1).mono ?_;rintro e w3 ⟨vy,Z,rfl,i⟩;have z:=i.2.2.2;have H:=CV i.1;have A:=CV i.2.1;obtain⟨U,V,rfl,_⟩:=H;obtain⟨O,P,rfl,_⟩:=A;have E:=Aa (j.out.A0 z);have D:=Aa i;have p:w.heap.size+1<M.heap.size:=j.out.1.lt;have G:=A7 d z;clear i z I J l j;obtain⟨⟨I,J⟩,⟨x2,x3⟩⟩:=E.out;go_wp2;refine bodyPost_ret (v:=.agg #[.slice U (Bz f g t n).length V,.slice O (Ce f g t n).length P]) (by simp[results,Tryz.results127,go_sem, *]) rfl ?_;refine⟨_,_,Bz f g t n,Ce f g t n,rfl,⟨fun _=>rfl,fun h=>absurd ⟨o.out,x.out⟩ h⟩,⟨fun _=>rfl,fun h=>absurd ⟨o.out,x.out⟩ h⟩,?_,?_,D.out.2.2.1,(G.setCell (by show w.heap.size<=w.heap.size+1;omega) _).setCell (by show w.heap.size<=w.heap.size+1;omega) _⟩
   ·exact(((BQ.put D.out.1 p _).put p _)).mono d.size
   ·exact(((BQ.put D.out.2.1 p _).put p _)).mono d.size
  ·have x:=Aa u;clear u;go_enter Tryz.func127,Tryz.ntmps127;go_wp2_with fail;generalize (w.alloc (.cells #[.int .i64 t] 2)).alloc (.cells #[.slice none 0 0,.slice none 0 0] 165)=W at r m k ⊢;refine(JC _ n lo hi f g _ (B.out.A0 k)).mono ?_;rintro e L ⟨⟨s,rfl,hs⟩,b⟩;obtain rfl:s=true:=hs.2 o.out;have l:=Aa (r.out.A0 b);have j:=Aa (m.out.A0 b);have d:=A7 k b;clear hs b k r m;obtain⟨I,J⟩:=l.out;obtain⟨⟨Q,R⟩,⟨S,T⟩⟩:=j.out;go_wp2_with (first
    | (go_at_call 176;refine(ZJ t _).mono ?_;rintro e M ⟨⟨s,rfl,hs⟩,rfl⟩;obtain rfl:s=false:=Bc hs x.out;clear hs)
    | fail)
   go_wp2;refine bodyPost_ret (v:=.agg #[.slice none 0 0,.slice none 0 0]) (by simp[results,Tryz.results127,go_sem, *]) rfl ?_;exact⟨_,_,[],[],rfl,⟨fun h=>absurd h.2 x.out,fun _=>rfl⟩,⟨fun h=>absurd h.2 x.out,fun _=>rfl⟩,BQ.nil _ _,BQ.nil _ _,fun q u=>by simp[Value.ownBlock]at u,(d.setCell (by show w.heap.size<=w.heap.size+1;omega) _).setCell (by show w.heap.size<=w.heap.size+1;omega) _⟩
 ·have o:=Aa C;clear C;go_enter Tryz.func127,Tryz.ntmps127;go_wp2_with fail;generalize (w.alloc (.cells #[.int .i64 t] 2)).alloc (.cells #[.slice none 0 0,.slice none 0 0] 165)=W at r m k ⊢;refine(JC _ n lo hi f g _ (B.out.A0 k)).mono ?_;rintro e L ⟨⟨s,rfl,hs⟩,b⟩;obtain rfl:s=false:=Bc hs o.out;have j:=Aa (m.out.A0 b);have d:=A7 k b;clear hs b k r m;obtain⟨⟨Q,R⟩,⟨S,T⟩⟩:=j.out;go_wp2;refine bodyPost_ret (v:=.agg #[.slice none 0 0,.slice none 0 0]) (by simp[results,Tryz.results127,go_sem, *]) rfl ?_;exact⟨_,_,[],[],rfl,⟨fun h=>absurd h.1 o.out,fun _=>rfl⟩,⟨fun h=>absurd h.1 o.out,fun _=>rfl⟩,BQ.nil _ _,BQ.nil _ _,fun q u=>by simp[Value.ownBlock]at u,(d.setCell (by show w.heap.size<=w.heap.size+1;omega) _).setCell (by show w.heap.size<=w.heap.size+1;omega) _⟩
variable{m:List (Int×Int)}
theorem VM{k:Nat}(a:k<l.length)(h:(AO l k,AS l k)∈m):Cd (l.take (k+1)) m=Cd (l.take k) m ++ [(AO l k,AS l k)]:=by
 unfold AO AS at h ⊢;rw[DF a]at h ⊢;unfold Cd;rw[List.take_succ_eq_append_getElem a,List.filter_append,List.filter_cons];simp only[List.filter_nil];rw[if_pos (by simp;exact h)]
theorem U9{k:Nat}(a:k<l.length)(h:(AO l k,AS l k)∉m):Cd (l.take (k+1)) m=Cd (l.take k) m:=by
 unfold AO AS at h;rw[DF a]at h;unfold Cd;rw[List.take_succ_eq_append_getElem a,List.filter_append,List.filter_cons];simp only[List.filter_nil];rw[if_neg (by simp;exact h),List.append_nil]
theorem Va(l m:List (Int×Int))(k:Nat):(Cd (l.take k) m).length<=k/\(BU (l.take k) m).length<=k:=by
 refine⟨?_,VD l m k⟩;unfold Cd;exact Nat.le_trans (List.length_filter_le _ _) (by rw[List.length_take];omega)
theorem zCh(v v2:Value)(lo hi P N T:Nat)(l m:List (Int×Int))(w:World)(h1:B4 w lo hi v l.length (AO l) (AS l))(hn:l.length<=200)(h2:B4 w P N v2 m.length (AO m) (AS m))(hT:w.cell? ⟨T,0,none⟩=some v2) :
 Calls Tryz.prog 170 #[v,.func (.func 171) #[] #[.pointer (some ⟨T,0,none⟩)]] w fun e w'=>∃U S,e = .returned (.tuple #[U,S])/\Jb (Cd l m) (BU l m) w w' U S:=by
 have Hp:=Aa h1;have HT:=Aa hT;have V:=Aa h2;obtain⟨m1,a,c,rfl,mc,_⟩:=id h1;clear h1 hT h2;unfold maxLen at m1;obtain⟨i0,M,F⟩:=Option.map_eq_some_iff.1 Qf;simp only[Prod.mk.injEq]at F;have z:=Aa (And.intro M F);clear M F;go_enter Tryz.func170,Tryz.ntmps170;go_wp2
 go_loopw [6,7,12] (fun U S i wr=>∃k:Nat,k<=l.length/\i = .int .i64 k/\Jb (Cd (l.take k) m) (BU (l.take k) m) w wr U S) (fun _ _ i _=>l.length - (intOf i).toNat)
 case atStart=>exact⟨0,Nat.zero_le _,rfl,BQ.nil _ _,BQ.nil _ _,fun q j=>by simp[Value.ownBlock]at j,Below.refl _ _⟩
 case round=>
  obtain⟨k,hk,rfl,hy,ho,L,hb⟩:=hrel;have R:=Aa hy;have Q:=Aa ho;have A:=Aa L;have nA:=Va l m k;clear hy ho L;by_cases r:k<l.length
  ·have oA:(k:Int)<(l.length:Int):=(by omega);obtain⟨b,off,rfl,q0,q1⟩:=(Hp.out.A0 hb).cellsD r;have x:=A9 wr (.cells #[.int .i64 (AO l k),.int .i64 (AS l k)] 38);have HV:=Aa (Ad.new wr (.int .i64 (AO l k)) (.int .i64 (AS l k)) 38);have t:=A7 hb x;have I:=Aa ((t.cell (p:=⟨T,0,none⟩) (AZ HT.out)).trans HT.out);have H:=Aa (V.out.A0 t);have aB:∀(fn:Fn) (first cap:Array Value) (w:World),(Instr.makeFunc fn first cap).run Tryz.prog w = .ok (.func fn first cap) w:=fun _ _ _ _=>rfl
   go_wp2_with fail;refine(zBX v2 m.length P N (AO m) (AS m) (AO l k) (AS l k) T _ H.out I.out).mono ?_;rintro e G ⟨⟨s,rfl,hs⟩,o⟩;have Y:=Aa ((R.out.A0 x).A0 o);have X:=Aa ((Q.out.A0 x).A0 o);have W:=Aa (HV.out.A0 o);have K:=A7 t o;clear o t x R Q HV q0 q1 I H;have bB:=K.size;obtain⟨⟨x0,x1⟩,⟨x2,x3⟩⟩:=W.out;have y:=A9 G (.cells #[.int .i64 (AO l k),.int .i64 (AS l k)] 38);have C:=Aa (Y.out.A0 y);have B:=Aa (X.out.A0 y);have u:=A7 K y;have cB:(G.alloc (.cells #[.int .i64 (AO l k),.int .i64 (AS l k)] 38)).heap.size=G.heap.size+1:=World.size_alloc _ _;have HN:=Aa (World.news_of_block (heap_alloc_last G (.cells #[.int .i64 (AO l k),.int .i64 (AS l k)] 38)));clear y;by_cases j:(AO l k,AS l k)∈m
   ·obtain rfl:s=true:=hs.2 (Jp.2 j);have ey:=Aa (VM r j);have Z:=Aa (Q9 r j);clear hs j;go_wp2_with (first
     | (at_builtin;refine wpList_append_lies _ rfl _ _ 39 rfl w.heap.size 38 i0 (.agg #[.int .i64 0,.int .i64 0]) 2 16 (by kernel_rfl) z.out.1 z.out.2.1 z.out.2.2.1 z.out.2.2.2 rfl (by decide) _ _ _ rfl C.out ⟨G.heap.size,0,none⟩ 1 1 [.int .i64 (AO l k),.int .i64 (AS l k)] rfl rfl HN.out (by simp[Value.oneCell']) (by decide) (by unfold maxLen;omega) (by omega) (by omega) _ rfl ?_;intro g' J w4 g d n O)
     | go_in)
    go_roundw
    case rel=>
     obtain⟨r1,r2,r3⟩:=Kw B.out A.out g d n;exact⟨k+1,by omega,by go_num,by rw[ey.out];exact r1,by rw[Z.out];exact r2,r3,u.grown d u.size (fun q j=>(C.out.lt j).1)⟩
    case measure=>simp[intOf];omega
   ·obtain rfl:s=false:=Bc hs (fun h=>j (Jp.1 h));have ey:=Aa (U9 r j);have Z:=Aa (QV r j);clear hs j;go_wp2_with (first
     | (at_builtin;refine wpList_append_lies _ rfl _ _ 39 rfl w.heap.size 38 i0 (.agg #[.int .i64 0,.int .i64 0]) 2 16 (by kernel_rfl) z.out.1 z.out.2.1 z.out.2.2.1 z.out.2.2.2 rfl (by decide) _ _ _ rfl B.out ⟨G.heap.size,0,none⟩ 1 1 [.int .i64 (AO l k),.int .i64 (AS l k)] rfl rfl HN.out (by simp[Value.oneCell']) (by decide) (by unfold maxLen;omega) (by omega) (by omega) _ rfl ?_;intro g' J w4 g d n O)
     | go_in)
    go_roundw
    case rel=>
     obtain⟨r1,r2,r3⟩:=Kw C.out (fun q h h'=>A.out q h' h) g d n;exact⟨k+1,by omega,by go_num,by rw[ey.out];exact r2,by rw[Z.out];exact r1,fun q h h'=>r3 q h' h,u.grown d u.size (fun q j=>(B.out.lt j).1)⟩
    case measure=>simp[intOf];omega
  ·obtain rfl:k=l.length:=(by omega);have E:=R.out;have D:=Q.out;rw[List.take_length]at E D;have HY:=Aa E;have HO:=Aa D;clear E D R Q;go_wp2
   go_ret2
   exact⟨_,_,rfl,HY.out,HO.out,A.out,hb⟩
theorem zBj(v v2:Value)(lo hi P N T:Nat)(l m:List (Int×Int))(w:World)(h1:B4 w lo hi v l.length (AO l) (AS l))(hn:l.length<=200)(h2:B4 w P N v2 m.length (AO m) (AS m))(hT:w.cell? ⟨T,0,none⟩=some v2) :
 Calls Tryz.prog 170 #[v,.func (.func 173) #[] #[.pointer (some ⟨T,0,none⟩)]] w fun e w'=>∃U S,e = .returned (.tuple #[U,S])/\Jb (Cd l m) (BU l m) w w' U S:=by
 have Hp:=Aa h1;have HT:=Aa hT;have V:=Aa h2;obtain⟨m1,a,c,rfl,mc,_⟩:=id h1;clear h1 hT h2;unfold maxLen at m1;obtain⟨i0,M,F⟩:=Option.map_eq_some_iff.1 Qf;simp only[Prod.mk.injEq]at F;have z:=Aa (And.intro M F);clear M F;go_enter Tryz.func170,Tryz.ntmps170;go_wp2
 go_loopw [6,7,12] (fun U S i wr=>∃k:Nat,k<=l.length/\i = .int .i64 k/\Jb (Cd (l.take k) m) (BU (l.take k) m) w wr U S) (fun _ _ i _=>l.length - (intOf i).toNat)
 case atStart=>exact⟨0,Nat.zero_le _,rfl,BQ.nil _ _,BQ.nil _ _,fun q j=>by simp[Value.ownBlock]at j,Below.refl _ _⟩
 case round=>
  obtain⟨k,hk,rfl,hy,ho,L,hb⟩:=hrel;have R:=Aa hy;have Q:=Aa ho;have A:=Aa L;have nA:=Va l m k;clear hy ho L;by_cases r:k<l.length
  ·have oA:(k:Int)<(l.length:Int):=(by omega);obtain⟨b,off,rfl,q0,q1⟩:=(Hp.out.A0 hb).cellsD r;have x:=A9 wr (.cells #[.int .i64 (AO l k),.int .i64 (AS l k)] 38);have HV:=Aa (Ad.new wr (.int .i64 (AO l k)) (.int .i64 (AS l k)) 38);have t:=A7 hb x;have I:=Aa ((t.cell (p:=⟨T,0,none⟩) (AZ HT.out)).trans HT.out);have H:=Aa (V.out.A0 t);have aB:∀(fn:Fn) (first cap:Array Value) (w:World),(Instr.makeFunc fn first cap).run Tryz.prog w = .ok (.func fn first cap) w:=fun _ _ _ _=>rfl
   go_wp2_with fail;refine(zAw v2 m.length P N (AO m) (AS m) (AO l k) (AS l k) T _ H.out I.out).mono ?_;rintro e G ⟨⟨s,rfl,hs⟩,o⟩;have Y:=Aa ((R.out.A0 x).A0 o);have X:=Aa ((Q.out.A0 x).A0 o);have W:=Aa (HV.out.A0 o);have K:=A7 t o;clear o t x R Q HV q0 q1 I H;have bB:=K.size;obtain⟨⟨x0,x1⟩,⟨x2,x3⟩⟩:=W.out;have y:=A9 G (.cells #[.int .i64 (AO l k),.int .i64 (AS l k)] 38);have C:=Aa (Y.out.A0 y);have B:=Aa (X.out.A0 y);have u:=A7 K y;have cB:(G.alloc (.cells #[.int .i64 (AO l k),.int .i64 (AS l k)] 38)).heap.size=G.heap.size+1:=World.size_alloc _ _;have HN:=Aa (World.news_of_block (heap_alloc_last G (.cells #[.int .i64 (AO l k),.int .i64 (AS l k)] 38)));clear y;by_cases j:(AO l k,AS l k)∈m
   ·obtain rfl:s=true:=hs.2 (Jp.2 j);have ey:=Aa (VM r j);have Z:=Aa (Q9 r j);clear hs j;go_wp2_with (first
     | (at_builtin;refine wpList_append_lies _ rfl _ _ 39 rfl w.heap.size 38 i0 (.agg #[.int .i64 0,.int .i64 0]) 2 16 (by kernel_rfl) z.out.1 z.out.2.1 z.out.2.2.1 z.out.2.2.2 rfl (by decide) _ _ _ rfl C.out ⟨G.heap.size,0,none⟩ 1 1 [.int .i64 (AO l k),.int .i64 (AS l k)] rfl rfl HN.out (by simp[Value.oneCell']) (by decide) (by unfold maxLen;omega) (by omega) (by omega) _ rfl ?_;intro g' J w4 g d n O)
     | go_in)
    go_roundw
    case rel=>
     obtain⟨r1,r2,r3⟩:=Kw B.out A.out g d n;exact⟨k+1,by omega,by go_num,by rw[ey.out];exact r1,by rw[Z.out];exact r2,r3,u.grown d u.size (fun q j=>(C.out.lt j).1)⟩
    case measure=>simp[intOf];omega
   ·obtain rfl:s=false:=Bc hs (fun h=>j (Jp.1 h));have ey:=Aa (U9 r j);have Z:=Aa (QV r j);clear hs j;go_wp2_with (first
     | (at_builtin;refine wpList_append_lies _ rfl _ _ 39 rfl w.heap.size 38 i0 (.agg #[.int .i64 0,.int .i64 0]) 2 16 (by kernel_rfl) z.out.1 z.out.2.1 z.out.2.2.1 z.out.2.2.2 rfl (by decide) _ _ _ rfl B.out ⟨G.heap.size,0,none⟩ 1 1 [.int .i64 (AO l k),.int .i64 (AS l k)] rfl rfl HN.out (by simp[Value.oneCell']) (by decide) (by unfold maxLen;omega) (by omega) (by omega) _ rfl ?_;intro g' J w4 g d n O)
     | go_in)
    go_roundw
    case rel=>
     obtain⟨r1,r2,r3⟩:=Kw C.out (fun q h h'=>A.out q h' h) g d n;exact⟨k+1,by omega,by go_num,by rw[ey.out];exact r2,by rw[Z.out];exact r1,fun q h h'=>r3 q h' h,u.grown d u.size (fun q j=>(B.out.lt j).1)⟩
    case measure=>simp[intOf];omega
  ·obtain rfl:k=l.length:=(by omega);have E:=R.out;have D:=Q.out;rw[List.take_length]at E D;have HY:=Aa E;have HO:=Aa D;clear E D R Q;go_wp2
   go_ret2
   exact⟨_,_,rfl,HY.out,HO.out,A.out,hb⟩
theorem ZY(v v':Value)(n lo hi y I G:Nat)(f g f' g':Nat->Int)(w:World)(T:B4 w lo hi v n f g)(U:B4 w I G v' y f' g') :
 Calls Tryz.prog 174 #[v,v'] w fun e w'=>AG (Ew n f g y f' g') e/\Below w.heap.size w w':=by
 have Q:=Aa T;have F:=Aa U;obtain⟨m1,a,c,rfl,mc,_⟩:=id T;obtain⟨m2,a',c',rfl,kA,_⟩:=id U;unfold maxLen at m1 m2;clear T U;by_cases S:Bq n f g
 ·have x:=Aa S;clear S;by_cases z:Bq y f' g'
  ·have l:=Aa z;clear z;go_enter Tryz.func174,Tryz.ntmps174;go_wp2_with fail;refine(JC _ n lo hi f g _ Q.out).mono ?_;rintro e w1 ⟨⟨t,rfl,q⟩,d⟩;obtain rfl:t=true:=q.2 x.out;clear q;go_wp2_with fail;refine(JC _ y I G f' g' _ (F.out.A0 d)).mono ?_;rintro e J ⟨⟨t,rfl,q⟩,s⟩;obtain rfl:t=true:=q.2 l.out;have r:=A7 d s;clear q d s;go_wp2_with fail;refine(ZH _ n lo hi f g _ (Q.out.A0 r) x.out.1 x.out.2.1).mono ?_;rintro e w3 ⟨rfl,Z,O⟩;have X:=Aa Z;have M:=A7 r O;have hz:w.heap.size<=J.heap.size:=r.size;clear Z O r;go_wp2
   go_loopw [20] (fun i wr=>∃(k:Nat) (D:DataW Unit),k<=y/\i = .int .i64 k/\SC wr J.heap.size n D/\FD n f g f' k D/\(∀j,j<k->PIn n f g (f' j) (g' j))/\Below w.heap.size w wr) (fun i _=>y - (intOf i).toNat)
   case atStart=>exact⟨0,_,Nat.zero_le _,rfl,X.out,FD.start x.out f',fun j V=>absurd V (Nat.not_lt_zero _),M⟩
   case round=>
    obtain⟨k,D,hk,rfl,E,u,P,R⟩:=hrel;have p:=Aa E;have m:=Aa u;have L:=Aa P;clear E u P X M;by_cases o:k<y
    ·have Y:(k:Int)<(y:Int):=(by omega);obtain⟨b,off,rfl,q0,q1⟩:=(F.out.A0 R).cellsD o;have C:keyOf Tryz.prog 2 (.int .i64 (f' k))=some (CZ (f' k)):=keyOf_int_mk PD (QE (l.out.2.1 k o).1 (by have:=(l.out.2.1 k o).2.1;omega));have B:=Aa C;clear C;have d:=R.alloc R.size (.cells #[.int .i64 (f' k),.int .i64 (g' k)] 38);have gA:J.heap.size<=wr.heap.size:=Nat.le_of_lt p.out.lt;go_wp2_with (first
      | (at_lookup;refine wpList_lookup_own_int _ rfl _ _ 239 rfl 2 2 .i64 SZ Ms PD (zJZ _) J.heap.size n D rfl (p.out.alloc _) _ _ rfl B.out ?_;intro c0 N eA)
      | (at_delete;refine wpList_delete_own _ rfl _ _ 239 2 rfl 2 SZ Ms _ J.heap.size n D rfl (p.out.alloc _) _ _ rfl B.out ?_;intro w4 H A)
      | go_in)
     ·have W:c0≠g' k:=by
       have h:(c0 != g' k)=true:=(by assumption);simpa using h
      go_ret;exact⟨AG.no (m.out.no x.out l.out o (show D.atKey (CZ (f' k)) (Dj 0)=Dj c0 from N) W),d⟩
     ·have he:c0=g' k:=by
       have h:(c0 != g' k)=false:=(by assumption);simpa using h
      subst he;have K:D.atKey (CZ (f' k)) (Dj 0)=Dj (g' k):=N;go_roundw
      case rel=>exact⟨k+1,_,by omega,by go_num,H,m.out.next l.out o K,Bf o L.out (m.out.in l.out o K),d.grown A.grown d.size (fun j V=>by cases V;exact hz)⟩
      case measure=>simp[intOf];omega
    ·obtain rfl:k=y:=(by omega);go_wp2_with (first
      | (at_len;refine wpList_len_own _ rfl _ 239 rfl 2 2 Ms _ J.heap.size n D rfl p.out ?_)
      | go_in)
     go_ret;refine⟨⟨_,rfl,?_⟩,R⟩;have He:=m.out.end x.out l.out L.out;rw[<-He];simp
  ·have l:=Aa z;clear z;go_enter Tryz.func174,Tryz.ntmps174;go_wp2_with fail;refine(JC _ n lo hi f g _ Q.out).mono ?_;rintro e w1 ⟨⟨t,rfl,q⟩,d⟩;obtain rfl:t=true:=q.2 x.out;clear q;go_wp2_with fail;refine(JC _ y I G f' g' _ (F.out.A0 d)).mono ?_;rintro e J ⟨⟨t,rfl,q⟩,s⟩;obtain rfl:t=false:=Bc q l.out;have r:=A7 d s;clear q d s;go_wp2;go_ret;exact⟨AG.no fun h=>l.out h.2.1,r⟩
 ·have x:=Aa S;clear S;go_enter Tryz.func174,Tryz.ntmps174;go_wp2_with fail;refine(JC _ n lo hi f g _ Q.out).mono ?_;rintro e w1 ⟨⟨t,rfl,q⟩,d⟩;obtain rfl:t=false:=Bc q x.out;clear q;go_wp2;go_ret;exact⟨AG.no fun h=>x.out h.1,d⟩
abbrev zJi(vd:Value)(m:Cs):Value:=.agg #[.int .i64 m.A6,.int .i64 m.time,.int .i64 m.rs,.int .i64 m.rb,vd]
theorem BQ.putNe{w:World}{base b:Nat}{v:Value}(h:BQ w base v l)(j:v.ownBlock≠some b)(o:Nat)(u:Value):BQ (w.setCell ⟨b,o,none⟩ u) base v l:=by
 refine⟨h.1,h.2.imp id ?_⟩;rintro⟨g,cap,a,e,c,d,i⟩;subst e;exact⟨g,cap,a,rfl,c,(Below.heap_setCell _ _ _ _ (fun e=>j (by simp[Value.ownBlock];exact e))).trans d,i⟩
def KF(W:A5)(m:Cs)(S:AL):Prop:=m.rb<=m.time/\FH (EG (AF W.pool m.rs m.rb) S.time).length (AO (EG (AF W.pool m.rs m.rb) S.time)) (AS (EG (AF W.pool m.rs m.rb) S.time)) (BU (AF W.pool m.rs m.rb) (AF W.pool S.rs S.rb))/\FH m.dn m.ds m.db (BU (AF W.pool S.rs S.rb) (Cd (AF W.pool m.rs m.rb) (AF W.pool S.rs S.rb)))
theorem mem_iff(W:A5)(m:Cs)(S:AL):KF W m S↔(m.rb<=m.time/\Ew (EG (AF W.pool m.rs m.rb) S.time).length (AO (EG (AF W.pool m.rs m.rb) S.time)) (AS (EG (AF W.pool m.rs m.rb) S.time)) (BU (AF W.pool m.rs m.rb) (AF W.pool S.rs S.rb)).length (AO (BU (AF W.pool m.rs m.rb) (AF W.pool S.rs S.rb))) (AS (BU (AF W.pool m.rs m.rb) (AF W.pool S.rs S.rb)))/\Ew m.dn m.ds m.db (BU (AF W.pool S.rs S.rb) (Cd (AF W.pool m.rs m.rb) (AF W.pool S.rs S.rb))).length (AO (BU (AF W.pool S.rs S.rb) (Cd (AF W.pool m.rs m.rb) (AF W.pool S.rs S.rb)))) (AS (BU (AF W.pool S.rs S.rb) (Cd (AF W.pool m.rs m.rb) (AF W.pool S.rs S.rb))))):=Iff.rfl
theorem Xd(l:List (Int×Int))(t:Int):∀k,k<=l.length->Bz (AO l) (AS l) t k=EG (l.take k) t
 | 0,_=>by simp[Bz,EG]
 | k+1,hk=>by
  have a:k<l.length:=(by omega);unfold Bz;rw[Xd l t k (by omega)];unfold EG;rw[List.take_succ_eq_append_getElem a,List.filter_append,List.filter_cons];simp only[List.filter_nil];unfold AO AS;rw[DF a];by_cases h:t<(l[k]).2
  ·rw[if_pos h,if_pos (by simpa using h)]
  ·rw[if_neg h,if_neg (by simpa using h),List.append_nil]
theorem Um(l:List (Int×Int))(t:Int):Bz (AO l) (AS l) t l.length=EG l t:=by
 rw[Xd l t _ (Nat.le_refl _),List.take_length]
theorem YM(v a:Value)(w:World):(Instr.field 165 (.agg #[v,a]) 0).run Tryz.prog w = .ok v w:=by kernel_rfl
theorem zDE(v0 v1 v2 v3:Value)(lo hi:Nat)(W:A5)(m:Cs)(S:AL)(ad sa:Option Addr)(cd sc:Nat)(w:World)(h:BR w lo hi v0 v1 v2 v3 W)(hR:Ag W.pool)(sC:As W.pool m.rs m.rb)(rC:As W.pool S.rs S.rb)(hD:B4 w lo hi (.slice ad m.dn cd) m.dn m.ds m.db)(ht:Ip S.time) :
 Calls Tryz.prog 126 #[BS v0 v1 v2 v3 W,zJi (.slice ad m.dn cd) m,DK (.slice sa S.dn sc) S] w fun e w'=>AG (KF W m S) e/\Below w.heap.size w w':=by
 unfold DK;have Hp:=A4 h;have HR:=A4 hR;have gA:=A4 sC;have pA:=A4 rC;have kD:=A4 hD;have pD:=A4 ht;clear h hR sC rC hD ht;have aD:∀Wa Wb Wc:World,Wa=w.alloc (.cells #[v0,v1,.int .i64 W.time,.int .i64 W.next,v2,v3] 30)->Wb=Wa.alloc (.cells #[.int .i64 m.A6,.int .i64 m.time,.int .i64 m.rs,.int .i64 m.rb,.slice ad m.dn cd] 161)->Wc=Wb.alloc (.cells #[.int .i64 S.id,.string S.name,.string S.set,.int .i64 S.A6,.int .i64 S.time,.int .i64 S.rs,.int .i64 S.rb,.slice sa S.dn sc] 41)->Aj Wc w.heap.size v0 v1 (.int .i64 W.time) (.int .i64 W.next) v2 v3/\G3 Wc (w.heap.size+1) (.int .i64 m.A6) (.int .i64 m.time) (.int .i64 m.rs) (.int .i64 m.rb) (.slice ad m.dn cd)/\Bu Wc (w.heap.size+2) (.int .i64 S.id) (.string S.name) (.string S.set) (.int .i64 S.A6) (.int .i64 S.time) (.int .i64 S.rs) (.int .i64 S.rb) (.slice sa S.dn sc)/\Below w.heap.size w Wc:=by
  rintro Wa Wb Wc ea eb ec;have ha:=A9 w (.cells #[v0,v1,.int .i64 W.time,.int .i64 W.next,v2,v3] 30);have h1:=Aj.new w v0 v1 (.int .i64 W.time) (.int .i64 W.next) v2 v3 30;have z1:Wa.heap.size=w.heap.size+1:=(by rw[ea];exact World.size_alloc _ _);rw[<-ea]at ha h1;have hb:=A9 Wa (.cells #[.int .i64 m.A6,.int .i64 m.time,.int .i64 m.rs,.int .i64 m.rb,.slice ad m.dn cd] 161);have h2:=G3.new Wa (.int .i64 m.A6) (.int .i64 m.time) (.int .i64 m.rs) (.int .i64 m.rb) (.slice ad m.dn cd) 161;have z2:Wb.heap.size=w.heap.size+2:=(by rw[eb,World.size_alloc,z1]);rw[<-eb,z1]at h2;rw[<-eb]at hb;have hc:=A9 Wb (.cells #[.int .i64 S.id,.string S.name,.string S.set,.int .i64 S.A6,.int .i64 S.time,.int .i64 S.rs,.int .i64 S.rb,.slice sa S.dn sc] 41);have h3:=Bu.new Wb (.int .i64 S.id) (.string S.name) (.string S.set) (.int .i64 S.A6) (.int .i64 S.time) (.int .i64 S.rs) (.int .i64 S.rb) (.slice sa S.dn sc) 41;rw[<-ec,z2]at h3;rw[<-ec]at hc;exact⟨(h1.A0 hb).A0 hc,h2.A0 hc,h3,A7 (A7 ha hb) hc⟩
 obtain⟨hx,hm,vC,D⟩:=aD _ _ _ rfl rfl rfl;have j:=A4 hx;have g:=A4 hm;have i:=A4 vC;clear hx hm vC aD;go_enter Tryz.func126,Tryz.ntmps126;go_wp2_with fail;generalize ((w.alloc (.cells #[v0,v1,.int .i64 W.time,.int .i64 W.next,v2,v3] 30)).alloc (.cells #[.int .i64 m.A6,.int .i64 m.time,.int .i64 m.rs,.int .i64 m.rb,.slice ad m.dn cd] 161)).alloc (.cells #[.int .i64 S.id,.string S.name,.string S.set,.int .i64 S.A6,.int .i64 S.time,.int .i64 S.rs,.int .i64 S.rb,.slice sa S.dn sc] 41)=b at j g i D ⊢;obtain⟨x0,x1,x2,x3,x4,x5⟩:=j.out.c;obtain⟨-,-,⟨y2,-⟩,⟨y3,-⟩,-⟩:=g.out;obtain⟨-,-,⟨z5,-⟩,⟨z6,-⟩,-⟩:=i.out
 refine' zFc (fun hfin=>_) _
 rotate_left
 ·refine wp_region_held_drew (S:=(fun w'=>w'.cell? ⟨w.heap.size,0,none⟩=some v0/\w'.cell? ⟨w.heap.size,1,none⟩=some v1/\w'.cell? ⟨w.heap.size,2,none⟩=some (.int .i64 W.time)/\w'.cell? ⟨w.heap.size,3,none⟩=some (.int .i64 W.next)/\w'.cell? ⟨w.heap.size,4,none⟩=some v2/\w'.cell? ⟨w.heap.size,5,none⟩=some v3/\w'.cell? ⟨w.heap.size+1,2,none⟩=some (.int .i64 m.rs)/\w'.cell? ⟨w.heap.size+1,3,none⟩=some (.int .i64 m.rb)/\w'.cell? ⟨w.heap.size+2,5,none⟩=some (.int .i64 S.rs)/\w'.cell? ⟨w.heap.size+2,6,none⟩=some (.int .i64 S.rb))) (by kernel_rfl) ?_ (fun hHeld=>?_)
  ·(try dsimp only)
   go_keep
  have nB:Below b.heap.size b b.drew:=(Below.refl _ _).drew;have vD:b.drew.heap.size=b.heap.size:=rfl;refine tk 0 (h:=tk 1 (h:=tk 2 (h:=tk 4 (h:=tk 5 (h:=tk 6 (h:=?_))))));refine rd [3,8] (rc (fun K hK=>?_) (rc (fun K hK=>?_) .nil))
  ·go_simp;go_at_call 128;refine(LA v0 v1 v2 v3 lo hi W m.rs m.rb _ ?_ HR.out gA.out).mono ?_
   ·exact Hp.out.A0 (A7 D nB)
   rintro e F ⟨vt,rfl,A,E⟩;obtain⟨G,H,rfl,-⟩:=CV A;have p:Below b.heap.size b F:=A7 nB E;obtain⟨⟨O,-⟩,⟨P,-⟩,⟨Q,-⟩,⟨R,-⟩,⟨U,-⟩,⟨V,-⟩⟩:=j.out.A0 p;obtain⟨-,-,⟨X,-⟩,⟨Y,-⟩,-⟩:=g.out.A0 p;obtain⟨-,-,⟨Z,-⟩,⟨n6,-⟩,-⟩:=i.out.A0 p
   (try go_wp2_with fail)
   refine hK.out _ _ (by(try dsimp only);go_keep) ?_;clear hK K hHeld;intro hHeld
   try simp only[Act.put,s1,s2,s3]
   refine rd [7,8] (rc (fun K hK=>?_) (rc (fun K hK=>?_) .nil))
   ·go_simp;go_at_call 128;refine(LA v0 v1 v2 v3 lo hi W S.rs S.rb _ ?_ HR.out pA.out).mono ?_
    ·exact Hp.out.A0 (A7 D p)
    rintro e C ⟨va,rfl,q,k⟩;obtain⟨t,u,rfl,-⟩:=CV q;have d:Below b.heap.size b C:=A7 p k;obtain⟨⟨O,-⟩,⟨P,-⟩,⟨Q,-⟩,⟨R,-⟩,⟨U,-⟩,⟨V,-⟩⟩:=j.out.A0 d;obtain⟨-,-,⟨X,-⟩,⟨Y,-⟩,-⟩:=g.out.A0 d;obtain⟨-,-,⟨Z,-⟩,⟨n6,-⟩,-⟩:=i.out.A0 d
    (try go_wp2_with fail)
    refine hK.out _ _ (by(try dsimp only);go_keep) ?_;clear hK K hHeld;intro hHeld
    try simp only[Act.put,s1,s2,s3]
    refine rd [8] (rc (fun K hK=>?_) .nil);go_simp;have I:=A9 C (.cells #[.slice none 0 0] 39);have n:Below b.heap.size b (C.alloc (.cells #[.slice none 0 0] 39)):=A7 d I;have N:AJ (C.alloc (.cells #[.slice none 0 0] 39)) C.heap.size 0 (.slice none 0 0):=B2 (heap_alloc_new _ _) rfl;obtain⟨⟨O,-⟩,⟨P,-⟩,⟨Q,-⟩,⟨R,-⟩,⟨U,-⟩,⟨V,-⟩⟩:=j.out.A0 n;obtain⟨-,-,⟨X,-⟩,⟨Y,-⟩,-⟩:=g.out.A0 n;obtain⟨-,-,⟨Z,-⟩,⟨n6,-⟩,-⟩:=i.out.A0 n
    (try go_wp2_with fail)
    refine hK.out _ _ (by(try dsimp only);go_keep) ?_;clear hK K hHeld;intro hHeld
    try simp only[Act.put,s1,s2,s3]
    refine tk 9 (h:=?_);refine rd [10] (rc (fun K hK=>?_) .nil);go_simp;have L:=A9 C (.cells #[.slice t (AF W.pool S.rs S.rb).length u] 39);have a:Below b.heap.size b (C.alloc (.cells #[.slice t (AF W.pool S.rs S.rb).length u] 39)):=A7 d L;obtain⟨⟨O,-⟩,⟨P,-⟩,⟨Q,-⟩,⟨R,-⟩,⟨U,-⟩,⟨V,-⟩⟩:=j.out.A0 a;obtain⟨-,-,⟨X,-⟩,⟨Y,-⟩,-⟩:=g.out.A0 a;obtain⟨-,-,⟨Z,-⟩,⟨n6,-⟩,-⟩:=i.out.A0 a
    (try go_wp2_with fail)
    refine hK.out _ _ (by(try dsimp only);go_keep) ?_;clear hK K hHeld;intro hHeld
    try simp only[Act.put,s1,s2,s3]
    refine wpAnyH_done (by kernel_rfl) ?_ _;have l:=A4 (show AJ (C.alloc (.cells #[.slice t (AF W.pool S.rs S.rb).length u] 39)) C.heap.size 0 (.slice t (AF W.pool S.rs S.rb).length u)from B2 (heap_alloc_new _ _) rfl);have s:=A4 (((A.A0 k).A0 L).mono (Nat.zero_le _));have r:=A4 ((q.A0 L).mono (Nat.zero_le _));clear I N n L;have B:=A4 (j.out.A0 a);have v:=A4 (g.out.A0 a);have y:=A4 (i.out.A0 a);have z:=A7 D a;clear a hHeld O P Q R U V X Y Z n6 A q;generalize (C.alloc (.cells #[.slice t (AF W.pool S.rs S.rb).length u] 39))=wz at l s r B v y z ⊢;generalize C.heap.size=T at l ⊢;revert l s r B v y z;revert T wz;revert G H t u;exact hfin.out
   ·go_simp;have I:=A9 F (.cells #[.slice none 0 0] 39);have d:Below b.heap.size b (F.alloc (.cells #[.slice none 0 0] 39)):=A7 p I;have N:AJ (F.alloc (.cells #[.slice none 0 0] 39)) F.heap.size 0 (.slice none 0 0):=B2 (heap_alloc_new _ _) rfl;obtain⟨⟨O,-⟩,⟨P,-⟩,⟨Q,-⟩,⟨R,-⟩,⟨U,-⟩,⟨V,-⟩⟩:=j.out.A0 d;obtain⟨-,-,⟨X,-⟩,⟨Y,-⟩,-⟩:=g.out.A0 d;obtain⟨-,-,⟨Z,-⟩,⟨n6,-⟩,-⟩:=i.out.A0 d
    (try go_wp2_with fail)
    refine hK.out _ _ (by(try dsimp only);go_keep) ?_;clear hK K hHeld;intro hHeld
    try simp only[Act.put,s1,s2,s3]
    refine rd [7] (rc (fun K hK=>?_) .nil);go_simp;go_at_call 128;refine(LA v0 v1 v2 v3 lo hi W S.rs S.rb _ ?_ HR.out pA.out).mono ?_
    ·exact Hp.out.A0 (A7 D d)
    rintro e C ⟨va,rfl,q,k⟩;obtain⟨t,u,rfl,-⟩:=CV q;have n:Below b.heap.size b C:=A7 d k;obtain⟨⟨O,-⟩,⟨P,-⟩,⟨Q,-⟩,⟨R,-⟩,⟨U,-⟩,⟨V,-⟩⟩:=j.out.A0 n;obtain⟨-,-,⟨X,-⟩,⟨Y,-⟩,-⟩:=g.out.A0 n;obtain⟨-,-,⟨Z,-⟩,⟨n6,-⟩,-⟩:=i.out.A0 n
    (try go_wp2_with fail)
    refine hK.out _ _ (by(try dsimp only);go_keep) ?_;clear hK K hHeld;intro hHeld
    try simp only[Act.put,s1,s2,s3]
    refine tk 9 (h:=?_);have oB:=N.A0 k;have lA:=(A.A0 I).A0 k;have bD:(F.alloc (.cells #[.slice none 0 0] 39)).heap.size=F.heap.size+1:=World.size_alloc _ _;have kA:Value.ownBlock (.slice G (AF W.pool m.rs m.rb).length H)≠some F.heap.size:=fun e=>by have:=(A.lt e).2;omega
    have jA:Value.ownBlock (.slice t (AF W.pool S.rs S.rb).length u)≠some F.heap.size:=fun e=>by have:=(q.lt e).1;omega
    have cF:=p.size;obtain⟨tB,vB⟩:=oB;refine rd [10] (rc (fun K hK=>?_) .nil);go_simp;have a:Below b.heap.size b (C.setCell ⟨F.heap.size,0,none⟩ (.slice t (AF W.pool S.rs S.rb).length u)):=n.setCell (show b.heap.size<=F.heap.size by omega) _;obtain⟨⟨O,-⟩,⟨P,-⟩,⟨Q,-⟩,⟨R,-⟩,⟨U,-⟩,⟨V,-⟩⟩:=j.out.A0 a;obtain⟨-,-,⟨X,-⟩,⟨Y,-⟩,-⟩:=g.out.A0 a;obtain⟨-,-,⟨Z,-⟩,⟨n6,-⟩,-⟩:=i.out.A0 a
    (try go_wp2_with fail)
    refine hK.out _ _ (by(try dsimp only);go_keep) ?_;clear hK K hHeld;intro hHeld
    try simp only[Act.put,s1,s2,s3]
    refine wpAnyH_done (by kernel_rfl) ?_ _;have l:=A4 (show AJ (C.setCell ⟨F.heap.size,0,none⟩ (.slice t (AF W.pool S.rs S.rb).length u)) F.heap.size 0 (.slice t (AF W.pool S.rs S.rb).length u)from AJ.set ⟨tB,vB⟩ _);have s:=A4 ((lA.putNe kA 0 (.slice t (AF W.pool S.rs S.rb).length u)).mono (Nat.zero_le _));have r:=A4 ((q.putNe jA 0 (.slice t (AF W.pool S.rs S.rb).length u)).mono (Nat.zero_le _));have B:=A4 (j.out.A0 a);have v:=A4 (g.out.A0 a);have y:=A4 (i.out.A0 a);have z:=A7 D a;clear a hHeld O P Q R U V X Y Z n6 A q lA kA jA;generalize (C.setCell ⟨F.heap.size,0,none⟩ (.slice t (AF W.pool S.rs S.rb).length u))=wz at l s r B v y z ⊢;generalize F.heap.size=T at l ⊢;revert l s r B v y z;revert T wz;revert G H t u;exact hfin.out
  ·go_simp;have I:=A9 b.drew (.cells #[.slice none 0 0] 39);have p:Below b.heap.size b (b.drew.alloc (.cells #[.slice none 0 0] 39)):=A7 nB I;have N:AJ (b.drew.alloc (.cells #[.slice none 0 0] 39)) b.drew.heap.size 0 (.slice none 0 0):=B2 (heap_alloc_new _ _) rfl;obtain⟨⟨O,-⟩,⟨P,-⟩,⟨Q,-⟩,⟨R,-⟩,⟨U,-⟩,⟨V,-⟩⟩:=j.out.A0 p;obtain⟨-,-,⟨X,-⟩,⟨Y,-⟩,-⟩:=g.out.A0 p;obtain⟨-,-,⟨Z,-⟩,⟨n6,-⟩,-⟩:=i.out.A0 p
   (try go_wp2_with fail)
   refine hK.out _ _ (by(try dsimp only);go_keep) ?_;clear hK K hHeld;intro hHeld
   try simp only[Act.put,s1,s2,s3]
   refine rd [3] (rc (fun K hK=>?_) .nil);go_simp;go_at_call 128;refine(LA v0 v1 v2 v3 lo hi W m.rs m.rb _ ?_ HR.out gA.out).mono ?_
   ·exact Hp.out.A0 (A7 D p)
   rintro e F ⟨vt,rfl,A,E⟩;obtain⟨G,H,rfl,-⟩:=CV A;have d:Below b.heap.size b F:=A7 p E;obtain⟨⟨O,-⟩,⟨P,-⟩,⟨Q,-⟩,⟨R,-⟩,⟨U,-⟩,⟨V,-⟩⟩:=j.out.A0 d;obtain⟨-,-,⟨X,-⟩,⟨Y,-⟩,-⟩:=g.out.A0 d;obtain⟨-,-,⟨Z,-⟩,⟨n6,-⟩,-⟩:=i.out.A0 d
   (try go_wp2_with fail)
   refine hK.out _ _ (by(try dsimp only);go_keep) ?_;clear hK K hHeld;intro hHeld
   try simp only[Act.put,s1,s2,s3]
   refine rd [7] (rc (fun K hK=>?_) .nil);go_simp;go_at_call 128;refine(LA v0 v1 v2 v3 lo hi W S.rs S.rb _ ?_ HR.out pA.out).mono ?_
   ·exact Hp.out.A0 (A7 D d)
   rintro e C ⟨va,rfl,q,k⟩;obtain⟨t,u,rfl,-⟩:=CV q;have n:Below b.heap.size b C:=A7 d k;obtain⟨⟨O,-⟩,⟨P,-⟩,⟨Q,-⟩,⟨R,-⟩,⟨U,-⟩,⟨V,-⟩⟩:=j.out.A0 n;obtain⟨-,-,⟨X,-⟩,⟨Y,-⟩,-⟩:=g.out.A0 n;obtain⟨-,-,⟨Z,-⟩,⟨n6,-⟩,-⟩:=i.out.A0 n
   (try go_wp2_with fail)
   refine hK.out _ _ (by(try dsimp only);go_keep) ?_;clear hK K hHeld;intro hHeld
   try simp only[Act.put,s1,s2,s3]
   refine tk 9 (h:=?_);rw[vD]at N;have oB:=(N.A0 E).A0 k;have lA:=A.A0 k;have bD:(b.drew.alloc (.cells #[.slice none 0 0] 39)).heap.size=b.heap.size+1:=World.size_alloc _ _;have nE:(b.alloc (.cells #[.slice none 0 0] 39)).drew.heap.size=b.heap.size+1:=World.size_alloc _ _;have dF:=E.size;have kA:Value.ownBlock (.slice G (AF W.pool m.rs m.rb).length H)≠some b.heap.size:=fun e=>by have:=(A.lt e).1;omega
   have jA:Value.ownBlock (.slice t (AF W.pool S.rs S.rb).length u)≠some b.heap.size:=fun e=>by have:=(q.lt e).1;omega
   obtain⟨tB,vB⟩:=oB;refine rd [10] (rc (fun K hK=>?_) .nil);go_simp;have a:Below b.heap.size b (C.setCell ⟨b.heap.size,0,none⟩ (.slice t (AF W.pool S.rs S.rb).length u)):=n.setCell (show b.heap.size<=b.heap.size by omega) _;obtain⟨⟨O,-⟩,⟨P,-⟩,⟨Q,-⟩,⟨R,-⟩,⟨U,-⟩,⟨V,-⟩⟩:=j.out.A0 a;obtain⟨-,-,⟨X,-⟩,⟨Y,-⟩,-⟩:=g.out.A0 a;obtain⟨-,-,⟨Z,-⟩,⟨n6,-⟩,-⟩:=i.out.A0 a
   (try go_wp2_with fail)
   refine hK.out _ _ (by(try dsimp only);go_keep) ?_;clear hK K hHeld;intro hHeld
   try simp only[Act.put,s1,s2,s3]
   refine wpAnyH_done (by kernel_rfl) ?_ _;have l:=A4 (show AJ (C.setCell ⟨b.heap.size,0,none⟩ (.slice t (AF W.pool S.rs S.rb).length u)) b.heap.size 0 (.slice t (AF W.pool S.rs S.rb).length u)from AJ.set ⟨tB,vB⟩ _);have s:=A4 ((lA.putNe kA 0 (.slice t (AF W.pool S.rs S.rb).length u)).mono (Nat.zero_le _));have r:=A4 ((q.putNe jA 0 (.slice t (AF W.pool S.rs S.rb).length u)).mono (Nat.zero_le _));have B:=A4 (j.out.A0 a);have v:=A4 (g.out.A0 a);have y:=A4 (i.out.A0 a);have z:=A7 D a;clear a hHeld O P Q R U V X Y Z n6 A q lA kA jA;generalize (C.setCell ⟨b.heap.size,0,none⟩ (.slice t (AF W.pool S.rs S.rb).length u))=wz at l s r B v y z ⊢;generalize b.heap.size=T at l ⊢;revert l s r B v y z;revert T wz;revert G H t u;exact hfin.out
 intro G H t u wz T s r B v y z l;have gF:=De W.pool m.rs m.rb;have iF:=De W.pool S.rs S.rb;have mD:=A4 (show Bq (AF W.pool m.rs m.rb).length (AO (AF W.pool m.rs m.rb)) (AS (AF W.pool m.rs m.rb))from Oo HR.out (fun x hx=>(Fs HR.out gA.out hx).1) (Mo HR.out gA.out) (by omega));have nA:=A4 (mem_iff W m S);clear gA pA HR Hp B;generalize AF W.pool m.rs m.rb=tree at *;generalize AF W.pool S.rs S.rb=old at *;have fF:(Cd tree old).length<=tree.length:=List.length_filter_le _ _;have jF:(BU tree old).length<=tree.length:=List.length_filter_le _ _;have eF:(BU old (Cd tree old)).length<=old.length:=List.length_filter_le _ _;have kF:(EG tree S.time).length<=tree.length:=List.length_filter_le _ _;have lF:∀(fn:Fn) (first cap:Array Value) (w:World),(Instr.makeFunc fn first cap).run Tryz.prog w = .ok (.func fn first cap) w:=fun _ _ _ _=>rfl
 go_wp2_with fail;refine(zCh _ _ 0 _ 0 _ T tree old wz (s.out.atW (by omega)) (by omega) (r.out.atW (by omega)) l.out.1).mono ?_;rintro e w3 ⟨vk,vo,rfl,rB,sB,-,J⟩;obtain⟨ak,ck,rfl,-⟩:=CV rB;obtain⟨ao,co,rfl,-⟩:=CV sB;have o:=A9 w3 (.cells #[.slice ak (Cd tree old).length ck] 39);have fA:=A4 ((l.out.A0 J).A0 o);have eA:=A4 ((s.out.A0 J).A0 o);have dA:=A4 ((r.out.A0 J).A0 o);have bB:=A4 (rB.A0 o);have fB:=A4 (sB.A0 o);have cB:=A4 ((v.out.A0 J).A0 o);have gB:=A4 ((y.out.A0 J).A0 o);have mA:=A4 (show AJ (w3.alloc (.cells #[.slice ak (Cd tree old).length ck] 39)) w3.heap.size 0 (.slice ak (Cd tree old).length ck)from B2 (heap_alloc_new _ _) rfl);have kB:=A7 (A7 z J) o;clear rB sB J o l s r v y z;obtain⟨c0,-⟩:=fA.out;go_wp2_with fail;clear c0;generalize w3.alloc (.cells #[.slice ak (Cd tree old).length ck] 39)=w4 at fA eA dA bB fB cB gB mA kB ⊢;generalize w3.heap.size=T9 at mA ⊢;refine(zBj _ _ 0 _ 0 _ T9 old (Cd tree old) w4 (dA.out.atW (by omega)) (by omega) (bB.out.atW (by omega)) mA.out.1).mono ?_;rintro e w5 ⟨vx,oF,rfl,-,pB,-,M⟩;obtain⟨aF,bF,rfl,-⟩:=CV pB;have aB:=A4 (eA.out.A0 M);have lC:=A4 (fB.out.A0 M);have kC:=A4 (cB.out.A0 M);have nC:=A4 (gB.out.A0 M);have tA:=A4 pB;have pC:=A7 kB M;clear pB M fA eA dA bB fB cB gB mA kB;obtain⟨-,⟨c4,-⟩,-⟩:=nC.out;go_wp2_with fail;clear c4;refine(ZG _ tree.length 0 _ (AO tree) (AS tree) S.time w5 (aB.out.atW (by omega))).mono ?_;rintro e w6 ⟨vy,vz,ly,lz,rfl,hY,-,hy,-,-,iA⟩;rw[(hY.1 ⟨mD.out,pD.out⟩).trans (Um tree S.time)]at hy;have aE:∀w,(Instr.field 165 (.agg #[vy,vz]) 0).run Tryz.prog w = .ok vy w:=YM vy vz;have oC:=A4 hy;have mC:=A4 (lC.out.A0 iA);have eB:=A4 (kC.out.A0 iA);have vA:=A4 (tA.out.A0 iA);have lB:=A7 pC iA;clear hY hy iA aB lC kC nC tA pC;obtain⟨-,⟨c1,-⟩,-,⟨c3,-⟩,⟨c5,-⟩⟩:=eB.out;by_cases h1:m.rb<=m.time;rotate_left
 ·have Hn:=A4 (show ¬KF W m S from fun h=>h1 (nA.out.1 h).1);go_wp2;go_ret;exact⟨AG.no Hn.out,lB⟩
 have H1:=A4 h1;go_wp2_with fail;clear h1 c1 c3 c5 aE;refine(ZY _ _ _ 0 _ _ 0 _ _ _ _ _ w6 (oC.out.atW (by omega)) (mC.out.atW (by omega))).mono ?_;rintro e w7 ⟨⟨t7,rfl,cD⟩,sA⟩;have lD:=A4 (eB.out.A0 sA);have jC:=A4 (vA.out.A0 sA);have mB:=A7 lB sA;have rA:=A4 cD;clear cD sA oC mC eB vA lB;obtain⟨-,⟨c1,-⟩,-,⟨c3,-⟩,⟨c5,-⟩⟩:=lD.out;cases t7
 ·have Hn:=A4 (show ¬KF W m S from fun h=>absurd (rA.out.2 (nA.out.1 h).2.1) (by simp));clear rA;go_wp2;go_ret;exact⟨AG.no Hn.out,mB⟩
 have H2:=A4 (rA.out.1 rfl);clear rA;go_wp2_with fail;clear c1 c3 c5;refine(ZY _ _ _ lo hi _ 0 _ _ _ _ _ w7 (kD.out.A0 mB) (jC.out.atW (by omega))).mono ?_;rintro e w8 ⟨⟨t8,rfl,dD⟩,tC⟩;have oD:=A4 (dD.trans ⟨fun h=>nA.out.2 ⟨H1.out,H2.out,h⟩,fun h=>(nA.out.1 h).2.2⟩);have sD:=A7 mB tC;clear dD tC;go_wp2;go_ret;exact⟨⟨t8,rfl,oD.out⟩,sD⟩
theorem zIB{W:A5}(h:∀i,i<memN W->As W.pool (AB W i).rs (AB W i).rb)(x:Int):As W.pool (AC W x).rs (AC W x).rb:=by
 by_cases b:∃k,B5 W x k
 ·obtain⟨k,a⟩:=b;rw[CM a];have:=h k (by unfold memN;have:=a.1;omega);rw[CU a.1]at this;exact this
 ·have:AC W x=Ap:=by
   unfold AC;rw[dif_neg b]
  rw[this];exact Or.inl ⟨rfl,rfl⟩
def ND(W:A5)(i:Nat):Prop:=KF W (AB W i) (AC W (AB W i).A6)
def Zg(W:A5):Prop:=(∀i,i<memN W->As W.pool (AB W i).rs (AB W i).rb)/\∀i,i<memN W->ND W i
def Pw(W:A5):Prop:=∀x,Ip (AC W x).time
theorem zCv(y v1 D E:Value)(lo hi:Nat)(W:A5)(A:Nat)(w:World)(h:BR w lo hi y v1 D E W)(hs:W.sn<=8)(hp:W.pn<=20)(u:Fj w lo hi W A)(hD:Iv W)(Q:E7 W)(hR:Ag W.pool)(hT:Pw W) :
 Calls Tryz.prog 77 #[BS y v1 D E W,Kb A] w fun e w'=>AG (Zg W) e/\Below w.heap.size w w':=by
 have Hp:=A4 h;have HA:=A4 u;have HD:=A4 hD;have iA:=A4 Q;have HR:=A4 hR;have cA:=A4 hT;clear h u hD Q hR hT;have Y:=A9 w (.cells #[y,v1,.int .i64 W.time,.int .i64 W.next,D,E] 30);have U:=A4 (Aj.new w y v1 (.int .i64 W.time) (.int .i64 W.next) D E 30);obtain⟨S,T,x4,x6,x8,rA⟩:=U.out.c;go_enter Tryz.func77,Tryz.ntmps77;go_wp2_with fail;clear S T x4 x6 x8 rA;generalize w.alloc (.cells #[y,v1,.int .i64 W.time,.int .i64 W.next,D,E] 30)=W0 at Y U ⊢;refine(Rt y v1 D E lo hi W W0 (Hp.out.A0 Y) hs hp).mono ?_;rintro e Z ⟨vm,vd,rfl,hm,H⟩;have X:=A4 hm;have J:=A4 (U.out.A0 H);have q:=A7 Y H;obtain⟨am,cm,rfl,cC⟩:=id hm.C5;have dC:memN W<=28:=by unfold memN;omega
 clear Y H hm U;go_wp2
 go_loopw [14] (fun i wr=>∃k:Nat,k<=memN W/\i = .int .i64 k/\(∀j,j<k->As W.pool (AB W j).rs (AB W j).rb)/\Below Z.heap.size Z wr) (fun i _=>memN W - (intOf i).toNat)
 case atStart=>exact⟨0,Nat.zero_le _,rfl,fun j hj=>absurd hj (Nat.not_lt_zero _),Below.refl _ _⟩
 case round=>
  obtain⟨k,hk,rfl,l,r⟩:=hrel;have b:=A4 l;clear l;by_cases a:k<memN W
  ·have N:(k:Int)<(memN W:Int):=(by omega);obtain⟨g,cg,e,q0,q1,q2,q3,R⟩:=(X.out.A0 r).cells k a;obtain⟨-,B,C,t,-,-⟩:=id ((X.out.A0 r).dead k a);rw[t]at R;cases e;have n:=A9 wr (.cells #[.int .i64 (AB W k).A6,.int .i64 (AB W k).time,.int .i64 (AB W k).rs,.int .i64 (AB W k).rb,.slice B (AB W k).dn C] 161);have z:=A4 (G3.new wr (.int .i64 (AB W k).A6) (.int .i64 (AB W k).time) (.int .i64 (AB W k).rs) (.int .i64 (AB W k).rb) (.slice B (AB W k).dn C) 161);have o:=A4 ((J.out.A0 r).A0 n);have m:=A7 r n;clear t n;obtain⟨⟨y0,-⟩,⟨y1,-⟩,⟨y2,-⟩,⟨y3,-⟩,⟨y4,-⟩⟩:=z.out;obtain⟨⟨S,-⟩,⟨T,-⟩,-⟩:=o.out;go_wp2_with fail;clear q0 q1 q2 q3 R y0 y1 y2 y3 y4 S T;refine(zCr y v1 lo hi W.pool (AB W k).rs (AB W k).rb _ (Hp.out.pool.A0 (A7 q m)) HR.out).mono ?_;rintro e w6 ⟨⟨t6,rfl,O⟩,s⟩;have v:=A4 (O.trans (QC HR.out));have p:=A7 m s;clear O s m z o;cases t6
   ·have G:=A4 (show ¬As W.pool (AB W k).rs (AB W k).rb from fun u=>absurd (v.out.2 u) (by simp));clear v;go_wp2;go_ret;exact⟨AG.no fun u=>G.out (u.1 k a),A7 q p⟩
   ·have G:=A4 (v.out.1 rfl);clear v;go_wp2;go_roundw
    case rel=>exact⟨k+1,by omega,by go_num,Bf a b.out G.out,p⟩
    case measure=>simp[intOf];omega
  obtain rfl:k=memN W:=(by omega);have F:=A4 b.out;clear b a hk;go_wp2
  go_loopw [27] (fun i wr=>∃k:Nat,k<=memN W/\i = .int .i64 k/\(∀j,j<k->ND W j)/\Below Z.heap.size Z wr) (fun i _=>memN W - (intOf i).toNat)
  case atStart=>exact⟨0,Nat.zero_le _,rfl,fun j hj=>absurd hj (Nat.not_lt_zero _),r⟩
  case round=>
   clear r;obtain⟨k,hk,rfl,l,r⟩:=hrel;have b:=A4 l;clear l;by_cases a:k<memN W;rotate_left
   ·obtain rfl:k=memN W:=(by omega);go_wp2;go_ret;exact⟨AG.yes ⟨F.out,b.out⟩,A7 q r⟩
   have N:(k:Int)<(memN W:Int):=(by omega);obtain⟨g,cg,e,q0,q1,q2,q3,R⟩:=(X.out.A0 r).cells k a;have x:=(X.out.A0 r).dead k a;obtain⟨-,B,C,t,-,-⟩:=id x;rw[t]at R x;cases e;have n:=A9 wr (.cells #[.int .i64 (AB W k).A6,.int .i64 (AB W k).time,.int .i64 (AB W k).rs,.int .i64 (AB W k).rb,.slice B (AB W k).dn C] 161);have z:=A4 (G3.new wr (.int .i64 (AB W k).A6) (.int .i64 (AB W k).time) (.int .i64 (AB W k).rs) (.int .i64 (AB W k).rb) (.slice B (AB W k).dn C) 161);have o:=A4 ((J.out.A0 r).A0 n);have K:=A4 (x.A0 n);have m:=A7 r n;have I:=A4 (HA.out.A0 (A7 q m));have L:=A4 (Hp.out.A0 (A7 q m));have jA:=A4 (iA.out k a);have bA:=A4 (F.out k a);have dA:=A4 (zIB F.out (AB W k).A6);have gA:=A4 (cA.out (AB W k).A6);have fA:=A4 (show ND W k↔KF W (AB W k) (AC W (AB W k).A6)from Iff.rfl);clear t n x;generalize AB W k=mk at *;go_wp2_with fail;clear q0 q1 q2 q3 R;generalize wr.alloc (.cells #[.int .i64 mk.A6,.int .i64 mk.time,.int .i64 mk.rs,.int .i64 mk.rb,.slice B mk.dn C] 161)=W2 at z o K I L m ⊢;generalize wr.heap.size=V at z ⊢;obtain⟨⟨y0,-⟩,⟨y1,-⟩,⟨y2,-⟩,⟨y3,-⟩,⟨y4,-⟩⟩:=z.out;obtain⟨S,x1,T,x3,x4,x5⟩:=o.out.c;go_region_held3 (fun w'=>w'.cell? ⟨w.heap.size,0,none⟩=some y/\w'.cell? ⟨w.heap.size,1,none⟩=some v1/\w'.cell? ⟨w.heap.size,2,none⟩=some (.int .i64 W.time)/\w'.cell? ⟨w.heap.size,3,none⟩=some (.int .i64 W.next)/\w'.cell? ⟨w.heap.size,4,none⟩=some D/\w'.cell? ⟨w.heap.size,5,none⟩=some E/\w'.cell? ⟨V,0,none⟩=some (.int .i64 mk.A6)/\w'.cell? ⟨V,1,none⟩=some (.int .i64 mk.time)/\w'.cell? ⟨V,2,none⟩=some (.int .i64 mk.rs)/\w'.cell? ⟨V,3,none⟩=some (.int .i64 mk.rb)/\w'.cell? ⟨V,4,none⟩=some (.slice B mk.dn C)) (go_keep)
    (first
     | (go_at_call 122;refine(Jy lo hi W A mk.A6 _ ?_ HD.out jA.out hp).mono ?_;(exact I.out.A0 (Below.refl _ _).drew);rintro e w6 ⟨aa,ca,rfl,mA,s⟩;have d:=Cp s;obtain⟨⟨k0,_⟩,⟨k1,_⟩,⟨k2,_⟩,⟨k3,_⟩,⟨k4,_⟩,⟨k5,_⟩⟩:=o.out.A0 d;obtain⟨⟨l0,_⟩,⟨l1,_⟩,⟨l2,_⟩,⟨l3,_⟩,⟨l4,_⟩⟩:=z.out.A0 d)
     | (go_at_call 126;refine(zDE y v1 D E lo hi W mk (AC W mk.A6) B aa C ca _ (L.out.A0 d) HR.out bA.out dA.out (K.out.A0 d) gA.out).mono ?_;rintro e w7 ⟨⟨t7,rfl,P⟩,p⟩;obtain⟨⟨f0,_⟩,⟨f1,_⟩,⟨f2,_⟩,⟨f3,_⟩,⟨f4,_⟩,⟨f5,_⟩⟩:=(o.out.A0 d).A0 p;obtain⟨⟨g0,_⟩,⟨g1,_⟩,⟨g2,_⟩,⟨g3,_⟩,⟨g4,_⟩⟩:=(z.out.A0 d).A0 p))
   have M:=A7 (A7 m d) p;have v:=A4 (P.trans fA.out.symm);clear P p d s mA k0 k1 k2 k3 k4 k5 l0 l1 l2 l3 l4 f0 f1 f2 f3 f4 f5 g0 g1 g2 g3 g4 S x1 T x3 x4 x5 y0 y1 y2 y3 y4;cases t7
   ·have G:=A4 (show ¬ND W k from fun u=>absurd (v.out.2 u) (by simp));clear v;go_wp2;go_ret;exact⟨AG.no fun u=>G.out (u.2 k a),A7 q M⟩
   ·have G:=A4 (v.out.1 rfl);clear v;go_wp2;go_roundw
    case rel=>exact⟨k+1,by omega,by go_num,Bf a b.out G.out,M⟩
    case measure=>simp[intOf];omega
end Go.Proofs.YtibhefllijahkaaGreatDoor
