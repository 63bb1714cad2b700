/- A part of the proof. -/
import Derived.Test.YtddigaohmfpepaaGreatDoorF7
import Derived.Deep.DeepCutAuto
import Derived.Deep.RegionLawGrows
set_option linter.unusedVariables false
set_option maxRecDepth 20000
set_option maxHeartbeats 4000000
namespace Go.Proofs.YtddigaohmfpepaaGreatDoor
open Go.RowKit
def zHn(l:List (Int×Int))(w:World)(e:Ending)(w':World):Prop:=∃v,e = .returned v/\w'.ownsRow w.heap.size 38 2 v l.length (pcl l)/\Below w.heap.size w w'
def Dj(F:Int->Int->List (Int×Int))(s:AH):Nat->List (Int×Int)
 | 0=>[]
 | k+1=>Dj F s k ++ F (AK s k) (AW s k)
theorem XH(s:AH):∀k,Dj one s k=kidsUp (AK s) (AW s) k
 | 0=>rfl
 | k+1=>by rw[Dj,kidsUp,XH s k]
theorem XG(p:A7)(s:AH):∀k,Dj (Ck p) s k=CR p s k
 | 0=>rfl
 | k+1=>by rw[Dj,CR,XG p s k]
theorem XF{F:Int->Int->List (Int×Int)}(hF:∀a b,(F a b).length<=9)(s:AH):∀k,(Dj F s k).length<=9*k
 | 0=>Nat.le_refl _
 | k+1=>by
  have:=XF hF s k;have:=hF (AK s k) (AW s k);rw[Dj,List.length_append];omega
def IT(p:A7)(F:Int->Int->List (Int×Int))(xs xb:Int):List (Int×Int):=if Nil xs xb then [] else(xs,xb) :: Dj F (p.s xs.toNat) 8
def Lh(p:A7)(L:Int)(F:Int->Int->List (Int×Int)):Prop:=∀(v:Value) (lo hi:Nat) (xs xb:Int) (w:World),CL w lo hi v p.n p.s->(Nil xs xb\/B8 p xs xb)->
 Calls Tryz.prog 170 #[v,.agg #[A0 xs,A0 xb],A0 L] w (zHn (F xs xb) w)
variable{w:World}{n:Nat}{v:Value}
theorem zBS{base K:Nat}{xs:List Value}{cs:Array Value}(h:w.ownsRow base 38 2 v n xs)(hK:w.heap[K]?=some (.cells cs 121 (0,0))):v.ownBlock≠some K:=by
 intro e;rcases h.2 with⟨rfl,_⟩ | ⟨g,cap,b,rfl,_,a,_⟩
 ·simp[Value.ownBlock]at e
 ·simp only[Value.ownBlock,Option.some.injEq]at e;subst e;rw[hK]at a;simp only[Option.some.injEq,Obj.cells.injEq]at a;exact absurd a.2.1 (by decide)
variable{xs xb:Int}
theorem L1(h:¬Nil xs xb):(xs == 0)=false\/(xs == 0)=true/\(xb == 0)=false:=by
 by_cases a:xs=0
 ·right;refine⟨by simp[a],?_⟩;have:xb≠0:=fun b=>h ⟨a,b⟩
  simp[this]
 ·left;simp[a]
theorem zDw(p:A7):Lh p 2 one:=by
 intro v lo hi xs xb w hs j;obtain⟨_,a,c,rfl,_⟩:=id hs;have g:=AB w (.cells #[A0 xs,A0 xb] 38);obtain⟨⟨k,l⟩,⟨m,n⟩⟩:=Ad.new w (A0 xs) (A0 xb) 38;have b:=World.ownsRow_lit (e:=38) (size:=2) (base:=w.heap.size) (w.alloc (.cells #[A0 xs,A0 xb] 38)) #[A0 xs,A0 xb] 1 (by simp) (by unfold maxLen;omega) rfl;rw[World.size_alloc]at b;have d:=AF b;have h:=AF (A9 g (AB _ (.cells #[A0 xs,A0 xb] 38)));clear b;by_cases hn:Nil xs xb
 ·have f:=AF hn;obtain⟨rfl,rfl⟩:=hn;go_enter Tryz.func170,Tryz.ntmps170;go_wp2;go_ret;exact⟨_,rfl,by rw[show one 0 0 = [] from if_pos f.out];exact World.ownsRow_nil _ _ _ _,g⟩
 ·have f:=AF hn;have e0:=L1 hn;clear hn;rcases e0 with e0 | ⟨e0,i⟩
  all_goals
   go_enter Tryz.func170,Tryz.ntmps170;go_wp2;go_ret;exact⟨_,rfl,by rw[show one xs xb = [(xs,xb)] from if_neg f.out];exact d.out,h.out⟩
theorem VY(p:A7)(L:Int)(F:Int->Int->List (Int×Int))(hR:AZ p)(hL:0<=L/\L<2)(hF:∀a b,(F a b).length<=9)(E:Lh p (L+1) F):Lh p L (IT p F):=by
 intro v lo hi xs xb w hs hP;have Hs:=AF hs;obtain⟨_,a,c,rfl,_⟩:=id hs;have ha:=AB w (.cells #[A0 xs,A0 xb] 38);obtain⟨⟨x0,x1⟩,⟨x2,x3⟩⟩:=Ad.new w (A0 xs) (A0 xb) 38;have pB:(L == 2)=false:=by simp;omega
 clear hs;by_cases hn:Nil xs xb
 ·have HN:=AF hn;obtain⟨rfl,rfl⟩:=hn;go_enter Tryz.func170,Tryz.ntmps170;go_wp2;go_ret;exact⟨_,rfl,by rw[show IT p F 0 0 = [] from if_pos HN.out];exact World.ownsRow_nil _ _ _ _,ha⟩
 ·have HN:=AF hn;have e0:=L1 hn;have A:B8 p xs xb:=hP.resolve_left hn;have Hf:=AF (Ey hR A);have R:=AF E;have HF:=AF hF;obtain⟨k,rfl⟩:=Int.eq_ofNat_of_zero_le A.2.1;rw[Int.toNat_natCast]at Hf;have hk:k<p.n:=(by have:=A.2.2.1;omega);have sB:(k:Int)<(p.n:Int):=(by omega);clear hn hP A E hR hF;have x:=World.ownsRow_lit (e:=38) (size:=2) (base:=w.heap.size+1) (w.alloc (.cells #[A0 (k:Int),A0 xb] 38)) #[A0 (k:Int),A0 xb] 1 (by simp) (by unfold maxLen;omega) rfl;rw[World.size_alloc]at x;have C:=AF x;have K:=AB (w.alloc (.cells #[A0 (k:Int),A0 xb] 38)) (.cells #[A0 (k:Int),A0 xb] 38);have J:=A9 ha K;have mA:=(Ad.new w (A0 (k:Int)) (A0 xb) 38).A1 K;clear x0 x1 x2 x3 x ha K;obtain⟨⟨x0,x1⟩,⟨x2,x3⟩⟩:=mA;obtain⟨b,off,ka,kc,rfl,X⟩:=(Hs.out.A1 J).cells hk;have HC:=AF X;obtain⟨q0,q1,q2,_⟩:=X;obtain⟨y0,y1⟩:=(Ad.new w (A0 (k:Int)) (A0 xb) 38).1;obtain⟨y2,y3⟩:=(Ad.new w (A0 (k:Int)) (A0 xb) 38).2;rcases e0 with e0 | ⟨e0,e1⟩
  all_goals
   go_enter Tryz.func170,Tryz.ntmps170;go_wp2_with fail;refine(OD _ _ _ lo hi (p.s k) _ HC.out.slot (Lb Hf.out)).mono ?_;rintro e O ⟨rfl,B⟩;have T:=A9 J B;have y:=C.out.kept (ZP B none) (Or.inr (by simp[Value.ownBlock]));have Q:Hid ((Tryz.prog.info? 121).map (·.size)=some (B9 (p.s k)).size):=by
    show _=_;rw[B9,D4];exact GV
   have D:(O.alloc (.cells (B9 (p.s k)) 121)).heap[O.heap.size]?=some (.cells (B9 (p.s k)) 121 (0,0)):=heap_alloc_last _ _;have HK:=AF D;have S:=AF (y.alloc (.cells (B9 (p.s k)) 121));have gA:=A9 T (AB O (.cells (B9 (p.s k)) 121));have aC:w.heap.size+2<=O.heap.size:=(by have:=B.size;rw[World.size_alloc,World.size_alloc]at this;omega);obtain⟨i0,W,N⟩:=Option.map_eq_some_iff.1 Lv;simp only[Prod.mk.injEq]at N;have Z:=AF (And.intro W N);clear B T y D J x0 x1 x2 x3 y0 y1 y2 y3 q0 q1 q2 HC C W N;go_wp2_with (first
    | (refine wpList_store_row rfl 121 (.tmp 8) (.tmp 23) rfl O.heap.size (B9 (p.s k)) rfl rfl 121 #[Value.int .i64 0,Value.int .i64 0,Value.int .i64 0,Value.int .i64 0,Value.int .i64 0,Value.int .i64 0,Value.int .i64 0,Value.int .i64 0,Value.int .i64 0,Value.int .i64 0,Value.int .i64 0,Value.int .i64 0,Value.int .i64 0,Value.int .i64 0,Value.int .i64 0,Value.int .i64 0] (heap_alloc_last _ _) Q.out (by rw[B9,D4];rfl) (I7 _) ?_;rw[World.setRow_alloc_new]))
   go_loopw [7,24] (fun o i wr=>∃(j:Nat) (oa:Option Addr) (oc:Nat),j<=8/\i=A0 j/\o = .slice oa (((k:Int),xb) :: Dj F (p.s k) j).length oc/\wr.ownsRow (w.heap.size+1) 38 2 o (((k:Int),xb) :: Dj F (p.s k) j).length (pcl (((k:Int),xb) :: Dj F (p.s k) j))/\wr.heap[O.heap.size]?=some (.cells (B9 (p.s k)) 121 (0,0))/\Below w.heap.size w wr) (fun _ i _=>8 - (intOf i).toNat)
   case atStart=>exact⟨0,_,_,Nat.zero_le _,rfl,rfl,S.out,HK.out,gA⟩
   case round=>
    obtain⟨j,oa,oc,hj,rfl,rfl,G,hK,hb⟩:=hrel;have m:=AF G;have z:=AF hK;have Y:O.heap.size<wr.heap.size:=(Array.getElem?_eq_some_iff.1 hK).1;have lB:=XF HF.out (p.s k) j;clear G hK;by_cases lA:j<8
    ·have mB:(j:Int)<8:=(by omega);obtain⟨y0,y1⟩:=Az (i:=j*2) z.out (EM (BC (p.s k)) (by omega));obtain⟨y2,y3⟩:=Az (i:=j*2+1) z.out (EM (BC (p.s k)) (by omega));have fA:Hid (Nil (BC (p.s k) (j*2)) (BC (p.s k) (j*2+1))\/B8 p (BC (p.s k) (j*2)) (BC (p.s k) (j*2+1))):=by
      by_cases hn:Nil (AK (p.s k) j) (AW (p.s k) j)
      ·exact Or.inl hn
      ·exact Or.inr (J5 Hf.out lA hn).1
     go_wp2_with fail;refine(R.out _ lo hi (BC (p.s k) (j*2)) (BC (p.s k) (j*2+1)) _ (Hs.out.A1 hb) fA.out).mono ?_;rintro e w2 ⟨v2,rfl,l,r⟩;obtain⟨na,nc,rfl,_⟩:=Bw l;have tB:=HF.out (BC (p.s k) (j*2)) (BC (p.s k) (j*2+1));have H:=AF l;have h:=AF (m.out.kept (ZP r none) (by cases hv:(Value.slice oa (((k:Int),xb) :: Dj F (p.s k) j).length oc).ownBlock<;>simp));have P:=AF ((r.block _ Y).trans z.out);have U:=A9 hb r;have bC:=r.size;clear l r y0 y1 y2 y3 m z;go_wp2_with (first
      | (at_builtin;refine Jt rfl _ _ 39 rfl (w.heap.size+1) 38 i0 (.agg #[A0 0,A0 0]) 2 16 (by kernel_rfl) Z.out.1 Z.out.2.1 Z.out.2.2.1 Z.out.2.2.2 rfl (by decide) (.slice oa (((k:Int),xb) :: Dj F (p.s k) j).length oc) (((k:Int),xb) :: Dj F (p.s k) j).length (pcl (((k:Int),xb) :: Dj F (p.s k) j)) rfl ?c0 na (F (BC (p.s k) (j*2)) (BC (p.s k) (j*2+1))).length nc (pcl (F (BC (p.s k) (j*2)) (BC (p.s k) (j*2+1)))) rfl (Ip _) (NO _) ?c1 ?c3 ?c4 ?c5 ?_))
     case c0=>exact h.out
     case c1=>
      intro h0;obtain⟨g,cap,e,_,_,_,M⟩:=FI H.out h0;simp only[Value.slice.injEq,true_and]at e;exact⟨g,0,e.1,fun j u hj=>by rw[Nat.zero_add];exact(M j u hj).1⟩
     case c3=>rw[List.length_cons];unfold maxLen;omega
     case c4=>rw[List.length_cons];omega
     case c5=>omega
     intro v3 w3 f d _;have t:((k:Int),xb) :: Dj F (p.s k) (j+1)=(((k:Int),xb) :: Dj F (p.s k) j) ++ F (BC (p.s k) (j*2)) (BC (p.s k) (j*2+1)):=rfl;have V:(Dj F (p.s k) j).length+1+(F (BC (p.s k) (j*2)) (BC (p.s k) (j*2+1))).length=(((k:Int),xb) :: Dj F (p.s k) (j+1)).length:=(by rw[t,List.length_append,List.length_cons]);rw[<-MH,<-t,V]at f;have cA:=AF ((d.block _ (by omega) (fun e=>zBS h.out P.out e.symm)).trans P.out);have iA:=U.grown d U.size (fun q hq=>by have:=h.out.lt q hq;omega);obtain⟨nA,oA,rfl,_⟩:=Bw f;have I:=AF f;clear f d t V;go_wp2;go_roundw
     case rel=>exact⟨j+1,nA,oA,by omega,by go_num,rfl,I.out,cA.out,iA⟩
     case measure=>simp[intOf];omega
    ·obtain rfl:j=8:=(by omega);go_wp2;go_ret;refine⟨_,rfl,?_,hb⟩;rw[show IT p F (k:Int) xb=((k:Int),xb) :: Dj F (p.s k) 8 by unfold IT;rw[if_neg HN.out,Int.toNat_natCast]];exact Nd m.out (by omega)
theorem zDv(p:A7)(c:AZ p):Lh p 1 (Ck p):=by
 have h:=VY p 1 one c (by omega) (fun a b=>by unfold one;split<;>simp) (zDw p);have e:IT p one=Ck p:=by
  funext xs xb;unfold IT Ck Eh;rw[XH]
 rw[e]at h;exact h
theorem VX(p:A7)(a:AZ p):Lh p 0 (AG p):=by
 have h:=VY p 0 (Ck p) a (by omega) (Ut p) (zDv p a);have e:IT p (Ck p)=AG p:=by
  funext xs xb;unfold IT AG;rw[XG]
 rw[e]at h;exact h
def Jv(n:Nat)(f g:Nat->Int)(x y:Int):Prop:=∃j,j<n/\f j=x/\g j=y
variable{lo hi c k:Nat}{a:Option Addr}{f g:Nat->Int}
theorem BG.cellsT(h:BG w lo hi (.slice a n c) n f g)(e:k<n):∃b off,a=some ⟨b,off,none⟩/\w.cell? ⟨b,off+k*2,none⟩=some (A0 (f k))/\w.cell? ⟨b,off+k*2+1,none⟩=some (A0 (g k)):=by
 obtain⟨_,l,m,hv,_,j⟩:=h;simp only[Value.slice.injEq,true_and]at hv;obtain⟨rfl,rfl⟩:=hv;obtain⟨b,off,i,_,_,d⟩:=j (by omega);exact⟨b,off,i,(d k e).1,(d k e).2⟩
theorem BG.take{m c':Nat}(h:BG w lo hi (.slice a n c) n f g)(t:m<=n)(j:m<=c'):BG w lo hi (.slice a m c') m f g:=by
 obtain⟨r,p,q,hv,_,o⟩:=h;simp only[Value.slice.injEq,true_and]at hv;obtain⟨rfl,rfl⟩:=hv;refine⟨by omega,_,c',rfl,j,fun s=>?_⟩;obtain⟨b,off,e,l,k,d⟩:=o (by omega);exact⟨b,off,e,l,k,fun i hi=>d i (by omega)⟩
theorem zCH(v:Value)(n lo hi:Nat)(f g:Nat->Int)(x y:Int)(w:World)(s:BG w lo hi v n f g) :
 Calls Tryz.prog 192 #[v,.agg #[A0 x,A0 y]] w fun e w'=>(∃r:Int,e = .returned (A0 r)/\(0<=r↔Jv n f g x y))/\Below w.heap.size w w':=by
 have C:=AF s;obtain⟨F,a,c,rfl,K,_⟩:=id s;unfold maxLen at F;clear s;have E:=AB w (.cells #[A0 x,A0 y] 38);have B:=AF (Ad.new w (A0 x) (A0 y) 38);go_enter Tryz.func192,Tryz.ntmps192;go_wp2
 go_loopw [8] (fun i wr=>∃k:Nat,k<=n/\i=A0 k/\¬Jv k f g x y/\Ad wr w.heap.size (A0 x) (A0 y)/\Below w.heap.size w wr) (fun i _=>n - (intOf i).toNat)
 case atStart=>exact⟨0,Nat.zero_le _,rfl,fun ⟨j,z,_⟩=>absurd z (Nat.not_lt_zero _),B.out,E⟩
 case round=>
  obtain⟨k,J,rfl,p,u,q⟩:=hrel;have m:=AF p;have t:=AF u;clear p u;obtain⟨⟨L,M⟩,⟨N,O⟩⟩:=t.out;by_cases o:k<n
  ·have A:(k:Int)<(n:Int):=(by omega);obtain⟨b,off,rfl,G,q1⟩:=(C.out.A1 q).cellsT o;by_cases d:x=f k/\y=g k
   ·have H:=AF (show Jv n f g x y from⟨k,o,d.1.symm,d.2.symm⟩);rw[<-d.1]at G;rw[<-d.2]at q1;clear d;go_wp2
    go_quiet (fail)
    go_wp2;go_ret;exact⟨⟨_,rfl,⟨fun _=>H.out,fun _=>Int.natCast_nonneg _⟩⟩,Js q _⟩
   ·have H:=AF d;have e0:(x == f k)=false\/(x == f k)=true/\(y == g k)=false:=by
     by_cases h:x=f k
     ·right;refine⟨by simp[h],?_⟩;have:y≠g k:=fun D=>d ⟨h,D⟩
      simp[this]
     ·left;simp[h]
    clear d;rcases e0 with e0 | ⟨e0,I⟩
    all_goals
     go_wp2
     go_quiet (fail)
     go_wp2;go_roundw
     case rel=>
      refine⟨k+1,by omega,by go_num,?_,t.out.A1 (Js (Below.refl _ _) _),Js q _⟩;rintro⟨j,z,l⟩;by_cases e:j=k
      ·subst e;exact H.out ⟨l.1.symm,l.2.symm⟩
      ·exact m.out ⟨j,by omega,l⟩
     case measure=>simp[intOf];omega
  ·obtain rfl:k=n:=(by omega);go_wp2;go_ret;exact⟨⟨-1,rfl,⟨fun h=>absurd h (by omega),fun h=>absurd h m.out⟩⟩,q⟩
theorem ZH(v:Value)(n lo hi:Nat)(f g:Nat->Int)(x y:Int)(w:World)(b:BG w lo hi v n f g) :
 Calls Tryz.prog 173 #[v,.agg #[A0 x,A0 y]] w fun e w'=>AJ (Jv n f g x y) e/\Below w.heap.size w w':=by
 have j:=AF b;obtain⟨m,a,c,rfl,o,_⟩:=id b;clear b;have d:=AB w (.cells #[A0 x,A0 y] 38);go_enter Tryz.func173,Tryz.ntmps173;go_wp2_with fail;refine(zCH _ n lo hi f g x y _ (j.out.A1 d)).mono ?_;rintro e w' ⟨⟨r,rfl,i⟩,h⟩;have k:=AF i;have l:=A9 d h;clear i h;go_wp2;go_ret;exact⟨⟨_,rfl,by simpa using k.out⟩,l⟩
def PI(p:A7)(n:Nat)(f g:Nat->Int):Prop:=∀i,i<n->¬Jv i f g (f i) (g i)/\¬Has p.hn p.h (f i)
theorem zW(N v1 v:Value)(lo hi lo' hi' n:Nat)(p:A7)(f g:Nat->Int)(w:World)(D:CD w lo hi N v1 p)(J:BG w lo' hi' v n f g) :
 Calls Tryz.prog 169 #[.agg #[N,v1],v] w fun e w'=>AJ (PI p n f g) e/\Below w.heap.size w w':=by
 have Y:=AF D;have P:=AF J;obtain⟨a,c,y,c',rfl,rfl⟩:∃a c y c',N = .slice a p.n c/\v1 = .slice y p.hn c':=by
  obtain⟨⟨_,a,c,D,_⟩,⟨_,y,c',Z,_⟩⟩:=D;exact⟨a,c,y,c',D,Z⟩
 obtain⟨m1,la,W,rfl,mc,_⟩:=id J;unfold maxLen at m1;clear D J;have ha:=AB w (.cells #[.slice a p.n c,.slice y p.hn c'] 26);have X:=AF (Ad.new w (.slice a p.n c) (.slice y p.hn c') 26);go_enter Tryz.func169,Tryz.ntmps169;go_wp2
 go_loopw [9] (fun i wr=>∃k:Nat,k<=n/\i=A0 k/\PI p k f g/\Ad wr w.heap.size (.slice a p.n c) (.slice y p.hn c')/\Below w.heap.size w wr) (fun i _=>n - (intOf i).toNat)
 case atStart=>exact⟨0,Nat.zero_le _,rfl,fun j hj=>absurd hj (Nat.not_lt_zero _),X.out,ha⟩
 case round=>
  obtain⟨k,hk,rfl,z,Q,K⟩:=hrel;have x:=AF z;have H:=AF Q;clear z Q;by_cases u:k<n
  · have R:(k:Int)<(n:Int):=by omega
    have cA:(k:Int)<=(W:Int):=(by omega);obtain⟨b,off,rfl,q0,q1⟩:=(P.out.A1 K).cellsT u;have A:=AB wr (.cells #[A0 (f k),A0 (g k)] 38);have o:=AF (H.out.A1 A);have F:=AF (Ad.new wr (A0 (f k)) (A0 (g k)) 38);have q:=A9 K A;have dA:w.heap.size<wr.heap.size:=H.out.1.lt;have L:(wr.alloc (.cells #[A0 (f k),A0 (g k)] 38)).heap.size=wr.heap.size+1:=World.size_alloc _ _;go_upto_region 4 with fail;generalize wr.alloc (.cells #[A0 (f k),A0 (g k)] 38)=wx at o F q L ⊢;clear q0 q1 A H;have s:=AF ((P.out.A1 q).take (m:=k) (c':=W) (by omega) (by omega));obtain⟨⟨x0,x1⟩,⟨x2,x3⟩⟩:=o.out;obtain⟨⟨y0,y1⟩,⟨y2,y3⟩⟩:=F.out;by_cases G:Jv k f g (f k) (g k)
    · have B:=AF G
      clear G
      first
       | (go_region_with (first
           | (go_at_call 173
              refine(ZH _ k lo' hi' f g (f k) (g k) _ ?_).mono ?_
              (first | exact s.out | exact s.out.A1 (Below.refl _ _).drew)
              rintro e O ⟨⟨M,rfl,r⟩,l⟩;obtain rfl:M=true:=r.2 B.out;clear r;have d:Below wx.heap.size wx O:=(by first | exact l | exact Cp l);obtain⟨⟨S,_⟩,⟨T,_⟩⟩:=o.out.A1 d;obtain⟨⟨U,_⟩,⟨V,_⟩⟩:=F.out.A1 d)))
       | fail
      all_goals
       have t:=A9 q d;go_wp2;go_ret;exact⟨AJ.no fun h=>(h k u).1 B.out,t⟩
    · have B:=AF G
      clear G;go_region_held3 (fun w'=>w'.cell? ⟨w.heap.size,0,none⟩=some (.slice a p.n c)/\w'.cell? ⟨w.heap.size,1,none⟩=some (.slice y p.hn c')/\w'.cell? ⟨wr.heap.size,0,none⟩=some (A0 (f k))/\w'.cell? ⟨wr.heap.size,1,none⟩=some (A0 (g k))) (go_keep)
       (first
         | (go_at_call 173
            refine(ZH _ k lo' hi' f g (f k) (g k) _ ?_).mono ?_
            (first | exact s.out | exact s.out.A1 (Below.refl _ _).drew)
            rintro e O ⟨⟨M,rfl,r⟩,l⟩;obtain rfl:M=false:=BQ r B.out;clear r;have d:Below wx.heap.size wx O:=(by first | exact l | exact Cp l);obtain⟨⟨S,_⟩,⟨T,_⟩⟩:=o.out.A1 d;obtain⟨⟨U,_⟩,⟨V,_⟩⟩:=F.out.A1 d)
         | (go_at_call 164
            refine(Oc _ p.hn lo hi p.h (f k) _ ?_).mono ?_;exact(Y.out.2.A1 (A9 q d));rintro e w3 ⟨⟨t3,rfl,E⟩,rfl⟩))
      have t:=A9 q d;have I:=AF (o.out.A1 d);have C:=AF E;clear E d l x0 x1 x2 x3 y0 y1 y2 y3 S T U V;cases t3
      · go_wp2
        go_roundw
        case rel=>exact⟨k+1,by omega,by go_num,Br (n:=n) u x.out ⟨B.out,fun h=>absurd (C.out.2 h) (by simp)⟩,I.out,t⟩
        case measure=>simp[intOf];omega
      · go_wp2
        go_ret;exact⟨AJ.no fun h=>(h k u).2 (C.out.1 trivial),t⟩
  · obtain rfl:k=n:=by omega
    go_wp2;go_ret;exact⟨AJ.yes x.out,K⟩
theorem zG3{base:Nat}{l:List (Int×Int)}(f:l.length<=maxLen)(h:w.ownsRow base 38 2 v l.length (pcl l)):BG w 0 w.heap.size v l.length (fun i=>(l.getD i (0,0)).1) (fun i=>(l.getD i (0,0)).2):=by
 by_cases e:0<l.length
 · obtain⟨g,cap,rfl,c,j,d,b⟩:=FI h e
   refine⟨f,_,cap,rfl,c,fun _=>⟨g,0,rfl,Nat.zero_le _,d,fun i hi=>?_⟩⟩;have get:∀(l:List (Int×Int)) i,i<l.length->(pcl l)[i*2]?=some (A0 (l.getD i (0,0)).1)/\(pcl l)[i*2+1]?=some (A0 (l.getD i (0,0)).2):=by
    intro l
    induction l with
    | nil=>intro i hi;simp at hi
    | cons x l ih=>
      intro i hi;cases i with
      | zero=>exact⟨rfl,rfl⟩
      | succ i=>
        have:=ih i (by simpa using hi);rw[show(i+1)*2=i*2+1+1 by omega];simpa[pcl]using this
   rw[Nat.zero_add];exact⟨(b _ _ (get l i hi).1).1,(b _ _ (get l i hi).2).1⟩
 · obtain⟨a,cap,rfl,c⟩:=Bw h
   exact⟨f,a,cap,rfl,c,fun h=>absurd h e⟩
theorem zBC(p:A7)(l:List (Int×Int)):PI p l.length (fun i=>(l.getD i (0,0)).1) (fun i=>(l.getD i (0,0)).2)↔Rj p l:=by
 have a:∀i (h:i<l.length),l.getD i (0,0)=l[i]:=fun i h=>by rw[List.getD_eq_getElem?_getD,List.getElem?_eq_getElem h,Option.getD_some]
 constructor
 · intro h
   refine⟨?_,fun x m=>?_⟩
   · rw[List.Nodup,List.pairwise_iff_getElem]
     intro i j hi b c e;refine(h j b).1 ⟨i,c,?_,?_⟩
     · show(l.getD i (0,0)).1=(l.getD j (0,0)).1
       rw[a i hi,a j b,e]
     · show(l.getD i (0,0)).2=(l.getD j (0,0)).2
       rw[a i hi,a j b,e]
   · obtain⟨i,hi,rfl⟩:=List.getElem_of_mem m
     have:=(h i hi).2;simp only[a i hi]at this;exact this
 · rintro⟨g,k⟩ i hi
   refine⟨?_,?_⟩
   · rintro⟨j,b,d,f⟩
     simp only[a i hi,a j (by omega)]at d f;rw[List.Nodup,List.pairwise_iff_getElem]at g;exact g j i (by omega) hi b (Prod.ext d f)
   · simp only[a i hi]
     exact k _ (List.getElem_mem hi)
theorem Z8(R v1:Value)(lo hi:Nat)(p:A7)(xs xb:Int)(w:World)(H:CD w lo hi R v1 p)(U:AZ p) :
 Calls Tryz.prog 129 #[.agg #[R,v1],.agg #[A0 xs,A0 xb]] w fun e w'=>AJ (Pt p xs xb) e/\Below w.heap.size w w':=by
 have r:=AF H;have G:=AF U;obtain⟨a,c,y,c',rfl,rfl⟩:∃a c y c',R = .slice a p.n c/\v1 = .slice y p.hn c':=by
  obtain⟨⟨_,a,c,H,_⟩,⟨_,y,c',h3,_⟩⟩:=H;exact⟨a,c,y,c',H,h3⟩
 clear H U;have E:=SV w (.slice a p.n c) (.slice y p.hn c') (A0 xs) (A0 xb) 26 38;by_cases hn:Nil xs xb
 · have M:=AF hn
   obtain⟨rfl,rfl⟩:=hn;obtain⟨_,_,b,_⟩:=E;go_enter Tryz.func129,Tryz.ntmps129;go_wp2;go_ret;exact⟨AJ.yes (Or.inl M.out),b⟩
 · have M:=AF hn
   have e0:=L1 hn;clear hn;have l:Hid (∀t:Bool,(t=true↔B8 p xs xb/\NA p (p.s xs.toNat)/\Rj p (AG p xs xb))->AJ (Pt p xs xb) (.returned (.bool t))):=fun t ht=>⟨t,rfl,ht.trans ⟨fun h=>Or.inr h,fun h=>h.resolve_left M.out⟩⟩
   go_enter Tryz.func129,Tryz.ntmps129;go_upto_region 1 with fail;generalize (w.alloc (.cells #[.slice a p.n c,.slice y p.hn c'] 26)).alloc (.cells #[A0 xs,A0 xb] 38)=W at E ⊢;obtain⟨T,V,b,hz⟩:=E;have B:=AF T;have x:=AF V;clear T V
   go_cut [7] (fun v wc=>v = .bool false/\W=wc)
   case first=>
    obtain⟨⟨y0,y1⟩,⟨y2,y3⟩⟩:=x.out;rcases e0 with e0 | ⟨e0,e1⟩
    all_goals
     go_wp2_with fail
     go_meet
     case rel=>exact⟨rfl,rfl⟩
   case rest=>
    obtain⟨rfl,rfl⟩:=hcut;clear e0;obtain⟨⟨x0,x1⟩,⟨x2,x3⟩⟩:=B.out;obtain⟨⟨y0,y1⟩,⟨y2,y3⟩⟩:=x.out;go_upto_region 3 with fail;by_cases L:B8 p xs xb
    · have u:=AF L
      clear L;by_cases A:NA p (p.s xs.toNat)
      · have k:=AF A
        clear A;go_region_held3 (fun w'=>w'.cell? ⟨w.heap.size,0,none⟩=some (.slice a p.n c)/\w'.cell? ⟨w.heap.size,1,none⟩=some (.slice y p.hn c')/\w'.cell? ⟨w.heap.size+1,0,none⟩=some (A0 xs)/\w'.cell? ⟨w.heap.size+1,1,none⟩=some (A0 xb)) (go_keep)
         (first
           | (go_at_call 167
              refine(O5 _ p.n lo hi p.s xs xb _ ?_).mono ?_
              (first | exact r.out.1.A1 b | exact r.out.1.A1 b.drew)
              rintro e J ⟨⟨I,rfl,f⟩,j⟩;rw[O6 G.out]at f;obtain rfl:I=true:=f.2 u.out;clear f;have d:Below W.heap.size W J:=(by first | exact j | exact Cp j);obtain⟨⟨X,_⟩,⟨Y,_⟩⟩:=B.out.A1 d;obtain⟨⟨Z,_⟩,⟨k3,_⟩⟩:=x.out.A1 d)
           | (go_at_call 168
              refine(Xj p G.out _ lo hi xs xb _ ?_ u.out).mono ?_;exact r.out.1.A1 (A9 b d);rintro e w2 ⟨⟨Q,rfl,q⟩,D⟩;obtain rfl:Q=true:=q.2 k.out;clear q;have i:=A9 d D;obtain⟨⟨l0,_⟩,⟨l1,_⟩⟩:=B.out.A1 i;obtain⟨⟨l2,_⟩,⟨l3,_⟩⟩:=x.out.A1 i)
           | (go_at_call 170
              refine(VX p G.out _ lo hi xs xb _ ?_ (Or.inr u.out)).mono ?_;exact r.out.1.A1 (A9 b i);rintro e w3 ⟨v3,rfl,o,N⟩;obtain⟨na,nc,rfl,_⟩:=Bw o;have z:=A9 i N;have P:=zG3 (by have:=Dh p xs xb;unfold maxLen;omega) o;obtain⟨⟨m0,_⟩,⟨m1,_⟩⟩:=B.out.A1 z;obtain⟨⟨m2,_⟩,⟨m3,_⟩⟩:=x.out.A1 z)
           | (go_at_call 169
              refine(zW _ _ _ lo hi 0 w3.heap.size _ p _ _ _ ?_ P).mono ?_;exact r.out.A1 (A9 b z);rintro e w4 ⟨⟨t4,rfl,F⟩,O⟩;rw[zBC]at F;have C:=A9 z O;obtain⟨⟨n0,_⟩,⟨n1,_⟩⟩:=B.out.A1 C;obtain⟨⟨n2,_⟩,⟨n3,_⟩⟩:=x.out.A1 C))
        have m:=A9 b C;have HT:=AF F;clear F;go_wp2;go_ret;exact⟨l.out t4 (HT.out.trans ⟨fun h=>⟨u.out,k.out,h⟩,fun h=>h.2.2⟩),m⟩
      · have k:=AF A
        clear A;refine wp_region_held_drew (S:=(fun w'=>w'.cell? ⟨w.heap.size,0,none⟩=some (.slice a p.n c)/\w'.cell? ⟨w.heap.size,1,none⟩=some (.slice y p.hn c')/\w'.cell? ⟨w.heap.size+1,0,none⟩=some (A0 xs)/\w'.cell? ⟨w.heap.size+1,1,none⟩=some (A0 xb))) (by kernel_rfl) ?_ (fun hHeld=>?_)
        · (try dsimp only)
          go_keep
        refine tk 0 (h:=tk 1 (h:=tk 2 (h:=?_)));refine rd [3] (rc (fun K hK=>?_) .nil);go_simp;go_at_call 167;refine(O5 _ p.n lo hi p.s xs xb _ ?_).mono ?_
        · first | exact r.out.1.A1 b | exact r.out.1.A1 b.drew
        rintro e J ⟨⟨I,rfl,f⟩,j⟩;rw[O6 G.out]at f;obtain rfl:I=true:=f.2 u.out;clear f;have d:Below W.heap.size W J:=(by first | exact j | exact Cp j);obtain⟨⟨X,_⟩,⟨Y,_⟩⟩:=B.out.A1 d;obtain⟨⟨Z,_⟩,⟨k3,_⟩⟩:=x.out.A1 d
        (try go_wp2_with fail)
        refine hK.out _ _ (by(try dsimp only);go_keep) ?_;clear hK K hHeld;intro hHeld
        try simp only[Act.put,s1,s2,s3]
        refine tk 4 (h:=tk 5 (h:=tk 6 (h:=tk 7 (h:=?_))));refine rd [8] (rc (fun K hK=>?_) .nil);go_simp;go_at_call 168;refine(Xj p G.out _ lo hi xs xb _ ?_ u.out).mono ?_
        · exact r.out.1.A1 (A9 b d)
        rintro e w2 ⟨⟨Q,rfl,q⟩,D⟩;obtain rfl:Q=false:=BQ q k.out;clear q;have i:=A9 d D;obtain⟨⟨l0,_⟩,⟨l1,_⟩⟩:=B.out.A1 i;obtain⟨⟨l2,_⟩,⟨l3,_⟩⟩:=x.out.A1 i
        (try go_wp2_with fail)
        refine hK.out _ _ (by(try dsimp only);go_keep) ?_;clear hK K hHeld;intro hHeld
        try simp only[Act.put,s1,s2,s3]
        refine tk 9 (h:=tk 10 (h:=ts 11 (h:=ts 12 (h:=ts 13 (h:=ts 14 (h:=?_))))));refine rd [15] (rc (fun K hK=>?_) .nil);split
        · rename_i g
          exact absurd (show false=true from g) Bool.false_ne_true
        refine hK.out _ _ (by assumption) (fun hHeld=>?_);clear hK K
        try simp only[Act.put,s1,s2,s3]
        refine rd [16] (rc (fun K hK=>?_) .nil);split
        · rename_i g
          exact absurd (show false=true from g) Bool.false_ne_true
        refine hK.out _ _ (by assumption) (fun hHeld=>?_);clear hK K
        try simp only[Act.put,s1,s2,s3]
        refine tk 17 (h:=tk 18 (h:=?_));refine wpAnyH_done (by kernel_rfl) ?_ _;have m:=A9 b i;go_wp2;go_ret;exact⟨l.out false ⟨fun h=>(by cases h),fun h=>absurd h.2.1 k.out⟩,m⟩
    · have u:=AF L
      clear L;refine wp_region_held_drew (S:=(fun w'=>w'.cell? ⟨w.heap.size,0,none⟩=some (.slice a p.n c)/\w'.cell? ⟨w.heap.size,1,none⟩=some (.slice y p.hn c')/\w'.cell? ⟨w.heap.size+1,0,none⟩=some (A0 xs)/\w'.cell? ⟨w.heap.size+1,1,none⟩=some (A0 xb))) (by kernel_rfl) ?_ (fun hHeld=>?_)
      · (try dsimp only)
        go_keep
      refine tk 0 (h:=tk 1 (h:=tk 2 (h:=?_)));refine rd [3] (rc (fun K hK=>?_) .nil);go_simp;go_at_call 167;refine(O5 _ p.n lo hi p.s xs xb _ ?_).mono ?_
      · first | exact r.out.1.A1 b | exact r.out.1.A1 b.drew
      rintro e J ⟨⟨I,rfl,f⟩,j⟩;rw[O6 G.out]at f;obtain rfl:I=false:=BQ f u.out;clear f;have d:Below W.heap.size W J:=(by first | exact j | exact Cp j);obtain⟨⟨X,_⟩,⟨Y,_⟩⟩:=B.out.A1 d;obtain⟨⟨Z,_⟩,⟨k3,_⟩⟩:=x.out.A1 d
      (try go_wp2_with fail)
      refine hK.out _ _ (by(try dsimp only);go_keep) ?_;clear hK K hHeld;intro hHeld
      try simp only[Act.put,s1,s2,s3]
      refine tk 4 (h:=ts 5 (h:=ts 6 (h:=ts 7 (h:=?_))));refine rd [8] (rc (fun K hK=>?_) .nil);split
      · rename_i g
        exact absurd (show false=true from g) Bool.false_ne_true
      refine hK.out _ _ (by assumption) (fun hHeld=>?_);clear hK K
      try simp only[Act.put,s1,s2,s3]
      refine tk 9 (h:=tk 10 (h:=ts 11 (h:=ts 12 (h:=ts 13 (h:=ts 14 (h:=?_))))));refine rd [15] (rc (fun K hK=>?_) .nil);split
      · rename_i g
        exact absurd (show false=true from g) Bool.false_ne_true
      refine hK.out _ _ (by assumption) (fun hHeld=>?_);clear hK K
      try simp only[Act.put,s1,s2,s3]
      refine rd [16] (rc (fun K hK=>?_) .nil);split
      · rename_i g
        exact absurd (show false=true from g) Bool.false_ne_true
      refine hK.out _ _ (by assumption) (fun hHeld=>?_);clear hK K
      try simp only[Act.put,s1,s2,s3]
      refine tk 17 (h:=tk 18 (h:=?_));refine wpAnyH_done (by kernel_rfl) ?_ _;have m:=A9 b d;go_wp2;go_ret;exact⟨l.out false ⟨fun h=>(by cases h),fun h=>absurd h.1 u.out⟩,m⟩
def Dv(p:A7)(rs:Int)(s:AH)(j:Nat):List Int:=rs :: Bk (CR p s j)
def EG(p:A7)(rs:Int)(s:AH)(j i:Nat):List Int:=Dv p rs s j ++ (AK s j :: Bk (kidsUp (AK (p.s (AK s j).toNat)) (AW (p.s (AK s j).toNat)) i))
theorem Xn(p:A7)(s:AH)(j:Nat):∀m,j<=m->∃r,CR p s m=CR p s j ++ r
 | 0,h=>⟨[],by rw[show j=0 by omega];simp⟩
 | m+1,h=>by
  by_cases e:j=m+1
  ·subst e;exact⟨[],by simp⟩
  ·obtain⟨r,a⟩:=Xn p s j m (by omega);exact⟨r ++ Ck p (AK s m) (AW s m),by rw[CR,a,List.append_assoc]⟩
theorem Yl(b a:Nat->Int)(j:Nat):∀m,j<=m->∃r,kidsUp b a m=kidsUp b a j ++ r
 | 0,h=>⟨[],by rw[show j=0 by omega];simp⟩
 | m+1,h=>by
  by_cases e:j=m+1
  ·subst e;exact⟨[],by simp⟩
  ·obtain⟨r,c⟩:=Yl b a j m (by omega);exact⟨r ++ one (b m) (a m),by rw[kidsUp,c,List.append_assoc]⟩
theorem L2(l m:List (Int×Int)):Bk (l ++ m)=Bk l ++ Bk m:=by simp[Bk]
theorem OP{l:List Int}{x:Int}:(l ++ [x]).Nodup↔l.Nodup/\x∉l:=by
 rw[List.nodup_append];constructor
 ·rintro⟨c,_,g⟩;exact⟨c,fun i=>g x i x (by simp) rfl⟩
 ·rintro⟨c,f⟩;refine⟨c,by simp,fun a h b d e=>?_⟩;rw[List.mem_singleton]at d;subst d;subst e;exact f h
variable{p:A7}{rs:Int}
theorem RL{rb:Int}(a:¬Nil rs rb):Bk (AG p rs rb)=Dv p rs (p.s rs.toNat) 8:=by
 unfold AG Dv;rw[if_neg a];rfl
variable{s:AH}{j:Nat}
theorem zFW(hn:¬Nil (AK s j) (AW s j)):Ck p (AK s j) (AW s j)=(AK s j,AW s j) :: Eh (p.s (AK s j).toNat):=if_neg hn
theorem Vg(hn:¬Nil (AK s j) (AW s j)):Dv p rs s (j+1)=EG p rs s j 8:=by
 unfold Dv EG Dv;rw[CR,L2,zFW hn];rfl
theorem zEA(hn:Nil (AK s j) (AW s j)):Dv p rs s (j+1)=Dv p rs s j:=by
 unfold Dv;rw[CR,show Ck p (AK s j) (AW s j) = [] from if_pos hn,List.append_nil]
theorem VQ(p:A7)(rs:Int)(s:AH)(j:Nat):EG p rs s j 0=Dv p rs s j ++ [AK s j]:=rfl
variable{i:Nat}
theorem zFY(hn:Nil (AK (p.s (AK s j).toNat) i) (AW (p.s (AK s j).toNat) i)):EG p rs s j (i+1)=EG p rs s j i:=by
 unfold EG;rw[kidsUp,show one (AK (p.s (AK s j).toNat) i) (AW (p.s (AK s j).toNat) i) = [] from if_pos hn,List.append_nil]
theorem zFX(hn:¬Nil (AK (p.s (AK s j).toNat) i) (AW (p.s (AK s j).toNat) i)):EG p rs s j (i+1)=EG p rs s j i ++ [AK (p.s (AK s j).toNat) i]:=by
 unfold EG;rw[kidsUp,show one (AK (p.s (AK s j).toNat) i) (AW (p.s (AK s j).toNat) i) = [(AK (p.s (AK s j).toNat) i,AW (p.s (AK s j).toNat) i)] from if_neg hn,L2,List.append_assoc];rfl
theorem Tu(p:A7)(rs:Int)(s:AH)(a:j<=8):(Dv p rs s j).length<=73:=by
 have:=OB p s j;simp only[Dv,Bk,List.length_cons,List.length_map];omega
theorem zH3(p:A7)(rs:Int)(s:AH)(a:j<=8)(hi:i<=8):(EG p rs s j i).length<=90:=by
 have b:=Tu p rs s a;have c:=IB (AK (p.s (AK s j).toNat)) (AW (p.s (AK s j).toNat)) i;simp only[EG,Bk,List.length_append,List.length_cons,List.length_map];omega
theorem zDn{rb:Int}(e:¬Nil rs rb)(h:(Bk (AG p rs rb)).Nodup)(g:j<8)(hi:i<=8)(hn:¬Nil (AK (p.s rs.toNat) j) (AW (p.s rs.toNat) j)):(EG p rs (p.s rs.toNat) j i).Nodup:=by
 rw[RL e]at h;obtain⟨r,d⟩:=Xn p (p.s rs.toNat) (j+1) 8 (by omega);obtain⟨f,a⟩:=Yl (AK (p.s (AK (p.s rs.toNat) j).toNat)) (AW (p.s (AK (p.s rs.toNat) j).toNat)) i 8 hi;have b:Dv p rs (p.s rs.toNat) 8=Dv p rs (p.s rs.toNat) (j+1) ++ Bk r:=by unfold Dv;rw[d,L2];rfl
 have c:EG p rs (p.s rs.toNat) j 8=EG p rs (p.s rs.toNat) j i ++ Bk f:=by
  unfold EG;rw[a,L2,List.append_assoc];rfl
 rw[b,Vg hn,c,List.append_assoc]at h;exact(List.nodup_append.1 h).1
def BU(p:A7)(xs xb:Int)(i:Nat):Int:=if Nil xs xb then 0 else AK (p.s xs.toNat) i
def Be(p:A7)(xs xb:Int)(i:Nat):Int:=if Nil xs xb then 0 else AW (p.s xs.toNat) i
def Ie(p:A7)(xs xb:Int):Prop:=Nil xs xb\/(B8 p xs xb/\(p.s xs.toNat).kn=8)
theorem NQ(h:As p xs xb):Ie p xs xb:=by
 rcases h.2 with a | a
 ·exact Or.inl a
 ·right;refine⟨a.1.1,?_⟩;rcases Qa h.1 a.1.1 with b | b
  ·have:=a.1.2.1;omega
  ·exact b
theorem LX(h:As p xs xb)(d:j<8):Ie p (BU p xs xb j) (Be p xs xb j):=by
 by_cases b:Nil xs xb
 ·left;unfold BU Be;rw[if_pos b,if_pos b];exact⟨rfl,rfl⟩
 ·unfold BU Be;rw[if_neg b,if_neg b];rcases(h.2.resolve_left b).2.1.1 j d with a | a
  ·exact Or.inl a
  ·right;refine⟨a.1.1,?_⟩;rcases Qa h.1 a.1.1 with c | c
   ·have:=a.1.2.1;omega
   ·exact c
def BV(p:A7)(xs xb:Int)(n:Nat):Int:=BU p xs xb (n / 8)
def Bj(p:A7)(xs xb:Int)(n:Nat):Int:=Be p xs xb (n / 8)
def BZ(p:A7)(xs xb:Int)(n:Nat):Int:=BU p (BV p xs xb n) (Bj p xs xb n) (n % 8)
def Bg(p:A7)(xs xb:Int)(n:Nat):Int:=Be p (BV p xs xb n) (Bj p xs xb n) (n % 8)
theorem Io(h:As p xs xb)(hn:n<64):Nil (BZ p xs xb n) (Bg p xs xb n)\/Ep p (BZ p xs xb n) (Bg p xs xb n):=by
 by_cases b:Nil xs xb
 ·left;have e:Nil (BV p xs xb n) (Bj p xs xb n):=(by unfold BV Bj BU Be;rw[if_pos b,if_pos b];exact⟨rfl,rfl⟩);unfold BZ Bg BU Be;rw[if_pos e,if_pos e];exact⟨rfl,rfl⟩
 ·have d:BV p xs xb n=AK (p.s xs.toNat) (n / 8):=if_neg b;have f:Bj p xs xb n=AW (p.s xs.toNat) (n / 8):=if_neg b;by_cases a:Nil (BV p xs xb n) (Bj p xs xb n)
  ·left;unfold BZ Bg BU Be;rw[if_pos a,if_pos a];exact⟨rfl,rfl⟩
  ·have g:BZ p xs xb n=AK (p.s (BV p xs xb n).toNat) (n % 8):=if_neg a;have i:Bg p xs xb n=AW (p.s (BV p xs xb n).toNat) (n % 8):=if_neg a;rw[g,i];rcases(h.2.resolve_left b).2.1.1 (n / 8) (by omega)with c | c
   ·rw[<-d,<-f]at c;exact absurd c a
   ·have:=c.2.1 (n % 8) (by omega);rw[<-d]at this;exact this
theorem Ir(w:World)(b:Nat)(u v:Value):AC (fun k=>k=b) w ((w.setCell ⟨b,0,none⟩ u).setCell ⟨b,1,none⟩ v):=((AC.refl (fun k=>k=b) w).setCell (p:=⟨b,0,none⟩) rfl u).setCell (p:=⟨b,1,none⟩) rfl v
def C8(rb birth:Int):Prop:=DS birth/\rb<=birth
theorem zCR(xs xb birth:Int)(w:World):Calls Tryz.prog 76 #[.agg #[A0 xs,A0 xb],A0 birth] w fun e w'=>AJ (C8 xb birth) e/\Below w.heap.size w w':=by
 have c:=AB w (.cells #[A0 xs,A0 xb] 38);by_cases d:DS birth
 ·have a:=AF d;clear d;by_cases h:xb<=birth
  ·go_enter Tryz.func76,Tryz.ntmps76;go_wp2_with (first | (go_at_call 136;refine(FJ birth _).mono ?_;rintro e f ⟨⟨t,rfl,b⟩,rfl⟩;obtain rfl:t=true:=b.2 a.out;clear b) | fail);go_wp2;go_ret;exact⟨⟨_,rfl,by simp[C8,a.out,h]⟩,c⟩
  ·go_enter Tryz.func76,Tryz.ntmps76;go_wp2_with (first | (go_at_call 136;refine(FJ birth _).mono ?_;rintro e f ⟨⟨t,rfl,b⟩,rfl⟩;obtain rfl:t=true:=b.2 a.out;clear b) | fail);go_wp2;go_ret;exact⟨⟨_,rfl,by first | (simp[C8,a.out];done) | (simp[C8,a.out];omega)⟩,c⟩
 ·have a:=AF d;clear d;go_enter Tryz.func76,Tryz.ntmps76;go_wp2_with (first | (go_at_call 136;refine(FJ birth _).mono ?_;rintro e f ⟨⟨t,rfl,b⟩,rfl⟩;obtain rfl:t=false:=BQ b a.out;clear b) | fail);go_wp2;go_ret;exact⟨AJ.no (fun g=>a.out g.1),c⟩
theorem zEZ{birth:Int}(h:As p xs xb):((∀i,i<(AG p xs xb).length->¬birth<AP (AG p xs xb) i)/\DS birth)↔C8 xb birth:=by
 constructor
 ·rintro⟨b,c⟩;refine⟨c,?_⟩;by_cases a:Nil xs xb
  ·rw[a.2];have:=c.1;omega
  ·have e:AG p xs xb=(xs,xb) :: CR p (p.s xs.toNat) 8:=if_neg a;have:=b 0 (by rw[e];simp);rw[e]at this;have d:AP ((xs,xb) :: CR p (p.s xs.toNat) 8) 0=xb:=rfl;rw[d]at this;omega
 ·rintro⟨b,c⟩;refine⟨fun i hi f=>?_,b⟩;by_cases a:Nil xs xb
  ·have e:AG p xs xb = []:=if_pos a;rw[e]at hi;simp at hi
  ·have g:(AN (AG p xs xb) i,AP (AG p xs xb) i)∈AG p xs xb:=by
    have:(AN (AG p xs xb) i,AP (AG p xs xb) i)=(AG p xs xb)[i]:=by
     unfold AN AP;rw[List.getD_eq_getElem?_getD,List.getElem?_eq_getElem hi,Option.getD_some]
    rw[this];exact List.getElem_mem hi
   have:=(MN h.1 (h.2.resolve_left a).1.1 _ g).2;have e:(AN (AG p xs xb) i,AP (AG p xs xb) i).2=AP (AG p xs xb) i:=rfl;omega
theorem Ya{p:A7}(h:∀i,i<p.n->Ah (p.s i)\/C5 p (p.s i)):∀k,k<=p.n->DC p.s k<=24*k
 | 0,_=>Nat.le_refl _
 | k+1,hk=>by
  have f:=Ya h k (by omega);have hs:Ce (p.s k)<=24:=by
   unfold Ce;rcases h k (by omega)with a | a
   ·have c:=a.2.1;have b:(p.s k).data.size=0:=by
     have:=a.2.2;rw[Go.ByteArray.toList_eq]at this;have e:(p.s k).data.data=#[]:=(by simpa using this);show(p.s k).data.data.size=0;rw[e];rfl
    omega
   ·rcases a.2 with b | b
    ·omega
    ·have d:(p.s k).data.size=0:=by
      have:=b.2.1;rw[Go.ByteArray.toList_eq]at this;have e:(p.s k).data.data=#[]:=(by simpa using this);show(p.s k).data.data.size=0;rw[e];rfl
     omega
  show DC p.s k+Ce (p.s k)<=_;omega
theorem Kz(h:AZ p):Ap p<=10000:=by
 have a:=Ya h.2.1 p.n (Nat.le_refl _);have b:=((MA p).2 h).2.1;have c:=h.1;unfold Ap;omega
theorem zCt(v:Value)(n lo hi:Nat)(f g:Nat->Int)(w:World)(R:BG w lo hi v n f g)(hn:n<=1048576) :
 Calls Tryz.prog 118 #[v] w fun e w'=>(∃s r,e = .returned s/\CS w' r s n f g/\(0<n->w.heap.size<=r/\r<w'.heap.size))/\Below w.heap.size w w':=by
 obtain⟨N,a,c,rfl,W,I⟩:=R;have G:Hid (0<n->∃b off,a=some ⟨b,off,none⟩/\lo<=b/\b<hi/\∀i,i<n->w.cell? ⟨b,off+i*2,none⟩=some (A0 (f i))/\w.cell? ⟨b,off+i*2+1,none⟩=some (A0 (g i))):=I;have O:Hid (n<=maxLen):=N;clear I N;have U:=fun w=>Lib.run_eql_slice_nil (P:=Tryz.prog) w 39 38 a n c 0 0 (by kernel_rfl)
 cases a with
 | none=>
  have F:n=0:=by
   by_cases h:0<n
   ·obtain⟨b,off,C,_⟩:=G.out h;simp at C
   ·omega
  subst F;go_enter Tryz.func118,Tryz.ntmps118;go_wp2;go_ret;exact⟨⟨_,0,rfl,⟨Nat.zero_le _,none,0,rfl,Nat.le_refl _,fun h=>absurd h (Nat.lt_irrefl _)⟩,fun h=>absurd h (Nat.lt_irrefl _)⟩,Below.refl _ _⟩
 | some ad=>
  obtain⟨i0,hi,A⟩:=Option.map_eq_some_iff.1 Lv;simp only[Prod.mk.injEq]at A;obtain⟨M,hs,y⟩:=A;have p:∀(w':World),Below w.heap.size w w'->∀j u,(kc f g n)[j]?=some u->w'.cell? (ad.add j)=some u:=fun w' S j u J=>by
   by_cases Q:0<n
   ·obtain⟨b,off,C,_,_,T⟩:=G.out Q;simp only[Option.some.injEq]at C;subst C;have:=Uc T j u J;have x:(⟨b,off,none⟩:Addr).add j=⟨b,off+j,none⟩:=(by unfold Addr.add;split<;>simp_all);rw[x]at this ⊢;exact(S.cell (AV this)).trans this
   ·obtain rfl:n=0:=(by omega);simp[kc]at J
  have t:Hid (∀(w':World),Below w.heap.size w w'->∀j u,(kc f g n)[j]?=some u->w'.cell? (ad.add j)=some u):=p;have B:Hid (Tryz.prog.info? 38=some i0/\i0.zero=some (.agg #[A0 0,A0 0])/\i0.size=2/\i0.bytes=16):=⟨hi,M,hs,y⟩;have m:(w.alloc (.cells #[] 38)).ownsRow w.heap.size 38 2 (.slice (some ⟨w.heap.size,0,none⟩) 0 0) 0 []:=World.ownsRow_made w #[] 0 (Nat.le_refl _) (Nat.zero_le _) (by simp);have d:Hid ((w.alloc (.cells #[] 38)).ownsRow w.heap.size 38 2 (.slice (some ⟨w.heap.size,0,none⟩) 0 0) 0 []):=m;clear hi M hs y p m;go_enter Tryz.func118,Tryz.ntmps118;go_wp2_with (first
   | (at_builtin;refine wpList_append_own _ rfl _ _ 39 rfl w.heap.size 38 i0 (.agg #[A0 0,A0 0]) 2 16 (by kernel_rfl) B.out.1 B.out.2.1 B.out.2.2.1 B.out.2.2.2 rfl (by decide) _ _ _ rfl d.out ad n c (kc f g n) rfl (KI f g n) ?c1 (Zq f g n) ?c3 ?c4 ?c5 ?_))
  case c1=>exact t.out _ ((Below.refl _ _).alloc (Nat.le_refl _) _)
  case c3=>unfold maxLen;omega
  case c4=>omega
  case c5=>simp
  intro s D l k z;have E:Below w.heap.size w D:=((Below.refl _ _).alloc (Nat.le_refl _) _).grown k (by simp) (fun q V=>by have:=d.out.lt q V;omega);have o:D.ownsRow w.heap.size 38 2 s n (kc f g n):=(by simpa using l);obtain⟨r,L,K⟩:=Yv O.out o;have H:Hid (CS D r s n f g/\(0<n->w.heap.size<=r/\r<D.heap.size)):=⟨L,K⟩;clear L K l o k z;go_wp2;go_ret;exact⟨⟨s,r,rfl,H.out.1,H.out.2⟩,E⟩
theorem zCu(t v1 u:Value)(lo hi:Nat)(s:AH)(w:World)(y:CU w lo hi t v1 u s)(hn:s.kn<=1048576) :
 Calls Tryz.prog 189 #[.agg #[t,v1,u]] w (zGV s w):=by
 obtain⟨rfl,r,rfl,z⟩:=y;have q1:=r;obtain⟨_,a,c,rfl,_⟩:=r;go_enter Tryz.func189,Tryz.ntmps189;go_wp2_with fail;have h:=AB w (.cells #[A0 s.birth,.slice a s.kn c,.string s.data] 94);have f:=A9 h (AB _ (.cells #[A0 0,A5,.string ⟨#[]⟩] 94));refine(zCt _ s.kn lo hi _ _ _ (q1.A1 f) hn).mono ?_;rintro e k ⟨⟨kv,j,rfl,q,i⟩,b⟩;have x:Hid (CZ k w.heap.size (A0 s.birth) (.slice a s.kn c) (.string s.data)):=((CZ.new w _ _ _ _).A1 (AB _ _)).A1 b;have p:Hid (CZ k (w.heap.size+1) (A0 0) (A5) (.string ⟨#[]⟩)):=by
  have:=((CZ.new (w.alloc (.cells #[A0 s.birth,.slice a s.kn c,.string s.data] 94)) (A0 0) (A5) (.string ⟨#[]⟩) 94).A1 b);rw[World.size_alloc]at this;exact this
 have n:=A9 f b;rw[World.size_alloc,World.size_alloc]at i;have l:Hid (CS k j kv s.kn s.ks s.kb/\(0<s.kn->w.heap.size+1+1<=j/\j<k.heap.size)):=⟨q,i⟩;obtain⟨_,o,g,rfl,_⟩:=q;clear h f b i;obtain⟨⟨A,B⟩,⟨C,D⟩,⟨E,F⟩⟩:=x.out;obtain⟨⟨G,H⟩,⟨I,J⟩,⟨K,L⟩⟩:=p.out;go_wp2;have d:=(p.out.other (b':=w.heap.size) (o':=1) (.slice o s.kn g) (by omega)).put (A0 s.birth) (.slice o s.kn g) (.string s.data);refine bodyPost_ret (v:=.agg #[A0 s.birth,.slice o s.kn g,.string s.data]) (by simp[results,Tryz.results189,go_sem,d.1.1,d.2.1.1,d.2.2.1]) rfl ⟨_,j,rfl,?_,?_,?_⟩
 ·have i:=l.out.2;refine(((l.out.1.AD (AC.put _ _ _ _) ?_).AD (AC.put _ _ _ _) ?_).AD (AC.put _ _ _ _) ?_).AD (AC.put _ _ _ _) ?_
  all_goals exact fun m e=>by have:=i m;omega
 ·intro m;have:=l.out.2 m;simp only[World.size_setCell];omega
 ·exact(((n.setCell (by show _<=w.heap.size;omega) _).setCell (by show _<=w.heap.size+1;omega) _).setCell (by show _<=w.heap.size+1;omega) _).setCell (by show _<=w.heap.size+1;omega) _
theorem zCs(a:Option Addr)(n c:Nat)(xs:List Value)(w:World)(G:xs.length=n*1)(m:∀u∈xs,u.oneCell'=true)(hn:n<=1048576)
 (E:0<n->∃b off,a=some ⟨b,off,none⟩/\∀j u,xs[j]?=some u->w.cell? ⟨b,off+j,none⟩=some u) :
 Calls Tryz.prog 157 #[.slice a n c] w fun e w'=>∃o,e = .returned o/\w'.ownsRow w.heap.size 2 1 o n xs/\Below w.heap.size w w'/\(n=0->∃a,o = .slice a 0 0):=by
 have D:Hid (0<n->∃b off,a=some ⟨b,off,none⟩/\∀j u,xs[j]?=some u->w.cell? ⟨b,off+j,none⟩=some u):=E;have x:Hid (xs.length=n*1/\∀u∈xs,u.oneCell'=true):=⟨G,m⟩;clear E G m;have J:=fun w=>Lib.run_eql_slice_nil (P:=Tryz.prog) w 24 2 a n c 0 0 (by kernel_rfl)
 cases a with
 | none=>
  have A:n=0:=by
   by_cases h:0<n
   ·obtain⟨b,off,y,_⟩:=D.out h;simp at y
   ·omega
  subst A;have B:xs = []:=List.eq_nil_of_length_eq_zero (by simpa using x.out.1);subst B;go_enter Tryz.func157,Tryz.ntmps157;go_wp2;go_ret;exact⟨_,rfl,World.ownsRow_nil _ _ _ _,Below.refl _ _,fun _=>⟨_,rfl⟩⟩
 | some ad=>
  obtain⟨i0,hi,t⟩:=Option.map_eq_some_iff.1 XZ;simp only[Prod.mk.injEq]at t;obtain⟨H,hs,s⟩:=t;have v:Hid (Tryz.prog.info? 2=some i0/\i0.zero=some (A0 0)/\i0.size=1/\i0.bytes=8):=⟨hi,H,hs,s⟩;have d:Hid ((w.alloc (.cells #[] 2)).ownsRow w.heap.size 2 1 (.slice (some ⟨w.heap.size,0,none⟩) 0 0) 0 []):=World.ownsRow_made w #[] 0 (Nat.le_refl _) (Nat.zero_le _) (by simp);clear hi H hs s;go_enter Tryz.func157,Tryz.ntmps157;go_wp2_with (first
   | (at_builtin;refine Jt rfl _ _ 24 rfl w.heap.size 2 i0 (A0 0) 1 8 (by kernel_rfl) v.out.1 v.out.2.1 v.out.2.2.1 v.out.2.2.2 rfl (by decide) _ _ _ rfl d.out (some ad) n c xs rfl x.out.1 x.out.2 ?c1 ?c3 ?c4 ?c5 ?_))
  case c1=>
   intro I;obtain⟨b,off,y,f⟩:=D.out I;exact⟨b,off,y,fun j u F=>(((Below.refl _ _).alloc (Nat.le_refl _) _).cell (AV (f j u F))).trans (f j u F)⟩
  case c3=>unfold maxLen;omega
  case c4=>omega
  case c5=>simp
  intro o C i g l;have z:Below w.heap.size w C:=((Below.refl _ _).alloc (Nat.le_refl _) _).grown g (by simp) (fun q K=>by have:=d.out.lt q K;omega);have k:C.ownsRow w.heap.size 2 1 o n xs:=(by simpa using i);have p:Hid (C.ownsRow w.heap.size 2 1 o n xs):=k;have r:Hid (n=0->o = .slice (some ⟨w.heap.size,0,none⟩) 0 0):=l;clear i k g l;go_wp2;go_ret;exact⟨o,rfl,p.out,z,fun e=>⟨_,r.out e⟩⟩
theorem zD5(a:Option Addr)(n c:Nat)(xs:List Value)(w:World)(G:xs.length=n*3)(m:∀u∈xs,u.oneCell'=true)(hn:n<=1048576)
 (E:0<n->∃b off,a=some ⟨b,off,none⟩/\∀j u,xs[j]?=some u->w.cell? ⟨b,off+j,none⟩=some u) :
 Calls Tryz.prog 188 #[.slice a n c] w fun e w'=>∃o,e = .returned o/\w'.ownsRow w.heap.size 94 3 o n xs/\Below w.heap.size w w'/\(n=0->∃a,o = .slice a 0 0):=by
 have D:Hid (0<n->∃b off,a=some ⟨b,off,none⟩/\∀j u,xs[j]?=some u->w.cell? ⟨b,off+j,none⟩=some u):=E;have x:Hid (xs.length=n*3/\∀u∈xs,u.oneCell'=true):=⟨G,m⟩;clear E G m;have J:=fun w=>Lib.run_eql_slice_nil (P:=Tryz.prog) w 23 94 a n c 0 0 (by kernel_rfl)
 cases a with
 | none=>
  have A:n=0:=by
   by_cases h:0<n
   ·obtain⟨b,off,y,_⟩:=D.out h;simp at y
   ·omega
  subst A;have B:xs = []:=List.eq_nil_of_length_eq_zero (by simpa using x.out.1);subst B;go_enter Tryz.func188,Tryz.ntmps188;go_wp2;go_ret;exact⟨_,rfl,World.ownsRow_nil _ _ _ _,Below.refl _ _,fun _=>⟨_,rfl⟩⟩
 | some ad=>
  obtain⟨i0,hi,t⟩:=Option.map_eq_some_iff.1 Xa;simp only[Prod.mk.injEq]at t;obtain⟨H,hs,s⟩:=t;have v:Hid (Tryz.prog.info? 94=some i0/\i0.zero=some (.agg #[A0 0,A5,.string ⟨#[]⟩])/\i0.size=3/\i0.bytes=48):=⟨hi,H,hs,s⟩;have d:Hid ((w.alloc (.cells #[] 94)).ownsRow w.heap.size 94 3 (.slice (some ⟨w.heap.size,0,none⟩) 0 0) 0 []):=World.ownsRow_made w #[] 0 (Nat.le_refl _) (Nat.zero_le _) (by simp);clear hi H hs s;go_enter Tryz.func188,Tryz.ntmps188;go_wp2_with (first
   | (at_builtin;refine Jt rfl _ _ 23 rfl w.heap.size 94 i0 (.agg #[A0 0,A5,.string ⟨#[]⟩]) 3 48 (by kernel_rfl) v.out.1 v.out.2.1 v.out.2.2.1 v.out.2.2.2 rfl (by decide) _ _ _ rfl d.out (some ad) n c xs rfl x.out.1 x.out.2 ?c1 ?c3 ?c4 ?c5 ?_))
  case c1=>
   intro I;obtain⟨b,off,y,f⟩:=D.out I;exact⟨b,off,y,fun j u F=>(((Below.refl _ _).alloc (Nat.le_refl _) _).cell (AV (f j u F))).trans (f j u F)⟩
  case c3=>unfold maxLen;omega
  case c4=>omega
  case c5=>simp
  intro o C i g l;have z:Below w.heap.size w C:=((Below.refl _ _).alloc (Nat.le_refl _) _).grown g (by simp) (fun q K=>by have:=d.out.lt q K;omega);have k:C.ownsRow w.heap.size 94 3 o n xs:=(by simpa using i);have p:Hid (C.ownsRow w.heap.size 94 3 o n xs):=k;have r:Hid (n=0->o = .slice (some ⟨w.heap.size,0,none⟩) 0 0):=l;clear i k g l;go_wp2;go_ret;exact⟨o,rfl,p.out,z,fun e=>⟨_,r.out e⟩⟩
def Du(w:World)(b:Nat)(v0 v1 v2 v3 v4:Value):Prop:=AO w b 0 v0/\AO w b 1 v1/\AO w b 2 v2/\AO w b 3 v3/\AO w b 4 v4
variable{w':World}{b:Nat}{v0 v1 v2 v3 v4:Value}
theorem Du.A1(h:Du w b v0 v1 v2 v3 v4)(t:Below w.heap.size w w'):Du w' b v0 v1 v2 v3 v4:=⟨h.1.A1 t,h.2.1.A1 t,h.2.2.1.A1 t,h.2.2.2.1.A1 t,h.2.2.2.2.A1 t⟩
theorem Du.AD{S:Nat->Prop}(h:Du w b v0 v1 v2 v3 v4)(t:AC S w w')(hs:¬S b):Du w' b v0 v1 v2 v3 v4:=⟨h.1.AD t hs,h.2.1.AD t hs,h.2.2.1.AD t hs,h.2.2.2.1.AD t hs,h.2.2.2.2.AD t hs⟩
theorem Du.new(w:World)(b v1 c d e:Value)(t:TypeId):Du (w.alloc (.cells #[b,v1,c,d,e] t)) w.heap.size b v1 c d e:=by
 have a:(w.alloc (.cells #[b,v1,c,d,e] t)).heap[w.heap.size]?=some (.cells #[b,v1,c,d,e] t):=heap_alloc_new _ _;exact⟨Az a rfl,Az a rfl,Az a rfl,Az a rfl,Az a rfl⟩
abbrev put5(w:World)(b:Nat)(u0 u1 u2 u3 u4:Value):World:=((((w.setCell ⟨b,0,none⟩ u0).setCell ⟨b,1,none⟩ u1).setCell ⟨b,2,none⟩ u2).setCell ⟨b,3,none⟩ u3).setCell ⟨b,4,none⟩ u4
theorem Du.put(h:Du w b v0 v1 v2 v3 v4)(a d u2 u3 u4:Value):Du (put5 w b a d u2 u3 u4) b a d u2 u3 u4:=
 have H (i:Nat) (u v:Value) (e:[a,d,u2,u3,u4][i]?=some u) (c:AO w b i v):AO (put5 w b a d u2 u3 u4) b i u:=LY [a,d,u2,u3,u4] w 0 i i e (Nat.zero_add i) c
 ⟨H 0 _ _ rfl h.1,H 1 _ _ rfl h.2.1,H 2 _ _ rfl h.2.2.1,H 3 _ _ rfl h.2.2.2.1,H 4 _ _ rfl h.2.2.2.2⟩
theorem AC.put5(w:World)(b:Nat)(a c u2 u3 u4:Value):AC (fun k=>k=b) w (put5 w b a c u2 u3 u4):=
 ((((AC.put w b 0 a).trans (AC.put _ b 1 c)).trans (AC.put _ b 2 u2)).trans (AC.put _ b 3 u3)).trans (AC.put _ b 4 u4)
structure Dr where
 pool:A7
 ps:Int
 pb:Int
 code:Int
def PK(o:Dr)(w:World)(e:Ending)(w':World):Prop:=∃v0 v1,e = .returned (.agg #[v0,v1,A0 o.ps,A0 o.pb,A0 o.code])/\Bq w' w.heap.size w'.heap.size v0 v1 o.pool/\Below w.heap.size w w'
theorem QB:Bq w lo hi (A5) (A5) (Cs 0):=
 zFc (g:=0) (Nat.zero_le _) ⟨none,0,rfl,Nat.le_refl _,fun h=>absurd h (Nat.lt_irrefl _)⟩ (fun i h=>absurd h (Nat.not_lt_zero _))
variable{f:Nat->AH}{cv:Nat->Value}
theorem zFP{off:Nat}(h:∀i,i<n->w.cell? ⟨b,off+i*3,none⟩=some (A0 (f i).birth)/\w.cell? ⟨b,off+i*3+1,none⟩=some (cv i)/\w.cell? ⟨b,off+i*3+2,none⟩=some (.string (f i).data)) :
 ∀j u,(sc f cv n)[j]?=some u->w.cell? ⟨b,off+j,none⟩=some u:=by
 intro j u c;have g:j<n*3:=by
  have:=(List.getElem?_eq_some_iff.1 c).1
  rwa [Gu]at this
 obtain⟨c0,c1,d⟩:=h (j / 3) (by omega);have e:=IS f cv n (j / 3) (j % 3) (by omega) (by omega);rw[show j / 3*3+j % 3=j by omega,c]at e;rcases(by omega:j % 3=0\/j % 3=1\/j % 3=2)with a | a | a
 ·rw[a]at e;simp at e;subst e;rw[show off+j=off+j / 3*3 by omega];exact c0
 ·rw[a]at e;simp at e;subst e;rw[show off+j=off+j / 3*3+1 by omega];exact c1
 ·rw[a]at e;simp at e;subst e;rw[show off+j=off+j / 3*3+2 by omega];exact d
theorem CL.values(h:CL w lo hi (.slice a n c) n f) :
 ∃cv:Nat->Value,(∀i,i<n->CU w lo hi (A0 (f i).birth) (cv i) (.string (f i).data) (f i))/\
  (0<n->∃b off,a=some ⟨b,off,none⟩/\lo<=b/\b<hi/\∀j u,(sc f cv n)[j]?=some u->w.cell? ⟨b,off+j,none⟩=some u):=by
 obtain⟨_,t,c0,o,_,g⟩:=h;simp only[Value.slice.injEq,true_and]at o;obtain⟨rfl,rfl⟩:=o;by_cases hn:0<n
 ·obtain⟨b,off,p,e,k,q⟩:=g hn;have l:∀i,∃x,i<n->(w.cell? ⟨b,off+i*3,none⟩=some (A0 (f i).birth)/\w.cell? ⟨b,off+i*3+1,none⟩=some x/\w.cell? ⟨b,off+i*3+2,none⟩=some (.string (f i).data))/\CU w lo hi (A0 (f i).birth) x (.string (f i).data) (f i):=fun i=>by
   by_cases hi:i<n
   ·obtain⟨v,v1,y,r,q1,s,hs⟩:=q i hi;have m:=hs;obtain⟨rfl,_,rfl,_⟩:=m;exact⟨v1,fun _=>⟨⟨r,q1,s⟩,hs⟩⟩
   ·exact⟨A5,fun h=>absurd h hi⟩
  obtain⟨cv,d⟩:=Classical.axiomOfChoice l;exact⟨cv,fun i hi=>(d i hi).2,fun _=>⟨b,off,p,e,k,zFP fun i hi=>(d i hi).1⟩⟩
 ·exact⟨fun _=>A5,fun i hi=>absurd hi (by omega),fun h=>absurd h hn⟩
theorem CU.form(h:CU w lo hi v0 v1 v2 s):∃a kc,v1 = .slice a s.kn kc:=by
 obtain⟨_,⟨_,a,kc,h,_⟩,_⟩:=h;exact⟨a,kc,h⟩
structure GG (wr:World) (bs n k:Nat) (f:Nat->AH) (kb:Nat->Nat) (kv cv:Nat->Value):Prop where
 cells:∀j,j<n->AO wr bs (j*3) (A0 (f j).birth)/\AO wr bs (j*3+1) (if j<k then kv j else cv j)/\AO wr bs (j*3+2) (.string (f j).data)
 kids:∀j,j<k->CS wr (kb j) (kv j) (f j).kn (f j).ks (f j).kb
 C9:∀j,j<k->0<(f j).kn->bs<kb j/\kb j<wr.heap.size
 Bn:M0 kb k f
variable{wr:World}{bs:Nat}{kb:Nat->Nat}{kv:Nat->Value}
theorem GG.A1(h:GG wr bs n k f kb kv cv)(t:Below wr.heap.size wr w'):GG w' bs n k f kb kv cv:=
 ⟨fun j a=>⟨(h.cells j a).1.A1 t,(h.cells j a).2.1.A1 t,(h.cells j a).2.2.A1 t⟩,fun j a=>(h.kids j a).A1 t,fun j a b=>by have:=h.C9 j a b;have:=t.size;omega,h.Bn⟩
theorem GG.next{w1:World}(h:GG wr bs n k f kb kv cv)(y:k<n)(u:bs<wr.heap.size)(t:Below wr.heap.size wr w1)
 (w:CS w1 b v (f k).kn (f k).ks (f k).kb) (l:0<(f k).kn->wr.heap.size<=b/\b<w1.heap.size) :
 GG (((w1.setCell ⟨bs,k*3,none⟩ (A0 (f k).birth)).setCell ⟨bs,k*3+1,none⟩ v).setCell ⟨bs,k*3+2,none⟩ (.string (f k).data)) bs n (k+1) f (fun j=>if j=k then b else kb j) (fun j=>if j=k then v else kv j) cv:=by
 have g:=h.A1 t;refine⟨fun j m=>?_,fun j m=>?_,fun j m c=>?_,fun i j hi m q o p=>?_⟩
 ·obtain⟨c0,c1,r⟩:=g.cells j m;by_cases e:j=k
  ·subst e;rw[if_pos (by omega),if_pos rfl];exact⟨((c0.set _).other _ (Or.inr (by omega))).other _ (Or.inr (by omega)),((c1.other _ (Or.inr (by omega))).set _).other _ (Or.inr (by omega)),((r.other _ (Or.inr (by omega))).other _ (Or.inr (by omega))).set _⟩
  ·rw[if_neg e];have s:(if j<k+1 then kv j else cv j)=if j<k then kv j else cv j:=by
    by_cases a:j<k
    ·rw[if_pos a,if_pos (by omega)]
    ·rw[if_neg a,if_neg (by omega)]
   rw[s];exact⟨((c0.other _ (Or.inr (by omega))).other _ (Or.inr (by omega))).other _ (Or.inr (by omega)),((c1.other _ (Or.inr (by omega))).other _ (Or.inr (by omega))).other _ (Or.inr (by omega)),((r.other _ (Or.inr (by omega))).other _ (Or.inr (by omega))).other _ (Or.inr (by omega))⟩
 ·by_cases e:j=k
  ·subst e;simp only[if_true];refine((w.AD (AC.put _ _ _ _) ?_).AD (AC.put _ _ _ _) ?_).AD (AC.put _ _ _ _) ?_
   all_goals exact fun c x=>by have:=l c;omega
  ·simp only[if_neg e];refine(((g.kids j (by omega)).AD (AC.put _ _ _ _) ?_).AD (AC.put _ _ _ _) ?_).AD (AC.put _ _ _ _) ?_
   all_goals exact fun c x=>by have:=g.C9 j (by omega) c;omega
 ·simp only[World.size_setCell];by_cases e:j=k
  ·subst e;rw[if_pos rfl];have:=l c;omega
  ·rw[if_neg e];have:=g.C9 j (by omega) c;omega
 ·show(if i=k then b else kb i)≠(if j=k then b else kb j);by_cases d:i=k
  ·by_cases a:j=k
   ·omega
   ·rw[if_pos d,if_neg a];subst d;have:=l o;have:=h.C9 j (by omega) p;omega
  ·by_cases a:j=k
   ·rw[if_neg d,if_pos a];subst a;have:=l p;have:=h.C9 i (by omega) o;omega
   ·rw[if_neg d,if_neg a];exact h.Bn i j (by omega) (by omega) q o p
theorem GG.own(h:GG wr bs n n f kb kv cv)(m:n<=maxLen)(g:0<n->a=some ⟨bs,0,none⟩)(k:n<=c)(hs:∀j,j<n->(f j).data.size<=maxLen):FF wr bs kb kv (.slice a n c) n f:=
 ⟨m,a,c,rfl,k,fun d=>⟨0,g d,fun i hi=>by
  obtain⟨c0,c1,b⟩:=h.cells i hi;rw[if_pos hi]at c1;rw[Nat.zero_add];exact⟨c0,c1,b,h.kids i hi,hs i hi,fun l e=>by have:=h.C9 i hi l;omega⟩⟩⟩
theorem ZM(v:Value)(n lo hi:Nat)(f:Nat->AH)(w:World)(N:CL w lo hi v n f)(hn:n<=1048576)(S:∀j,j<n->(f j).kn<=1048576) :
 Calls Tryz.prog 156 #[v] w fun e w'=>∃V y H kv,e = .returned V/\FF w' y H kv V n f/\M0 H n f/\(∀k,FY y H n f k->w.heap.size<=k/\k<w'.heap.size)/\Below w.heap.size w w':=by
 have Hm:=AT N.1;have q1:=N;obtain⟨_,a,c,rfl,_,_⟩:=N;obtain⟨cv,d,D⟩:=q1.values;have E:=AT d;have Hk:=AT S;have x:0<n->∃b off,a=some ⟨b,off,none⟩/\∀j u,(sc f cv n)[j]?=some u->w.cell? ⟨b,off+j,none⟩=some u:=fun p=>by
  obtain⟨b,off,h2,_,_,h3⟩:=D p;exact⟨b,off,h2,h3⟩
 have B:=qF f cv n (fun i hi=>by obtain⟨U,kc,e⟩:=(d i hi).form;rw[e];rfl);clear d S q1 D;go_enter Tryz.func156,Tryz.ntmps156;go_wp2_with fail;refine(zD5 a n c (sc f cv n) w (Gu _ _ _) B hn x).mono ?_;rintro e W ⟨V,rfl,t,Q,_⟩;obtain⟨a1,c1,rfl,T⟩:=Bw t;clear B x;have A:∃y,(0<n->a1=some ⟨y,0,none⟩/\w.heap.size<=y/\y<W.heap.size)/\GG W y n 0 f (fun _=>0) cv cv:=by
  by_cases p:0<n
  ·obtain⟨g,cap,hv,_,r,K,m⟩:=FI t p;simp only[Value.slice.injEq,true_and]at hv;obtain⟨rfl,rfl⟩:=hv;refine⟨g,fun _=>⟨rfl,r,K⟩,fun j l=>⟨?_,?_,?_⟩,fun j l=>absurd l (Nat.not_lt_zero _),fun j l=>absurd l (Nat.not_lt_zero _),fun i j hi=>absurd hi (Nat.not_lt_zero _)⟩
   ·have:=m (j*3+0) _ (IS f cv n j 0 l (by omega));simpa using this
   ·have:=m (j*3+1) _ (IS f cv n j 1 l (by omega));simpa using this
   ·have:=m (j*3+2) _ (IS f cv n j 2 l (by omega));simpa using this
  ·exact⟨0,fun h=>absurd h p,fun j l=>absurd l (by omega),fun j l=>absurd l (Nat.not_lt_zero _),fun j l=>absurd l (Nat.not_lt_zero _),fun i j hi=>absurd hi (Nat.not_lt_zero _)⟩
 obtain⟨y,A,s⟩:=A;have z:=AT A;have F:=AT s;clear t A s;go_wp2
 go_loopw [4,5,10] (fun _ _ i wr=>∃(k:Nat) (H:Nat->Nat) (kv:Nat->Value),k<=n/\i=A0 k/\GG wr y n k f H kv cv/\Below w.heap.size w wr/\W.heap.size<=wr.heap.size) (fun _ _ i _=>n - (intOf i).toNat)
 case atStart=>exact⟨0,_,_,Nat.zero_le _,rfl,F.out,Q,Nat.le_refl _⟩
 case round=>
  obtain⟨k,H,kv,S,rfl,X,P,hz⟩:=hrel;have I:=AT X;clear X;by_cases o:k<n
  ·have Y:(k:Int)<(n:Int):=(by omega);obtain⟨rfl,r,K⟩:=z.out (by omega);obtain⟨U,kc,d⟩:=(E.out k o).form;have M:Hid (CU wr lo hi (A0 (f k).birth) (.slice U (f k).kn kc) (.string (f k).data) (f k)):=by
    have:=(E.out k o).A1 P;rw[d]at this;exact this
   obtain⟨⟨Z,r0⟩,q1,⟨q2,r2⟩⟩:=I.out.cells k o;rw[if_neg (by omega),d]at q1;obtain⟨q1,r1⟩:=q1;go_wp2_with fail;have O:=AB wr (.cells #[A0 (f k).birth,.slice U (f k).kn kc,.string (f k).data] 94);refine(zCu _ _ _ lo hi (f k) _ (M.out.A1 O) (Hk.out k o)).mono ?_;rintro e w2 ⟨nv,nb,rfl,G,C,J⟩;obtain⟨_,na,nc,rfl,_⟩:=id G;have q:=A9 O J;have L:=AT (I.out.next o (by omega) q G (fun p=>by have:=C p;rw[World.size_alloc]at this;omega));have R:=A9 P q;have iA:=q.size;clear Z q1 q2 r0 r1 r2;obtain⟨⟨Z,r0⟩,q1,⟨q2,r2⟩⟩:=(I.out.A1 q).cells k o;rw[if_neg (by omega),d]at q1;obtain⟨q1,r1⟩:=q1;clear G C J O q d;go_wp2;go_roundw
   case rel=>exact⟨k+1,_,_,by omega,by go_num,L.out,((R.setCell r _).setCell r _).setCell r _,by simp only[World.size_setCell];omega⟩
   case measure=>simp[intOf];omega
  ·obtain rfl:k=n:=(by omega);go_wp2;go_ret;refine⟨_,y,H,kv,rfl,I.out.own Hm.out (fun p=>(z.out p).1) T (fun j l=>(E.out j l).2.2.2),I.out.Bn,fun j l=>?_,P⟩;rcases l with⟨p,rfl⟩ | ⟨i,hi,p,rfl⟩
   ·have:=z.out p;omega
   ·have:=z.out (by omega);have:=I.out.C9 i hi p;omega
theorem Oh(v0 v1:Value)(lo hi:Nat)(p:A7)(w:World)(U:CD w lo hi v0 v1 p)(hn:Ap p<=1048576):Calls Tryz.prog 115 #[.agg #[v0,v1]] w (Td p w):=by
 have S:=AT U;obtain⟨⟨Z,a,c,rfl,mc,g1⟩,⟨m2,y,c',rfl,nA,g2⟩⟩:=U;have Hm:=AT (And.intro Z m2);clear g1 g2 Z m2;unfold Ap at hn;have Hn:Hid (∀j,j<p.n->(p.s j).kn<=1048576):=fun j hj=>by have h2:=Tw p.s hj;unfold Ce at h2;omega
 have N:p.n<=1048576:=by omega
 have O:p.hn<=1048576:=by omega
 clear hn;have z:=AB w (.cells #[.slice a p.n c,.slice y p.hn c'] 26);have m:=A9 z (AB _ (.cells #[A5,A5] 26));have D:=AT ((Ad.new w (.slice a p.n c) (.slice y p.hn c') 26).A1 (AB _ (.cells #[A5,A5] 26)));have u:=Ad.new (w.alloc (.cells #[.slice a p.n c,.slice y p.hn c'] 26)) (A5) (A5) 26;rw[World.size_alloc]at u;have E:=AT u;clear z u;go_enter Tryz.func115,Tryz.ntmps115;go_wp2_with fail;generalize V:(w.alloc (.cells #[.slice a p.n c,.slice y p.hn c'] 26)).alloc (.cells #[A5,A5] 26)=W at D E m ⊢;have X:W.heap.size=w.heap.size+2:=by rw[<-V,World.size_alloc,World.size_alloc]
 clear V;obtain⟨⟨x0,x1⟩,⟨x2,x3⟩⟩:=D.out;obtain⟨⟨y0,y1⟩,⟨y2,y3⟩⟩:=E.out;go_region_held3 (fun w'=>w'.cell? ⟨w.heap.size,0,none⟩=some (.slice a p.n c)/\w'.cell? ⟨w.heap.size,1,none⟩=some (.slice y p.hn c')) (go_keep)
  (first
   | (go_at_call 156;refine(ZM _ p.n lo hi p.s _ ?_ N Hn.out).mono ?_;(exact S.out.1.A1 m.drew);rintro e R ⟨v',T,Y,kv,rfl,P,A,C,B⟩;obtain⟨_,H,q,rfl,_⟩:=id P;have b:=Cp B;obtain⟨⟨z0,z1⟩,⟨z2,z3⟩⟩:=D.out.A1 b)
   | (go_at_call 157;refine(zCs _ _ _ (ic p.h p.hn) _ (Il _ _) (zI9 _ _) O ?_).mono ?_;(exact T7 S.out.2 rfl (A9 m b));rintro e I ⟨v',rfl,g,l,Q⟩;obtain⟨G,o,rfl,_⟩:=Bw g;have d:=A9 b l;obtain⟨⟨z4,z5⟩,⟨z6,z7⟩⟩:=D.out.A1 d;have J:=AT (E.out.A1 d);obtain⟨⟨z8,z9⟩,⟨pA,rA⟩⟩:=E.out.A1 d))
 obtain⟨hb,r,f⟩:=zCJ Hm.out.2 g Q;have lA:W.heap.size<=R.heap.size:=b.size;have mA:R.heap.size<=I.heap.size:=l.size;have i:∀k,FY T Y p.n p.s k->W.heap.size<=k/\k<R.heap.size:=C;have K:Hid (Bq I (w.heap.size+2) I.heap.size (.slice H p.n q) (.slice G p.hn o) p):=by
  refine⟨T,hb,Y,kv,P.A1 l,A,r,fun L hx=>?_,fun k F=>?_⟩
  ·have:=i _ hx;have:=f L;omega
  ·rcases F with F | ⟨L,rfl⟩
   ·have:=i _ F;omega
   ·have:=f L;omega
 have M:=A9 m d;clear r f C i P A g B b l d;go_wp2;have x:=J.out.put (.slice H p.n q) (.slice G p.hn o);refine bodyPost_ret (v:=.agg #[.slice H p.n q,.slice G p.hn o]) (by simp[results,Tryz.results115,go_sem,x.1.1,x.2.1]) rfl ⟨_,_,rfl,?_,?_⟩
 ·have t:=(AC.put I (w.heap.size+1) 0 (.slice H p.n q)).trans (AC.put _ (w.heap.size+1) 1 (.slice G p.hn o));have X:=t.size;exact(K.out.AD t (fun k F=>by omega)).wide (by omega) X
 ·exact(M.setCell (by show _<=w.heap.size+1;omega) _).setCell (by show _<=w.heap.size+1;omega) _
def CQ(p:A7)(xs:Int):A7:={n:=p.n,s:=p.s,hn:=p.hn+1,h:=fun i=>if i=p.hn then xs else p.h i}
open Classical in
noncomputable def JK(p:A7)(xs xb:Int):Dr:=if AZ p then(if B8 p xs xb/\¬Has p.hn p.h xs then⟨CQ p xs,0,0,0⟩else⟨Cs 0,0,0,4⟩)else⟨Cs 0,0,0,1⟩
theorem zq(h:¬AZ p):JK p xs xb=⟨Cs 0,0,0,1⟩:=if_neg h
theorem XU(h:AZ p)(a:¬(B8 p xs xb/\¬Has p.hn p.h xs)):JK p xs xb=⟨Cs 0,0,0,4⟩:=(if_pos h).trans (if_neg a)
theorem TU(h:AZ p)(b:B8 p xs xb)(a:¬Has p.hn p.h xs):JK p xs xb=⟨CQ p xs,0,0,0⟩:=(if_pos h).trans (if_pos ⟨b,a⟩)
variable{f:Nat->Int}
theorem zEM(h:∀i,i<n->f i=g i):ic f n=ic g n:=by
 induction n with
 | zero=>rfl
 | succ n ih=>
  unfold ic;rw[ih (fun i hi=>h i (by omega)),h n (by omega)]
theorem zGE(p:A7)(xs:Int):ic (CQ p xs).h (p.hn+1)=ic p.h p.hn ++ [A0 xs]:=by
 show ic (CQ p xs).h p.hn ++ [A0 ((CQ p xs).h p.hn)]=_;rw[zEM (f:=(CQ p xs).h) (g:=p.h) (fun i hi=>if_neg (by omega)),show(CQ p xs).h p.hn=xs from if_pos rfl]
theorem zIT(w:World)(a b d e:Value)(c f g:TypeId) :
 Ad (((w.alloc (.cells #[a,b] c)).alloc (.cells #[d,e] f)).alloc (.cells #[A5,A5,A0 0,A0 0,A0 0] g)) w.heap.size a b/\
 Ad (((w.alloc (.cells #[a,b] c)).alloc (.cells #[d,e] f)).alloc (.cells #[A5,A5,A0 0,A0 0,A0 0] g)) (w.heap.size+1) d e/\
 Du (((w.alloc (.cells #[a,b] c)).alloc (.cells #[d,e] f)).alloc (.cells #[A5,A5,A0 0,A0 0,A0 0] g)) (w.heap.size+1+1) (A5) (A5) (A0 0) (A0 0) (A0 0)/\
 Below w.heap.size w (((w.alloc (.cells #[a,b] c)).alloc (.cells #[d,e] f)).alloc (.cells #[A5,A5,A0 0,A0 0,A0 0] g))/\
 (((w.alloc (.cells #[a,b] c)).alloc (.cells #[d,e] f)).alloc (.cells #[A5,A5,A0 0,A0 0,A0 0] g)).heap.size=w.heap.size+3:=by
 refine⟨((Ad.new w a b c).A1 (AB _ _)).A1 (AB _ _),?_,?_,A9 (A9 (AB _ _) (AB _ _)) (AB _ _),by simp⟩
 ·have:=(Ad.new (w.alloc (.cells #[a,b] c)) d e f).A1 (AB _ (.cells #[A5,A5,A0 0,A0 0,A0 0] g));rw[World.size_alloc]at this;exact this
 ·have:=Du.new ((w.alloc (.cells #[a,b] c)).alloc (.cells #[d,e] f)) (A5) (A5) (A0 0) (A0 0) (A0 0) g;rw[World.size_alloc,World.size_alloc]at this;exact this
theorem NK{R:Nat}{s0 s1 u2 u3 u4:Value}(f:Bq wr lo hi s0 s1 p)(b:R<lo)(e:w.heap.size<=R)(c:hi<=wr.heap.size)(a:Below w.heap.size w wr) :
 Bq (put5 wr R s0 s1 u2 u3 u4) w.heap.size (put5 wr R s0 s1 u2 u3 u4).heap.size s0 s1 p/\Below w.heap.size w (put5 wr R s0 s1 u2 u3 u4):=by
 have t:=AC.put5 wr R s0 s1 u2 u3 u4;have g:=t.size;exact⟨(f.AD t (fun k d=>by omega)).wide (by omega) (by omega),a.trans (t.A1 (by have:=a.size;omega) (fun k d=>by omega))⟩
theorem Jh{R:Nat}{u2 u3 u4:Value}(b:w.heap.size<=R)(a:Below w.heap.size w wr) :
 Bq (put5 wr R (A5) (A5) u2 u3 u4) w.heap.size (put5 wr R (A5) (A5) u2 u3 u4).heap.size (A5) (A5) (Cs 0)/\Below w.heap.size w (put5 wr R (A5) (A5) u2 u3 u4):=by
 have t:=AC.put5 wr R (A5) (A5) u2 u3 u4;exact⟨QB,a.trans (t.A1 (by have:=a.size;omega) (fun k c=>by omega))⟩
theorem ZI(t:AC (fun k=>k=b) w w'):w.grownBy w' (some b):=⟨t.os,t.tape,t.output,t.size,fun k c a=>t.block k c (fun e=>a (by rw[e]))⟩
theorem zIn(w:World)(x:Value)(t:TypeId):∀j u,[x][j]?=some u->(w.alloc (.cells #[x] t)).cell? ((⟨w.heap.size,0,none⟩:Addr).add j)=some u:=by
 intro j u a
 match j,a with
 | 0,a=>simp at a;subst a;simp[Addr.add]
 | (j+1),a=>simp at a
theorem yz(x:Int):∀u∈[Value.int .i64 x],u.oneCell'=true:=by
 intro u a;simp only[List.mem_cons,List.not_mem_nil,or_false]at a;rw[a];rfl
theorem TK(h:DA w lo hi (.slice a n c) n f)(i:Below w.heap.size w w'):∀b,a=some b->∀j u,(ic f n)[j]?=some u->w'.cell? (b.add j)=some u:=by
 intro b d j u e;have l:j<n:=by
  have:=(List.getElem?_eq_some_iff.1 e).1;rw[Il]at this;omega
 obtain⟨m,off,g,k⟩:=T7 h rfl i (by omega);rw[g]at d;simp only[Option.some.injEq]at d;subst d;rw[add_lit];exact k j u e
theorem Uw(h:DA w lo hi (.slice a n c) n f):a=none->n=0/\n=0:=fun e=>by
 obtain⟨_,j,k,hv,_,i⟩:=h;simp only[Value.slice.injEq,true_and]at hv;obtain⟨rfl,rfl⟩:=hv;by_cases d:0<n
 ·obtain⟨b,off,g,_⟩:=i d;rw[g]at e;cases e
 ·omega
theorem Rb(h:w.grownBy w' none):Below w.heap.size w w':=⟨h.os,h.tape,h.output,h.size,fun k a=>h.block k a (by simp)⟩
theorem zFd{x:Value}(h:w.cell? ⟨b,0,none⟩=some x):∀j u,[x][j]?=some u->w.cell? ((⟨b,0,none⟩:Addr).add j)=some u:=by
 intro j u a
 match j,a with
 | 0,a=>simp at a;subst a;rw[add_lit];exact h
 | (j+1),a=>simp at a
end Go.Proofs.YtddigaohmfpepaaGreatDoor
