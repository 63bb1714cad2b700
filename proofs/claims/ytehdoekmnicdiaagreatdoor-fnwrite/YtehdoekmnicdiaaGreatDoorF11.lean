/- A part of the proof. -/
import Derived.Test.YtehdoekmnicdiaaGreatDoorF10
import Derived.Deep.DeepCutAuto
set_option linter.unusedVariables false
set_option maxRecDepth 20000
set_option maxHeartbeats 4000000
namespace Go.Proofs.YtehdoekmnicdiaaGreatDoor
open Go.RowKit
def Jz(n:Nat)(f g:Nat->Int)(x y:Int):Prop:=∃j,j<n/\f j=x/\g j=y
variable{w:World}{lo hi n:Nat}{a:Option Addr}{f g:Nat->Int}
theorem BI.cellsT{c:Nat}(h:BI w lo hi (.slice a n c) n f g){k:Nat}(e:k<n):∃b off,a=some ⟨b,off,none⟩/\w.cell? ⟨b,off+k*2,none⟩=some (.int .i64 (f k))/\w.cell? ⟨b,off+k*2+1,none⟩=some (.int .i64 (g k)):=by
 obtain⟨_,l,m,hv,_,j⟩:=h;simp only[Value.slice.injEq,true_and]at hv;obtain⟨rfl,rfl⟩:=hv;obtain⟨b,off,i,_,_,d⟩:=j (by omega);exact⟨b,off,i,(d k e).1,(d k e).2⟩
theorem BI.take{c m c':Nat}(h:BI w lo hi (.slice a n c) n f g)(t:m<=n)(j:m<=c'):BI w lo hi (.slice a m c') m f g:=by
 obtain⟨r,p,q,hv,_,o⟩:=h;simp only[Value.slice.injEq,true_and]at hv;obtain⟨rfl,rfl⟩:=hv;refine⟨by omega,_,c',rfl,j,fun s=>?_⟩;obtain⟨b,off,e,l,k,d⟩:=o (by omega);exact⟨b,off,e,l,k,fun i hi=>d i (by omega)⟩
theorem zCS(v:Value)(n lo hi:Nat)(f g:Nat->Int)(x y:Int)(w:World)(s:BI w lo hi v n f g) :
 Calls Tryz.prog 187 #[v,.agg #[.int .i64 x,.int .i64 y]] w fun e w'=>(∃r:Int,e = .returned (.int .i64 r)/\(0<=r↔Jz n f g x y))/\Below w.heap.size w w':=by
 have C:=A9 s;obtain⟨F,a,c,rfl,K,_⟩:=id s;unfold maxLen at F;clear s;have E:=AC w (.cells #[.int .i64 x,.int .i64 y] 38);have B:=A9 (Ac.new w (.int .i64 x) (.int .i64 y) 38);go_enter Tryz.func187,Tryz.ntmps187;go_wp2
 go_loopw [8] (fun i wr=>∃k:Nat,k<=n/\i = .int .i64 k/\¬Jz k f g x y/\Ac wr w.heap.size (.int .i64 x) (.int .i64 y)/\Below w.heap.size w wr) (fun i _=>n - (intOf i).toNat)
 case atStart=>exact⟨0,Nat.zero_le _,rfl,fun ⟨j,z,_⟩=>absurd z (Nat.not_lt_zero _),B.out,E⟩
 case round=>
  obtain⟨k,J,rfl,p,u,q⟩:=hrel;have m:=A9 p;have t:=A9 u;clear p u;obtain⟨⟨L,M⟩,⟨N,O⟩⟩:=t.out;by_cases o:k<n
  ·have A:(k:Int)<(n:Int):=(by omega);obtain⟨b,off,rfl,G,q1⟩:=(C.out.A0 q).cellsT o;by_cases d:x=f k/\y=g k
   ·have H:=A9 (show Jz n f g x y from⟨k,o,d.1.symm,d.2.symm⟩);rw[<-d.1]at G;rw[<-d.2]at q1;clear d;go_wp2
    go_quiet (fail)
    go_wp2;go_ret;exact⟨⟨_,rfl,⟨fun _=>H.out,fun _=>Int.natCast_nonneg _⟩⟩,Jv q _⟩
   ·have H:=A9 d;have e0:(x == f k)=false\/(x == f k)=true/\(y == g k)=false:=by
     by_cases h:x=f k
     ·right;refine⟨by simp[h],?_⟩;have:y≠g k:=fun D=>d ⟨h,D⟩
      simp[this]
     ·left;simp[h]
    clear d;rcases e0 with e0 | ⟨e0,I⟩
    all_goals
     go_wp2
     go_quiet (fail)
     go_wp2;go_roundw
     case rel=>
      refine⟨k+1,by omega,by go_num,?_,t.out.A0 (Jv (Below.refl _ _) _),Jv q _⟩;rintro⟨j,z,l⟩;by_cases e:j=k
      ·subst e;exact H.out ⟨l.1.symm,l.2.symm⟩
      ·exact m.out ⟨j,by omega,l⟩
     case measure=>simp[intOf];omega
  ·obtain rfl:k=n:=(by omega);go_wp2;go_ret;exact⟨⟨-1,rfl,⟨fun h=>absurd h (by omega),fun h=>absurd h m.out⟩⟩,q⟩
theorem ZS(v:Value)(n lo hi:Nat)(f g:Nat->Int)(x y:Int)(w:World)(b:BI w lo hi v n f g) :
 Calls Tryz.prog 178 #[v,.agg #[.int .i64 x,.int .i64 y]] w fun e w'=>AL (Jz n f g x y) e/\Below w.heap.size w w':=by
 have j:=A9 b;obtain⟨m,a,c,rfl,o,_⟩:=id b;clear b;have d:=AC w (.cells #[.int .i64 x,.int .i64 y] 38);go_enter Tryz.func178,Tryz.ntmps178;go_wp2_with fail;refine(zCS _ n lo hi f g x y _ (j.out.A0 d)).mono ?_;rintro e w' ⟨⟨r,rfl,i⟩,h⟩;have k:=A9 i;have l:=A7 d h;clear i h;go_wp2;go_ret;exact⟨⟨_,rfl,by simpa using k.out⟩,l⟩
def PV(p:A5)(n:Nat)(f g:Nat->Int):Prop:=∀i,i<n->¬Jz i f g (f i) (g i)/\¬Has p.hn p.h (f i)
theorem zw(N v1 v:Value)(lo hi lo' hi' n:Nat)(p:A5)(f g:Nat->Int)(w:World)(D:C6 w lo hi N v1 p)(J:BI w lo' hi' v n f g) :
 Calls Tryz.prog 161 #[.agg #[N,v1],v] w fun e w'=>AL (PV p n f g) e/\Below w.heap.size w w':=by
 have Y:=A9 D;have P:=A9 J;obtain⟨a,c,y,c',rfl,rfl⟩:∃a c y c',N = .slice a p.n c/\v1 = .slice y p.hn c':=by
  obtain⟨⟨_,a,c,D,_⟩,⟨_,y,c',Z,_⟩⟩:=D;exact⟨a,c,y,c',D,Z⟩
 obtain⟨m1,la,W,rfl,mc,_⟩:=id J;unfold maxLen at m1;clear D J;have ha:=AC w (.cells #[.slice a p.n c,.slice y p.hn c'] 26);have X:=A9 (Ac.new w (.slice a p.n c) (.slice y p.hn c') 26);go_enter Tryz.func161,Tryz.ntmps161;go_wp2
 go_loopw [9] (fun i wr=>∃k:Nat,k<=n/\i = .int .i64 k/\PV p k f g/\Ac wr w.heap.size (.slice a p.n c) (.slice y p.hn c')/\Below w.heap.size w wr) (fun i _=>n - (intOf i).toNat)
 case atStart=>exact⟨0,Nat.zero_le _,rfl,fun j hj=>absurd hj (Nat.not_lt_zero _),X.out,ha⟩
 case round=>
  obtain⟨k,hk,rfl,z,Q,K⟩:=hrel;have x:=A9 z;have H:=A9 Q;clear z Q;by_cases u:k<n
  · have R:(k:Int)<(n:Int):=by omega
    have cA:(k:Int)<=(W:Int):=(by omega);obtain⟨b,off,rfl,q0,q1⟩:=(P.out.A0 K).cellsT u;have A:=AC wr (.cells #[.int .i64 (f k),.int .i64 (g k)] 38);have o:=A9 (H.out.A0 A);have F:=A9 (Ac.new wr (.int .i64 (f k)) (.int .i64 (g k)) 38);have q:=A7 K A;have dA:w.heap.size<wr.heap.size:=H.out.1.lt;have L:(wr.alloc (.cells #[.int .i64 (f k),.int .i64 (g k)] 38)).heap.size=wr.heap.size+1:=World.size_alloc _ _;go_upto_region 4 with fail;generalize wr.alloc (.cells #[.int .i64 (f k),.int .i64 (g k)] 38)=wx at o F q L ⊢;clear q0 q1 A H;have s:=A9 ((P.out.A0 q).take (m:=k) (c':=W) (by omega) (by omega));obtain⟨⟨x0,x1⟩,⟨x2,x3⟩⟩:=o.out;obtain⟨⟨y0,y1⟩,⟨y2,y3⟩⟩:=F.out;by_cases G:Jz k f g (f k) (g k)
    · have B:=A9 G
      clear G
      first
       | (go_region_with (first
           | (go_at_call 178
              refine(ZS _ k lo' hi' f g (f k) (g k) _ ?_).mono ?_
              (first | exact s.out | exact s.out.A0 (Below.refl _ _).drew)
              rintro e O ⟨⟨M,rfl,r⟩,l⟩;obtain rfl:M=true:=r.2 B.out;clear r;have d:Below wx.heap.size wx O:=(by first | exact l | exact Cr l);obtain⟨⟨S,_⟩,⟨T,_⟩⟩:=o.out.A0 d;obtain⟨⟨U,_⟩,⟨V,_⟩⟩:=F.out.A0 d)))
       | fail
      all_goals
       have t:=A7 q d;go_wp2;go_ret;exact⟨AL.no fun h=>(h k u).1 B.out,t⟩
    · have B:=A9 G
      clear G;go_region_held3 (fun w'=>w'.cell? ⟨w.heap.size,0,none⟩=some (.slice a p.n c)/\w'.cell? ⟨w.heap.size,1,none⟩=some (.slice y p.hn c')/\w'.cell? ⟨wr.heap.size,0,none⟩=some (.int .i64 (f k))/\w'.cell? ⟨wr.heap.size,1,none⟩=some (.int .i64 (g k))) (go_keep)
       (first
         | (go_at_call 178
            refine(ZS _ k lo' hi' f g (f k) (g k) _ ?_).mono ?_
            (first | exact s.out | exact s.out.A0 (Below.refl _ _).drew)
            rintro e O ⟨⟨M,rfl,r⟩,l⟩;obtain rfl:M=false:=BR r B.out;clear r;have d:Below wx.heap.size wx O:=(by first | exact l | exact Cr l);obtain⟨⟨S,_⟩,⟨T,_⟩⟩:=o.out.A0 d;obtain⟨⟨U,_⟩,⟨V,_⟩⟩:=F.out.A0 d)
         | (go_at_call 158
            refine(Ou _ p.hn lo hi p.h (f k) _ ?_).mono ?_;exact(Y.out.2.A0 (A7 q d));rintro e w3 ⟨⟨t3,rfl,E⟩,rfl⟩))
      have t:=A7 q d;have I:=A9 (o.out.A0 d);have C:=A9 E;clear E d l x0 x1 x2 x3 y0 y1 y2 y3 S T U V;cases t3
      · go_wp2
        go_roundw
        case rel=>exact⟨k+1,by omega,by go_num,Bu (n:=n) u x.out ⟨B.out,fun h=>absurd (C.out.2 h) (by simp)⟩,I.out,t⟩
        case measure=>simp[intOf];omega
      · go_wp2
        go_ret;exact⟨AL.no fun h=>(h k u).2 (C.out.1 trivial),t⟩
  · obtain rfl:k=n:=by omega
    go_wp2;go_ret;exact⟨AL.yes x.out,K⟩
theorem zFt{base:Nat}{v:Value}{l:List (Int×Int)}(f:l.length<=maxLen)(h:w.ownsRow base 38 2 v l.length (pcl l)):BI w 0 w.heap.size v l.length (fun i=>(l.getD i (0,0)).1) (fun i=>(l.getD i (0,0)).2):=by
 by_cases e:0<l.length
 · obtain⟨g,cap,rfl,c,j,d,b⟩:=Fj h e
   refine⟨f,_,cap,rfl,c,fun _=>⟨g,0,rfl,Nat.zero_le _,d,fun i hi=>?_⟩⟩;have get:∀(l:List (Int×Int)) i,i<l.length->(pcl l)[i*2]?=some (.int .i64 (l.getD i (0,0)).1)/\(pcl l)[i*2+1]?=some (.int .i64 (l.getD i (0,0)).2):=by
    intro l
    induction l with
    | nil=>intro i hi;simp at hi
    | cons x l ih=>
      intro i hi;cases i with
      | zero=>exact⟨rfl,rfl⟩
      | succ i=>
        have:=ih i (by simpa using hi);rw[show(i+1)*2=i*2+1+1 by omega];simpa[pcl]using this
   rw[Nat.zero_add];exact⟨(b _ _ (get l i hi).1).1,(b _ _ (get l i hi).2).1⟩
 · obtain⟨a,cap,rfl,c⟩:=Bh h
   exact⟨f,a,cap,rfl,c,fun h=>absurd h e⟩
theorem zBU(p:A5)(l:List (Int×Int)):PV p l.length (fun i=>(l.getD i (0,0)).1) (fun i=>(l.getD i (0,0)).2)↔Rz p l:=by
 have a:∀i (h:i<l.length),l.getD i (0,0)=l[i]:=fun i h=>by rw[List.getD_eq_getElem?_getD,List.getElem?_eq_getElem h,Option.getD_some]
 constructor
 · intro h
   refine⟨?_,fun x m=>?_⟩
   · rw[List.Nodup,List.pairwise_iff_getElem]
     intro i j hi b c e;refine(h j b).1 ⟨i,c,?_,?_⟩
     · show(l.getD i (0,0)).1=(l.getD j (0,0)).1
       rw[a i hi,a j b,e]
     · show(l.getD i (0,0)).2=(l.getD j (0,0)).2
       rw[a i hi,a j b,e]
   · obtain⟨i,hi,rfl⟩:=List.getElem_of_mem m
     have:=(h i hi).2;simp only[a i hi]at this;exact this
 · rintro⟨g,k⟩ i hi
   refine⟨?_,?_⟩
   · rintro⟨j,b,d,f⟩
     simp only[a i hi,a j (by omega)]at d f;rw[List.Nodup,List.pairwise_iff_getElem]at g;exact g j i (by omega) hi b (Prod.ext d f)
   · simp only[a i hi]
     exact k _ (List.getElem_mem hi)
theorem ZJ(R v1:Value)(lo hi:Nat)(p:A5)(xs xb:Int)(w:World)(H:C6 w lo hi R v1 p)(U:AY p) :
 Calls Tryz.prog 114 #[.agg #[R,v1],.agg #[.int .i64 xs,.int .i64 xb]] w fun e w'=>AL (Pn p xs xb) e/\Below w.heap.size w w':=by
 have r:=A9 H;have G:=A9 U;obtain⟨a,c,y,c',rfl,rfl⟩:∃a c y c',R = .slice a p.n c/\v1 = .slice y p.hn c':=by
  obtain⟨⟨_,a,c,H,_⟩,⟨_,y,c',h3,_⟩⟩:=H;exact⟨a,c,y,c',H,h3⟩
 clear H U;have E:=Sk w (.slice a p.n c) (.slice y p.hn c') (.int .i64 xs) (.int .i64 xb) 26 38;by_cases hn:Nil xs xb
 · have M:=A9 hn
   obtain⟨rfl,rfl⟩:=hn;obtain⟨_,_,b,_⟩:=E;go_enter Tryz.func114,Tryz.ntmps114;go_wp2;go_ret;exact⟨AL.yes (Or.inl M.out),b⟩
 · have M:=A9 hn
   have e0:=Ju hn;clear hn;have l:Hid (∀t:Bool,(t=true↔B5 p xs xb/\NH p (p.s xs.toNat)/\Rz p (AF p xs xb))->AL (Pn p xs xb) (.returned (.bool t))):=fun t ht=>⟨t,rfl,ht.trans ⟨fun h=>Or.inr h,fun h=>h.resolve_left M.out⟩⟩
   go_enter Tryz.func114,Tryz.ntmps114;go_upto_region 1 with fail;generalize (w.alloc (.cells #[.slice a p.n c,.slice y p.hn c'] 26)).alloc (.cells #[.int .i64 xs,.int .i64 xb] 38)=W at E ⊢;obtain⟨T,V,b,hz⟩:=E;have B:=A9 T;have x:=A9 V;clear T V
   go_cut [7] (fun v wc=>v = .bool false/\W=wc)
   case first=>
    obtain⟨⟨y0,y1⟩,⟨y2,y3⟩⟩:=x.out;rcases e0 with e0 | ⟨e0,e1⟩
    all_goals
     go_wp2_with fail
     go_meet
     case rel=>exact⟨rfl,rfl⟩
   case rest=>
    obtain⟨rfl,rfl⟩:=hcut;clear e0;obtain⟨⟨x0,x1⟩,⟨x2,x3⟩⟩:=B.out;obtain⟨⟨y0,y1⟩,⟨y2,y3⟩⟩:=x.out;go_upto_region 3 with fail;by_cases L:B5 p xs xb
    · have u:=A9 L
      clear L;by_cases A:NH p (p.s xs.toNat)
      · have k:=A9 A
        clear A;go_region_held3 (fun w'=>w'.cell? ⟨w.heap.size,0,none⟩=some (.slice a p.n c)/\w'.cell? ⟨w.heap.size,1,none⟩=some (.slice y p.hn c')/\w'.cell? ⟨w.heap.size+1,0,none⟩=some (.int .i64 xs)/\w'.cell? ⟨w.heap.size+1,1,none⟩=some (.int .i64 xb)) (go_keep)
         (first
           | (go_at_call 157
              refine(OH _ p.n lo hi p.s xs xb _ ?_).mono ?_
              (first | exact r.out.1.A0 b | exact r.out.1.A0 b.drew)
              rintro e J ⟨⟨I,rfl,f⟩,j⟩;rw[OI G.out]at f;obtain rfl:I=true:=f.2 u.out;clear f;have d:Below W.heap.size W J:=(by first | exact j | exact Cr j);obtain⟨⟨X,_⟩,⟨Y,_⟩⟩:=B.out.A0 d;obtain⟨⟨Z,_⟩,⟨k3,_⟩⟩:=x.out.A0 d)
           | (go_at_call 160
              refine(Y1 p G.out _ lo hi xs xb _ ?_ u.out).mono ?_;exact r.out.1.A0 (A7 b d);rintro e w2 ⟨⟨Q,rfl,q⟩,D⟩;obtain rfl:Q=true:=q.2 k.out;clear q;have i:=A7 d D;obtain⟨⟨l0,_⟩,⟨l1,_⟩⟩:=B.out.A0 i;obtain⟨⟨l2,_⟩,⟨l3,_⟩⟩:=x.out.A0 i)
           | (go_at_call 162
              refine(X6 p G.out _ lo hi xs xb _ ?_ (Or.inr u.out)).mono ?_;exact r.out.1.A0 (A7 b i);rintro e w3 ⟨v3,rfl,o,N⟩;obtain⟨na,nc,rfl,_⟩:=Bh o;have z:=A7 i N;have P:=zFt (by have:=DX p xs xb;unfold maxLen;omega) o;obtain⟨⟨m0,_⟩,⟨m1,_⟩⟩:=B.out.A0 z;obtain⟨⟨m2,_⟩,⟨m3,_⟩⟩:=x.out.A0 z)
           | (go_at_call 161
              refine(zw _ _ _ lo hi 0 w3.heap.size _ p _ _ _ ?_ P).mono ?_;exact r.out.A0 (A7 b z);rintro e w4 ⟨⟨t4,rfl,F⟩,O⟩;rw[zBU]at F;have C:=A7 z O;obtain⟨⟨n0,_⟩,⟨n1,_⟩⟩:=B.out.A0 C;obtain⟨⟨n2,_⟩,⟨n3,_⟩⟩:=x.out.A0 C))
        have m:=A7 b C;have HT:=A9 F;clear F;go_wp2;go_ret;exact⟨l.out t4 (HT.out.trans ⟨fun h=>⟨u.out,k.out,h⟩,fun h=>h.2.2⟩),m⟩
      · have k:=A9 A
        clear A;refine wp_region_held_drew (S:=(fun w'=>w'.cell? ⟨w.heap.size,0,none⟩=some (.slice a p.n c)/\w'.cell? ⟨w.heap.size,1,none⟩=some (.slice y p.hn c')/\w'.cell? ⟨w.heap.size+1,0,none⟩=some (.int .i64 xs)/\w'.cell? ⟨w.heap.size+1,1,none⟩=some (.int .i64 xb))) (by kernel_rfl) ?_ (fun hHeld=>?_)
        · (try dsimp only)
          go_keep
        refine tk 0 (h:=tk 1 (h:=tk 2 (h:=?_)));refine rd [3] (rc (fun K hK=>?_) .nil);go_simp;go_at_call 157;refine(OH _ p.n lo hi p.s xs xb _ ?_).mono ?_
        · first | exact r.out.1.A0 b | exact r.out.1.A0 b.drew
        rintro e J ⟨⟨I,rfl,f⟩,j⟩;rw[OI G.out]at f;obtain rfl:I=true:=f.2 u.out;clear f;have d:Below W.heap.size W J:=(by first | exact j | exact Cr j);obtain⟨⟨X,_⟩,⟨Y,_⟩⟩:=B.out.A0 d;obtain⟨⟨Z,_⟩,⟨k3,_⟩⟩:=x.out.A0 d
        (try go_wp2_with fail)
        refine hK.out _ _ (by(try dsimp only);go_keep) ?_;clear hK K hHeld;intro hHeld
        try simp only[Act.put,s1,s2,s3]
        refine tk 4 (h:=tk 5 (h:=tk 6 (h:=tk 7 (h:=?_))));refine rd [8] (rc (fun K hK=>?_) .nil);go_simp;go_at_call 160;refine(Y1 p G.out _ lo hi xs xb _ ?_ u.out).mono ?_
        · exact r.out.1.A0 (A7 b d)
        rintro e w2 ⟨⟨Q,rfl,q⟩,D⟩;obtain rfl:Q=false:=BR q k.out;clear q;have i:=A7 d D;obtain⟨⟨l0,_⟩,⟨l1,_⟩⟩:=B.out.A0 i;obtain⟨⟨l2,_⟩,⟨l3,_⟩⟩:=x.out.A0 i
        (try go_wp2_with fail)
        refine hK.out _ _ (by(try dsimp only);go_keep) ?_;clear hK K hHeld;intro hHeld
        try simp only[Act.put,s1,s2,s3]
        refine tk 9 (h:=tk 10 (h:=ts 11 (h:=ts 12 (h:=ts 13 (h:=ts 14 (h:=?_))))));refine rd [15] (rc (fun K hK=>?_) .nil);split
        · rename_i g
          exact absurd (show false=true from g) Bool.false_ne_true
        refine hK.out _ _ (by assumption) (fun hHeld=>?_);clear hK K
        try simp only[Act.put,s1,s2,s3]
        refine rd [16] (rc (fun K hK=>?_) .nil);split
        · rename_i g
          exact absurd (show false=true from g) Bool.false_ne_true
        refine hK.out _ _ (by assumption) (fun hHeld=>?_);clear hK K
        try simp only[Act.put,s1,s2,s3]
        refine tk 17 (h:=tk 18 (h:=?_));refine wpAnyH_done (by kernel_rfl) ?_ _;have m:=A7 b i;go_wp2;go_ret;exact⟨l.out false ⟨fun h=>(by cases h),fun h=>absurd h.2.1 k.out⟩,m⟩
    · have u:=A9 L
      clear L;refine wp_region_held_drew (S:=(fun w'=>w'.cell? ⟨w.heap.size,0,none⟩=some (.slice a p.n c)/\w'.cell? ⟨w.heap.size,1,none⟩=some (.slice y p.hn c')/\w'.cell? ⟨w.heap.size+1,0,none⟩=some (.int .i64 xs)/\w'.cell? ⟨w.heap.size+1,1,none⟩=some (.int .i64 xb))) (by kernel_rfl) ?_ (fun hHeld=>?_)
      · (try dsimp only)
        go_keep
      refine tk 0 (h:=tk 1 (h:=tk 2 (h:=?_)));refine rd [3] (rc (fun K hK=>?_) .nil);go_simp;go_at_call 157;refine(OH _ p.n lo hi p.s xs xb _ ?_).mono ?_
      · first | exact r.out.1.A0 b | exact r.out.1.A0 b.drew
      rintro e J ⟨⟨I,rfl,f⟩,j⟩;rw[OI G.out]at f;obtain rfl:I=false:=BR f u.out;clear f;have d:Below W.heap.size W J:=(by first | exact j | exact Cr j);obtain⟨⟨X,_⟩,⟨Y,_⟩⟩:=B.out.A0 d;obtain⟨⟨Z,_⟩,⟨k3,_⟩⟩:=x.out.A0 d
      (try go_wp2_with fail)
      refine hK.out _ _ (by(try dsimp only);go_keep) ?_;clear hK K hHeld;intro hHeld
      try simp only[Act.put,s1,s2,s3]
      refine tk 4 (h:=ts 5 (h:=ts 6 (h:=ts 7 (h:=?_))));refine rd [8] (rc (fun K hK=>?_) .nil);split
      · rename_i g
        exact absurd (show false=true from g) Bool.false_ne_true
      refine hK.out _ _ (by assumption) (fun hHeld=>?_);clear hK K
      try simp only[Act.put,s1,s2,s3]
      refine tk 9 (h:=tk 10 (h:=ts 11 (h:=ts 12 (h:=ts 13 (h:=ts 14 (h:=?_))))));refine rd [15] (rc (fun K hK=>?_) .nil);split
      · rename_i g
        exact absurd (show false=true from g) Bool.false_ne_true
      refine hK.out _ _ (by assumption) (fun hHeld=>?_);clear hK K
      try simp only[Act.put,s1,s2,s3]
      refine rd [16] (rc (fun K hK=>?_) .nil);split
      · rename_i g
        exact absurd (show false=true from g) Bool.false_ne_true
      refine hK.out _ _ (by assumption) (fun hHeld=>?_);clear hK K
      try simp only[Act.put,s1,s2,s3]
      refine tk 17 (h:=tk 18 (h:=?_));refine wpAnyH_done (by kernel_rfl) ?_ _;have m:=A7 b d;go_wp2;go_ret;exact⟨l.out false ⟨fun h=>(by cases h),fun h=>absurd h.1 u.out⟩,m⟩
def Dt(p:A5)(rs:Int)(s:AG)(j:Nat):List Int:=rs :: Bi (CN p s j)
def E7(p:A5)(rs:Int)(s:AG)(j i:Nat):List Int:=Dt p rs s j ++ (AH s j :: Bi (kidsUp (AH (p.s (AH s j).toNat)) (AT (p.s (AH s j).toNat)) i))
theorem Y5(p:A5)(s:AG)(j:Nat):∀m,j<=m->∃r,CN p s m=CN p s j ++ r
 | 0,h=>⟨[],by rw[show j=0 by omega];simp⟩
 | m+1,h=>by
  by_cases e:j=m+1
  ·subst e;exact⟨[],by simp⟩
  ·obtain⟨r,a⟩:=Y5 p s j m (by omega);exact⟨r ++ Cg p (AH s m) (AT s m),by rw[CN,a,List.append_assoc]⟩
theorem Yt(b a:Nat->Int)(j:Nat):∀m,j<=m->∃r,kidsUp b a m=kidsUp b a j ++ r
 | 0,h=>⟨[],by rw[show j=0 by omega];simp⟩
 | m+1,h=>by
  by_cases e:j=m+1
  ·subst e;exact⟨[],by simp⟩
  ·obtain⟨r,c⟩:=Yt b a j m (by omega);exact⟨r ++ one (b m) (a m),by rw[kidsUp,c,List.append_assoc]⟩
theorem L9(l m:List (Int×Int)):Bi (l ++ m)=Bi l ++ Bi m:=by simp[Bi]
theorem Oh{l:List Int}{x:Int}:(l ++ [x]).Nodup↔l.Nodup/\x∉l:=by
 rw[List.nodup_append];constructor
 ·rintro⟨c,_,g⟩;exact⟨c,fun i=>g x i x (by simp) rfl⟩
 ·rintro⟨c,f⟩;refine⟨c,by simp,fun a h b d e=>?_⟩;rw[List.mem_singleton]at d;subst d;subst e;exact f h
variable{p:A5}{rs:Int}
theorem Rc{rb:Int}(a:¬Nil rs rb):Bi (AF p rs rb)=Dt p rs (p.s rs.toNat) 8:=by
 unfold AF Dt;rw[if_neg a];rfl
variable{s:AG}{j:Nat}
theorem zEu(hn:¬Nil (AH s j) (AT s j)):Cg p (AH s j) (AT s j)=(AH s j,AT s j) :: Ec (p.s (AH s j).toNat):=if_neg hn
theorem XF(hn:¬Nil (AH s j) (AT s j)):Dt p rs s (j+1)=E7 p rs s j 8:=by
 unfold Dt E7 Dt;rw[CN,L9,zEu hn];rfl
theorem zE2(hn:Nil (AH s j) (AT s j)):Dt p rs s (j+1)=Dt p rs s j:=by
 unfold Dt;rw[CN,show Cg p (AH s j) (AT s j) = [] from if_pos hn,List.append_nil]
theorem X0(p:A5)(rs:Int)(s:AG)(j:Nat):E7 p rs s j 0=Dt p rs s j ++ [AH s j]:=rfl
variable{i:Nat}
theorem zEw(hn:Nil (AH (p.s (AH s j).toNat) i) (AT (p.s (AH s j).toNat) i)):E7 p rs s j (i+1)=E7 p rs s j i:=by
 unfold E7;rw[kidsUp,show one (AH (p.s (AH s j).toNat) i) (AT (p.s (AH s j).toNat) i) = [] from if_pos hn,List.append_nil]
theorem zEv(hn:¬Nil (AH (p.s (AH s j).toNat) i) (AT (p.s (AH s j).toNat) i)):E7 p rs s j (i+1)=E7 p rs s j i ++ [AH (p.s (AH s j).toNat) i]:=by
 unfold E7;rw[kidsUp,show one (AH (p.s (AH s j).toNat) i) (AT (p.s (AH s j).toNat) i) = [(AH (p.s (AH s j).toNat) i,AT (p.s (AH s j).toNat) i)] from if_neg hn,L9,List.append_assoc];rfl
theorem UA(p:A5)(rs:Int)(s:AG)(a:j<=8):(Dt p rs s j).length<=73:=by
 have:=OP p s j;simp only[Dt,Bi,List.length_cons,List.length_map];omega
theorem zGv(p:A5)(rs:Int)(s:AG)(a:j<=8)(hi:i<=8):(E7 p rs s j i).length<=90:=by
 have b:=UA p rs s a;have c:=II (AH (p.s (AH s j).toNat)) (AT (p.s (AH s j).toNat)) i;simp only[E7,Bi,List.length_append,List.length_cons,List.length_map];omega
theorem zDh{rb:Int}(e:¬Nil rs rb)(h:(Bi (AF p rs rb)).Nodup)(g:j<8)(hi:i<=8)(hn:¬Nil (AH (p.s rs.toNat) j) (AT (p.s rs.toNat) j)):(E7 p rs (p.s rs.toNat) j i).Nodup:=by
 rw[Rc e]at h;obtain⟨r,d⟩:=Y5 p (p.s rs.toNat) (j+1) 8 (by omega);obtain⟨f,a⟩:=Yt (AH (p.s (AH (p.s rs.toNat) j).toNat)) (AT (p.s (AH (p.s rs.toNat) j).toNat)) i 8 hi;have b:Dt p rs (p.s rs.toNat) 8=Dt p rs (p.s rs.toNat) (j+1) ++ Bi r:=by unfold Dt;rw[d,L9];rfl
 have c:E7 p rs (p.s rs.toNat) j 8=E7 p rs (p.s rs.toNat) j i ++ Bi f:=by
  unfold E7;rw[a,L9,List.append_assoc];rfl
 rw[b,XF hn,c,List.append_assoc]at h;exact(List.nodup_append.1 h).1
def BV(p:A5)(xs xb:Int)(i:Nat):Int:=if Nil xs xb then 0 else AH (p.s xs.toNat) i
def Ba(p:A5)(xs xb:Int)(i:Nat):Int:=if Nil xs xb then 0 else AT (p.s xs.toNat) i
def Ij(p:A5)(xs xb:Int):Prop:=Nil xs xb\/(B5 p xs xb/\(p.s xs.toNat).kn=8)
variable{xs xb:Int}
theorem Nh(h:Ai p xs xb):Ij p xs xb:=by
 rcases h.2 with a | a
 ·exact Or.inl a
 ·right;refine⟨a.1.1,?_⟩;rcases Qy h.1 a.1.1 with b | b
  ·have:=a.1.2.1;omega
  ·exact b
theorem Lg(h:Ai p xs xb)(d:j<8):Ij p (BV p xs xb j) (Ba p xs xb j):=by
 by_cases b:Nil xs xb
 ·left;unfold BV Ba;rw[if_pos b,if_pos b];exact⟨rfl,rfl⟩
 ·unfold BV Ba;rw[if_neg b,if_neg b];rcases(h.2.resolve_left b).2.1.1 j d with a | a
  ·exact Or.inl a
  ·right;refine⟨a.1.1,?_⟩;rcases Qy h.1 a.1.1 with c | c
   ·have:=a.1.2.1;omega
   ·exact c
def BW(p:A5)(xs xb:Int)(n:Nat):Int:=BV p xs xb (n / 8)
def Bf(p:A5)(xs xb:Int)(n:Nat):Int:=Ba p xs xb (n / 8)
def BS(p:A5)(xs xb:Int)(n:Nat):Int:=BV p (BW p xs xb n) (Bf p xs xb n) (n % 8)
def BY(p:A5)(xs xb:Int)(n:Nat):Int:=Ba p (BW p xs xb n) (Bf p xs xb n) (n % 8)
theorem Ip(h:Ai p xs xb)(hn:n<64):Nil (BS p xs xb n) (BY p xs xb n)\/El p (BS p xs xb n) (BY p xs xb n):=by
 by_cases b:Nil xs xb
 ·left;have e:Nil (BW p xs xb n) (Bf p xs xb n):=(by unfold BW Bf BV Ba;rw[if_pos b,if_pos b];exact⟨rfl,rfl⟩);unfold BS BY BV Ba;rw[if_pos e,if_pos e];exact⟨rfl,rfl⟩
 ·have d:BW p xs xb n=AH (p.s xs.toNat) (n / 8):=if_neg b;have f:Bf p xs xb n=AT (p.s xs.toNat) (n / 8):=if_neg b;by_cases a:Nil (BW p xs xb n) (Bf p xs xb n)
  ·left;unfold BS BY BV Ba;rw[if_pos a,if_pos a];exact⟨rfl,rfl⟩
  ·have g:BS p xs xb n=AH (p.s (BW p xs xb n).toNat) (n % 8):=if_neg a;have i:BY p xs xb n=AT (p.s (BW p xs xb n).toNat) (n % 8):=if_neg a;rw[g,i];rcases(h.2.resolve_left b).2.1.1 (n / 8) (by omega)with c | c
   ·rw[<-d,<-f]at c;exact absurd c a
   ·have:=c.2.1 (n % 8) (by omega);rw[<-d]at this;exact this
theorem It(w:World)(b:Nat)(u v:Value):AE (fun k=>k=b) w ((w.setCell ⟨b,0,none⟩ u).setCell ⟨b,1,none⟩ v):=((AE.refl (fun k=>k=b) w).setCell (p:=⟨b,0,none⟩) rfl u).setCell (p:=⟨b,1,none⟩) rfl v
def Bv(rb birth:Int):Prop:=DM birth/\rb<=birth
theorem Z1(xs xb birth:Int)(w:World):Calls Tryz.prog 52 #[.agg #[.int .i64 xs,.int .i64 xb],.int .i64 birth] w fun e w'=>AL (Bv xb birth) e/\Below w.heap.size w w':=by
 have c:=AC w (.cells #[.int .i64 xs,.int .i64 xb] 38);by_cases d:DM birth
 ·have a:=A9 d;clear d;by_cases h:xb<=birth
  ·go_enter Tryz.func52,Tryz.ntmps52;go_wp2_with (first | (go_at_call 115;refine(FD birth _).mono ?_;rintro e f ⟨⟨t,rfl,b⟩,rfl⟩;obtain rfl:t=true:=b.2 a.out;clear b) | fail);go_wp2;go_ret;exact⟨⟨_,rfl,by simp[Bv,a.out,h]⟩,c⟩
  ·go_enter Tryz.func52,Tryz.ntmps52;go_wp2_with (first | (go_at_call 115;refine(FD birth _).mono ?_;rintro e f ⟨⟨t,rfl,b⟩,rfl⟩;obtain rfl:t=true:=b.2 a.out;clear b) | fail);go_wp2;go_ret;exact⟨⟨_,rfl,by first | (simp[Bv,a.out];done) | (simp[Bv,a.out];omega)⟩,c⟩
 ·have a:=A9 d;clear d;go_enter Tryz.func52,Tryz.ntmps52;go_wp2_with (first | (go_at_call 115;refine(FD birth _).mono ?_;rintro e f ⟨⟨t,rfl,b⟩,rfl⟩;obtain rfl:t=false:=BR b a.out;clear b) | fail);go_wp2;go_ret;exact⟨AL.no (fun g=>a.out g.1),c⟩
theorem zEV{birth:Int}(h:Ai p xs xb):((∀i,i<(AF p xs xb).length->¬birth<AM (AF p xs xb) i)/\DM birth)↔Bv xb birth:=by
 constructor
 ·rintro⟨b,c⟩;refine⟨c,?_⟩;by_cases a:Nil xs xb
  ·rw[a.2];have:=c.1;omega
  ·have e:AF p xs xb=(xs,xb) :: CN p (p.s xs.toNat) 8:=if_neg a;have:=b 0 (by rw[e];simp);rw[e]at this;have d:AM ((xs,xb) :: CN p (p.s xs.toNat) 8) 0=xb:=rfl;rw[d]at this;omega
 ·rintro⟨b,c⟩;refine⟨fun i hi f=>?_,b⟩;by_cases a:Nil xs xb
  ·have e:AF p xs xb = []:=if_pos a;rw[e]at hi;simp at hi
  ·have g:(AK (AF p xs xb) i,AM (AF p xs xb) i)∈AF p xs xb:=by
    have:(AK (AF p xs xb) i,AM (AF p xs xb) i)=(AF p xs xb)[i]:=by
     unfold AK AM;rw[List.getD_eq_getElem?_getD,List.getElem?_eq_getElem hi,Option.getD_some]
    rw[this];exact List.getElem_mem hi
   have:=(MY h.1 (h.2.resolve_left a).1.1 _ g).2;have e:(AK (AF p xs xb) i,AM (AF p xs xb) i).2=AM (AF p xs xb) i:=rfl;omega
theorem Yk{p:A5}(h:∀i,i<p.n->Ag (p.s i)\/Bm p (p.s i)):∀k,k<=p.n->D9 p.s k<=24*k
 | 0,_=>Nat.le_refl _
 | k+1,hk=>by
  have f:=Yk h k (by omega);have hs:Cf (p.s k)<=24:=by
   unfold Cf;rcases h k (by omega)with a | a
   ·have c:=a.2.1;have b:(p.s k).data.size=0:=by
     have:=a.2.2;rw[Go.ByteArray.toList_eq]at this;have e:(p.s k).data.data=#[]:=(by simpa using this);show(p.s k).data.data.size=0;rw[e];rfl
    omega
   ·rcases a.2 with b | b
    ·omega
    ·have d:(p.s k).data.size=0:=by
      have:=b.2.1;rw[Go.ByteArray.toList_eq]at this;have e:(p.s k).data.data=#[]:=(by simpa using this);show(p.s k).data.data.size=0;rw[e];rfl
     omega
  show D9 p.s k+Cf (p.s k)<=_;omega
theorem Jw(h:AY p):An p<=10000:=by
 have a:=Yk h.2.1 p.n (Nat.le_refl _);have b:=((MK p).2 h).2.1;have c:=h.1;unfold An;omega
theorem zCd(v:Value)(n lo hi:Nat)(f g:Nat->Int)(w:World)(R:BI w lo hi v n f g)(hn:n<=1048576) :
 Calls Tryz.prog 129 #[v] w fun e w'=>(∃s r,e = .returned s/\Ca w' r s n f g/\(0<n->w.heap.size<=r/\r<w'.heap.size))/\Below w.heap.size w w':=by
 obtain⟨N,a,c,rfl,W,I⟩:=R;have G:Hid (0<n->∃b off,a=some ⟨b,off,none⟩/\lo<=b/\b<hi/\∀i,i<n->w.cell? ⟨b,off+i*2,none⟩=some (.int .i64 (f i))/\w.cell? ⟨b,off+i*2+1,none⟩=some (.int .i64 (g i))):=I;have O:Hid (n<=maxLen):=N;clear I N;have U:=fun w=>Lib.run_eql_slice_nil (P:=Tryz.prog) w 39 38 a n c 0 0 (by kernel_rfl)
 cases a with
 | none=>
  have F:n=0:=by
   by_cases h:0<n
   ·obtain⟨b,off,C,_⟩:=G.out h;simp at C
   ·omega
  subst F;go_enter Tryz.func129,Tryz.ntmps129;go_wp2;go_ret;exact⟨⟨_,0,rfl,⟨Nat.zero_le _,none,0,rfl,Nat.le_refl _,fun h=>absurd h (Nat.lt_irrefl _)⟩,fun h=>absurd h (Nat.lt_irrefl _)⟩,Below.refl _ _⟩
 | some ad=>
  obtain⟨i0,hi,A⟩:=Option.map_eq_some_iff.1 Ls;simp only[Prod.mk.injEq]at A;obtain⟨M,hs,y⟩:=A;have p:∀(w':World),Below w.heap.size w w'->∀j u,(kc f g n)[j]?=some u->w'.cell? (ad.add j)=some u:=fun w' S j u J=>by
   by_cases Q:0<n
   ·obtain⟨b,off,C,_,_,T⟩:=G.out Q;simp only[Option.some.injEq]at C;subst C;have:=Uw T j u J;have x:(⟨b,off,none⟩:Addr).add j=⟨b,off+j,none⟩:=(by unfold Addr.add;split<;>simp_all);rw[x]at this ⊢;exact(S.cell (AZ this)).trans this
   ·obtain rfl:n=0:=(by omega);simp[kc]at J
  have t:Hid (∀(w':World),Below w.heap.size w w'->∀j u,(kc f g n)[j]?=some u->w'.cell? (ad.add j)=some u):=p;have B:Hid (Tryz.prog.info? 38=some i0/\i0.zero=some (.agg #[.int .i64 0,.int .i64 0])/\i0.size=2/\i0.bytes=16):=⟨hi,M,hs,y⟩;have m:(w.alloc (.cells #[] 38)).ownsRow w.heap.size 38 2 (.slice (some ⟨w.heap.size,0,none⟩) 0 0) 0 []:=World.ownsRow_made w #[] 0 (Nat.le_refl _) (Nat.zero_le _) (by simp);have d:Hid ((w.alloc (.cells #[] 38)).ownsRow w.heap.size 38 2 (.slice (some ⟨w.heap.size,0,none⟩) 0 0) 0 []):=m;clear hi M hs y p m;go_enter Tryz.func129,Tryz.ntmps129;go_wp2_with (first
   | (at_builtin;refine wpList_append_own _ rfl _ _ 39 rfl w.heap.size 38 i0 (.agg #[.int .i64 0,.int .i64 0]) 2 16 (by kernel_rfl) B.out.1 B.out.2.1 B.out.2.2.1 B.out.2.2.2 rfl (by decide) _ _ _ rfl d.out ad n c (kc f g n) rfl (KK f g n) ?c1 (Zy f g n) ?c3 ?c4 ?c5 ?_))
  case c1=>exact t.out _ ((Below.refl _ _).alloc (Nat.le_refl _) _)
  case c3=>unfold maxLen;omega
  case c4=>omega
  case c5=>simp
  intro s D l k z;have E:Below w.heap.size w D:=((Below.refl _ _).alloc (Nat.le_refl _) _).grown k (by simp) (fun q V=>by have:=d.out.lt q V;omega);have o:D.ownsRow w.heap.size 38 2 s n (kc f g n):=(by simpa using l);obtain⟨r,L,K⟩:=Z8 O.out o;have H:Hid (Ca D r s n f g/\(0<n->w.heap.size<=r/\r<D.heap.size)):=⟨L,K⟩;clear L K l o k z;go_wp2;go_ret;exact⟨⟨s,r,rfl,H.out.1,H.out.2⟩,E⟩
theorem zCe(t v1 u:Value)(lo hi:Nat)(s:AG)(w:World)(y:CQ w lo hi t v1 u s)(hn:s.kn<=1048576) :
 Calls Tryz.prog 185 #[.agg #[t,v1,u]] w (zGP s w):=by
 obtain⟨rfl,r,rfl,z⟩:=y;have q1:=r;obtain⟨_,a,c,rfl,_⟩:=r;go_enter Tryz.func185,Tryz.ntmps185;go_wp2_with fail;have h:=AC w (.cells #[.int .i64 s.birth,.slice a s.kn c,.string s.data] 86);have f:=A7 h (AC _ (.cells #[.int .i64 0,.slice none 0 0,.string ⟨#[]⟩] 86));refine(zCd _ s.kn lo hi _ _ _ (q1.A0 f) hn).mono ?_;rintro e k ⟨⟨kv,j,rfl,q,i⟩,b⟩;have x:Hid (CY k w.heap.size (.int .i64 s.birth) (.slice a s.kn c) (.string s.data)):=((CY.new w _ _ _ _).A0 (AC _ _)).A0 b;have p:Hid (CY k (w.heap.size+1) (.int .i64 0) (.slice none 0 0) (.string ⟨#[]⟩)):=by
  have:=((CY.new (w.alloc (.cells #[.int .i64 s.birth,.slice a s.kn c,.string s.data] 86)) (.int .i64 0) (.slice none 0 0) (.string ⟨#[]⟩) 86).A0 b);rw[World.size_alloc]at this;exact this
 have n:=A7 f b;rw[World.size_alloc,World.size_alloc]at i;have l:Hid (Ca k j kv s.kn s.ks s.kb/\(0<s.kn->w.heap.size+1+1<=j/\j<k.heap.size)):=⟨q,i⟩;obtain⟨_,o,g,rfl,_⟩:=q;clear h f b i;obtain⟨⟨A,B⟩,⟨C,D⟩,⟨E,F⟩⟩:=x.out;obtain⟨⟨G,H⟩,⟨I,J⟩,⟨K,L⟩⟩:=p.out;go_wp2;have d:=(p.out.other (b':=w.heap.size) (o':=1) (.slice o s.kn g) (by omega)).put (.int .i64 s.birth) (.slice o s.kn g) (.string s.data);refine bodyPost_ret (v:=.agg #[.int .i64 s.birth,.slice o s.kn g,.string s.data]) (by simp[results,Tryz.results185,go_sem,d.1.1,d.2.1.1,d.2.2.1]) rfl ⟨_,j,rfl,?_,?_,?_⟩
 ·have i:=l.out.2;refine(((l.out.1.AD (AE.put _ _ _ _) ?_).AD (AE.put _ _ _ _) ?_).AD (AE.put _ _ _ _) ?_).AD (AE.put _ _ _ _) ?_
  all_goals exact fun m e=>by have:=i m;omega
 ·intro m;have:=l.out.2 m;simp only[World.size_setCell];omega
 ·exact(((n.setCell (by show _<=w.heap.size;omega) _).setCell (by show _<=w.heap.size+1;omega) _).setCell (by show _<=w.heap.size+1;omega) _).setCell (by show _<=w.heap.size+1;omega) _
theorem zCc(a:Option Addr)(n c:Nat)(xs:List Value)(w:World)(G:xs.length=n*1)(m:∀u∈xs,u.oneCell'=true)(hn:n<=1048576)
 (E:0<n->∃b off,a=some ⟨b,off,none⟩/\∀j u,xs[j]?=some u->w.cell? ⟨b,off+j,none⟩=some u) :
 Calls Tryz.prog 169 #[.slice a n c] w fun e w'=>∃o,e = .returned o/\w'.ownsRow w.heap.size 2 1 o n xs/\Below w.heap.size w w'/\(n=0->∃a,o = .slice a 0 0):=by
 have D:Hid (0<n->∃b off,a=some ⟨b,off,none⟩/\∀j u,xs[j]?=some u->w.cell? ⟨b,off+j,none⟩=some u):=E;have x:Hid (xs.length=n*1/\∀u∈xs,u.oneCell'=true):=⟨G,m⟩;clear E G m;have J:=fun w=>Lib.run_eql_slice_nil (P:=Tryz.prog) w 24 2 a n c 0 0 (by kernel_rfl)
 cases a with
 | none=>
  have A:n=0:=by
   by_cases h:0<n
   ·obtain⟨b,off,y,_⟩:=D.out h;simp at y
   ·omega
  subst A;have B:xs = []:=List.eq_nil_of_length_eq_zero (by simpa using x.out.1);subst B;go_enter Tryz.func169,Tryz.ntmps169;go_wp2;go_ret;exact⟨_,rfl,World.ownsRow_nil _ _ _ _,Below.refl _ _,fun _=>⟨_,rfl⟩⟩
 | some ad=>
  obtain⟨i0,hi,t⟩:=Option.map_eq_some_iff.1 Vg;simp only[Prod.mk.injEq]at t;obtain⟨H,hs,s⟩:=t;have v:Hid (Tryz.prog.info? 2=some i0/\i0.zero=some (.int .i64 0)/\i0.size=1/\i0.bytes=8):=⟨hi,H,hs,s⟩;have d:Hid ((w.alloc (.cells #[] 2)).ownsRow w.heap.size 2 1 (.slice (some ⟨w.heap.size,0,none⟩) 0 0) 0 []):=World.ownsRow_made w #[] 0 (Nat.le_refl _) (Nat.zero_le _) (by simp);clear hi H hs s;go_enter Tryz.func169,Tryz.ntmps169;go_wp2_with (first
   | (at_builtin;refine Jx rfl _ _ 24 rfl w.heap.size 2 i0 (.int .i64 0) 1 8 (by kernel_rfl) v.out.1 v.out.2.1 v.out.2.2.1 v.out.2.2.2 rfl (by decide) _ _ _ rfl d.out (some ad) n c xs rfl x.out.1 x.out.2 ?c1 ?c3 ?c4 ?c5 ?_))
  case c1=>
   intro I;obtain⟨b,off,y,f⟩:=D.out I;exact⟨b,off,y,fun j u F=>(((Below.refl _ _).alloc (Nat.le_refl _) _).cell (AZ (f j u F))).trans (f j u F)⟩
  case c3=>unfold maxLen;omega
  case c4=>omega
  case c5=>simp
  intro o C i g l;have z:Below w.heap.size w C:=((Below.refl _ _).alloc (Nat.le_refl _) _).grown g (by simp) (fun q K=>by have:=d.out.lt q K;omega);have k:C.ownsRow w.heap.size 2 1 o n xs:=(by simpa using i);have p:Hid (C.ownsRow w.heap.size 2 1 o n xs):=k;have r:Hid (n=0->o = .slice (some ⟨w.heap.size,0,none⟩) 0 0):=l;clear i k g l;go_wp2;go_ret;exact⟨o,rfl,p.out,z,fun e=>⟨_,r.out e⟩⟩
theorem zD7(a:Option Addr)(n c:Nat)(xs:List Value)(w:World)(G:xs.length=n*3)(m:∀u∈xs,u.oneCell'=true)(hn:n<=1048576)
 (E:0<n->∃b off,a=some ⟨b,off,none⟩/\∀j u,xs[j]?=some u->w.cell? ⟨b,off+j,none⟩=some u) :
 Calls Tryz.prog 184 #[.slice a n c] w fun e w'=>∃o,e = .returned o/\w'.ownsRow w.heap.size 86 3 o n xs/\Below w.heap.size w w'/\(n=0->∃a,o = .slice a 0 0):=by
 have D:Hid (0<n->∃b off,a=some ⟨b,off,none⟩/\∀j u,xs[j]?=some u->w.cell? ⟨b,off+j,none⟩=some u):=E;have x:Hid (xs.length=n*3/\∀u∈xs,u.oneCell'=true):=⟨G,m⟩;clear E G m;have J:=fun w=>Lib.run_eql_slice_nil (P:=Tryz.prog) w 23 86 a n c 0 0 (by kernel_rfl)
 cases a with
 | none=>
  have A:n=0:=by
   by_cases h:0<n
   ·obtain⟨b,off,y,_⟩:=D.out h;simp at y
   ·omega
  subst A;have B:xs = []:=List.eq_nil_of_length_eq_zero (by simpa using x.out.1);subst B;go_enter Tryz.func184,Tryz.ntmps184;go_wp2;go_ret;exact⟨_,rfl,World.ownsRow_nil _ _ _ _,Below.refl _ _,fun _=>⟨_,rfl⟩⟩
 | some ad=>
  obtain⟨i0,hi,t⟩:=Option.map_eq_some_iff.1 Vh;simp only[Prod.mk.injEq]at t;obtain⟨H,hs,s⟩:=t;have v:Hid (Tryz.prog.info? 86=some i0/\i0.zero=some (.agg #[.int .i64 0,.slice none 0 0,.string ⟨#[]⟩])/\i0.size=3/\i0.bytes=48):=⟨hi,H,hs,s⟩;have d:Hid ((w.alloc (.cells #[] 86)).ownsRow w.heap.size 86 3 (.slice (some ⟨w.heap.size,0,none⟩) 0 0) 0 []):=World.ownsRow_made w #[] 0 (Nat.le_refl _) (Nat.zero_le _) (by simp);clear hi H hs s;go_enter Tryz.func184,Tryz.ntmps184;go_wp2_with (first
   | (at_builtin;refine Jx rfl _ _ 23 rfl w.heap.size 86 i0 (.agg #[.int .i64 0,.slice none 0 0,.string ⟨#[]⟩]) 3 48 (by kernel_rfl) v.out.1 v.out.2.1 v.out.2.2.1 v.out.2.2.2 rfl (by decide) _ _ _ rfl d.out (some ad) n c xs rfl x.out.1 x.out.2 ?c1 ?c3 ?c4 ?c5 ?_))
  case c1=>
   intro I;obtain⟨b,off,y,f⟩:=D.out I;exact⟨b,off,y,fun j u F=>(((Below.refl _ _).alloc (Nat.le_refl _) _).cell (AZ (f j u F))).trans (f j u F)⟩
  case c3=>unfold maxLen;omega
  case c4=>omega
  case c5=>simp
  intro o C i g l;have z:Below w.heap.size w C:=((Below.refl _ _).alloc (Nat.le_refl _) _).grown g (by simp) (fun q K=>by have:=d.out.lt q K;omega);have k:C.ownsRow w.heap.size 86 3 o n xs:=(by simpa using i);have p:Hid (C.ownsRow w.heap.size 86 3 o n xs):=k;have r:Hid (n=0->o = .slice (some ⟨w.heap.size,0,none⟩) 0 0):=l;clear i k g l;go_wp2;go_ret;exact⟨o,rfl,p.out,z,fun e=>⟨_,r.out e⟩⟩
def Dp(w:World)(b:Nat)(v0 v1 v2 v3 v4:Value):Prop:=AN w b 0 v0/\AN w b 1 v1/\AN w b 2 v2/\AN w b 3 v3/\AN w b 4 v4
variable{b:Nat}{v0 v1 v2 v3 v4:Value}
theorem Dp.A0{w':World}(h:Dp w b v0 v1 v2 v3 v4)(t:Below w.heap.size w w'):Dp w' b v0 v1 v2 v3 v4:=⟨h.1.A0 t,h.2.1.A0 t,h.2.2.1.A0 t,h.2.2.2.1.A0 t,h.2.2.2.2.A0 t⟩
theorem Dp.AD{S:Nat->Prop}{w':World}(h:Dp w b v0 v1 v2 v3 v4)(t:AE S w w')(hs:¬S b):Dp w' b v0 v1 v2 v3 v4:=⟨h.1.AD t hs,h.2.1.AD t hs,h.2.2.1.AD t hs,h.2.2.2.1.AD t hs,h.2.2.2.2.AD t hs⟩
theorem Dp.new(w:World)(b v1 c d e:Value)(t:TypeId):Dp (w.alloc (.cells #[b,v1,c,d,e] t)) w.heap.size b v1 c d e:=by
 have a:(w.alloc (.cells #[b,v1,c,d,e] t)).heap[w.heap.size]?=some (.cells #[b,v1,c,d,e] t):=heap_alloc_new _ _;exact⟨Au a rfl,Au a rfl,Au a rfl,Au a rfl,Au a rfl⟩
abbrev put5(w:World)(b:Nat)(u0 u1 u2 u3 u4:Value):World:=((((w.setCell ⟨b,0,none⟩ u0).setCell ⟨b,1,none⟩ u1).setCell ⟨b,2,none⟩ u2).setCell ⟨b,3,none⟩ u3).setCell ⟨b,4,none⟩ u4
theorem Dp.put(h:Dp w b v0 v1 v2 v3 v4)(a d u2 u3 u4:Value):Dp (put5 w b a d u2 u3 u4) b a d u2 u3 u4:=
 have H (i:Nat) (u v:Value) (e:[a,d,u2,u3,u4][i]?=some u) (c:AN w b i v):AN (put5 w b a d u2 u3 u4) b i u:=Li [a,d,u2,u3,u4] w 0 i i e (Nat.zero_add i) c
 ⟨H 0 _ _ rfl h.1,H 1 _ _ rfl h.2.1,H 2 _ _ rfl h.2.2.1,H 3 _ _ rfl h.2.2.2.1,H 4 _ _ rfl h.2.2.2.2⟩
theorem AE.put5(w:World)(b:Nat)(a c u2 u3 u4:Value):AE (fun k=>k=b) w (put5 w b a c u2 u3 u4):=
 ((((AE.put w b 0 a).trans (AE.put _ b 1 c)).trans (AE.put _ b 2 u2)).trans (AE.put _ b 3 u3)).trans (AE.put _ b 4 u4)
structure Dm where
 pool:A5
 ps:Int
 pb:Int
 code:Int
def PX(o:Dm)(w:World)(e:Ending)(w':World):Prop:=∃v0 v1,e = .returned (.agg #[v0,v1,.int .i64 o.ps,.int .i64 o.pb,.int .i64 o.code])/\Bo w' w.heap.size w'.heap.size v0 v1 o.pool/\Below w.heap.size w w'
theorem QJ:Bo w lo hi (.slice none 0 0) (.slice none 0 0) (Ck 0):=
 zF0 (g:=0) (Nat.zero_le _) ⟨none,0,rfl,Nat.le_refl _,fun h=>absurd h (Nat.lt_irrefl _)⟩ (fun i h=>absurd h (Nat.not_lt_zero _))
end Go.Proofs.YtehdoekmnicdiaaGreatDoor
