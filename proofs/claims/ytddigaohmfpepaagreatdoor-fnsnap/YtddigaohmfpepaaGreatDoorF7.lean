/- A part of the proof. -/
import Derived.Test.YtddigaohmfpepaaGreatDoorF6
import Derived.Deep.DeepCutAuto
import Derived.Deep.RegionLawGrows
set_option linter.unusedVariables false
set_option maxRecDepth 20000
set_option maxHeartbeats 4000000
namespace Go.Proofs.YtddigaohmfpepaaGreatDoor
open Go.RowKit
def PR(p:A7)(n:Nat)(f g:Nat->Int):Prop:=∀i,i<n->¬Ju i f g (f i) (g i)/\¬Has p.hn p.h (f i)
theorem zX(N v1 v:Value)(lo hi lo' hi' n:Nat)(p:A7)(f g:Nat->Int)(w:World)(D:CD w lo hi N v1 p)(J:BG w lo' hi' v n f g) :
 Calls Tryz.prog 169 #[.agg #[N,v1],v] w fun e w'=>AJ (PR p n f g) e/\Below w.heap.size w w':=by
 have Y:=AF D;have P:=AF J;obtain⟨a,c,y,c',rfl,rfl⟩:∃a c y c',N = .slice a p.n c/\v1 = .slice y p.hn c':=by
  obtain⟨⟨_,a,c,D,_⟩,⟨_,y,c',Z,_⟩⟩:=D;exact⟨a,c,y,c',D,Z⟩
 obtain⟨m1,la,W,rfl,mc,_⟩:=id J;unfold maxLen at m1;clear D J;have ha:=AB w (.cells #[.slice a p.n c,.slice y p.hn c'] 26);have X:=AF (Ad.new w (.slice a p.n c) (.slice y p.hn c') 26);go_enter Tryz.func169,Tryz.ntmps169;go_wp2
 go_loopw [9] (fun i wr=>∃k:Nat,k<=n/\i=A0 k/\PR p k f g/\Ad wr w.heap.size (.slice a p.n c) (.slice y p.hn c')/\Below w.heap.size w wr) (fun i _=>n - (intOf i).toNat)
 case atStart=>exact⟨0,Nat.zero_le _,rfl,fun j hj=>absurd hj (Nat.not_lt_zero _),X.out,ha⟩
 case round=>
  obtain⟨k,hk,rfl,z,Q,K⟩:=hrel;have x:=AF z;have H:=AF Q;clear z Q;by_cases u:k<n
  · have R:(k:Int)<(n:Int):=by omega
    have cA:(k:Int)<=(W:Int):=(by omega);obtain⟨b,off,rfl,q0,q1⟩:=(P.out.A1 K).cellsT u;have A:=AB wr (.cells #[A0 (f k),A0 (g k)] 38);have o:=AF (H.out.A1 A);have F:=AF (Ad.new wr (A0 (f k)) (A0 (g k)) 38);have q:=A9 K A;have dA:w.heap.size<wr.heap.size:=H.out.1.lt;have L:(wr.alloc (.cells #[A0 (f k),A0 (g k)] 38)).heap.size=wr.heap.size+1:=World.size_alloc _ _;go_upto_region 4 with fail;generalize wr.alloc (.cells #[A0 (f k),A0 (g k)] 38)=wx at o F q L ⊢;clear q0 q1 A H;have s:=AF ((P.out.A1 q).take (m:=k) (c':=W) (by omega) (by omega));obtain⟨⟨x0,x1⟩,⟨x2,x3⟩⟩:=o.out;obtain⟨⟨y0,y1⟩,⟨y2,y3⟩⟩:=F.out;by_cases G:Ju k f g (f k) (g k)
    · have B:=AF G
      clear G
      first
       | (go_region_with (first
           | (go_at_call 173
              refine(ZH _ k lo' hi' f g (f k) (g k) _ ?_).mono ?_
              (first | exact s.out | exact s.out.A1 (Below.refl _ _).drew)
              rintro e O ⟨⟨M,rfl,r⟩,l⟩;obtain rfl:M=true:=r.2 B.out;clear r;have d:Below wx.heap.size wx O:=(by first | exact l | exact Cp l);obtain⟨⟨S,_⟩,⟨T,_⟩⟩:=o.out.A1 d;obtain⟨⟨U,_⟩,⟨V,_⟩⟩:=F.out.A1 d)))
       | fail
      all_goals
       have t:=A9 q d;go_wp2;go_ret;exact⟨AJ.no fun h=>(h k u).1 B.out,t⟩
    · have B:=AF G
      clear G;go_region_held3 (fun w'=>w'.cell? ⟨w.heap.size,0,none⟩=some (.slice a p.n c)/\w'.cell? ⟨w.heap.size,1,none⟩=some (.slice y p.hn c')/\w'.cell? ⟨wr.heap.size,0,none⟩=some (A0 (f k))/\w'.cell? ⟨wr.heap.size,1,none⟩=some (A0 (g k))) (go_keep)
       (first
         | (go_at_call 173
            refine(ZH _ k lo' hi' f g (f k) (g k) _ ?_).mono ?_
            (first | exact s.out | exact s.out.A1 (Below.refl _ _).drew)
            rintro e O ⟨⟨M,rfl,r⟩,l⟩;obtain rfl:M=false:=BQ r B.out;clear r;have d:Below wx.heap.size wx O:=(by first | exact l | exact Cp l);obtain⟨⟨S,_⟩,⟨T,_⟩⟩:=o.out.A1 d;obtain⟨⟨U,_⟩,⟨V,_⟩⟩:=F.out.A1 d)
         | (go_at_call 164
            refine(On _ p.hn lo hi p.h (f k) _ ?_).mono ?_;exact(Y.out.2.A1 (A9 q d));rintro e w3 ⟨⟨t3,rfl,E⟩,rfl⟩))
      have t:=A9 q d;have I:=AF (o.out.A1 d);have C:=AF E;clear E d l x0 x1 x2 x3 y0 y1 y2 y3 S T U V;cases t3
      · go_wp2
        go_roundw
        case rel=>exact⟨k+1,by omega,by go_num,Br (n:=n) u x.out ⟨B.out,fun h=>absurd (C.out.2 h) (by simp)⟩,I.out,t⟩
        case measure=>simp[intOf];omega
      · go_wp2
        go_ret;exact⟨AJ.no fun h=>(h k u).2 (C.out.1 trivial),t⟩
  · obtain rfl:k=n:=by omega
    go_wp2;go_ret;exact⟨AJ.yes x.out,K⟩
variable{w:World}{v:Value}
theorem zG3{base:Nat}{l:List (Int×Int)}(f:l.length<=maxLen)(h:w.ownsRow base 38 2 v l.length (pcl l)):BG w 0 w.heap.size v l.length (fun i=>(l.getD i (0,0)).1) (fun i=>(l.getD i (0,0)).2):=by
 by_cases e:0<l.length
 · obtain⟨g,cap,rfl,c,j,d,b⟩:=FI h e
   refine⟨f,_,cap,rfl,c,fun _=>⟨g,0,rfl,Nat.zero_le _,d,fun i hi=>?_⟩⟩;have get:∀(l:List (Int×Int)) i,i<l.length->(pcl l)[i*2]?=some (A0 (l.getD i (0,0)).1)/\(pcl l)[i*2+1]?=some (A0 (l.getD i (0,0)).2):=by
    intro l
    induction l with
    | nil=>intro i hi;simp at hi
    | cons x l ih=>
      intro i hi;cases i with
      | zero=>exact⟨rfl,rfl⟩
      | succ i=>
        have:=ih i (by simpa using hi);rw[show(i+1)*2=i*2+1+1 by omega];simpa[pcl]using this
   rw[Nat.zero_add];exact⟨(b _ _ (get l i hi).1).1,(b _ _ (get l i hi).2).1⟩
 · obtain⟨a,cap,rfl,c⟩:=Bw h
   exact⟨f,a,cap,rfl,c,fun h=>absurd h e⟩
theorem zB7(p:A7)(l:List (Int×Int)):PR p l.length (fun i=>(l.getD i (0,0)).1) (fun i=>(l.getD i (0,0)).2)↔Rt p l:=by
 have a:∀i (h:i<l.length),l.getD i (0,0)=l[i]:=fun i h=>by rw[List.getD_eq_getElem?_getD,List.getElem?_eq_getElem h,Option.getD_some]
 constructor
 · intro h
   refine⟨?_,fun x m=>?_⟩
   · rw[List.Nodup,List.pairwise_iff_getElem]
     intro i j hi b c e;refine(h j b).1 ⟨i,c,?_,?_⟩
     · show(l.getD i (0,0)).1=(l.getD j (0,0)).1
       rw[a i hi,a j b,e]
     · show(l.getD i (0,0)).2=(l.getD j (0,0)).2
       rw[a i hi,a j b,e]
   · obtain⟨i,hi,rfl⟩:=List.getElem_of_mem m
     have:=(h i hi).2;simp only[a i hi]at this;exact this
 · rintro⟨g,k⟩ i hi
   refine⟨?_,?_⟩
   · rintro⟨j,b,d,f⟩
     simp only[a i hi,a j (by omega)]at d f;rw[List.Nodup,List.pairwise_iff_getElem]at g;exact g j i (by omega) hi b (Prod.ext d f)
   · simp only[a i hi]
     exact k _ (List.getElem_mem hi)
theorem Z8(R v1:Value)(lo hi:Nat)(p:A7)(xs xb:Int)(w:World)(H:CD w lo hi R v1 p)(U:AZ p) :
 Calls Tryz.prog 129 #[.agg #[R,v1],.agg #[A0 xs,A0 xb]] w fun e w'=>AJ (Q2 p xs xb) e/\Below w.heap.size w w':=by
 have r:=AF H;have G:=AF U;obtain⟨a,c,y,c',rfl,rfl⟩:∃a c y c',R = .slice a p.n c/\v1 = .slice y p.hn c':=by
  obtain⟨⟨_,a,c,H,_⟩,⟨_,y,c',h3,_⟩⟩:=H;exact⟨a,c,y,c',H,h3⟩
 clear H U;have E:=Se w (.slice a p.n c) (.slice y p.hn c') (A0 xs) (A0 xb) 26 38;by_cases hn:Nil xs xb
 · have M:=AF hn
   obtain⟨rfl,rfl⟩:=hn;obtain⟨_,_,b,_⟩:=E;go_enter Tryz.func129,Tryz.ntmps129;go_wp2;go_ret;exact⟨AJ.yes (Or.inl M.out),b⟩
 · have M:=AF hn
   have e0:=L1 hn;clear hn;have l:Hid (∀t:Bool,(t=true↔B8 p xs xb/\NG p (p.s xs.toNat)/\Rt p (AG p xs xb))->AJ (Q2 p xs xb) (.returned (.bool t))):=fun t ht=>⟨t,rfl,ht.trans ⟨fun h=>Or.inr h,fun h=>h.resolve_left M.out⟩⟩
   go_enter Tryz.func129,Tryz.ntmps129;go_upto_region 1 with fail;generalize (w.alloc (.cells #[.slice a p.n c,.slice y p.hn c'] 26)).alloc (.cells #[A0 xs,A0 xb] 38)=W at E ⊢;obtain⟨T,V,b,hz⟩:=E;have B:=AF T;have x:=AF V;clear T V
   go_cut [7] (fun v wc=>v = .bool false/\W=wc)
   case first=>
    obtain⟨⟨y0,y1⟩,⟨y2,y3⟩⟩:=x.out;rcases e0 with e0 | ⟨e0,e1⟩
    all_goals
     go_wp2_with fail
     go_meet
     case rel=>exact⟨rfl,rfl⟩
   case rest=>
    obtain⟨rfl,rfl⟩:=hcut;clear e0;obtain⟨⟨x0,x1⟩,⟨x2,x3⟩⟩:=B.out;obtain⟨⟨y0,y1⟩,⟨y2,y3⟩⟩:=x.out;go_upto_region 3 with fail;by_cases L:B8 p xs xb
    · have u:=AF L
      clear L;by_cases A:NG p (p.s xs.toNat)
      · have k:=AF A
        clear A;go_region_held3 (fun w'=>w'.cell? ⟨w.heap.size,0,none⟩=some (.slice a p.n c)/\w'.cell? ⟨w.heap.size,1,none⟩=some (.slice y p.hn c')/\w'.cell? ⟨w.heap.size+1,0,none⟩=some (A0 xs)/\w'.cell? ⟨w.heap.size+1,1,none⟩=some (A0 xb)) (go_keep)
         (first
           | (go_at_call 167
              refine(OG _ p.n lo hi p.s xs xb _ ?_).mono ?_
              (first | exact r.out.1.A1 b | exact r.out.1.A1 b.drew)
              rintro e J ⟨⟨I,rfl,f⟩,j⟩;rw[OH G.out]at f;obtain rfl:I=true:=f.2 u.out;clear f;have d:Below W.heap.size W J:=(by first | exact j | exact Cp j);obtain⟨⟨X,_⟩,⟨Y,_⟩⟩:=B.out.A1 d;obtain⟨⟨Z,_⟩,⟨k3,_⟩⟩:=x.out.A1 d)
           | (go_at_call 168
              refine(Xk p G.out _ lo hi xs xb _ ?_ u.out).mono ?_;exact r.out.1.A1 (A9 b d);rintro e w2 ⟨⟨Q,rfl,q⟩,D⟩;obtain rfl:Q=true:=q.2 k.out;clear q;have i:=A9 d D;obtain⟨⟨l0,_⟩,⟨l1,_⟩⟩:=B.out.A1 i;obtain⟨⟨l2,_⟩,⟨l3,_⟩⟩:=x.out.A1 i)
           | (go_at_call 170
              refine(VZ p G.out _ lo hi xs xb _ ?_ (Or.inr u.out)).mono ?_;exact r.out.1.A1 (A9 b i);rintro e w3 ⟨v3,rfl,o,N⟩;obtain⟨na,nc,rfl,_⟩:=Bw o;have z:=A9 i N;have P:=zG3 (by have:=Dh p xs xb;unfold maxLen;omega) o;obtain⟨⟨m0,_⟩,⟨m1,_⟩⟩:=B.out.A1 z;obtain⟨⟨m2,_⟩,⟨m3,_⟩⟩:=x.out.A1 z)
           | (go_at_call 169
              refine(zX _ _ _ lo hi 0 w3.heap.size _ p _ _ _ ?_ P).mono ?_;exact r.out.A1 (A9 b z);rintro e w4 ⟨⟨t4,rfl,F⟩,O⟩;rw[zB7]at F;have C:=A9 z O;obtain⟨⟨n0,_⟩,⟨n1,_⟩⟩:=B.out.A1 C;obtain⟨⟨n2,_⟩,⟨n3,_⟩⟩:=x.out.A1 C))
        have m:=A9 b C;have HT:=AF F;clear F;go_wp2;go_ret;exact⟨l.out t4 (HT.out.trans ⟨fun h=>⟨u.out,k.out,h⟩,fun h=>h.2.2⟩),m⟩
      · have k:=AF A
        clear A;refine wp_region_held_drew (S:=(fun w'=>w'.cell? ⟨w.heap.size,0,none⟩=some (.slice a p.n c)/\w'.cell? ⟨w.heap.size,1,none⟩=some (.slice y p.hn c')/\w'.cell? ⟨w.heap.size+1,0,none⟩=some (A0 xs)/\w'.cell? ⟨w.heap.size+1,1,none⟩=some (A0 xb))) (by kernel_rfl) ?_ (fun hHeld=>?_)
        · (try dsimp only)
          go_keep
        refine tk 0 (h:=tk 1 (h:=tk 2 (h:=?_)));refine rd [3] (rc (fun K hK=>?_) .nil);go_simp;go_at_call 167;refine(OG _ p.n lo hi p.s xs xb _ ?_).mono ?_
        · first | exact r.out.1.A1 b | exact r.out.1.A1 b.drew
        rintro e J ⟨⟨I,rfl,f⟩,j⟩;rw[OH G.out]at f;obtain rfl:I=true:=f.2 u.out;clear f;have d:Below W.heap.size W J:=(by first | exact j | exact Cp j);obtain⟨⟨X,_⟩,⟨Y,_⟩⟩:=B.out.A1 d;obtain⟨⟨Z,_⟩,⟨k3,_⟩⟩:=x.out.A1 d
        (try go_wp2_with fail)
        refine hK.out _ _ (by(try dsimp only);go_keep) ?_;clear hK K hHeld;intro hHeld
        try simp only[Act.put,s1,s2,s3]
        refine tk 4 (h:=tk 5 (h:=tk 6 (h:=tk 7 (h:=?_))));refine rd [8] (rc (fun K hK=>?_) .nil);go_simp;go_at_call 168;refine(Xk p G.out _ lo hi xs xb _ ?_ u.out).mono ?_
        · exact r.out.1.A1 (A9 b d)
        rintro e w2 ⟨⟨Q,rfl,q⟩,D⟩;obtain rfl:Q=false:=BQ q k.out;clear q;have i:=A9 d D;obtain⟨⟨l0,_⟩,⟨l1,_⟩⟩:=B.out.A1 i;obtain⟨⟨l2,_⟩,⟨l3,_⟩⟩:=x.out.A1 i
        (try go_wp2_with fail)
        refine hK.out _ _ (by(try dsimp only);go_keep) ?_;clear hK K hHeld;intro hHeld
        try simp only[Act.put,s1,s2,s3]
        refine tk 9 (h:=tk 10 (h:=ts 11 (h:=ts 12 (h:=ts 13 (h:=ts 14 (h:=?_))))));refine rd [15] (rc (fun K hK=>?_) .nil);split
        · rename_i g
          exact absurd (show false=true from g) Bool.false_ne_true
        refine hK.out _ _ (by assumption) (fun hHeld=>?_);clear hK K
        try simp only[Act.put,s1,s2,s3]
        refine rd [16] (rc (fun K hK=>?_) .nil);split
        · rename_i g
          exact absurd (show false=true from g) Bool.false_ne_true
        refine hK.out _ _ (by assumption) (fun hHeld=>?_);clear hK K
        try simp only[Act.put,s1,s2,s3]
        refine tk 17 (h:=tk 18 (h:=?_));refine wpAnyH_done (by kernel_rfl) ?_ _;have m:=A9 b i;go_wp2;go_ret;exact⟨l.out false ⟨fun h=>(by cases h),fun h=>absurd h.2.1 k.out⟩,m⟩
    · have u:=AF L
      clear L;refine wp_region_held_drew (S:=(fun w'=>w'.cell? ⟨w.heap.size,0,none⟩=some (.slice a p.n c)/\w'.cell? ⟨w.heap.size,1,none⟩=some (.slice y p.hn c')/\w'.cell? ⟨w.heap.size+1,0,none⟩=some (A0 xs)/\w'.cell? ⟨w.heap.size+1,1,none⟩=some (A0 xb))) (by kernel_rfl) ?_ (fun hHeld=>?_)
      · (try dsimp only)
        go_keep
      refine tk 0 (h:=tk 1 (h:=tk 2 (h:=?_)));refine rd [3] (rc (fun K hK=>?_) .nil);go_simp;go_at_call 167;refine(OG _ p.n lo hi p.s xs xb _ ?_).mono ?_
      · first | exact r.out.1.A1 b | exact r.out.1.A1 b.drew
      rintro e J ⟨⟨I,rfl,f⟩,j⟩;rw[OH G.out]at f;obtain rfl:I=false:=BQ f u.out;clear f;have d:Below W.heap.size W J:=(by first | exact j | exact Cp j);obtain⟨⟨X,_⟩,⟨Y,_⟩⟩:=B.out.A1 d;obtain⟨⟨Z,_⟩,⟨k3,_⟩⟩:=x.out.A1 d
      (try go_wp2_with fail)
      refine hK.out _ _ (by(try dsimp only);go_keep) ?_;clear hK K hHeld;intro hHeld
      try simp only[Act.put,s1,s2,s3]
      refine tk 4 (h:=ts 5 (h:=ts 6 (h:=ts 7 (h:=?_))));refine rd [8] (rc (fun K hK=>?_) .nil);split
      · rename_i g
        exact absurd (show false=true from g) Bool.false_ne_true
      refine hK.out _ _ (by assumption) (fun hHeld=>?_);clear hK K
      try simp only[Act.put,s1,s2,s3]
      refine tk 9 (h:=tk 10 (h:=ts 11 (h:=ts 12 (h:=ts 13 (h:=ts 14 (h:=?_))))));refine rd [15] (rc (fun K hK=>?_) .nil);split
      · rename_i g
        exact absurd (show false=true from g) Bool.false_ne_true
      refine hK.out _ _ (by assumption) (fun hHeld=>?_);clear hK K
      try simp only[Act.put,s1,s2,s3]
      refine rd [16] (rc (fun K hK=>?_) .nil);split
      · rename_i g
        exact absurd (show false=true from g) Bool.false_ne_true
      refine hK.out _ _ (by assumption) (fun hHeld=>?_);clear hK K
      try simp only[Act.put,s1,s2,s3]
      refine tk 17 (h:=tk 18 (h:=?_));refine wpAnyH_done (by kernel_rfl) ?_ _;have m:=A9 b d;go_wp2;go_ret;exact⟨l.out false ⟨fun h=>(by cases h),fun h=>absurd h.1 u.out⟩,m⟩
def Dv(p:A7)(rs:Int)(s:AH)(j:Nat):List Int:=rs :: Bk (CR p s j)
def EG(p:A7)(rs:Int)(s:AH)(j i:Nat):List Int:=Dv p rs s j ++ (AK s j :: Bk (kidsUp (AK (p.s (AK s j).toNat)) (AW (p.s (AK s j).toNat)) i))
theorem Xo(p:A7)(s:AH)(j:Nat):∀m,j<=m->∃r,CR p s m=CR p s j ++ r
 | 0,h=>⟨[],by rw[show j=0 by omega];simp⟩
 | m+1,h=>by
  by_cases e:j=m+1
  ·subst e;exact⟨[],by simp⟩
  ·obtain⟨r,a⟩:=Xo p s j m (by omega);exact⟨r ++ Ck p (AK s m) (AW s m),by rw[CR,a,List.append_assoc]⟩
theorem Ym(b a:Nat->Int)(j:Nat):∀m,j<=m->∃r,kidsUp b a m=kidsUp b a j ++ r
 | 0,h=>⟨[],by rw[show j=0 by omega];simp⟩
 | m+1,h=>by
  by_cases e:j=m+1
  ·subst e;exact⟨[],by simp⟩
  ·obtain⟨r,c⟩:=Ym b a j m (by omega);exact⟨r ++ one (b m) (a m),by rw[kidsUp,c,List.append_assoc]⟩
theorem L2(l m:List (Int×Int)):Bk (l ++ m)=Bk l ++ Bk m:=by simp[Bk]
theorem Oa{l:List Int}{x:Int}:(l ++ [x]).Nodup↔l.Nodup/\x∉l:=by
 rw[List.nodup_append];constructor
 ·rintro⟨c,_,g⟩;exact⟨c,fun i=>g x i x (by simp) rfl⟩
 ·rintro⟨c,f⟩;refine⟨c,by simp,fun a h b d e=>?_⟩;rw[List.mem_singleton]at d;subst d;subst e;exact f h
variable{p:A7}{rs:Int}
theorem RV{rb:Int}(a:¬Nil rs rb):Bk (AG p rs rb)=Dv p rs (p.s rs.toNat) 8:=by
 unfold AG Dv;rw[if_neg a];rfl
variable{s:AH}{j:Nat}
theorem zFW(hn:¬Nil (AK s j) (AW s j)):Ck p (AK s j) (AW s j)=(AK s j,AW s j) :: Eh (p.s (AK s j).toNat):=if_neg hn
theorem Vi(hn:¬Nil (AK s j) (AW s j)):Dv p rs s (j+1)=EG p rs s j 8:=by
 unfold Dv EG Dv;rw[CR,L2,zFW hn];rfl
theorem zEA(hn:Nil (AK s j) (AW s j)):Dv p rs s (j+1)=Dv p rs s j:=by
 unfold Dv;rw[CR,show Ck p (AK s j) (AW s j) = [] from if_pos hn,List.append_nil]
theorem VT(p:A7)(rs:Int)(s:AH)(j:Nat):EG p rs s j 0=Dv p rs s j ++ [AK s j]:=rfl
variable{i:Nat}
theorem zFY(hn:Nil (AK (p.s (AK s j).toNat) i) (AW (p.s (AK s j).toNat) i)):EG p rs s j (i+1)=EG p rs s j i:=by
 unfold EG;rw[kidsUp,show one (AK (p.s (AK s j).toNat) i) (AW (p.s (AK s j).toNat) i) = [] from if_pos hn,List.append_nil]
theorem zFX(hn:¬Nil (AK (p.s (AK s j).toNat) i) (AW (p.s (AK s j).toNat) i)):EG p rs s j (i+1)=EG p rs s j i ++ [AK (p.s (AK s j).toNat) i]:=by
 unfold EG;rw[kidsUp,show one (AK (p.s (AK s j).toNat) i) (AW (p.s (AK s j).toNat) i) = [(AK (p.s (AK s j).toNat) i,AW (p.s (AK s j).toNat) i)] from if_neg hn,L2,List.append_assoc];rfl
theorem Tz(p:A7)(rs:Int)(s:AH)(a:j<=8):(Dv p rs s j).length<=73:=by
 have:=OM p s j;simp only[Dv,Bk,List.length_cons,List.length_map];omega
theorem zH3(p:A7)(rs:Int)(s:AH)(a:j<=8)(hi:i<=8):(EG p rs s j i).length<=90:=by
 have b:=Tz p rs s a;have c:=IB (AK (p.s (AK s j).toNat)) (AW (p.s (AK s j).toNat)) i;simp only[EG,Bk,List.length_append,List.length_cons,List.length_map];omega
theorem zDn{rb:Int}(e:¬Nil rs rb)(h:(Bk (AG p rs rb)).Nodup)(g:j<8)(hi:i<=8)(hn:¬Nil (AK (p.s rs.toNat) j) (AW (p.s rs.toNat) j)):(EG p rs (p.s rs.toNat) j i).Nodup:=by
 rw[RV e]at h;obtain⟨r,d⟩:=Xo p (p.s rs.toNat) (j+1) 8 (by omega);obtain⟨f,a⟩:=Ym (AK (p.s (AK (p.s rs.toNat) j).toNat)) (AW (p.s (AK (p.s rs.toNat) j).toNat)) i 8 hi;have b:Dv p rs (p.s rs.toNat) 8=Dv p rs (p.s rs.toNat) (j+1) ++ Bk r:=by unfold Dv;rw[d,L2];rfl
 have c:EG p rs (p.s rs.toNat) j 8=EG p rs (p.s rs.toNat) j i ++ Bk f:=by
  unfold EG;rw[a,L2,List.append_assoc];rfl
 rw[b,Vi hn,c,List.append_assoc]at h;exact(List.nodup_append.1 h).1
def BU(p:A7)(xs xb:Int)(i:Nat):Int:=if Nil xs xb then 0 else AK (p.s xs.toNat) i
def Bf(p:A7)(xs xb:Int)(i:Nat):Int:=if Nil xs xb then 0 else AW (p.s xs.toNat) i
def Ie(p:A7)(xs xb:Int):Prop:=Nil xs xb\/(B8 p xs xb/\(p.s xs.toNat).kn=8)
variable{xs xb:Int}
theorem Nb(h:As p xs xb):Ie p xs xb:=by
 rcases h.2 with a | a
 ·exact Or.inl a
 ·right;refine⟨a.1.1,?_⟩;rcases Qk h.1 a.1.1 with b | b
  ·have:=a.1.2.1;omega
  ·exact b
theorem LY(h:As p xs xb)(d:j<8):Ie p (BU p xs xb j) (Bf p xs xb j):=by
 by_cases b:Nil xs xb
 ·left;unfold BU Bf;rw[if_pos b,if_pos b];exact⟨rfl,rfl⟩
 ·unfold BU Bf;rw[if_neg b,if_neg b];rcases(h.2.resolve_left b).2.1.1 j d with a | a
  ·exact Or.inl a
  ·right;refine⟨a.1.1,?_⟩;rcases Qk h.1 a.1.1 with c | c
   ·have:=a.1.2.1;omega
   ·exact c
def BV(p:A7)(xs xb:Int)(n:Nat):Int:=BU p xs xb (n / 8)
def Bj(p:A7)(xs xb:Int)(n:Nat):Int:=Bf p xs xb (n / 8)
def BZ(p:A7)(xs xb:Int)(n:Nat):Int:=BU p (BV p xs xb n) (Bj p xs xb n) (n % 8)
def Bh(p:A7)(xs xb:Int)(n:Nat):Int:=Bf p (BV p xs xb n) (Bj p xs xb n) (n % 8)
variable{n:Nat}
theorem Io(h:As p xs xb)(hn:n<64):Nil (BZ p xs xb n) (Bh p xs xb n)\/Ep p (BZ p xs xb n) (Bh p xs xb n):=by
 by_cases b:Nil xs xb
 ·left;have e:Nil (BV p xs xb n) (Bj p xs xb n):=(by unfold BV Bj BU Bf;rw[if_pos b,if_pos b];exact⟨rfl,rfl⟩);unfold BZ Bh BU Bf;rw[if_pos e,if_pos e];exact⟨rfl,rfl⟩
 ·have d:BV p xs xb n=AK (p.s xs.toNat) (n / 8):=if_neg b;have f:Bj p xs xb n=AW (p.s xs.toNat) (n / 8):=if_neg b;by_cases a:Nil (BV p xs xb n) (Bj p xs xb n)
  ·left;unfold BZ Bh BU Bf;rw[if_pos a,if_pos a];exact⟨rfl,rfl⟩
  ·have g:BZ p xs xb n=AK (p.s (BV p xs xb n).toNat) (n % 8):=if_neg a;have i:Bh p xs xb n=AW (p.s (BV p xs xb n).toNat) (n % 8):=if_neg a;rw[g,i];rcases(h.2.resolve_left b).2.1.1 (n / 8) (by omega)with c | c
   ·rw[<-d,<-f]at c;exact absurd c a
   ·have:=c.2.1 (n % 8) (by omega);rw[<-d]at this;exact this
theorem Ir(w:World)(b:Nat)(u v:Value):AC (fun k=>k=b) w ((w.setCell ⟨b,0,none⟩ u).setCell ⟨b,1,none⟩ v):=((AC.refl (fun k=>k=b) w).setCell (p:=⟨b,0,none⟩) rfl u).setCell (p:=⟨b,1,none⟩) rfl v
def C8(rb birth:Int):Prop:=DS birth/\rb<=birth
theorem zC5(xs xb birth:Int)(w:World):Calls Tryz.prog 76 #[.agg #[A0 xs,A0 xb],A0 birth] w fun e w'=>AJ (C8 xb birth) e/\Below w.heap.size w w':=by
 have c:=AB w (.cells #[A0 xs,A0 xb] 38);by_cases d:DS birth
 ·have a:=AF d;clear d;by_cases h:xb<=birth
  ·go_enter Tryz.func76,Tryz.ntmps76;go_wp2_with (first | (go_at_call 136;refine(FJ birth _).mono ?_;rintro e f ⟨⟨t,rfl,b⟩,rfl⟩;obtain rfl:t=true:=b.2 a.out;clear b) | fail);go_wp2;go_ret;exact⟨⟨_,rfl,by simp[C8,a.out,h]⟩,c⟩
  ·go_enter Tryz.func76,Tryz.ntmps76;go_wp2_with (first | (go_at_call 136;refine(FJ birth _).mono ?_;rintro e f ⟨⟨t,rfl,b⟩,rfl⟩;obtain rfl:t=true:=b.2 a.out;clear b) | fail);go_wp2;go_ret;exact⟨⟨_,rfl,by first | (simp[C8,a.out];done) | (simp[C8,a.out];omega)⟩,c⟩
 ·have a:=AF d;clear d;go_enter Tryz.func76,Tryz.ntmps76;go_wp2_with (first | (go_at_call 136;refine(FJ birth _).mono ?_;rintro e f ⟨⟨t,rfl,b⟩,rfl⟩;obtain rfl:t=false:=BQ b a.out;clear b) | fail);go_wp2;go_ret;exact⟨AJ.no (fun g=>a.out g.1),c⟩
theorem zEZ{birth:Int}(h:As p xs xb):((∀i,i<(AG p xs xb).length->¬birth<AP (AG p xs xb) i)/\DS birth)↔C8 xb birth:=by
 constructor
 ·rintro⟨b,c⟩;refine⟨c,?_⟩;by_cases a:Nil xs xb
  ·rw[a.2];have:=c.1;omega
  ·have e:AG p xs xb=(xs,xb) :: CR p (p.s xs.toNat) 8:=if_neg a;have:=b 0 (by rw[e];simp);rw[e]at this;have d:AP ((xs,xb) :: CR p (p.s xs.toNat) 8) 0=xb:=rfl;rw[d]at this;omega
 ·rintro⟨b,c⟩;refine⟨fun i hi f=>?_,b⟩;by_cases a:Nil xs xb
  ·have e:AG p xs xb = []:=if_pos a;rw[e]at hi;simp at hi
  ·have g:(AN (AG p xs xb) i,AP (AG p xs xb) i)∈AG p xs xb:=by
    have:(AN (AG p xs xb) i,AP (AG p xs xb) i)=(AG p xs xb)[i]:=by
     unfold AN AP;rw[List.getD_eq_getElem?_getD,List.getElem?_eq_getElem hi,Option.getD_some]
    rw[this];exact List.getElem_mem hi
   have:=(MN h.1 (h.2.resolve_left a).1.1 _ g).2;have e:(AN (AG p xs xb) i,AP (AG p xs xb) i).2=AP (AG p xs xb) i:=rfl;omega
theorem Yb{p:A7}(h:∀i,i<p.n->Ah (p.s i)\/C5 p (p.s i)):∀k,k<=p.n->DC p.s k<=24*k
 | 0,_=>Nat.le_refl _
 | k+1,hk=>by
  have f:=Yb h k (by omega);have hs:Ce (p.s k)<=24:=by
   unfold Ce;rcases h k (by omega)with a | a
   ·have c:=a.2.1;have b:(p.s k).data.size=0:=by
     have:=a.2.2;rw[Go.ByteArray.toList_eq]at this;have e:(p.s k).data.data=#[]:=(by simpa using this);show(p.s k).data.data.size=0;rw[e];rfl
    omega
   ·rcases a.2 with b | b
    ·omega
    ·have d:(p.s k).data.size=0:=by
      have:=b.2.1;rw[Go.ByteArray.toList_eq]at this;have e:(p.s k).data.data=#[]:=(by simpa using this);show(p.s k).data.data.size=0;rw[e];rfl
     omega
  show DC p.s k+Ce (p.s k)<=_;omega
theorem Kz(h:AZ p):Ap p<=10000:=by
 have a:=Yb h.2.1 p.n (Nat.le_refl _);have b:=((MA p).2 h).2.1;have c:=h.1;unfold Ap;omega
theorem zCo(v:Value)(n lo hi:Nat)(f g:Nat->Int)(w:World)(R:BG w lo hi v n f g)(hn:n<=1048576) :
 Calls Tryz.prog 118 #[v] w fun e w'=>(∃s r,e = .returned s/\CS w' r s n f g/\(0<n->w.heap.size<=r/\r<w'.heap.size))/\Below w.heap.size w w':=by
 obtain⟨N,a,c,rfl,W,I⟩:=R;have G:Hid (0<n->∃b off,a=some ⟨b,off,none⟩/\lo<=b/\b<hi/\∀i,i<n->w.cell? ⟨b,off+i*2,none⟩=some (A0 (f i))/\w.cell? ⟨b,off+i*2+1,none⟩=some (A0 (g i))):=I;have O:Hid (n<=maxLen):=N;clear I N;have U:=fun w=>Lib.run_eql_slice_nil (P:=Tryz.prog) w 39 38 a n c 0 0 (by kernel_rfl)
 cases a with
 | none=>
  have F:n=0:=by
   by_cases h:0<n
   ·obtain⟨b,off,C,_⟩:=G.out h;simp at C
   ·omega
  subst F;go_enter Tryz.func118,Tryz.ntmps118;go_wp2;go_ret;exact⟨⟨_,0,rfl,⟨Nat.zero_le _,none,0,rfl,Nat.le_refl _,fun h=>absurd h (Nat.lt_irrefl _)⟩,fun h=>absurd h (Nat.lt_irrefl _)⟩,Below.refl _ _⟩
 | some ad=>
  obtain⟨i0,hi,A⟩:=Option.map_eq_some_iff.1 Lw;simp only[Prod.mk.injEq]at A;obtain⟨M,hs,y⟩:=A;have p:∀(w':World),Below w.heap.size w w'->∀j u,(kc f g n)[j]?=some u->w'.cell? (ad.add j)=some u:=fun w' S j u J=>by
   by_cases Q:0<n
   ·obtain⟨b,off,C,_,_,T⟩:=G.out Q;simp only[Option.some.injEq]at C;subst C;have:=Ui T j u J;have x:(⟨b,off,none⟩:Addr).add j=⟨b,off+j,none⟩:=(by unfold Addr.add;split<;>simp_all);rw[x]at this ⊢;exact(S.cell (AV this)).trans this
   ·obtain rfl:n=0:=(by omega);simp[kc]at J
  have t:Hid (∀(w':World),Below w.heap.size w w'->∀j u,(kc f g n)[j]?=some u->w'.cell? (ad.add j)=some u):=p;have B:Hid (Tryz.prog.info? 38=some i0/\i0.zero=some (.agg #[A0 0,A0 0])/\i0.size=2/\i0.bytes=16):=⟨hi,M,hs,y⟩;have m:(w.alloc (.cells #[] 38)).ownsRow w.heap.size 38 2 (.slice (some ⟨w.heap.size,0,none⟩) 0 0) 0 []:=World.ownsRow_made w #[] 0 (Nat.le_refl _) (Nat.zero_le _) (by simp);have d:Hid ((w.alloc (.cells #[] 38)).ownsRow w.heap.size 38 2 (.slice (some ⟨w.heap.size,0,none⟩) 0 0) 0 []):=m;clear hi M hs y p m;go_enter Tryz.func118,Tryz.ntmps118;go_wp2_with (first
   | (at_builtin;refine wpList_append_own _ rfl _ _ 39 rfl w.heap.size 38 i0 (.agg #[A0 0,A0 0]) 2 16 (by kernel_rfl) B.out.1 B.out.2.1 B.out.2.2.1 B.out.2.2.2 rfl (by decide) _ _ _ rfl d.out ad n c (kc f g n) rfl (KH f g n) ?c1 (Zq f g n) ?c3 ?c4 ?c5 ?_))
  case c1=>exact t.out _ ((Below.refl _ _).alloc (Nat.le_refl _) _)
  case c3=>unfold maxLen;omega
  case c4=>omega
  case c5=>simp
  intro s D l k z;have E:Below w.heap.size w D:=((Below.refl _ _).alloc (Nat.le_refl _) _).grown k (by simp) (fun q V=>by have:=d.out.lt q V;omega);have o:D.ownsRow w.heap.size 38 2 s n (kc f g n):=(by simpa using l);obtain⟨r,L,K⟩:=Yv O.out o;have H:Hid (CS D r s n f g/\(0<n->w.heap.size<=r/\r<D.heap.size)):=⟨L,K⟩;clear L K l o k z;go_wp2;go_ret;exact⟨⟨s,r,rfl,H.out.1,H.out.2⟩,E⟩
theorem zCp(t v1 u:Value)(lo hi:Nat)(s:AH)(w:World)(y:CU w lo hi t v1 u s)(hn:s.kn<=1048576) :
 Calls Tryz.prog 189 #[.agg #[t,v1,u]] w (zGV s w):=by
 obtain⟨rfl,r,rfl,z⟩:=y;have q1:=r;obtain⟨_,a,c,rfl,_⟩:=r;go_enter Tryz.func189,Tryz.ntmps189;go_wp2_with fail;have h:=AB w (.cells #[A0 s.birth,.slice a s.kn c,.string s.data] 94);have f:=A9 h (AB _ (.cells #[A0 0,A5,.string ⟨#[]⟩] 94));refine(zCo _ s.kn lo hi _ _ _ (q1.A1 f) hn).mono ?_;rintro e k ⟨⟨kv,j,rfl,q,i⟩,b⟩;have x:Hid (CZ k w.heap.size (A0 s.birth) (.slice a s.kn c) (.string s.data)):=((CZ.new w _ _ _ _).A1 (AB _ _)).A1 b;have p:Hid (CZ k (w.heap.size+1) (A0 0) (A5) (.string ⟨#[]⟩)):=by
  have:=((CZ.new (w.alloc (.cells #[A0 s.birth,.slice a s.kn c,.string s.data] 94)) (A0 0) (A5) (.string ⟨#[]⟩) 94).A1 b);rw[World.size_alloc]at this;exact this
 have n:=A9 f b;rw[World.size_alloc,World.size_alloc]at i;have l:Hid (CS k j kv s.kn s.ks s.kb/\(0<s.kn->w.heap.size+1+1<=j/\j<k.heap.size)):=⟨q,i⟩;obtain⟨_,o,g,rfl,_⟩:=q;clear h f b i;obtain⟨⟨A,B⟩,⟨C,D⟩,⟨E,F⟩⟩:=x.out;obtain⟨⟨G,H⟩,⟨I,J⟩,⟨K,L⟩⟩:=p.out;go_wp2;have d:=(p.out.other (b':=w.heap.size) (o':=1) (.slice o s.kn g) (by omega)).put (A0 s.birth) (.slice o s.kn g) (.string s.data);refine bodyPost_ret (v:=.agg #[A0 s.birth,.slice o s.kn g,.string s.data]) (by simp[results,Tryz.results189,go_sem,d.1.1,d.2.1.1,d.2.2.1]) rfl ⟨_,j,rfl,?_,?_,?_⟩
 ·have i:=l.out.2;refine(((l.out.1.AD (AC.put _ _ _ _) ?_).AD (AC.put _ _ _ _) ?_).AD (AC.put _ _ _ _) ?_).AD (AC.put _ _ _ _) ?_
  all_goals exact fun m e=>by have:=i m;omega
 ·intro m;have:=l.out.2 m;simp only[World.size_setCell];omega
 ·exact(((n.setCell (by show _<=w.heap.size;omega) _).setCell (by show _<=w.heap.size+1;omega) _).setCell (by show _<=w.heap.size+1;omega) _).setCell (by show _<=w.heap.size+1;omega) _
theorem zCn(a:Option Addr)(n c:Nat)(xs:List Value)(w:World)(G:xs.length=n*1)(m:∀u∈xs,u.oneCell'=true)(hn:n<=1048576)
 (E:0<n->∃b off,a=some ⟨b,off,none⟩/\∀j u,xs[j]?=some u->w.cell? ⟨b,off+j,none⟩=some u) :
 Calls Tryz.prog 157 #[.slice a n c] w fun e w'=>∃o,e = .returned o/\w'.ownsRow w.heap.size 2 1 o n xs/\Below w.heap.size w w'/\(n=0->∃a,o = .slice a 0 0):=by
 have D:Hid (0<n->∃b off,a=some ⟨b,off,none⟩/\∀j u,xs[j]?=some u->w.cell? ⟨b,off+j,none⟩=some u):=E;have x:Hid (xs.length=n*1/\∀u∈xs,u.oneCell'=true):=⟨G,m⟩;clear E G m;have J:=fun w=>Lib.run_eql_slice_nil (P:=Tryz.prog) w 24 2 a n c 0 0 (by kernel_rfl)
 cases a with
 | none=>
  have A:n=0:=by
   by_cases h:0<n
   ·obtain⟨b,off,y,_⟩:=D.out h;simp at y
   ·omega
  subst A;have B:xs = []:=List.eq_nil_of_length_eq_zero (by simpa using x.out.1);subst B;go_enter Tryz.func157,Tryz.ntmps157;go_wp2;go_ret;exact⟨_,rfl,World.ownsRow_nil _ _ _ _,Below.refl _ _,fun _=>⟨_,rfl⟩⟩
 | some ad=>
  obtain⟨i0,hi,t⟩:=Option.map_eq_some_iff.1 Xb;simp only[Prod.mk.injEq]at t;obtain⟨H,hs,s⟩:=t;have v:Hid (Tryz.prog.info? 2=some i0/\i0.zero=some (A0 0)/\i0.size=1/\i0.bytes=8):=⟨hi,H,hs,s⟩;have d:Hid ((w.alloc (.cells #[] 2)).ownsRow w.heap.size 2 1 (.slice (some ⟨w.heap.size,0,none⟩) 0 0) 0 []):=World.ownsRow_made w #[] 0 (Nat.le_refl _) (Nat.zero_le _) (by simp);clear hi H hs s;go_enter Tryz.func157,Tryz.ntmps157;go_wp2_with (first
   | (at_builtin;refine Jt rfl _ _ 24 rfl w.heap.size 2 i0 (A0 0) 1 8 (by kernel_rfl) v.out.1 v.out.2.1 v.out.2.2.1 v.out.2.2.2 rfl (by decide) _ _ _ rfl d.out (some ad) n c xs rfl x.out.1 x.out.2 ?c1 ?c3 ?c4 ?c5 ?_))
  case c1=>
   intro I;obtain⟨b,off,y,f⟩:=D.out I;exact⟨b,off,y,fun j u F=>(((Below.refl _ _).alloc (Nat.le_refl _) _).cell (AV (f j u F))).trans (f j u F)⟩
  case c3=>unfold maxLen;omega
  case c4=>omega
  case c5=>simp
  intro o C i g l;have z:Below w.heap.size w C:=((Below.refl _ _).alloc (Nat.le_refl _) _).grown g (by simp) (fun q K=>by have:=d.out.lt q K;omega);have k:C.ownsRow w.heap.size 2 1 o n xs:=(by simpa using i);have p:Hid (C.ownsRow w.heap.size 2 1 o n xs):=k;have r:Hid (n=0->o = .slice (some ⟨w.heap.size,0,none⟩) 0 0):=l;clear i k g l;go_wp2;go_ret;exact⟨o,rfl,p.out,z,fun e=>⟨_,r.out e⟩⟩
theorem zCu(a:Option Addr)(n c:Nat)(xs:List Value)(w:World)(G:xs.length=n*3)(m:∀u∈xs,u.oneCell'=true)(hn:n<=1048576)
 (E:0<n->∃b off,a=some ⟨b,off,none⟩/\∀j u,xs[j]?=some u->w.cell? ⟨b,off+j,none⟩=some u) :
 Calls Tryz.prog 188 #[.slice a n c] w fun e w'=>∃o,e = .returned o/\w'.ownsRow w.heap.size 94 3 o n xs/\Below w.heap.size w w'/\(n=0->∃a,o = .slice a 0 0):=by
 have D:Hid (0<n->∃b off,a=some ⟨b,off,none⟩/\∀j u,xs[j]?=some u->w.cell? ⟨b,off+j,none⟩=some u):=E;have x:Hid (xs.length=n*3/\∀u∈xs,u.oneCell'=true):=⟨G,m⟩;clear E G m;have J:=fun w=>Lib.run_eql_slice_nil (P:=Tryz.prog) w 23 94 a n c 0 0 (by kernel_rfl)
 cases a with
 | none=>
  have A:n=0:=by
   by_cases h:0<n
   ·obtain⟨b,off,y,_⟩:=D.out h;simp at y
   ·omega
  subst A;have B:xs = []:=List.eq_nil_of_length_eq_zero (by simpa using x.out.1);subst B;go_enter Tryz.func188,Tryz.ntmps188;go_wp2;go_ret;exact⟨_,rfl,World.ownsRow_nil _ _ _ _,Below.refl _ _,fun _=>⟨_,rfl⟩⟩
 | some ad=>
  obtain⟨i0,hi,t⟩:=Option.map_eq_some_iff.1 Xc;simp only[Prod.mk.injEq]at t;obtain⟨H,hs,s⟩:=t;have v:Hid (Tryz.prog.info? 94=some i0/\i0.zero=some (.agg #[A0 0,A5,.string ⟨#[]⟩])/\i0.size=3/\i0.bytes=48):=⟨hi,H,hs,s⟩;have d:Hid ((w.alloc (.cells #[] 94)).ownsRow w.heap.size 94 3 (.slice (some ⟨w.heap.size,0,none⟩) 0 0) 0 []):=World.ownsRow_made w #[] 0 (Nat.le_refl _) (Nat.zero_le _) (by simp);clear hi H hs s;go_enter Tryz.func188,Tryz.ntmps188;go_wp2_with (first
   | (at_builtin;refine Jt rfl _ _ 23 rfl w.heap.size 94 i0 (.agg #[A0 0,A5,.string ⟨#[]⟩]) 3 48 (by kernel_rfl) v.out.1 v.out.2.1 v.out.2.2.1 v.out.2.2.2 rfl (by decide) _ _ _ rfl d.out (some ad) n c xs rfl x.out.1 x.out.2 ?c1 ?c3 ?c4 ?c5 ?_))
  case c1=>
   intro I;obtain⟨b,off,y,f⟩:=D.out I;exact⟨b,off,y,fun j u F=>(((Below.refl _ _).alloc (Nat.le_refl _) _).cell (AV (f j u F))).trans (f j u F)⟩
  case c3=>unfold maxLen;omega
  case c4=>omega
  case c5=>simp
  intro o C i g l;have z:Below w.heap.size w C:=((Below.refl _ _).alloc (Nat.le_refl _) _).grown g (by simp) (fun q K=>by have:=d.out.lt q K;omega);have k:C.ownsRow w.heap.size 94 3 o n xs:=(by simpa using i);have p:Hid (C.ownsRow w.heap.size 94 3 o n xs):=k;have r:Hid (n=0->o = .slice (some ⟨w.heap.size,0,none⟩) 0 0):=l;clear i k g l;go_wp2;go_ret;exact⟨o,rfl,p.out,z,fun e=>⟨_,r.out e⟩⟩
def Du(w:World)(b:Nat)(v0 v1 v2 v3 v4:Value):Prop:=AO w b 0 v0/\AO w b 1 v1/\AO w b 2 v2/\AO w b 3 v3/\AO w b 4 v4
variable{w':World}{b:Nat}{v0 v1 v2 v3 v4:Value}
theorem Du.A1(h:Du w b v0 v1 v2 v3 v4)(t:Below w.heap.size w w'):Du w' b v0 v1 v2 v3 v4:=⟨h.1.A1 t,h.2.1.A1 t,h.2.2.1.A1 t,h.2.2.2.1.A1 t,h.2.2.2.2.A1 t⟩
theorem Du.AD{S:Nat->Prop}(h:Du w b v0 v1 v2 v3 v4)(t:AC S w w')(hs:¬S b):Du w' b v0 v1 v2 v3 v4:=⟨h.1.AD t hs,h.2.1.AD t hs,h.2.2.1.AD t hs,h.2.2.2.1.AD t hs,h.2.2.2.2.AD t hs⟩
theorem Du.new(w:World)(b v1 c d e:Value)(t:TypeId):Du (w.alloc (.cells #[b,v1,c,d,e] t)) w.heap.size b v1 c d e:=by
 have a:(w.alloc (.cells #[b,v1,c,d,e] t)).heap[w.heap.size]?=some (.cells #[b,v1,c,d,e] t):=heap_alloc_new _ _;exact⟨Az a rfl,Az a rfl,Az a rfl,Az a rfl,Az a rfl⟩
abbrev put5(w:World)(b:Nat)(u0 u1 u2 u3 u4:Value):World:=((((w.setCell ⟨b,0,none⟩ u0).setCell ⟨b,1,none⟩ u1).setCell ⟨b,2,none⟩ u2).setCell ⟨b,3,none⟩ u3).setCell ⟨b,4,none⟩ u4
theorem Du.put(h:Du w b v0 v1 v2 v3 v4)(a d u2 u3 u4:Value):Du (put5 w b a d u2 u3 u4) b a d u2 u3 u4:=
 have H (i:Nat) (u v:Value) (e:[a,d,u2,u3,u4][i]?=some u) (c:AO w b i v):AO (put5 w b a d u2 u3 u4) b i u:=LZ [a,d,u2,u3,u4] w 0 i i e (Nat.zero_add i) c
 ⟨H 0 _ _ rfl h.1,H 1 _ _ rfl h.2.1,H 2 _ _ rfl h.2.2.1,H 3 _ _ rfl h.2.2.2.1,H 4 _ _ rfl h.2.2.2.2⟩
theorem AC.put5(w:World)(b:Nat)(a c u2 u3 u4:Value):AC (fun k=>k=b) w (put5 w b a c u2 u3 u4):=
 ((((AC.put w b 0 a).trans (AC.put _ b 1 c)).trans (AC.put _ b 2 u2)).trans (AC.put _ b 3 u3)).trans (AC.put _ b 4 u4)
structure Dr where
 pool:A7
 ps:Int
 pb:Int
 code:Int
def PT(o:Dr)(w:World)(e:Ending)(w':World):Prop:=∃v0 v1,e = .returned (.agg #[v0,v1,A0 o.ps,A0 o.pb,A0 o.code])/\Bq w' w.heap.size w'.heap.size v0 v1 o.pool/\Below w.heap.size w w'
variable{lo hi:Nat}
theorem QK:Bq w lo hi (A5) (A5) (Cs 0):=
 zFc (g:=0) (Nat.zero_le _) ⟨none,0,rfl,Nat.le_refl _,fun h=>absurd h (Nat.lt_irrefl _)⟩ (fun i h=>absurd h (Nat.not_lt_zero _))
variable{f:Nat->AH}{cv:Nat->Value}
theorem zFP{off:Nat}(h:∀i,i<n->w.cell? ⟨b,off+i*3,none⟩=some (A0 (f i).birth)/\w.cell? ⟨b,off+i*3+1,none⟩=some (cv i)/\w.cell? ⟨b,off+i*3+2,none⟩=some (.string (f i).data)) :
 ∀j u,(sc f cv n)[j]?=some u->w.cell? ⟨b,off+j,none⟩=some u:=by
 intro j u c;have g:j<n*3:=by
  have:=(List.getElem?_eq_some_iff.1 c).1
  rwa [Gu]at this
 obtain⟨c0,c1,d⟩:=h (j / 3) (by omega);have e:=IT f cv n (j / 3) (j % 3) (by omega) (by omega);rw[show j / 3*3+j % 3=j by omega,c]at e;rcases(by omega:j % 3=0\/j % 3=1\/j % 3=2)with a | a | a
 ·rw[a]at e;simp at e;subst e;rw[show off+j=off+j / 3*3 by omega];exact c0
 ·rw[a]at e;simp at e;subst e;rw[show off+j=off+j / 3*3+1 by omega];exact c1
 ·rw[a]at e;simp at e;subst e;rw[show off+j=off+j / 3*3+2 by omega];exact d
variable{a:Option Addr}{c:Nat}
theorem CL.values(h:CL w lo hi (.slice a n c) n f) :
 ∃cv:Nat->Value,(∀i,i<n->CU w lo hi (A0 (f i).birth) (cv i) (.string (f i).data) (f i))/\
  (0<n->∃b off,a=some ⟨b,off,none⟩/\lo<=b/\b<hi/\∀j u,(sc f cv n)[j]?=some u->w.cell? ⟨b,off+j,none⟩=some u):=by
 obtain⟨_,t,c0,o,_,g⟩:=h;simp only[Value.slice.injEq,true_and]at o;obtain⟨rfl,rfl⟩:=o;by_cases hn:0<n
 ·obtain⟨b,off,p,e,k,q⟩:=g hn;have l:∀i,∃x,i<n->(w.cell? ⟨b,off+i*3,none⟩=some (A0 (f i).birth)/\w.cell? ⟨b,off+i*3+1,none⟩=some x/\w.cell? ⟨b,off+i*3+2,none⟩=some (.string (f i).data))/\CU w lo hi (A0 (f i).birth) x (.string (f i).data) (f i):=fun i=>by
   by_cases hi:i<n
   ·obtain⟨v,v1,y,r,q1,s,hs⟩:=q i hi;have m:=hs;obtain⟨rfl,_,rfl,_⟩:=m;exact⟨v1,fun _=>⟨⟨r,q1,s⟩,hs⟩⟩
   ·exact⟨A5,fun h=>absurd h hi⟩
  obtain⟨cv,d⟩:=Classical.axiomOfChoice l;exact⟨cv,fun i hi=>(d i hi).2,fun _=>⟨b,off,p,e,k,zFP fun i hi=>(d i hi).1⟩⟩
 ·exact⟨fun _=>A5,fun i hi=>absurd hi (by omega),fun h=>absurd h hn⟩
theorem CU.form(h:CU w lo hi v0 v1 v2 s):∃a kc,v1 = .slice a s.kn kc:=by
 obtain⟨_,⟨_,a,kc,h,_⟩,_⟩:=h;exact⟨a,kc,h⟩
structure GG (wr:World) (bs n k:Nat) (f:Nat->AH) (kb:Nat->Nat) (kv cv:Nat->Value):Prop where
 cells:∀j,j<n->AO wr bs (j*3) (A0 (f j).birth)/\AO wr bs (j*3+1) (if j<k then kv j else cv j)/\AO wr bs (j*3+2) (.string (f j).data)
 kids:∀j,j<k->CS wr (kb j) (kv j) (f j).kn (f j).ks (f j).kb
 C9:∀j,j<k->0<(f j).kn->bs<kb j/\kb j<wr.heap.size
 Bn:M1 kb k f
variable{wr:World}{bs k:Nat}{kb:Nat->Nat}{kv:Nat->Value}
theorem GG.A1(h:GG wr bs n k f kb kv cv)(t:Below wr.heap.size wr w'):GG w' bs n k f kb kv cv:=
 ⟨fun j a=>⟨(h.cells j a).1.A1 t,(h.cells j a).2.1.A1 t,(h.cells j a).2.2.A1 t⟩,fun j a=>(h.kids j a).A1 t,fun j a b=>by have:=h.C9 j a b;have:=t.size;omega,h.Bn⟩
theorem GG.next{w1:World}(h:GG wr bs n k f kb kv cv)(y:k<n)(u:bs<wr.heap.size)(t:Below wr.heap.size wr w1)
 (w:CS w1 b v (f k).kn (f k).ks (f k).kb) (l:0<(f k).kn->wr.heap.size<=b/\b<w1.heap.size) :
 GG (((w1.setCell ⟨bs,k*3,none⟩ (A0 (f k).birth)).setCell ⟨bs,k*3+1,none⟩ v).setCell ⟨bs,k*3+2,none⟩ (.string (f k).data)) bs n (k+1) f (fun j=>if j=k then b else kb j) (fun j=>if j=k then v else kv j) cv:=by
 have g:=h.A1 t;refine⟨fun j m=>?_,fun j m=>?_,fun j m c=>?_,fun i j hi m q o p=>?_⟩
 ·obtain⟨c0,c1,r⟩:=g.cells j m;by_cases e:j=k
  ·subst e;rw[if_pos (by omega),if_pos rfl];exact⟨((c0.set _).other _ (Or.inr (by omega))).other _ (Or.inr (by omega)),((c1.other _ (Or.inr (by omega))).set _).other _ (Or.inr (by omega)),((r.other _ (Or.inr (by omega))).other _ (Or.inr (by omega))).set _⟩
  ·rw[if_neg e];have s:(if j<k+1 then kv j else cv j)=if j<k then kv j else cv j:=by
    by_cases a:j<k
    ·rw[if_pos a,if_pos (by omega)]
    ·rw[if_neg a,if_neg (by omega)]
   rw[s];exact⟨((c0.other _ (Or.inr (by omega))).other _ (Or.inr (by omega))).other _ (Or.inr (by omega)),((c1.other _ (Or.inr (by omega))).other _ (Or.inr (by omega))).other _ (Or.inr (by omega)),((r.other _ (Or.inr (by omega))).other _ (Or.inr (by omega))).other _ (Or.inr (by omega))⟩
 ·by_cases e:j=k
  ·subst e;simp only[if_true];refine((w.AD (AC.put _ _ _ _) ?_).AD (AC.put _ _ _ _) ?_).AD (AC.put _ _ _ _) ?_
   all_goals exact fun c x=>by have:=l c;omega
  ·simp only[if_neg e];refine(((g.kids j (by omega)).AD (AC.put _ _ _ _) ?_).AD (AC.put _ _ _ _) ?_).AD (AC.put _ _ _ _) ?_
   all_goals exact fun c x=>by have:=g.C9 j (by omega) c;omega
 ·simp only[World.size_setCell];by_cases e:j=k
  ·subst e;rw[if_pos rfl];have:=l c;omega
  ·rw[if_neg e];have:=g.C9 j (by omega) c;omega
 ·show(if i=k then b else kb i)≠(if j=k then b else kb j);by_cases d:i=k
  ·by_cases a:j=k
   ·omega
   ·rw[if_pos d,if_neg a];subst d;have:=l o;have:=h.C9 j (by omega) p;omega
  ·by_cases a:j=k
   ·rw[if_neg d,if_pos a];subst a;have:=l p;have:=h.C9 i (by omega) o;omega
   ·rw[if_neg d,if_neg a];exact h.Bn i j (by omega) (by omega) q o p
theorem GG.own(h:GG wr bs n n f kb kv cv)(m:n<=maxLen)(g:0<n->a=some ⟨bs,0,none⟩)(k:n<=c)(hs:∀j,j<n->(f j).data.size<=maxLen):FF wr bs kb kv (.slice a n c) n f:=
 ⟨m,a,c,rfl,k,fun d=>⟨0,g d,fun i hi=>by
  obtain⟨c0,c1,b⟩:=h.cells i hi;rw[if_pos hi]at c1;rw[Nat.zero_add];exact⟨c0,c1,b,h.kids i hi,hs i hi,fun l e=>by have:=h.C9 i hi l;omega⟩⟩⟩
theorem ZM(v:Value)(n lo hi:Nat)(f:Nat->AH)(w:World)(N:CL w lo hi v n f)(hn:n<=1048576)(S:∀j,j<n->(f j).kn<=1048576) :
 Calls Tryz.prog 156 #[v] w fun e w'=>∃V y H kv,e = .returned V/\FF w' y H kv V n f/\M1 H n f/\(∀k,FY y H n f k->w.heap.size<=k/\k<w'.heap.size)/\Below w.heap.size w w':=by
 have Hm:=AT N.1;have q1:=N;obtain⟨_,a,c,rfl,_,_⟩:=N;obtain⟨cv,d,D⟩:=q1.values;have E:=AT d;have Hk:=AT S;have x:0<n->∃b off,a=some ⟨b,off,none⟩/\∀j u,(sc f cv n)[j]?=some u->w.cell? ⟨b,off+j,none⟩=some u:=fun p=>by
  obtain⟨b,off,h2,_,_,h3⟩:=D p;exact⟨b,off,h2,h3⟩
 have B:=qF f cv n (fun i hi=>by obtain⟨U,kc,e⟩:=(d i hi).form;rw[e];rfl);clear d S q1 D;go_enter Tryz.func156,Tryz.ntmps156;go_wp2_with fail;refine(zCu a n c (sc f cv n) w (Gu _ _ _) B hn x).mono ?_;rintro e W ⟨V,rfl,t,Q,_⟩;obtain⟨a1,c1,rfl,T⟩:=Bw t;clear B x;have A:∃y,(0<n->a1=some ⟨y,0,none⟩/\w.heap.size<=y/\y<W.heap.size)/\GG W y n 0 f (fun _=>0) cv cv:=by
  by_cases p:0<n
  ·obtain⟨g,cap,hv,_,r,K,m⟩:=FI t p;simp only[Value.slice.injEq,true_and]at hv;obtain⟨rfl,rfl⟩:=hv;refine⟨g,fun _=>⟨rfl,r,K⟩,fun j l=>⟨?_,?_,?_⟩,fun j l=>absurd l (Nat.not_lt_zero _),fun j l=>absurd l (Nat.not_lt_zero _),fun i j hi=>absurd hi (Nat.not_lt_zero _)⟩
   ·have:=m (j*3+0) _ (IT f cv n j 0 l (by omega));simpa using this
   ·have:=m (j*3+1) _ (IT f cv n j 1 l (by omega));simpa using this
   ·have:=m (j*3+2) _ (IT f cv n j 2 l (by omega));simpa using this
  ·exact⟨0,fun h=>absurd h p,fun j l=>absurd l (by omega),fun j l=>absurd l (Nat.not_lt_zero _),fun j l=>absurd l (Nat.not_lt_zero _),fun i j hi=>absurd hi (Nat.not_lt_zero _)⟩
 obtain⟨y,A,s⟩:=A;have z:=AT A;have F:=AT s;clear t A s;go_wp2
 go_loopw [4,5,10] (fun _ _ i wr=>∃(k:Nat) (H:Nat->Nat) (kv:Nat->Value),k<=n/\i=A0 k/\GG wr y n k f H kv cv/\Below w.heap.size w wr/\W.heap.size<=wr.heap.size) (fun _ _ i _=>n - (intOf i).toNat)
 case atStart=>exact⟨0,_,_,Nat.zero_le _,rfl,F.out,Q,Nat.le_refl _⟩
 case round=>
  obtain⟨k,H,kv,S,rfl,X,P,hz⟩:=hrel;have I:=AT X;clear X;by_cases o:k<n
  ·have Y:(k:Int)<(n:Int):=(by omega);obtain⟨rfl,r,K⟩:=z.out (by omega);obtain⟨U,kc,d⟩:=(E.out k o).form;have M:Hid (CU wr lo hi (A0 (f k).birth) (.slice U (f k).kn kc) (.string (f k).data) (f k)):=by
    have:=(E.out k o).A1 P;rw[d]at this;exact this
   obtain⟨⟨Z,r0⟩,q1,⟨q2,r2⟩⟩:=I.out.cells k o;rw[if_neg (by omega),d]at q1;obtain⟨q1,r1⟩:=q1;go_wp2_with fail;have O:=AB wr (.cells #[A0 (f k).birth,.slice U (f k).kn kc,.string (f k).data] 94);refine(zCp _ _ _ lo hi (f k) _ (M.out.A1 O) (Hk.out k o)).mono ?_;rintro e w2 ⟨nv,nb,rfl,G,C,J⟩;obtain⟨_,na,nc,rfl,_⟩:=id G;have q:=A9 O J;have L:=AT (I.out.next o (by omega) q G (fun p=>by have:=C p;rw[World.size_alloc]at this;omega));have R:=A9 P q;have iA:=q.size;clear Z q1 q2 r0 r1 r2;obtain⟨⟨Z,r0⟩,q1,⟨q2,r2⟩⟩:=(I.out.A1 q).cells k o;rw[if_neg (by omega),d]at q1;obtain⟨q1,r1⟩:=q1;clear G C J O q d;go_wp2;go_roundw
   case rel=>exact⟨k+1,_,_,by omega,by go_num,L.out,((R.setCell r _).setCell r _).setCell r _,by simp only[World.size_setCell];omega⟩
   case measure=>simp[intOf];omega
  ·obtain rfl:k=n:=(by omega);go_wp2;go_ret;refine⟨_,y,H,kv,rfl,I.out.own Hm.out (fun p=>(z.out p).1) T (fun j l=>(E.out j l).2.2.2),I.out.Bn,fun j l=>?_,P⟩;rcases l with⟨p,rfl⟩ | ⟨i,hi,p,rfl⟩
   ·have:=z.out p;omega
   ·have:=z.out (by omega);have:=I.out.C9 i hi p;omega
theorem Ov(v0 v1:Value)(lo hi:Nat)(p:A7)(w:World)(U:CD w lo hi v0 v1 p)(hn:Ap p<=1048576):Calls Tryz.prog 115 #[.agg #[v0,v1]] w (Tn p w):=by
 have S:=AT U;obtain⟨⟨Z,a,c,rfl,mc,g1⟩,⟨m2,y,c',rfl,nA,g2⟩⟩:=U;have Hm:=AT (And.intro Z m2);clear g1 g2 Z m2;unfold Ap at hn;have Hn:Hid (∀j,j<p.n->(p.s j).kn<=1048576):=fun j hj=>by have h2:=U1 p.s hj;unfold Ce at h2;omega
 have N:p.n<=1048576:=by omega
 have O:p.hn<=1048576:=by omega
 clear hn;have z:=AB w (.cells #[.slice a p.n c,.slice y p.hn c'] 26);have m:=A9 z (AB _ (.cells #[A5,A5] 26));have D:=AT ((Ad.new w (.slice a p.n c) (.slice y p.hn c') 26).A1 (AB _ (.cells #[A5,A5] 26)));have u:=Ad.new (w.alloc (.cells #[.slice a p.n c,.slice y p.hn c'] 26)) (A5) (A5) 26;rw[World.size_alloc]at u;have E:=AT u;clear z u;go_enter Tryz.func115,Tryz.ntmps115;go_wp2_with fail;generalize V:(w.alloc (.cells #[.slice a p.n c,.slice y p.hn c'] 26)).alloc (.cells #[A5,A5] 26)=W at D E m ⊢;have X:W.heap.size=w.heap.size+2:=by rw[<-V,World.size_alloc,World.size_alloc]
 clear V;obtain⟨⟨x0,x1⟩,⟨x2,x3⟩⟩:=D.out;obtain⟨⟨y0,y1⟩,⟨y2,y3⟩⟩:=E.out;go_region_held3 (fun w'=>w'.cell? ⟨w.heap.size,0,none⟩=some (.slice a p.n c)/\w'.cell? ⟨w.heap.size,1,none⟩=some (.slice y p.hn c')) (go_keep)
  (first
   | (go_at_call 156;refine(ZM _ p.n lo hi p.s _ ?_ N Hn.out).mono ?_;(exact S.out.1.A1 m.drew);rintro e R ⟨v',T,Y,kv,rfl,P,A,C,B⟩;obtain⟨_,H,q,rfl,_⟩:=id P;have b:=Cp B;obtain⟨⟨z0,z1⟩,⟨z2,z3⟩⟩:=D.out.A1 b)
   | (go_at_call 157;refine(zCn _ _ _ (ic p.h p.hn) _ (Il _ _) (zI9 _ _) O ?_).mono ?_;(exact TO S.out.2 rfl (A9 m b));rintro e I ⟨v',rfl,g,l,Q⟩;obtain⟨G,o,rfl,_⟩:=Bw g;have d:=A9 b l;obtain⟨⟨z4,z5⟩,⟨z6,z7⟩⟩:=D.out.A1 d;have J:=AT (E.out.A1 d);obtain⟨⟨z8,z9⟩,⟨pA,rA⟩⟩:=E.out.A1 d))
 obtain⟨hb,r,f⟩:=zCF Hm.out.2 g Q;have lA:W.heap.size<=R.heap.size:=b.size;have mA:R.heap.size<=I.heap.size:=l.size;have i:∀k,FY T Y p.n p.s k->W.heap.size<=k/\k<R.heap.size:=C;have K:Hid (Bq I (w.heap.size+2) I.heap.size (.slice H p.n q) (.slice G p.hn o) p):=by
  refine⟨T,hb,Y,kv,P.A1 l,A,r,fun L hx=>?_,fun k F=>?_⟩
  ·have:=i _ hx;have:=f L;omega
  ·rcases F with F | ⟨L,rfl⟩
   ·have:=i _ F;omega
   ·have:=f L;omega
 have M:=A9 m d;clear r f C i P A g B b l d;go_wp2;have x:=J.out.put (.slice H p.n q) (.slice G p.hn o);refine bodyPost_ret (v:=.agg #[.slice H p.n q,.slice G p.hn o]) (by simp[results,Tryz.results115,go_sem,x.1.1,x.2.1]) rfl ⟨_,_,rfl,?_,?_⟩
 ·have t:=(AC.put I (w.heap.size+1) 0 (.slice H p.n q)).trans (AC.put _ (w.heap.size+1) 1 (.slice G p.hn o));have X:=t.size;exact(K.out.AD t (fun k F=>by omega)).wide (by omega) X
 ·exact(M.setCell (by show _<=w.heap.size+1;omega) _).setCell (by show _<=w.heap.size+1;omega) _
def CQ(p:A7)(xs:Int):A7:={n:=p.n,s:=p.s,hn:=p.hn+1,h:=fun i=>if i=p.hn then xs else p.h i}
open Classical in
noncomputable def JL(p:A7)(xs xb:Int):Dr:=if AZ p then(if B8 p xs xb/\¬Has p.hn p.h xs then⟨CQ p xs,0,0,0⟩else⟨Cs 0,0,0,4⟩)else⟨Cs 0,0,0,1⟩
theorem zE(h:¬AZ p):JL p xs xb=⟨Cs 0,0,0,1⟩:=if_neg h
theorem XW(h:AZ p)(a:¬(B8 p xs xb/\¬Has p.hn p.h xs)):JL p xs xb=⟨Cs 0,0,0,4⟩:=(if_pos h).trans (if_neg a)
theorem Sq(h:AZ p)(b:B8 p xs xb)(a:¬Has p.hn p.h xs):JL p xs xb=⟨CQ p xs,0,0,0⟩:=(if_pos h).trans (if_pos ⟨b,a⟩)
variable{f g:Nat->Int}
theorem zEE(h:∀i,i<n->f i=g i):ic f n=ic g n:=by
 induction n with
 | zero=>rfl
 | succ n ih=>
  unfold ic;rw[ih (fun i hi=>h i (by omega)),h n (by omega)]
theorem zGE(p:A7)(xs:Int):ic (CQ p xs).h (p.hn+1)=ic p.h p.hn ++ [A0 xs]:=by
 show ic (CQ p xs).h p.hn ++ [A0 ((CQ p xs).h p.hn)]=_;rw[zEE (f:=(CQ p xs).h) (g:=p.h) (fun i hi=>if_neg (by omega)),show(CQ p xs).h p.hn=xs from if_pos rfl]
theorem zIT(w:World)(a b d e:Value)(c f g:TypeId) :
 Ad (((w.alloc (.cells #[a,b] c)).alloc (.cells #[d,e] f)).alloc (.cells #[A5,A5,A0 0,A0 0,A0 0] g)) w.heap.size a b/\
 Ad (((w.alloc (.cells #[a,b] c)).alloc (.cells #[d,e] f)).alloc (.cells #[A5,A5,A0 0,A0 0,A0 0] g)) (w.heap.size+1) d e/\
 Du (((w.alloc (.cells #[a,b] c)).alloc (.cells #[d,e] f)).alloc (.cells #[A5,A5,A0 0,A0 0,A0 0] g)) (w.heap.size+1+1) (A5) (A5) (A0 0) (A0 0) (A0 0)/\
 Below w.heap.size w (((w.alloc (.cells #[a,b] c)).alloc (.cells #[d,e] f)).alloc (.cells #[A5,A5,A0 0,A0 0,A0 0] g))/\
 (((w.alloc (.cells #[a,b] c)).alloc (.cells #[d,e] f)).alloc (.cells #[A5,A5,A0 0,A0 0,A0 0] g)).heap.size=w.heap.size+3:=by
 refine⟨((Ad.new w a b c).A1 (AB _ _)).A1 (AB _ _),?_,?_,A9 (A9 (AB _ _) (AB _ _)) (AB _ _),by simp⟩
 ·have:=(Ad.new (w.alloc (.cells #[a,b] c)) d e f).A1 (AB _ (.cells #[A5,A5,A0 0,A0 0,A0 0] g));rw[World.size_alloc]at this;exact this
 ·have:=Du.new ((w.alloc (.cells #[a,b] c)).alloc (.cells #[d,e] f)) (A5) (A5) (A0 0) (A0 0) (A0 0) g;rw[World.size_alloc,World.size_alloc]at this;exact this
variable{R:Nat}
theorem NV{s0 s1 u2 u3 u4:Value}(f:Bq wr lo hi s0 s1 p)(b:R<lo)(e:w.heap.size<=R)(c:hi<=wr.heap.size)(a:Below w.heap.size w wr) :
 Bq (put5 wr R s0 s1 u2 u3 u4) w.heap.size (put5 wr R s0 s1 u2 u3 u4).heap.size s0 s1 p/\Below w.heap.size w (put5 wr R s0 s1 u2 u3 u4):=by
 have t:=AC.put5 wr R s0 s1 u2 u3 u4;have g:=t.size;exact⟨(f.AD t (fun k d=>by omega)).wide (by omega) (by omega),a.trans (t.A1 (by have:=a.size;omega) (fun k d=>by omega))⟩
theorem Jh{u2 u3 u4:Value}(b:w.heap.size<=R)(a:Below w.heap.size w wr) :
 Bq (put5 wr R (A5) (A5) u2 u3 u4) w.heap.size (put5 wr R (A5) (A5) u2 u3 u4).heap.size (A5) (A5) (Cs 0)/\Below w.heap.size w (put5 wr R (A5) (A5) u2 u3 u4):=by
 have t:=AC.put5 wr R (A5) (A5) u2 u3 u4;exact⟨QK,a.trans (t.A1 (by have:=a.size;omega) (fun k c=>by omega))⟩
theorem ZI(t:AC (fun k=>k=b) w w'):w.grownBy w' (some b):=⟨t.os,t.tape,t.output,t.size,fun k c a=>t.block k c (fun e=>a (by rw[e]))⟩
theorem zIn(w:World)(x:Value)(t:TypeId):∀j u,[x][j]?=some u->(w.alloc (.cells #[x] t)).cell? ((⟨w.heap.size,0,none⟩:Addr).add j)=some u:=by
 intro j u a
 match j,a with
 | 0,a=>simp at a;subst a;simp[Addr.add]
 | (j+1),a=>simp at a
theorem yz(x:Int):∀u∈[Value.int .i64 x],u.oneCell'=true:=by
 intro u a;simp only[List.mem_cons,List.not_mem_nil,or_false]at a;rw[a];rfl
theorem Td(h:DA w lo hi (.slice a n c) n f)(i:Below w.heap.size w w'):∀b,a=some b->∀j u,(ic f n)[j]?=some u->w'.cell? (b.add j)=some u:=by
 intro b d j u e;have l:j<n:=by
  have:=(List.getElem?_eq_some_iff.1 e).1;rw[Il]at this;omega
 obtain⟨m,off,g,k⟩:=TO h rfl i (by omega);rw[g]at d;simp only[Option.some.injEq]at d;subst d;rw[add_lit];exact k j u e
theorem UU(h:DA w lo hi (.slice a n c) n f):a=none->n=0/\n=0:=fun e=>by
 obtain⟨_,j,k,hv,_,i⟩:=h;simp only[Value.slice.injEq,true_and]at hv;obtain⟨rfl,rfl⟩:=hv;by_cases d:0<n
 ·obtain⟨b,off,g,_⟩:=i d;rw[g]at e;cases e
 ·omega
theorem Rl(h:w.grownBy w' none):Below w.heap.size w w':=⟨h.os,h.tape,h.output,h.size,fun k a=>h.block k a (by simp)⟩
theorem zFd{x:Value}(h:w.cell? ⟨b,0,none⟩=some x):∀j u,[x][j]?=some u->w.cell? ((⟨b,0,none⟩:Addr).add j)=some u:=by
 intro j u a
 match j,a with
 | 0,a=>simp at a;subst a;rw[add_lit];exact h
 | (j+1),a=>simp at a
def Au(p:A7)(i:Nat)(s:AH):A7:={n:=p.n,s:=fun j=>if j=i then s else p.s j,hn:=p.hn,h:=p.h}
theorem zFt{s0 s1:Value}(e:Bq wr lo hi s0 s1 p)(b:R<lo)(a:w.heap.size<=R)(d:hi<=wr.heap.size)(c:Below w.heap.size w wr) :
 Bq ((wr.setCell ⟨R,0,none⟩ s0).setCell ⟨R,1,none⟩ s1) w.heap.size ((wr.setCell ⟨R,0,none⟩ s0).setCell ⟨R,1,none⟩ s1).heap.size s0 s1 p/\Below w.heap.size w ((wr.setCell ⟨R,0,none⟩ s0).setCell ⟨R,1,none⟩ s1):=by
 have t:=(AC.put wr R 0 s0).trans (AC.put _ R 1 s1);have g:=t.size;exact⟨(e.AD t (fun k f=>by omega)).wide (by omega) (by omega),(c.setCell a _).setCell a _⟩
def Ba(n:Nat)(f:Nat->AH)(i:Nat):Prop:=i<n/\Ah (f i)/\∀j,j<i->¬Ah (f j)
theorem Ba.uniq{f:Nat->AH}(h:Ba n f i)(a:Ba n f j):i=j:=by
 rcases Nat.lt_trichotomy i j with e | e | e
 ·exact absurd h.2.1 (a.2.2 i e)
 ·exact e
 ·exact absurd a.2.1 (h.2.2 j e)
open Classical in
noncomputable def Bv(p:A7)(s:AH):Dr:=
 if AZ p/\¬Ah s/\C5 p s then(if h:∃i,Ba p.n p.s i then⟨Au p (Classical.choose h) s,((Classical.choose h:Nat):Int),s.birth,0⟩else⟨Cs 0,0,0,6⟩)else⟨Cs 0,0,0,1⟩
theorem Qu(h:¬(AZ p/\¬Ah s/\C5 p s)):Bv p s=⟨Cs 0,0,0,1⟩:=if_neg h
theorem Ko(h:AZ p/\¬Ah s/\C5 p s)(a:∀j,j<p.n->¬Ah (p.s j)):Bv p s=⟨Cs 0,0,0,6⟩:=by
 unfold Bv;rw[if_pos h,dif_neg (fun ⟨i,hi⟩=>a i hi.1 hi.2.1)]
theorem KS(h:AZ p/\¬Ah s/\C5 p s)(b:Ba p.n p.s i):Bv p s=⟨Au p i s,(i:Int),s.birth,0⟩:=by
 unfold Bv;have a:∃i,Ba p.n p.s i:=⟨i,b⟩;rw[if_pos h,dif_pos a];have e:Classical.choose a=i:=(Classical.choose_spec a).uniq b;rw[e]
theorem zCQ(b:AZ p)(c:¬Ah s):Jq p.n p.s s↔C5 p s:=by
 have a:∀i,i<p.n->¬Ah (p.s i)->1<=(p.s i).birth:=fun i hi=>RF (b.2.1 i hi)
 constructor
 ·rintro(h | h | h)
  ·exact absurd h c
  ·exact⟨h.1,Or.inl h.2⟩
  ·exact⟨h.1.1,Or.inr ⟨h.1.2.1,h.1.2.2,fun j d=>(NS a).1 (h.2 j (by have:=h.1.2.1;omega))⟩⟩
 ·intro h;rcases h.2 with g | g
  ·exact Or.inr (Or.inl ⟨h.1,g⟩)
  ·exact Or.inr (Or.inr ⟨⟨h.1,g.1,g.2.1⟩,fun j d=>(NS a).2 (g.2.2 j (by omega))⟩)
theorem zCX(v:Value)(n lo hi:Nat)(f:Nat->AH)(w:World)(u:CL w lo hi v n f) :
 Calls Tryz.prog 138 #[v,.func (.func 137) #[] #[]] w fun e w'=>((∃i:Nat,Ba n f i/\e = .returned (A0 (i:Int)))\/((∀j,j<n->¬Ah (f j))/\e = .returned (A0 (-1))))/\Below w.heap.size w w':=by
 have y:=AT u;obtain⟨B,a,c,rfl,G,z⟩:=u;unfold maxLen at B;clear z;go_enter Tryz.func138,Tryz.ntmps138;go_wp2
 go_loopw [5,8] (fun _ i wr=>∃k:Nat,k<=n/\i=A0 k/\(∀j,j<k->¬Ah (f j))/\Below w.heap.size w wr) (fun _ i _=>n - (intOf i).toNat)
 case atStart=>exact⟨0,Nat.zero_le _,rfl,fun j A=>absurd A (Nat.not_lt_zero _),Below.refl _ _⟩
 case round=>
  obtain⟨k,E,rfl,g,r⟩:=hrel;have d:=AT g;clear g;by_cases h:k<n
  ·have x:(k:Int)<(n:Int):=(by omega);obtain⟨b,off,F,kc,rfl,hs⟩:=(y.out.A1 r).cells h;have s:=AT hs;obtain⟨C,q1,D,_⟩:=hs;go_wp2_with fail;refine(Kr _ _ _ lo hi (f k) _ s.out.slot).mono ?_;rintro e H ⟨⟨t,rfl,p⟩,m⟩;have o:=A9 r m;clear m C q1 D s;by_cases l:Ah (f k)
   ·obtain rfl:t=true:=p.2 l;have q:=AT l;clear p l;go_wp2;go_ret;exact⟨Or.inl ⟨k,⟨h,q.out,d.out⟩,rfl⟩,o⟩
   ·obtain rfl:t=false:=BQ p l;have q:=AT l;clear p l;go_wp2;go_roundw
    case rel=>exact⟨k+1,by omega,by go_num,Br h d.out q.out,o⟩
    case measure=>simp[intOf];omega
  ·obtain rfl:k=n:=(by omega);go_wp2;go_ret;exact⟨Or.inr ⟨d.out,rfl⟩,r⟩
theorem BG.all(h:BG w lo hi v n f g):BG w 0 w.heap.size v n f g:=by
 obtain⟨e,a,cap,hv,c,j⟩:=h;refine⟨e,a,cap,hv,c,fun hn=>?_⟩;obtain⟨b,off,i,k,l,d⟩:=j hn;exact⟨b,off,i,Nat.zero_le _,AV (d 0 hn).1,d⟩
theorem CU.all(h:CU w lo hi v0 v1 v2 s):CU w 0 w.heap.size v0 v1 v2 s:=⟨h.1,h.2.1.all,h.2.2⟩
theorem DA.all(h:DA w lo hi v n f):DA w 0 w.heap.size v n f:=by
 obtain⟨e,a,cap,hv,c,i⟩:=h;refine⟨e,a,cap,hv,c,fun hn=>?_⟩;obtain⟨b,off,g,j,k,d⟩:=i hn;exact⟨b,off,g,Nat.zero_le _,AV (d 0 hn),d⟩
variable{f:Nat->AH}
theorem Vh{g:Nat->AH}{a:Nat->Value}(h:∀i,i<k->f i=g i/\kv i=a i):sc f kv k=sc g a k:=by
 induction k with
 | zero=>rfl
 | succ k ih=>
   unfold sc;rw[ih (fun i hi=>h i (by omega)),(h k (by omega)).1,(h k (by omega)).2]
theorem Qp(f:Nat->AH)(kv:Nat->Value)(k m:Nat):sc f kv (k+m)=sc f kv k ++ sc (fun i=>f (k+i)) (fun i=>kv (k+i)) m:=by
 induction m with
 | zero=>simp[sc]
 | succ m ih=>
   show sc f kv (k+m) ++ [A0 (f (k+m)).birth,kv (k+m),.string (f (k+m)).data]=sc f kv k ++ (sc (fun i=>f (k+i)) (fun i=>kv (k+i)) m ++ [A0 (f (k+m)).birth,kv (k+m),.string (f (k+m)).data]);rw[ih,List.append_assoc]
theorem zE5{u:Value}(h:k<=n)(b:(sc f kv k)[j]?=some u):(sc f kv n)[j]?=some u:=by
 obtain⟨m,rfl⟩:=Nat.exists_eq_add_of_le h;have a:=(List.getElem?_eq_some_iff.1 b).1;rw[Qp,List.getElem?_append_left a];exact b
theorem zE6{m:Nat}{u:Value}(a:(sc (fun i=>f (k+i)) (fun i=>kv (k+i)) m)[j]?=some u):(sc f kv (k+m))[k*3+j]?=some u:=by
 rw[Qp,List.getElem?_append_right (by rw[Gu];omega),Gu];rw[show k*3+j - k*3=j by omega];exact a
theorem Xm(f:Nat->AH)(i:Nat)(s:AH):∀n,DC (fun j=>if j=i then s else f j) n<=DC f n+(if i<n then Ce s else 0)
 | 0=>Nat.zero_le _
 | n+1=>by
   have a:=Xm f i s n;show DC (fun j=>if j=i then s else f j) n+Ce (if n=i then s else f n)<=DC f n+Ce (f n)+_;by_cases e:n=i
   · rw[if_pos e,if_pos (by omega)]
     rw[if_neg (by omega)]at a;omega
   · rw[if_neg e]
     by_cases b:i<n
     · rw[if_pos b]at a
       rw[if_pos (by omega)];omega
     · rw[if_neg b]at a
       rw[if_neg (by omega)];omega
theorem Vk(p:A7)(i:Nat)(s:AH):Ap (Au p i s)<=Ap p+Ce s:=by
 have h:=Xm p.s i s p.n;have a:(if i<p.n then Ce s else 0)<=Ce s:=(by split<;>omega);show p.n+DC (fun j=>if j=i then s else p.s j) p.n+p.hn<=p.n+DC p.s p.n+p.hn+Ce s;omega
theorem zIN{kv:Value}{a:Nat}(h:a<p.n) :
 sc p.s cv a ++ [A0 s.birth,kv,.string s.data] ++ sc (fun i=>p.s (a+1+i)) (fun i=>cv (a+1+i)) (p.n - (a+1))=sc (Au p a s).s (fun j=>if j=a then kv else cv j) p.n:=by
 have e:=Qp (Au p a s).s (fun j=>if j=a then kv else cv j) (a+1) (p.n - (a+1));rw[show a+1+(p.n - (a+1))=p.n by omega]at e;rw[e];congr 1
 · show _=sc (Au p a s).s (fun j=>if j=a then kv else cv j) a ++ [A0 ((Au p a s).s a).birth,(if a=a then kv else cv a),.string ((Au p a s).s a).data]
   rw[show(Au p a s).s a=s from if_pos rfl,if_pos rfl];congr 1;exact Vh fun i hi=>⟨(if_neg (by omega:¬i=a)).symm,(if_neg (by omega:¬i=a)).symm⟩
 · exact Vh fun i hi=>⟨(if_neg (by omega:¬a+1+i=a)).symm,(if_neg (by omega:¬a+1+i=a)).symm⟩
theorem zA2{base e:Nat}(k:n<=maxLen)(h:w.ownsRow base e 3 v n (sc f cv n))(hs:∀i,i<n->CU w 0 w.heap.size (A0 (f i).birth) (cv i) (.string (f i).data) (f i)):CL w 0 w.heap.size v n f:=by
 by_cases j:0<n
 · obtain⟨g,cap,rfl,c,l,d,b⟩:=FI h j
   refine⟨k,_,cap,rfl,c,fun _=>⟨g,0,rfl,Nat.zero_le _,d,fun i hi=>⟨_,_,_,?_,?_,?_,hs i hi⟩⟩⟩
   · have:=(b (i*3+0) _ (IT f cv n i 0 hi (by omega))).1;simpa using this
   · have:=(b (i*3+1) _ (IT f cv n i 1 hi (by omega))).1;simpa using this
   · have:=(b (i*3+2) _ (IT f cv n i 2 hi (by omega))).1;simpa using this
 · obtain⟨a,cap,rfl,c⟩:=Bw h
   exact⟨k,a,cap,rfl,c,fun h=>absurd h j⟩
theorem zBj(v0 v1 kv:Value)(lo hi lo' hi' d:Nat)(p:A7)(s:AH)(w:World)(Q:CD w lo hi v0 v1 p)(h2:CU w lo' hi' (A0 s.birth) kv (.string s.data) s)(kA:d<p.n)(hn:Ap p+Ce s<=1048576) :
 Calls Tryz.prog 139 #[.agg #[v0,v1],A0 (d:Int),.agg #[A0 s.birth,kv,.string s.data]] w (Tn (Au p d s) w):=by
 have Hp:=AT Q;have Hs:=AT h2;have Hn:=AT hn;have bC:p.n<=1048576:=(by unfold Ap at hn;omega);have cC:p.hn<=1048576:=(by unfold Ap at hn;omega);obtain⟨a,c,L,c',rfl,rfl⟩:=Q.form;obtain⟨G,kc,rfl⟩:=h2.form;have mc:p.n<=c:=(by obtain⟨⟨_,_,_,e,h,_⟩,_⟩:=Q;simp only[Value.slice.injEq,true_and]at e;omega);obtain⟨cv,V,F⟩:=Q.1.values;obtain⟨b,off,rfl,lA,mA,m⟩:=F (by omega);have O:=AT V;have t:=AT m;have U:b<w.heap.size:=by
  have:=m 0 _ (by have:=IT p.s cv p.n 0 0 (by omega) (by omega);simpa using this);exact AV this
 obtain⟨i1,X,z⟩:=Option.map_eq_some_iff.1 Xc;simp only[Prod.mk.injEq]at z;have l:=AT (And.intro X z);clear Q h2 hn V F m X z lA mA;have S:=AB w (.cells #[.slice (some ⟨b,off,none⟩) p.n c,.slice L p.hn c'] 26);have T:=A9 S (AB _ (.cells #[A0 s.birth,.slice G s.kn kc,.string s.data] 94));have D:=A9 T (AB _ (.cells #[A5,A5] 26));have HB:=AT (((Ad.new w (.slice (some ⟨b,off,none⟩) p.n c) (.slice L p.hn c') 26).A1 (AB _ (.cells #[A0 s.birth,.slice G s.kn kc,.string s.data] 94))).A1 (AB _ (.cells #[A5,A5] 26)));have K:=(CZ.new (w.alloc (.cells #[.slice (some ⟨b,off,none⟩) p.n c,.slice L p.hn c'] 26)) (A0 s.birth) (.slice G s.kn kc) (.string s.data) 94).A1 (AB _ (.cells #[A5,A5] 26));rw[World.size_alloc]at K;have HS:=AT K;have J:=Ad.new ((w.alloc (.cells #[.slice (some ⟨b,off,none⟩) p.n c,.slice L p.hn c'] 26)).alloc (.cells #[A0 s.birth,.slice G s.kn kc,.string s.data] 94)) (A5) (A5) 26;rw[World.size_alloc,World.size_alloc]at J;have HR:=AT J;clear S T K J;go_enter Tryz.func139,Tryz.ntmps139;go_wp2_with fail;generalize hW:((w.alloc (.cells #[.slice (some ⟨b,off,none⟩) p.n c,.slice L p.hn c'] 26)).alloc (.cells #[A0 s.birth,.slice G s.kn kc,.string s.data] 94)).alloc (.cells #[A5,A5] 26)=W at HB HS HR D ⊢;have hz:W.heap.size=w.heap.size+3:=(by rw[<-hW,World.size_alloc,World.size_alloc,World.size_alloc]);clear hW;obtain⟨⟨x0,x1⟩,⟨x2,x3⟩⟩:=HB.out;obtain⟨⟨y0,y1⟩,⟨y2,y3⟩,⟨y4,y5⟩⟩:=HS.out;have iB:(d:Int)<=(c:Int):=(by omega);have n0:W.heap.size≠w.heap.size:=(by omega);have n1:W.heap.size≠w.heap.size+1:=(by omega);go_region_held3 (fun w'=>w'.cell? ⟨w.heap.size,0,none⟩=some (.slice (some ⟨b,off,none⟩) p.n c)/\w'.cell? ⟨w.heap.size+1,0,none⟩=some (A0 s.birth)/\w'.cell? ⟨w.heap.size+1,1,none⟩=some (.slice G s.kn kc)/\w'.cell? ⟨w.heap.size+1,2,none⟩=some (.string s.data)) (go_keep)
  (first
    | (refine step_append_grows rfl (.tmp 12) (.tmp 14) 23 rfl 94 i1 (.agg #[A0 0,A5,.string ⟨#[]⟩]) 3 48 (by kernel_rfl) l.out.1 l.out.2.1 l.out.2.2.1 l.out.2.2.2 rfl (by decide) (some ⟨b,off,none⟩) d d (sc p.s cv d) (by simp[Act.eval]) (fun e=>by cases e) (Gu _ _ _) ?_ ⟨W.heap.size,0,none⟩ 1 1 [A0 s.birth,.slice G s.kn kc,.string s.data] (by simp[Act.eval]) rfl ?_ (zIi _ _ _ _ _) (by omega) (by unfold maxLen;omega) (by omega) ?_
       exact fun b1 e j u E=>by
        simp only[Option.some.injEq]at e;subst e;rw[add_lit];exact((A9 D (AB W _)).drew.cell (p:=⟨b,off+j,none⟩) U).trans (t.out j u (zE5 (by omega) E))
       exact zIo W _ _ _ _;intro v4 w4 o q;obtain⟨g4,c4,rfl,_⟩:=o.form (by omega);have y:Below W.heap.size W w4:=A9 (AB W _) (Cp (Rl q));have x:=AT (Np (B:=W.heap.size) o (by simp));obtain⟨⟨p0,p1⟩,⟨p2,p3⟩⟩:=HB.out.A1 y;obtain⟨⟨p4,p5⟩,⟨p6,p7⟩,⟨p8,p9⟩⟩:=HS.out.A1 y;clear o q))
 have iA:=A9 D y;have jB:(d:Int)+1<=(p.n:Int):=(by omega);have oA:=y.size;clear x0 x1 x2 x3 y0 y1 y2 y3 y4 y5 p4 p5 p6 p7 p8 p9 HS;have dA:Hid (∀j u,(sc (fun i=>p.s (d+1+i)) (fun i=>cv (d+1+i)) (p.n - (d+1)))[j]?=some u->w4.cell? ((⟨b,off+(d+1)*3,none⟩:Addr).add j)=some u):=fun j u E=>by
  have e:=zE6 (f:=p.s) (kv:=cv) E;rw[show d+1+(p.n - (d+1))=p.n by omega]at e;rw[add_lit,show off+(d+1)*3+j=off+((d+1)*3+j)by omega];exact(iA.cell (p:=⟨b,off+((d+1)*3+j),none⟩) U).trans (t.out _ u e)
 have oB:Hid (c=d+1->∀j u,(sc (fun i=>p.s (d+1+i)) (fun i=>cv (d+1+i)) (p.n - (d+1)))[j]?=some u->w4.cell? ((⟨b,off,none⟩:Addr).add j)=some u):=fun vB j u E=>by
  rw[show p.n - (d+1)=0 by omega]at E;simp[sc]at E
 have P:Hid (∀u∈sc (fun i=>p.s (d+1+i)) (fun i=>cv (d+1+i)) (p.n - (d+1)),u.oneCell'=true):=qF _ _ _ (fun i hi=>by obtain⟨eC,fC,e⟩:=(O.out (d+1+i) (by omega)).form;rw[e];rfl);go_wp2_with (first
  | (at_builtin;refine Jt rfl _ _ 23 rfl W.heap.size 94 i1 (.agg #[A0 0,A5,.string ⟨#[]⟩]) 3 48 (by kernel_rfl) l.out.1 l.out.2.1 l.out.2.2.1 l.out.2.2.2 rfl (by decide) (.slice (some ⟨g4,0,none⟩) (d+1) c4) (d+1) _ rfl x.out _ (p.n - (d+1)) _ (sc (fun i=>p.s (d+1+i)) (fun i=>cv (d+1+i)) (p.n - (d+1))) rfl (Gu _ _ _) P.out (by intro hm;exact⟨b,off+(d+1)*3,(by first | rw[if_neg (by omega)] | rfl | simp),fun j u E=>by have hq:=dA.out j u E;rw[add_lit]at hq;exact hq⟩) ?c3 ?c4 ?c5 ?_))
 case c3=>unfold maxLen;omega
 case c4=>omega
 case c5=>omega
 all_goals
  intro v5 Z g r _;have hl:=zIN (s:=s) (cv:=cv) (kv:=.slice G s.kn kc) kA;simp only[List.append_assoc,List.cons_append,List.nil_append]at hl g;rw[show d+1+(p.n - (d+1))=p.n by omega,hl]at g;clear hl;obtain⟨g5,c5,rfl,_⟩:=g.form (by omega);have C:Below W.heap.size W Z:=y.grown r oA (fun k hk=>(x.out.lt k hk).1);have A:=A9 D C;have fA:Hid (CD Z 0 Z.heap.size (.slice (some ⟨g5,0,none⟩) p.n c5) (.slice L p.hn c') (Au p d s)):=by
   refine⟨zA2 (by show p.n<=maxLen;unfold maxLen;omega) g (fun i hi=>?_),(Hp.out.2.A1 A).all⟩;by_cases e:i=d
   · subst e
     rw[show(Au p i s).s i=s from if_pos rfl];simp only[if_true];exact(Hs.out.A1 A).all
   · rw[show(Au p d s).s i=p.s i from if_neg e]
     simp only[if_neg e];exact((O.out i hi).A1 A).all
  have cA:=AT (HR.out.A1 C);have dC:w.heap.size+3<=Z.heap.size:=(by have:=C.size;omega);clear g r p0 p1 p2 p3;obtain⟨⟨p0,p1⟩,⟨p2,p3⟩⟩:=HB.out.A1 C;go_wp2_with fail;refine(Ov _ _ 0 Z.heap.size (Au p d s) _ fA.out (by have:=Vk p d s;have:=Hn.out;omega)).mono ?_;rintro e w6 ⟨s0,s1,rfl,I,H⟩;obtain⟨a6,c6,a7,c7,rfl,rfl⟩:=I.form;have M:=AT (cA.out.A1 H);have eA:=AT I;have jA:=A9 A H;clear I H p0 p1 p2 p3;obtain⟨⟨u0,u1⟩,⟨u2,u3⟩⟩:=M.out;go_wp2;have N:=M.out.put (.slice a6 (Au p d s).n c6) (.slice a7 (Au p d s).hn c7);have Y:=zFt (R:=w.heap.size+1+1) eA.out (by omega) (by omega) (Nat.le_refl _) jA;exact bodyPost_ret (v:=.agg #[.slice a6 (Au p d s).n c6,.slice a7 (Au p d s).hn c7]) (by simp[results,Tryz.results139,go_sem,N.1.1,N.2.1]) rfl ⟨_,_,rfl,Y.1,Y.2⟩
theorem zHO(w:World)(a b d e f:Value)(c g h:TypeId) :
 Ad (((w.alloc (.cells #[a,b] c)).alloc (.cells #[d,e,f] g)).alloc (.cells #[A5,A5,A0 0,A0 0,A0 0] h)) w.heap.size a b/\
 CZ (((w.alloc (.cells #[a,b] c)).alloc (.cells #[d,e,f] g)).alloc (.cells #[A5,A5,A0 0,A0 0,A0 0] h)) (w.heap.size+1) d e f/\
 Du (((w.alloc (.cells #[a,b] c)).alloc (.cells #[d,e,f] g)).alloc (.cells #[A5,A5,A0 0,A0 0,A0 0] h)) (w.heap.size+1+1) (A5) (A5) (A0 0) (A0 0) (A0 0)/\
 Below w.heap.size w (((w.alloc (.cells #[a,b] c)).alloc (.cells #[d,e,f] g)).alloc (.cells #[A5,A5,A0 0,A0 0,A0 0] h))/\
 (((w.alloc (.cells #[a,b] c)).alloc (.cells #[d,e,f] g)).alloc (.cells #[A5,A5,A0 0,A0 0,A0 0] h)).heap.size=w.heap.size+3:=by
 refine⟨((Ad.new w a b c).A1 (AB _ _)).A1 (AB _ _),?_,?_,A9 (A9 (AB _ _) (AB _ _)) (AB _ _),by simp⟩
 ·have:=(CZ.new (w.alloc (.cells #[a,b] c)) d e f g).A1 (AB _ (.cells #[A5,A5,A0 0,A0 0,A0 0] h));rw[World.size_alloc]at this;exact this
 ·have:=Du.new ((w.alloc (.cells #[a,b] c)).alloc (.cells #[d,e,f] g)) (A5) (A5) (A0 0) (A0 0) (A0 0) h;rw[World.size_alloc,World.size_alloc]at this;exact this
theorem ZQ(v0 v1 kv:Value)(lo hi lo' hi':Nat)(p:A7)(s:AH)(w:World)(h1:CD w lo hi v0 v1 p)(h2:CU w lo' hi' (A0 s.birth) kv (.string s.data) s)(hn:Ap p+Ce s<=1048576) :
 Calls Tryz.prog 78 #[.agg #[v0,v1],.agg #[A0 s.birth,kv,.string s.data]] w (PT (Bv p s) w):=by
 have Hp:=AT h1;have Hs:=AT h2;have Hn:=AT hn;obtain⟨a,c,a',c',rfl,rfl⟩:=h1.form;obtain⟨ka,kc,rfl⟩:=h2.form;have aC:s.kn<=1048576:=by unfold Ce at hn;omega
 have bC:p.n<=1048576:=by unfold Ap at hn;omega
 have S:=zHO w (.slice a p.n c) (.slice a' p.hn c') (A0 s.birth) (.slice ka s.kn kc) (.string s.data) 26 94 117;clear h1 h2 hn;go_enter Tryz.func78,Tryz.ntmps78;go_wp2_with fail;generalize ((w.alloc (.cells #[.slice a p.n c,.slice a' p.hn c'] 26)).alloc (.cells #[A0 s.birth,.slice ka s.kn kc,.string s.data] 94)).alloc (.cells #[A5,A5,A0 0,A0 0,A0 0] 117)=W at S ⊢;obtain⟨hB,hX,hR,J,hz⟩:=S;refine(MR _ _ lo hi p _ (Hp.out.A1 J)).mono ?_;rintro e w1 ⟨⟨t,rfl,j⟩,q⟩;have M:=AT (hB.A1 q);have G:=AT (hX.A1 q);have B:=AT (hR.A1 q);have E:=A9 J q;have gB:w.heap.size+3<=w1.heap.size:=by have:=q.size;omega
 clear hB hX hR J q hz;by_cases o:AZ p
 ·have D:=AT o;obtain rfl:t=true:=j.2 o;clear j o;obtain⟨⟨y0,y1⟩,⟨y2,y3⟩,⟨y4,y5⟩⟩:=G.out;go_wp2_with fail;refine(Kr _ _ _ lo' hi' s _ (Hs.out.A1 E)).mono ?_;rintro e w2 ⟨⟨t,rfl,j⟩,r⟩;have F:=AT (M.out.A1 r);have H:=AT (G.out.A1 r);have C:=AT (B.out.A1 r);have y:=A9 E r;have iB:w.heap.size+3<=w2.heap.size:=(by have:=r.size;omega);clear r E M G B gB y0 y1 y2 y3 y4 y5;by_cases hF:Ah s
  ·have Y:=AT hF;obtain rfl:t=true:=j.2 hF;clear j hF;obtain⟨⟨u0,u1⟩,⟨u2,u3⟩,⟨u4,u5⟩,⟨u6,u7⟩,⟨u8,u9⟩⟩:=C.out;go_wp2;have b:=C.out.put (A5) (A5) (A0 0) (A0 0) (A0 1);have d:=Jh (R:=w.heap.size+1+1) (u2:=A0 0) (u3:=A0 0) (u4:=A0 1) (by omega) y;rw[Qu (fun h=>h.2.1 Y.out)];exact bodyPost_ret (v:=.agg #[A5,A5,A0 0,A0 0,A0 1]) (by simp[results,Tryz.results78,go_sem,b.1.1,b.2.1.1,b.2.2.1.1,b.2.2.2.1.1,b.2.2.2.2.1]) rfl ⟨_,_,rfl,d.1,d.2⟩
  ·have Y:=AT hF;obtain rfl:t=false:=BQ j hF;clear j hF;obtain⟨⟨T,U⟩,⟨V,X⟩⟩:=F.out;obtain⟨⟨y0,y1⟩,⟨y2,y3⟩,⟨y4,y5⟩⟩:=H.out;go_wp2_with fail;refine(Z4 _ _ _ _ p.n lo hi lo' hi' p.s s _ (Hp.out.1.A1 y) (Hs.out.A1 y)).mono ?_;rintro e w3 ⟨⟨t,rfl,j⟩,u⟩;rw[zCQ D.out Y.out]at j;have A:=AT (F.out.A1 u);have I:=AT (H.out.A1 u);have k:=AT (C.out.A1 u);have m:=A9 y u;have jB:w.heap.size+3<=w3.heap.size:=(by have:=u.size;omega);clear u y F H C iB T U V X y0 y1 y2 y3 y4 y5;by_cases L:C5 p s
   ·have Z:=AT (And.intro D.out (And.intro Y.out L));obtain rfl:t=true:=j.2 L;clear j L;obtain⟨⟨T,U⟩,⟨V,X⟩⟩:=A.out;go_wp2_with fail;refine(zCX _ p.n lo hi p.s _ (Hp.out.1.A1 m)).mono ?_;rintro e w4 ⟨⟨i,Q,rfl⟩ | ⟨fB,rfl⟩,g⟩
    ·have N:=AT (A.out.A1 g);have O:=AT (I.out.A1 g);have l:=AT (k.out.A1 g);have z:=A9 m g;have dC:w.heap.size+3<=w4.heap.size:=(by have:=g.size;omega);have Hi:=AT Q;have vB:¬(i:Int)<0:=(by omega);clear g A I k m T U V X jB Q;obtain⟨⟨T,U⟩,⟨V,X⟩⟩:=N.out;obtain⟨⟨y0,y1⟩,⟨y2,y3⟩,⟨y4,y5⟩⟩:=O.out;obtain⟨⟨u0,u1⟩,⟨u2,u3⟩,⟨u4,u5⟩,⟨u6,u7⟩,⟨u8,u9⟩⟩:=l.out;have n0:w.heap.size+1+1≠w.heap.size:=(by omega);have n1:w.heap.size+1+1≠w.heap.size+1:=(by omega);go_wp2_with fail;go_region_held3 (fun w'=>w'.cell? ⟨w.heap.size,0,none⟩=some (.slice a p.n c)/\w'.cell? ⟨w.heap.size,1,none⟩=some (.slice a' p.hn c')/\w'.cell? ⟨w.heap.size+1,0,none⟩=some (A0 s.birth)/\w'.cell? ⟨w.heap.size+1,1,none⟩=some (.slice ka s.kn kc)/\w'.cell? ⟨w.heap.size+1,2,none⟩=some (.string s.data)) (go_keep)
      (first
       | (go_at_call 139;refine(zBj _ _ _ lo hi lo' hi' i p s _ ?_ ?_ Hi.out.1 Hn.out).mono ?_;(exact Hp.out.A1 z.drew);(exact Hs.out.A1 z.drew);rintro e w5 ⟨s0,s1,rfl,K,P⟩;obtain⟨a5,c5,a6,c6,rfl,rfl⟩:=K.form;have f:=Cp P;obtain⟨⟨p0,p1⟩,⟨p2,p3⟩⟩:=N.out.A1 f;obtain⟨⟨p4,p5⟩,⟨p6,p7⟩,⟨p8,p9⟩⟩:=O.out.A1 f;obtain⟨⟨r0,r1⟩,⟨r2,r3⟩,⟨r4,r5⟩,⟨r6,r7⟩,⟨r8,r9⟩⟩:=l.out.A1 f))
     have pA:Hid (Bq w5 w4.heap.size w5.heap.size (.slice a5 (Au p i s).n c5) (.slice a6 (Au p i s).hn c6) (Au p i s)):=K;have oA:=AT (l.out.A1 f);have eB:=A9 z f;clear K P f;go_wp2;have x:=oA.out.put (.slice a5 (Au p i s).n c5) (.slice a6 (Au p i s).hn c6) (A0 (i:Int)) (A0 s.birth) (A0 0);have d:=NV (R:=w.heap.size+1+1) (u2:=A0 (i:Int)) (u3:=A0 s.birth) (u4:=A0 0) pA.out (by omega) (by omega) (Nat.le_refl _) eB;rw[KS Z.out Hi.out];exact bodyPost_ret (v:=.agg #[.slice a5 (Au p i s).n c5,.slice a6 (Au p i s).hn c6,A0 (i:Int),A0 s.birth,A0 0]) (by simp[results,Tryz.results78,go_sem,x.1.1,x.2.1.1,x.2.2.1.1,x.2.2.2.1.1,x.2.2.2.2.1]) rfl ⟨_,_,rfl,d.1,d.2⟩
    ·have l:=AT (k.out.A1 g);have z:=A9 m g;clear g A I k m T U V X;obtain⟨⟨u0,u1⟩,⟨u2,u3⟩,⟨u4,u5⟩,⟨u6,u7⟩,⟨u8,u9⟩⟩:=l.out;go_wp2;have b:=l.out.put (A5) (A5) (A0 0) (A0 0) (A0 6);have d:=Jh (R:=w.heap.size+1+1) (u2:=A0 0) (u3:=A0 0) (u4:=A0 6) (by omega) z;rw[Ko Z.out fB];exact bodyPost_ret (v:=.agg #[A5,A5,A0 0,A0 0,A0 6]) (by simp[results,Tryz.results78,go_sem,b.1.1,b.2.1.1,b.2.2.1.1,b.2.2.2.1.1,b.2.2.2.2.1]) rfl ⟨_,_,rfl,d.1,d.2⟩
   ·have Z:=AT L;obtain rfl:t=false:=BQ j L;clear j L;obtain⟨⟨u0,u1⟩,⟨u2,u3⟩,⟨u4,u5⟩,⟨u6,u7⟩,⟨u8,u9⟩⟩:=k.out;go_wp2;have b:=k.out.put (A5) (A5) (A0 0) (A0 0) (A0 1);have d:=Jh (R:=w.heap.size+1+1) (u2:=A0 0) (u3:=A0 0) (u4:=A0 1) (by omega) m;rw[Qu (fun h=>Z.out h.2.2)];exact bodyPost_ret (v:=.agg #[A5,A5,A0 0,A0 0,A0 1]) (by simp[results,Tryz.results78,go_sem,b.1.1,b.2.1.1,b.2.2.1.1,b.2.2.2.1.1,b.2.2.2.2.1]) rfl ⟨_,_,rfl,d.1,d.2⟩
 ·have D:=AT o;obtain rfl:t=false:=BQ j o;clear j o;obtain⟨⟨u0,u1⟩,⟨u2,u3⟩,⟨u4,u5⟩,⟨u6,u7⟩,⟨u8,u9⟩⟩:=B.out;go_wp2;have b:=B.out.put (A5) (A5) (A0 0) (A0 0) (A0 1);have d:=Jh (R:=w.heap.size+1+1) (u2:=A0 0) (u3:=A0 0) (u4:=A0 1) (by omega) E;rw[Qu (fun h=>D.out h.1)];exact bodyPost_ret (v:=.agg #[A5,A5,A0 0,A0 0,A0 1]) (by simp[results,Tryz.results78,go_sem,b.1.1,b.2.1.1,b.2.2.1.1,b.2.2.2.1.1,b.2.2.2.2.1]) rfl ⟨_,_,rfl,d.1,d.2⟩
end Go.Proofs.YtddigaohmfpepaaGreatDoor
