/- A part of the proof. -/
import Derived.Test.YtibhefllijahkaaGreatDoorF10
import Derived.Deep.RegionLawGrows
import Derived.Scope
import Derived.WalkMore
import Derived.Deep.MidRow
set_option linter.unusedVariables false
set_option maxRecDepth 20000
set_option maxHeartbeats 4000000
namespace Go.Proofs.YtibhefllijahkaaGreatDoor
noncomputable section
open Go.RowKit
theorem zCr(T v1:Value)(lo hi:Nat)(p:A8)(xs xb:Int)(w:World)(I:EE w lo hi T v1 p)(V:Ag p) :
 Calls Tryz.prog 125 #[.agg #[T,v1],.agg #[.int .i64 xs,.int .i64 xb]] w fun e w'=>AG (Px p xs xb) e/\Below w.heap.size w w':=by
 have u:=Aq I;have H:=Aq V;obtain⟨a,c,z,c',rfl,rfl⟩:∃a c z c',T = .slice a p.n c/\v1 = .slice z p.hn c':=by
  obtain⟨⟨_,a,c,I,_⟩,⟨_,z,c',h3,_⟩⟩:=I;exact⟨a,c,z,c',I,h3⟩
 clear I V;have F:=zHy w (.slice a p.n c) (.slice z p.hn c') (.int .i64 xs) (.int .i64 xb) 26 38;by_cases hn:Nil xs xb
 · have N:=Aq hn
   obtain⟨rfl,rfl⟩:=hn;obtain⟨_,_,b,_⟩:=F;go_enter Tryz.func125,Tryz.ntmps125;go_wp2;go_ret;exact⟨AG.yes (Or.inl N.out),b⟩
 · have N:=Aq hn
   have e0:=P2 hn;clear hn;have m:Hid (∀t:Bool,(t=true↔BM p xs xb/\NN p (p.s xs.toNat)/\S9 p (AF p xs xb))->AG (Px p xs xb) (.returned (.bool t))):=fun t ht=>⟨t,rfl,ht.trans ⟨fun h=>Or.inr h,fun h=>h.resolve_left N.out⟩⟩
   go_enter Tryz.func125,Tryz.ntmps125;go_upto_region 1 with fail;generalize (w.alloc (.cells #[.slice a p.n c,.slice z p.hn c'] 26)).alloc (.cells #[.int .i64 xs,.int .i64 xb] 38)=W at F ⊢;obtain⟨U,X,b,hz⟩:=F;have C:=Aq U;have y:=Aq X;clear U X
   go_cut [7] (fun v wc=>v = .bool false/\W=wc)
   case first=>
    obtain⟨⟨y0,y1⟩,⟨y2,y3⟩⟩:=y.out;rcases e0 with e0 | ⟨e0,e1⟩
    all_goals
     go_wp2_with fail
     go_meet
     case rel=>exact⟨rfl,rfl⟩
   case rest=>
    obtain⟨rfl,rfl⟩:=hcut;clear e0;obtain⟨⟨x0,x1⟩,⟨x2,x3⟩⟩:=C.out;obtain⟨⟨y0,y1⟩,⟨y2,y3⟩⟩:=y.out;go_upto_region 3 with fail;by_cases M:BM p xs xb
    · have x:=Aq M
      clear M;by_cases B:NN p (p.s xs.toNat)
      · have l:=Aq B
        clear B;go_region_held3 (fun w'=>w'.cell? ⟨w.heap.size,0,none⟩=some (.slice a p.n c)/\w'.cell? ⟨w.heap.size,1,none⟩=some (.slice z p.hn c')/\w'.cell? ⟨w.heap.size+1,0,none⟩=some (.int .i64 xs)/\w'.cell? ⟨w.heap.size+1,1,none⟩=some (.int .i64 xb)) (go_keep)
         (first
           | (go_at_call 166
              refine(R8 _ p.n lo hi p.s xs xb _ ?_).mono ?_
              (first | exact u.out.1.A0 b | exact u.out.1.A0 b.drew)
              rintro e L ⟨⟨J,rfl,g⟩,k⟩;rw[R9 H.out]at g;obtain rfl:J=true:=g.2 x.out;clear g;have d:Below W.heap.size W L:=(by first | exact k | exact Cp k);obtain⟨⟨Y,_⟩,⟨Z,_⟩⟩:=C.out.A0 d;obtain⟨⟨k2,_⟩,⟨k3,_⟩⟩:=y.out.A0 d)
           | (go_at_call 167
              refine(Y4 p H.out _ lo hi xs xb _ ?_ x.out).mono ?_;exact u.out.1.A0 (A7 b d);rintro e w2 ⟨⟨R,rfl,r⟩,E⟩;obtain rfl:R=true:=r.2 l.out;clear r;have j:=A7 d E;obtain⟨⟨l0,_⟩,⟨l1,_⟩⟩:=C.out.A0 j;obtain⟨⟨l2,_⟩,⟨l3,_⟩⟩:=y.out.A0 j)
           | (go_at_call 169
              refine(XK p H.out _ lo hi xs xb _ ?_ (Or.inr x.out)).mono ?_;exact u.out.1.A0 (A7 b j);rintro e w3 ⟨v3,rfl,q,O⟩;obtain⟨na,nc,rfl,_⟩:=CV q;have A:=A7 j O;have Q:=zGb (by have:=De p xs xb;unfold maxLen;omega) q;obtain⟨⟨m0,_⟩,⟨m1,_⟩⟩:=C.out.A0 A;obtain⟨⟨m2,_⟩,⟨m3,_⟩⟩:=y.out.A0 A)
           | (go_at_call 168
              refine(zi _ _ _ lo hi 0 w3.heap.size _ p _ _ _ ?_ Q).mono ?_;exact u.out.A0 (A7 b A);rintro e w4 ⟨⟨t4,rfl,G⟩,P⟩;rw[zAX]at G;have D:=A7 A P;obtain⟨⟨n0,_⟩,⟨n1,_⟩⟩:=C.out.A0 D;obtain⟨⟨n2,_⟩,⟨n3,_⟩⟩:=y.out.A0 D))
        have o:=A7 b D;have HT:=Aq G;clear G;go_wp2;go_ret;exact⟨m.out t4 (HT.out.trans ⟨fun h=>⟨x.out,l.out,h⟩,fun h=>h.2.2⟩),o⟩
      · have l:=Aq B
        clear B;refine wp_region_held_drew (S:=(fun w'=>w'.cell? ⟨w.heap.size,0,none⟩=some (.slice a p.n c)/\w'.cell? ⟨w.heap.size,1,none⟩=some (.slice z p.hn c')/\w'.cell? ⟨w.heap.size+1,0,none⟩=some (.int .i64 xs)/\w'.cell? ⟨w.heap.size+1,1,none⟩=some (.int .i64 xb))) (by kernel_rfl) ?_ (fun hHeld=>?_)
        · (try dsimp only)
          go_keep
        refine tk 0 (h:=tk 1 (h:=tk 2 (h:=?_)));refine rd [3] (rc (fun K hK=>?_) .nil);go_simp;go_at_call 166;refine(R8 _ p.n lo hi p.s xs xb _ ?_).mono ?_
        · first | exact u.out.1.A0 b | exact u.out.1.A0 b.drew
        rintro e L ⟨⟨J,rfl,g⟩,k⟩;rw[R9 H.out]at g;obtain rfl:J=true:=g.2 x.out;clear g;have d:Below W.heap.size W L:=(by first | exact k | exact Cp k);obtain⟨⟨Y,_⟩,⟨Z,_⟩⟩:=C.out.A0 d;obtain⟨⟨k2,_⟩,⟨k3,_⟩⟩:=y.out.A0 d
        (try go_wp2_with fail)
        refine hK.out _ _ (by(try dsimp only);go_keep) ?_;clear hK K hHeld;intro hHeld
        try simp only[Act.put,s1,s2,s3]
        refine tk 4 (h:=tk 5 (h:=tk 6 (h:=tk 7 (h:=?_))));refine rd [8] (rc (fun K hK=>?_) .nil);go_simp;go_at_call 167;refine(Y4 p H.out _ lo hi xs xb _ ?_ x.out).mono ?_
        · exact u.out.1.A0 (A7 b d)
        rintro e w2 ⟨⟨R,rfl,r⟩,E⟩;obtain rfl:R=false:=Bc r l.out;clear r;have j:=A7 d E;obtain⟨⟨l0,_⟩,⟨l1,_⟩⟩:=C.out.A0 j;obtain⟨⟨l2,_⟩,⟨l3,_⟩⟩:=y.out.A0 j
        (try go_wp2_with fail)
        refine hK.out _ _ (by(try dsimp only);go_keep) ?_;clear hK K hHeld;intro hHeld
        try simp only[Act.put,s1,s2,s3]
        refine tk 9 (h:=tk 10 (h:=ts 11 (h:=ts 12 (h:=ts 13 (h:=ts 14 (h:=?_))))));refine rd [15] (rc (fun K hK=>?_) .nil);split
        · rename_i i
          exact absurd (show false=true from i) Bool.false_ne_true
        refine hK.out _ _ (by assumption) (fun hHeld=>?_);clear hK K
        try simp only[Act.put,s1,s2,s3]
        refine rd [16] (rc (fun K hK=>?_) .nil);split
        · rename_i i
          exact absurd (show false=true from i) Bool.false_ne_true
        refine hK.out _ _ (by assumption) (fun hHeld=>?_);clear hK K
        try simp only[Act.put,s1,s2,s3]
        refine tk 17 (h:=tk 18 (h:=?_));refine wpAnyH_done (by kernel_rfl) ?_ _;have o:=A7 b j;go_wp2;go_ret;exact⟨m.out false ⟨fun h=>(by cases h),fun h=>absurd h.2.1 l.out⟩,o⟩
    · have x:=Aq M
      clear M;refine wp_region_held_drew (S:=(fun w'=>w'.cell? ⟨w.heap.size,0,none⟩=some (.slice a p.n c)/\w'.cell? ⟨w.heap.size,1,none⟩=some (.slice z p.hn c')/\w'.cell? ⟨w.heap.size+1,0,none⟩=some (.int .i64 xs)/\w'.cell? ⟨w.heap.size+1,1,none⟩=some (.int .i64 xb))) (by kernel_rfl) ?_ (fun hHeld=>?_)
      · (try dsimp only)
        go_keep
      refine tk 0 (h:=tk 1 (h:=tk 2 (h:=?_)));refine rd [3] (rc (fun K hK=>?_) .nil);go_simp;go_at_call 166;refine(R8 _ p.n lo hi p.s xs xb _ ?_).mono ?_
      · first | exact u.out.1.A0 b | exact u.out.1.A0 b.drew
      rintro e L ⟨⟨J,rfl,g⟩,k⟩;rw[R9 H.out]at g;obtain rfl:J=false:=Bc g x.out;clear g;have d:Below W.heap.size W L:=(by first | exact k | exact Cp k);obtain⟨⟨Y,_⟩,⟨Z,_⟩⟩:=C.out.A0 d;obtain⟨⟨k2,_⟩,⟨k3,_⟩⟩:=y.out.A0 d
      (try go_wp2_with fail)
      refine hK.out _ _ (by(try dsimp only);go_keep) ?_;clear hK K hHeld;intro hHeld
      try simp only[Act.put,s1,s2,s3]
      refine tk 4 (h:=ts 5 (h:=ts 6 (h:=ts 7 (h:=?_))));refine rd [8] (rc (fun K hK=>?_) .nil);split
      · rename_i i
        exact absurd (show false=true from i) Bool.false_ne_true
      refine hK.out _ _ (by assumption) (fun hHeld=>?_);clear hK K
      try simp only[Act.put,s1,s2,s3]
      refine tk 9 (h:=tk 10 (h:=ts 11 (h:=ts 12 (h:=ts 13 (h:=ts 14 (h:=?_))))));refine rd [15] (rc (fun K hK=>?_) .nil);split
      · rename_i i
        exact absurd (show false=true from i) Bool.false_ne_true
      refine hK.out _ _ (by assumption) (fun hHeld=>?_);clear hK K
      try simp only[Act.put,s1,s2,s3]
      refine rd [16] (rc (fun K hK=>?_) .nil);split
      · rename_i i
        exact absurd (show false=true from i) Bool.false_ne_true
      refine hK.out _ _ (by assumption) (fun hHeld=>?_);clear hK K
      try simp only[Act.put,s1,s2,s3]
      refine tk 17 (h:=tk 18 (h:=?_));refine wpAnyH_done (by kernel_rfl) ?_ _;have o:=A7 b d;go_wp2;go_ret;exact⟨m.out false ⟨fun h=>(by cases h),fun h=>absurd h.1 x.out⟩,o⟩
def Du(p:A8)(rs:Int)(s:AD)(j:Nat):List Int:=rs :: E6 (Ci p s j)
def E9(p:A8)(rs:Int)(s:AD)(j i:Nat):List Int:=Du p rs s j ++ (AK s j :: E6 (kidsUp (AK (p.s (AK s j).toNat)) (AW (p.s (AK s j).toNat)) i))
theorem Xj(p:A8)(s:AD)(j:Nat):∀m,j<=m->∃r,Ci p s m=Ci p s j ++ r
 | 0,h=>⟨[],by rw[show j=0 by omega];simp⟩
 | m+1,h=>by
  by_cases e:j=m+1
  ·subst e;exact⟨[],by simp⟩
  ·obtain⟨r,a⟩:=Xj p s j m (by omega);exact⟨r ++ DV p (AK s m) (AW s m),by rw[Ci,a,List.append_assoc]⟩
theorem Z2(b a:Nat->Int)(j:Nat):∀m,j<=m->∃r,kidsUp b a m=kidsUp b a j ++ r
 | 0,h=>⟨[],by rw[show j=0 by omega];simp⟩
 | m+1,h=>by
  by_cases e:j=m+1
  ·subst e;exact⟨[],by simp⟩
  ·obtain⟨r,c⟩:=Z2 b a j m (by omega);exact⟨r ++ one (b m) (a m),by rw[kidsUp,c,List.append_assoc]⟩
theorem Ox(l m:List (Int×Int)):E6 (l ++ m)=E6 l ++ E6 m:=by simp[E6]
theorem Of{l:List Int}{x:Int}:(l ++ [x]).Nodup↔l.Nodup/\x∉l:=by
 rw[List.nodup_append];constructor
 ·rintro⟨c,_,h⟩;exact⟨c,fun j=>h x j x (by simp) rfl⟩
 ·rintro⟨c,g⟩;refine⟨c,by simp,fun a i b d e=>?_⟩;rw[List.mem_singleton]at d;subst d;subst e;exact g i
variable{p:A8}{rs:Int}
theorem Rc{rb:Int}(a:¬Nil rs rb):E6 (AF p rs rb)=Du p rs (p.s rs.toNat) 8:=by
 unfold AF Du;rw[if_neg a];rfl
variable{s:AD}{j:Nat}
theorem zG0(hn:¬Nil (AK s j) (AW s j)):DV p (AK s j) (AW s j)=(AK s j,AW s j) :: Gp (p.s (AK s j).toNat):=if_neg hn
theorem XR(hn:¬Nil (AK s j) (AW s j)):Du p rs s (j+1)=E9 p rs s j 8:=by
 unfold Du E9 Du;rw[Ci,Ox,zG0 hn];rfl
theorem zEc(hn:Nil (AK s j) (AW s j)):Du p rs s (j+1)=Du p rs s j:=by
 unfold Du;rw[Ci,show DV p (AK s j) (AW s j) = [] from if_pos hn,List.append_nil]
theorem XE(p:A8)(rs:Int)(s:AD)(j:Nat):E9 p rs s j 0=Du p rs s j ++ [AK s j]:=rfl
variable{i:Nat}
theorem zG2(hn:Nil (AK (p.s (AK s j).toNat) i) (AW (p.s (AK s j).toNat) i)):E9 p rs s j (i+1)=E9 p rs s j i:=by
 unfold E9;rw[kidsUp,show one (AK (p.s (AK s j).toNat) i) (AW (p.s (AK s j).toNat) i) = [] from if_pos hn,List.append_nil]
theorem zG1(hn:¬Nil (AK (p.s (AK s j).toNat) i) (AW (p.s (AK s j).toNat) i)):E9 p rs s j (i+1)=E9 p rs s j i ++ [AK (p.s (AK s j).toNat) i]:=by
 unfold E9;rw[kidsUp,show one (AK (p.s (AK s j).toNat) i) (AW (p.s (AK s j).toNat) i) = [(AK (p.s (AK s j).toNat) i,AW (p.s (AK s j).toNat) i)] from if_neg hn,Ox,List.append_assoc];rfl
theorem UM(p:A8)(rs:Int)(s:AD)(a:j<=8):(Du p rs s j).length<=73:=by
 have:=OR p s j;simp only[Du,E6,List.length_cons,List.length_map];omega
theorem zHk(p:A8)(rs:Int)(s:AD)(a:j<=8)(hi:i<=8):(E9 p rs s j i).length<=90:=by
 have b:=UM p rs s a;have c:=J9 (AK (p.s (AK s j).toNat)) (AW (p.s (AK s j).toNat)) i;simp only[E9,E6,List.length_append,List.length_cons,List.length_map];omega
theorem zEI{rb:Int}(e:¬Nil rs rb)(h:(E6 (AF p rs rb)).Nodup)(k:j<8)(hi:i<=8)(hn:¬Nil (AK (p.s rs.toNat) j) (AW (p.s rs.toNat) j)):(E9 p rs (p.s rs.toNat) j i).Nodup:=by
 rw[Rc e]at h;obtain⟨r,d⟩:=Xj p (p.s rs.toNat) (j+1) 8 (by omega);obtain⟨g,a⟩:=Z2 (AK (p.s (AK (p.s rs.toNat) j).toNat)) (AW (p.s (AK (p.s rs.toNat) j).toNat)) i 8 hi;have b:Du p rs (p.s rs.toNat) 8=Du p rs (p.s rs.toNat) (j+1) ++ E6 r:=by unfold Du;rw[d,Ox];rfl
 have c:E9 p rs (p.s rs.toNat) j 8=E9 p rs (p.s rs.toNat) j i ++ E6 g:=by
  unfold E9;rw[a,Ox,List.append_assoc];rfl
 rw[b,XR hn,c,List.append_assoc]at h;exact(List.nodup_append.1 h).1
def Ds(p:A8)(xs xb:Int)(i:Nat):Int:=if Nil xs xb then 0 else AK (p.s xs.toNat) i
def Dr(p:A8)(xs xb:Int)(i:Nat):Int:=if Nil xs xb then 0 else AW (p.s xs.toNat) i
def Jf(p:A8)(xs xb:Int):Prop:=Nil xs xb\/(BM p xs xb/\(p.s xs.toNat).kn=8)
variable{xs xb:Int}
theorem Pc(h:BN p xs xb):Jf p xs xb:=by
 rcases h.2 with a | a
 ·exact Or.inl a
 ·right;refine⟨a.1.1,?_⟩;rcases Qq h.1 a.1.1 with b | b
  ·have:=a.1.2.1;omega
  ·exact b
theorem Pu(h:BN p xs xb)(d:j<8):Jf p (Ds p xs xb j) (Dr p xs xb j):=by
 by_cases b:Nil xs xb
 ·left;unfold Ds Dr;rw[if_pos b,if_pos b];exact⟨rfl,rfl⟩
 ·unfold Ds Dr;rw[if_neg b,if_neg b];rcases(h.2.resolve_left b).2.1.1 j d with a | a
  ·exact Or.inl a
  ·right;refine⟨a.1.1,?_⟩;rcases Qq h.1 a.1.1 with c | c
   ·have:=a.1.2.1;omega
   ·exact c
def Ca(p:A8)(xs xb:Int)(n:Nat):Int:=Ds p xs xb (n / 8)
def D9(p:A8)(xs xb:Int)(n:Nat):Int:=Dr p xs xb (n / 8)
def CT(p:A8)(xs xb:Int)(n:Nat):Int:=Ds p (Ca p xs xb n) (D9 p xs xb n) (n % 8)
def Cb(p:A8)(xs xb:Int)(n:Nat):Int:=Dr p (Ca p xs xb n) (D9 p xs xb n) (n % 8)
def CN(rb birth:Int):Prop:=Df birth/\rb<=birth
theorem zF9{birth:Int}(h:BN p xs xb):((∀i,i<(AF p xs xb).length->¬birth<AS (AF p xs xb) i)/\Df birth)↔CN xb birth:=by
 constructor
 ·rintro⟨b,c⟩;refine⟨c,?_⟩;by_cases a:Nil xs xb
  ·rw[a.2];have:=c.1;omega
  ·have e:AF p xs xb=(xs,xb) :: Ci p (p.s xs.toNat) 8:=if_neg a;have:=b 0 (by rw[e];simp);rw[e]at this;have d:AS ((xs,xb) :: Ci p (p.s xs.toNat) 8) 0=xb:=rfl;rw[d]at this;omega
 ·rintro⟨b,c⟩;refine⟨fun i hi g=>?_,b⟩;by_cases a:Nil xs xb
  ·have e:AF p xs xb = []:=if_pos a;rw[e]at hi;simp at hi
  ·have j:(AO (AF p xs xb) i,AS (AF p xs xb) i)∈AF p xs xb:=by
    have:(AO (AF p xs xb) i,AS (AF p xs xb) i)=(AF p xs xb)[i]:=by
     unfold AO AS;rw[List.getD_eq_getElem?_getD,List.getElem?_eq_getElem hi,Option.getD_some]
    rw[this];exact List.getElem_mem hi
   have:=(Ou h.1 (h.2.resolve_left a).1.1 _ j).2;have e:(AO (AF p xs xb) i,AS (AF p xs xb) i).2=AS (AF p xs xb) i:=rfl;omega
theorem Yc{p:A8}(h:∀i,i<p.n->An (p.s i)\/CD p (p.s i)):∀k,k<=p.n->Cl p.s k<=24*k
 | 0,_=>Nat.le_refl _
 | k+1,hk=>by
  have g:=Yc h k (by omega);have hs:Cu (p.s k)<=24:=by
   unfold Cu;rcases h k (by omega)with a | a
   ·have c:=a.2.1;have b:(p.s k).data.size=0:=by
     have:=a.2.2;rw[Go.ByteArray.toList_eq]at this;have e:(p.s k).data.data=#[]:=(by simpa using this);show(p.s k).data.data.size=0;rw[e];rfl
    omega
   ·rcases a.2 with b | b
    ·omega
    ·have d:(p.s k).data.size=0:=by
      have:=b.2.1;rw[Go.ByteArray.toList_eq]at this;have e:(p.s k).data.data=#[]:=(by simpa using this);show(p.s k).data.data.size=0;rw[e];rfl
     omega
  show Cl p.s k+Cu (p.s k)<=_;omega
theorem Oq(h:Ag p):Az p<=10000:=by
 have a:=Yc h.2.1 p.n (Nat.le_refl _);have b:=((MU p).2 h).2.1;have c:=h.1;unfold Az;omega
theorem zCT(v:Value)(n lo hi:Nat)(f g:Nat->Int)(w:World)(R:B4 w lo hi v n f g)(hn:n<=1048576) :
 Calls Tryz.prog 106 #[v] w fun e w'=>(∃s r,e = .returned s/\CI w' r s n f g/\(0<n->w.heap.size<=r/\r<w'.heap.size))/\Below w.heap.size w w':=by
 obtain⟨N,a,c,rfl,W,I⟩:=R;have G:Hid (0<n->∃b off,a=some ⟨b,off,none⟩/\lo<=b/\b<hi/\∀i,i<n->w.cell? ⟨b,off+i*2,none⟩=some (.int .i64 (f i))/\w.cell? ⟨b,off+i*2+1,none⟩=some (.int .i64 (g i))):=I;have O:Hid (n<=maxLen):=N;clear I N;have U:=fun w=>Lib.run_eql_slice_nil (P:=Tryz.prog) w 39 38 a n c 0 0 (by kernel_rfl)
 cases a with
 | none=>
  have F:n=0:=by
   by_cases h:0<n
   ·obtain⟨b,off,C,_⟩:=G.out h;simp at C
   ·omega
  subst F;go_enter Tryz.func106,Tryz.ntmps106;go_wp2;go_ret;exact⟨⟨_,0,rfl,⟨Nat.zero_le _,none,0,rfl,Nat.le_refl _,fun h=>absurd h (Nat.lt_irrefl _)⟩,fun h=>absurd h (Nat.lt_irrefl _)⟩,Below.refl _ _⟩
 | some ad=>
  obtain⟨i0,hi,A⟩:=Option.map_eq_some_iff.1 Qg;simp only[Prod.mk.injEq]at A;obtain⟨M,hs,y⟩:=A;have p:∀(w':World),Below w.heap.size w w'->∀j u,(kc f g n)[j]?=some u->w'.cell? (ad.add j)=some u:=fun w' S j u J=>by
   by_cases Q:0<n
   ·obtain⟨b,off,C,_,_,T⟩:=G.out Q;simp only[Option.some.injEq]at C;subst C;have:=VA T j u J;have x:(⟨b,off,none⟩:Addr).add j=⟨b,off+j,none⟩:=(by unfold Addr.add;split<;>simp_all);rw[x]at this ⊢;exact(S.cell (AZ this)).trans this
   ·obtain rfl:n=0:=(by omega);simp[kc]at J
  have t:Hid (∀(w':World),Below w.heap.size w w'->∀j u,(kc f g n)[j]?=some u->w'.cell? (ad.add j)=some u):=p;have B:Hid (Tryz.prog.info? 38=some i0/\i0.zero=some (.agg #[.int .i64 0,.int .i64 0])/\i0.size=2/\i0.bytes=16):=⟨hi,M,hs,y⟩;have m:(w.alloc (.cells #[] 38)).ownsRow w.heap.size 38 2 (.slice (some ⟨w.heap.size,0,none⟩) 0 0) 0 []:=World.ownsRow_made w #[] 0 (Nat.le_refl _) (Nat.zero_le _) (by simp);have d:Hid ((w.alloc (.cells #[] 38)).ownsRow w.heap.size 38 2 (.slice (some ⟨w.heap.size,0,none⟩) 0 0) 0 []):=m;clear hi M hs y p m;go_enter Tryz.func106,Tryz.ntmps106;go_wp2_with (first
   | (at_builtin;refine wpList_append_own _ rfl _ _ 39 rfl w.heap.size 38 i0 (.agg #[.int .i64 0,.int .i64 0]) 2 16 (by kernel_rfl) B.out.1 B.out.2.1 B.out.2.2.1 B.out.2.2.2 rfl (by decide) _ _ _ rfl d.out ad n c (kc f g n) rfl (KZ f g n) ?c1 (Zw f g n) ?c3 ?c4 ?c5 ?_))
  case c1=>exact t.out _ ((Below.refl _ _).alloc (Nat.le_refl _) _)
  case c3=>unfold maxLen;omega
  case c4=>omega
  case c5=>simp
  intro s D l k z;have E:Below w.heap.size w D:=((Below.refl _ _).alloc (Nat.le_refl _) _).grown k (by simp) (fun q V=>by have:=d.out.lt q V;omega);have o:D.ownsRow w.heap.size 38 2 s n (kc f g n):=(by simpa using l);obtain⟨r,L,K⟩:=ZC O.out o;have H:Hid (CI D r s n f g/\(0<n->w.heap.size<=r/\r<D.heap.size)):=⟨L,K⟩;clear L K l o k z;go_wp2;go_ret;exact⟨⟨s,r,rfl,H.out.1,H.out.2⟩,E⟩
theorem zCU(u v1 x:Value)(lo hi:Nat)(s:AD)(w:World)(z:Cx w lo hi u v1 x s)(hn:s.kn<=1048576) :
 Calls Tryz.prog 199 #[.agg #[u,v1,x]] w (zGL s w):=by
 obtain⟨rfl,t,rfl,B⟩:=z;have q1:=t;obtain⟨_,a,c,rfl,_⟩:=t;go_enter Tryz.func199,Tryz.ntmps199;go_wp2_with fail;have i:=A9 w (.cells #[.int .i64 s.birth,.slice a s.kn c,.string s.data] 75);have g:=A7 i (A9 _ (.cells #[.int .i64 0,.slice none 0 0,.string ⟨#[]⟩] 75));refine(zCT _ s.kn lo hi _ _ _ (q1.A0 g) hn).mono ?_;rintro e l ⟨⟨A,k,rfl,r,j⟩,b⟩;have y:Hid (CX l w.heap.size (.int .i64 s.birth) (.slice a s.kn c) (.string s.data)):=((CX.new w _ _ _ _).A0 (A9 _ _)).A0 b;have q:Hid (CX l (w.heap.size+1) (.int .i64 0) (.slice none 0 0) (.string ⟨#[]⟩)):=by
  have:=((CX.new (w.alloc (.cells #[.int .i64 s.birth,.slice a s.kn c,.string s.data] 75)) (.int .i64 0) (.slice none 0 0) (.string ⟨#[]⟩) 75).A0 b);rw[World.size_alloc]at this;exact this
 have o:=A7 g b;rw[World.size_alloc,World.size_alloc]at j;have m:Hid (CI l k A s.kn s.ks s.kb/\(0<s.kn->w.heap.size+1+1<=k/\k<l.heap.size)):=⟨r,j⟩;obtain⟨_,p,h,rfl,_⟩:=r;clear i g b j;obtain⟨⟨C,D⟩,⟨E,F⟩,⟨G,H⟩⟩:=y.out;obtain⟨⟨I,J⟩,⟨K,L⟩,⟨M,N⟩⟩:=q.out;go_wp2;have d:=(q.out.other (b':=w.heap.size) (o':=1) (.slice p s.kn h) (by omega)).put (.int .i64 s.birth) (.slice p s.kn h) (.string s.data);refine bodyPost_ret (v:=.agg #[.int .i64 s.birth,.slice p s.kn h,.string s.data]) (by simp[results,Tryz.results199,go_sem,d.1.1,d.2.1.1,d.2.2.1]) rfl ⟨_,k,rfl,?_,?_,?_⟩
 ·have j:=m.out.2;refine(((m.out.1.AH (AI.put _ _ _ _) ?_).AH (AI.put _ _ _ _) ?_).AH (AI.put _ _ _ _) ?_).AH (AI.put _ _ _ _) ?_
  all_goals exact fun n e=>by have:=j n;omega
 ·intro n;have:=m.out.2 n;simp only[World.size_setCell];omega
 ·exact(((o.setCell (by show _<=w.heap.size;omega) _).setCell (by show _<=w.heap.size+1;omega) _).setCell (by show _<=w.heap.size+1;omega) _).setCell (by show _<=w.heap.size+1;omega) _
theorem zCS(a:Option Addr)(n c:Nat)(xs:List Value)(w:World)(H:xs.length=n*1)(o:∀u∈xs,u.oneCell'=true)(hn:n<=1048576)
 (F:0<n->∃b off,a=some ⟨b,off,none⟩/\∀j u,xs[j]?=some u->w.cell? ⟨b,off+j,none⟩=some u) :
 Calls Tryz.prog 154 #[.slice a n c] w fun e w'=>∃p,e = .returned p/\w'.ownsRow w.heap.size 2 1 p n xs/\Below w.heap.size w w'/\(n=0->∃a,p = .slice a 0 0):=by
 have E:Hid (0<n->∃b off,a=some ⟨b,off,none⟩/\∀j u,xs[j]?=some u->w.cell? ⟨b,off+j,none⟩=some u):=F;have y:Hid (xs.length=n*1/\∀u∈xs,u.oneCell'=true):=⟨H,o⟩;clear F H o;have K:=fun w=>Lib.run_eql_slice_nil (P:=Tryz.prog) w 24 2 a n c 0 0 (by kernel_rfl)
 cases a with
 | none=>
  have B:n=0:=by
   by_cases h:0<n
   ·obtain⟨b,off,z,_⟩:=E.out h;simp at z
   ·omega
  subst B;have C:xs = []:=List.eq_nil_of_length_eq_zero (by simpa using y.out.1);subst C;go_enter Tryz.func154,Tryz.ntmps154;go_wp2;go_ret;exact⟨_,rfl,World.ownsRow_nil _ _ _ _,Below.refl _ _,fun _=>⟨_,rfl⟩⟩
 | some ad=>
  obtain⟨i0,hi,v⟩:=Option.map_eq_some_iff.1 zDr;simp only[Prod.mk.injEq]at v;obtain⟨I,hs,t⟩:=v;have x:Hid (Tryz.prog.info? 2=some i0/\i0.zero=some (.int .i64 0)/\i0.size=1/\i0.bytes=8):=⟨hi,I,hs,t⟩;have d:Hid ((w.alloc (.cells #[] 2)).ownsRow w.heap.size 2 1 (.slice (some ⟨w.heap.size,0,none⟩) 0 0) 0 []):=World.ownsRow_made w #[] 0 (Nat.le_refl _) (Nat.zero_le _) (by simp);clear hi I hs t;go_enter Tryz.func154,Tryz.ntmps154;go_wp2_with (first
   | (at_builtin;refine LK rfl _ _ 24 rfl w.heap.size 2 i0 (.int .i64 0) 1 8 (by kernel_rfl) x.out.1 x.out.2.1 x.out.2.2.1 x.out.2.2.2 rfl (by decide) _ _ _ rfl d.out (some ad) n c xs rfl y.out.1 y.out.2 ?c1 ?c3 ?c4 ?c5 ?_))
  case c1=>
   intro J;obtain⟨b,off,z,g⟩:=E.out J;exact⟨b,off,z,fun j u G=>(((Below.refl _ _).alloc (Nat.le_refl _) _).cell (AZ (g j u G))).trans (g j u G)⟩
  case c3=>unfold maxLen;omega
  case c4=>omega
  case c5=>simp
  intro p D k i m;have A:Below w.heap.size w D:=((Below.refl _ _).alloc (Nat.le_refl _) _).grown i (by simp) (fun q L=>by have:=d.out.lt q L;omega);have l:D.ownsRow w.heap.size 2 1 p n xs:=(by simpa using k);have r:Hid (D.ownsRow w.heap.size 2 1 p n xs):=l;have s:Hid (n=0->p = .slice (some ⟨w.heap.size,0,none⟩) 0 0):=m;clear k l i m;go_wp2;go_ret;exact⟨p,rfl,r.out,A,fun e=>⟨_,s.out e⟩⟩
theorem zD4(a:Option Addr)(n c:Nat)(xs:List Value)(w:World)(H:xs.length=n*3)(o:∀u∈xs,u.oneCell'=true)(hn:n<=1048576)
 (F:0<n->∃b off,a=some ⟨b,off,none⟩/\∀j u,xs[j]?=some u->w.cell? ⟨b,off+j,none⟩=some u) :
 Calls Tryz.prog 198 #[.slice a n c] w fun e w'=>∃p,e = .returned p/\w'.ownsRow w.heap.size 75 3 p n xs/\Below w.heap.size w w'/\(n=0->∃a,p = .slice a 0 0):=by
 have E:Hid (0<n->∃b off,a=some ⟨b,off,none⟩/\∀j u,xs[j]?=some u->w.cell? ⟨b,off+j,none⟩=some u):=F;have y:Hid (xs.length=n*3/\∀u∈xs,u.oneCell'=true):=⟨H,o⟩;clear F H o;have K:=fun w=>Lib.run_eql_slice_nil (P:=Tryz.prog) w 23 75 a n c 0 0 (by kernel_rfl)
 cases a with
 | none=>
  have B:n=0:=by
   by_cases h:0<n
   ·obtain⟨b,off,z,_⟩:=E.out h;simp at z
   ·omega
  subst B;have C:xs = []:=List.eq_nil_of_length_eq_zero (by simpa using y.out.1);subst C;go_enter Tryz.func198,Tryz.ntmps198;go_wp2;go_ret;exact⟨_,rfl,World.ownsRow_nil _ _ _ _,Below.refl _ _,fun _=>⟨_,rfl⟩⟩
 | some ad=>
  obtain⟨i0,hi,v⟩:=Option.map_eq_some_iff.1 zDs;simp only[Prod.mk.injEq]at v;obtain⟨I,hs,t⟩:=v;have x:Hid (Tryz.prog.info? 75=some i0/\i0.zero=some (.agg #[.int .i64 0,.slice none 0 0,.string ⟨#[]⟩])/\i0.size=3/\i0.bytes=48):=⟨hi,I,hs,t⟩;have d:Hid ((w.alloc (.cells #[] 75)).ownsRow w.heap.size 75 3 (.slice (some ⟨w.heap.size,0,none⟩) 0 0) 0 []):=World.ownsRow_made w #[] 0 (Nat.le_refl _) (Nat.zero_le _) (by simp);clear hi I hs t;go_enter Tryz.func198,Tryz.ntmps198;go_wp2_with (first
   | (at_builtin;refine LK rfl _ _ 23 rfl w.heap.size 75 i0 (.agg #[.int .i64 0,.slice none 0 0,.string ⟨#[]⟩]) 3 48 (by kernel_rfl) x.out.1 x.out.2.1 x.out.2.2.1 x.out.2.2.2 rfl (by decide) _ _ _ rfl d.out (some ad) n c xs rfl y.out.1 y.out.2 ?c1 ?c3 ?c4 ?c5 ?_))
  case c1=>
   intro J;obtain⟨b,off,z,g⟩:=E.out J;exact⟨b,off,z,fun j u G=>(((Below.refl _ _).alloc (Nat.le_refl _) _).cell (AZ (g j u G))).trans (g j u G)⟩
  case c3=>unfold maxLen;omega
  case c4=>omega
  case c5=>simp
  intro p D k i m;have A:Below w.heap.size w D:=((Below.refl _ _).alloc (Nat.le_refl _) _).grown i (by simp) (fun q L=>by have:=d.out.lt q L;omega);have l:D.ownsRow w.heap.size 75 3 p n xs:=(by simpa using k);have r:Hid (D.ownsRow w.heap.size 75 3 p n xs):=l;have s:Hid (n=0->p = .slice (some ⟨w.heap.size,0,none⟩) 0 0):=m;clear k l i m;go_wp2;go_ret;exact⟨p,rfl,r.out,A,fun e=>⟨_,s.out e⟩⟩
structure G0 where
 pool:A8
 ps:Int
 pb:Int
 code:Int
variable{w:World}{lo hi:Nat}
theorem zG7:Cz w lo hi (.slice none 0 0) (.slice none 0 0) (DW 0):=
 zG6 (g:=0) (Nat.zero_le _) ⟨none,0,rfl,Nat.le_refl _,fun h=>absurd h (Nat.lt_irrefl _)⟩ (fun i h=>absurd h (Nat.not_lt_zero _))
variable{n:Nat}{f:Nat->AD}{cv:Nat->Value}
theorem zGh{b off:Nat}(h:∀i,i<n->w.cell? ⟨b,off+i*3,none⟩=some (.int .i64 (f i).birth)/\w.cell? ⟨b,off+i*3+1,none⟩=some (cv i)/\w.cell? ⟨b,off+i*3+2,none⟩=some (.string (f i).data)) :
 ∀j u,(sc f cv n)[j]?=some u->w.cell? ⟨b,off+j,none⟩=some u:=by
 intro j u c;have g:j<n*3:=by
  have:=(List.getElem?_eq_some_iff.1 c).1
  rwa [Lf]at this
 obtain⟨c0,c1,d⟩:=h (j / 3) (by omega);have e:=Mz f cv n (j / 3) (j % 3) (by omega) (by omega);rw[show j / 3*3+j % 3=j by omega,c]at e;rcases(by omega:j % 3=0\/j % 3=1\/j % 3=2)with a | a | a
 ·rw[a]at e;simp at e;subst e;rw[show off+j=off+j / 3*3 by omega];exact c0
 ·rw[a]at e;simp at e;subst e;rw[show off+j=off+j / 3*3+1 by omega];exact c1
 ·rw[a]at e;simp at e;subst e;rw[show off+j=off+j / 3*3+2 by omega];exact d
variable{a:Option Addr}
theorem Bb.values{c:Nat}(h:Bb w lo hi (.slice a n c) n f) :
 ∃e:Nat->Value,(∀i,i<n->Cx w lo hi (.int .i64 (f i).birth) (e i) (.string (f i).data) (f i))/\
  (0<n->∃b off,a=some ⟨b,off,none⟩/\lo<=b/\b<hi/\∀j u,(sc f e n)[j]?=some u->w.cell? ⟨b,off+j,none⟩=some u):=by
 obtain⟨_,v,c0,p,_,g⟩:=h;simp only[Value.slice.injEq,true_and]at p;obtain⟨rfl,rfl⟩:=p;by_cases hn:0<n
 ·obtain⟨b,off,q,k,l,r⟩:=g hn;have m:∀i,∃x,i<n->(w.cell? ⟨b,off+i*3,none⟩=some (.int .i64 (f i).birth)/\w.cell? ⟨b,off+i*3+1,none⟩=some x/\w.cell? ⟨b,off+i*3+2,none⟩=some (.string (f i).data))/\Cx w lo hi (.int .i64 (f i).birth) x (.string (f i).data) (f i):=fun i=>by
   by_cases hi:i<n
   ·obtain⟨y,v1,z,s,q1,t,hs⟩:=r i hi;have o:=hs;obtain⟨rfl,_,rfl,_⟩:=o;exact⟨v1,fun _=>⟨⟨s,q1,t⟩,hs⟩⟩
   ·exact⟨.slice none 0 0,fun h=>absurd h hi⟩
  obtain⟨e,d⟩:=Classical.axiomOfChoice m;exact⟨e,fun i hi=>(d i hi).2,fun _=>⟨b,off,q,k,l,zGh fun i hi=>(d i hi).1⟩⟩
 ·exact⟨fun _=>.slice none 0 0,fun i hi=>absurd hi (by omega),fun h=>absurd h hn⟩
theorem Cx.C5{v0 v1 v2:Value}(h:Cx w lo hi v0 v1 v2 s):∃a kc,v1 = .slice a s.kn kc:=by
 obtain⟨_,⟨_,a,kc,h,_⟩,_⟩:=h;exact⟨a,kc,h⟩
structure GG (wr:World) (bs n k:Nat) (f:Nat->AD) (kb:Nat->Nat) (kv cv:Nat->Value):Prop where
 cells:∀j,j<n->AJ wr bs (j*3) (.int .i64 (f j).birth)/\AJ wr bs (j*3+1) (if j<k then kv j else cv j)/\AJ wr bs (j*3+2) (.string (f j).data)
 kids:∀j,j<k->CI wr (kb j) (kv j) (f j).kn (f j).ks (f j).kb
 Bn:∀j,j<k->0<(f j).kn->bs<kb j/\kb j<wr.heap.size
 Bi:O9 kb k f
variable{wr:World}{bs k:Nat}{kb:Nat->Nat}{kv:Nat->Value}
theorem GG.A0{w':World}(h:GG wr bs n k f kb kv cv)(t:Below wr.heap.size wr w'):GG w' bs n k f kb kv cv:=
 ⟨fun j a=>⟨(h.cells j a).1.A0 t,(h.cells j a).2.1.A0 t,(h.cells j a).2.2.A0 t⟩,fun j a=>(h.kids j a).A0 t,fun j a b=>by have:=h.Bn j a b;have:=t.size;omega,h.Bi⟩
theorem GG.next{w1:World}{b:Nat}{v:Value}(h:GG wr bs n k f kb kv cv)(y:k<n)(u:bs<wr.heap.size)(t:Below wr.heap.size wr w1)
 (w:CI w1 b v (f k).kn (f k).ks (f k).kb) (l:0<(f k).kn->wr.heap.size<=b/\b<w1.heap.size) :
 GG (((w1.setCell ⟨bs,k*3,none⟩ (.int .i64 (f k).birth)).setCell ⟨bs,k*3+1,none⟩ v).setCell ⟨bs,k*3+2,none⟩ (.string (f k).data)) bs n (k+1) f (fun j=>if j=k then b else kb j) (fun j=>if j=k then v else kv j) cv:=by
 have g:=h.A0 t;refine⟨fun j m=>?_,fun j m=>?_,fun j m c=>?_,fun i j hi m q o p=>?_⟩
 ·obtain⟨c0,c1,r⟩:=g.cells j m;by_cases e:j=k
  ·subst e;rw[if_pos (by omega),if_pos rfl];exact⟨((c0.set _).other _ (Or.inr (by omega))).other _ (Or.inr (by omega)),((c1.other _ (Or.inr (by omega))).set _).other _ (Or.inr (by omega)),((r.other _ (Or.inr (by omega))).other _ (Or.inr (by omega))).set _⟩
  ·rw[if_neg e];have s:(if j<k+1 then kv j else cv j)=if j<k then kv j else cv j:=by
    by_cases a:j<k
    ·rw[if_pos a,if_pos (by omega)]
    ·rw[if_neg a,if_neg (by omega)]
   rw[s];exact⟨((c0.other _ (Or.inr (by omega))).other _ (Or.inr (by omega))).other _ (Or.inr (by omega)),((c1.other _ (Or.inr (by omega))).other _ (Or.inr (by omega))).other _ (Or.inr (by omega)),((r.other _ (Or.inr (by omega))).other _ (Or.inr (by omega))).other _ (Or.inr (by omega))⟩
 ·by_cases e:j=k
  ·subst e;simp only[if_true];refine((w.AH (AI.put _ _ _ _) ?_).AH (AI.put _ _ _ _) ?_).AH (AI.put _ _ _ _) ?_
   all_goals exact fun c x=>by have:=l c;omega
  ·simp only[if_neg e];refine(((g.kids j (by omega)).AH (AI.put _ _ _ _) ?_).AH (AI.put _ _ _ _) ?_).AH (AI.put _ _ _ _) ?_
   all_goals exact fun c x=>by have:=g.Bn j (by omega) c;omega
 ·simp only[World.size_setCell];by_cases e:j=k
  ·subst e;rw[if_pos rfl];have:=l c;omega
  ·rw[if_neg e];have:=g.Bn j (by omega) c;omega
 ·show(if i=k then b else kb i)≠(if j=k then b else kb j);by_cases d:i=k
  ·by_cases a:j=k
   ·omega
   ·rw[if_pos d,if_neg a];subst d;have:=l o;have:=h.Bn j (by omega) p;omega
  ·by_cases a:j=k
   ·rw[if_neg d,if_pos a];subst a;have:=l p;have:=h.Bn i (by omega) o;omega
   ·rw[if_neg d,if_neg a];exact h.Bi i j (by omega) (by omega) q o p
theorem GG.own{c:Nat}(h:GG wr bs n n f kb kv cv)(m:n<=maxLen)(g:0<n->a=some ⟨bs,0,none⟩)(k:n<=c)(hs:∀j,j<n->(f j).data.size<=maxLen):Fp wr bs kb kv (.slice a n c) n f:=
 ⟨m,a,c,rfl,k,fun d=>⟨0,g d,fun i hi=>by
  obtain⟨c0,c1,b⟩:=h.cells i hi;rw[if_pos hi]at c1;rw[Nat.zero_add];exact⟨c0,c1,b,h.kids i hi,hs i hi,fun l e=>by have:=h.Bn i hi l;omega⟩⟩⟩
theorem zD3(v:Value)(n lo hi:Nat)(f:Nat->AD)(w:World)(P:Bb w lo hi v n f)(hn:n<=1048576)(U:∀j,j<n->(f j).kn<=1048576) :
 Calls Tryz.prog 153 #[v] w fun e w'=>∃X y I M,e = .returned X/\Fp w' y I M X n f/\O9 I n f/\(∀k,I1 y I n f k->w.heap.size<=k/\k<w'.heap.size)/\Below w.heap.size w w':=by
 have Hm:=B7 P.1;have q1:=P;obtain⟨_,a,c,rfl,_,_⟩:=P;obtain⟨A,d,E⟩:=q1.values;have F:=B7 d;have Hk:=B7 U;have x:0<n->∃b off,a=some ⟨b,off,none⟩/\∀j u,(sc f A n)[j]?=some u->w.cell? ⟨b,off+j,none⟩=some u:=fun p=>by
  obtain⟨b,off,h2,_,_,h3⟩:=E p;exact⟨b,off,h2,h3⟩
 have C:=zIE f A n (fun i hi=>by obtain⟨W,kc,e⟩:=(d i hi).C5;rw[e];rfl);clear d U q1 E;go_enter Tryz.func153,Tryz.ntmps153;go_wp2_with fail;refine(zD4 a n c (sc f A n) w (Lf _ _ _) C hn x).mono ?_;rintro e Y ⟨X,rfl,t,S,_⟩;obtain⟨a1,c1,rfl,V⟩:=CV t;clear C x;have B:∃y,(0<n->a1=some ⟨y,0,none⟩/\w.heap.size<=y/\y<Y.heap.size)/\GG Y y n 0 f (fun _=>0) A A:=by
  by_cases p:0<n
  ·obtain⟨g,cap,hv,_,r,L,m⟩:=FN t p;simp only[Value.slice.injEq,true_and]at hv;obtain⟨rfl,rfl⟩:=hv;refine⟨g,fun _=>⟨rfl,r,L⟩,fun j l=>⟨?_,?_,?_⟩,fun j l=>absurd l (Nat.not_lt_zero _),fun j l=>absurd l (Nat.not_lt_zero _),fun i j hi=>absurd hi (Nat.not_lt_zero _)⟩
   ·have:=m (j*3+0) _ (Mz f A n j 0 l (by omega));simpa using this
   ·have:=m (j*3+1) _ (Mz f A n j 1 l (by omega));simpa using this
   ·have:=m (j*3+2) _ (Mz f A n j 2 l (by omega));simpa using this
  ·exact⟨0,fun h=>absurd h p,fun j l=>absurd l (by omega),fun j l=>absurd l (Nat.not_lt_zero _),fun j l=>absurd l (Nat.not_lt_zero _),fun i j hi=>absurd hi (Nat.not_lt_zero _)⟩
 obtain⟨y,B,s⟩:=B;have z:=B7 B;have G:=B7 s;clear t B s;go_wp2
 go_loopw [4,5,10] (fun _ _ i wr=>∃(k:Nat) (I:Nat->Nat) (M:Nat->Value),k<=n/\i = .int .i64 k/\GG wr y n k f I M A/\Below w.heap.size w wr/\Y.heap.size<=wr.heap.size) (fun _ _ i _=>n - (intOf i).toNat)
 case atStart=>exact⟨0,_,_,Nat.zero_le _,rfl,G.out,S,Nat.le_refl _⟩
 case round=>
  obtain⟨k,I,M,U,rfl,Z,R,hz⟩:=hrel;have J:=B7 Z;clear Z;by_cases o:k<n
  ·have aA:(k:Int)<(n:Int):=(by omega);obtain⟨rfl,r,L⟩:=z.out (by omega);obtain⟨W,kc,d⟩:=(F.out k o).C5;have O:Hid (Cx wr lo hi (.int .i64 (f k).birth) (.slice W (f k).kn kc) (.string (f k).data) (f k)):=by
    have:=(F.out k o).A0 R;rw[d]at this;exact this
   obtain⟨⟨q0,r0⟩,q1,⟨q2,r2⟩⟩:=J.out.cells k o;rw[if_neg (by omega),d]at q1;obtain⟨q1,r1⟩:=q1;go_wp2_with fail;have Q:=A9 wr (.cells #[.int .i64 (f k).birth,.slice W (f k).kn kc,.string (f k).data] 75);refine(zCU _ _ _ lo hi (f k) _ (O.out.A0 Q) (Hk.out k o)).mono ?_;rintro e w2 ⟨nv,nb,rfl,H,D,K⟩;obtain⟨_,na,nc,rfl,_⟩:=id H;have q:=A7 Q K;have N:=B7 (J.out.next o (by omega) q H (fun p=>by have:=D p;rw[World.size_alloc]at this;omega));have T:=A7 R q;have kA:=q.size;clear q0 q1 q2 r0 r1 r2;obtain⟨⟨q0,r0⟩,q1,⟨q2,r2⟩⟩:=(J.out.A0 q).cells k o;rw[if_neg (by omega),d]at q1;obtain⟨q1,r1⟩:=q1;clear H D K Q q d;go_wp2;go_roundw
   case rel=>exact⟨k+1,_,_,by omega,by go_num,N.out,((T.setCell r _).setCell r _).setCell r _,by simp only[World.size_setCell];omega⟩
   case measure=>simp[intOf];omega
  ·obtain rfl:k=n:=(by omega);go_wp2;go_ret;refine⟨_,y,I,M,rfl,J.out.own Hm.out (fun p=>(z.out p).1) V (fun j l=>(F.out j l).2.2.2),J.out.Bi,fun j l=>?_,R⟩;rcases l with⟨p,rfl⟩ | ⟨i,hi,p,rfl⟩
   ·have:=z.out p;omega
   ·have:=z.out (by omega);have:=J.out.Bn i hi p;omega
theorem ZK(v0 v1:Value)(lo hi:Nat)(p:A8)(w:World)(V:EE w lo hi v0 v1 p)(hn:Az p<=1048576):Calls Tryz.prog 103 #[.agg #[v0,v1]] w (zGK p w):=by
 have T:=B7 V;obtain⟨⟨m1,a,c,rfl,mc,g1⟩,⟨m2,z,c',rfl,pA,g2⟩⟩:=V;have Hm:=B7 (And.intro m1 m2);clear g1 g2 m1 m2;unfold Az at hn;have Hn:Hid (∀j,j<p.n->(p.s j).kn<=1048576):=fun j hj=>by have h2:=zGk p.s hj;unfold Cu at h2;omega
 have O:p.n<=1048576:=by omega
 have P:p.hn<=1048576:=by omega
 clear hn;have A:=A9 w (.cells #[.slice a p.n c,.slice z p.hn c'] 26);have o:=A7 A (A9 _ (.cells #[.slice none 0 0,.slice none 0 0] 26));have E:=B7 ((Ad.new w (.slice a p.n c) (.slice z p.hn c') 26).A0 (A9 _ (.cells #[.slice none 0 0,.slice none 0 0] 26)));have x:=Ad.new (w.alloc (.cells #[.slice a p.n c,.slice z p.hn c'] 26)) (.slice none 0 0) (.slice none 0 0) 26;rw[World.size_alloc]at x;have F:=B7 x;clear A x;go_enter Tryz.func103,Tryz.ntmps103;go_wp2_with fail;generalize X:(w.alloc (.cells #[.slice a p.n c,.slice z p.hn c'] 26)).alloc (.cells #[.slice none 0 0,.slice none 0 0] 26)=W at E F o ⊢;have Y:W.heap.size=w.heap.size+2:=by rw[<-X,World.size_alloc,World.size_alloc]
 clear X;obtain⟨⟨x0,x1⟩,⟨x2,x3⟩⟩:=E.out;obtain⟨⟨y0,y1⟩,⟨y2,y3⟩⟩:=F.out;go_region_held3 (fun w'=>w'.cell? ⟨w.heap.size,0,none⟩=some (.slice a p.n c)/\w'.cell? ⟨w.heap.size,1,none⟩=some (.slice z p.hn c')) (go_keep)
  (first
   | (go_at_call 153;refine(zD3 _ p.n lo hi p.s _ ?_ O Hn.out).mono ?_;(exact T.out.1.A0 o.drew);rintro e S ⟨v',U,Z,kv,rfl,Q,B,D,C⟩;obtain⟨_,I,r,rfl,_⟩:=id Q;have b:=Cp C;obtain⟨⟨z0,z1⟩,⟨z2,z3⟩⟩:=E.out.A0 b)
   | (go_at_call 154;refine(zCS _ _ _ (ic p.h p.hn) _ (Lk _ _) (zId _ _) P ?_).mono ?_;(exact zGz T.out.2 rfl (A7 o b));rintro e J ⟨v',rfl,i,m,R⟩;obtain⟨H,q,rfl,_⟩:=CV i;have d:=A7 b m;obtain⟨⟨z4,z5⟩,⟨z6,z7⟩⟩:=E.out.A0 d;have K:=B7 (F.out.A0 d);obtain⟨⟨z8,z9⟩,⟨sA,tA⟩⟩:=F.out.A0 d))
 obtain⟨hb,u,g⟩:=zCL Hm.out.2 i R;have mA:W.heap.size<=S.heap.size:=b.size;have nA:S.heap.size<=J.heap.size:=m.size;have l:∀k,I1 U Z p.n p.s k->W.heap.size<=k/\k<S.heap.size:=D;have L:Hid (Cz J (w.heap.size+2) J.heap.size (.slice I p.n r) (.slice H p.hn q) p):=by
  refine⟨U,hb,Z,kv,Q.A0 m,B,u,fun M hx=>?_,fun k G=>?_⟩
  ·have:=l _ hx;have:=g M;omega
  ·rcases G with G | ⟨M,rfl⟩
   ·have:=l _ G;omega
   ·have:=g M;omega
 have N:=A7 o d;clear u g D l Q B i C b m d;go_wp2;have y:=K.out.put (.slice I p.n r) (.slice H p.hn q);refine bodyPost_ret (v:=.agg #[.slice I p.n r,.slice H p.hn q]) (by simp[results,Tryz.results103,go_sem,y.1.1,y.2.1]) rfl ⟨_,_,rfl,?_,?_⟩
 ·have t:=(AI.put J (w.heap.size+1) 0 (.slice I p.n r)).trans (AI.put _ (w.heap.size+1) 1 (.slice H p.hn q));have Y:=t.size;exact(L.out.AH t (fun k G=>by omega)).wide (by omega) Y
 ·exact(N.setCell (by show _<=w.heap.size+1;omega) _).setCell (by show _<=w.heap.size+1;omega) _
def G6(p:A8)(xs:Int):A8:={n:=p.n,s:=p.s,hn:=p.hn+1,h:=fun i=>if i=p.hn then xs else p.h i}
def BH(p:A8)(i:Nat)(s:AD):A8:={n:=p.n,s:=fun j=>if j=i then s else p.s j,hn:=p.hn,h:=p.h}
def Br(n:Nat)(f:Nat->AD)(i:Nat):Prop:=i<n/\An (f i)/\∀j,j<i->¬An (f j)
theorem Br.uniq(h:Br n f i)(a:Br n f j):i=j:=by
 rcases Nat.lt_trichotomy i j with e | e | e
 ·exact absurd h.2.1 (a.2.2 i e)
 ·exact e
 ·exact absurd a.2.1 (h.2.2 j e)
open Classical in
def Cj(p:A8)(s:AD):G0:=
 if Ag p/\¬An s/\CD p s then(if h:∃i,Br p.n p.s i then⟨BH p (Classical.choose h) s,((Classical.choose h:Nat):Int),s.birth,0⟩else⟨DW 0,0,0,6⟩)else⟨DW 0,0,0,1⟩
theorem MY(h:Ag p/\¬An s/\CD p s)(a:∀j,j<p.n->¬An (p.s j)):Cj p s=⟨DW 0,0,0,6⟩:=by
 unfold Cj;rw[if_pos h,dif_neg (fun ⟨i,hi⟩=>a i hi.1 hi.2.1)]
theorem Lw(h:Ag p/\¬An s/\CD p s)(b:Br p.n p.s i):Cj p s=⟨BH p i s,(i:Int),s.birth,0⟩:=by
 unfold Cj;have a:∃i,Br p.n p.s i:=⟨i,b⟩;rw[if_pos h,dif_pos a];have e:Classical.choose a=i:=(Classical.choose_spec a).uniq b;rw[e]
theorem Y6(f:Nat->AD)(i:Nat)(s:AD):∀n,Cl (fun j=>if j=i then s else f j) n<=Cl f n+(if i<n then Cu s else 0)
 | 0=>Nat.zero_le _
 | n+1=>by
  have a:=Y6 f i s n;show Cl (fun j=>if j=i then s else f j) n+Cu (if n=i then s else f n)<=Cl f n+Cu (f n)+_;by_cases e:n=i
  ·rw[if_pos e,if_pos (by omega)];rw[if_neg (by omega)]at a;omega
  ·rw[if_neg e];by_cases b:i<n
   ·rw[if_pos b]at a;rw[if_pos (by omega)];omega
   ·rw[if_neg b]at a;rw[if_neg (by omega)];omega
theorem zEg(p:A8)(i:Nat)(s:AD):Az (BH p i s)<=Az p+Cu s:=by
 have h:=Y6 p.s i s p.n;have a:(if i<p.n then Cu s else 0)<=Cu s:=by split<;>omega
 show p.n+Cl (fun j=>if j=i then s else p.s j) p.n+p.hn<=p.n+Cl p.s p.n+p.hn+Cu s;omega
def Fa(f g:Nat->Int):Prop:=∀i,i<8->Nil (f i) (g i)
def C4(f g:Nat->Int)(b:Int):AD:={birth:=b,kn:=8,ks:=f,kb:=g,data:=⟨#[]⟩}
open Classical in
def N3(p:A8)(f g:Nat->Int)(b:Int):G0:=if Fa f g then⟨p,0,0,0⟩else Cj p (C4 f g b)
def hop(J:Nat->Act->World->Prop)(Q:Exit->Act->World->Prop):Exit->Act->World->Prop
 | .goto l,a,w=>J l a w
 | e,a,w=>Q e a w
def EM(p:A8)(xs xb:Int)(n L:Nat):Int:=if L=0 then xs else if L=1 then Ca p xs xb n else CT p xs xb n
def FU(p:A8)(xs xb:Int)(n L:Nat):Int:=if L=0 then xb else if L=1 then D9 p xs xb n else Cb p xs xb n
def plc(n L:Nat):Nat:=if L=0 then n / 8 else n % 8
def PE(p:A8)(xs xb:Int)(n L j:Nat):Int:=if Nil (EM p xs xb n L) (FU p xs xb n L)then 0 else BA (p.s (EM p xs xb n L).toNat) j
variable{L:Nat}
theorem Nm(p:A8)(xs xb:Int)(n:Nat)(h:L<2):EM p xs xb n (L+1)=PE p xs xb n L (plc n L*2)/\FU p xs xb n (L+1)=PE p xs xb n L (plc n L*2+1):=by
 rcases L with _ | _ | L
 ·exact⟨rfl,rfl⟩
 ·exact⟨rfl,rfl⟩
 ·omega
theorem qA(h:n<64):plc n L<8:=by unfold plc;split<;>omega
theorem zHj(h:Nil (EM p xs xb n L) (FU p xs xb n L))(a:L<2):Nil (EM p xs xb n (L+1)) (FU p xs xb n (L+1)):=by
 rw[(Nm p xs xb n a).1,(Nm p xs xb n a).2];unfold PE;rw[if_pos h,if_pos h];exact⟨rfl,rfl⟩
def JG(p:A8)(xs xb:Int)(n k:Nat):List (Int×Int):=kidsUp (fun i=>EM p xs xb n (2 - i)) (fun i=>FU p xs xb n (2 - i)) k
open Classical in
def roomN(f:Nat->AD):Nat->Nat
 | 0=>0
 | k+1=>roomN f k+(if An (f k)then 1 else 0)
theorem Ju(h:An (f k)):roomN f (k+1)=roomN f k+1:=by simp[roomN,h]
theorem J2(h:¬An (f k)):roomN f (k+1)=roomN f k:=by simp[roomN,h]
theorem Nq(f:Nat->AD):∀k,roomN f k<=k
 | 0=>Nat.le_refl _
 | k+1=>by
  have:=Nq f k;by_cases h:An (f k)
  ·rw[Ju h];omega
  ·rw[J2 h];omega
open Classical in
def My(p:A8):Int:=if Ag p then(roomN p.s p.n:Int)else 0
theorem QQ(p:A8)(i:Nat)(s:AD):(BH p i s).s i=s:=if_pos rfl
theorem OO(p:A8)(s:AD)(h:j≠i):(BH p i s).s j=p.s j:=if_neg h
theorem Me(hi:An (p.s i))(h:BM p xs xb):BM (BH p i s) xs xb:=by
 obtain⟨c,d,g,b⟩:=h;refine⟨c,d,g,?_⟩;have a:xs.toNat≠i:=fun e=>by
  rw[e]at b;have:=hi.1;omega
 rw[OO p s a];exact b
theorem Uy{t:AD}(hi:An (p.s i))(h:CD p t):CD (BH p i s) t:=by
 refine⟨h.1,?_⟩;rcases h.2 with a | a
 ·exact Or.inl a
 ·refine Or.inr ⟨a.1,a.2.1,fun m c=>?_⟩;rcases a.2.2 m c with b | b
  ·exact Or.inl b
  ·exact Or.inr ⟨Me hi b.1,b.2⟩
theorem Qt(a:Ag p)(hi:Br p.n p.s i)(hs:CD p s):Ag (BH p i s):=by
 refine⟨a.1,fun j b=>?_,fun j b=>?_⟩
 ·by_cases e:j=i
  ·rw[e,QQ];exact Or.inr (Uy hi.2.1 hs)
  ·rw[OO p s e];rcases a.2.1 j b with h | h
   ·exact Or.inl h
   ·exact Or.inr (Uy hi.2.1 h)
 ·obtain⟨g,k,d,l⟩:=a.2.2 j b;refine⟨g,k,?_,l⟩;have c:(p.h j).toNat≠i:=fun e=>d (by rw[e];exact hi.2.1)
  show ¬An ((BH p i s).s (p.h j).toNat);rw[OO p s c];exact d
theorem GF(h:CD p s):¬An s:=fun a=>by
 have:=a.1;have:=h.1.1;omega
theorem UJ{p:A8}{i:Nat}{s:AD}(hi:An (p.s i))(hs:¬An s):∀n,roomN (BH p i s).s n+(if i<n then 1 else 0)=roomN p.s n
 | 0=>rfl
 | n+1=>by
  have g:=UJ hi hs n;by_cases e:n=i
  ·subst e;rw[if_pos (by omega)];rw[if_neg (by omega)]at g;rw[J2 (by rw[QQ];exact hs),Ju hi];omega
  ·have a:(BH p i s).s n=p.s n:=OO p s e;have c:(if i<n+1 then 1 else 0)=(if i<n then 1 else 0):=by
    by_cases d:i<n
    ·rw[if_pos d,if_pos (by omega)]
    ·rw[if_neg d,if_neg (by omega)]
   rw[c];by_cases b:An (p.s n)
   ·rw[Ju (by rw[a];exact b),Ju b];omega
   ·rw[J2 (by rw[a];exact b),J2 b];exact g
end
end Go.Proofs.YtibhefllijahkaaGreatDoor
