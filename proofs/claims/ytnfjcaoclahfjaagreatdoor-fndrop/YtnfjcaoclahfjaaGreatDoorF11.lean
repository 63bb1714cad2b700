/- A part of the proof. -/
import Derived.Test.YtnfjcaoclahfjaaGreatDoorF10
import Derived.Deep.RegionLawGrows
import Derived.Scope
import Derived.WalkMore
import Derived.Deep.MidRow
set_option linter.unusedVariables false
set_option maxRecDepth 20000
set_option maxHeartbeats 4000000
namespace Go.Proofs.YtnfjcaoclahfjaaGreatDoor
open Go.RowKit
theorem zCn(R v1:Value)(lo hi:Nat)(p:A7)(xs xb:Int)(w:World)(H:DU w lo hi R v1 p)(U:AX p) :
 Calls Tryz.prog 128 #[.agg #[R,v1],.agg #[.int .i64 xs,.int .i64 xb]] w fun e w'=>AJ (Ps p xs xb) e/\Below w.heap.size w w':=by
 have r:=Ap H;have G:=Ap U;obtain⟨a,c,y,c',rfl,rfl⟩:∃a c y c',R = .slice a p.n c/\v1 = .slice y p.hn c':=by
  obtain⟨⟨_,a,c,H,_⟩,⟨_,y,c',h3,_⟩⟩:=H;exact⟨a,c,y,c',H,h3⟩
 clear H U;have E:=zHF w (.slice a p.n c) (.slice y p.hn c') (.int .i64 xs) (.int .i64 xb) 26 40;by_cases hn:Nil xs xb
 · have M:=Ap hn
   obtain⟨rfl,rfl⟩:=hn;obtain⟨_,_,b,_⟩:=E;go_enter Tryz.func128,Tryz.ntmps128;go_wp2;go_ret;exact⟨AJ.yes (Or.inl M.out),b⟩
 · have M:=Ap hn
   have e0:=On hn;clear hn;have l:Hid (∀t:Bool,(t=true↔BA p xs xb/\NC p (p.s xs.toNat)/\Rh p (AE p xs xb))->AJ (Ps p xs xb) (.returned (.bool t))):=fun t ht=>⟨t,rfl,ht.trans ⟨fun h=>Or.inr h,fun h=>h.resolve_left M.out⟩⟩
   go_enter Tryz.func128,Tryz.ntmps128;go_upto_region 1 with fail;generalize (w.alloc (.cells #[.slice a p.n c,.slice y p.hn c'] 26)).alloc (.cells #[.int .i64 xs,.int .i64 xb] 40)=W at E ⊢;obtain⟨T,V,b,hz⟩:=E;have B:=Ap T;have x:=Ap V;clear T V
   go_cut [7] (fun v wc=>v = .bool false/\W=wc)
   case first=>
    obtain⟨⟨y0,y1⟩,⟨y2,y3⟩⟩:=x.out;rcases e0 with e0 | ⟨e0,e1⟩
    all_goals
     go_wp2_with fail
     go_meet
     case rel=>exact⟨rfl,rfl⟩
   case rest=>
    obtain⟨rfl,rfl⟩:=hcut;clear e0;obtain⟨⟨x0,x1⟩,⟨x2,x3⟩⟩:=B.out;obtain⟨⟨y0,y1⟩,⟨y2,y3⟩⟩:=x.out;go_upto_region 3 with fail;by_cases L:BA p xs xb
    · have u:=Ap L
      clear L;by_cases A:NC p (p.s xs.toNat)
      · have k:=Ap A
        clear A;go_region_held3 (fun w'=>w'.cell? ⟨w.heap.size,0,none⟩=some (.slice a p.n c)/\w'.cell? ⟨w.heap.size,1,none⟩=some (.slice y p.hn c')/\w'.cell? ⟨w.heap.size+1,0,none⟩=some (.int .i64 xs)/\w'.cell? ⟨w.heap.size+1,1,none⟩=some (.int .i64 xb)) (go_keep)
         (first
           | (go_at_call 144
              refine(OC _ p.n lo hi p.s xs xb _ ?_).mono ?_
              (first | exact r.out.1.A1 b | exact r.out.1.A1 b.drew)
              rintro e J ⟨⟨I,rfl,f⟩,j⟩;rw[OD G.out]at f;obtain rfl:I=true:=f.2 u.out;clear f;have d:Below W.heap.size W J:=(by first | exact j | exact Cs j);obtain⟨⟨X,_⟩,⟨Y,_⟩⟩:=B.out.A1 d;obtain⟨⟨Z,_⟩,⟨k3,_⟩⟩:=x.out.A1 d)
           | (go_at_call 163
              refine(X6 p G.out _ lo hi xs xb _ ?_ u.out).mono ?_;exact r.out.1.A1 (A8 b d);rintro e w2 ⟨⟨Q,rfl,q⟩,D⟩;obtain rfl:Q=true:=q.2 k.out;clear q;have i:=A8 d D;obtain⟨⟨l0,_⟩,⟨l1,_⟩⟩:=B.out.A1 i;obtain⟨⟨l2,_⟩,⟨l3,_⟩⟩:=x.out.A1 i)
           | (go_at_call 165
              refine(Vh p G.out _ lo hi xs xb _ ?_ (Or.inr u.out)).mono ?_;exact r.out.1.A1 (A8 b i);rintro e w3 ⟨v3,rfl,o,N⟩;obtain⟨na,nc,rfl,_⟩:=C6 o;have z:=A8 i N;have P:=zFN (by have:=D7 p xs xb;unfold maxLen;omega) o;obtain⟨⟨m0,_⟩,⟨m1,_⟩⟩:=B.out.A1 z;obtain⟨⟨m2,_⟩,⟨m3,_⟩⟩:=x.out.A1 z)
           | (go_at_call 164
              refine(yR _ _ _ lo hi 0 w3.heap.size _ p _ _ _ ?_ P).mono ?_;exact r.out.A1 (A8 b z);rintro e w4 ⟨⟨t4,rfl,F⟩,O⟩;rw[zAh]at F;have C:=A8 z O;obtain⟨⟨n0,_⟩,⟨n1,_⟩⟩:=B.out.A1 C;obtain⟨⟨n2,_⟩,⟨n3,_⟩⟩:=x.out.A1 C))
        have m:=A8 b C;have HT:=Ap F;clear F;go_wp2;go_ret;exact⟨l.out t4 (HT.out.trans ⟨fun h=>⟨u.out,k.out,h⟩,fun h=>h.2.2⟩),m⟩
      · have k:=Ap A
        clear A;refine wp_region_held_drew (S:=(fun w'=>w'.cell? ⟨w.heap.size,0,none⟩=some (.slice a p.n c)/\w'.cell? ⟨w.heap.size,1,none⟩=some (.slice y p.hn c')/\w'.cell? ⟨w.heap.size+1,0,none⟩=some (.int .i64 xs)/\w'.cell? ⟨w.heap.size+1,1,none⟩=some (.int .i64 xb))) (by kernel_rfl) ?_ (fun hHeld=>?_)
        · (try dsimp only)
          go_keep
        refine tk 0 (h:=tk 1 (h:=tk 2 (h:=?_)));refine rd [3] (rc (fun K hK=>?_) .nil);go_simp;go_at_call 144;refine(OC _ p.n lo hi p.s xs xb _ ?_).mono ?_
        · first | exact r.out.1.A1 b | exact r.out.1.A1 b.drew
        rintro e J ⟨⟨I,rfl,f⟩,j⟩;rw[OD G.out]at f;obtain rfl:I=true:=f.2 u.out;clear f;have d:Below W.heap.size W J:=(by first | exact j | exact Cs j);obtain⟨⟨X,_⟩,⟨Y,_⟩⟩:=B.out.A1 d;obtain⟨⟨Z,_⟩,⟨k3,_⟩⟩:=x.out.A1 d
        (try go_wp2_with fail)
        refine hK.out _ _ (by(try dsimp only);go_keep) ?_;clear hK K hHeld;intro hHeld
        try simp only[Act.put,s1,s2,s3]
        refine tk 4 (h:=tk 5 (h:=tk 6 (h:=tk 7 (h:=?_))));refine rd [8] (rc (fun K hK=>?_) .nil);go_simp;go_at_call 163;refine(X6 p G.out _ lo hi xs xb _ ?_ u.out).mono ?_
        · exact r.out.1.A1 (A8 b d)
        rintro e w2 ⟨⟨Q,rfl,q⟩,D⟩;obtain rfl:Q=false:=Bb q k.out;clear q;have i:=A8 d D;obtain⟨⟨l0,_⟩,⟨l1,_⟩⟩:=B.out.A1 i;obtain⟨⟨l2,_⟩,⟨l3,_⟩⟩:=x.out.A1 i
        (try go_wp2_with fail)
        refine hK.out _ _ (by(try dsimp only);go_keep) ?_;clear hK K hHeld;intro hHeld
        try simp only[Act.put,s1,s2,s3]
        refine tk 9 (h:=tk 10 (h:=ts 11 (h:=ts 12 (h:=ts 13 (h:=ts 14 (h:=?_))))));refine rd [15] (rc (fun K hK=>?_) .nil);split
        · rename_i g
          exact absurd (show false=true from g) Bool.false_ne_true
        refine hK.out _ _ (by assumption) (fun hHeld=>?_);clear hK K
        try simp only[Act.put,s1,s2,s3]
        refine rd [16] (rc (fun K hK=>?_) .nil);split
        · rename_i g
          exact absurd (show false=true from g) Bool.false_ne_true
        refine hK.out _ _ (by assumption) (fun hHeld=>?_);clear hK K
        try simp only[Act.put,s1,s2,s3]
        refine tk 17 (h:=tk 18 (h:=?_));refine wpAnyH_done (by kernel_rfl) ?_ _;have m:=A8 b i;go_wp2;go_ret;exact⟨l.out false ⟨fun h=>(by cases h),fun h=>absurd h.2.1 k.out⟩,m⟩
    · have u:=Ap L
      clear L;refine wp_region_held_drew (S:=(fun w'=>w'.cell? ⟨w.heap.size,0,none⟩=some (.slice a p.n c)/\w'.cell? ⟨w.heap.size,1,none⟩=some (.slice y p.hn c')/\w'.cell? ⟨w.heap.size+1,0,none⟩=some (.int .i64 xs)/\w'.cell? ⟨w.heap.size+1,1,none⟩=some (.int .i64 xb))) (by kernel_rfl) ?_ (fun hHeld=>?_)
      · (try dsimp only)
        go_keep
      refine tk 0 (h:=tk 1 (h:=tk 2 (h:=?_)));refine rd [3] (rc (fun K hK=>?_) .nil);go_simp;go_at_call 144;refine(OC _ p.n lo hi p.s xs xb _ ?_).mono ?_
      · first | exact r.out.1.A1 b | exact r.out.1.A1 b.drew
      rintro e J ⟨⟨I,rfl,f⟩,j⟩;rw[OD G.out]at f;obtain rfl:I=false:=Bb f u.out;clear f;have d:Below W.heap.size W J:=(by first | exact j | exact Cs j);obtain⟨⟨X,_⟩,⟨Y,_⟩⟩:=B.out.A1 d;obtain⟨⟨Z,_⟩,⟨k3,_⟩⟩:=x.out.A1 d
      (try go_wp2_with fail)
      refine hK.out _ _ (by(try dsimp only);go_keep) ?_;clear hK K hHeld;intro hHeld
      try simp only[Act.put,s1,s2,s3]
      refine tk 4 (h:=ts 5 (h:=ts 6 (h:=ts 7 (h:=?_))));refine rd [8] (rc (fun K hK=>?_) .nil);split
      · rename_i g
        exact absurd (show false=true from g) Bool.false_ne_true
      refine hK.out _ _ (by assumption) (fun hHeld=>?_);clear hK K
      try simp only[Act.put,s1,s2,s3]
      refine tk 9 (h:=tk 10 (h:=ts 11 (h:=ts 12 (h:=ts 13 (h:=ts 14 (h:=?_))))));refine rd [15] (rc (fun K hK=>?_) .nil);split
      · rename_i g
        exact absurd (show false=true from g) Bool.false_ne_true
      refine hK.out _ _ (by assumption) (fun hHeld=>?_);clear hK K
      try simp only[Act.put,s1,s2,s3]
      refine rd [16] (rc (fun K hK=>?_) .nil);split
      · rename_i g
        exact absurd (show false=true from g) Bool.false_ne_true
      refine hK.out _ _ (by assumption) (fun hHeld=>?_);clear hK K
      try simp only[Act.put,s1,s2,s3]
      refine tk 17 (h:=tk 18 (h:=?_));refine wpAnyH_done (by kernel_rfl) ?_ _;have m:=A8 b d;go_wp2;go_ret;exact⟨l.out false ⟨fun h=>(by cases h),fun h=>absurd h.1 u.out⟩,m⟩
def DT(p:A7)(rs:Int)(s:AG)(j:Nat):List Int:=rs :: Dm (CV p s j)
def Ds(p:A7)(rs:Int)(s:AG)(j i:Nat):List Int:=DT p rs s j ++ (AL s j :: Dm (kidsUp (AL (p.s (AL s j).toNat)) (AW (p.s (AL s j).toNat)) i))
theorem Vy(p:A7)(s:AG)(j:Nat):∀m,j<=m->∃r,CV p s m=CV p s j ++ r
 | 0,h=>⟨[],by rw[show j=0 by omega];simp⟩
 | m+1,h=>by
  by_cases e:j=m+1
  ·subst e;exact⟨[],by simp⟩
  ·obtain⟨r,a⟩:=Vy p s j m (by omega);exact⟨r ++ DA p (AL s m) (AW s m),by rw[CV,a,List.append_assoc]⟩
theorem Xz(a kb:Nat->Int)(j:Nat):∀m,j<=m->∃r,kidsUp a kb m=kidsUp a kb j ++ r
 | 0,h=>⟨[],by rw[show j=0 by omega];simp⟩
 | m+1,h=>by
  by_cases e:j=m+1
  ·subst e;exact⟨[],by simp⟩
  ·obtain⟨r,b⟩:=Xz a kb j m (by omega);exact⟨r ++ one (a m) (kb m),by rw[kidsUp,b,List.append_assoc]⟩
theorem Oq(l m:List (Int×Int)):Dm (l ++ m)=Dm l ++ Dm m:=by simp[Dm]
theorem OX{l:List Int}{x:Int}:(l ++ [x]).Nodup↔l.Nodup/\x∉l:=by
 rw[List.nodup_append];constructor
 ·rintro⟨c,_,g⟩;exact⟨c,fun i=>g x i x (by simp) rfl⟩
 ·rintro⟨c,f⟩;refine⟨c,by simp,fun a h b d e=>?_⟩;rw[List.mem_singleton]at d;subst d;subst e;exact f h
variable{p:A7}{rs:Int}
theorem RB{rb:Int}(a:¬Nil rs rb):Dm (AE p rs rb)=DT p rs (p.s rs.toNat) 8:=by
 unfold AE DT;rw[if_neg a];rfl
variable{s:AG}{j:Nat}
theorem zEt(hn:¬Nil (AL s j) (AW s j)):DA p (AL s j) (AW s j)=(AL s j,AW s j) :: Gm (p.s (AL s j).toNat):=if_neg hn
theorem Vn(hn:¬Nil (AL s j) (AW s j)):DT p rs s (j+1)=Ds p rs s j 8:=by
 unfold DT Ds DT;rw[CV,Oq,zEt hn];rfl
theorem zDf(hn:Nil (AL s j) (AW s j)):DT p rs s (j+1)=DT p rs s j:=by
 unfold DT;rw[CV,show DA p (AL s j) (AW s j) = [] from if_pos hn,List.append_nil]
theorem Va(p:A7)(rs:Int)(s:AG)(j:Nat):Ds p rs s j 0=DT p rs s j ++ [AL s j]:=rfl
variable{i:Nat}
theorem zEv(hn:Nil (AL (p.s (AL s j).toNat) i) (AW (p.s (AL s j).toNat) i)):Ds p rs s j (i+1)=Ds p rs s j i:=by
 unfold Ds;rw[kidsUp,show one (AL (p.s (AL s j).toNat) i) (AW (p.s (AL s j).toNat) i) = [] from if_pos hn,List.append_nil]
theorem zEu(hn:¬Nil (AL (p.s (AL s j).toNat) i) (AW (p.s (AL s j).toNat) i)):Ds p rs s j (i+1)=Ds p rs s j i ++ [AL (p.s (AL s j).toNat) i]:=by
 unfold Ds;rw[kidsUp,show one (AL (p.s (AL s j).toNat) i) (AW (p.s (AL s j).toNat) i) = [(AL (p.s (AL s j).toNat) i,AW (p.s (AL s j).toNat) i)] from if_neg hn,Oq,List.append_assoc];rfl
theorem UE(p:A7)(rs:Int)(s:AG)(a:j<=8):(DT p rs s j).length<=73:=by
 have:=OI p s j;simp only[DT,Dm,List.length_cons,List.length_map];omega
theorem zFx(p:A7)(rs:Int)(s:AG)(a:j<=8)(hi:i<=8):(Ds p rs s j i).length<=90:=by
 have b:=UE p rs s a;have c:=Iw (AL (p.s (AL s j).toNat)) (AW (p.s (AL s j).toNat)) i;simp only[Ds,Dm,List.length_append,List.length_cons,List.length_map];omega
theorem zDM{rb:Int}(e:¬Nil rs rb)(h:(Dm (AE p rs rb)).Nodup)(g:j<8)(hi:i<=8)(hn:¬Nil (AL (p.s rs.toNat) j) (AW (p.s rs.toNat) j)):(Ds p rs (p.s rs.toNat) j i).Nodup:=by
 rw[RB e]at h;obtain⟨r,d⟩:=Vy p (p.s rs.toNat) (j+1) 8 (by omega);obtain⟨f,a⟩:=Xz (AL (p.s (AL (p.s rs.toNat) j).toNat)) (AW (p.s (AL (p.s rs.toNat) j).toNat)) i 8 hi;have b:DT p rs (p.s rs.toNat) 8=DT p rs (p.s rs.toNat) (j+1) ++ Dm r:=by unfold DT;rw[d,Oq];rfl
 have c:Ds p rs (p.s rs.toNat) j 8=Ds p rs (p.s rs.toNat) j i ++ Dm f:=by
  unfold Ds;rw[a,Oq,List.append_assoc];rfl
 rw[b,Vn hn,c,List.append_assoc]at h;exact(List.nodup_append.1 h).1
def EK(p:A7)(xs xb:Int)(i:Nat):Int:=if Nil xs xb then 0 else AL (p.s xs.toNat) i
def EN(p:A7)(xs xb:Int)(i:Nat):Int:=if Nil xs xb then 0 else AW (p.s xs.toNat) i
def JS(p:A7)(xs xb:Int):Prop:=Nil xs xb\/(BA p xs xb/\(p.s xs.toNat).kn=8)
variable{xs xb:Int}
theorem PX(h:BO p xs xb):JS p xs xb:=by
 rcases h.2 with a | a
 ·exact Or.inl a
 ·right;refine⟨a.1.1,?_⟩;rcases R1 h.1 a.1.1 with b | b
  ·have:=a.1.2.1;omega
  ·exact b
theorem PP(h:BO p xs xb)(d:j<8):JS p (EK p xs xb j) (EN p xs xb j):=by
 by_cases b:Nil xs xb
 ·left;unfold EK EN;rw[if_pos b,if_pos b];exact⟨rfl,rfl⟩
 ·unfold EK EN;rw[if_neg b,if_neg b];rcases(h.2.resolve_left b).2.1.1 j d with a | a
  ·exact Or.inl a
  ·right;refine⟨a.1.1,?_⟩;rcases R1 h.1 a.1.1 with c | c
   ·have:=a.1.2.1;omega
   ·exact c
def DK(p:A7)(xs xb:Int)(n:Nat):Int:=EK p xs xb (n / 8)
def Dc(p:A7)(xs xb:Int)(n:Nat):Int:=EN p xs xb (n / 8)
def EL(p:A7)(xs xb:Int)(n:Nat):Int:=EK p (DK p xs xb n) (Dc p xs xb n) (n % 8)
def Ei(p:A7)(xs xb:Int)(n:Nat):Int:=EN p (DK p xs xb n) (Dc p xs xb n) (n % 8)
theorem B6.next{w2:World}{base g cap:Nat}{l:List (Int×Int)}{x y:Int}(h:w2.ownsRow base 40 2 (.slice (some ⟨g,0,none⟩) (l.length+1) cap) (l.length+1) (pcl l ++ [.int .i64 x,.int .i64 y])):B6 w2 base (.slice (some ⟨g,0,none⟩) (l.length+1) cap) (l ++ [(x,y)]):=by
 unfold B6;rw[Kx,List.length_append];exact h
def CR(rb birth:Int):Prop:=DN birth/\rb<=birth
theorem zE7{birth:Int}(h:BO p xs xb):((∀i,i<(AE p xs xb).length->¬birth<AK (AE p xs xb) i)/\DN birth)↔CR xb birth:=by
 constructor
 ·rintro⟨b,c⟩;refine⟨c,?_⟩;by_cases a:Nil xs xb
  ·rw[a.2];have:=c.1;omega
  ·have e:AE p xs xb=(xs,xb) :: CV p (p.s xs.toNat) 8:=if_neg a;have:=b 0 (by rw[e];simp);rw[e]at this;have d:AK ((xs,xb) :: CV p (p.s xs.toNat) 8) 0=xb:=rfl;rw[d]at this;omega
 ·rintro⟨b,c⟩;refine⟨fun i hi f=>?_,b⟩;by_cases a:Nil xs xb
  ·have e:AE p xs xb = []:=if_pos a;rw[e]at hi;simp at hi
  ·have g:(AI (AE p xs xb) i,AK (AE p xs xb) i)∈AE p xs xb:=by
    have:(AI (AE p xs xb) i,AK (AE p xs xb) i)=(AE p xs xb)[i]:=by
     unfold AI AK;rw[List.getD_eq_getElem?_getD,List.getElem?_eq_getElem hi,Option.getD_some]
    rw[this];exact List.getElem_mem hi
   have:=(Of h.1 (h.2.resolve_left a).1.1 _ g).2;have e:(AI (AE p xs xb) i,AK (AE p xs xb) i).2=AK (AE p xs xb) i:=rfl;omega
theorem YA{p:A7}(h:∀i,i<p.n->Am (p.s i)\/CH p (p.s i)):∀k,k<=p.n->Cm p.s k<=24*k
 | 0,_=>Nat.le_refl _
 | k+1,hk=>by
  have f:=YA h k (by omega);have hs:Ci (p.s k)<=24:=by
   unfold Ci;rcases h k (by omega)with a | a
   ·have c:=a.2.1;have b:(p.s k).data.size=0:=by
     have:=a.2.2;rw[Go.ByteArray.toList_eq]at this;have e:(p.s k).data.data=#[]:=(by simpa using this);show(p.s k).data.data.size=0;rw[e];rfl
    omega
   ·rcases a.2 with b | b
    ·omega
    ·have d:(p.s k).data.size=0:=by
      have:=b.2.1;rw[Go.ByteArray.toList_eq]at this;have e:(p.s k).data.data=#[]:=(by simpa using this);show(p.s k).data.data.size=0;rw[e];rfl
     omega
  show Cm p.s k+Ci (p.s k)<=_;omega
theorem MK(h:AX p):As p<=10000:=by
 have a:=YA h.2.1 p.n (Nat.le_refl _);have b:=((Ly p).2 h).2.1;have c:=h.1;unfold As;omega
theorem YP(v:Value)(n lo hi:Nat)(f g:Nat->Int)(w:World)(Q:Ay w lo hi v n f g)(hn:n<=1048576) :
 Calls Tryz.prog 37 #[v] w fun e w'=>(∃r kb,e = .returned r/\Bm w' kb r n f g/\(0<n->w.heap.size<=kb/\kb<w'.heap.size))/\Below w.heap.size w w':=by
 obtain⟨M,a,c,rfl,V,H⟩:=Q;have F:Hid (0<n->∃b off,a=some ⟨b,off,none⟩/\lo<=b/\b<hi/\∀i,i<n->w.cell? ⟨b,off+i*2,none⟩=some (.int .i64 (f i))/\w.cell? ⟨b,off+i*2+1,none⟩=some (.int .i64 (g i))):=H;have N:Hid (n<=maxLen):=M;clear H M;have T:=fun w=>Lib.run_eql_slice_nil (P:=Tryz.prog) w 41 40 a n c 0 0 (by kernel_rfl)
 cases a with
 | none=>
  have E:n=0:=by
   by_cases h:0<n
   ·obtain⟨b,off,B,_⟩:=F.out h;simp at B
   ·omega
  subst E;go_enter Tryz.func37,Tryz.ntmps37;go_wp2;go_ret;exact⟨⟨_,0,rfl,⟨Nat.zero_le _,none,0,rfl,Nat.le_refl _,fun h=>absurd h (Nat.lt_irrefl _)⟩,fun h=>absurd h (Nat.lt_irrefl _)⟩,Below.refl _ _⟩
 | some ad=>
  obtain⟨i0,hi,z⟩:=Option.map_eq_some_iff.1 Kb;simp only[Prod.mk.injEq]at z;obtain⟨L,hs,x⟩:=z;have p:∀(w':World),Below w.heap.size w w'->∀j u,(kc f g n)[j]?=some u->w'.cell? (ad.add j)=some u:=fun w' R j u I=>by
   by_cases O:0<n
   ·obtain⟨b,off,B,_,_,S⟩:=F.out O;simp only[Option.some.injEq]at B;subst B;have:=Um S j u I;have t:(⟨b,off,none⟩:Addr).add j=⟨b,off+j,none⟩:=(by unfold Addr.add;split<;>simp_all);rw[t]at this ⊢;exact(R.cell (AM this)).trans this
   ·obtain rfl:n=0:=(by omega);simp[kc]at I
  have s:Hid (∀(w':World),Below w.heap.size w w'->∀j u,(kc f g n)[j]?=some u->w'.cell? (ad.add j)=some u):=p;have A:Hid (Tryz.prog.info? 40=some i0/\i0.zero=some (.agg #[.int .i64 0,.int .i64 0])/\i0.size=2/\i0.bytes=16):=⟨hi,L,hs,x⟩;have m:(w.alloc (.cells #[] 40)).ownsRow w.heap.size 40 2 (.slice (some ⟨w.heap.size,0,none⟩) 0 0) 0 []:=World.ownsRow_made w #[] 0 (Nat.le_refl _) (Nat.zero_le _) (by simp);have d:Hid ((w.alloc (.cells #[] 40)).ownsRow w.heap.size 40 2 (.slice (some ⟨w.heap.size,0,none⟩) 0 0) 0 []):=m;clear hi L hs x p m;go_enter Tryz.func37,Tryz.ntmps37;go_wp2_with (first
   | (at_builtin;refine wpList_append_own _ rfl _ _ 41 rfl w.heap.size 40 i0 (.agg #[.int .i64 0,.int .i64 0]) 2 16 (by kernel_rfl) A.out.1 A.out.2.1 A.out.2.2.1 A.out.2.2.2 rfl (by decide) _ _ _ rfl d.out ad n c (kc f g n) rfl (KI f g n) ?c1 (Z6 f g n) ?c3 ?c4 ?c5 ?_))
  case c1=>exact s.out _ ((Below.refl _ _).alloc (Nat.le_refl _) _)
  case c3=>unfold maxLen;omega
  case c4=>omega
  case c5=>simp
  intro r C l k y;have D:Below w.heap.size w C:=((Below.refl _ _).alloc (Nat.le_refl _) _).grown k (by simp) (fun q U=>by have:=d.out.lt q U;omega);have o:C.ownsRow w.heap.size 40 2 r n (kc f g n):=(by simpa using l);obtain⟨kb,K,J⟩:=YF N.out o;have G:Hid (Bm C kb r n f g/\(0<n->w.heap.size<=kb/\kb<C.heap.size)):=⟨K,J⟩;clear K J l o k y;go_wp2;go_ret;exact⟨⟨r,kb,rfl,G.out.1,G.out.2⟩,D⟩
theorem zCS(r v1 t:Value)(lo hi:Nat)(s:AG)(w:World)(x:Cr w lo hi r v1 t s)(hn:s.kn<=1048576) :
 Calls Tryz.prog 185 #[.agg #[r,v1,t]] w (zGA s w):=by
 obtain⟨rfl,q,rfl,y⟩:=x;have q1:=q;obtain⟨_,a,c,rfl,_⟩:=q;go_enter Tryz.func185,Tryz.ntmps185;go_wp2_with fail;have h:=A9 w (.cells #[.int .i64 s.birth,.slice a s.kn c,.string s.data] 108);have f:=A8 h (A9 _ (.cells #[.int .i64 0,.slice none 0 0,.string ⟨#[]⟩] 108));refine(YP _ s.kn lo hi _ _ _ (q1.A1 f) hn).mono ?_;rintro e j ⟨⟨kv,kb,rfl,p,i⟩,b⟩;have u:Hid (Ca j w.heap.size (.int .i64 s.birth) (.slice a s.kn c) (.string s.data)):=((Ca.new w _ _ _ _).A1 (A9 _ _)).A1 b;have o:Hid (Ca j (w.heap.size+1) (.int .i64 0) (.slice none 0 0) (.string ⟨#[]⟩)):=by
  have:=((Ca.new (w.alloc (.cells #[.int .i64 s.birth,.slice a s.kn c,.string s.data] 108)) (.int .i64 0) (.slice none 0 0) (.string ⟨#[]⟩) 108).A1 b);rw[World.size_alloc]at this;exact this
 have m:=A8 f b;rw[World.size_alloc,World.size_alloc]at i;have k:Hid (Bm j kb kv s.kn s.ks s.kb/\(0<s.kn->w.heap.size+1+1<=kb/\kb<j.heap.size)):=⟨p,i⟩;obtain⟨_,n,g,rfl,_⟩:=p;clear h f b i;obtain⟨⟨z,A⟩,⟨B,C⟩,⟨D,E⟩⟩:=u.out;obtain⟨⟨y0,y1⟩,⟨F,G⟩,⟨H,I⟩⟩:=o.out;go_wp2;have d:=(o.out.other (b':=w.heap.size) (o':=1) (.slice n s.kn g) (by omega)).put (.int .i64 s.birth) (.slice n s.kn g) (.string s.data);refine bodyPost_ret (v:=.agg #[.int .i64 s.birth,.slice n s.kn g,.string s.data]) (by simp[results,Tryz.results185,go_sem,d.1.1,d.2.1.1,d.2.2.1]) rfl ⟨_,kb,rfl,?_,?_,?_⟩
 ·have i:=k.out.2;refine(((k.out.1.AD (AC.put _ _ _ _) ?_).AD (AC.put _ _ _ _) ?_).AD (AC.put _ _ _ _) ?_).AD (AC.put _ _ _ _) ?_
  all_goals exact fun l e=>by have:=i l;omega
 ·intro l;have:=k.out.2 l;simp only[World.size_setCell];omega
 ·exact(((m.setCell (by show _<=w.heap.size;omega) _).setCell (by show _<=w.heap.size+1;omega) _).setCell (by show _<=w.heap.size+1;omega) _).setCell (by show _<=w.heap.size+1;omega) _
theorem zCR(a:Option Addr)(n c:Nat)(xs:List Value)(w:World)(G:xs.length=n*1)(m:∀u∈xs,u.oneCell'=true)(hn:n<=1048576)
 (E:0<n->∃b off,a=some ⟨b,off,none⟩/\∀j u,xs[j]?=some u->w.cell? ⟨b,off+j,none⟩=some u) :
 Calls Tryz.prog 150 #[.slice a n c] w fun e w'=>∃o,e = .returned o/\w'.ownsRow w.heap.size 2 1 o n xs/\Below w.heap.size w w'/\(n=0->∃a,o = .slice a 0 0):=by
 have D:Hid (0<n->∃b off,a=some ⟨b,off,none⟩/\∀j u,xs[j]?=some u->w.cell? ⟨b,off+j,none⟩=some u):=E;have x:Hid (xs.length=n*1/\∀u∈xs,u.oneCell'=true):=⟨G,m⟩;clear E G m;have J:=fun w=>Lib.run_eql_slice_nil (P:=Tryz.prog) w 24 2 a n c 0 0 (by kernel_rfl)
 cases a with
 | none=>
  have A:n=0:=by
   by_cases h:0<n
   ·obtain⟨b,off,y,_⟩:=D.out h;simp at y
   ·omega
  subst A;have B:xs = []:=List.eq_nil_of_length_eq_zero (by simpa using x.out.1);subst B;go_enter Tryz.func150,Tryz.ntmps150;go_wp2;go_ret;exact⟨_,rfl,World.ownsRow_nil _ _ _ _,Below.refl _ _,fun _=>⟨_,rfl⟩⟩
 | some ad=>
  obtain⟨i0,hi,t⟩:=Option.map_eq_some_iff.1 VI;simp only[Prod.mk.injEq]at t;obtain⟨H,hs,s⟩:=t;have v:Hid (Tryz.prog.info? 2=some i0/\i0.zero=some (.int .i64 0)/\i0.size=1/\i0.bytes=8):=⟨hi,H,hs,s⟩;have d:Hid ((w.alloc (.cells #[] 2)).ownsRow w.heap.size 2 1 (.slice (some ⟨w.heap.size,0,none⟩) 0 0) 0 []):=World.ownsRow_made w #[] 0 (Nat.le_refl _) (Nat.zero_le _) (by simp);clear hi H hs s;go_enter Tryz.func150,Tryz.ntmps150;go_wp2_with (first
   | (at_builtin;refine L1 rfl _ _ 24 rfl w.heap.size 2 i0 (.int .i64 0) 1 8 (by kernel_rfl) v.out.1 v.out.2.1 v.out.2.2.1 v.out.2.2.2 rfl (by decide) _ _ _ rfl d.out (some ad) n c xs rfl x.out.1 x.out.2 ?c1 ?c3 ?c4 ?c5 ?_))
  case c1=>
   intro I;obtain⟨b,off,y,f⟩:=D.out I;exact⟨b,off,y,fun j u F=>(((Below.refl _ _).alloc (Nat.le_refl _) _).cell (AM (f j u F))).trans (f j u F)⟩
  case c3=>unfold maxLen;omega
  case c4=>omega
  case c5=>simp
  intro o C i g l;have z:Below w.heap.size w C:=((Below.refl _ _).alloc (Nat.le_refl _) _).grown g (by simp) (fun q K=>by have:=d.out.lt q K;omega);have k:C.ownsRow w.heap.size 2 1 o n xs:=(by simpa using i);have p:Hid (C.ownsRow w.heap.size 2 1 o n xs):=k;have r:Hid (n=0->o = .slice (some ⟨w.heap.size,0,none⟩) 0 0):=l;clear i k g l;go_wp2;go_ret;exact⟨o,rfl,p.out,z,fun e=>⟨_,r.out e⟩⟩
theorem zCz(a:Option Addr)(n c:Nat)(xs:List Value)(w:World)(G:xs.length=n*3)(m:∀u∈xs,u.oneCell'=true)(hn:n<=1048576)
 (E:0<n->∃b off,a=some ⟨b,off,none⟩/\∀j u,xs[j]?=some u->w.cell? ⟨b,off+j,none⟩=some u) :
 Calls Tryz.prog 184 #[.slice a n c] w fun e w'=>∃o,e = .returned o/\w'.ownsRow w.heap.size 108 3 o n xs/\Below w.heap.size w w'/\(n=0->∃a,o = .slice a 0 0):=by
 have D:Hid (0<n->∃b off,a=some ⟨b,off,none⟩/\∀j u,xs[j]?=some u->w.cell? ⟨b,off+j,none⟩=some u):=E;have x:Hid (xs.length=n*3/\∀u∈xs,u.oneCell'=true):=⟨G,m⟩;clear E G m;have J:=fun w=>Lib.run_eql_slice_nil (P:=Tryz.prog) w 23 108 a n c 0 0 (by kernel_rfl)
 cases a with
 | none=>
  have A:n=0:=by
   by_cases h:0<n
   ·obtain⟨b,off,y,_⟩:=D.out h;simp at y
   ·omega
  subst A;have B:xs = []:=List.eq_nil_of_length_eq_zero (by simpa using x.out.1);subst B;go_enter Tryz.func184,Tryz.ntmps184;go_wp2;go_ret;exact⟨_,rfl,World.ownsRow_nil _ _ _ _,Below.refl _ _,fun _=>⟨_,rfl⟩⟩
 | some ad=>
  obtain⟨i0,hi,t⟩:=Option.map_eq_some_iff.1 yx;simp only[Prod.mk.injEq]at t;obtain⟨H,hs,s⟩:=t;have v:Hid (Tryz.prog.info? 108=some i0/\i0.zero=some (.agg #[.int .i64 0,.slice none 0 0,.string ⟨#[]⟩])/\i0.size=3/\i0.bytes=48):=⟨hi,H,hs,s⟩;have d:Hid ((w.alloc (.cells #[] 108)).ownsRow w.heap.size 108 3 (.slice (some ⟨w.heap.size,0,none⟩) 0 0) 0 []):=World.ownsRow_made w #[] 0 (Nat.le_refl _) (Nat.zero_le _) (by simp);clear hi H hs s;go_enter Tryz.func184,Tryz.ntmps184;go_wp2_with (first
   | (at_builtin;refine L1 rfl _ _ 23 rfl w.heap.size 108 i0 (.agg #[.int .i64 0,.slice none 0 0,.string ⟨#[]⟩]) 3 48 (by kernel_rfl) v.out.1 v.out.2.1 v.out.2.2.1 v.out.2.2.2 rfl (by decide) _ _ _ rfl d.out (some ad) n c xs rfl x.out.1 x.out.2 ?c1 ?c3 ?c4 ?c5 ?_))
  case c1=>
   intro I;obtain⟨b,off,y,f⟩:=D.out I;exact⟨b,off,y,fun j u F=>(((Below.refl _ _).alloc (Nat.le_refl _) _).cell (AM (f j u F))).trans (f j u F)⟩
  case c3=>unfold maxLen;omega
  case c4=>omega
  case c5=>simp
  intro o C i g l;have z:Below w.heap.size w C:=((Below.refl _ _).alloc (Nat.le_refl _) _).grown g (by simp) (fun q K=>by have:=d.out.lt q K;omega);have k:C.ownsRow w.heap.size 108 3 o n xs:=(by simpa using i);have p:Hid (C.ownsRow w.heap.size 108 3 o n xs):=k;have r:Hid (n=0->o = .slice (some ⟨w.heap.size,0,none⟩) 0 0):=l;clear i k g l;go_wp2;go_ret;exact⟨o,rfl,p.out,z,fun e=>⟨_,r.out e⟩⟩
def GH(w:World)(b:Nat)(v0 v1 v2 v3 v4:Value):Prop:=AF w b 0 v0/\AF w b 1 v1/\AF w b 2 v2/\AF w b 3 v3/\AF w b 4 v4
variable{w w':World}{b:Nat}{v0 v1 v2:Value}
theorem GH.A1{v3 v4:Value}(h:GH w b v0 v1 v2 v3 v4)(t:Below w.heap.size w w'):GH w' b v0 v1 v2 v3 v4:=⟨h.1.A1 t,h.2.1.A1 t,h.2.2.1.A1 t,h.2.2.2.1.A1 t,h.2.2.2.2.A1 t⟩
theorem GH.new(w:World)(b v1 c d e:Value)(t:TypeId):GH (w.alloc (.cells #[b,v1,c,d,e] t)) w.heap.size b v1 c d e:=by
 have a:(w.alloc (.cells #[b,v1,c,d,e] t)).heap[w.heap.size]?=some (.cells #[b,v1,c,d,e] t):=heap_alloc_new _ _;exact⟨At a rfl,At a rfl,At a rfl,At a rfl,At a rfl⟩
abbrev put5(w:World)(b:Nat)(u0 u1 u2 u3 u4:Value):World:=((((w.setCell ⟨b,0,none⟩ u0).setCell ⟨b,1,none⟩ u1).setCell ⟨b,2,none⟩ u2).setCell ⟨b,3,none⟩ u3).setCell ⟨b,4,none⟩ u4
theorem GH.put{v3 v4:Value}(h:GH w b v0 v1 v2 v3 v4)(a d u2 u3 u4:Value):GH (put5 w b a d u2 u3 u4) b a d u2 u3 u4:=
 have H (i:Nat) (u v:Value) (e:[a,d,u2,u3,u4][i]?=some u) (c:AF w b i v):AF (put5 w b a d u2 u3 u4) b i u:=LU [a,d,u2,u3,u4] w 0 i i e (Nat.zero_add i) c
 ⟨H 0 _ _ rfl h.1,H 1 _ _ rfl h.2.1,H 2 _ _ rfl h.2.2.1,H 3 _ _ rfl h.2.2.2.1,H 4 _ _ rfl h.2.2.2.2⟩
theorem AC.put5(w:World)(b:Nat)(a c u2 u3 u4:Value):AC (fun k=>k=b) w (put5 w b a c u2 u3 u4):=
 ((((AC.put w b 0 a).trans (AC.put _ b 1 c)).trans (AC.put _ b 2 u2)).trans (AC.put _ b 3 u3)).trans (AC.put _ b 4 u4)
structure Es where
 pool:A7
 ps:Int
 pb:Int
 code:Int
def zHb(o:Es)(w:World)(e:Ending)(w':World):Prop:=∃v0 v1,e = .returned (.agg #[v0,v1,.int .i64 o.ps,.int .i64 o.pb,.int .i64 o.code])/\CF w' w.heap.size w'.heap.size v0 v1 o.pool/\Below w.heap.size w w'
variable{lo hi:Nat}
theorem U5:CF w lo hi (.slice none 0 0) (.slice none 0 0) (Ce 0):=
 zEz (g:=0) (Nat.zero_le _) ⟨none,0,rfl,Nat.le_refl _,fun h=>absurd h (Nat.lt_irrefl _)⟩ (fun i h=>absurd h (Nat.not_lt_zero _))
variable{n:Nat}{f:Nat->AG}{cv:Nat->Value}
theorem zFS{off:Nat}(h:∀i,i<n->w.cell? ⟨b,off+i*3,none⟩=some (.int .i64 (f i).birth)/\w.cell? ⟨b,off+i*3+1,none⟩=some (cv i)/\w.cell? ⟨b,off+i*3+2,none⟩=some (.string (f i).data)) :
 ∀j u,(sc f cv n)[j]?=some u->w.cell? ⟨b,off+j,none⟩=some u:=by
 intro j u c;have g:j<n*3:=by
  have:=(List.getElem?_eq_some_iff.1 c).1
  rwa [LN]at this
 obtain⟨c0,c1,d⟩:=h (j / 3) (by omega);have e:=Mg f cv n (j / 3) (j % 3) (by omega) (by omega);rw[show j / 3*3+j % 3=j by omega,c]at e;rcases(by omega:j % 3=0\/j % 3=1\/j % 3=2)with a | a | a
 ·rw[a]at e;simp at e;subst e;rw[show off+j=off+j / 3*3 by omega];exact c0
 ·rw[a]at e;simp at e;subst e;rw[show off+j=off+j / 3*3+1 by omega];exact c1
 ·rw[a]at e;simp at e;subst e;rw[show off+j=off+j / 3*3+2 by omega];exact d
variable{a:Option Addr}{c:Nat}
theorem BU.values(h:BU w lo hi (.slice a n c) n f) :
 ∃e:Nat->Value,(∀i,i<n->Cr w lo hi (.int .i64 (f i).birth) (e i) (.string (f i).data) (f i))/\
  (0<n->∃b off,a=some ⟨b,off,none⟩/\lo<=b/\b<hi/\∀j u,(sc f e n)[j]?=some u->w.cell? ⟨b,off+j,none⟩=some u):=by
 obtain⟨_,v,c0,p,_,g⟩:=h;simp only[Value.slice.injEq,true_and]at p;obtain⟨rfl,rfl⟩:=p;by_cases hn:0<n
 ·obtain⟨b,off,q,k,l,r⟩:=g hn;have m:∀i,∃x,i<n->(w.cell? ⟨b,off+i*3,none⟩=some (.int .i64 (f i).birth)/\w.cell? ⟨b,off+i*3+1,none⟩=some x/\w.cell? ⟨b,off+i*3+2,none⟩=some (.string (f i).data))/\Cr w lo hi (.int .i64 (f i).birth) x (.string (f i).data) (f i):=fun i=>by
   by_cases hi:i<n
   ·obtain⟨y,v1,z,s,q1,t,hs⟩:=r i hi;have o:=hs;obtain⟨rfl,_,rfl,_⟩:=o;exact⟨v1,fun _=>⟨⟨s,q1,t⟩,hs⟩⟩
   ·exact⟨.slice none 0 0,fun h=>absurd h hi⟩
  obtain⟨e,d⟩:=Classical.axiomOfChoice m;exact⟨e,fun i hi=>(d i hi).2,fun _=>⟨b,off,q,k,l,zFS fun i hi=>(d i hi).1⟩⟩
 ·exact⟨fun _=>.slice none 0 0,fun i hi=>absurd hi (by omega),fun h=>absurd h hn⟩
theorem Cr.Bv(h:Cr w lo hi v0 v1 v2 s):∃a kc,v1 = .slice a s.kn kc:=by
 obtain⟨_,⟨_,a,kc,h,_⟩,_⟩:=h;exact⟨a,kc,h⟩
structure GI (wr:World) (bs n k:Nat) (f:Nat->AG) (kb:Nat->Nat) (kv cv:Nat->Value):Prop where
 cells:∀j,j<n->AF wr bs (j*3) (.int .i64 (f j).birth)/\AF wr bs (j*3+1) (if j<k then kv j else cv j)/\AF wr bs (j*3+2) (.string (f j).data)
 kids:∀j,j<k->Bm wr (kb j) (kv j) (f j).kn (f j).ks (f j).kb
 Bq:∀j,j<k->0<(f j).kn->bs<kb j/\kb j<wr.heap.size
 BY:MC kb k f
variable{wr:World}{bs:Nat}{kb:Nat->Nat}{kv:Nat->Value}
theorem GI.A1{k:Nat}(h:GI wr bs n k f kb kv cv)(t:Below wr.heap.size wr w'):GI w' bs n k f kb kv cv:=
 ⟨fun j a=>⟨(h.cells j a).1.A1 t,(h.cells j a).2.1.A1 t,(h.cells j a).2.2.A1 t⟩,fun j a=>(h.kids j a).A1 t,fun j a b=>by have:=h.Bq j a b;have:=t.size;omega,h.BY⟩
theorem GI.next{w1:World}{k:Nat}{v:Value}(h:GI wr bs n k f kb kv cv)(y:k<n)(u:bs<wr.heap.size)(t:Below wr.heap.size wr w1)
 (w:Bm w1 b v (f k).kn (f k).ks (f k).kb) (l:0<(f k).kn->wr.heap.size<=b/\b<w1.heap.size) :
 GI (((w1.setCell ⟨bs,k*3,none⟩ (.int .i64 (f k).birth)).setCell ⟨bs,k*3+1,none⟩ v).setCell ⟨bs,k*3+2,none⟩ (.string (f k).data)) bs n (k+1) f (fun j=>if j=k then b else kb j) (fun j=>if j=k then v else kv j) cv:=by
 have g:=h.A1 t;refine⟨fun j m=>?_,fun j m=>?_,fun j m c=>?_,fun i j hi m q o p=>?_⟩
 ·obtain⟨c0,c1,r⟩:=g.cells j m;by_cases e:j=k
  ·subst e;rw[if_pos (by omega),if_pos rfl];exact⟨((c0.set _).other _ (Or.inr (by omega))).other _ (Or.inr (by omega)),((c1.other _ (Or.inr (by omega))).set _).other _ (Or.inr (by omega)),((r.other _ (Or.inr (by omega))).other _ (Or.inr (by omega))).set _⟩
  ·rw[if_neg e];have s:(if j<k+1 then kv j else cv j)=if j<k then kv j else cv j:=by
    by_cases a:j<k
    ·rw[if_pos a,if_pos (by omega)]
    ·rw[if_neg a,if_neg (by omega)]
   rw[s];exact⟨((c0.other _ (Or.inr (by omega))).other _ (Or.inr (by omega))).other _ (Or.inr (by omega)),((c1.other _ (Or.inr (by omega))).other _ (Or.inr (by omega))).other _ (Or.inr (by omega)),((r.other _ (Or.inr (by omega))).other _ (Or.inr (by omega))).other _ (Or.inr (by omega))⟩
 ·by_cases e:j=k
  ·subst e;simp only[if_true];refine((w.AD (AC.put _ _ _ _) ?_).AD (AC.put _ _ _ _) ?_).AD (AC.put _ _ _ _) ?_
   all_goals exact fun c x=>by have:=l c;omega
  ·simp only[if_neg e];refine(((g.kids j (by omega)).AD (AC.put _ _ _ _) ?_).AD (AC.put _ _ _ _) ?_).AD (AC.put _ _ _ _) ?_
   all_goals exact fun c x=>by have:=g.Bq j (by omega) c;omega
 ·simp only[World.size_setCell];by_cases e:j=k
  ·subst e;rw[if_pos rfl];have:=l c;omega
  ·rw[if_neg e];have:=g.Bq j (by omega) c;omega
 ·show(if i=k then b else kb i)≠(if j=k then b else kb j);by_cases d:i=k
  ·by_cases a:j=k
   ·omega
   ·rw[if_pos d,if_neg a];subst d;have:=l o;have:=h.Bq j (by omega) p;omega
  ·by_cases a:j=k
   ·rw[if_neg d,if_pos a];subst a;have:=l p;have:=h.Bq i (by omega) o;omega
   ·rw[if_neg d,if_neg a];exact h.BY i j (by omega) (by omega) q o p
theorem GI.own(h:GI wr bs n n f kb kv cv)(m:n<=maxLen)(g:0<n->a=some ⟨bs,0,none⟩)(k:n<=c)(hs:∀j,j<n->(f j).data.size<=maxLen):FB wr bs kb kv (.slice a n c) n f:=
 ⟨m,a,c,rfl,k,fun d=>⟨0,g d,fun i hi=>by
  obtain⟨c0,c1,b⟩:=h.cells i hi;rw[if_pos hi]at c1;rw[Nat.zero_add];exact⟨c0,c1,b,h.kids i hi,hs i hi,fun l e=>by have:=h.Bq i hi l;omega⟩⟩⟩
theorem Yb(v:Value)(n lo hi:Nat)(f:Nat->AG)(w:World)(N:BU w lo hi v n f)(hn:n<=1048576)(S:∀j,j<n->(f j).kn<=1048576) :
 Calls Tryz.prog 146 #[v] w fun e w'=>∃V y kb kv,e = .returned V/\FB w' y kb kv V n f/\MC kb n f/\(∀k,Fd y kb n f k->w.heap.size<=k/\k<w'.heap.size)/\Below w.heap.size w w':=by
 have Hm:=Al N.1;have q1:=N;obtain⟨_,a,c,rfl,_,_⟩:=N;obtain⟨A,d,E⟩:=q1.values;have F:=Al d;have Hk:=Al S;have x:0<n->∃b off,a=some ⟨b,off,none⟩/\∀j u,(sc f A n)[j]?=some u->w.cell? ⟨b,off+j,none⟩=some u:=fun p=>by
  obtain⟨b,off,h2,_,_,h3⟩:=E p;exact⟨b,off,h2,h3⟩
 have C:=zI9 f A n (fun i hi=>by obtain⟨U,kc,e⟩:=(d i hi).Bv;rw[e];rfl);clear d S q1 E;go_enter Tryz.func146,Tryz.ntmps146;go_wp2_with fail;refine(zCz a n c (sc f A n) w (LN _ _ _) C hn x).mono ?_;rintro e W ⟨V,rfl,t,Q,_⟩;obtain⟨a1,c1,rfl,T⟩:=C6 t;clear C x;have B:∃y,(0<n->a1=some ⟨y,0,none⟩/\w.heap.size<=y/\y<W.heap.size)/\GI W y n 0 f (fun _=>0) A A:=by
  by_cases p:0<n
  ·obtain⟨g,cap,hv,_,r,K,m⟩:=Gd t p;simp only[Value.slice.injEq,true_and]at hv;obtain⟨rfl,rfl⟩:=hv;refine⟨g,fun _=>⟨rfl,r,K⟩,fun j l=>⟨?_,?_,?_⟩,fun j l=>absurd l (Nat.not_lt_zero _),fun j l=>absurd l (Nat.not_lt_zero _),fun i j hi=>absurd hi (Nat.not_lt_zero _)⟩
   ·have:=m (j*3+0) _ (Mg f A n j 0 l (by omega));simpa using this
   ·have:=m (j*3+1) _ (Mg f A n j 1 l (by omega));simpa using this
   ·have:=m (j*3+2) _ (Mg f A n j 2 l (by omega));simpa using this
  ·exact⟨0,fun h=>absurd h p,fun j l=>absurd l (by omega),fun j l=>absurd l (Nat.not_lt_zero _),fun j l=>absurd l (Nat.not_lt_zero _),fun i j hi=>absurd hi (Nat.not_lt_zero _)⟩
 obtain⟨y,B,s⟩:=B;have z:=Al B;have G:=Al s;clear t B s;go_wp2
 go_loopw [4,5,10] (fun _ _ i wr=>∃(k:Nat) (kb:Nat->Nat) (kv:Nat->Value),k<=n/\i = .int .i64 k/\GI wr y n k f kb kv A/\Below w.heap.size w wr/\W.heap.size<=wr.heap.size) (fun _ _ i _=>n - (intOf i).toNat)
 case atStart=>exact⟨0,_,_,Nat.zero_le _,rfl,G.out,Q,Nat.le_refl _⟩
 case round=>
  obtain⟨k,kb,kv,S,rfl,X,P,hz⟩:=hrel;have I:=Al X;clear X;by_cases o:k<n
  ·have Y:(k:Int)<(n:Int):=(by omega);obtain⟨rfl,r,K⟩:=z.out (by omega);obtain⟨U,kc,d⟩:=(F.out k o).Bv;have M:Hid (Cr wr lo hi (.int .i64 (f k).birth) (.slice U (f k).kn kc) (.string (f k).data) (f k)):=by
    have:=(F.out k o).A1 P;rw[d]at this;exact this
   obtain⟨⟨Z,r0⟩,q1,⟨q2,r2⟩⟩:=I.out.cells k o;rw[if_neg (by omega),d]at q1;obtain⟨q1,r1⟩:=q1;go_wp2_with fail;have O:=A9 wr (.cells #[.int .i64 (f k).birth,.slice U (f k).kn kc,.string (f k).data] 108);refine(zCS _ _ _ lo hi (f k) _ (M.out.A1 O) (Hk.out k o)).mono ?_;rintro e w2 ⟨nv,nb,rfl,H,D,J⟩;obtain⟨_,na,nc,rfl,_⟩:=id H;have q:=A8 O J;have L:=Al (I.out.next o (by omega) q H (fun p=>by have:=D p;rw[World.size_alloc]at this;omega));have R:=A8 P q;have iA:=q.size;clear Z q1 q2 r0 r1 r2;obtain⟨⟨Z,r0⟩,q1,⟨q2,r2⟩⟩:=(I.out.A1 q).cells k o;rw[if_neg (by omega),d]at q1;obtain⟨q1,r1⟩:=q1;clear H D J O q d;go_wp2;go_roundw
   case rel=>exact⟨k+1,_,_,by omega,by go_num,L.out,((R.setCell r _).setCell r _).setCell r _,by simp only[World.size_setCell];omega⟩
   case measure=>simp[intOf];omega
  ·obtain rfl:k=n:=(by omega);go_wp2;go_ret;refine⟨_,y,kb,kv,rfl,I.out.own Hm.out (fun p=>(z.out p).1) T (fun j l=>(F.out j l).2.2.2),I.out.BY,fun j l=>?_,P⟩;rcases l with⟨p,rfl⟩ | ⟨i,hi,p,rfl⟩
   ·have:=z.out p;omega
   ·have:=z.out (by omega);have:=I.out.Bq i hi p;omega
theorem YO(v0 v1:Value)(lo hi:Nat)(p:A7)(w:World)(U:DU w lo hi v0 v1 p)(hn:As p<=1048576):Calls Tryz.prog 110 #[.agg #[v0,v1]] w (zG9 p w):=by
 have S:=Al U;obtain⟨⟨Y,a,c,rfl,mc,g1⟩,⟨Z,y,c',rfl,mA,g2⟩⟩:=U;have Hm:=Al (And.intro Y Z);clear g1 g2 Y Z;unfold As at hn;have Hn:Hid (∀j,j<p.n->(p.s j).kn<=1048576):=fun j hj=>by have h2:=UF p.s hj;unfold Ci at h2;omega
 have N:p.n<=1048576:=by omega
 have O:p.hn<=1048576:=by omega
 clear hn;have z:=A9 w (.cells #[.slice a p.n c,.slice y p.hn c'] 26);have m:=A8 z (A9 _ (.cells #[.slice none 0 0,.slice none 0 0] 26));have D:=Al ((Ad.new w (.slice a p.n c) (.slice y p.hn c') 26).A1 (A9 _ (.cells #[.slice none 0 0,.slice none 0 0] 26)));have u:=Ad.new (w.alloc (.cells #[.slice a p.n c,.slice y p.hn c'] 26)) (.slice none 0 0) (.slice none 0 0) 26;rw[World.size_alloc]at u;have E:=Al u;clear z u;go_enter Tryz.func110,Tryz.ntmps110;go_wp2_with fail;generalize V:(w.alloc (.cells #[.slice a p.n c,.slice y p.hn c'] 26)).alloc (.cells #[.slice none 0 0,.slice none 0 0] 26)=W at D E m ⊢;have X:W.heap.size=w.heap.size+2:=by rw[<-V,World.size_alloc,World.size_alloc]
 clear V;obtain⟨⟨x0,x1⟩,⟨x2,x3⟩⟩:=D.out;obtain⟨⟨y0,y1⟩,⟨y2,y3⟩⟩:=E.out;go_region_held3 (fun w'=>w'.cell? ⟨w.heap.size,0,none⟩=some (.slice a p.n c)/\w'.cell? ⟨w.heap.size,1,none⟩=some (.slice y p.hn c')) (go_keep)
  (first
   | (go_at_call 146;refine(Yb _ p.n lo hi p.s _ ?_ N Hn.out).mono ?_;(exact S.out.1.A1 m.drew);rintro e R ⟨v',T,kb,kv,rfl,P,A,C,B⟩;obtain⟨_,H,q,rfl,_⟩:=id P;have b:=Cs B;obtain⟨⟨z0,z1⟩,⟨z2,z3⟩⟩:=D.out.A1 b)
   | (go_at_call 150;refine(zCR _ _ _ (ic p.h p.hn) _ (Ih _ _) (zHu _ _) O ?_).mono ?_;(exact SU S.out.2 rfl (A8 m b));rintro e I ⟨v',rfl,g,l,Q⟩;obtain⟨G,o,rfl,_⟩:=C6 g;have d:=A8 b l;obtain⟨⟨z4,z5⟩,⟨z6,z7⟩⟩:=D.out.A1 d;have J:=Al (E.out.A1 d);obtain⟨⟨z8,z9⟩,⟨oA,pA⟩⟩:=E.out.A1 d))
 obtain⟨hb,r,f⟩:=zCF Hm.out.2 g Q;have kA:W.heap.size<=R.heap.size:=b.size;have lA:R.heap.size<=I.heap.size:=l.size;have i:∀k,Fd T kb p.n p.s k->W.heap.size<=k/\k<R.heap.size:=C;have K:Hid (CF I (w.heap.size+2) I.heap.size (.slice H p.n q) (.slice G p.hn o) p):=by
  refine⟨T,hb,kb,kv,P.A1 l,A,r,fun L hx=>?_,fun k F=>?_⟩
  ·have:=i _ hx;have:=f L;omega
  ·rcases F with F | ⟨L,rfl⟩
   ·have:=i _ F;omega
   ·have:=f L;omega
 have M:=A8 m d;clear r f C i P A g B b l d;go_wp2;have x:=J.out.put (.slice H p.n q) (.slice G p.hn o);refine bodyPost_ret (v:=.agg #[.slice H p.n q,.slice G p.hn o]) (by simp[results,Tryz.results110,go_sem,x.1.1,x.2.1]) rfl ⟨_,_,rfl,?_,?_⟩
 ·have t:=(AC.put I (w.heap.size+1) 0 (.slice H p.n q)).trans (AC.put _ (w.heap.size+1) 1 (.slice G p.hn o));have X:=t.size;exact(K.out.AD t (fun k F=>by omega)).wide (by omega) X
 ·exact(M.setCell (by show _<=w.heap.size+1;omega) _).setCell (by show _<=w.heap.size+1;omega) _
def C9(p:A7)(xs:Int):A7:={n:=p.n,s:=p.s,hn:=p.hn+1,h:=fun i=>if i=p.hn then xs else p.h i}
open Classical in
noncomputable def JA(p:A7)(xs xb:Int):Es:=if AX p then(if BA p xs xb/\¬Has p.hn p.h xs then⟨C9 p xs,0,0,0⟩else⟨Ce 0,0,0,4⟩)else⟨Ce 0,0,0,1⟩
theorem yr(h:¬AX p):JA p xs xb=⟨Ce 0,0,0,1⟩:=if_neg h
theorem VE(h:AX p)(a:¬(BA p xs xb/\¬Has p.hn p.h xs)):JA p xs xb=⟨Ce 0,0,0,4⟩:=(if_pos h).trans (if_neg a)
theorem TL(h:AX p)(b:BA p xs xb)(a:¬Has p.hn p.h xs):JA p xs xb=⟨C9 p xs,0,0,0⟩:=(if_pos h).trans (if_pos ⟨b,a⟩)
variable{f:Nat->Int}
theorem zEQ{g:Nat->Int}(h:∀i,i<n->f i=g i):ic f n=ic g n:=by
 induction n with
 | zero=>rfl
 | succ n ih=>
  unfold ic;rw[ih (fun i hi=>h i (by omega)),h n (by omega)]
theorem zGd(p:A7)(xs:Int):ic (C9 p xs).h (p.hn+1)=ic p.h p.hn ++ [.int .i64 xs]:=by
 show ic (C9 p xs).h p.hn ++ [.int .i64 ((C9 p xs).h p.hn)]=_;rw[zEQ (f:=(C9 p xs).h) (g:=p.h) (fun i hi=>if_neg (by omega)),show(C9 p xs).h p.hn=xs from if_pos rfl]
theorem zII(w:World)(a b d e:Value)(c f g:TypeId) :
 Ad (((w.alloc (.cells #[a,b] c)).alloc (.cells #[d,e] f)).alloc (.cells #[.slice none 0 0,.slice none 0 0,.int .i64 0,.int .i64 0,.int .i64 0] g)) w.heap.size a b/\
 Ad (((w.alloc (.cells #[a,b] c)).alloc (.cells #[d,e] f)).alloc (.cells #[.slice none 0 0,.slice none 0 0,.int .i64 0,.int .i64 0,.int .i64 0] g)) (w.heap.size+1) d e/\
 GH (((w.alloc (.cells #[a,b] c)).alloc (.cells #[d,e] f)).alloc (.cells #[.slice none 0 0,.slice none 0 0,.int .i64 0,.int .i64 0,.int .i64 0] g)) (w.heap.size+1+1) (.slice none 0 0) (.slice none 0 0) (.int .i64 0) (.int .i64 0) (.int .i64 0)/\
 Below w.heap.size w (((w.alloc (.cells #[a,b] c)).alloc (.cells #[d,e] f)).alloc (.cells #[.slice none 0 0,.slice none 0 0,.int .i64 0,.int .i64 0,.int .i64 0] g))/\
 (((w.alloc (.cells #[a,b] c)).alloc (.cells #[d,e] f)).alloc (.cells #[.slice none 0 0,.slice none 0 0,.int .i64 0,.int .i64 0,.int .i64 0] g)).heap.size=w.heap.size+3:=by
 refine⟨((Ad.new w a b c).A1 (A9 _ _)).A1 (A9 _ _),?_,?_,A8 (A8 (A9 _ _) (A9 _ _)) (A9 _ _),by simp⟩
 ·have:=(Ad.new (w.alloc (.cells #[a,b] c)) d e f).A1 (A9 _ (.cells #[.slice none 0 0,.slice none 0 0,.int .i64 0,.int .i64 0,.int .i64 0] g));rw[World.size_alloc]at this;exact this
 ·have:=GH.new ((w.alloc (.cells #[a,b] c)).alloc (.cells #[d,e] f)) (.slice none 0 0) (.slice none 0 0) (.int .i64 0) (.int .i64 0) (.int .i64 0) g;rw[World.size_alloc,World.size_alloc]at this;exact this
theorem zGq{R:Nat}{s0 s1 u2 u3 u4:Value}(f:CF wr lo hi s0 s1 p)(b:R<lo)(e:w.heap.size<=R)(c:hi<=wr.heap.size)(a:Below w.heap.size w wr) :
 CF (put5 wr R s0 s1 u2 u3 u4) w.heap.size (put5 wr R s0 s1 u2 u3 u4).heap.size s0 s1 p/\Below w.heap.size w (put5 wr R s0 s1 u2 u3 u4):=by
 have t:=AC.put5 wr R s0 s1 u2 u3 u4;have g:=t.size;exact⟨(f.AD t (fun k d=>by omega)).wide (by omega) (by omega),a.trans (t.A1 (by have:=a.size;omega) (fun k d=>by omega))⟩
theorem QM{R:Nat}{u2 u3 u4:Value}(b:w.heap.size<=R)(a:Below w.heap.size w wr) :
 CF (put5 wr R (.slice none 0 0) (.slice none 0 0) u2 u3 u4) w.heap.size (put5 wr R (.slice none 0 0) (.slice none 0 0) u2 u3 u4).heap.size (.slice none 0 0) (.slice none 0 0) (Ce 0)/\Below w.heap.size w (put5 wr R (.slice none 0 0) (.slice none 0 0) u2 u3 u4):=by
 have t:=AC.put5 wr R (.slice none 0 0) (.slice none 0 0) u2 u3 u4;exact⟨U5,a.trans (t.A1 (by have:=a.size;omega) (fun k c=>by omega))⟩
theorem zIZ(w:World)(x:Value)(t:TypeId):∀j u,[x][j]?=some u->(w.alloc (.cells #[x] t)).cell? ((⟨w.heap.size,0,none⟩:Addr).add j)=some u:=by
 intro j u a
 match j,a with
 | 0,a=>simp at a;subst a;simp[Addr.add]
 | (j+1),a=>simp at a
theorem yF(x:Int):∀u∈[Value.int .i64 x],u.oneCell'=true:=by
 intro u a;simp only[List.mem_cons,List.not_mem_nil,or_false]at a;rw[a];rfl
theorem Sd(h:DC w lo hi (.slice a n c) n f)(i:Below w.heap.size w w'):∀b,a=some b->∀j u,(ic f n)[j]?=some u->w'.cell? (b.add j)=some u:=by
 intro b d j u e;have l:j<n:=by
  have:=(List.getElem?_eq_some_iff.1 e).1;rw[Ih]at this;omega
 obtain⟨m,off,g,k⟩:=SU h rfl i (by omega);rw[g]at d;simp only[Option.some.injEq]at d;subst d;rw[add_lit];exact k j u e
theorem U4(h:DC w lo hi (.slice a n c) n f):a=none->n=0/\n=0:=fun e=>by
 obtain⟨_,j,k,hv,_,i⟩:=h;simp only[Value.slice.injEq,true_and]at hv;obtain⟨rfl,rfl⟩:=hv;by_cases d:0<n
 ·obtain⟨b,off,g,_⟩:=i d;rw[g]at e;cases e
 ·omega
theorem YZ(h:w.grownBy w' none):Below w.heap.size w w':=⟨h.os,h.tape,h.output,h.size,fun k a=>h.block k a (by simp)⟩
theorem zF0{x:Value}(h:w.cell? ⟨b,0,none⟩=some x):∀j u,[x][j]?=some u->w.cell? ((⟨b,0,none⟩:Addr).add j)=some u:=by
 intro j u a
 match j,a with
 | 0,a=>simp at a;subst a;rw[add_lit];exact h
 | (j+1),a=>simp at a
def BJ(p:A7)(i:Nat)(s:AG):A7:={n:=p.n,s:=fun j=>if j=i then s else p.s j,hn:=p.hn,h:=p.h}
def C2(n:Nat)(f:Nat->AG)(i:Nat):Prop:=i<n/\Am (f i)/\∀j,j<i->¬Am (f j)
theorem C2.uniq{f:Nat->AG}(h:C2 n f i)(a:C2 n f j):i=j:=by
 rcases Nat.lt_trichotomy i j with e | e | e
 ·exact absurd h.2.1 (a.2.2 i e)
 ·exact e
 ·exact absurd a.2.1 (h.2.2 j e)
open Classical in
noncomputable def Cj(p:A7)(s:AG):Es:=
 if AX p/\¬Am s/\CH p s then(if h:∃i,C2 p.n p.s i then⟨BJ p (Classical.choose h) s,((Classical.choose h:Nat):Int),s.birth,0⟩else⟨Ce 0,0,0,6⟩)else⟨Ce 0,0,0,1⟩
theorem M2(h:AX p/\¬Am s/\CH p s)(a:∀j,j<p.n->¬Am (p.s j)):Cj p s=⟨Ce 0,0,0,6⟩:=by
 unfold Cj;rw[if_pos h,dif_neg (fun ⟨i,hi⟩=>a i hi.1 hi.2.1)]
theorem LW(h:AX p/\¬Am s/\CH p s)(b:C2 p.n p.s i):Cj p s=⟨BJ p i s,(i:Int),s.birth,0⟩:=by
 unfold Cj;have a:∃i,C2 p.n p.s i:=⟨i,b⟩;rw[if_pos h,dif_pos a];have e:Classical.choose a=i:=(Classical.choose_spec a).uniq b;rw[e]
theorem Vx(f:Nat->AG)(i:Nat)(s:AG):∀n,Cm (fun j=>if j=i then s else f j) n<=Cm f n+(if i<n then Ci s else 0)
 | 0=>Nat.zero_le _
 | n+1=>by
  have a:=Vx f i s n;show Cm (fun j=>if j=i then s else f j) n+Ci (if n=i then s else f n)<=Cm f n+Ci (f n)+_;by_cases e:n=i
  ·rw[if_pos e,if_pos (by omega)];rw[if_neg (by omega)]at a;omega
  ·rw[if_neg e];by_cases b:i<n
   ·rw[if_pos b]at a;rw[if_pos (by omega)];omega
   ·rw[if_neg b]at a;rw[if_neg (by omega)];omega
theorem zDi(p:A7)(i:Nat)(s:AG):As (BJ p i s)<=As p+Ci s:=by
 have h:=Vx p.s i s p.n;have a:(if i<p.n then Ci s else 0)<=Ci s:=by split<;>omega
 show p.n+Cm (fun j=>if j=i then s else p.s j) p.n+p.hn<=p.n+Cm p.s p.n+p.hn+Ci s;omega
def Fa(f g:Nat->Int):Prop:=∀i,i<8->Nil (f i) (g i)
def CA(f g:Nat->Int)(b:Int):AG:={birth:=b,kn:=8,ks:=f,kb:=g,data:=⟨#[]⟩}
open Classical in
noncomputable def Mc(p:A7)(f g:Nat->Int)(b:Int):Es:=if Fa f g then⟨p,0,0,0⟩else Cj p (CA f g b)
def hop(J:Nat->Act->World->Prop)(Q:Exit->Act->World->Prop):Exit->Act->World->Prop
 | .goto l,a,w=>J l a w
 | e,a,w=>Q e a w
end Go.Proofs.YtnfjcaoclahfjaaGreatDoor
