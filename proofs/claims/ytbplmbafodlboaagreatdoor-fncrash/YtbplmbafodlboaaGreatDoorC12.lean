/- A part of the proof. -/
import Derived.Test.YtbplmbafodlboaaGreatDoorC11
set_option linter.unusedVariables false
set_option maxRecDepth 20000
set_option maxHeartbeats 4000000
namespace Go.Proofs.YtbplmbafodlboaaGreatDoor
open Go.RowKit
theorem zNs(v0 v1:Value)(lo hi:Nat)(p:zE)(xs xb:Int)(w:World)(h1:zCV w lo hi v0 v1 p)(hR:zq p) :
    Calls Tryz.prog 147 #[.agg #[v0,v1],.agg #[.int .i64 xs,.int .i64 xb]] w fun e w'=>zL (zPD p xs xb) e/\Below w.heap.size w w':=by
  have Hp:=yB h1;have HR:=yB hR;obtain⟨a,c,a',c',rfl,rfl⟩:∃a c a' c',v0 = .slice a p.n c/\v1 = .slice a' p.hn c':=by
    obtain⟨⟨_,a,c,h1,_⟩,⟨_,a',c',h3,_⟩⟩:=h1;exact⟨a,c,a',c',h1,h3⟩
  clear h1 hR;have rA:=zaL w (.slice a p.n c) (.slice a' p.hn c') (.int .i64 xs) (.int .i64 xb) 26 70;by_cases hn:Nil xs xb
  · have HN:=yB hn
    obtain⟨rfl,rfl⟩:=hn;obtain⟨_,_,aA,_⟩:=rA;go_enter Tryz.func147,Tryz.ntmps147;go_wp2;go_ret;exact⟨zL.yes (Or.inl HN.out),aA⟩
  · have HN:=yB hn
    have e0:=zGn hn;clear hn;have iA:Hid (∀t:Bool,(t=true↔yT p xs xb/\zO6 p (p.s xs.toNat)/\zWc p (zN p xs xb))->zL (zPD p xs xb) (.returned (.bool t))):=fun t ht=>⟨t,rfl,ht.trans ⟨fun h=>Or.inr h,fun h=>h.resolve_left HN.out⟩⟩
    go_enter Tryz.func147,Tryz.ntmps147;go_upto_region 1 with fail;generalize (w.alloc (.cells #[.slice a p.n c,.slice a' p.hn c'] 26)).alloc (.cells #[.int .i64 xs,.int .i64 xb] 70)=W at rA ⊢;obtain⟨hB,hX,aA,hz⟩:=rA;have HB:=yB hB;have HX:=yB hX;clear hB hX
    go_cut [7] (fun v wc=>v = .bool false/\W=wc)
    case first=>
      obtain⟨⟨y0,y1⟩,⟨y2,y3⟩⟩:=HX.out;rcases e0 with e0 | ⟨e0,e1⟩
      all_goals
        go_wp2_with fail
        go_meet
        case rel=>exact⟨rfl,rfl⟩
    case rest=>
      obtain⟨rfl,rfl⟩:=hcut;clear e0;obtain⟨⟨x0,x1⟩,⟨x2,x3⟩⟩:=HB.out;obtain⟨⟨y0,y1⟩,⟨y2,y3⟩⟩:=HX.out;go_upto_region 3 with fail;by_cases hP:yT p xs xb
      · have HP:=yB hP
        clear hP;by_cases nA:zO6 p (p.s xs.toNat)
        · have jA:=yB nA
          clear nA;go_region_held3 (fun w'=>w'.cell? ⟨w.heap.size,0,none⟩=some (.slice a p.n c)/\w'.cell? ⟨w.heap.size,1,none⟩=some (.slice a' p.hn c')/\w'.cell? ⟨w.heap.size+1,0,none⟩=some (.int .i64 xs)/\w'.cell? ⟨w.heap.size+1,1,none⟩=some (.int .i64 xb)) (go_keep)
            (first
              | (go_at_call 163
                 refine(zJ4 _ p.n lo hi p.s xs xb _ ?_).mono ?_
                 (first | exact Hp.out.1.zcw aA | exact Hp.out.1.zcw aA.drew)
                 rintro e w1 ⟨⟨t1,rfl,cA⟩,fA⟩;rw[zJ5 HR.out]at cA;obtain rfl:t1=true:=cA.2 HP.out;clear cA;have bA:Below W.heap.size W w1:=(by first | exact fA | exact qU fA);obtain⟨⟨k0,_⟩,⟨k1,_⟩⟩:=HB.out.zcw bA;obtain⟨⟨k2,_⟩,⟨k3,_⟩⟩:=HX.out.zcw bA)
              | (go_at_call 164
                 refine(zNE p HR.out _ lo hi xs xb _ ?_ HP.out).mono ?_;exact Hp.out.1.zcw (zA aA bA);rintro e w2 ⟨⟨t2,rfl,lA⟩,pA⟩;obtain rfl:t2=true:=lA.2 jA.out;clear lA;have eA:=zA bA pA;obtain⟨⟨l0,_⟩,⟨l1,_⟩⟩:=HB.out.zcw eA;obtain⟨⟨l2,_⟩,⟨l3,_⟩⟩:=HX.out.zcw eA)
              | (go_at_call 166
                 refine(zOj p HR.out _ lo hi xs xb _ ?_ (Or.inr HP.out)).mono ?_;exact Hp.out.1.zcw (zA aA eA);rintro e w3 ⟨v3,rfl,gA,tA⟩;obtain⟨na,nc,rfl,_⟩:=qj gA;have mA:=zA eA tA;have aB:=zYk (by have:=yz p xs xb;unfold maxLen;omega) gA;obtain⟨⟨m0,_⟩,⟨m1,_⟩⟩:=HB.out.zcw mA;obtain⟨⟨m2,_⟩,⟨m3,_⟩⟩:=HX.out.zcw mA)
              | (go_at_call 165
                 refine(zVK _ _ _ lo hi 0 w3.heap.size _ p _ _ _ ?_ aB).mono ?_;exact Hp.out.zcw (zA aA mA);rintro e w4 ⟨⟨t4,rfl,sA⟩,vA⟩;rw[zSO]at sA;have oA:=zA mA vA;obtain⟨⟨n0,_⟩,⟨n1,_⟩⟩:=HB.out.zcw oA;obtain⟨⟨n2,_⟩,⟨n3,_⟩⟩:=HX.out.zcw oA))
          have kA:=zA aA oA;have HT:=yB sA;clear sA;go_wp2;go_ret;exact⟨iA.out t4 (HT.out.trans ⟨fun h=>⟨HP.out,jA.out,h⟩,fun h=>h.2.2⟩),kA⟩
        · have jA:=yB nA
          clear nA;refine wp_region_held_drew (S:=(fun w'=>w'.cell? ⟨w.heap.size,0,none⟩=some (.slice a p.n c)/\w'.cell? ⟨w.heap.size,1,none⟩=some (.slice a' p.hn c')/\w'.cell? ⟨w.heap.size+1,0,none⟩=some (.int .i64 xs)/\w'.cell? ⟨w.heap.size+1,1,none⟩=some (.int .i64 xb))) (by kernel_rfl) ?_ (fun hHeld=>?_)
          · (try dsimp only)
            go_keep
          refine tk 0 (h:=tk 1 (h:=tk 2 (h:=?_)));refine rd [3] (rc (fun K hK=>?_) .nil);go_simp;go_at_call 163;refine(zJ4 _ p.n lo hi p.s xs xb _ ?_).mono ?_
          · first | exact Hp.out.1.zcw aA | exact Hp.out.1.zcw aA.drew
          rintro e w1 ⟨⟨t1,rfl,cA⟩,fA⟩;rw[zJ5 HR.out]at cA;obtain rfl:t1=true:=cA.2 HP.out;clear cA;have bA:Below W.heap.size W w1:=(by first | exact fA | exact qU fA);obtain⟨⟨k0,_⟩,⟨k1,_⟩⟩:=HB.out.zcw bA;obtain⟨⟨k2,_⟩,⟨k3,_⟩⟩:=HX.out.zcw bA
          (try go_wp2_with fail)
          refine hK.out _ _ (by(try dsimp only);go_keep) ?_;clear hK K hHeld;intro hHeld
          try simp only[Act.put,s1,s2,s3]
          refine tk 4 (h:=tk 5 (h:=tk 6 (h:=tk 7 (h:=?_))));refine rd [8] (rc (fun K hK=>?_) .nil);go_simp;go_at_call 164;refine(zNE p HR.out _ lo hi xs xb _ ?_ HP.out).mono ?_
          · exact Hp.out.1.zcw (zA aA bA)
          rintro e w2 ⟨⟨t2,rfl,lA⟩,pA⟩;obtain rfl:t2=false:=yy lA jA.out;clear lA;have eA:=zA bA pA;obtain⟨⟨l0,_⟩,⟨l1,_⟩⟩:=HB.out.zcw eA;obtain⟨⟨l2,_⟩,⟨l3,_⟩⟩:=HX.out.zcw eA
          (try go_wp2_with fail)
          refine hK.out _ _ (by(try dsimp only);go_keep) ?_;clear hK K hHeld;intro hHeld
          try simp only[Act.put,s1,s2,s3]
          refine tk 9 (h:=tk 10 (h:=ts 11 (h:=ts 12 (h:=ts 13 (h:=ts 14 (h:=?_))))));refine rd [15] (rc (fun K hK=>?_) .nil);split
          · rename_i dA
            exact absurd (show false=true from dA) Bool.false_ne_true
          refine hK.out _ _ (by assumption) (fun hHeld=>?_);clear hK K
          try simp only[Act.put,s1,s2,s3]
          refine rd [16] (rc (fun K hK=>?_) .nil);split
          · rename_i dA
            exact absurd (show false=true from dA) Bool.false_ne_true
          refine hK.out _ _ (by assumption) (fun hHeld=>?_);clear hK K
          try simp only[Act.put,s1,s2,s3]
          refine tk 17 (h:=tk 18 (h:=?_));refine wpAnyH_done (by kernel_rfl) ?_ _;have kA:=zA aA eA;go_wp2;go_ret;exact⟨iA.out false ⟨fun h=>(by cases h),fun h=>absurd h.2.1 jA.out⟩,kA⟩
      · have HP:=yB hP
        clear hP;refine wp_region_held_drew (S:=(fun w'=>w'.cell? ⟨w.heap.size,0,none⟩=some (.slice a p.n c)/\w'.cell? ⟨w.heap.size,1,none⟩=some (.slice a' p.hn c')/\w'.cell? ⟨w.heap.size+1,0,none⟩=some (.int .i64 xs)/\w'.cell? ⟨w.heap.size+1,1,none⟩=some (.int .i64 xb))) (by kernel_rfl) ?_ (fun hHeld=>?_)
        · (try dsimp only)
          go_keep
        refine tk 0 (h:=tk 1 (h:=tk 2 (h:=?_)));refine rd [3] (rc (fun K hK=>?_) .nil);go_simp;go_at_call 163;refine(zJ4 _ p.n lo hi p.s xs xb _ ?_).mono ?_
        · first | exact Hp.out.1.zcw aA | exact Hp.out.1.zcw aA.drew
        rintro e w1 ⟨⟨t1,rfl,cA⟩,fA⟩;rw[zJ5 HR.out]at cA;obtain rfl:t1=false:=yy cA HP.out;clear cA;have bA:Below W.heap.size W w1:=(by first | exact fA | exact qU fA);obtain⟨⟨k0,_⟩,⟨k1,_⟩⟩:=HB.out.zcw bA;obtain⟨⟨k2,_⟩,⟨k3,_⟩⟩:=HX.out.zcw bA
        (try go_wp2_with fail)
        refine hK.out _ _ (by(try dsimp only);go_keep) ?_;clear hK K hHeld;intro hHeld
        try simp only[Act.put,s1,s2,s3]
        refine tk 4 (h:=ts 5 (h:=ts 6 (h:=ts 7 (h:=?_))));refine rd [8] (rc (fun K hK=>?_) .nil);split
        · rename_i dA
          exact absurd (show false=true from dA) Bool.false_ne_true
        refine hK.out _ _ (by assumption) (fun hHeld=>?_);clear hK K
        try simp only[Act.put,s1,s2,s3]
        refine tk 9 (h:=tk 10 (h:=ts 11 (h:=ts 12 (h:=ts 13 (h:=ts 14 (h:=?_))))));refine rd [15] (rc (fun K hK=>?_) .nil);split
        · rename_i dA
          exact absurd (show false=true from dA) Bool.false_ne_true
        refine hK.out _ _ (by assumption) (fun hHeld=>?_);clear hK K
        try simp only[Act.put,s1,s2,s3]
        refine rd [16] (rc (fun K hK=>?_) .nil);split
        · rename_i dA
          exact absurd (show false=true from dA) Bool.false_ne_true
        refine hK.out _ _ (by assumption) (fun hHeld=>?_);clear hK K
        try simp only[Act.put,s1,s2,s3]
        refine tk 17 (h:=tk 18 (h:=?_));refine wpAnyH_done (by kernel_rfl) ?_ _;have kA:=zA aA bA;go_wp2;go_ret;exact⟨iA.out false ⟨fun h=>(by cases h),fun h=>absurd h.1 HP.out⟩,kA⟩
def zDl(p:zE)(rs:Int)(s:zM)(j:Nat):List Int:=rs :: zCo (zCS p s j)
def zHQ(p:zE)(rs:Int)(s:zM)(j i:Nat):List Int:=zDl p rs s j ++ (qS s j :: zCo (kidsUp (qS (p.s (qS s j).toNat)) (yh (p.s (qS s j).toNat)) i))
theorem zNL(p:zE)(s:zM)(j:Nat):∀m,j<=m->∃r,zCS p s m=zCS p s j ++ r
 | 0,h=>⟨[],by rw[show j=0 by omega];simp⟩
 | m+1,h=>by
  by_cases e:j=m+1
  ·subst e;exact⟨[],by simp⟩
  ·obtain⟨r,hr⟩:=zNL p s j m (by omega);exact⟨r ++ zGm p (qS s m) (yh s m),by rw[zCS,hr,List.append_assoc]⟩
theorem zKr(ks kb:Nat->Int)(j:Nat):∀m,j<=m->∃r,kidsUp ks kb m=kidsUp ks kb j ++ r
 | 0,h=>⟨[],by rw[show j=0 by omega];simp⟩
 | m+1,h=>by
  by_cases e:j=m+1
  ·subst e;exact⟨[],by simp⟩
  ·obtain⟨r,hr⟩:=zKr ks kb j m (by omega);exact⟨r ++ one (ks m) (kb m),by rw[kidsUp,hr,List.append_assoc]⟩
theorem zEM(l m:List (Int×Int)):zCo (l ++ m)=zCo l ++ zCo m:=by simp[zCo]
theorem zGs{l:List Int}{x:Int}:(l ++ [x]).Nodup↔l.Nodup/\x∉l:=by
 rw[List.nodup_append];constructor
 ·rintro⟨h1,_,h3⟩;exact⟨h1,fun hx=>h3 x hx x (by simp) rfl⟩
 ·rintro⟨h1,h2⟩;refine⟨h1,by simp,fun a ha b hb e=>?_⟩;rw[List.mem_singleton]at hb;subst hb;subst e;exact h2 ha
theorem zIr{p:zE}{rs rb:Int}(hz:¬Nil rs rb):zCo (zN p rs rb)=zDl p rs (p.s rs.toNat) 8:=by
 unfold zN zDl;rw[if_neg hz];rfl
theorem zYC{p:zE}{s:zM}{j:Nat}(hn:¬Nil (qS s j) (yh s j)):zGm p (qS s j) (yh s j)=(qS s j,yh s j) :: zRD (p.s (qS s j).toNat):=if_neg hn
theorem zOo{p:zE}{rs:Int}{s:zM}{j:Nat}(hn:¬Nil (qS s j) (yh s j)):zDl p rs s (j+1)=zHQ p rs s j 8:=by
 unfold zDl zHQ zDl;rw[zCS,zEM,zYC hn];rfl
theorem zWK{p:zE}{rs:Int}{s:zM}{j:Nat}(hn:Nil (qS s j) (yh s j)):zDl p rs s (j+1)=zDl p rs s j:=by
 unfold zDl;rw[zCS,show zGm p (qS s j) (yh s j) = [] from if_pos hn,List.append_nil]
theorem zOe(p:zE)(rs:Int)(s:zM)(j:Nat):zHQ p rs s j 0=zDl p rs s j ++ [qS s j]:=rfl
theorem zYE{p:zE}{rs:Int}{s:zM}{j i:Nat}(hn:Nil (qS (p.s (qS s j).toNat) i) (yh (p.s (qS s j).toNat) i)):zHQ p rs s j (i+1)=zHQ p rs s j i:=by
 unfold zHQ;rw[kidsUp,show one (qS (p.s (qS s j).toNat) i) (yh (p.s (qS s j).toNat) i) = [] from if_pos hn,List.append_nil]
theorem zYD{p:zE}{rs:Int}{s:zM}{j i:Nat}(hn:¬Nil (qS (p.s (qS s j).toNat) i) (yh (p.s (qS s j).toNat) i)):zHQ p rs s j (i+1)=zHQ p rs s j i ++ [qS (p.s (qS s j).toNat) i]:=by
 unfold zHQ;rw[kidsUp,show one (qS (p.s (qS s j).toNat) i) (yh (p.s (qS s j).toNat) i) = [(qS (p.s (qS s j).toNat) i,yh (p.s (qS s j).toNat) i)] from if_neg hn,zEM,List.append_assoc];rfl
theorem zRr(p:zE)(rs:Int)(s:zM){j:Nat}(hj:j<=8):(zDl p rs s j).length<=73:=by
 have:=zHz p s j;simp only[zDl,zCo,List.length_cons,List.length_map];omega
theorem zZ2(p:zE)(rs:Int)(s:zM){j i:Nat}(hj:j<=8)(hi:i<=8):(zHQ p rs s j i).length<=90:=by
 have h1:=zRr p rs s hj;have h2:=zC0 (qS (p.s (qS s j).toNat)) (yh (p.s (qS s j).toNat)) i;simp only[zHQ,zCo,List.length_append,List.length_cons,List.length_map];omega
theorem zV5{p:zE}{rs rb:Int}(hz:¬Nil rs rb)(h:(zCo (zN p rs rb)).Nodup){j i:Nat}(hj:j<8)(hi:i<=8)(hn:¬Nil (qS (p.s rs.toNat) j) (yh (p.s rs.toNat) j)):(zHQ p rs (p.s rs.toNat) j i).Nodup:=by
 rw[zIr hz]at h;obtain⟨r,hr⟩:=zNL p (p.s rs.toNat) (j+1) 8 (by omega);obtain⟨r2,aA⟩:=zKr (qS (p.s (qS (p.s rs.toNat) j).toNat)) (yh (p.s (qS (p.s rs.toNat) j).toNat)) i 8 hi;have e1:zDl p rs (p.s rs.toNat) 8=zDl p rs (p.s rs.toNat) (j+1) ++ zCo r:=by unfold zDl;rw[hr,zEM];rfl
 have e2:zHQ p rs (p.s rs.toNat) j 8=zHQ p rs (p.s rs.toNat) j i ++ zCo r2:=by
  unfold zHQ;rw[aA,zEM,List.append_assoc];rfl
 rw[e1,zOo hn,e2,List.append_assoc]at h;exact(List.nodup_append.1 h).1
def zFK(p:zE)(xs xb:Int)(i:Nat):Int:=if Nil xs xb then 0 else qS (p.s xs.toNat) i
def zFJ(p:zE)(xs xb:Int)(i:Nat):Int:=if Nil xs xb then 0 else yh (p.s xs.toNat) i
def zIM(p:zE)(xs xb:Int):Prop:=Nil xs xb\/(yT p xs xb/\(p.s xs.toNat).kn=8)
theorem zP4{p:zE}{xs xb:Int}(h:zAm p xs xb):zIM p xs xb:=by
 rcases h.2 with h2 | h2
 ·exact Or.inl h2
 ·right;refine⟨h2.1.1,?_⟩;rcases zJ9 h.1 h2.1.1 with h3 | h3
  ·have:=h2.1.2.1;omega
  ·exact h3
theorem zPn{p:zE}{xs xb:Int}(h:zAm p xs xb){j:Nat}(hj:j<8):zIM p (zFK p xs xb j) (zFJ p xs xb j):=by
 by_cases hz:Nil xs xb
 ·left;unfold zFK zFJ;rw[if_pos hz,if_pos hz];exact⟨rfl,rfl⟩
 ·unfold zFK zFJ;rw[if_neg hz,if_neg hz];rcases(h.2.resolve_left hz).2.1.1 j hj with h2 | h2
  ·exact Or.inl h2
  ·right;refine⟨h2.1.1,?_⟩;rcases zJ9 h.1 h2.1.1 with h3 | h3
   ·have:=h2.1.2.1;omega
   ·exact h3
def zDW(p:zE)(xs xb:Int)(n:Nat):Int:=zFK p xs xb (n / 8)
def zDp(p:zE)(xs xb:Int)(n:Nat):Int:=zFJ p xs xb (n / 8)
def zFO(p:zE)(xs xb:Int)(n:Nat):Int:=zFK p (zDW p xs xb n) (zDp p xs xb n) (n % 8)
def zFf(p:zE)(xs xb:Int)(n:Nat):Int:=zFJ p (zDW p xs xb n) (zDp p xs xb n) (n % 8)
def zBR(rb birth:Int):Prop:=zBg birth/\rb<=birth
theorem zWw{p:zE}{xs xb birth:Int}(h:zAm p xs xb):((∀i,i<(zN p xs xb).length->¬birth<qb (zN p xs xb) i)/\zBg birth)↔zBR xb birth:=by
 constructor
 ·rintro⟨h1,h2⟩;refine⟨h2,?_⟩;by_cases hz:Nil xs xb
  ·rw[hz.2];have:=h2.1;omega
  ·have e:zN p xs xb=(xs,xb) :: zCS p (p.s xs.toNat) 8:=if_neg hz;have:=h1 0 (by rw[e];simp);rw[e]at this;have e2:qb ((xs,xb) :: zCS p (p.s xs.toNat) 8) 0=xb:=rfl;rw[e2]at this;omega
 ·rintro⟨h1,h2⟩;refine⟨fun i hi aA=>?_,h1⟩;by_cases hz:Nil xs xb
  ·have e:zN p xs xb = []:=if_pos hz;rw[e]at hi;simp at hi
  ·have hm:(qP (zN p xs xb) i,qb (zN p xs xb) i)∈zN p xs xb:=by
    have:(qP (zN p xs xb) i,qb (zN p xs xb) i)=(zN p xs xb)[i]:=by
     unfold qP qb;rw[List.getD_eq_getElem?_getD,List.getElem?_eq_getElem hi,Option.getD_some]
    rw[this];exact List.getElem_mem hi
   have:=(zFl h.1 (h.2.resolve_left hz).1.1 _ hm).2;have e:(qP (zN p xs xb) i,qb (zN p xs xb) i).2=qb (zN p xs xb) i:=rfl;omega
set_option linter.unusedSimpArgs false
set_option maxRecDepth 20000
set_option maxHeartbeats 1600000
attribute [local go_sem] qX List.map_cons List.map_nil Tr.cv yp qD qs qq yo yn ym qp zAu zAw zAv zAr zAt zAs zCF zCH zCG qH zl qI zm qB qA qM yx zi zj qw qG tmpsOf zAf qv qF zAp yv yr yq yu stpP opds opd opdC kap zAG qC zh coreU bin zAb zB0 get put dlO fgt zA8 zA1 zA5 zA6 tyT yj yi Op.operands Call.operands evLoad evLen evStore evAlloc zAa and_true true_and List.append_nil List.nil_append List.cons_append Ret resCv zBs yQ cellM zBV zBw qY StW StR hpT hpO hpV hpA hpL hpC sg nin zB6 bdO tmW obW AvE CsE CvE Av.tup Av.ids Cv.ids inD ObE Ob.ids TrE.refl qE qt qu qJ qK qL zk ze zb yw zBc zB1 zAy evCall argL argOf qh outOb obO yL zy cvO tot Tr.own rid partsOf fillC zW zBU frz frz1 evBuildSlice zc trs Cv.tr evSlice Option.toArray_none Option.toArray_some evMakeSlice evAppend dstOf srcOf zBC zA7 zA4 zA2 zA3 ikT qn qm ql qk RetP RetN zBd qQ evLd evSt evStoreH zAX evAppendM evAppendT tlOf mvOf rowE shp evTake oOf evC evCallP evCallN evCallO unlast zAW zBB zAU argsF zB5 qy pmC varT vT evField evConv dB0 Option.bind_some Option.bind_none Option.map_some Option.map_none Option.isSome_some Option.isSome_none
theorem zHt{p:zE}{a b:Int}(hR:zq p)(h:zIP p a b):(p.s a.toNat).kn=8:=by
 rcases zJ9 hR h.1 with h' | h'
 ·have:=h.2.1;omega
 ·exact h'
theorem zKq{f g f' g':Nat->Int}:∀{k:Nat},(∀i,i<k->f i=f' i)->(∀i,i<k->g i=g' i)->kidsUp f g k=kidsUp f' g' k
 | 0,_,_=>rfl
 | k+1,h,h'=>by
  simp only[kidsUp];rw[zKq (fun i hi=>h i (by omega)) (fun i hi=>h' i (by omega)),h k (by omega),h' k (by omega)]
noncomputable def zbC:za:=qZ (fun q:zE×Int×Int=>[poT q.1.n q.1.s q.1.hn q.1.h,pT q.2.1 q.2.2]) (fun q=>zq q.1/\qT q.1 q.2.1 q.2.2) (fun q=>[(false,[.s .o 2 (zN q.1 q.2.1 q.2.2).length (ptL (zN q.1 q.2.1 q.2.2))])])
theorem zEU(p:zE)(a b:Int):zbC [poT p.n p.s p.hn p.h,pT a b]=some (zq p/\qT p a b,[(false,[.s .o 2 (zN p a b).length (ptL (zN p a b))])]):=zO (fun l=>(zDm (nth l 0 0) (nth l 0 1),qd (nth l 1 0),qd (nth l 1 1))) (fun _=>rfl) (p,a,b)
theorem zDR:zp Tryz.prog 99 zbC:=by
 refine zR zs (GOk.cons zD2 (zF Tryz.func95 rfl rfl) GOk.nil) zr Tryz.func99 rfl Tryz.ntmps99 Tryz.results99 10 ?_;rintro⟨p,a,b⟩ ⟨hR,hT⟩;replace hR:zq p:=hR;replace hT:qT p a b:=hT;have hn:p.n<=200:=hR.1;refine⟨by simp,?_⟩;simp[go_sem,zC2];refine⟨fun h1 h2=>?_,fun h=>?_⟩
 ·have e:zN p a b = []:=(by simp[zN,Nil,h1,h2]);rw[e];exact⟨zJg rfl,zDK⟩
 have hN:¬Nil a b:=fun e=>h e.1 e.2
 obtain⟨bA,dA,-⟩:=hT.resolve_left hN;have h8:=zHt hR bA;refine⟨⟨bA.1.2.1,bA.1.2.2.1⟩,?_⟩;obtain⟨F,hF⟩:∃F:Nat->List (Int×Int),∀k,F k=(a,b) :: zCS p (p.s a.toNat) k:=⟨_,fun _=>rfl⟩;have gA:∀k,(F k).length<=9*k+1:=fun k=>by rw[hF];exact Nat.succ_le_succ (zHz ..)
 refine yF (fun k:Nat=>⟨[(5,true,.m false [.h 7]),(2,true,.m false [.p 2 0]),(6,true,.m false [.s .b 2 (p.s a.toNat).kn (ptrsT (p.s a.toNat).ks (p.s a.toNat).kb)]),(7,true,.i k)],[(2,.var [.s .b 3 p.n (zY .b p.s),.s .b 1 p.hn (qx p.h)]),(7,.row 2 (F k).length (ptL (F k)))]⟩) (fun k=>8 - k) (fun k=>k<=8) 0 ?_ (by simp) ?_
 ·simp[go_sem];exact zDL (l:=[]) zEo (by simp[hF,zCS])
 rintro k hk;simp[go_sem,qN (show k<=1000000000 by omega),zC2];have kA:=gA k;refine⟨fun hl=>⟨hl,fun g1 g2=>⟨k+1,by omega,by omega,by omega,zDM ?_⟩,fun g=>?_⟩,fun hl=>?_⟩
 ·rw[hF,hF];simp[zCS,zGm,zCp h8 (show k<8 by omega),zDC h8 (show k<8 by omega),Nil,g1,g2]
 ·have aA:=dA.1 k (by omega);unfold zNu at aA;rw[zCp h8 (by omega),zDC h8 (by omega)]at aA;obtain⟨cA,iA⟩:=aA.resolve_left fun e=>g e.1 e.2
  have fA:=zHt hR cA;refine⟨hl,by omega,hl,⟨cA.1.2.1,cA.1.2.2.1⟩,by kernel_rfl,?_⟩;obtain⟨G,hG⟩:∃G:Nat->List (Int×Int),∀j,G j=F k ++ (((p.s a.toNat).ks k,(p.s a.toNat).kb k) :: kidsUp (p.s ((p.s a.toNat).ks k).toNat).ks (p.s ((p.s a.toNat).ks k).toNat).kb j):=⟨_,fun _=>rfl⟩;refine yF (fun j:Nat=>⟨[(5,true,.m false [.h 7]),(2,true,.m false [.p 2 0]),(6,true,.m false [.s .b 2 (p.s a.toNat).kn (ptrsT (p.s a.toNat).ks (p.s a.toNat).kb)]),(8,true,.m false [.s .b 2 (p.s ((p.s a.toNat).ks k).toNat).kn (ptrsT (p.s ((p.s a.toNat).ks k).toNat).ks (p.s ((p.s a.toNat).ks k).toNat).kb)]),(7,true,.i k),(9,true,.i j)],[(2,.var [.s .b 3 p.n (zY .b p.s),.s .b 1 p.hn (qx p.h)]),(7,.row 2 (G j).length (ptL (G j)))]⟩) (fun j=>8 - j) (fun j=>j<=8) 0 ?_ (by simp) ?_
  ·simp[go_sem];exact zDL zEo (by simp[hG,kidsUp])
  rintro j hj;have jA:(G j).length<=100:=by
   have:=zC0 (p.s ((p.s a.toNat).ks k).toNat).ks (p.s ((p.s a.toNat).ks k).toNat).kb j;rw[hG];simp;omega
  simp[go_sem,qN (show j<=1000000000 by omega),qN (show k<=1000000000 by omega),zC2];refine⟨fun eA=>⟨eA,fun g'=>⟨eA,by omega,j+1,by omega,by omega,by omega,zDL zEo ?_⟩,fun g1 g2=>⟨j+1,by omega,by omega,by omega,zDM ?_⟩⟩,fun eA=>⟨k+1,by omega,by omega,by omega,zDM ?_⟩⟩
  ·rw[hG,hG];simp[kidsUp,one,if_neg (show ¬Nil ((p.s ((p.s a.toNat).ks k).toNat).ks j) ((p.s ((p.s a.toNat).ks k).toNat).kb j)from fun e=>g' e.1 e.2)]
  ·rw[hG,hG];simp[kidsUp,one,Nil,g1,g2]
  ·cases (show j=8 by omega);rw[hG,hF,hF];simp only[zCS,zGm];rw[zCp h8 (by omega),zDC h8 (by omega),if_neg (show ¬Nil ((p.s a.toNat).ks k) ((p.s a.toNat).kb k)from fun e=>g e.1 e.2),zRD,zKq (f':=qS _) (g':=yh _) (fun i hi=>(zCp fA hi).symm) (fun i hi=>(zDC fA hi).symm)];rfl
 ·cases (show k=8 by omega);exact⟨zDM (by rw[hF,zN,if_neg hN]),zDK⟩
theorem zcb{l:List (Int×Int)}{i:Nat}:zFT encP (0,0) l i 0 = .v (.int .i64 (l[i]?.getD (0,0)).1):=rfl
theorem zcc{l:List (Int×Int)}{i:Nat}:zFT encP (0,0) l i 1 = .v (.int .i64 (l[i]?.getD (0,0)).2):=rfl
theorem zZX{p:zE}{a b t:Int}(h:zAm p a b):((∀i,i<(zN p a b).length->((zN p a b)[i]?.getD (0,0)).2<=t)/\zBg t)↔zBR b t:=by
 rw[<-zWw h];refine and_congr_left fun _=>forall_congr' fun i=>imp_congr_right fun _=>?_
 rw[qb,List.getD_eq_getElem?_getD,Int.not_lt]
noncomputable def zal:za:=qZ (fun q:zE×Int×Int×Int=>[poT q.1.n q.1.s q.1.hn q.1.h,pT q.2.1 q.2.2.1,iT q.2.2.2]) (fun q=>zq q.1/\qT q.1 q.2.1 q.2.2.1) (fun q=>bR (zBR q.2.2.1 q.2.2.2))
theorem zJY(p:zE)(a b t:Int):zal [poT p.n p.s p.hn p.h,pT a b,iT t]=some (zq p/\qT p a b,bR (zBR b t)):=zO (fun l=>(zDm (nth l 0 0) (nth l 0 1),qd (nth l 1 0),qd (nth l 1 1),qd (nth l 2 0))) (fun _=>rfl) (p,a,b,t)
theorem zMW:zp Tryz.prog 125 zal:=by
 refine zR zs (GOk.cons zDR (zF Tryz.func99 rfl rfl) (GOk.cons zHI (zF Tryz.func101 rfl rfl) GOk.nil)) zr Tryz.func125 rfl Tryz.ntmps125 Tryz.results125 9 ?_;rintro⟨p,a,b,t⟩ ⟨hR,hT⟩;replace hR:zq p:=hR;replace hT:qT p a b:=hT;refine⟨by simp,?_⟩;simp[go_sem,zEU,hR,hT,<-zZX (show zAm p a b from⟨hR,hT⟩)];have hl:=yz p a b;refine yF (fun k:Nat=>⟨[(8,true,.i k),(7,true,.m false [.h 7]),(2,true,.i t)],[(7,.row 2 (zN p a b).length (ptL (zN p a b)))]⟩) (fun k=>(zN p a b).length - k) (fun k=>k<=(zN p a b).length/\∀i,i<k->((zN p a b)[i]?.getD (0,0)).2<=t) 0 (by simp[go_sem]) (by simp) ?_;rintro k ⟨hk,aA⟩;simp[go_sem,qN (show k<=1000000000 by omega),zJ6,zcb,zcc];exact⟨fun h=>⟨h,fun h1 h2=>by have:=h2 k h;omega,fun h1=>⟨k+1,⟨by omega,yE h aA h1⟩,by omega,rfl⟩⟩,fun h h1 i hi=>aA i (by omega)⟩
theorem zEF{fl:Fl}{k n:Nat}{F G:Nat->Nat->Tr}(h:∀i j,i<n->j<k->F i j=G i j):TrE (.s fl k n F) (.s fl k n G):=⟨.inl rfl,rfl,rfl,fun i j hi hj=>TrE.of_eq (h i j hi hj)⟩
theorem zaE{fl:Fl}{n:Nat}{f g f' g':Nat->Int}(h:∀i,i<n->f i=f' i/\g i=g' i):TrE (.s fl 2 n (ptrsT f g)) (.s fl 2 n (ptrsT f' g')):=zEF fun i j hi hj=>by
 match j,hj with
 | 0,_=>exact congrArg (fun x=>Tr.v (.int .i64 x)) (h i hi).1
 | 1,_=>exact congrArg (fun x=>Tr.v (.int .i64 x)) (h i hi).2
noncomputable def zau:za:=qZ (fun q:zE×Int×Int=>[poT q.1.n q.1.s q.1.hn q.1.h,pT q.2.1 q.2.2]) (fun q=>zIM q.1 q.2.1 q.2.2) (fun q=>[(false,[.s .o 2 8 (ptrsT (zFK q.1 q.2.1 q.2.2) (zFJ q.1 q.2.1 q.2.2))])])
theorem zMj(p:zE)(a b:Int):zau [poT p.n p.s p.hn p.h,pT a b]=some (zIM p a b,[(false,[.s .o 2 8 (ptrsT (zFK p a b) (zFJ p a b))])]):=zO (fun l=>(zDm (nth l 0 0) (nth l 0 1),qd (nth l 1 0),qd (nth l 1 1))) (fun _=>rfl) (p,a,b)
theorem zIg:zp Tryz.prog 128 zau:=by
 refine zR zs (GOk.cons zD2 (zF Tryz.func95 rfl rfl) GOk.nil) zr Tryz.func128 rfl Tryz.ntmps128 Tryz.results128 5 ?_;rintro⟨p,a,b⟩ hP;replace hP:zIM p a b:=hP;refine⟨by simp,?_⟩;by_cases hN:Nil a b
 ·obtain⟨rfl,rfl⟩:=id hN;simp[go_sem,zC2,zE2];refine zEF fun i j hi hj=>?_
  match j,hj with
  | 0,_=>simp[ptrsT,zFK,Nil]
  | 1,_=>simp[ptrsT,zFJ,Nil]
 ·obtain⟨aA,h8⟩:=hP.resolve_left hN;simp[go_sem,zC2,zFo,zEt,zE2,h8];exact⟨fun h1 h2=>(hN ⟨h1,h2⟩).elim,fun _=>⟨⟨aA.2.1,aA.2.2.1⟩,zaE fun i hi=>⟨by unfold zFK;rw[if_neg hN,zCp h8 hi],by unfold zFJ;rw[if_neg hN,zDC h8 hi]⟩⟩⟩
theorem zQB{n:Nat}(h:n<64):IntKind.i64.wrap ((n:Int) / 8)=((n / 8:Nat):Int):=by
 rw[IntKind.wrap_i64];omega
theorem zVB{n:Nat}:(n:Int).tmod 8=((n % 8:Nat):Int):=(Int.ofNat_tmod n 8).symm
noncomputable def za1:za:=qZ (fun q:zE×Int×Int×Nat=>[poT q.1.n q.1.s q.1.hn q.1.h,pT q.2.1 q.2.2.1,iT (q.2.2.2:Int)]) (fun q=>zAm q.1 q.2.1 q.2.2.1/\q.2.2.2<64) (fun q=>[pT (zFO q.1 q.2.1 q.2.2.1 q.2.2.2) (zFf q.1 q.2.1 q.2.2.1 q.2.2.2),pT (zDW q.1 q.2.1 q.2.2.1 q.2.2.2) (zDp q.1 q.2.1 q.2.2.1 q.2.2.2)])
theorem zRM(p:zE)(a b:Int)(n:Nat):za1 [poT p.n p.s p.hn p.h,pT a b,iT (n:Int)]=some (zAm p a b/\n<64,[pT (zFO p a b n) (zFf p a b n),pT (zDW p a b n) (zDp p a b n)]):=zO (fun l=>(zDm (nth l 0 0) (nth l 0 1),qd (nth l 1 0),qd (nth l 1 1),(qd (nth l 2 0)).toNat)) (fun _=>rfl) (p,a,b,n)
theorem zMX:zp Tryz.prog 127 za1:=by
 refine zR zs (GOk.cons zIg (zF Tryz.func128 rfl rfl) GOk.nil) zr Tryz.func127 rfl Tryz.ntmps127 Tryz.results127 9 ?_;rintro⟨p,a,b,n⟩ ⟨hT,hn⟩;replace hT:zAm p a b:=hT;replace hn:n<64:=hn;refine⟨by simp,?_⟩;simp[go_sem,zMj,zQB hn,zVB];refine⟨zP4 hT,by omega,by omega,zPn hT (by omega),by omega,by omega,by kernel_rfl,?_⟩;rw[show((n:Int) / 8).toNat=n / 8 by omega,show((n:Int) % 8).toNat=n % 8 by omega];exact⟨⟨rfl,rfl⟩,rfl,rfl⟩
theorem zK1{p:zE}(h:∀i,i<p.n->zAA (p.s i)\/zDZ p (p.s i)):∀k,k<=p.n->zBK p.s k<=24*k
 | 0,_=>Nat.le_refl _
 | k+1,hk=>by
  have ih:=zK1 h k (by omega);have hs:zCg (p.s k)<=24:=by
   unfold zCg;rcases h k (by omega)with hf | hf
   ·have h1:=hf.2.1;have h2:(p.s k).data.size=0:=by
     have:=hf.2.2;rw[Go.ByteArray.toList_eq]at this;have e:(p.s k).data.data=#[]:=(by simpa using this);show(p.s k).data.data.size=0;rw[e];rfl
    omega
   ·rcases hf.2 with h2 | h2
    ·omega
    ·have h3:(p.s k).data.size=0:=by
      have:=h2.2.1;rw[Go.ByteArray.toList_eq]at this;have e:(p.s k).data.data=#[]:=(by simpa using this);show(p.s k).data.data.size=0;rw[e];rfl
     omega
  show zBK p.s k+zCg (p.s k)<=_;omega
theorem zFh{p:zE}(h:zq p):yD p<=10000:=by
 have h1:=zK1 h.2.1 p.n (Nat.le_refl _);have h2:=((zGE p).2 h).2.1;have h3:=h.1;unfold yD;omega
set_option linter.unusedSimpArgs false
set_option maxRecDepth 20000
set_option maxHeartbeats 1600000
def zZc(x:Int):Nat->Tr:=fun _=>.v (.int .i64 x)
abbrev inL(l:List Int):Nat->Nat->Tr:=zFT zZc 0 l
theorem yC{fl:Fl}{k n:Nat}{l:List Int}:(Tr.s fl k n (zFT zZc 0 l)).lend = .s .b k n (qx fun i=>l[i]?.getD 0):=rfl
theorem zX{fl:Fl}{k n:Nat}{l:List (Int×Int)}:(Tr.s fl k n (zFT encP (0,0) l)).lend = .s .b k n (ptrsT (fun i=>(l[i]?.getD (0,0)).1) (fun i=>(l[i]?.getD (0,0)).2)):=by
 rw[show zFT encP (0,0) l=_ from zbr l];exact ze
theorem zAg{l:List Int}{i c:Nat}:zFT zZc 0 l i c = .v (.int .i64 (l[i]?.getD 0)):=rfl
theorem zT0{l:List Int}{x:Int}:Has l.length (fun i=>l[i]?.getD 0) x↔x∈l:=by
 rw[List.mem_iff_getElem?];constructor
 ·rintro⟨i,hi,rfl⟩;exact⟨i,by simp[hi]⟩
 ·rintro⟨i,hi⟩;have:=(List.getElem?_eq_some_iff.1 hi).1;exact⟨i,this,by simp[hi]⟩
theorem zZd{x:Int}:∀j,j<1->([Tr.v (Value.int .i64 x)][j]?.getD (.v (.bool false))).nt=zZc x j
 | 0,_=>rfl
theorem zRl{fl:Fl}{l m:List Int}{x:Int}(h:l ++ [x]=m):TrE (.s fl 1 (l.length+1) (zAC (inL l) l.length (fun p q=>([Tr.v (Value.int .i64 x)][p+q]?.getD (.v (.bool false))).nt))) (.s fl 1 m.length (inL m)):=by
 have:=zDL (fl:=fl) (k:=1) (d:=(0:Int)) zZd h;simpa only[Nat.mul_one]using this
theorem zGf{f g:Nat->Int}:∀{k:Nat},0<(kidsUp f g k).length↔∃i,i<k/\¬Nil (f i) (g i)
 | 0=>by simp[kidsUp]
 | k+1=>by
  rw[kidsUp,List.length_append];by_cases h:Nil (f k) (g k)
  ·rw[one,if_pos h,List.length_nil,Nat.add_zero,zGf];exact⟨fun ⟨i,h1,h2⟩=>⟨i,by omega,h2⟩,fun ⟨i,h1,h2⟩=>⟨i,by rcases Nat.lt_succ_iff_lt_or_eq.1 h1 with h3 | rfl;exact h3;exact absurd h h2,h2⟩⟩
  ·rw[one,if_neg h];exact⟨fun _=>⟨k,by omega,h⟩,fun _=>by simp⟩
theorem zOQ{f g:Nat->Int}{k:Nat}(h:¬Nil (f k) (g k)):(kidsUp f g (k+1)).length=(kidsUp f g k).length+1:=by simp[kidsUp,one,h]
theorem zOR{f g:Nat->Int}{k:Nat}(h:Nil (f k) (g k)):(kidsUp f g (k+1)).length=(kidsUp f g k).length:=by simp[kidsUp,one,h]
theorem zHG{p:zE}(h:zq p):p.hn<=10000:=by
 have:=zFh h;unfold yD at this;omega
attribute [local go_sem] qX List.map_cons List.map_nil Tr.cv yp qD qs qq yo yn ym qp zAu zAw zAv zAr zAt zAs zCF zCH zCG qH zl qI zm qB qA qM yx zi zj qw qG tmpsOf zAf qv qF zAp yv yr yq yu stpP opds opd opdC kap zAG qC zh coreU bin zAb zB0 get put dlO fgt zA8 zA1 zA5 zA6 tyT yj yi Op.operands Call.operands evLoad evLen evStore evAlloc zAa and_true true_and List.append_nil List.nil_append List.cons_append Ret resCv zBs yQ cellM zBV zBw qY StW StR hpT hpO hpV hpA hpL hpC sg nin zB6 bdO tmW obW AvE CsE CvE Av.tup Av.ids Cv.ids inD ObE Ob.ids TrE.refl qE qt qu qJ qK qL zk ze zb yw zBc zB1 zAy evCall argL argOf qh outOb obO yL zy cvO tot Tr.own rid partsOf fillC zW zBU frz frz1 evBuildSlice zc trs Cv.tr evSlice Option.toArray_none Option.toArray_some evMakeSlice evAppend dstOf srcOf zBC zA7 zA4 zA2 zA3 ikT qn qm ql qk RetP RetN zBd qQ evLd evSt evStoreH zAX evAppendM evAppendT tlOf mvOf rowE shp evTake oOf evC evCallP evCallN evCallO unlast zAW zBB zAU argsF zB5 qy pmC varT vT evField evConv dB0 Option.bind_some Option.bind_none Option.map_some Option.map_none Option.isSome_some Option.isSome_none
attribute [local go_sem] yC zX zAg
noncomputable def mTR:za:=qZ (fun q:zE×Int×Int=>[poT q.1.n q.1.s q.1.hn q.1.h,pT q.2.1 q.2.2]) (fun q=>zq q.1) (fun q=>bR (qT q.1 q.2.1 q.2.2))
theorem zTB(p:zE)(a b:Int):mTR [poT p.n p.s p.hn p.h,pT a b]=some (zq p,bR (qT p a b)):=zO (fun l=>(zDm (nth l 0 0) (nth l 0 1),qd (nth l 1 0),qd (nth l 1 1))) (fun _=>rfl) (p,a,b)
theorem zKs:zp Tryz.prog 58 mTR:=by
 refine zR zs (GOk.cons zD2 (zF Tryz.func95 rfl rfl) (GOk.cons zSu (zF Tryz.func96 rfl rfl) (GOk.cons zSv (zF Tryz.func97 rfl rfl) (GOk.cons zF6 (zF Tryz.func61 rfl rfl) GOk.nil)))) zr Tryz.func58 rfl Tryz.ntmps58 Tryz.results58 12 ?_;rintro⟨p,a,b⟩ hR;replace hR:zq p:=hR;have hn:p.n<=200:=hR.1;have hm:=zHG hR;refine⟨by simp,?_⟩;simp[go_sem,zC2,zRK];refine⟨fun h1 h2=>.inl ⟨h1,h2⟩,fun h=>⟨⟨by omega,by omega⟩,fun h1 h2=>?_,fun kA=>⟨⟨kA.1.2.1,kA.1.2.2.1⟩,?_⟩⟩⟩
 ·exact h1 ((h2.resolve_left fun e=>h e.1 e.2).1)
 have hN:¬Nil a b:=fun e=>h e.1 e.2
 obtain⟨s,hs⟩:∃s,p.s a.toNat=s:=⟨_,rfl⟩;have h8:=zHt hR kA;rw[hs]at h8;have hT:qT p a b↔zac p s/\(zDl p a s 8).Nodup:=by
  unfold qT;rw[hs,zIr hN,hs];exact⟨fun h=>(h.resolve_left hN).2,fun h=>.inr ⟨kA,h⟩⟩
 have kS:∀{i},i<8->qS s i=s.ks i:=fun hi=>zCp h8 hi
 have kB:∀{i},i<8->yh s i=s.kb i:=fun hi=>zDC h8 hi
 obtain⟨F,hF⟩:∃F:Nat->List Int,∀k,F k=zDl p a s k:=⟨_,fun _=>rfl⟩;obtain⟨C,hC⟩:∃C:Nat->Nat,∀k,C k=(kidsUp (qS s) (yh s) k).length:=⟨_,fun _=>rfl⟩;have sA:∀k,C k<=k:=fun k=>by rw[hC];exact zC0 ..
 have vA:∀k,k<=8->(F k).length<=73:=fun k hk=>by rw[hF];exact zRr p a s hk
 refine yF (fun k:Nat=>⟨[(5,true,.m false [.h 7]),(2,true,.m false [.p 2 0]),(6,true,.i (C k)),(7,true,.m false [.s .b 2 s.kn (ptrsT s.ks s.kb)]),(8,true,.i k)],[(2,.var [.s .b 3 p.n (zY .b p.s),.s .b 1 p.hn (qx p.h)]),(7,.row 1 (F k).length (inL (F k)))]⟩) (fun k=>8 - k) (fun k=>k<=8/\(∀i,i<k->zNu p s i)/\(F k).Nodup) 0 ?_ ?_ ?_
 ·simp[go_sem,hs,hC,kidsUp,hF,zDl,zCS,zCo];exact zEF fun i j hi hj=>by cases (show i=0 by omega);cases (show j=0 by omega);rfl
 ·simp[hF,zDl,zCS,zCo]
 rintro k ⟨hk,dA,nA⟩;have eB:=vA k hk;simp[go_sem,hs,h8,qN (show k<=1000000000 by omega),qN (show C k<=1000000000 by have:=sA k;omega),zC2,zRK,zHq,zT0];refine⟨fun hl=>⟨hl,fun g1 g2=>⟨k+1,?_⟩,fun g=>⟨hl,⟨by omega,by omega⟩,?_⟩⟩,fun hl=>?_⟩
 ·replace hl:k<8:=(by omega);have bA:Nil (qS s k) (yh s k):=(by rw[kS hl,kB hl];exact⟨g1,g2⟩);have e1:F (k+1)=F k:=(by rw[hF,hF];exact zWK bA);have e2:C (k+1)=C k:=(by rw[hC,hC];exact zOR bA);rw[e1,e2];exact⟨⟨by omega,yE hl dA (.inl bA),nA⟩,by omega,⟨rfl,rfl⟩,TrE.refl _⟩
 ·replace hl:k<8:=(by omega);have bA:¬Nil (qS s k) (yh s k):=(by rw[kS hl,kB hl];exact fun e=>g e.1 e.2);have iA:qT p a b->∀i,i<=8->(zHQ p a s k i).Nodup:=fun h i hi=>by
   have h2:=(hT.1 h).2;rw[<-hs,<-zIr hN]at h2;rw[<-hs]at bA ⊢;exact zV5 hN h2 hl hi bA
  refine⟨fun _=>by omega,fun _=>by omega,by kernel_rfl,fun h1 h2=>?_,fun lA cB=>⟨by omega,by omega,by omega,⟨lA.1.2.1,lA.1.2.2.1⟩,by kernel_rfl,?_⟩⟩
  ·rcases h1 with h1 | h1
   ·have h3:=((hT.1 h2).1.1 k hl).resolve_left bA;rw[kS hl,kB hl]at h3;exact h1 h3.1
   ·have h3:=iA h2 0 (by omega);rw[zOe,zGs,kS hl,<-hF]at h3;exact h3.2 h1
  obtain⟨t,ht⟩:∃t,p.s (s.ks k).toNat=t:=⟨_,rfl⟩;have t8:=zHt hR lA;rw[ht]at t8;have jA:∀{i},i<8->qS t i=t.ks i:=fun hi=>zCp t8 hi
  have mA:∀{i},i<8->yh t i=t.kb i:=fun hi=>zDC t8 hi
  have fA:zNu p s k↔zaX p t:=by
   unfold zNu;rw[kS hl,kB hl,ht];rw[kS hl,kB hl]at bA;exact⟨fun h=>(h.resolve_left bA).2,fun h=>.inr ⟨lA,h⟩⟩
  obtain⟨G,hG⟩:∃G:Nat->List Int,∀i,G i=zHQ p a s k i:=⟨_,fun _=>rfl⟩;obtain⟨D,hD⟩:∃D:Nat->Nat,∀i,D i=(kidsUp (qS t) (yh t) i).length:=⟨_,fun _=>rfl⟩;have tA:∀i,D i<=i:=fun i=>by rw[hD];exact zC0 ..
  have aB:∀i,i<=8->(G i).length<=90:=fun i hi=>by rw[hG];exact zZ2 p a s hk hi
  have rA:G 0=F k ++ [s.ks k]:=(by rw[hG,zOe,<-hF,kS hl]);refine yF (fun i:Nat=>⟨[(5,true,.m false [.h 7]),(2,true,.m false [.p 2 0]),(6,true,.i (C k+1:Nat)),(7,true,.m false [.s .b 2 s.kn (ptrsT s.ks s.kb)]),(8,true,.i k),(9,true,.i (D i)),(10,true,.m false [.s .b 2 t.kn (ptrsT t.ks t.kb)]),(11,true,.i i)],[(2,.var [.s .b 3 p.n (zY .b p.s),.s .b 1 p.hn (qx p.h)]),(7,.row 1 (G i).length (inL (G i)))]⟩) (fun i=>8 - i) (fun i=>i<=8/\(∀q,q<i->Nil (qS t q) (yh t q)\/zO3 p (qS t q) (yh t q))/\(G i).Nodup) 0 ?_ ?_ ?_
  ·simp[go_sem,ht,h8,hD,kidsUp];exact zRl rA.symm
  ·simp;rw[rA,zGs];exact⟨nA,cB⟩
  rintro i ⟨hi,cA,gA⟩;have fB:=aB i hi;simp[go_sem,hs,h8,ht,t8,qN (show i<=1000000000 by omega),qN (show k<=1000000000 by omega),qN (show D i<=1000000000 by have:=tA i;omega),zC2,zXr,zHq,zT0];refine⟨fun aA=>⟨aA,fun g1 g2=>⟨i+1,?_⟩,fun g'=>⟨aA,⟨by omega,by omega⟩,?_⟩⟩,fun aA=>?_⟩
  ·replace aA:i<8:=(by omega);have eA:Nil (qS t i) (yh t i):=(by rw[jA aA,mA aA];exact⟨g1,g2⟩);have e1:G (i+1)=G i:=by
    rw[hG,hG];refine zYE ?_;rw[kS hl,ht];exact eA
   have e2:D (i+1)=D i:=(by rw[hD,hD];exact zOR eA);rw[e1,e2];exact⟨⟨by omega,yE aA cA (.inl eA),gA⟩,by omega,⟨rfl,rfl⟩,TrE.refl _⟩
  ·replace aA:i<8:=(by omega);have eA:¬Nil (qS t i) (yh t i):=(by rw[jA aA,mA aA];exact fun e=>g' e.1 e.2);have e1:G (i+1)=G i ++ [t.ks i]:=by
    rw[hG,hG,zYD (by rw[kS hl,ht];exact eA),kS hl,ht,jA aA]
   have e2:D (i+1)=D i+1:=(by rw[hD,hD];exact zOQ eA);refine⟨fun _=>by omega,fun _=>by omega,by kernel_rfl,fun h1 h2=>?_,fun bB oA=>⟨by omega,by omega,i+1,⟨by omega,yE aA cA (.inr ?_),?_⟩,by omega,⟨by rw[e2];rfl,rfl⟩,zRl e1.symm⟩⟩
   ·rcases h1 with h1 | h1
    ·have h3:=((fA.1 ((hT.1 h2).1.1 k hl)).1 i aA).resolve_left eA;rw[jA aA,mA aA]at h3;exact h1 h3
    ·have h3:=iA h2 (i+1) (by omega);rw[<-hG,e1,zGs]at h3;exact h3.2 h1
   ·rw[jA aA,mA aA];exact bB
   ·rw[e1,zGs];exact⟨gA,oA⟩
  ·cases (show i=8 by omega);have pA:(∃i,i<8/\¬Nil (qS t i) (yh t i))↔0<D 8:=(by rw[hD,zGf]);have e1:F (k+1)=G 8:=(by rw[hF,hG];exact zOo bA);have e2:C (k+1)=C k+1:=(by rw[hC,hC];exact zOQ bA);refine⟨fun h1 h2=>?_,fun h1=>⟨k+1,⟨by omega,yE hl dA (fA.2 ⟨cA,pA.2 (by omega)⟩),by rw[e1];exact gA⟩,by omega,⟨by rw[e2];rfl,rfl⟩,by rw[e1];exact TrE.refl _⟩⟩;have:=pA.1 (fA.1 ((hT.1 h2).1.1 k hl)).2;omega
 ·cases (show k=8 by omega);rw[hT,<-hF,hC,zGf];exact⟨fun h=>⟨⟨dA,h⟩,nA⟩,fun h=>h.1.2⟩
noncomputable def zcY:za:=qZ (fun q:zE×Int×Int=>[poT q.1.n q.1.s q.1.hn q.1.h,pT q.2.1 q.2.2]) (fun q=>q.1.n<=1000000/\q.1.hn<=1000000) (fun q=>bR (zAm q.1 q.2.1 q.2.2))
theorem zLN(p:zE)(a b:Int):zcY [poT p.n p.s p.hn p.h,pT a b]=some (p.n<=1000000/\p.hn<=1000000,bR (zAm p a b)):=zO (fun l=>(zDm (nth l 0 0) (nth l 0 1),qd (nth l 1 0),qd (nth l 1 1))) (fun _=>rfl) (p,a,b)
theorem zI7:zp Tryz.prog 124 zcY:=by
 refine zR zs (GOk.cons zEm (zF Tryz.func55 rfl rfl) (GOk.cons zKs (zF Tryz.func58 rfl rfl) GOk.nil)) zr Tryz.func124 rfl Tryz.ntmps124 Tryz.results124 5 ?_;rintro⟨p,a,b⟩ ⟨hn,hm⟩;replace hn:p.n<=1000000:=hn;replace hm:p.hn<=1000000:=hm;refine⟨by simp,?_⟩;simp[go_sem,zHr,zTB,hn,hm,zAm]
theorem zFq(v:Value)(n lo hi:Nat)(f g:Nat->Int)(w:World)(h1:qo w lo hi v n f g)(hn:n<=1048576) :
  Calls Tryz.prog 136 #[v] w fun e w'=>(∃v' kb,e = .returned v'/\zAc w' kb v' n f g/\(0<n->w.heap.size<=kb/\kb<w'.heap.size))/\Below w.heap.size w w':=by
 obtain⟨m1,a,c,rfl,mc,g1⟩:=h1;have G1:Hid (0<n->∃b off,a=some ⟨b,off,none⟩/\lo<=b/\b<hi/\∀i,i<n->w.cell? ⟨b,off+i*2,none⟩=some (.int .i64 (f i))/\w.cell? ⟨b,off+i*2+1,none⟩=some (.int .i64 (g i))):=g1;have Hm:Hid (n<=maxLen):=m1;clear g1 m1;have oA:=fun w=>Lib.run_eql_slice_nil (P:=Tryz.prog) w 56 70 a n c 0 0 (by kernel_rfl)
 cases a with
 | none=>
  have nA:n=0:=by
   by_cases h:0<n
   ·obtain⟨b,off,ha,_⟩:=G1.out h;simp at ha
   ·omega
  subst nA;go_enter Tryz.func136,Tryz.ntmps136;go_wp2;go_ret;exact⟨⟨_,0,rfl,⟨Nat.zero_le _,none,0,rfl,Nat.le_refl _,fun h=>absurd h (Nat.lt_irrefl _)⟩,fun h=>absurd h (Nat.lt_irrefl _)⟩,Below.refl _ _⟩
 | some ad=>
  obtain⟨i0,hi,lA⟩:=Option.map_eq_some_iff.1 zQx;simp only[Prod.mk.injEq]at lA;obtain⟨hz,hs,kA⟩:=lA;have fA:∀(w':World),Below w.heap.size w w'->∀j u,(kc f g n)[j]?=some u->w'.cell? (ad.add j)=some u:=fun w' hb j u hj=>by
   by_cases h0:0<n
   ·obtain⟨b,off,ha,_,_,hc⟩:=G1.out h0;simp only[Option.some.injEq]at ha;subst ha;have:=zXT hc j u hj;have iA:(⟨b,off,none⟩:Addr).add j=⟨b,off+j,none⟩:=(by unfold Addr.add;split<;>simp_all);rw[iA]at this ⊢;exact(hb.cell (zH this)).trans this
   ·obtain rfl:n=0:=(by omega);simp[kc]at hj
  have gA:Hid (∀(w':World),Below w.heap.size w w'->∀j u,(kc f g n)[j]?=some u->w'.cell? (ad.add j)=some u):=fA;have HI:Hid (Tryz.prog.info? 70=some i0/\i0.zero=some (.agg #[.int .i64 0,.int .i64 0])/\i0.size=2/\i0.bytes=16):=⟨hi,hz,hs,kA⟩;have dA:(w.alloc (.cells #[] 70)).ownsRow w.heap.size 70 2 (.slice (some ⟨w.heap.size,0,none⟩) 0 0) 0 []:=World.ownsRow_made w #[] 0 (Nat.le_refl _) (Nat.zero_le _) (by simp);have aA:Hid ((w.alloc (.cells #[] 70)).ownsRow w.heap.size 70 2 (.slice (some ⟨w.heap.size,0,none⟩) 0 0) 0 []):=dA;clear hi hz hs kA fA dA;go_enter Tryz.func136,Tryz.ntmps136;go_wp2_with (first
   | (at_builtin;refine wpList_append_own _ rfl _ _ 56 rfl w.heap.size 70 i0 (.agg #[.int .i64 0,.int .i64 0]) 2 16 (by kernel_rfl) HI.out.1 HI.out.2.1 HI.out.2.2.1 HI.out.2.2.2 rfl (by decide) _ _ _ rfl aA.out ad n c (kc f g n) rfl (zMP f g n) ?c1 (zbc f g n) ?c3 ?c4 ?c5 ?_))
  case c1=>exact gA.out _ ((Below.refl _ _).alloc (Nat.le_refl _) _)
  case c3=>unfold maxLen;omega
  case c4=>omega
  case c5=>simp
  intro v' w1 cA bA jA;have mA:Below w.heap.size w w1:=((Below.refl _ _).alloc (Nat.le_refl _) _).grown bA (by simp) (fun q hq=>by have:=aA.out.lt q hq;omega);have eA:w1.ownsRow w.heap.size 70 2 v' n (kc f g n):=(by simpa using cA);obtain⟨kb,hp,hk⟩:=zP0 Hm.out eA;have Hp:Hid (zAc w1 kb v' n f g/\(0<n->w.heap.size<=kb/\kb<w1.heap.size)):=⟨hp,hk⟩;clear hp hk cA eA bA jA;go_wp2;go_ret;exact⟨⟨v',kb,rfl,Hp.out.1,Hp.out.2⟩,mA⟩
theorem zH7(v0 v1 v2:Value)(lo hi:Nat)(s:zM)(w:World)(h1:zBp w lo hi v0 v1 v2 s)(hn:s.kn<=1048576) :
  Calls Tryz.prog 176 #[.agg #[v0,v1,v2]] w (zZK s w):=by
 obtain⟨rfl,p1,rfl,m1⟩:=h1;have q1:=p1;obtain⟨_,a,c,rfl,_⟩:=p1;go_enter Tryz.func176,Tryz.ntmps176;go_wp2_with fail;have eA:=zD w (.cells #[.int .i64 s.birth,.slice a s.kn c,.string s.data] 58);have cA:=zA eA (zD _ (.cells #[.int .i64 0,.slice none 0 0,.string ⟨#[]⟩] 58));refine(zFq _ s.kn lo hi _ _ _ (q1.zcw cA) hn).mono ?_;rintro e w1 ⟨⟨kv,kb,rfl,hp,hk⟩,aA⟩;have HB:Hid (zDP w1 w.heap.size (.int .i64 s.birth) (.slice a s.kn c) (.string s.data)):=((zDP.new w _ _ _ _).zcw (zD _ _)).zcw aA;have HR:Hid (zDP w1 (w.heap.size+1) (.int .i64 0) (.slice none 0 0) (.string ⟨#[]⟩)):=by
  have:=((zDP.new (w.alloc (.cells #[.int .i64 s.birth,.slice a s.kn c,.string s.data] 58)) (.int .i64 0) (.slice none 0 0) (.string ⟨#[]⟩) 58).zcw aA);rw[World.size_alloc]at this;exact this
 have fA:=zA cA aA;rw[World.size_alloc,World.size_alloc]at hk;have Hp:Hid (zAc w1 kb kv s.kn s.ks s.kb/\(0<s.kn->w.heap.size+1+1<=kb/\kb<w1.heap.size)):=⟨hp,hk⟩;obtain⟨_,ka,dA,rfl,_⟩:=hp;clear eA cA aA hk;obtain⟨⟨x0,x1⟩,⟨x2,x3⟩,⟨x4,x5⟩⟩:=HB.out;obtain⟨⟨y0,y1⟩,⟨y2,y3⟩,⟨y4,y5⟩⟩:=HR.out;go_wp2;have bA:=(HR.out.other (b':=w.heap.size) (o':=1) (.slice ka s.kn dA) (by omega)).put (.int .i64 s.birth) (.slice ka s.kn dA) (.string s.data);refine bodyPost_ret (v:=.agg #[.int .i64 s.birth,.slice ka s.kn dA,.string s.data]) (by simp[results,Tryz.results176,go_sem,bA.1.1,bA.2.1.1,bA.2.2.1]) rfl ⟨_,kb,rfl,?_,?_,?_⟩
 ·have hk:=Hp.out.2;refine(((Hp.out.1.zcx (zJ.put _ _ _ _) ?_).zcx (zJ.put _ _ _ _) ?_).zcx (zJ.put _ _ _ _) ?_).zcx (zJ.put _ _ _ _) ?_
  all_goals exact fun h0 e=>by have:=hk h0;omega
 ·intro h0;have:=Hp.out.2 h0;simp only[World.size_setCell];omega
 ·exact(((fA.setCell (by show _<=w.heap.size;omega) _).setCell (by show _<=w.heap.size+1;omega) _).setCell (by show _<=w.heap.size+1;omega) _).setCell (by show _<=w.heap.size+1;omega) _
theorem zNd(a:Option Addr)(n c:Nat)(xs:List Value)(w:World)(hl:xs.length=n*1)(iA:∀u∈xs,u.oneCell'=true)(hn:n<=1048576)
  (hc:0<n->∃b off,a=some ⟨b,off,none⟩/\∀j u,xs[j]?=some u->w.cell? ⟨b,off+j,none⟩=some u) :
  Calls Tryz.prog 153 #[.slice a n c] w fun e w'=>∃v',e = .returned v'/\w'.ownsRow w.heap.size 2 1 v' n xs/\Below w.heap.size w w'/\(n=0->∃a,v' = .slice a 0 0):=by
 have Hc:Hid (0<n->∃b off,a=some ⟨b,off,none⟩/\∀j u,xs[j]?=some u->w.cell? ⟨b,off+j,none⟩=some u):=hc;have Hl:Hid (xs.length=n*1/\∀u∈xs,u.oneCell'=true):=⟨hl,iA⟩;clear hc hl iA;have pA:=fun w=>Lib.run_eql_slice_nil (P:=Tryz.prog) w 24 2 a n c 0 0 (by kernel_rfl)
 cases a with
 | none=>
  have nA:n=0:=by
   by_cases h:0<n
   ·obtain⟨b,off,ha,_⟩:=Hc.out h;simp at ha
   ·omega
  subst nA;have oA:xs = []:=List.eq_nil_of_length_eq_zero (by simpa using Hl.out.1);subst oA;go_enter Tryz.func153,Tryz.ntmps153;go_wp2;go_ret;exact⟨_,rfl,World.ownsRow_nil _ _ _ _,Below.refl _ _,fun _=>⟨_,rfl⟩⟩
 | some ad=>
  obtain⟨i0,hi,lA⟩:=Option.map_eq_some_iff.1 zVd;simp only[Prod.mk.injEq]at lA;obtain⟨hz,hs,kA⟩:=lA;have HI:Hid (Tryz.prog.info? 2=some i0/\i0.zero=some (.int .i64 0)/\i0.size=1/\i0.bytes=8):=⟨hi,hz,hs,kA⟩;have aA:Hid ((w.alloc (.cells #[] 2)).ownsRow w.heap.size 2 1 (.slice (some ⟨w.heap.size,0,none⟩) 0 0) 0 []):=World.ownsRow_made w #[] 0 (Nat.le_refl _) (Nat.zero_le _) (by simp);clear hi hz hs kA;go_enter Tryz.func153,Tryz.ntmps153;go_wp2_with (first
   | (at_builtin;refine zBP rfl _ _ 24 rfl w.heap.size 2 i0 (.int .i64 0) 1 8 (by kernel_rfl) HI.out.1 HI.out.2.1 HI.out.2.2.1 HI.out.2.2.2 rfl (by decide) _ _ _ rfl aA.out (some ad) n c xs rfl Hl.out.1 Hl.out.2 ?c1 ?c3 ?c4 ?c5 ?_))
  case c1=>
   intro h0;obtain⟨b,off,ha,bA⟩:=Hc.out h0;exact⟨b,off,ha,fun j u hj=>(((Below.refl _ _).alloc (Nat.le_refl _) _).cell (zH (bA j u hj))).trans (bA j u hj)⟩
  case c3=>unfold maxLen;omega
  case c4=>omega
  case c5=>simp
  intro v' w1 dA cA gA;have mA:Below w.heap.size w w1:=((Below.refl _ _).alloc (Nat.le_refl _) _).grown cA (by simp) (fun q hq=>by have:=aA.out.lt q hq;omega);have eA:w1.ownsRow w.heap.size 2 1 v' n xs:=(by simpa using dA);have fA:Hid (w1.ownsRow w.heap.size 2 1 v' n xs):=eA;have jA:Hid (n=0->v' = .slice (some ⟨w.heap.size,0,none⟩) 0 0):=gA;clear dA eA cA gA;go_wp2;go_ret;exact⟨v',rfl,fA.out,mA,fun e=>⟨_,jA.out e⟩⟩
theorem zLp(a:Option Addr)(n c:Nat)(xs:List Value)(w:World)(hl:xs.length=n*3)(iA:∀u∈xs,u.oneCell'=true)(hn:n<=1048576)
  (hc:0<n->∃b off,a=some ⟨b,off,none⟩/\∀j u,xs[j]?=some u->w.cell? ⟨b,off+j,none⟩=some u) :
  Calls Tryz.prog 175 #[.slice a n c] w fun e w'=>∃v',e = .returned v'/\w'.ownsRow w.heap.size 58 3 v' n xs/\Below w.heap.size w w'/\(n=0->∃a,v' = .slice a 0 0):=by
 have Hc:Hid (0<n->∃b off,a=some ⟨b,off,none⟩/\∀j u,xs[j]?=some u->w.cell? ⟨b,off+j,none⟩=some u):=hc;have Hl:Hid (xs.length=n*3/\∀u∈xs,u.oneCell'=true):=⟨hl,iA⟩;clear hc hl iA;have pA:=fun w=>Lib.run_eql_slice_nil (P:=Tryz.prog) w 23 58 a n c 0 0 (by kernel_rfl)
 cases a with
 | none=>
  have nA:n=0:=by
   by_cases h:0<n
   ·obtain⟨b,off,ha,_⟩:=Hc.out h;simp at ha
   ·omega
  subst nA;have oA:xs = []:=List.eq_nil_of_length_eq_zero (by simpa using Hl.out.1);subst oA;go_enter Tryz.func175,Tryz.ntmps175;go_wp2;go_ret;exact⟨_,rfl,World.ownsRow_nil _ _ _ _,Below.refl _ _,fun _=>⟨_,rfl⟩⟩
 | some ad=>
  obtain⟨i0,hi,lA⟩:=Option.map_eq_some_iff.1 zVe;simp only[Prod.mk.injEq]at lA;obtain⟨hz,hs,kA⟩:=lA;have HI:Hid (Tryz.prog.info? 58=some i0/\i0.zero=some (.agg #[.int .i64 0,.slice none 0 0,.string ⟨#[]⟩])/\i0.size=3/\i0.bytes=48):=⟨hi,hz,hs,kA⟩;have aA:Hid ((w.alloc (.cells #[] 58)).ownsRow w.heap.size 58 3 (.slice (some ⟨w.heap.size,0,none⟩) 0 0) 0 []):=World.ownsRow_made w #[] 0 (Nat.le_refl _) (Nat.zero_le _) (by simp);clear hi hz hs kA;go_enter Tryz.func175,Tryz.ntmps175;go_wp2_with (first
   | (at_builtin;refine zBP rfl _ _ 23 rfl w.heap.size 58 i0 (.agg #[.int .i64 0,.slice none 0 0,.string ⟨#[]⟩]) 3 48 (by kernel_rfl) HI.out.1 HI.out.2.1 HI.out.2.2.1 HI.out.2.2.2 rfl (by decide) _ _ _ rfl aA.out (some ad) n c xs rfl Hl.out.1 Hl.out.2 ?c1 ?c3 ?c4 ?c5 ?_))
  case c1=>
   intro h0;obtain⟨b,off,ha,bA⟩:=Hc.out h0;exact⟨b,off,ha,fun j u hj=>(((Below.refl _ _).alloc (Nat.le_refl _) _).cell (zH (bA j u hj))).trans (bA j u hj)⟩
  case c3=>unfold maxLen;omega
  case c4=>omega
  case c5=>simp
  intro v' w1 dA cA gA;have mA:Below w.heap.size w w1:=((Below.refl _ _).alloc (Nat.le_refl _) _).grown cA (by simp) (fun q hq=>by have:=aA.out.lt q hq;omega);have eA:w1.ownsRow w.heap.size 58 3 v' n xs:=(by simpa using dA);have fA:Hid (w1.ownsRow w.heap.size 58 3 v' n xs):=eA;have jA:Hid (n=0->v' = .slice (some ⟨w.heap.size,0,none⟩) 0 0):=gA;clear dA eA cA gA;go_wp2;go_ret;exact⟨v',rfl,fA.out,mA,fun e=>⟨_,jA.out e⟩⟩
theorem zOp{f g:Nat->zM}(h:∀i,zCg (f i)<=zCg (g i)):∀n,zBK f n<=zBK g n
 | 0=>Nat.le_refl _
 | n+1=>Nat.add_le_add (zOp h n) (h n)
structure zLX where
 pool:zE
 ps:Int
 pb:Int
 code:Int
theorem zYJ{w:World}{lo hi:Nat}:zAE w lo hi (.slice none 0 0) (.slice none 0 0) (zEi 0):=
 zYH (g:=0) (Nat.zero_le _) ⟨none,0,rfl,Nat.le_refl _,fun h=>absurd h (Nat.lt_irrefl _)⟩ (fun i h=>absurd h (Nat.not_lt_zero _))
end Go.Proofs.YtbplmbafodlboaaGreatDoor
