/- A part of the proof. -/
import Derived.Test.YtbplmbafodlboaaGreatDoorF11
set_option linter.unusedVariables false
set_option maxRecDepth 20000
set_option maxHeartbeats 4000000
namespace Go.Proofs.YtbplmbafodlboaaGreatDoor
open Go.RowKit
theorem zNn(v0 v1:Value)(lo hi:Nat)(p:zF)(xs xb:Int)(w:World)(h1:zCj w lo hi v0 v1 p)(hR:zz p) :
    Calls Tryz.prog 147 #[.agg #[v0,v1],.agg #[.int .i64 xs,.int .i64 xb]] w fun e w'=>zK (zO0 p xs xb) e/\Below w.heap.size w w':=by
  have Hp:=qm h1;have HR:=qm hR;obtain⟨a,c,a',c',rfl,rfl⟩:∃a c a' c',v0 = .slice a p.n c/\v1 = .slice a' p.hn c':=by
    obtain⟨⟨_,a,c,h1,_⟩,⟨_,a',c',h3,_⟩⟩:=h1;exact⟨a,c,a',c',h1,h3⟩
  clear h1 hR;have rA:=zZU w (.slice a p.n c) (.slice a' p.hn c') (.int .i64 xs) (.int .i64 xb) 26 70;by_cases hn:Nil xs xb
  · have HN:=qm hn
    obtain⟨rfl,rfl⟩:=hn;obtain⟨_,_,aA,_⟩:=rA;go_enter Tryz.func147,Tryz.ntmps147;go_wp2;go_ret;exact⟨zK.yes (Or.inl HN.out),aA⟩
  · have HN:=qm hn
    have e0:=zGW hn;clear hn;have iA:Hid (∀t:Bool,(t=true↔yT p xs xb/\zOu p (p.s xs.toNat)/\zVp p (zN p xs xb))->zK (zO0 p xs xb) (.returned (.bool t))):=fun t ht=>⟨t,rfl,ht.trans ⟨fun h=>Or.inr h,fun h=>h.resolve_left HN.out⟩⟩
    go_enter Tryz.func147,Tryz.ntmps147;go_upto_region 1 with fail;generalize (w.alloc (.cells #[.slice a p.n c,.slice a' p.hn c'] 26)).alloc (.cells #[.int .i64 xs,.int .i64 xb] 70)=W at rA ⊢;obtain⟨hB,hX,aA,hz⟩:=rA;have HB:=qm hB;have HX:=qm hX;clear hB hX
    go_cut [7] (fun v wc=>v = .bool false/\W=wc)
    case first=>
      obtain⟨⟨y0,y1⟩,⟨y2,y3⟩⟩:=HX.out;rcases e0 with e0 | ⟨e0,e1⟩
      all_goals
        go_wp2_with fail
        go_meet
        case rel=>exact⟨rfl,rfl⟩
    case rest=>
      obtain⟨rfl,rfl⟩:=hcut;clear e0;obtain⟨⟨x0,x1⟩,⟨x2,x3⟩⟩:=HB.out;obtain⟨⟨y0,y1⟩,⟨y2,y3⟩⟩:=HX.out;go_upto_region 3 with fail;by_cases hP:yT p xs xb
      · have HP:=qm hP
        clear hP;by_cases nA:zOu p (p.s xs.toNat)
        · have jA:=qm nA
          clear nA;go_region_held3 (fun w'=>w'.cell? ⟨w.heap.size,0,none⟩=some (.slice a p.n c)/\w'.cell? ⟨w.heap.size,1,none⟩=some (.slice a' p.hn c')/\w'.cell? ⟨w.heap.size+1,0,none⟩=some (.int .i64 xs)/\w'.cell? ⟨w.heap.size+1,1,none⟩=some (.int .i64 xb)) (go_keep)
            (first
              | (go_at_call 163
                 refine(zJ0 _ p.n lo hi p.s xs xb _ ?_).mono ?_
                 (first | exact Hp.out.1.zb7 aA | exact Hp.out.1.zb7 aA.drew)
                 rintro e w1 ⟨⟨t1,rfl,cA⟩,fA⟩;rw[zJ1 HR.out]at cA;obtain rfl:t1=true:=cA.2 HP.out;clear cA;have bA:Below W.heap.size W w1:=(by first | exact fA | exact qY fA);obtain⟨⟨k0,_⟩,⟨k1,_⟩⟩:=HB.out.zb7 bA;obtain⟨⟨k2,_⟩,⟨k3,_⟩⟩:=HX.out.zb7 bA)
              | (go_at_call 164
                 refine(zM4 p HR.out _ lo hi xs xb _ ?_ HP.out).mono ?_;exact Hp.out.1.zb7 (zA aA bA);rintro e w2 ⟨⟨t2,rfl,lA⟩,pA⟩;obtain rfl:t2=true:=lA.2 jA.out;clear lA;have eA:=zA bA pA;obtain⟨⟨l0,_⟩,⟨l1,_⟩⟩:=HB.out.zb7 eA;obtain⟨⟨l2,_⟩,⟨l3,_⟩⟩:=HX.out.zb7 eA)
              | (go_at_call 166
                 refine(zOY p HR.out _ lo hi xs xb _ ?_ (Or.inr HP.out)).mono ?_;exact Hp.out.1.zb7 (zA aA eA);rintro e w3 ⟨v3,rfl,gA,tA⟩;obtain⟨na,nc,rfl,_⟩:=qf gA;have mA:=zA eA tA;have aB:=zXx (by have:=yR p xs xb;unfold maxLen;omega) gA;obtain⟨⟨m0,_⟩,⟨m1,_⟩⟩:=HB.out.zb7 mA;obtain⟨⟨m2,_⟩,⟨m3,_⟩⟩:=HX.out.zb7 mA)
              | (go_at_call 165
                 refine(zUf _ _ _ lo hi 0 w3.heap.size _ p _ _ _ ?_ aB).mono ?_;exact Hp.out.zb7 (zA aA mA);rintro e w4 ⟨⟨t4,rfl,sA⟩,vA⟩;rw[zRu]at sA;have oA:=zA mA vA;obtain⟨⟨n0,_⟩,⟨n1,_⟩⟩:=HB.out.zb7 oA;obtain⟨⟨n2,_⟩,⟨n3,_⟩⟩:=HX.out.zb7 oA))
          have kA:=zA aA oA;have HT:=qm sA;clear sA;go_wp2;go_ret;exact⟨iA.out t4 (HT.out.trans ⟨fun h=>⟨HP.out,jA.out,h⟩,fun h=>h.2.2⟩),kA⟩
        · have jA:=qm nA
          clear nA;refine wp_region_held_drew (S:=(fun w'=>w'.cell? ⟨w.heap.size,0,none⟩=some (.slice a p.n c)/\w'.cell? ⟨w.heap.size,1,none⟩=some (.slice a' p.hn c')/\w'.cell? ⟨w.heap.size+1,0,none⟩=some (.int .i64 xs)/\w'.cell? ⟨w.heap.size+1,1,none⟩=some (.int .i64 xb))) (by kernel_rfl) ?_ (fun hHeld=>?_)
          · (try dsimp only)
            go_keep
          refine tk 0 (h:=tk 1 (h:=tk 2 (h:=?_)));refine rd [3] (rc (fun K hK=>?_) .nil);go_simp;go_at_call 163;refine(zJ0 _ p.n lo hi p.s xs xb _ ?_).mono ?_
          · first | exact Hp.out.1.zb7 aA | exact Hp.out.1.zb7 aA.drew
          rintro e w1 ⟨⟨t1,rfl,cA⟩,fA⟩;rw[zJ1 HR.out]at cA;obtain rfl:t1=true:=cA.2 HP.out;clear cA;have bA:Below W.heap.size W w1:=(by first | exact fA | exact qY fA);obtain⟨⟨k0,_⟩,⟨k1,_⟩⟩:=HB.out.zb7 bA;obtain⟨⟨k2,_⟩,⟨k3,_⟩⟩:=HX.out.zb7 bA
          (try go_wp2_with fail)
          refine hK.out _ _ (by(try dsimp only);go_keep) ?_;clear hK K hHeld;intro hHeld
          try simp only[Act.put,s1,s2,s3]
          refine tk 4 (h:=tk 5 (h:=tk 6 (h:=tk 7 (h:=?_))));refine rd [8] (rc (fun K hK=>?_) .nil);go_simp;go_at_call 164;refine(zM4 p HR.out _ lo hi xs xb _ ?_ HP.out).mono ?_
          · exact Hp.out.1.zb7 (zA aA bA)
          rintro e w2 ⟨⟨t2,rfl,lA⟩,pA⟩;obtain rfl:t2=false:=zAG lA jA.out;clear lA;have eA:=zA bA pA;obtain⟨⟨l0,_⟩,⟨l1,_⟩⟩:=HB.out.zb7 eA;obtain⟨⟨l2,_⟩,⟨l3,_⟩⟩:=HX.out.zb7 eA
          (try go_wp2_with fail)
          refine hK.out _ _ (by(try dsimp only);go_keep) ?_;clear hK K hHeld;intro hHeld
          try simp only[Act.put,s1,s2,s3]
          refine tk 9 (h:=tk 10 (h:=ts 11 (h:=ts 12 (h:=ts 13 (h:=ts 14 (h:=?_))))));refine rd [15] (rc (fun K hK=>?_) .nil);split
          · rename_i dA
            exact absurd (show false=true from dA) Bool.false_ne_true
          refine hK.out _ _ (by assumption) (fun hHeld=>?_);clear hK K
          try simp only[Act.put,s1,s2,s3]
          refine rd [16] (rc (fun K hK=>?_) .nil);split
          · rename_i dA
            exact absurd (show false=true from dA) Bool.false_ne_true
          refine hK.out _ _ (by assumption) (fun hHeld=>?_);clear hK K
          try simp only[Act.put,s1,s2,s3]
          refine tk 17 (h:=tk 18 (h:=?_));refine wpAnyH_done (by kernel_rfl) ?_ _;have kA:=zA aA eA;go_wp2;go_ret;exact⟨iA.out false ⟨fun h=>(by cases h),fun h=>absurd h.2.1 jA.out⟩,kA⟩
      · have HP:=qm hP
        clear hP;refine wp_region_held_drew (S:=(fun w'=>w'.cell? ⟨w.heap.size,0,none⟩=some (.slice a p.n c)/\w'.cell? ⟨w.heap.size,1,none⟩=some (.slice a' p.hn c')/\w'.cell? ⟨w.heap.size+1,0,none⟩=some (.int .i64 xs)/\w'.cell? ⟨w.heap.size+1,1,none⟩=some (.int .i64 xb))) (by kernel_rfl) ?_ (fun hHeld=>?_)
        · (try dsimp only)
          go_keep
        refine tk 0 (h:=tk 1 (h:=tk 2 (h:=?_)));refine rd [3] (rc (fun K hK=>?_) .nil);go_simp;go_at_call 163;refine(zJ0 _ p.n lo hi p.s xs xb _ ?_).mono ?_
        · first | exact Hp.out.1.zb7 aA | exact Hp.out.1.zb7 aA.drew
        rintro e w1 ⟨⟨t1,rfl,cA⟩,fA⟩;rw[zJ1 HR.out]at cA;obtain rfl:t1=false:=zAG cA HP.out;clear cA;have bA:Below W.heap.size W w1:=(by first | exact fA | exact qY fA);obtain⟨⟨k0,_⟩,⟨k1,_⟩⟩:=HB.out.zb7 bA;obtain⟨⟨k2,_⟩,⟨k3,_⟩⟩:=HX.out.zb7 bA
        (try go_wp2_with fail)
        refine hK.out _ _ (by(try dsimp only);go_keep) ?_;clear hK K hHeld;intro hHeld
        try simp only[Act.put,s1,s2,s3]
        refine tk 4 (h:=ts 5 (h:=ts 6 (h:=ts 7 (h:=?_))));refine rd [8] (rc (fun K hK=>?_) .nil);split
        · rename_i dA
          exact absurd (show false=true from dA) Bool.false_ne_true
        refine hK.out _ _ (by assumption) (fun hHeld=>?_);clear hK K
        try simp only[Act.put,s1,s2,s3]
        refine tk 9 (h:=tk 10 (h:=ts 11 (h:=ts 12 (h:=ts 13 (h:=ts 14 (h:=?_))))));refine rd [15] (rc (fun K hK=>?_) .nil);split
        · rename_i dA
          exact absurd (show false=true from dA) Bool.false_ne_true
        refine hK.out _ _ (by assumption) (fun hHeld=>?_);clear hK K
        try simp only[Act.put,s1,s2,s3]
        refine rd [16] (rc (fun K hK=>?_) .nil);split
        · rename_i dA
          exact absurd (show false=true from dA) Bool.false_ne_true
        refine hK.out _ _ (by assumption) (fun hHeld=>?_);clear hK K
        try simp only[Act.put,s1,s2,s3]
        refine tk 17 (h:=tk 18 (h:=?_));refine wpAnyH_done (by kernel_rfl) ?_ _;have kA:=zA aA bA;go_wp2;go_ret;exact⟨iA.out false ⟨fun h=>(by cases h),fun h=>absurd h.1 HP.out⟩,kA⟩
def zDf(p:zF)(rs:Int)(s:zM)(j:Nat):List Int:=rs :: zCf (zCh p s j)
def zHD(p:zF)(rs:Int)(s:zM)(j i:Nat):List Int:=zDf p rs s j ++ (yC s j :: zCf (kidsUp (yC (p.s (yC s j).toNat)) (zAL (p.s (yC s j).toNat)) i))
theorem zNA(p:zF)(s:zM)(j:Nat):∀m,j<=m->∃r,zCh p s m=zCh p s j ++ r
 | 0,h=>⟨[],by rw[show j=0 by omega];simp⟩
 | m+1,h=>by
  by_cases e:j=m+1
  ·subst e;exact⟨[],by simp⟩
  ·obtain⟨r,hr⟩:=zNA p s j m (by omega);exact⟨r ++ zHC p (yC s m) (zAL s m),by rw[zCh,hr,List.append_assoc]⟩
theorem zKZ(ks kb:Nat->Int)(j:Nat):∀m,j<=m->∃r,kidsUp ks kb m=kidsUp ks kb j ++ r
 | 0,h=>⟨[],by rw[show j=0 by omega];simp⟩
 | m+1,h=>by
  by_cases e:j=m+1
  ·subst e;exact⟨[],by simp⟩
  ·obtain⟨r,hr⟩:=zKZ ks kb j m (by omega);exact⟨r ++ one (ks m) (kb m),by rw[kidsUp,hr,List.append_assoc]⟩
theorem zD8(l m:List (Int×Int)):zCf (l ++ m)=zCf l ++ zCf m:=by simp[zCf]
theorem zGc{l:List Int}{x:Int}:(l ++ [x]).Nodup↔l.Nodup/\x∉l:=by
 rw[List.nodup_append];constructor
 ·rintro⟨h1,_,h3⟩;exact⟨h1,fun hx=>h3 x hx x (by simp) rfl⟩
 ·rintro⟨h1,h2⟩;refine⟨h1,by simp,fun a ha b hb e=>?_⟩;rw[List.mem_singleton]at hb;subst hb;subst e;exact h2 ha
theorem zIj{p:zF}{rs rb:Int}(hz:¬Nil rs rb):zCf (zN p rs rb)=zDf p rs (p.s rs.toNat) 8:=by
 unfold zN zDf;rw[if_neg hz];rfl
theorem zXR{p:zF}{s:zM}{j:Nat}(hn:¬Nil (yC s j) (zAL s j)):zHC p (yC s j) (zAL s j)=(yC s j,zAL s j) :: zQv (p.s (yC s j).toNat):=if_neg hn
theorem zOd{p:zF}{rs:Int}{s:zM}{j:Nat}(hn:¬Nil (yC s j) (zAL s j)):zDf p rs s (j+1)=zHD p rs s j 8:=by
 unfold zDf zHD zDf;rw[zCh,zD8,zXR hn];rfl
theorem zVa{p:zF}{rs:Int}{s:zM}{j:Nat}(hn:Nil (yC s j) (zAL s j)):zDf p rs s (j+1)=zDf p rs s j:=by
 unfold zDf;rw[zCh,show zHC p (yC s j) (zAL s j) = [] from if_pos hn,List.append_nil]
theorem zOU(p:zF)(rs:Int)(s:zM)(j:Nat):zHD p rs s j 0=zDf p rs s j ++ [yC s j]:=rfl
theorem zXT{p:zF}{rs:Int}{s:zM}{j i:Nat}(hn:Nil (yC (p.s (yC s j).toNat) i) (zAL (p.s (yC s j).toNat) i)):zHD p rs s j (i+1)=zHD p rs s j i:=by
 unfold zHD;rw[kidsUp,show one (yC (p.s (yC s j).toNat) i) (zAL (p.s (yC s j).toNat) i) = [] from if_pos hn,List.append_nil]
theorem zXS{p:zF}{rs:Int}{s:zM}{j i:Nat}(hn:¬Nil (yC (p.s (yC s j).toNat) i) (zAL (p.s (yC s j).toNat) i)):zHD p rs s j (i+1)=zHD p rs s j i ++ [yC (p.s (yC s j).toNat) i]:=by
 unfold zHD;rw[kidsUp,show one (yC (p.s (yC s j).toNat) i) (zAL (p.s (yC s j).toNat) i) = [(yC (p.s (yC s j).toNat) i,zAL (p.s (yC s j).toNat) i)] from if_neg hn,zD8,List.append_assoc];rfl
theorem zRQ(p:zF)(rs:Int)(s:zM){j:Nat}(hj:j<=8):(zDf p rs s j).length<=73:=by
 have:=zHm p s j;simp only[zDf,zCf,List.length_cons,List.length_map];omega
theorem zZB(p:zF)(rs:Int)(s:zM){j i:Nat}(hj:j<=8)(hi:i<=8):(zHD p rs s j i).length<=90:=by
 have h1:=zRQ p rs s hj;have h2:=zCr (yC (p.s (yC s j).toNat)) (zAL (p.s (yC s j).toNat)) i;simp only[zHD,zCf,List.length_append,List.length_cons,List.length_map];omega
theorem zVM{p:zF}{rs rb:Int}(hz:¬Nil rs rb)(h:(zCf (zN p rs rb)).Nodup){j i:Nat}(hj:j<8)(hi:i<=8)(hn:¬Nil (yC (p.s rs.toNat) j) (zAL (p.s rs.toNat) j)):(zHD p rs (p.s rs.toNat) j i).Nodup:=by
 rw[zIj hz]at h;obtain⟨r,hr⟩:=zNA p (p.s rs.toNat) (j+1) 8 (by omega);obtain⟨r2,aA⟩:=zKZ (yC (p.s (yC (p.s rs.toNat) j).toNat)) (zAL (p.s (yC (p.s rs.toNat) j).toNat)) i 8 hi;have e1:zDf p rs (p.s rs.toNat) 8=zDf p rs (p.s rs.toNat) (j+1) ++ zCf r:=by unfold zDf;rw[hr,zD8];rfl
 have e2:zHD p rs (p.s rs.toNat) j 8=zHD p rs (p.s rs.toNat) j i ++ zCf r2:=by
  unfold zHD;rw[aA,zD8,List.append_assoc];rfl
 rw[e1,zOd hn,e2,List.append_assoc]at h;exact(List.nodup_append.1 h).1
def zFn(p:zF)(xs xb:Int)(i:Nat):Int:=if Nil xs xb then 0 else yC (p.s xs.toNat) i
def zFm(p:zF)(xs xb:Int)(i:Nat):Int:=if Nil xs xb then 0 else zAL (p.s xs.toNat) i
def zIC(p:zF)(xs xb:Int):Prop:=Nil xs xb\/(yT p xs xb/\(p.s xs.toNat).kn=8)
theorem zPk{p:zF}{xs xb:Int}(h:zBR p xs xb):zIC p xs xb:=by
 rcases h.2 with h2 | h2
 ·exact Or.inl h2
 ·right;refine⟨h2.1.1,?_⟩;rcases zJ9 h.1 h2.1.1 with h3 | h3
  ·have:=h2.1.2.1;omega
  ·exact h3
theorem zPU{p:zF}{xs xb:Int}(h:zBR p xs xb){j:Nat}(hj:j<8):zIC p (zFn p xs xb j) (zFm p xs xb j):=by
 by_cases hz:Nil xs xb
 ·left;unfold zFn zFm;rw[if_pos hz,if_pos hz];exact⟨rfl,rfl⟩
 ·unfold zFn zFm;rw[if_neg hz,if_neg hz];rcases(h.2.resolve_left hz).2.1.1 j hj with h2 | h2
  ·exact Or.inl h2
  ·right;refine⟨h2.1.1,?_⟩;rcases zJ9 h.1 h2.1.1 with h3 | h3
   ·have:=h2.1.2.1;omega
   ·exact h3
def zJU(p:zF)(xs xb:Int)(n:Nat):Int:=zFn p xs xb (n / 8)
def zJT(p:zF)(xs xb:Int)(n:Nat):Int:=zFm p xs xb (n / 8)
def zMt(p:zF)(xs xb:Int)(n:Nat):Int:=zFn p (zJU p xs xb n) (zJT p xs xb n) (n % 8)
def zMs(p:zF)(xs xb:Int)(n:Nat):Int:=zFm p (zJU p xs xb n) (zJT p xs xb n) (n % 8)
def zBI(rb birth:Int):Prop:=zBW birth/\rb<=birth
theorem zV9{p:zF}{xs xb birth:Int}(h:zBR p xs xb):((∀i,i<(zN p xs xb).length->¬birth<qS (zN p xs xb) i)/\zBW birth)↔zBI xb birth:=by
 constructor
 ·rintro⟨h1,h2⟩;refine⟨h2,?_⟩;by_cases hz:Nil xs xb
  ·rw[hz.2];have:=h2.1;omega
  ·have e:zN p xs xb=(xs,xb) :: zCh p (p.s xs.toNat) 8:=if_neg hz;have:=h1 0 (by rw[e];simp);rw[e]at this;have e2:qS ((xs,xb) :: zCh p (p.s xs.toNat) 8) 0=xb:=rfl;rw[e2]at this;omega
 ·rintro⟨h1,h2⟩;refine⟨fun i hi aA=>?_,h1⟩;by_cases hz:Nil xs xb
  ·have e:zN p xs xb = []:=if_pos hz;rw[e]at hi;simp at hi
  ·have hm:(zx (zN p xs xb) i,qS (zN p xs xb) i)∈zN p xs xb:=by
    have:(zx (zN p xs xb) i,qS (zN p xs xb) i)=(zN p xs xb)[i]:=by
     unfold zx qS;rw[List.getD_eq_getElem?_getD,List.getElem?_eq_getElem hi,Option.getD_some]
    rw[this];exact List.getElem_mem hi
   have:=(zFT h.1 (h.2.resolve_left hz).1.1 _ hm).2;have e:(zx (zN p xs xb) i,qS (zN p xs xb) i).2=qS (zN p xs xb) i:=rfl;omega
set_option linter.unusedSimpArgs false
set_option maxRecDepth 20000
set_option maxHeartbeats 1600000
attribute [local go_sem] qW List.map_cons List.map_nil Tr.cv yo qG qw qv yn ym yk qu zAv zAx zAw zAs zAu zAt zCK zCM zCL qK zn qL zo qE qD qP yx zk zl yB qJ tmpsOf zAf yA qI zAr yu yq yp yr stpP opds opd opdC kap zAE qF zj coreU bin zAY zB6 get put dlO fgt zA6 zAz zA3 zA4 tyT yj yi Op.operands Call.operands evLoad evLen evStore evAlloc zAZ and_true true_and List.append_nil List.nil_append List.cons_append Ret resCv zBx yP cellM zBT zB3 qX StW StR hpT hpO hpV hpA hpL hpC sg nin zCD bdO tmW obW AvE CsE CvE Av.tup Av.ids Cv.ids inD ObE Ob.ids TrE.refl qH qx qy qM qN qO zm zb za yw zBd zCB zAy evCall argL argOf qj outOb obO yM zy cvO tot Tr.own rid partsOf fillC zT zBS frz frz1 evBuildSlice zc trs Cv.tr evSlice Option.toArray_none Option.toArray_some evMakeSlice evAppend dstOf srcOf zAq zA5 zA2 zA0 zA1 ikT qt qs qq qp RetP RetN zBe qR evLd evSt evStoreH zAP evAppendM evAppendT tlOf mvOf rowE shp evTake oOf evC evCallP evCallN evCallO unlast zAK zAp zAO argsF zCA qn pmC varT vT evField evConv dB0 Option.bind_some Option.bind_none Option.map_some Option.map_none Option.isSome_some Option.isSome_none
theorem zK7{p:zF}{a b:Int}(hR:zz p)(h:zLK p a b):(p.s a.toNat).kn=8:=by
 rcases zJ9 hR h.1 with h' | h'
 ·have:=h.2.1;omega
 ·exact h'
theorem zKY{f g f' g':Nat->Int}:∀{k:Nat},(∀i,i<k->f i=f' i)->(∀i,i<k->g i=g' i)->kidsUp f g k=kidsUp f' g' k
 | 0,_,_=>rfl
 | k+1,h,h'=>by
  simp only[kidsUp];rw[zKY (fun i hi=>h i (by omega)) (fun i hi=>h' i (by omega)),h k (by omega),h' k (by omega)]
noncomputable def zaN:zW:=qZ (fun q:zF×Int×Int=>[poT q.1.n q.1.s q.1.hn q.1.h,pT q.2.1 q.2.2]) (fun q=>zz q.1/\qd q.1 q.2.1 q.2.2) (fun q=>[(false,[.s .o 2 (zN q.1 q.2.1 q.2.2).length (ptL (zN q.1 q.2.1 q.2.2))])])
theorem zEG(p:zF)(a b:Int):zaN [poT p.n p.s p.hn p.h,pT a b]=some (zz p/\qd p a b,[(false,[.s .o 2 (zN p a b).length (ptL (zN p a b))])]):=zO (fun l=>(zEt (nth l 0 0) (nth l 0 1),qg (nth l 1 0),qg (nth l 1 1))) (fun _=>rfl) (p,a,b)
theorem zDH:zw Tryz.prog 99 zaN:=by
 refine zQ zs (GOk.cons zDt (zE Tryz.func95 rfl rfl) GOk.nil) zr Tryz.func99 rfl Tryz.ntmps99 Tryz.results99 10 ?_;rintro⟨p,a,b⟩ ⟨hR,hT⟩;replace hR:zz p:=hR;replace hT:qd p a b:=hT;have hn:p.n<=200:=hR.1;refine⟨by simp,?_⟩;simp[go_sem,zCs];refine⟨fun h1 h2=>?_,fun h=>?_⟩
 ·have e:zN p a b = []:=(by simp[zN,Nil,h1,h2]);rw[e];exact⟨zJa rfl,zDB⟩
 have hN:¬Nil a b:=fun e=>h e.1 e.2
 obtain⟨bA,dA,-⟩:=hT.resolve_left hN;have h8:=zK7 hR bA;refine⟨⟨bA.1.2.1,bA.1.2.2.1⟩,?_⟩;obtain⟨F,hF⟩:∃F:Nat->List (Int×Int),∀k,F k=(a,b) :: zCh p (p.s a.toNat) k:=⟨_,fun _=>rfl⟩;have gA:∀k,(F k).length<=9*k+1:=fun k=>by rw[hF];exact Nat.succ_le_succ (zHm ..)
 refine yE (fun k:Nat=>⟨[(5,true,.m false [.h 7]),(2,true,.m false [.p 2 0]),(6,true,.m false [.s .b 2 (p.s a.toNat).kn (ptrsT (p.s a.toNat).ks (p.s a.toNat).kb)]),(7,true,.i k)],[(2,.var [.s .b 3 p.n (zU .b p.s),.s .b 1 p.hn (qh p.h)]),(7,.row 2 (F k).length (ptL (F k)))]⟩) (fun k=>8 - k) (fun k=>k<=8) 0 ?_ (by simp) ?_
 ·simp[go_sem];exact zDC (l:=[]) zEW (by simp[hF,zCh])
 rintro k hk;simp[go_sem,qB (show k<=1000000000 by omega),zCs];have kA:=gA k;refine⟨fun hl=>⟨hl,fun g1 g2=>⟨k+1,by omega,by omega,by omega,zDD ?_⟩,fun g=>?_⟩,fun hl=>?_⟩
 ·rw[hF,hF];simp[zCh,zHC,zFL h8 (show k<8 by omega),zFK h8 (show k<8 by omega),Nil,g1,g2]
 ·have aA:=dA.1 k (by omega);unfold zPy at aA;rw[zFL h8 (by omega),zFK h8 (by omega)]at aA;obtain⟨cA,iA⟩:=aA.resolve_left fun e=>g e.1 e.2
  have fA:=zK7 hR cA;refine⟨hl,by omega,hl,⟨cA.1.2.1,cA.1.2.2.1⟩,by kernel_rfl,?_⟩;obtain⟨G,hG⟩:∃G:Nat->List (Int×Int),∀j,G j=F k ++ (((p.s a.toNat).ks k,(p.s a.toNat).kb k) :: kidsUp (p.s ((p.s a.toNat).ks k).toNat).ks (p.s ((p.s a.toNat).ks k).toNat).kb j):=⟨_,fun _=>rfl⟩;refine yE (fun j:Nat=>⟨[(5,true,.m false [.h 7]),(2,true,.m false [.p 2 0]),(6,true,.m false [.s .b 2 (p.s a.toNat).kn (ptrsT (p.s a.toNat).ks (p.s a.toNat).kb)]),(8,true,.m false [.s .b 2 (p.s ((p.s a.toNat).ks k).toNat).kn (ptrsT (p.s ((p.s a.toNat).ks k).toNat).ks (p.s ((p.s a.toNat).ks k).toNat).kb)]),(7,true,.i k),(9,true,.i j)],[(2,.var [.s .b 3 p.n (zU .b p.s),.s .b 1 p.hn (qh p.h)]),(7,.row 2 (G j).length (ptL (G j)))]⟩) (fun j=>8 - j) (fun j=>j<=8) 0 ?_ (by simp) ?_
  ·simp[go_sem];exact zDC zEW (by simp[hG,kidsUp])
  rintro j hj;have jA:(G j).length<=100:=by
   have:=zCr (p.s ((p.s a.toNat).ks k).toNat).ks (p.s ((p.s a.toNat).ks k).toNat).kb j;rw[hG];simp;omega
  simp[go_sem,qB (show j<=1000000000 by omega),qB (show k<=1000000000 by omega),zCs];refine⟨fun eA=>⟨eA,fun g'=>⟨eA,by omega,j+1,by omega,by omega,by omega,zDC zEW ?_⟩,fun g1 g2=>⟨j+1,by omega,by omega,by omega,zDD ?_⟩⟩,fun eA=>⟨k+1,by omega,by omega,by omega,zDD ?_⟩⟩
  ·rw[hG,hG];simp[kidsUp,one,if_neg (show ¬Nil ((p.s ((p.s a.toNat).ks k).toNat).ks j) ((p.s ((p.s a.toNat).ks k).toNat).kb j)from fun e=>g' e.1 e.2)]
  ·rw[hG,hG];simp[kidsUp,one,Nil,g1,g2]
  ·cases (show j=8 by omega);rw[hG,hF,hF];simp only[zCh,zHC];rw[zFL h8 (by omega),zFK h8 (by omega),if_neg (show ¬Nil ((p.s a.toNat).ks k) ((p.s a.toNat).kb k)from fun e=>g e.1 e.2),zQv,zKY (f':=yC _) (g':=zAL _) (fun i hi=>(zFL fA hi).symm) (fun i hi=>(zFK fA hi).symm)];rfl
 ·cases (show k=8 by omega);exact⟨zDD (by rw[hF,zN,if_neg hN]),zDB⟩
theorem zbn{l:List (Int×Int)}{i:Nat}:zFA encP (0,0) l i 0 = .v (.int .i64 (l[i]?.getD (0,0)).1):=rfl
theorem zbo{l:List (Int×Int)}{i:Nat}:zFA encP (0,0) l i 1 = .v (.int .i64 (l[i]?.getD (0,0)).2):=rfl
theorem zYh{p:zF}{a b t:Int}(h:zBR p a b):((∀i,i<(zN p a b).length->((zN p a b)[i]?.getD (0,0)).2<=t)/\zBW t)↔zBI b t:=by
 rw[<-zV9 h];refine and_congr_left fun _=>forall_congr' fun i=>imp_congr_right fun _=>?_
 rw[qS,List.getD_eq_getElem?_getD,Int.not_lt]
noncomputable def zZv:zW:=qZ (fun q:zF×Int×Int×Int=>[poT q.1.n q.1.s q.1.hn q.1.h,pT q.2.1 q.2.2.1,iT q.2.2.2]) (fun q=>zz q.1/\qd q.1 q.2.1 q.2.2.1) (fun q=>bR (zBI q.2.2.1 q.2.2.2))
theorem zJO(p:zF)(a b t:Int):zZv [poT p.n p.s p.hn p.h,pT a b,iT t]=some (zz p/\qd p a b,bR (zBI b t)):=zO (fun l=>(zEt (nth l 0 0) (nth l 0 1),qg (nth l 1 0),qg (nth l 1 1),qg (nth l 2 0))) (fun _=>rfl) (p,a,b,t)
theorem zMO:zw Tryz.prog 125 zZv:=by
 refine zQ zs (GOk.cons zDH (zE Tryz.func99 rfl rfl) (GOk.cons zG4 (zE Tryz.func101 rfl rfl) GOk.nil)) zr Tryz.func125 rfl Tryz.ntmps125 Tryz.results125 9 ?_;rintro⟨p,a,b,t⟩ ⟨hR,hT⟩;replace hR:zz p:=hR;replace hT:qd p a b:=hT;refine⟨by simp,?_⟩;simp[go_sem,zEG,hR,hT,<-zYh (show zBR p a b from⟨hR,hT⟩)];have hl:=yR p a b;refine yE (fun k:Nat=>⟨[(8,true,.i k),(7,true,.m false [.h 7]),(2,true,.i t)],[(7,.row 2 (zN p a b).length (ptL (zN p a b)))]⟩) (fun k=>(zN p a b).length - k) (fun k=>k<=(zN p a b).length/\∀i,i<k->((zN p a b)[i]?.getD (0,0)).2<=t) 0 (by simp[go_sem]) (by simp) ?_;rintro k ⟨hk,aA⟩;simp[go_sem,qB (show k<=1000000000 by omega),zJ2,zbn,zbo];exact⟨fun h=>⟨h,fun h1 h2=>by have:=h2 k h;omega,fun h1=>⟨k+1,⟨by omega,qz h aA h1⟩,by omega,rfl⟩⟩,fun h h1 i hi=>aA i (by omega)⟩
theorem zD2{fl:Fl}{k n:Nat}{F G:Nat->Nat->Tr}(h:∀i j,i<n->j<k->F i j=G i j):TrE (.s fl k n F) (.s fl k n G):=⟨.inl rfl,rfl,rfl,fun i j hi hj=>TrE.of_eq (h i j hi hj)⟩
theorem zZO{fl:Fl}{n:Nat}{f g f' g':Nat->Int}(h:∀i,i<n->f i=f' i/\g i=g' i):TrE (.s fl 2 n (ptrsT f g)) (.s fl 2 n (ptrsT f' g')):=zD2 fun i j hi hj=>by
 match j,hj with
 | 0,_=>exact congrArg (fun x=>Tr.v (.int .i64 x)) (h i hi).1
 | 1,_=>exact congrArg (fun x=>Tr.v (.int .i64 x)) (h i hi).2
noncomputable def zZ4:zW:=qZ (fun q:zF×Int×Int=>[poT q.1.n q.1.s q.1.hn q.1.h,pT q.2.1 q.2.2]) (fun q=>zIC q.1 q.2.1 q.2.2) (fun q=>[(false,[.s .o 2 8 (ptrsT (zFn q.1 q.2.1 q.2.2) (zFm q.1 q.2.1 q.2.2))])])
theorem zMY(p:zF)(a b:Int):zZ4 [poT p.n p.s p.hn p.h,pT a b]=some (zIC p a b,[(false,[.s .o 2 8 (ptrsT (zFn p a b) (zFm p a b))])]):=zO (fun l=>(zEt (nth l 0 0) (nth l 0 1),qg (nth l 1 0),qg (nth l 1 1))) (fun _=>rfl) (p,a,b)
theorem zIY:zw Tryz.prog 128 zZ4:=by
 refine zQ zs (GOk.cons zDt (zE Tryz.func95 rfl rfl) GOk.nil) zr Tryz.func128 rfl Tryz.ntmps128 Tryz.results128 5 ?_;rintro⟨p,a,b⟩ hP;replace hP:zIC p a b:=hP;refine⟨by simp,?_⟩;by_cases hN:Nil a b
 ·obtain⟨rfl,rfl⟩:=id hN;simp[go_sem,zCs,zHb];refine zD2 fun i j hi hj=>?_
  match j,hj with
  | 0,_=>simp[ptrsT,zFn,Nil]
  | 1,_=>simp[ptrsT,zFm,Nil]
 ·obtain⟨aA,h8⟩:=hP.resolve_left hN;simp[go_sem,zCs,zGu,zGX,zHb,h8];exact⟨fun h1 h2=>(hN ⟨h1,h2⟩).elim,fun _=>⟨⟨aA.2.1,aA.2.2.1⟩,zZO fun i hi=>⟨by unfold zFn;rw[if_neg hN,zFL h8 hi],by unfold zFm;rw[if_neg hN,zFK h8 hi]⟩⟩⟩
theorem zS1{n:Nat}(h:n<64):IntKind.i64.wrap ((n:Int) / 8)=((n / 8:Nat):Int):=by
 rw[IntKind.wrap_i64];omega
theorem zYE{n:Nat}:(n:Int).tmod 8=((n % 8:Nat):Int):=(Int.ofNat_tmod n 8).symm
noncomputable def zaC:zW:=qZ (fun q:zF×Int×Int×Nat=>[poT q.1.n q.1.s q.1.hn q.1.h,pT q.2.1 q.2.2.1,iT (q.2.2.2:Int)]) (fun q=>zBR q.1 q.2.1 q.2.2.1/\q.2.2.2<64) (fun q=>[pT (zMt q.1 q.2.1 q.2.2.1 q.2.2.2) (zMs q.1 q.2.1 q.2.2.1 q.2.2.2),pT (zJU q.1 q.2.1 q.2.2.1 q.2.2.2) (zJT q.1 q.2.1 q.2.2.1 q.2.2.2)])
theorem zQ1(p:zF)(a b:Int)(n:Nat):zaC [poT p.n p.s p.hn p.h,pT a b,iT (n:Int)]=some (zBR p a b/\n<64,[pT (zMt p a b n) (zMs p a b n),pT (zJU p a b n) (zJT p a b n)]):=zO (fun l=>(zEt (nth l 0 0) (nth l 0 1),qg (nth l 1 0),qg (nth l 1 1),(qg (nth l 2 0)).toNat)) (fun _=>rfl) (p,a,b,n)
theorem zMP:zw Tryz.prog 127 zaC:=by
 refine zQ zs (GOk.cons zIY (zE Tryz.func128 rfl rfl) GOk.nil) zr Tryz.func127 rfl Tryz.ntmps127 Tryz.results127 9 ?_;rintro⟨p,a,b,n⟩ ⟨hT,hn⟩;replace hT:zBR p a b:=hT;replace hn:n<64:=hn;refine⟨by simp,?_⟩;simp[go_sem,zMY,zS1 hn,zYE];refine⟨zPk hT,by omega,by omega,zPU hT (by omega),by omega,by omega,by kernel_rfl,?_⟩;rw[show((n:Int) / 8).toNat=n / 8 by omega,show((n:Int) % 8).toNat=n % 8 by omega];exact⟨⟨rfl,rfl⟩,rfl,rfl⟩
theorem zKj{p:zF}(h:∀i,i<p.n->yh (p.s i)\/zDR p (p.s i)):∀k,k<=p.n->zBU p.s k<=24*k
 | 0,_=>Nat.le_refl _
 | k+1,hk=>by
  have ih:=zKj h k (by omega);have hs:zCv (p.s k)<=24:=by
   unfold zCv;rcases h k (by omega)with hf | hf
   ·have h1:=hf.2.1;have h2:(p.s k).data.size=0:=by
     have:=hf.2.2;rw[Go.ByteArray.toList_eq]at this;have e:(p.s k).data.data=#[]:=(by simpa using this);show(p.s k).data.data.size=0;rw[e];rfl
    omega
   ·rcases hf.2 with h2 | h2
    ·omega
    ·have h3:(p.s k).data.size=0:=by
      have:=h2.2.1;rw[Go.ByteArray.toList_eq]at this;have e:(p.s k).data.data=#[]:=(by simpa using this);show(p.s k).data.data.size=0;rw[e];rfl
     omega
  show zBU p.s k+zCv (p.s k)<=_;omega
theorem zFQ{p:zF}(h:zz p):qo p<=10000:=by
 have h1:=zKj h.2.1 p.n (Nat.le_refl _);have h2:=((zFy p).2 h).2.1;have h3:=h.1;unfold qo;omega
set_option linter.unusedSimpArgs false
set_option maxRecDepth 20000
set_option maxHeartbeats 1600000
def zYm(x:Int):Nat->Tr:=fun _=>.v (.int .i64 x)
abbrev inL(l:List Int):Nat->Nat->Tr:=zFA zYm 0 l
theorem yF{fl:Fl}{k n:Nat}{l:List Int}:(Tr.s fl k n (zFA zYm 0 l)).lend = .s .b k n (qh fun i=>l[i]?.getD 0):=rfl
theorem zY{fl:Fl}{k n:Nat}{l:List (Int×Int)}:(Tr.s fl k n (zFA encP (0,0) l)).lend = .s .b k n (ptrsT (fun i=>(l[i]?.getD (0,0)).1) (fun i=>(l[i]?.getD (0,0)).2)):=by
 rw[show zFA encP (0,0) l=_ from za2 l];exact zb
theorem zAk{l:List Int}{i c:Nat}:zFA zYm 0 l i c = .v (.int .i64 (l[i]?.getD 0)):=rfl
theorem zTU{l:List Int}{x:Int}:Has l.length (fun i=>l[i]?.getD 0) x↔x∈l:=by
 rw[List.mem_iff_getElem?];constructor
 ·rintro⟨i,hi,rfl⟩;exact⟨i,by simp[hi]⟩
 ·rintro⟨i,hi⟩;have:=(List.getElem?_eq_some_iff.1 hi).1;exact⟨i,this,by simp[hi]⟩
theorem zYn{x:Int}:∀j,j<1->([Tr.v (Value.int .i64 x)][j]?.getD (.v (.bool false))).nt=zYm x j
 | 0,_=>rfl
theorem zRK{fl:Fl}{l m:List Int}{x:Int}(h:l ++ [x]=m):TrE (.s fl 1 (l.length+1) (yU (inL l) l.length (fun p q=>([Tr.v (Value.int .i64 x)][p+q]?.getD (.v (.bool false))).nt))) (.s fl 1 m.length (inL m)):=by
 have:=zDC (fl:=fl) (k:=1) (d:=(0:Int)) zYn h;simpa only[Nat.mul_one]using this
theorem zGO{f g:Nat->Int}:∀{k:Nat},0<(kidsUp f g k).length↔∃i,i<k/\¬Nil (f i) (g i)
 | 0=>by simp[kidsUp]
 | k+1=>by
  rw[kidsUp,List.length_append];by_cases h:Nil (f k) (g k)
  ·rw[one,if_pos h,List.length_nil,Nat.add_zero,zGO];exact⟨fun ⟨i,h1,h2⟩=>⟨i,by omega,h2⟩,fun ⟨i,h1,h2⟩=>⟨i,by rcases Nat.lt_succ_iff_lt_or_eq.1 h1 with h3 | rfl;exact h3;exact absurd h h2,h2⟩⟩
  ·rw[one,if_neg h];exact⟨fun _=>⟨k,by omega,h⟩,fun _=>by simp⟩
theorem zOH{f g:Nat->Int}{k:Nat}(h:¬Nil (f k) (g k)):(kidsUp f g (k+1)).length=(kidsUp f g k).length+1:=by simp[kidsUp,one,h]
theorem zOI{f g:Nat->Int}{k:Nat}(h:Nil (f k) (g k)):(kidsUp f g (k+1)).length=(kidsUp f g k).length:=by simp[kidsUp,one,h]
theorem zG2{p:zF}(h:zz p):p.hn<=10000:=by
 have:=zFQ h;unfold qo at this;omega
attribute [local go_sem] qW List.map_cons List.map_nil Tr.cv yo qG qw qv yn ym yk qu zAv zAx zAw zAs zAu zAt zCK zCM zCL qK zn qL zo qE qD qP yx zk zl yB qJ tmpsOf zAf yA qI zAr yu yq yp yr stpP opds opd opdC kap zAE qF zj coreU bin zAY zB6 get put dlO fgt zA6 zAz zA3 zA4 tyT yj yi Op.operands Call.operands evLoad evLen evStore evAlloc zAZ and_true true_and List.append_nil List.nil_append List.cons_append Ret resCv zBx yP cellM zBT zB3 qX StW StR hpT hpO hpV hpA hpL hpC sg nin zCD bdO tmW obW AvE CsE CvE Av.tup Av.ids Cv.ids inD ObE Ob.ids TrE.refl qH qx qy qM qN qO zm zb za yw zBd zCB zAy evCall argL argOf qj outOb obO yM zy cvO tot Tr.own rid partsOf fillC zT zBS frz frz1 evBuildSlice zc trs Cv.tr evSlice Option.toArray_none Option.toArray_some evMakeSlice evAppend dstOf srcOf zAq zA5 zA2 zA0 zA1 ikT qt qs qq qp RetP RetN zBe qR evLd evSt evStoreH zAP evAppendM evAppendT tlOf mvOf rowE shp evTake oOf evC evCallP evCallN evCallO unlast zAK zAp zAO argsF zCA qn pmC varT vT evField evConv dB0 Option.bind_some Option.bind_none Option.map_some Option.map_none Option.isSome_some Option.isSome_none
attribute [local go_sem] yF zY zAk
noncomputable def mTR:zW:=qZ (fun q:zF×Int×Int=>[poT q.1.n q.1.s q.1.hn q.1.h,pT q.2.1 q.2.2]) (fun q=>zz q.1) (fun q=>bR (qd q.1 q.2.1 q.2.2))
theorem zSj(p:zF)(a b:Int):mTR [poT p.n p.s p.hn p.h,pT a b]=some (zz p,bR (qd p a b)):=zO (fun l=>(zEt (nth l 0 0) (nth l 0 1),qg (nth l 1 0),qg (nth l 1 1))) (fun _=>rfl) (p,a,b)
theorem zKa:zw Tryz.prog 58 mTR:=by
 refine zQ zs (GOk.cons zDt (zE Tryz.func95 rfl rfl) (GOk.cons zSU (zE Tryz.func96 rfl rfl) (GOk.cons zSV (zE Tryz.func97 rfl rfl) (GOk.cons zFo (zE Tryz.func61 rfl rfl) GOk.nil)))) zr Tryz.func58 rfl Tryz.ntmps58 Tryz.results58 12 ?_;rintro⟨p,a,b⟩ hR;replace hR:zz p:=hR;have hn:p.n<=200:=hR.1;have hm:=zG2 hR;refine⟨by simp,?_⟩;simp[go_sem,zCs,zQz];refine⟨fun h1 h2=>.inl ⟨h1,h2⟩,fun h=>⟨⟨by omega,by omega⟩,fun h1 h2=>?_,fun kA=>⟨⟨kA.1.2.1,kA.1.2.2.1⟩,?_⟩⟩⟩
 ·exact h1 ((h2.resolve_left fun e=>h e.1 e.2).1)
 have hN:¬Nil a b:=fun e=>h e.1 e.2
 obtain⟨s,hs⟩:∃s,p.s a.toNat=s:=⟨_,rfl⟩;have h8:=zK7 hR kA;rw[hs]at h8;have hT:qd p a b↔zZm p s/\(zDf p a s 8).Nodup:=by
  unfold qd;rw[hs,zIj hN,hs];exact⟨fun h=>(h.resolve_left hN).2,fun h=>.inr ⟨kA,h⟩⟩
 have kS:∀{i},i<8->yC s i=s.ks i:=fun hi=>zFL h8 hi
 have kB:∀{i},i<8->zAL s i=s.kb i:=fun hi=>zFK h8 hi
 obtain⟨F,hF⟩:∃F:Nat->List Int,∀k,F k=zDf p a s k:=⟨_,fun _=>rfl⟩;obtain⟨C,hC⟩:∃C:Nat->Nat,∀k,C k=(kidsUp (yC s) (zAL s) k).length:=⟨_,fun _=>rfl⟩;have sA:∀k,C k<=k:=fun k=>by rw[hC];exact zCr ..
 have vA:∀k,k<=8->(F k).length<=73:=fun k hk=>by rw[hF];exact zRQ p a s hk
 refine yE (fun k:Nat=>⟨[(5,true,.m false [.h 7]),(2,true,.m false [.p 2 0]),(6,true,.i (C k)),(7,true,.m false [.s .b 2 s.kn (ptrsT s.ks s.kb)]),(8,true,.i k)],[(2,.var [.s .b 3 p.n (zU .b p.s),.s .b 1 p.hn (qh p.h)]),(7,.row 1 (F k).length (inL (F k)))]⟩) (fun k=>8 - k) (fun k=>k<=8/\(∀i,i<k->zPy p s i)/\(F k).Nodup) 0 ?_ ?_ ?_
 ·simp[go_sem,hs,hC,kidsUp,hF,zDf,zCh,zCf];exact zD2 fun i j hi hj=>by cases (show i=0 by omega);cases (show j=0 by omega);rfl
 ·simp[hF,zDf,zCh,zCf]
 rintro k ⟨hk,dA,nA⟩;have eB:=vA k hk;simp[go_sem,hs,h8,qB (show k<=1000000000 by omega),qB (show C k<=1000000000 by have:=sA k;omega),zCs,zQz,zHd,zTU];refine⟨fun hl=>⟨hl,fun g1 g2=>⟨k+1,?_⟩,fun g=>⟨hl,⟨by omega,by omega⟩,?_⟩⟩,fun hl=>?_⟩
 ·replace hl:k<8:=(by omega);have bA:Nil (yC s k) (zAL s k):=(by rw[kS hl,kB hl];exact⟨g1,g2⟩);have e1:F (k+1)=F k:=(by rw[hF,hF];exact zVa bA);have e2:C (k+1)=C k:=(by rw[hC,hC];exact zOI bA);rw[e1,e2];exact⟨⟨by omega,qz hl dA (.inl bA),nA⟩,by omega,⟨rfl,rfl⟩,TrE.refl _⟩
 ·replace hl:k<8:=(by omega);have bA:¬Nil (yC s k) (zAL s k):=(by rw[kS hl,kB hl];exact fun e=>g e.1 e.2);have iA:qd p a b->∀i,i<=8->(zHD p a s k i).Nodup:=fun h i hi=>by
   have h2:=(hT.1 h).2;rw[<-hs,<-zIj hN]at h2;rw[<-hs]at bA ⊢;exact zVM hN h2 hl hi bA
  refine⟨fun _=>by omega,fun _=>by omega,by kernel_rfl,fun h1 h2=>?_,fun lA cB=>⟨by omega,by omega,by omega,⟨lA.1.2.1,lA.1.2.2.1⟩,by kernel_rfl,?_⟩⟩
  ·rcases h1 with h1 | h1
   ·have h3:=((hT.1 h2).1.1 k hl).resolve_left bA;rw[kS hl,kB hl]at h3;exact h1 h3.1
   ·have h3:=iA h2 0 (by omega);rw[zOU,zGc,kS hl,<-hF]at h3;exact h3.2 h1
  obtain⟨t,ht⟩:∃t,p.s (s.ks k).toNat=t:=⟨_,rfl⟩;have t8:=zK7 hR lA;rw[ht]at t8;have jA:∀{i},i<8->yC t i=t.ks i:=fun hi=>zFL t8 hi
  have mA:∀{i},i<8->zAL t i=t.kb i:=fun hi=>zFK t8 hi
  have fA:zPy p s k↔zZg p t:=by
   unfold zPy;rw[kS hl,kB hl,ht];rw[kS hl,kB hl]at bA;exact⟨fun h=>(h.resolve_left bA).2,fun h=>.inr ⟨lA,h⟩⟩
  obtain⟨G,hG⟩:∃G:Nat->List Int,∀i,G i=zHD p a s k i:=⟨_,fun _=>rfl⟩;obtain⟨D,hD⟩:∃D:Nat->Nat,∀i,D i=(kidsUp (yC t) (zAL t) i).length:=⟨_,fun _=>rfl⟩;have tA:∀i,D i<=i:=fun i=>by rw[hD];exact zCr ..
  have aB:∀i,i<=8->(G i).length<=90:=fun i hi=>by rw[hG];exact zZB p a s hk hi
  have rA:G 0=F k ++ [s.ks k]:=(by rw[hG,zOU,<-hF,kS hl]);refine yE (fun i:Nat=>⟨[(5,true,.m false [.h 7]),(2,true,.m false [.p 2 0]),(6,true,.i (C k+1:Nat)),(7,true,.m false [.s .b 2 s.kn (ptrsT s.ks s.kb)]),(8,true,.i k),(9,true,.i (D i)),(10,true,.m false [.s .b 2 t.kn (ptrsT t.ks t.kb)]),(11,true,.i i)],[(2,.var [.s .b 3 p.n (zU .b p.s),.s .b 1 p.hn (qh p.h)]),(7,.row 1 (G i).length (inL (G i)))]⟩) (fun i=>8 - i) (fun i=>i<=8/\(∀q,q<i->Nil (yC t q) (zAL t q)\/zOs p (yC t q) (zAL t q))/\(G i).Nodup) 0 ?_ ?_ ?_
  ·simp[go_sem,ht,h8,hD,kidsUp];exact zRK rA.symm
  ·simp;rw[rA,zGc];exact⟨nA,cB⟩
  rintro i ⟨hi,cA,gA⟩;have fB:=aB i hi;simp[go_sem,hs,h8,ht,t8,qB (show i<=1000000000 by omega),qB (show k<=1000000000 by omega),qB (show D i<=1000000000 by have:=tA i;omega),zCs,zW4,zHd,zTU];refine⟨fun aA=>⟨aA,fun g1 g2=>⟨i+1,?_⟩,fun g'=>⟨aA,⟨by omega,by omega⟩,?_⟩⟩,fun aA=>?_⟩
  ·replace aA:i<8:=(by omega);have eA:Nil (yC t i) (zAL t i):=(by rw[jA aA,mA aA];exact⟨g1,g2⟩);have e1:G (i+1)=G i:=by
    rw[hG,hG];refine zXT ?_;rw[kS hl,ht];exact eA
   have e2:D (i+1)=D i:=(by rw[hD,hD];exact zOI eA);rw[e1,e2];exact⟨⟨by omega,qz aA cA (.inl eA),gA⟩,by omega,⟨rfl,rfl⟩,TrE.refl _⟩
  ·replace aA:i<8:=(by omega);have eA:¬Nil (yC t i) (zAL t i):=(by rw[jA aA,mA aA];exact fun e=>g' e.1 e.2);have e1:G (i+1)=G i ++ [t.ks i]:=by
    rw[hG,hG,zXS (by rw[kS hl,ht];exact eA),kS hl,ht,jA aA]
   have e2:D (i+1)=D i+1:=(by rw[hD,hD];exact zOH eA);refine⟨fun _=>by omega,fun _=>by omega,by kernel_rfl,fun h1 h2=>?_,fun bB oA=>⟨by omega,by omega,i+1,⟨by omega,qz aA cA (.inr ?_),?_⟩,by omega,⟨by rw[e2];rfl,rfl⟩,zRK e1.symm⟩⟩
   ·rcases h1 with h1 | h1
    ·have h3:=((fA.1 ((hT.1 h2).1.1 k hl)).1 i aA).resolve_left eA;rw[jA aA,mA aA]at h3;exact h1 h3
    ·have h3:=iA h2 (i+1) (by omega);rw[<-hG,e1,zGc]at h3;exact h3.2 h1
   ·rw[jA aA,mA aA];exact bB
   ·rw[e1,zGc];exact⟨gA,oA⟩
  ·cases (show i=8 by omega);have pA:(∃i,i<8/\¬Nil (yC t i) (zAL t i))↔0<D 8:=(by rw[hD,zGO]);have e1:F (k+1)=G 8:=(by rw[hF,hG];exact zOd bA);have e2:C (k+1)=C k+1:=(by rw[hC,hC];exact zOH bA);refine⟨fun h1 h2=>?_,fun h1=>⟨k+1,⟨by omega,qz hl dA (fA.2 ⟨cA,pA.2 (by omega)⟩),by rw[e1];exact gA⟩,by omega,⟨by rw[e2];rfl,rfl⟩,by rw[e1];exact TrE.refl _⟩⟩;have:=pA.1 (fA.1 ((hT.1 h2).1.1 k hl)).2;omega
 ·cases (show k=8 by omega);rw[hT,<-hF,hC,zGO];exact⟨fun h=>⟨⟨dA,h⟩,nA⟩,fun h=>h.1.2⟩
noncomputable def zbk:zW:=qZ (fun q:zF×Int×Int=>[poT q.1.n q.1.s q.1.hn q.1.h,pT q.2.1 q.2.2]) (fun q=>q.1.n<=1000000/\q.1.hn<=1000000) (fun q=>bR (zBR q.1 q.2.1 q.2.2))
theorem zK6(p:zF)(a b:Int):zbk [poT p.n p.s p.hn p.h,pT a b]=some (p.n<=1000000/\p.hn<=1000000,bR (zBR p a b)):=zO (fun l=>(zEt (nth l 0 0) (nth l 0 1),qg (nth l 1 0),qg (nth l 1 1))) (fun _=>rfl) (p,a,b)
theorem zIy:zw Tryz.prog 124 zbk:=by
 refine zQ zs (GOk.cons zEU (zE Tryz.func55 rfl rfl) (GOk.cons zKa (zE Tryz.func58 rfl rfl) GOk.nil)) zr Tryz.func124 rfl Tryz.ntmps124 Tryz.results124 5 ?_;rintro⟨p,a,b⟩ ⟨hn,hm⟩;replace hn:p.n<=1000000:=hn;replace hm:p.hn<=1000000:=hm;refine⟨by simp,?_⟩;simp[go_sem,zHe,zSj,hn,hm,zBR]
theorem zFV(v:Value)(n lo hi:Nat)(f g:Nat->Int)(w:World)(h1:qi w lo hi v n f g)(hn:n<=1048576) :
  Calls Tryz.prog 136 #[v] w fun e w'=>(∃v' kb,e = .returned v'/\zAQ w' kb v' n f g/\(0<n->w.heap.size<=kb/\kb<w'.heap.size))/\Below w.heap.size w w':=by
 obtain⟨m1,a,c,rfl,mc,g1⟩:=h1;have G1:Hid (0<n->∃b off,a=some ⟨b,off,none⟩/\lo<=b/\b<hi/\∀i,i<n->w.cell? ⟨b,off+i*2,none⟩=some (.int .i64 (f i))/\w.cell? ⟨b,off+i*2+1,none⟩=some (.int .i64 (g i))):=g1;have Hm:Hid (n<=maxLen):=m1;clear g1 m1;have oA:=fun w=>Lib.run_eql_slice_nil (P:=Tryz.prog) w 56 70 a n c 0 0 (by kernel_rfl)
 cases a with
 | none=>
  have nA:n=0:=by
   by_cases h:0<n
   ·obtain⟨b,off,ha,_⟩:=G1.out h;simp at ha
   ·omega
  subst nA;go_enter Tryz.func136,Tryz.ntmps136;go_wp2;go_ret;exact⟨⟨_,0,rfl,⟨Nat.zero_le _,none,0,rfl,Nat.le_refl _,fun h=>absurd h (Nat.lt_irrefl _)⟩,fun h=>absurd h (Nat.lt_irrefl _)⟩,Below.refl _ _⟩
 | some ad=>
  obtain⟨i0,hi,lA⟩:=Option.map_eq_some_iff.1 zQg;simp only[Prod.mk.injEq]at lA;obtain⟨hz,hs,kA⟩:=lA;have fA:∀(w':World),Below w.heap.size w w'->∀j u,(kc f g n)[j]?=some u->w'.cell? (ad.add j)=some u:=fun w' hb j u hj=>by
   by_cases h0:0<n
   ·obtain⟨b,off,ha,_,_,hc⟩:=G1.out h0;simp only[Option.some.injEq]at ha;subst ha;have:=zWi hc j u hj;have iA:(⟨b,off,none⟩:Addr).add j=⟨b,off+j,none⟩:=(by unfold Addr.add;split<;>simp_all);rw[iA]at this ⊢;exact(hb.cell (zH this)).trans this
   ·obtain rfl:n=0:=(by omega);simp[kc]at hj
  have gA:Hid (∀(w':World),Below w.heap.size w w'->∀j u,(kc f g n)[j]?=some u->w'.cell? (ad.add j)=some u):=fA;have HI:Hid (Tryz.prog.info? 70=some i0/\i0.zero=some (.agg #[.int .i64 0,.int .i64 0])/\i0.size=2/\i0.bytes=16):=⟨hi,hz,hs,kA⟩;have dA:(w.alloc (.cells #[] 70)).ownsRow w.heap.size 70 2 (.slice (some ⟨w.heap.size,0,none⟩) 0 0) 0 []:=World.ownsRow_made w #[] 0 (Nat.le_refl _) (Nat.zero_le _) (by simp);have aA:Hid ((w.alloc (.cells #[] 70)).ownsRow w.heap.size 70 2 (.slice (some ⟨w.heap.size,0,none⟩) 0 0) 0 []):=dA;clear hi hz hs kA fA dA;go_enter Tryz.func136,Tryz.ntmps136;go_wp2_with (first
   | (at_builtin;refine wpList_append_own _ rfl _ _ 56 rfl w.heap.size 70 i0 (.agg #[.int .i64 0,.int .i64 0]) 2 16 (by kernel_rfl) HI.out.1 HI.out.2.1 HI.out.2.2.1 HI.out.2.2.2 rfl (by decide) _ _ _ rfl aA.out ad n c (kc f g n) rfl (zMI f g n) ?c1 (zan f g n) ?c3 ?c4 ?c5 ?_))
  case c1=>exact gA.out _ ((Below.refl _ _).alloc (Nat.le_refl _) _)
  case c3=>unfold maxLen;omega
  case c4=>omega
  case c5=>simp
  intro v' w1 cA bA jA;have mA:Below w.heap.size w w1:=((Below.refl _ _).alloc (Nat.le_refl _) _).grown bA (by simp) (fun q hq=>by have:=aA.out.lt q hq;omega);have eA:w1.ownsRow w.heap.size 70 2 v' n (kc f g n):=(by simpa using cA);obtain⟨kb,hp,hk⟩:=zPh Hm.out eA;have Hp:Hid (zAQ w1 kb v' n f g/\(0<n->w.heap.size<=kb/\kb<w1.heap.size)):=⟨hp,hk⟩;clear hp hk cA eA bA jA;go_wp2;go_ret;exact⟨⟨v',kb,rfl,Hp.out.1,Hp.out.2⟩,mA⟩
theorem zHv(v0 v1 v2:Value)(lo hi:Nat)(s:zM)(w:World)(h1:zBq w lo hi v0 v1 v2 s)(hn:s.kn<=1048576) :
  Calls Tryz.prog 176 #[.agg #[v0,v1,v2]] w (zYU s w):=by
 obtain⟨rfl,p1,rfl,m1⟩:=h1;have q1:=p1;obtain⟨_,a,c,rfl,_⟩:=p1;go_enter Tryz.func176,Tryz.ntmps176;go_wp2_with fail;have eA:=zD w (.cells #[.int .i64 s.birth,.slice a s.kn c,.string s.data] 58);have cA:=zA eA (zD _ (.cells #[.int .i64 0,.slice none 0 0,.string ⟨#[]⟩] 58));refine(zFV _ s.kn lo hi _ _ _ (q1.zb7 cA) hn).mono ?_;rintro e w1 ⟨⟨kv,kb,rfl,hp,hk⟩,aA⟩;have HB:Hid (zDP w1 w.heap.size (.int .i64 s.birth) (.slice a s.kn c) (.string s.data)):=((zDP.new w _ _ _ _).zb7 (zD _ _)).zb7 aA;have HR:Hid (zDP w1 (w.heap.size+1) (.int .i64 0) (.slice none 0 0) (.string ⟨#[]⟩)):=by
  have:=((zDP.new (w.alloc (.cells #[.int .i64 s.birth,.slice a s.kn c,.string s.data] 58)) (.int .i64 0) (.slice none 0 0) (.string ⟨#[]⟩) 58).zb7 aA);rw[World.size_alloc]at this;exact this
 have fA:=zA cA aA;rw[World.size_alloc,World.size_alloc]at hk;have Hp:Hid (zAQ w1 kb kv s.kn s.ks s.kb/\(0<s.kn->w.heap.size+1+1<=kb/\kb<w1.heap.size)):=⟨hp,hk⟩;obtain⟨_,ka,dA,rfl,_⟩:=hp;clear eA cA aA hk;obtain⟨⟨x0,x1⟩,⟨x2,x3⟩,⟨x4,x5⟩⟩:=HB.out;obtain⟨⟨y0,y1⟩,⟨y2,y3⟩,⟨y4,y5⟩⟩:=HR.out;go_wp2;have bA:=(HR.out.other (b':=w.heap.size) (o':=1) (.slice ka s.kn dA) (by omega)).put (.int .i64 s.birth) (.slice ka s.kn dA) (.string s.data);refine bodyPost_ret (v:=.agg #[.int .i64 s.birth,.slice ka s.kn dA,.string s.data]) (by simp[results,Tryz.results176,go_sem,bA.1.1,bA.2.1.1,bA.2.2.1]) rfl ⟨_,kb,rfl,?_,?_,?_⟩
 ·have hk:=Hp.out.2;refine(((Hp.out.1.zb8 (zJ.put _ _ _ _) ?_).zb8 (zJ.put _ _ _ _) ?_).zb8 (zJ.put _ _ _ _) ?_).zb8 (zJ.put _ _ _ _) ?_
  all_goals exact fun h0 e=>by have:=hk h0;omega
 ·intro h0;have:=Hp.out.2 h0;simp only[World.size_setCell];omega
 ·exact(((fA.setCell (by show _<=w.heap.size;omega) _).setCell (by show _<=w.heap.size+1;omega) _).setCell (by show _<=w.heap.size+1;omega) _).setCell (by show _<=w.heap.size+1;omega) _
theorem zNV(a:Option Addr)(n c:Nat)(xs:List Value)(w:World)(hl:xs.length=n*1)(iA:∀u∈xs,u.oneCell'=true)(hn:n<=1048576)
  (hc:0<n->∃b off,a=some ⟨b,off,none⟩/\∀j u,xs[j]?=some u->w.cell? ⟨b,off+j,none⟩=some u) :
  Calls Tryz.prog 153 #[.slice a n c] w fun e w'=>∃v',e = .returned v'/\w'.ownsRow w.heap.size 2 1 v' n xs/\Below w.heap.size w w'/\(n=0->∃a,v' = .slice a 0 0):=by
 have Hc:Hid (0<n->∃b off,a=some ⟨b,off,none⟩/\∀j u,xs[j]?=some u->w.cell? ⟨b,off+j,none⟩=some u):=hc;have Hl:Hid (xs.length=n*1/\∀u∈xs,u.oneCell'=true):=⟨hl,iA⟩;clear hc hl iA;have pA:=fun w=>Lib.run_eql_slice_nil (P:=Tryz.prog) w 24 2 a n c 0 0 (by kernel_rfl)
 cases a with
 | none=>
  have nA:n=0:=by
   by_cases h:0<n
   ·obtain⟨b,off,ha,_⟩:=Hc.out h;simp at ha
   ·omega
  subst nA;have oA:xs = []:=List.eq_nil_of_length_eq_zero (by simpa using Hl.out.1);subst oA;go_enter Tryz.func153,Tryz.ntmps153;go_wp2;go_ret;exact⟨_,rfl,World.ownsRow_nil _ _ _ _,Below.refl _ _,fun _=>⟨_,rfl⟩⟩
 | some ad=>
  obtain⟨i0,hi,lA⟩:=Option.map_eq_some_iff.1 zU0;simp only[Prod.mk.injEq]at lA;obtain⟨hz,hs,kA⟩:=lA;have HI:Hid (Tryz.prog.info? 2=some i0/\i0.zero=some (.int .i64 0)/\i0.size=1/\i0.bytes=8):=⟨hi,hz,hs,kA⟩;have aA:Hid ((w.alloc (.cells #[] 2)).ownsRow w.heap.size 2 1 (.slice (some ⟨w.heap.size,0,none⟩) 0 0) 0 []):=World.ownsRow_made w #[] 0 (Nat.le_refl _) (Nat.zero_le _) (by simp);clear hi hz hs kA;go_enter Tryz.func153,Tryz.ntmps153;go_wp2_with (first
   | (at_builtin;refine zBD rfl _ _ 24 rfl w.heap.size 2 i0 (.int .i64 0) 1 8 (by kernel_rfl) HI.out.1 HI.out.2.1 HI.out.2.2.1 HI.out.2.2.2 rfl (by decide) _ _ _ rfl aA.out (some ad) n c xs rfl Hl.out.1 Hl.out.2 ?c1 ?c3 ?c4 ?c5 ?_))
  case c1=>
   intro h0;obtain⟨b,off,ha,bA⟩:=Hc.out h0;exact⟨b,off,ha,fun j u hj=>(((Below.refl _ _).alloc (Nat.le_refl _) _).cell (zH (bA j u hj))).trans (bA j u hj)⟩
  case c3=>unfold maxLen;omega
  case c4=>omega
  case c5=>simp
  intro v' w1 dA cA gA;have mA:Below w.heap.size w w1:=((Below.refl _ _).alloc (Nat.le_refl _) _).grown cA (by simp) (fun q hq=>by have:=aA.out.lt q hq;omega);have eA:w1.ownsRow w.heap.size 2 1 v' n xs:=(by simpa using dA);have fA:Hid (w1.ownsRow w.heap.size 2 1 v' n xs):=eA;have jA:Hid (n=0->v' = .slice (some ⟨w.heap.size,0,none⟩) 0 0):=gA;clear dA eA cA gA;go_wp2;go_ret;exact⟨v',rfl,fA.out,mA,fun e=>⟨_,jA.out e⟩⟩
theorem zLl(a:Option Addr)(n c:Nat)(xs:List Value)(w:World)(hl:xs.length=n*3)(iA:∀u∈xs,u.oneCell'=true)(hn:n<=1048576)
  (hc:0<n->∃b off,a=some ⟨b,off,none⟩/\∀j u,xs[j]?=some u->w.cell? ⟨b,off+j,none⟩=some u) :
  Calls Tryz.prog 175 #[.slice a n c] w fun e w'=>∃v',e = .returned v'/\w'.ownsRow w.heap.size 58 3 v' n xs/\Below w.heap.size w w'/\(n=0->∃a,v' = .slice a 0 0):=by
 have Hc:Hid (0<n->∃b off,a=some ⟨b,off,none⟩/\∀j u,xs[j]?=some u->w.cell? ⟨b,off+j,none⟩=some u):=hc;have Hl:Hid (xs.length=n*3/\∀u∈xs,u.oneCell'=true):=⟨hl,iA⟩;clear hc hl iA;have pA:=fun w=>Lib.run_eql_slice_nil (P:=Tryz.prog) w 23 58 a n c 0 0 (by kernel_rfl)
 cases a with
 | none=>
  have nA:n=0:=by
   by_cases h:0<n
   ·obtain⟨b,off,ha,_⟩:=Hc.out h;simp at ha
   ·omega
  subst nA;have oA:xs = []:=List.eq_nil_of_length_eq_zero (by simpa using Hl.out.1);subst oA;go_enter Tryz.func175,Tryz.ntmps175;go_wp2;go_ret;exact⟨_,rfl,World.ownsRow_nil _ _ _ _,Below.refl _ _,fun _=>⟨_,rfl⟩⟩
 | some ad=>
  obtain⟨i0,hi,lA⟩:=Option.map_eq_some_iff.1 zU1;simp only[Prod.mk.injEq]at lA;obtain⟨hz,hs,kA⟩:=lA;have HI:Hid (Tryz.prog.info? 58=some i0/\i0.zero=some (.agg #[.int .i64 0,.slice none 0 0,.string ⟨#[]⟩])/\i0.size=3/\i0.bytes=48):=⟨hi,hz,hs,kA⟩;have aA:Hid ((w.alloc (.cells #[] 58)).ownsRow w.heap.size 58 3 (.slice (some ⟨w.heap.size,0,none⟩) 0 0) 0 []):=World.ownsRow_made w #[] 0 (Nat.le_refl _) (Nat.zero_le _) (by simp);clear hi hz hs kA;go_enter Tryz.func175,Tryz.ntmps175;go_wp2_with (first
   | (at_builtin;refine zBD rfl _ _ 23 rfl w.heap.size 58 i0 (.agg #[.int .i64 0,.slice none 0 0,.string ⟨#[]⟩]) 3 48 (by kernel_rfl) HI.out.1 HI.out.2.1 HI.out.2.2.1 HI.out.2.2.2 rfl (by decide) _ _ _ rfl aA.out (some ad) n c xs rfl Hl.out.1 Hl.out.2 ?c1 ?c3 ?c4 ?c5 ?_))
  case c1=>
   intro h0;obtain⟨b,off,ha,bA⟩:=Hc.out h0;exact⟨b,off,ha,fun j u hj=>(((Below.refl _ _).alloc (Nat.le_refl _) _).cell (zH (bA j u hj))).trans (bA j u hj)⟩
  case c3=>unfold maxLen;omega
  case c4=>omega
  case c5=>simp
  intro v' w1 dA cA gA;have mA:Below w.heap.size w w1:=((Below.refl _ _).alloc (Nat.le_refl _) _).grown cA (by simp) (fun q hq=>by have:=aA.out.lt q hq;omega);have eA:w1.ownsRow w.heap.size 58 3 v' n xs:=(by simpa using dA);have fA:Hid (w1.ownsRow w.heap.size 58 3 v' n xs):=eA;have jA:Hid (n=0->v' = .slice (some ⟨w.heap.size,0,none⟩) 0 0):=gA;clear dA eA cA gA;go_wp2;go_ret;exact⟨v',rfl,fA.out,mA,fun e=>⟨_,jA.out e⟩⟩
structure zLL where
 pool:zF
 ps:Int
 pb:Int
 code:Int
theorem zXX{w:World}{lo hi:Nat}:zAd w lo hi (.slice none 0 0) (.slice none 0 0) (zCC 0):=
 zMi (g:=0) (Nat.zero_le _) ⟨none,0,rfl,Nat.le_refl _,fun h=>absurd h (Nat.lt_irrefl _)⟩ (fun i h=>absurd h (Nat.not_lt_zero _))
end Go.Proofs.YtbplmbafodlboaaGreatDoor
