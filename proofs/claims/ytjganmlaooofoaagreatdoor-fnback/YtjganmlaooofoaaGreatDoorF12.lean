/- A part of the proof. -/
import Derived.Test.YtjganmlaooofoaaGreatDoorF11
set_option linter.unusedVariables false
set_option maxRecDepth 20000
set_option maxHeartbeats 4000000
namespace Go.Proofs.YtjganmlaooofoaaGreatDoor
open Go.RowKit
theorem zIs(v0 v1:Value)(lo hi:Nat)(p:zF)(xs xb:Int)(w:World)(h1:zCG w lo hi v0 v1 p)(hR:zg p) :
    Calls Tryz.prog 118 #[.agg #[v0,v1],.agg #[.int .i64 xs,.int .i64 xb]] w fun e w'=>zL (zQC p xs xb) e/\Below w.heap.size w w':=by
  have Hp:=qC h1;have HR:=qC hR;obtain⟨a,c,a',c',rfl,rfl⟩:∃a c a' c',v0 = .slice a p.n c/\v1 = .slice a' p.hn c':=by
    obtain⟨⟨_,a,c,h1,_⟩,⟨_,a',c',h3,_⟩⟩:=h1;exact⟨a,c,a',c',h1,h3⟩
  clear h1 hR;have rA:=zQ3 w (.slice a p.n c) (.slice a' p.hn c') (.int .i64 xs) (.int .i64 xb) 26 38;by_cases hn:Nil xs xb
  · have HN:=qC hn
    obtain⟨rfl,rfl⟩:=hn;obtain⟨_,_,aA,_⟩:=rA;go_enter Tryz.func118,Tryz.ntmps118;go_wp2;go_ret;exact⟨zL.yes (Or.inl HN.out),aA⟩
  · have HN:=qC hn
    have e0:=zHB hn;clear hn;have iA:Hid (∀t:Bool,(t=true↔qp p xs xb/\zP5 p (p.s xs.toNat)/\zXk p (zM p xs xb))->zL (zQC p xs xb) (.returned (.bool t))):=fun t ht=>⟨t,rfl,ht.trans ⟨fun h=>Or.inr h,fun h=>h.resolve_left HN.out⟩⟩
    go_enter Tryz.func118,Tryz.ntmps118;go_upto_region 1 with fail;generalize (w.alloc (.cells #[.slice a p.n c,.slice a' p.hn c'] 26)).alloc (.cells #[.int .i64 xs,.int .i64 xb] 38)=W at rA ⊢;obtain⟨hB,hX,aA,hz⟩:=rA;have HB:=qC hB;have HX:=qC hX;clear hB hX
    go_cut [7] (fun v wc=>v = .bool false/\W=wc)
    case first=>
      obtain⟨⟨y0,y1⟩,⟨y2,y3⟩⟩:=HX.out;rcases e0 with e0 | ⟨e0,e1⟩
      all_goals
        go_wp2_with fail
        go_meet
        case rel=>exact⟨rfl,rfl⟩
    case rest=>
      obtain⟨rfl,rfl⟩:=hcut;clear e0;obtain⟨⟨x0,x1⟩,⟨x2,x3⟩⟩:=HB.out;obtain⟨⟨y0,y1⟩,⟨y2,y3⟩⟩:=HX.out;go_upto_region 3 with fail;by_cases hP:qp p xs xb
      · have HP:=qC hP
        clear hP;by_cases nA:zP5 p (p.s xs.toNat)
        · have jA:=qC nA
          clear nA;go_region_held3 (fun w'=>w'.cell? ⟨w.heap.size,0,none⟩=some (.slice a p.n c)/\w'.cell? ⟨w.heap.size,1,none⟩=some (.slice a' p.hn c')/\w'.cell? ⟨w.heap.size+1,0,none⟩=some (.int .i64 xs)/\w'.cell? ⟨w.heap.size+1,1,none⟩=some (.int .i64 xb)) (go_keep)
            (first
              | (go_at_call 160
                 refine(zIE _ p.n lo hi p.s xs xb _ ?_).mono ?_
                 (first | exact Hp.out.1.zeF aA | exact Hp.out.1.zeF aA.drew)
                 rintro e w1 ⟨⟨t1,rfl,cA⟩,fA⟩;rw[zIF HR.out]at cA;obtain rfl:t1=true:=cA.2 HP.out;clear cA;have bA:Below W.heap.size W w1:=(by first | exact fA | exact qF fA);obtain⟨⟨k0,_⟩,⟨k1,_⟩⟩:=HB.out.zeF bA;obtain⟨⟨k2,_⟩,⟨k3,_⟩⟩:=HX.out.zeF bA)
              | (go_at_call 161
                 refine(zNu p HR.out _ lo hi xs xb _ ?_ HP.out).mono ?_;exact Hp.out.1.zeF (zA aA bA);rintro e w2 ⟨⟨t2,rfl,lA⟩,pA⟩;obtain rfl:t2=true:=lA.2 jA.out;clear lA;have eA:=zA bA pA;obtain⟨⟨l0,_⟩,⟨l1,_⟩⟩:=HB.out.zeF eA;obtain⟨⟨l2,_⟩,⟨l3,_⟩⟩:=HX.out.zeF eA)
              | (go_at_call 140
                 refine(zK0 p HR.out _ lo hi xs xb _ ?_ (Or.inr HP.out)).mono ?_;exact Hp.out.1.zeF (zA aA eA);rintro e w3 ⟨v3,rfl,gA,tA⟩;obtain⟨na,nc,rfl,_⟩:=zs gA;have mA:=zA eA tA;have aB:=zZ9 (by have:=qx p xs xb;unfold maxLen;omega) gA;obtain⟨⟨m0,_⟩,⟨m1,_⟩⟩:=HB.out.zeF mA;obtain⟨⟨m2,_⟩,⟨m3,_⟩⟩:=HX.out.zeF mA)
              | (go_at_call 162
                 refine(zWM _ _ _ lo hi 0 w3.heap.size _ p _ _ _ ?_ aB).mono ?_;exact Hp.out.zeF (zA aA mA);rintro e w4 ⟨⟨t4,rfl,sA⟩,vA⟩;rw[zTJ]at sA;have oA:=zA mA vA;obtain⟨⟨n0,_⟩,⟨n1,_⟩⟩:=HB.out.zeF oA;obtain⟨⟨n2,_⟩,⟨n3,_⟩⟩:=HX.out.zeF oA))
          have kA:=zA aA oA;have HT:=qC sA;clear sA;go_wp2;go_ret;exact⟨iA.out t4 (HT.out.trans ⟨fun h=>⟨HP.out,jA.out,h⟩,fun h=>h.2.2⟩),kA⟩
        · have jA:=qC nA
          clear nA;refine wp_region_held_drew (S:=(fun w'=>w'.cell? ⟨w.heap.size,0,none⟩=some (.slice a p.n c)/\w'.cell? ⟨w.heap.size,1,none⟩=some (.slice a' p.hn c')/\w'.cell? ⟨w.heap.size+1,0,none⟩=some (.int .i64 xs)/\w'.cell? ⟨w.heap.size+1,1,none⟩=some (.int .i64 xb))) (by kernel_rfl) ?_ (fun hHeld=>?_)
          · (try dsimp only)
            go_keep
          refine tk 0 (h:=tk 1 (h:=tk 2 (h:=?_)));refine rd [3] (rc (fun K hK=>?_) .nil);go_simp;go_at_call 160;refine(zIE _ p.n lo hi p.s xs xb _ ?_).mono ?_
          · first | exact Hp.out.1.zeF aA | exact Hp.out.1.zeF aA.drew
          rintro e w1 ⟨⟨t1,rfl,cA⟩,fA⟩;rw[zIF HR.out]at cA;obtain rfl:t1=true:=cA.2 HP.out;clear cA;have bA:Below W.heap.size W w1:=(by first | exact fA | exact qF fA);obtain⟨⟨k0,_⟩,⟨k1,_⟩⟩:=HB.out.zeF bA;obtain⟨⟨k2,_⟩,⟨k3,_⟩⟩:=HX.out.zeF bA
          (try go_wp2_with fail)
          refine hK.out _ _ (by(try dsimp only);go_keep) ?_;clear hK K hHeld;intro hHeld
          try simp only[Act.put,s1,s2,s3]
          refine tk 4 (h:=tk 5 (h:=tk 6 (h:=tk 7 (h:=?_))));refine rd [8] (rc (fun K hK=>?_) .nil);go_simp;go_at_call 161;refine(zNu p HR.out _ lo hi xs xb _ ?_ HP.out).mono ?_
          · exact Hp.out.1.zeF (zA aA bA)
          rintro e w2 ⟨⟨t2,rfl,lA⟩,pA⟩;obtain rfl:t2=false:=qj lA jA.out;clear lA;have eA:=zA bA pA;obtain⟨⟨l0,_⟩,⟨l1,_⟩⟩:=HB.out.zeF eA;obtain⟨⟨l2,_⟩,⟨l3,_⟩⟩:=HX.out.zeF eA
          (try go_wp2_with fail)
          refine hK.out _ _ (by(try dsimp only);go_keep) ?_;clear hK K hHeld;intro hHeld
          try simp only[Act.put,s1,s2,s3]
          refine tk 9 (h:=tk 10 (h:=ts 11 (h:=ts 12 (h:=ts 13 (h:=ts 14 (h:=?_))))));refine rd [15] (rc (fun K hK=>?_) .nil);split
          · rename_i dA
            exact absurd (show false=true from dA) Bool.false_ne_true
          refine hK.out _ _ (by assumption) (fun hHeld=>?_);clear hK K
          try simp only[Act.put,s1,s2,s3]
          refine rd [16] (rc (fun K hK=>?_) .nil);split
          · rename_i dA
            exact absurd (show false=true from dA) Bool.false_ne_true
          refine hK.out _ _ (by assumption) (fun hHeld=>?_);clear hK K
          try simp only[Act.put,s1,s2,s3]
          refine tk 17 (h:=tk 18 (h:=?_));refine wpAnyH_done (by kernel_rfl) ?_ _;have kA:=zA aA eA;go_wp2;go_ret;exact⟨iA.out false ⟨fun h=>(by cases h),fun h=>absurd h.2.1 jA.out⟩,kA⟩
      · have HP:=qC hP
        clear hP;refine wp_region_held_drew (S:=(fun w'=>w'.cell? ⟨w.heap.size,0,none⟩=some (.slice a p.n c)/\w'.cell? ⟨w.heap.size,1,none⟩=some (.slice a' p.hn c')/\w'.cell? ⟨w.heap.size+1,0,none⟩=some (.int .i64 xs)/\w'.cell? ⟨w.heap.size+1,1,none⟩=some (.int .i64 xb))) (by kernel_rfl) ?_ (fun hHeld=>?_)
        · (try dsimp only)
          go_keep
        refine tk 0 (h:=tk 1 (h:=tk 2 (h:=?_)));refine rd [3] (rc (fun K hK=>?_) .nil);go_simp;go_at_call 160;refine(zIE _ p.n lo hi p.s xs xb _ ?_).mono ?_
        · first | exact Hp.out.1.zeF aA | exact Hp.out.1.zeF aA.drew
        rintro e w1 ⟨⟨t1,rfl,cA⟩,fA⟩;rw[zIF HR.out]at cA;obtain rfl:t1=false:=qj cA HP.out;clear cA;have bA:Below W.heap.size W w1:=(by first | exact fA | exact qF fA);obtain⟨⟨k0,_⟩,⟨k1,_⟩⟩:=HB.out.zeF bA;obtain⟨⟨k2,_⟩,⟨k3,_⟩⟩:=HX.out.zeF bA
        (try go_wp2_with fail)
        refine hK.out _ _ (by(try dsimp only);go_keep) ?_;clear hK K hHeld;intro hHeld
        try simp only[Act.put,s1,s2,s3]
        refine tk 4 (h:=ts 5 (h:=ts 6 (h:=ts 7 (h:=?_))));refine rd [8] (rc (fun K hK=>?_) .nil);split
        · rename_i dA
          exact absurd (show false=true from dA) Bool.false_ne_true
        refine hK.out _ _ (by assumption) (fun hHeld=>?_);clear hK K
        try simp only[Act.put,s1,s2,s3]
        refine tk 9 (h:=tk 10 (h:=ts 11 (h:=ts 12 (h:=ts 13 (h:=ts 14 (h:=?_))))));refine rd [15] (rc (fun K hK=>?_) .nil);split
        · rename_i dA
          exact absurd (show false=true from dA) Bool.false_ne_true
        refine hK.out _ _ (by assumption) (fun hHeld=>?_);clear hK K
        try simp only[Act.put,s1,s2,s3]
        refine rd [16] (rc (fun K hK=>?_) .nil);split
        · rename_i dA
          exact absurd (show false=true from dA) Bool.false_ne_true
        refine hK.out _ _ (by assumption) (fun hHeld=>?_);clear hK K
        try simp only[Act.put,s1,s2,s3]
        refine tk 17 (h:=tk 18 (h:=?_));refine wpAnyH_done (by kernel_rfl) ?_ _;have kA:=zA aA bA;go_wp2;go_ret;exact⟨iA.out false ⟨fun h=>(by cases h),fun h=>absurd h.1 HP.out⟩,kA⟩
def zD3(p:zF)(rs:Int)(s:zN)(j:Nat):List Int:=rs :: zCr (zCR p s j)
def zHv(p:zF)(rs:Int)(s:zN)(j i:Nat):List Int:=zD3 p rs s j ++ (qJ s j :: zCr (kidsUp (qJ (p.s (qJ s j).toNat)) (yZ (p.s (qJ s j).toNat)) i))
theorem zN2(p:zF)(s:zN)(j:Nat):∀m,j<=m->∃r,zCR p s m=zCR p s j ++ r
 | 0,h=>⟨[],by rw[show j=0 by omega];simp⟩
 | m+1,h=>by
  by_cases e:j=m+1
  ·subst e;exact⟨[],by simp⟩
  ·obtain⟨r,hr⟩:=zN2 p s j m (by omega);exact⟨r ++ zHA p (qJ s m) (yZ s m),by rw[zCR,hr,List.append_assoc]⟩
theorem zLR(ks kb:Nat->Int)(j:Nat):∀m,j<=m->∃r,kidsUp ks kb m=kidsUp ks kb j ++ r
 | 0,h=>⟨[],by rw[show j=0 by omega];simp⟩
 | m+1,h=>by
  by_cases e:j=m+1
  ·subst e;exact⟨[],by simp⟩
  ·obtain⟨r,hr⟩:=zLR ks kb j m (by omega);exact⟨r ++ one (ks m) (kb m),by rw[kidsUp,hr,List.append_assoc]⟩
theorem zEa(l m:List (Int×Int)):zCr (l ++ m)=zCr l ++ zCr m:=by simp[zCr]
theorem zHH{l:List Int}{x:Int}:(l ++ [x]).Nodup↔l.Nodup/\x∉l:=by
 rw[List.nodup_append];constructor
 ·rintro⟨h1,_,h3⟩;exact⟨h1,fun hx=>h3 x hx x (by simp) rfl⟩
 ·rintro⟨h1,h2⟩;refine⟨h1,by simp,fun a ha b hb e=>?_⟩;rw[List.mem_singleton]at hb;subst hb;subst e;exact h2 ha
theorem zJP{p:zF}{rs rb:Int}(hz:¬Nil rs rb):zCr (zM p rs rb)=zD3 p rs (p.s rs.toNat) 8:=by
 unfold zM zD3;rw[if_neg hz];rfl
theorem zZR{p:zF}{s:zN}{j:Nat}(hn:¬Nil (qJ s j) (yZ s j)):zHA p (qJ s j) (yZ s j)=(qJ s j,yZ s j) :: zSG (p.s (qJ s j).toNat):=if_neg hn
theorem zPm{p:zF}{rs:Int}{s:zN}{j:Nat}(hn:¬Nil (qJ s j) (yZ s j)):zD3 p rs s (j+1)=zHv p rs s j 8:=by
 unfold zD3 zHv zD3;rw[zCR,zEa,zZR hn];rfl
theorem zXU{p:zF}{rs:Int}{s:zN}{j:Nat}(hn:Nil (qJ s j) (yZ s j)):zD3 p rs s (j+1)=zD3 p rs s j:=by
 unfold zD3;rw[zCR,show zHA p (qJ s j) (yZ s j) = [] from if_pos hn,List.append_nil]
theorem zPb(p:zF)(rs:Int)(s:zN)(j:Nat):zHv p rs s j 0=zD3 p rs s j ++ [qJ s j]:=rfl
theorem zZT{p:zF}{rs:Int}{s:zN}{j i:Nat}(hn:Nil (qJ (p.s (qJ s j).toNat) i) (yZ (p.s (qJ s j).toNat) i)):zHv p rs s j (i+1)=zHv p rs s j i:=by
 unfold zHv;rw[kidsUp,show one (qJ (p.s (qJ s j).toNat) i) (yZ (p.s (qJ s j).toNat) i) = [] from if_pos hn,List.append_nil]
theorem zZS{p:zF}{rs:Int}{s:zN}{j i:Nat}(hn:¬Nil (qJ (p.s (qJ s j).toNat) i) (yZ (p.s (qJ s j).toNat) i)):zHv p rs s j (i+1)=zHv p rs s j i ++ [qJ (p.s (qJ s j).toNat) i]:=by
 unfold zHv;rw[kidsUp,show one (qJ (p.s (qJ s j).toNat) i) (yZ (p.s (qJ s j).toNat) i) = [(qJ (p.s (qJ s j).toNat) i,yZ (p.s (qJ s j).toNat) i)] from if_neg hn,zEa,List.append_assoc];rfl
theorem zSn(p:zF)(rs:Int)(s:zN){j:Nat}(hj:j<=8):(zD3 p rs s j).length<=73:=by
 have:=zIT p s j;simp only[zD3,zCr,List.length_cons,List.length_map];omega
theorem zbL(p:zF)(rs:Int)(s:zN){j i:Nat}(hj:j<=8)(hi:i<=8):(zHv p rs s j i).length<=90:=by
 have h1:=zSn p rs s hj;have h2:=zC3 (qJ (p.s (qJ s j).toNat)) (yZ (p.s (qJ s j).toNat)) i;simp only[zHv,zCr,List.length_append,List.length_cons,List.length_map];omega
theorem zXA{p:zF}{rs rb:Int}(hz:¬Nil rs rb)(h:(zCr (zM p rs rb)).Nodup){j i:Nat}(hj:j<8)(hi:i<=8)(hn:¬Nil (qJ (p.s rs.toNat) j) (yZ (p.s rs.toNat) j)):(zHv p rs (p.s rs.toNat) j i).Nodup:=by
 rw[zJP hz]at h;obtain⟨r,hr⟩:=zN2 p (p.s rs.toNat) (j+1) 8 (by omega);obtain⟨r2,aA⟩:=zLR (qJ (p.s (qJ (p.s rs.toNat) j).toNat)) (yZ (p.s (qJ (p.s rs.toNat) j).toNat)) i 8 hi;have e1:zD3 p rs (p.s rs.toNat) 8=zD3 p rs (p.s rs.toNat) (j+1) ++ zCr r:=by unfold zD3;rw[hr,zEa];rfl
 have e2:zHv p rs (p.s rs.toNat) j 8=zHv p rs (p.s rs.toNat) j i ++ zCr r2:=by
  unfold zHv;rw[aA,zEa,List.append_assoc];rfl
 rw[e1,zPm hn,e2,List.append_assoc]at h;exact(List.nodup_append.1 h).1
def zFY(p:zF)(xs xb:Int)(i:Nat):Int:=if Nil xs xb then 0 else qJ (p.s xs.toNat) i
def zFX(p:zF)(xs xb:Int)(i:Nat):Int:=if Nil xs xb then 0 else yZ (p.s xs.toNat) i
def zIu(p:zF)(xs xb:Int):Prop:=Nil xs xb\/(qp p xs xb/\(p.s xs.toNat).kn=8)
theorem zQv{p:zF}{xs xb:Int}(h:yf p xs xb):zIu p xs xb:=by
 rcases h.2 with h2 | h2
 ·exact Or.inl h2
 ·right;refine⟨h2.1.1,?_⟩;rcases zKz h.1 h2.1.1 with h3 | h3
  ·have:=h2.1.2.1;omega
  ·exact h3
theorem zQk{p:zF}{xs xb:Int}(h:yf p xs xb){j:Nat}(hj:j<8):zIu p (zFY p xs xb j) (zFX p xs xb j):=by
 by_cases hz:Nil xs xb
 ·left;unfold zFY zFX;rw[if_pos hz,if_pos hz];exact⟨rfl,rfl⟩
 ·unfold zFY zFX;rw[if_neg hz,if_neg hz];rcases(h.2.resolve_left hz).2.1.1 j hj with h2 | h2
  ·exact Or.inl h2
  ·right;refine⟨h2.1.1,?_⟩;rcases zKz h.1 h2.1.1 with h3 | h3
   ·have:=h2.1.2.1;omega
   ·exact h3
def zDm(p:zF)(xs xb:Int)(n:Nat):Int:=zFY p xs xb (n / 8)
def zD5(p:zF)(xs xb:Int)(n:Nat):Int:=zFX p xs xb (n / 8)
def zFc(p:zF)(xs xb:Int)(n:Nat):Int:=zFY p (zDm p xs xb n) (zD5 p xs xb n) (n % 8)
def zFu(p:zF)(xs xb:Int)(n:Nat):Int:=zFX p (zDm p xs xb n) (zD5 p xs xb n) (n % 8)
def zBQ(rb birth:Int):Prop:=zBW birth/\rb<=birth
theorem zX6{p:zF}{xs xb birth:Int}(h:yf p xs xb):((∀i,i<(zM p xs xb).length->¬birth<zn (zM p xs xb) i)/\zBW birth)↔zBQ xb birth:=by
 constructor
 ·rintro⟨h1,h2⟩;refine⟨h2,?_⟩;by_cases hz:Nil xs xb
  ·rw[hz.2];have:=h2.1;omega
  ·have e:zM p xs xb=(xs,xb) :: zCR p (p.s xs.toNat) 8:=if_neg hz;have:=h1 0 (by rw[e];simp);rw[e]at this;have e2:zn ((xs,xb) :: zCR p (p.s xs.toNat) 8) 0=xb:=rfl;rw[e2]at this;omega
 ·rintro⟨h1,h2⟩;refine⟨fun i hi aA=>?_,h1⟩;by_cases hz:Nil xs xb
  ·have e:zM p xs xb = []:=if_pos hz;rw[e]at hi;simp at hi
  ·have hm:(zh (zM p xs xb) i,zn (zM p xs xb) i)∈zM p xs xb:=by
    have:(zh (zM p xs xb) i,zn (zM p xs xb) i)=(zM p xs xb)[i]:=by
     unfold zh zn;rw[List.getD_eq_getElem?_getD,List.getElem?_eq_getElem hi,Option.getD_some]
    rw[this];exact List.getElem_mem hi
   have:=(zFy h.1 (h.2.resolve_left hz).1.1 _ hm).2;have e:(zh (zM p xs xb) i,zn (zM p xs xb) i).2=zn (zM p xs xb) i:=rfl;omega
set_option linter.unusedSimpArgs false
set_option maxRecDepth 20000
set_option maxHeartbeats 1600000
attribute [local go_sem] qg List.map_cons List.map_nil Tr.cv yv qT yF yD yu yr yq yC zBD zBF zBE zBA zBC zBB zCc zCe zCd qY zt qZ zu qR qQ qf zAL zp zq yL qW tmpsOf zAy yK qV zA9 yz yx yw zAA yy stpP opds opd opdC kap zAS qS zo coreU bin zAl zCO get put dlO fgt zBP zBI zBM zBN tyT yp yo Op.operands Call.operands evLoad evLen evStore evAlloc zAn and_true true_and List.append_nil List.nil_append List.cons_append Ret resCv zCB yY cellM zBl zCI qh StW StR hpT hpO hpV hpA hpL hpC sg nin zCT bdO tmW obW AvE CsE CvE Av.tup Av.ids Cv.ids inD ObE Ob.ids TrE.refl qU yH yI qb qd qe zr zf zd zAC zBe zCH zBG evCall argL argOf qq outOb obO yU qK cvO tot Tr.own rid partsOf fillC zU zBj frz frz1 evBuildSlice zc trs Cv.tr evSlice Option.toArray_none Option.toArray_some evMakeSlice evAppend dstOf srcOf zA7 zBO zBL zBJ zBK ikT yB yA qz qy RetP RetN zBs qP evLd evSt evStoreH zAe evAppendM evAppendT tlOf mvOf rowE shp evTake oOf evC evCallP evCallN evCallO unlast zAX zA6 zAZ argsF zCS qu pmC varT vT evField evConv dB0 Option.bind_some Option.bind_none Option.map_some Option.map_none Option.isSome_some Option.isSome_none
theorem zIK{p:zF}{a b:Int}(hR:zg p)(h:zIw p a b):(p.s a.toNat).kn=8:=by
 rcases zKz hR h.1 with h' | h'
 ·have:=h.2.1;omega
 ·exact h'
theorem zLQ{f g f' g':Nat->Int}:∀{k:Nat},(∀i,i<k->f i=f' i)->(∀i,i<k->g i=g' i)->kidsUp f g k=kidsUp f' g' k
 | 0,_,_=>rfl
 | k+1,h,h'=>by
  simp only[kidsUp];rw[zLQ (fun i hi=>h i (by omega)) (fun i hi=>h' i (by omega)),h k (by omega),h' k (by omega)]
noncomputable def zZH:zX:=qk (fun q:zF×Int×Int=>[poT q.1.n q.1.s q.1.hn q.1.h,pT q.2.1 q.2.2]) (fun q=>zg q.1/\za q.1 q.2.1 q.2.2) (fun q=>[(false,[.s .o 2 (zM q.1 q.2.1 q.2.2).length (ptL (zM q.1 q.2.1 q.2.2))])])
theorem zBx(p:zF)(a b:Int):zZH [poT p.n p.s p.hn p.h,pT a b]=some (zg p/\za p a b,[(false,[.s .o 2 (zM p a b).length (ptL (zM p a b))])]):=zO (fun l=>(zEu (nth l 0 0) (nth l 0 1),qM (nth l 1 0),qM (nth l 1 1))) (fun _=>rfl) (p,a,b)
theorem zC4:zy Tryz.prog 30 zZH:=by
 refine zQ qA (GOk.cons zEI (zG Tryz.func74 rfl rfl) GOk.nil) zz Tryz.func30 rfl Tryz.ntmps30 Tryz.results30 10 ?_;rintro⟨p,a,b⟩ ⟨hR,hT⟩;replace hR:zg p:=hR;replace hT:za p a b:=hT;have hn:p.n<=200:=hR.1;refine⟨by simp,?_⟩;simp[go_sem,zC6];refine⟨fun h1 h2=>?_,fun h=>?_⟩
 ·have e:zM p a b = []:=(by simp[zM,Nil,h1,h2]);rw[e];exact⟨zKJ rfl,zC1⟩
 have hN:¬Nil a b:=fun e=>h e.1 e.2
 obtain⟨bA,dA,-⟩:=hT.resolve_left hN;have h8:=zIK hR bA;refine⟨⟨bA.1.2.1,bA.1.2.2.1⟩,?_⟩;obtain⟨F,hF⟩:∃F:Nat->List (Int×Int),∀k,F k=(a,b) :: zCR p (p.s a.toNat) k:=⟨_,fun _=>rfl⟩;have gA:∀k,(F k).length<=9*k+1:=fun k=>by rw[hF];exact Nat.succ_le_succ (zIT ..)
 refine yE (fun k:Nat=>⟨[(5,true,.m false [.h 7]),(2,true,.m false [.p 2 0]),(6,true,.m false [.s .b 2 (p.s a.toNat).kn (ptrsT (p.s a.toNat).ks (p.s a.toNat).kb)]),(7,true,.i k)],[(2,.var [.s .b 3 p.n (zk .b p.s),.s .b 1 p.hn (yT p.h)]),(7,.row 2 (F k).length (ptL (F k)))]⟩) (fun k=>8 - k) (fun k=>k<=8) 0 ?_ (by simp) ?_
 ·simp[go_sem];exact zDR (l:=[]) zE2 (by simp[hF,zCR])
 rintro k hk;simp[go_sem,qB (show k<=1000000000 by omega),zC6];have kA:=gA k;refine⟨fun hl=>⟨hl,fun g1 g2=>⟨k+1,by omega,by omega,by omega,zDS ?_⟩,fun g=>?_⟩,fun hl=>?_⟩
 ·rw[hF,hF];simp[zCR,zHA,zDZ h8 (show k<8 by omega),zDY h8 (show k<8 by omega),Nil,g1,g2]
 ·have aA:=dA.1 k (by omega);unfold zOe at aA;rw[zDZ h8 (by omega),zDY h8 (by omega)]at aA;obtain⟨cA,iA⟩:=aA.resolve_left fun e=>g e.1 e.2
  have fA:=zIK hR cA;refine⟨hl,by omega,hl,⟨cA.1.2.1,cA.1.2.2.1⟩,by kernel_rfl,?_⟩;obtain⟨G,hG⟩:∃G:Nat->List (Int×Int),∀j,G j=F k ++ (((p.s a.toNat).ks k,(p.s a.toNat).kb k) :: kidsUp (p.s ((p.s a.toNat).ks k).toNat).ks (p.s ((p.s a.toNat).ks k).toNat).kb j):=⟨_,fun _=>rfl⟩;refine yE (fun j:Nat=>⟨[(5,true,.m false [.h 7]),(2,true,.m false [.p 2 0]),(6,true,.m false [.s .b 2 (p.s a.toNat).kn (ptrsT (p.s a.toNat).ks (p.s a.toNat).kb)]),(8,true,.m false [.s .b 2 (p.s ((p.s a.toNat).ks k).toNat).kn (ptrsT (p.s ((p.s a.toNat).ks k).toNat).ks (p.s ((p.s a.toNat).ks k).toNat).kb)]),(7,true,.i k),(9,true,.i j)],[(2,.var [.s .b 3 p.n (zk .b p.s),.s .b 1 p.hn (yT p.h)]),(7,.row 2 (G j).length (ptL (G j)))]⟩) (fun j=>8 - j) (fun j=>j<=8) 0 ?_ (by simp) ?_
  ·simp[go_sem];exact zDR zE2 (by simp[hG,kidsUp])
  rintro j hj;have jA:(G j).length<=100:=by
   have:=zC3 (p.s ((p.s a.toNat).ks k).toNat).ks (p.s ((p.s a.toNat).ks k).toNat).kb j;rw[hG];simp;omega
  simp[go_sem,qB (show j<=1000000000 by omega),qB (show k<=1000000000 by omega),zC6];refine⟨fun eA=>⟨eA,fun g'=>⟨eA,by omega,j+1,by omega,by omega,by omega,zDR zE2 ?_⟩,fun g1 g2=>⟨j+1,by omega,by omega,by omega,zDS ?_⟩⟩,fun eA=>⟨k+1,by omega,by omega,by omega,zDS ?_⟩⟩
  ·rw[hG,hG];simp[kidsUp,one,if_neg (show ¬Nil ((p.s ((p.s a.toNat).ks k).toNat).ks j) ((p.s ((p.s a.toNat).ks k).toNat).kb j)from fun e=>g' e.1 e.2)]
  ·rw[hG,hG];simp[kidsUp,one,Nil,g1,g2]
  ·cases (show j=8 by omega);rw[hG,hF,hF];simp only[zCR,zHA];rw[zDZ h8 (by omega),zDY h8 (by omega),if_neg (show ¬Nil ((p.s a.toNat).ks k) ((p.s a.toNat).kb k)from fun e=>g e.1 e.2),zSG,zLQ (f':=qJ _) (g':=yZ _) (fun i hi=>(zDZ fA hi).symm) (fun i hi=>(zDY fA hi).symm)];rfl
 ·cases (show k=8 by omega);exact⟨zDS (by rw[hF,zM,if_neg hN]),zC1⟩
theorem zdu{l:List (Int×Int)}{i:Nat}:zFj encP (0,0) l i 0 = .v (.int .i64 (l[i]?.getD (0,0)).1):=rfl
theorem zdv{l:List (Int×Int)}{i:Nat}:zFj encP (0,0) l i 1 = .v (.int .i64 (l[i]?.getD (0,0)).2):=rfl
theorem zas{p:zF}{a b t:Int}(h:yf p a b):((∀i,i<(zM p a b).length->((zM p a b)[i]?.getD (0,0)).2<=t)/\zBW t)↔zBQ b t:=by
 rw[<-zX6 h];refine and_congr_left fun _=>forall_congr' fun i=>imp_congr_right fun _=>?_
 rw[zn,List.getD_eq_getElem?_getD,Int.not_lt]
noncomputable def zb6:zX:=qk (fun q:zF×Int×Int×Int=>[poT q.1.n q.1.s q.1.hn q.1.h,pT q.2.1 q.2.2.1,iT q.2.2.2]) (fun q=>zg q.1/\za q.1 q.2.1 q.2.2.1) (fun q=>bR (zBQ q.2.2.1 q.2.2.2))
theorem zJ6(p:zF)(a b t:Int):zb6 [poT p.n p.s p.hn p.h,pT a b,iT t]=some (zg p/\za p a b,bR (zBQ b t)):=zO (fun l=>(zEu (nth l 0 0) (nth l 0 1),qM (nth l 1 0),qM (nth l 1 1),qM (nth l 2 0))) (fun _=>rfl) (p,a,b,t)
theorem zM7:zy Tryz.prog 185 zb6:=by
 refine zQ qA (GOk.cons zC4 (zG Tryz.func30 rfl rfl) (GOk.cons zHl (zG Tryz.func149 rfl rfl) GOk.nil)) zz Tryz.func185 rfl Tryz.ntmps185 Tryz.results185 9 ?_;rintro⟨p,a,b,t⟩ ⟨hR,hT⟩;replace hR:zg p:=hR;replace hT:za p a b:=hT;refine⟨by simp,?_⟩;simp[go_sem,zBx,hR,hT,<-zas (show yf p a b from⟨hR,hT⟩)];have hl:=qx p a b;refine yE (fun k:Nat=>⟨[(8,true,.i k),(7,true,.m false [.h 7]),(2,true,.i t)],[(7,.row 2 (zM p a b).length (ptL (zM p a b)))]⟩) (fun k=>(zM p a b).length - k) (fun k=>k<=(zM p a b).length/\∀i,i<k->((zM p a b)[i]?.getD (0,0)).2<=t) 0 (by simp[go_sem]) (by simp) ?_;rintro k ⟨hk,aA⟩;simp[go_sem,qB (show k<=1000000000 by omega),zKu,zdu,zdv];exact⟨fun h=>⟨h,fun h1 h2=>by have:=h2 k h;omega,fun h1=>⟨k+1,⟨by omega,yJ h aA h1⟩,by omega,rfl⟩⟩,fun h h1 i hi=>aA i (by omega)⟩
theorem zES{fl:Fl}{k n:Nat}{F G:Nat->Nat->Tr}(h:∀i j,i<n->j<k->F i j=G i j):TrE (.s fl k n F) (.s fl k n G):=⟨.inl rfl,rfl,rfl,fun i j hi hj=>TrE.of_eq (h i j hi hj)⟩
theorem zbZ{fl:Fl}{n:Nat}{f g f' g':Nat->Int}(h:∀i,i<n->f i=f' i/\g i=g' i):TrE (.s fl 2 n (ptrsT f g)) (.s fl 2 n (ptrsT f' g')):=zES fun i j hi hj=>by
 match j,hj with
 | 0,_=>exact congrArg (fun x=>Tr.v (.int .i64 x)) (h i hi).1
 | 1,_=>exact congrArg (fun x=>Tr.v (.int .i64 x)) (h i hi).2
noncomputable def zcF:zX:=qk (fun q:zF×Int×Int=>[poT q.1.n q.1.s q.1.hn q.1.h,pT q.2.1 q.2.2]) (fun q=>zIu q.1 q.2.1 q.2.2) (fun q=>[(false,[.s .o 2 8 (ptrsT (zFY q.1 q.2.1 q.2.2) (zFX q.1 q.2.1 q.2.2))])])
theorem zNK(p:zF)(a b:Int):zcF [poT p.n p.s p.hn p.h,pT a b]=some (zIu p a b,[(false,[.s .o 2 8 (ptrsT (zFY p a b) (zFX p a b))])]):=zO (fun l=>(zEu (nth l 0 0) (nth l 0 1),qM (nth l 1 0),qM (nth l 1 1))) (fun _=>rfl) (p,a,b)
theorem zJB:zy Tryz.prog 188 zcF:=by
 refine zQ qA (GOk.cons zEI (zG Tryz.func74 rfl rfl) GOk.nil) zz Tryz.func188 rfl Tryz.ntmps188 Tryz.results188 5 ?_;rintro⟨p,a,b⟩ hP;replace hP:zIu p a b:=hP;refine⟨by simp,?_⟩;by_cases hN:Nil a b
 ·obtain⟨rfl,rfl⟩:=id hN;simp[go_sem,zC6,zFE];refine zES fun i j hi hj=>?_
  match j,hj with
  | 0,_=>simp[ptrsT,zFY,Nil]
  | 1,_=>simp[ptrsT,zFX,Nil]
 ·obtain⟨aA,h8⟩:=hP.resolve_left hN;simp[go_sem,zC6,zF5,zE6,zFE,h8];exact⟨fun h1 h2=>(hN ⟨h1,h2⟩).elim,fun _=>⟨⟨aA.2.1,aA.2.2.1⟩,zbZ fun i hi=>⟨by unfold zFY;rw[if_neg hN,zDZ h8 hi],by unfold zFX;rw[if_neg hN,zDY h8 hi]⟩⟩⟩
theorem zQ5{n:Nat}(h:n<64):IntKind.i64.wrap ((n:Int) / 8)=((n / 8:Nat):Int):=by
 rw[IntKind.wrap_i64];omega
theorem zWC{n:Nat}:(n:Int).tmod 8=((n % 8:Nat):Int):=(Int.ofNat_tmod n 8).symm
noncomputable def zcN:zX:=qk (fun q:zF×Int×Int×Nat=>[poT q.1.n q.1.s q.1.hn q.1.h,pT q.2.1 q.2.2.1,iT (q.2.2.2:Int)]) (fun q=>yf q.1 q.2.1 q.2.2.1/\q.2.2.2<64) (fun q=>[pT (zFc q.1 q.2.1 q.2.2.1 q.2.2.2) (zFu q.1 q.2.1 q.2.2.1 q.2.2.2),pT (zDm q.1 q.2.1 q.2.2.1 q.2.2.2) (zD5 q.1 q.2.1 q.2.2.1 q.2.2.2)])
theorem zSK(p:zF)(a b:Int)(n:Nat):zcN [poT p.n p.s p.hn p.h,pT a b,iT (n:Int)]=some (yf p a b/\n<64,[pT (zFc p a b n) (zFu p a b n),pT (zDm p a b n) (zD5 p a b n)]):=zO (fun l=>(zEu (nth l 0 0) (nth l 0 1),qM (nth l 1 0),qM (nth l 1 1),(qM (nth l 2 0)).toNat)) (fun _=>rfl) (p,a,b,n)
theorem zM8:zy Tryz.prog 187 zcN:=by
 refine zQ qA (GOk.cons zJB (zG Tryz.func188 rfl rfl) GOk.nil) zz Tryz.func187 rfl Tryz.ntmps187 Tryz.results187 9 ?_;rintro⟨p,a,b,n⟩ ⟨hT,hn⟩;replace hT:yf p a b:=hT;replace hn:n<64:=hn;refine⟨by simp,?_⟩;simp[go_sem,zNK,zQ5 hn,zWC];refine⟨zQv hT,by omega,by omega,zQk hT (by omega),by omega,by omega,by kernel_rfl,?_⟩;rw[show((n:Int) / 8).toNat=n / 8 by omega,show((n:Int) % 8).toNat=n % 8 by omega];exact⟨⟨rfl,rfl⟩,rfl,rfl⟩
theorem zLc{p:zF}(h:∀i,i<p.n->zAO (p.s i)\/zDp p (p.s i)):∀k,k<=p.n->zBp p.s k<=24*k
 | 0,_=>Nat.le_refl _
 | k+1,hk=>by
  have ih:=zLc h k (by omega);have hs:zCu (p.s k)<=24:=by
   unfold zCu;rcases h k (by omega)with hf | hf
   ·have h1:=hf.2.1;have h2:(p.s k).data.size=0:=by
     have:=hf.2.2;rw[Go.ByteArray.toList_eq]at this;have e:(p.s k).data.data=#[]:=(by simpa using this);show(p.s k).data.data.size=0;rw[e];rfl
    omega
   ·rcases hf.2 with h2 | h2
    ·omega
    ·have h3:(p.s k).data.size=0:=by
      have:=h2.2.1;rw[Go.ByteArray.toList_eq]at this;have e:(p.s k).data.data=#[]:=(by simpa using this);show(p.s k).data.data.size=0;rw[e];rfl
     omega
  show zBp p.s k+zCu (p.s k)<=_;omega
theorem zEk{p:zF}(h:zg p):qs p<=10000:=by
 have h1:=zLc h.2.1 p.n (Nat.le_refl _);have h2:=((zGa p).2 h).2.1;have h3:=h.1;unfold qs;omega
set_option linter.unusedSimpArgs false
set_option maxRecDepth 20000
set_option maxHeartbeats 1600000
def zax(x:Int):Nat->Tr:=fun _=>.v (.int .i64 x)
abbrev inL(l:List Int):Nat->Nat->Tr:=zFj zax 0 l
theorem yP{fl:Fl}{k n:Nat}{l:List Int}:(Tr.s fl k n (zFj zax 0 l)).lend = .s .b k n (yT fun i=>l[i]?.getD 0):=rfl
theorem zb{fl:Fl}{k n:Nat}{l:List (Int×Int)}:(Tr.s fl k n (zFj encP (0,0) l)).lend = .s .b k n (ptrsT (fun i=>(l[i]?.getD (0,0)).1) (fun i=>(l[i]?.getD (0,0)).2)):=by
 rw[show zFj encP (0,0) l=_ from zdC l];exact zf
theorem zA5{l:List Int}{i c:Nat}:zFj zax 0 l i c = .v (.int .i64 (l[i]?.getD 0)):=rfl
theorem zU3{l:List Int}{x:Int}:Has l.length (fun i=>l[i]?.getD 0) x↔x∈l:=by
 rw[List.mem_iff_getElem?];constructor
 ·rintro⟨i,hi,rfl⟩;exact⟨i,by simp[hi]⟩
 ·rintro⟨i,hi⟩;have:=(List.getElem?_eq_some_iff.1 hi).1;exact⟨i,this,by simp[hi]⟩
theorem zay{x:Int}:∀j,j<1->([Tr.v (Value.int .i64 x)][j]?.getD (.v (.bool false))).nt=zax x j
 | 0,_=>rfl
theorem zSh{fl:Fl}{l m:List Int}{x:Int}(h:l ++ [x]=m):TrE (.s fl 1 (l.length+1) (yX (inL l) l.length (fun p q=>([Tr.v (Value.int .i64 x)][p+q]?.getD (.v (.bool false))).nt))) (.s fl 1 m.length (inL m)):=by
 have:=zDR (fl:=fl) (k:=1) (d:=(0:Int)) zay h;simpa only[Nat.mul_one]using this
theorem zG0{f g:Nat->Int}:∀{k:Nat},0<(kidsUp f g k).length↔∃i,i<k/\¬Nil (f i) (g i)
 | 0=>by simp[kidsUp]
 | k+1=>by
  rw[kidsUp,List.length_append];by_cases h:Nil (f k) (g k)
  ·rw[one,if_pos h,List.length_nil,Nat.add_zero,zG0];exact⟨fun ⟨i,h1,h2⟩=>⟨i,by omega,h2⟩,fun ⟨i,h1,h2⟩=>⟨i,by rcases Nat.lt_succ_iff_lt_or_eq.1 h1 with h3 | rfl;exact h3;exact absurd h h2,h2⟩⟩
  ·rw[one,if_neg h];exact⟨fun _=>⟨k,by omega,h⟩,fun _=>by simp⟩
theorem zPM{f g:Nat->Int}{k:Nat}(h:¬Nil (f k) (g k)):(kidsUp f g (k+1)).length=(kidsUp f g k).length+1:=by simp[kidsUp,one,h]
theorem zPN{f g:Nat->Int}{k:Nat}(h:Nil (f k) (g k)):(kidsUp f g (k+1)).length=(kidsUp f g k).length:=by simp[kidsUp,one,h]
theorem zGP{p:zF}(h:zg p):p.hn<=10000:=by
 have:=zEk h;unfold qs at this;omega
attribute [local go_sem] qg List.map_cons List.map_nil Tr.cv yv qT yF yD yu yr yq yC zBD zBF zBE zBA zBC zBB zCc zCe zCd qY zt qZ zu qR qQ qf zAL zp zq yL qW tmpsOf zAy yK qV zA9 yz yx yw zAA yy stpP opds opd opdC kap zAS qS zo coreU bin zAl zCO get put dlO fgt zBP zBI zBM zBN tyT yp yo Op.operands Call.operands evLoad evLen evStore evAlloc zAn and_true true_and List.append_nil List.nil_append List.cons_append Ret resCv zCB yY cellM zBl zCI qh StW StR hpT hpO hpV hpA hpL hpC sg nin zCT bdO tmW obW AvE CsE CvE Av.tup Av.ids Cv.ids inD ObE Ob.ids TrE.refl qU yH yI qb qd qe zr zf zd zAC zBe zCH zBG evCall argL argOf qq outOb obO yU qK cvO tot Tr.own rid partsOf fillC zU zBj frz frz1 evBuildSlice zc trs Cv.tr evSlice Option.toArray_none Option.toArray_some evMakeSlice evAppend dstOf srcOf zA7 zBO zBL zBJ zBK ikT yB yA qz qy RetP RetN zBs qP evLd evSt evStoreH zAe evAppendM evAppendT tlOf mvOf rowE shp evTake oOf evC evCallP evCallN evCallO unlast zAX zA6 zAZ argsF zCS qu pmC varT vT evField evConv dB0 Option.bind_some Option.bind_none Option.map_some Option.map_none Option.isSome_some Option.isSome_none
attribute [local go_sem] yP zb zA5
noncomputable def mTR:zX:=qk (fun q:zF×Int×Int=>[poT q.1.n q.1.s q.1.hn q.1.h,pT q.2.1 q.2.2]) (fun q=>zg q.1) (fun q=>bR (za q.1 q.2.1 q.2.2))
theorem zUE(p:zF)(a b:Int):mTR [poT p.n p.s p.hn p.h,pT a b]=some (zg p,bR (za p a b)):=zO (fun l=>(zEu (nth l 0 0) (nth l 0 1),qM (nth l 1 0),qM (nth l 1 1))) (fun _=>rfl) (p,a,b)
theorem zLS:zy Tryz.prog 58 mTR:=by
 refine zQ qA (GOk.cons zEI (zG Tryz.func74 rfl rfl) (GOk.cons zT2 (zG Tryz.func107 rfl rfl) (GOk.cons zT3 (zG Tryz.func108 rfl rfl) (GOk.cons zGQ (zG Tryz.func62 rfl rfl) GOk.nil)))) zz Tryz.func58 rfl Tryz.ntmps58 Tryz.results58 12 ?_;rintro⟨p,a,b⟩ hR;replace hR:zg p:=hR;have hn:p.n<=200:=hR.1;have hm:=zGP hR;refine⟨by simp,?_⟩;simp[go_sem,zC6,zSI];refine⟨fun h1 h2=>.inl ⟨h1,h2⟩,fun h=>⟨⟨by omega,by omega⟩,fun h1 h2=>?_,fun kA=>⟨⟨kA.1.2.1,kA.1.2.2.1⟩,?_⟩⟩⟩
 ·exact h1 ((h2.resolve_left fun e=>h e.1 e.2).1)
 have hN:¬Nil a b:=fun e=>h e.1 e.2
 obtain⟨s,hs⟩:∃s,p.s a.toNat=s:=⟨_,rfl⟩;have h8:=zIK hR kA;rw[hs]at h8;have hT:za p a b↔zbu p s/\(zD3 p a s 8).Nodup:=by
  unfold za;rw[hs,zJP hN,hs];exact⟨fun h=>(h.resolve_left hN).2,fun h=>.inr ⟨kA,h⟩⟩
 have kS:∀{i},i<8->qJ s i=s.ks i:=fun hi=>zDZ h8 hi
 have kB:∀{i},i<8->yZ s i=s.kb i:=fun hi=>zDY h8 hi
 obtain⟨F,hF⟩:∃F:Nat->List Int,∀k,F k=zD3 p a s k:=⟨_,fun _=>rfl⟩;obtain⟨C,hC⟩:∃C:Nat->Nat,∀k,C k=(kidsUp (qJ s) (yZ s) k).length:=⟨_,fun _=>rfl⟩;have sA:∀k,C k<=k:=fun k=>by rw[hC];exact zC3 ..
 have vA:∀k,k<=8->(F k).length<=73:=fun k hk=>by rw[hF];exact zSn p a s hk
 refine yE (fun k:Nat=>⟨[(5,true,.m false [.h 7]),(2,true,.m false [.p 2 0]),(6,true,.i (C k)),(7,true,.m false [.s .b 2 s.kn (ptrsT s.ks s.kb)]),(8,true,.i k)],[(2,.var [.s .b 3 p.n (zk .b p.s),.s .b 1 p.hn (yT p.h)]),(7,.row 1 (F k).length (inL (F k)))]⟩) (fun k=>8 - k) (fun k=>k<=8/\(∀i,i<k->zOe p s i)/\(F k).Nodup) 0 ?_ ?_ ?_
 ·simp[go_sem,hs,hC,kidsUp,hF,zD3,zCR,zCr];exact zES fun i j hi hj=>by cases (show i=0 by omega);cases (show j=0 by omega);rfl
 ·simp[hF,zD3,zCR,zCr]
 rintro k ⟨hk,dA,nA⟩;have eB:=vA k hk;simp[go_sem,hs,h8,qB (show k<=1000000000 by omega),qB (show C k<=1000000000 by have:=sA k;omega),zC6,zSI,zIH,zU3];refine⟨fun hl=>⟨hl,fun g1 g2=>⟨k+1,?_⟩,fun g=>⟨hl,⟨by omega,by omega⟩,?_⟩⟩,fun hl=>?_⟩
 ·replace hl:k<8:=(by omega);have bA:Nil (qJ s k) (yZ s k):=(by rw[kS hl,kB hl];exact⟨g1,g2⟩);have e1:F (k+1)=F k:=(by rw[hF,hF];exact zXU bA);have e2:C (k+1)=C k:=(by rw[hC,hC];exact zPN bA);rw[e1,e2];exact⟨⟨by omega,yJ hl dA (.inl bA),nA⟩,by omega,⟨rfl,rfl⟩,TrE.refl _⟩
 ·replace hl:k<8:=(by omega);have bA:¬Nil (qJ s k) (yZ s k):=(by rw[kS hl,kB hl];exact fun e=>g e.1 e.2);have iA:za p a b->∀i,i<=8->(zHv p a s k i).Nodup:=fun h i hi=>by
   have h2:=(hT.1 h).2;rw[<-hs,<-zJP hN]at h2;rw[<-hs]at bA ⊢;exact zXA hN h2 hl hi bA
  refine⟨fun _=>by omega,fun _=>by omega,by kernel_rfl,fun h1 h2=>?_,fun lA cB=>⟨by omega,by omega,by omega,⟨lA.1.2.1,lA.1.2.2.1⟩,by kernel_rfl,?_⟩⟩
  ·rcases h1 with h1 | h1
   ·have h3:=((hT.1 h2).1.1 k hl).resolve_left bA;rw[kS hl,kB hl]at h3;exact h1 h3.1
   ·have h3:=iA h2 0 (by omega);rw[zPb,zHH,kS hl,<-hF]at h3;exact h3.2 h1
  obtain⟨t,ht⟩:∃t,p.s (s.ks k).toNat=t:=⟨_,rfl⟩;have t8:=zIK hR lA;rw[ht]at t8;have jA:∀{i},i<8->qJ t i=t.ks i:=fun hi=>zDZ t8 hi
  have mA:∀{i},i<8->yZ t i=t.kb i:=fun hi=>zDY t8 hi
  have fA:zOe p s k↔zbp p t:=by
   unfold zOe;rw[kS hl,kB hl,ht];rw[kS hl,kB hl]at bA;exact⟨fun h=>(h.resolve_left bA).2,fun h=>.inr ⟨lA,h⟩⟩
  obtain⟨G,hG⟩:∃G:Nat->List Int,∀i,G i=zHv p a s k i:=⟨_,fun _=>rfl⟩;obtain⟨D,hD⟩:∃D:Nat->Nat,∀i,D i=(kidsUp (qJ t) (yZ t) i).length:=⟨_,fun _=>rfl⟩;have tA:∀i,D i<=i:=fun i=>by rw[hD];exact zC3 ..
  have aB:∀i,i<=8->(G i).length<=90:=fun i hi=>by rw[hG];exact zbL p a s hk hi
  have rA:G 0=F k ++ [s.ks k]:=(by rw[hG,zPb,<-hF,kS hl]);refine yE (fun i:Nat=>⟨[(5,true,.m false [.h 7]),(2,true,.m false [.p 2 0]),(6,true,.i (C k+1:Nat)),(7,true,.m false [.s .b 2 s.kn (ptrsT s.ks s.kb)]),(8,true,.i k),(9,true,.i (D i)),(10,true,.m false [.s .b 2 t.kn (ptrsT t.ks t.kb)]),(11,true,.i i)],[(2,.var [.s .b 3 p.n (zk .b p.s),.s .b 1 p.hn (yT p.h)]),(7,.row 1 (G i).length (inL (G i)))]⟩) (fun i=>8 - i) (fun i=>i<=8/\(∀q,q<i->Nil (qJ t q) (yZ t q)\/zP2 p (qJ t q) (yZ t q))/\(G i).Nodup) 0 ?_ ?_ ?_
  ·simp[go_sem,ht,h8,hD,kidsUp];exact zSh rA.symm
  ·simp;rw[rA,zHH];exact⟨nA,cB⟩
  rintro i ⟨hi,cA,gA⟩;have fB:=aB i hi;simp[go_sem,hs,h8,ht,t8,qB (show i<=1000000000 by omega),qB (show k<=1000000000 by omega),qB (show D i<=1000000000 by have:=tA i;omega),zC6,zY2,zIH,zU3];refine⟨fun aA=>⟨aA,fun g1 g2=>⟨i+1,?_⟩,fun g'=>⟨aA,⟨by omega,by omega⟩,?_⟩⟩,fun aA=>?_⟩
  ·replace aA:i<8:=(by omega);have eA:Nil (qJ t i) (yZ t i):=(by rw[jA aA,mA aA];exact⟨g1,g2⟩);have e1:G (i+1)=G i:=by
    rw[hG,hG];refine zZT ?_;rw[kS hl,ht];exact eA
   have e2:D (i+1)=D i:=(by rw[hD,hD];exact zPN eA);rw[e1,e2];exact⟨⟨by omega,yJ aA cA (.inl eA),gA⟩,by omega,⟨rfl,rfl⟩,TrE.refl _⟩
  ·replace aA:i<8:=(by omega);have eA:¬Nil (qJ t i) (yZ t i):=(by rw[jA aA,mA aA];exact fun e=>g' e.1 e.2);have e1:G (i+1)=G i ++ [t.ks i]:=by
    rw[hG,hG,zZS (by rw[kS hl,ht];exact eA),kS hl,ht,jA aA]
   have e2:D (i+1)=D i+1:=(by rw[hD,hD];exact zPM eA);refine⟨fun _=>by omega,fun _=>by omega,by kernel_rfl,fun h1 h2=>?_,fun bB oA=>⟨by omega,by omega,i+1,⟨by omega,yJ aA cA (.inr ?_),?_⟩,by omega,⟨by rw[e2];rfl,rfl⟩,zSh e1.symm⟩⟩
   ·rcases h1 with h1 | h1
    ·have h3:=((fA.1 ((hT.1 h2).1.1 k hl)).1 i aA).resolve_left eA;rw[jA aA,mA aA]at h3;exact h1 h3
    ·have h3:=iA h2 (i+1) (by omega);rw[<-hG,e1,zHH]at h3;exact h3.2 h1
   ·rw[jA aA,mA aA];exact bB
   ·rw[e1,zHH];exact⟨gA,oA⟩
  ·cases (show i=8 by omega);have pA:(∃i,i<8/\¬Nil (qJ t i) (yZ t i))↔0<D 8:=(by rw[hD,zG0]);have e1:F (k+1)=G 8:=(by rw[hF,hG];exact zPm bA);have e2:C (k+1)=C k+1:=(by rw[hC,hC];exact zPM bA);refine⟨fun h1 h2=>?_,fun h1=>⟨k+1,⟨by omega,yJ hl dA (fA.2 ⟨cA,pA.2 (by omega)⟩),by rw[e1];exact gA⟩,by omega,⟨by rw[e2];rfl,rfl⟩,by rw[e1];exact TrE.refl _⟩⟩;have:=pA.1 (fA.1 ((hT.1 h2).1.1 k hl)).2;omega
 ·cases (show k=8 by omega);rw[hT,<-hF,hC,zG0];exact⟨fun h=>⟨⟨dA,h⟩,nA⟩,fun h=>h.1.2⟩
noncomputable def zdp:zX:=qk (fun q:zF×Int×Int=>[poT q.1.n q.1.s q.1.hn q.1.h,pT q.2.1 q.2.2]) (fun q=>q.1.n<=1000000/\q.1.hn<=1000000) (fun q=>bR (yf q.1 q.2.1 q.2.2))
theorem zJ9(p:zF)(a b:Int):zdp [poT p.n p.s p.hn p.h,pT a b]=some (p.n<=1000000/\p.hn<=1000000,bR (yf p a b)):=zO (fun l=>(zEu (nth l 0 0) (nth l 0 1),qM (nth l 1 0),qM (nth l 1 1))) (fun _=>rfl) (p,a,b)
theorem zGo:zy Tryz.prog 75 zdp:=by
 refine zQ qA (GOk.cons zEz (zG Tryz.func55 rfl rfl) (GOk.cons zLS (zG Tryz.func58 rfl rfl) GOk.nil)) zz Tryz.func75 rfl Tryz.ntmps75 Tryz.results75 5 ?_;rintro⟨p,a,b⟩ ⟨hn,hm⟩;replace hn:p.n<=1000000:=hn;replace hm:p.hn<=1000000:=hm;refine⟨by simp,?_⟩;simp[go_sem,zII,zUE,hn,hm,yf]
theorem zId(v:Value)(n lo hi:Nat)(f g:Nat->Int)(w:World)(h1:qn w lo hi v n f g)(hn:n<=1048576) :
  Calls Tryz.prog 41 #[v] w fun e w'=>(∃v' kb,e = .returned v'/\zAY w' kb v' n f g/\(0<n->w.heap.size<=kb/\kb<w'.heap.size))/\Below w.heap.size w w':=by
 obtain⟨m1,a,c,rfl,mc,g1⟩:=h1;have G1:Hid (0<n->∃b off,a=some ⟨b,off,none⟩/\lo<=b/\b<hi/\∀i,i<n->w.cell? ⟨b,off+i*2,none⟩=some (.int .i64 (f i))/\w.cell? ⟨b,off+i*2+1,none⟩=some (.int .i64 (g i))):=g1;have Hm:Hid (n<=maxLen):=m1;clear g1 m1;have oA:=fun w=>Lib.run_eql_slice_nil (P:=Tryz.prog) w 39 38 a n c 0 0 (by kernel_rfl)
 cases a with
 | none=>
  have nA:n=0:=by
   by_cases h:0<n
   ·obtain⟨b,off,ha,_⟩:=G1.out h;simp at ha
   ·omega
  subst nA;go_enter Tryz.func41,Tryz.ntmps41;go_wp2;go_ret;exact⟨⟨_,0,rfl,⟨Nat.zero_le _,none,0,rfl,Nat.le_refl _,fun h=>absurd h (Nat.lt_irrefl _)⟩,fun h=>absurd h (Nat.lt_irrefl _)⟩,Below.refl _ _⟩
 | some ad=>
  obtain⟨i0,hi,lA⟩:=Option.map_eq_some_iff.1 zMz;simp only[Prod.mk.injEq]at lA;obtain⟨hz,hs,kA⟩:=lA;have fA:∀(w':World),Below w.heap.size w w'->∀j u,(kc f g n)[j]?=some u->w'.cell? (ad.add j)=some u:=fun w' hb j u hj=>by
   by_cases h0:0<n
   ·obtain⟨b,off,ha,_,_,hc⟩:=G1.out h0;simp only[Option.some.injEq]at ha;subst ha;have:=zR0 hc j u hj;have iA:(⟨b,off,none⟩:Addr).add j=⟨b,off+j,none⟩:=(by unfold Addr.add;split<;>simp_all);rw[iA]at this ⊢;exact(hb.cell (zH this)).trans this
   ·obtain rfl:n=0:=(by omega);simp[kc]at hj
  have gA:Hid (∀(w':World),Below w.heap.size w w'->∀j u,(kc f g n)[j]?=some u->w'.cell? (ad.add j)=some u):=fA;have HI:Hid (Tryz.prog.info? 38=some i0/\i0.zero=some (.agg #[.int .i64 0,.int .i64 0])/\i0.size=2/\i0.bytes=16):=⟨hi,hz,hs,kA⟩;have dA:(w.alloc (.cells #[] 38)).ownsRow w.heap.size 38 2 (.slice (some ⟨w.heap.size,0,none⟩) 0 0) 0 []:=World.ownsRow_made w #[] 0 (Nat.le_refl _) (Nat.zero_le _) (by simp);have aA:Hid ((w.alloc (.cells #[] 38)).ownsRow w.heap.size 38 2 (.slice (some ⟨w.heap.size,0,none⟩) 0 0) 0 []):=dA;clear hi hz hs kA fA dA;go_enter Tryz.func41,Tryz.ntmps41;go_wp2_with (first
   | (at_builtin;refine wpList_append_own _ rfl _ _ 39 rfl w.heap.size 38 i0 (.agg #[.int .i64 0,.int .i64 0]) 2 16 (by kernel_rfl) HI.out.1 HI.out.2.1 HI.out.2.2.1 HI.out.2.2.2 rfl (by decide) _ _ _ rfl aA.out ad n c (kc f g n) rfl (zKs f g n) ?c1 (zYh f g n) ?c3 ?c4 ?c5 ?_))
  case c1=>exact gA.out _ ((Below.refl _ _).alloc (Nat.le_refl _) _)
  case c3=>unfold maxLen;omega
  case c4=>omega
  case c5=>simp
  intro v' w1 cA bA jA;have mA:Below w.heap.size w w1:=((Below.refl _ _).alloc (Nat.le_refl _) _).grown bA (by simp) (fun q hq=>by have:=aA.out.lt q hq;omega);have eA:w1.ownsRow w.heap.size 38 2 v' n (kc f g n):=(by simpa using cA);obtain⟨kb,hp,hk⟩:=zKF Hm.out eA;have Hp:Hid (zAY w1 kb v' n f g/\(0<n->w.heap.size<=kb/\kb<w1.heap.size)):=⟨hp,hk⟩;clear hp hk cA eA bA jA;go_wp2;go_ret;exact⟨⟨v',kb,rfl,Hp.out.1,Hp.out.2⟩,mA⟩
theorem zOI(v0 v1 v2:Value)(lo hi:Nat)(s:zN)(w:World)(h1:zCK w lo hi v0 v1 v2 s)(hn:s.kn<=1048576) :
  Calls Tryz.prog 178 #[.agg #[v0,v1,v2]] w (zaf s w):=by
 obtain⟨rfl,p1,rfl,m1⟩:=h1;have q1:=p1;obtain⟨_,a,c,rfl,_⟩:=p1;go_enter Tryz.func178,Tryz.ntmps178;go_wp2_with fail;have eA:=zD w (.cells #[.int .i64 s.birth,.slice a s.kn c,.string s.data] 101);have cA:=zA eA (zD _ (.cells #[.int .i64 0,.slice none 0 0,.string ⟨#[]⟩] 101));refine(zId _ s.kn lo hi _ _ _ (q1.zeF cA) hn).mono ?_;rintro e w1 ⟨⟨kv,kb,rfl,hp,hk⟩,aA⟩;have HB:Hid (zEb w1 w.heap.size (.int .i64 s.birth) (.slice a s.kn c) (.string s.data)):=((zEb.new w _ _ _ _).zeF (zD _ _)).zeF aA;have HR:Hid (zEb w1 (w.heap.size+1) (.int .i64 0) (.slice none 0 0) (.string ⟨#[]⟩)):=by
  have:=((zEb.new (w.alloc (.cells #[.int .i64 s.birth,.slice a s.kn c,.string s.data] 101)) (.int .i64 0) (.slice none 0 0) (.string ⟨#[]⟩) 101).zeF aA);rw[World.size_alloc]at this;exact this
 have fA:=zA cA aA;rw[World.size_alloc,World.size_alloc]at hk;have Hp:Hid (zAY w1 kb kv s.kn s.ks s.kb/\(0<s.kn->w.heap.size+1+1<=kb/\kb<w1.heap.size)):=⟨hp,hk⟩;obtain⟨_,ka,dA,rfl,_⟩:=hp;clear eA cA aA hk;obtain⟨⟨x0,x1⟩,⟨x2,x3⟩,⟨x4,x5⟩⟩:=HB.out;obtain⟨⟨y0,y1⟩,⟨y2,y3⟩,⟨y4,y5⟩⟩:=HR.out;go_wp2;have bA:=(HR.out.other (b':=w.heap.size) (o':=1) (.slice ka s.kn dA) (by omega)).put (.int .i64 s.birth) (.slice ka s.kn dA) (.string s.data);refine bodyPost_ret (v:=.agg #[.int .i64 s.birth,.slice ka s.kn dA,.string s.data]) (by simp[results,Tryz.results178,go_sem,bA.1.1,bA.2.1.1,bA.2.2.1]) rfl ⟨_,kb,rfl,?_,?_,?_⟩
 ·have hk:=Hp.out.2;refine(((Hp.out.1.zeG (zJ.put _ _ _ _) ?_).zeG (zJ.put _ _ _ _) ?_).zeG (zJ.put _ _ _ _) ?_).zeG (zJ.put _ _ _ _) ?_
  all_goals exact fun h0 e=>by have:=hk h0;omega
 ·intro h0;have:=Hp.out.2 h0;simp only[World.size_setCell];omega
 ·exact(((fA.setCell (by show _<=w.heap.size;omega) _).setCell (by show _<=w.heap.size+1;omega) _).setCell (by show _<=w.heap.size+1;omega) _).setCell (by show _<=w.heap.size+1;omega) _
theorem zOH(a:Option Addr)(n c:Nat)(xs:List Value)(w:World)(hl:xs.length=n*1)(iA:∀u∈xs,u.oneCell'=true)(hn:n<=1048576)
  (hc:0<n->∃b off,a=some ⟨b,off,none⟩/\∀j u,xs[j]?=some u->w.cell? ⟨b,off+j,none⟩=some u) :
  Calls Tryz.prog 146 #[.slice a n c] w fun e w'=>∃v',e = .returned v'/\w'.ownsRow w.heap.size 2 1 v' n xs/\Below w.heap.size w w'/\(n=0->∃a,v' = .slice a 0 0):=by
 have Hc:Hid (0<n->∃b off,a=some ⟨b,off,none⟩/\∀j u,xs[j]?=some u->w.cell? ⟨b,off+j,none⟩=some u):=hc;have Hl:Hid (xs.length=n*1/\∀u∈xs,u.oneCell'=true):=⟨hl,iA⟩;clear hc hl iA;have pA:=fun w=>Lib.run_eql_slice_nil (P:=Tryz.prog) w 24 2 a n c 0 0 (by kernel_rfl)
 cases a with
 | none=>
  have nA:n=0:=by
   by_cases h:0<n
   ·obtain⟨b,off,ha,_⟩:=Hc.out h;simp at ha
   ·omega
  subst nA;have oA:xs = []:=List.eq_nil_of_length_eq_zero (by simpa using Hl.out.1);subst oA;go_enter Tryz.func146,Tryz.ntmps146;go_wp2;go_ret;exact⟨_,rfl,World.ownsRow_nil _ _ _ _,Below.refl _ _,fun _=>⟨_,rfl⟩⟩
 | some ad=>
  obtain⟨i0,hi,lA⟩:=Option.map_eq_some_iff.1 zPL;simp only[Prod.mk.injEq]at lA;obtain⟨hz,hs,kA⟩:=lA;have HI:Hid (Tryz.prog.info? 2=some i0/\i0.zero=some (.int .i64 0)/\i0.size=1/\i0.bytes=8):=⟨hi,hz,hs,kA⟩;have aA:Hid ((w.alloc (.cells #[] 2)).ownsRow w.heap.size 2 1 (.slice (some ⟨w.heap.size,0,none⟩) 0 0) 0 []):=World.ownsRow_made w #[] 0 (Nat.le_refl _) (Nat.zero_le _) (by simp);clear hi hz hs kA;go_enter Tryz.func146,Tryz.ntmps146;go_wp2_with (first
   | (at_builtin;refine zBi rfl _ _ 24 rfl w.heap.size 2 i0 (.int .i64 0) 1 8 (by kernel_rfl) HI.out.1 HI.out.2.1 HI.out.2.2.1 HI.out.2.2.2 rfl (by decide) _ _ _ rfl aA.out (some ad) n c xs rfl Hl.out.1 Hl.out.2 ?c1 ?c3 ?c4 ?c5 ?_))
  case c1=>
   intro h0;obtain⟨b,off,ha,bA⟩:=Hc.out h0;exact⟨b,off,ha,fun j u hj=>(((Below.refl _ _).alloc (Nat.le_refl _) _).cell (zH (bA j u hj))).trans (bA j u hj)⟩
  case c3=>unfold maxLen;omega
  case c4=>omega
  case c5=>simp
  intro v' w1 dA cA gA;have mA:Below w.heap.size w w1:=((Below.refl _ _).alloc (Nat.le_refl _) _).grown cA (by simp) (fun q hq=>by have:=aA.out.lt q hq;omega);have eA:w1.ownsRow w.heap.size 2 1 v' n xs:=(by simpa using dA);have fA:Hid (w1.ownsRow w.heap.size 2 1 v' n xs):=eA;have jA:Hid (n=0->v' = .slice (some ⟨w.heap.size,0,none⟩) 0 0):=gA;clear dA eA cA gA;go_wp2;go_ret;exact⟨v',rfl,fA.out,mA,fun e=>⟨_,jA.out e⟩⟩
theorem zMW(a:Option Addr)(n c:Nat)(xs:List Value)(w:World)(hl:xs.length=n*3)(iA:∀u∈xs,u.oneCell'=true)(hn:n<=1048576)
  (hc:0<n->∃b off,a=some ⟨b,off,none⟩/\∀j u,xs[j]?=some u->w.cell? ⟨b,off+j,none⟩=some u) :
  Calls Tryz.prog 177 #[.slice a n c] w fun e w'=>∃v',e = .returned v'/\w'.ownsRow w.heap.size 101 3 v' n xs/\Below w.heap.size w w'/\(n=0->∃a,v' = .slice a 0 0):=by
 have Hc:Hid (0<n->∃b off,a=some ⟨b,off,none⟩/\∀j u,xs[j]?=some u->w.cell? ⟨b,off+j,none⟩=some u):=hc;have Hl:Hid (xs.length=n*3/\∀u∈xs,u.oneCell'=true):=⟨hl,iA⟩;clear hc hl iA;have pA:=fun w=>Lib.run_eql_slice_nil (P:=Tryz.prog) w 23 101 a n c 0 0 (by kernel_rfl)
 cases a with
 | none=>
  have nA:n=0:=by
   by_cases h:0<n
   ·obtain⟨b,off,ha,_⟩:=Hc.out h;simp at ha
   ·omega
  subst nA;have oA:xs = []:=List.eq_nil_of_length_eq_zero (by simpa using Hl.out.1);subst oA;go_enter Tryz.func177,Tryz.ntmps177;go_wp2;go_ret;exact⟨_,rfl,World.ownsRow_nil _ _ _ _,Below.refl _ _,fun _=>⟨_,rfl⟩⟩
 | some ad=>
  obtain⟨i0,hi,lA⟩:=Option.map_eq_some_iff.1 zWk;simp only[Prod.mk.injEq]at lA;obtain⟨hz,hs,kA⟩:=lA;have HI:Hid (Tryz.prog.info? 101=some i0/\i0.zero=some (.agg #[.int .i64 0,.slice none 0 0,.string ⟨#[]⟩])/\i0.size=3/\i0.bytes=48):=⟨hi,hz,hs,kA⟩;have aA:Hid ((w.alloc (.cells #[] 101)).ownsRow w.heap.size 101 3 (.slice (some ⟨w.heap.size,0,none⟩) 0 0) 0 []):=World.ownsRow_made w #[] 0 (Nat.le_refl _) (Nat.zero_le _) (by simp);clear hi hz hs kA;go_enter Tryz.func177,Tryz.ntmps177;go_wp2_with (first
   | (at_builtin;refine zBi rfl _ _ 23 rfl w.heap.size 101 i0 (.agg #[.int .i64 0,.slice none 0 0,.string ⟨#[]⟩]) 3 48 (by kernel_rfl) HI.out.1 HI.out.2.1 HI.out.2.2.1 HI.out.2.2.2 rfl (by decide) _ _ _ rfl aA.out (some ad) n c xs rfl Hl.out.1 Hl.out.2 ?c1 ?c3 ?c4 ?c5 ?_))
  case c1=>
   intro h0;obtain⟨b,off,ha,bA⟩:=Hc.out h0;exact⟨b,off,ha,fun j u hj=>(((Below.refl _ _).alloc (Nat.le_refl _) _).cell (zH (bA j u hj))).trans (bA j u hj)⟩
  case c3=>unfold maxLen;omega
  case c4=>omega
  case c5=>simp
  intro v' w1 dA cA gA;have mA:Below w.heap.size w w1:=((Below.refl _ _).alloc (Nat.le_refl _) _).grown cA (by simp) (fun q hq=>by have:=aA.out.lt q hq;omega);have eA:w1.ownsRow w.heap.size 101 3 v' n xs:=(by simpa using dA);have fA:Hid (w1.ownsRow w.heap.size 101 3 v' n xs):=eA;have jA:Hid (n=0->v' = .slice (some ⟨w.heap.size,0,none⟩) 0 0):=gA;clear dA eA cA gA;go_wp2;go_ret;exact⟨v',rfl,fA.out,mA,fun e=>⟨_,jA.out e⟩⟩
def zOD(w:World)(b:Nat)(v0 v1 v2 v3 v4:Value):Prop:=zY w b 0 v0/\zY w b 1 v1/\zY w b 2 v2/\zY w b 3 v3/\zY w b 4 v4
theorem zOD.zeF{w w':World}{b:Nat}{v0 v1 v2 v3 v4:Value}(h:zOD w b v0 v1 v2 v3 v4)(t:Below w.heap.size w w'):zOD w' b v0 v1 v2 v3 v4:=⟨h.1.zeF t,h.2.1.zeF t,h.2.2.1.zeF t,h.2.2.2.1.zeF t,h.2.2.2.2.zeF t⟩
theorem zOD.new(w:World)(v0 v1 v2 v3 v4:Value)(t:TypeId):zOD (w.alloc (.cells #[v0,v1,v2,v3,v4] t)) w.heap.size v0 v1 v2 v3 v4:=by
 have hb:(w.alloc (.cells #[v0,v1,v2,v3,v4] t)).heap[w.heap.size]?=some (.cells #[v0,v1,v2,v3,v4] t):=heap_alloc_new _ _;exact⟨zK hb rfl,zK hb rfl,zK hb rfl,zK hb rfl,zK hb rfl⟩
abbrev put5(w:World)(b:Nat)(u0 u1 u2 u3 u4:Value):World:=((((w.setCell ⟨b,0,none⟩ u0).setCell ⟨b,1,none⟩ u1).setCell ⟨b,2,none⟩ u2).setCell ⟨b,3,none⟩ u3).setCell ⟨b,4,none⟩ u4
theorem zOD.put{w:World}{b:Nat}{v0 v1 v2 v3 v4:Value}(h:zOD w b v0 v1 v2 v3 v4)(u0 u1 u2 u3 u4:Value):zOD (put5 w b u0 u1 u2 u3 u4) b u0 u1 u2 u3 u4:=
 have H (i:Nat) (u v:Value) (e:[u0,u1,u2,u3,u4][i]?=some u) (c:zY w b i v):zY (put5 w b u0 u1 u2 u3 u4) b i u:=zKG [u0,u1,u2,u3,u4] w 0 i i e (Nat.zero_add i) c
 ⟨H 0 _ _ rfl h.1,H 1 _ _ rfl h.2.1,H 2 _ _ rfl h.2.2.1,H 3 _ _ rfl h.2.2.2.1,H 4 _ _ rfl h.2.2.2.2⟩
theorem zJ.put5(w:World)(b:Nat)(u0 u1 u2 u3 u4:Value):zJ (fun k=>k=b) w (put5 w b u0 u1 u2 u3 u4):=
 ((((zJ.put w b 0 u0).trans (zJ.put _ b 1 u1)).trans (zJ.put _ b 2 u2)).trans (zJ.put _ b 3 u3)).trans (zJ.put _ b 4 u4)
structure zKY where
 pool:zF
 ps:Int
 pb:Int
 code:Int
def zcj(o:zKY)(w:World)(e:Ending)(w':World):Prop:=∃v0 v1,e = .returned (.agg #[v0,v1,.int .i64 o.ps,.int .i64 o.pb,.int .i64 o.code])/\zAM w' w.heap.size w'.heap.size v0 v1 o.pool/\Below w.heap.size w w'
theorem zSZ{w:World}{lo hi:Nat}:zAM w lo hi (.slice none 0 0) (.slice none 0 0) (zEw 0):=
 zZY (g:=0) (Nat.zero_le _) ⟨none,0,rfl,Nat.le_refl _,fun h=>absurd h (Nat.lt_irrefl _)⟩ (fun i h=>absurd h (Nat.not_lt_zero _))
end Go.Proofs.YtjganmlaooofoaaGreatDoor
