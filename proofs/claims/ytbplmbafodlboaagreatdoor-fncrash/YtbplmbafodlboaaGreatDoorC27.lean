/- A part of the proof. -/
import Derived.Test.YtbplmbafodlboaaGreatDoorC25
set_option linter.unusedVariables false
set_option maxRecDepth 20000
set_option maxHeartbeats 4000000
namespace Go.Proofs.YtbplmbafodlboaaGreatDoor
open Go.RowKit Go.Maps
theorem zSX(v v':Value)(n n' lo hi fA dA:Nat)(f g f' g':Nat->Int)(w:World)(h1:qo w lo hi v n f g)(h2:qo w fA dA v' n' f' g') :
  Calls Tryz.prog 122 #[v,v'] w fun e w'=>zL (zSL n n' f g f' g') e/\Below w.heap.size w w':=by
 have H1:=zC h1;have H2:=zC h2;obtain⟨m1,a,c,rfl,mc,-⟩:=id h1;obtain⟨m2,a',c',rfl,jA,-⟩:=id h2;unfold maxLen at m1 m2;clear h1 h2;by_cases e3:n=n';rotate_left
 ·have H:=zC e3;obtain⟨i5,i6,i7⟩:=zHn (show ¬(n:Int)=(n':Int)by omega);clear e3;go_enter Tryz.func122,Tryz.ntmps122;go_wp2;go_ret;exact⟨zL.no fun h=>H.out h.1,Below.refl _ _⟩
 subst e3;have iA:((n:Int) != (n:Int))=false:=by simp
 go_enter Tryz.func122,Tryz.ntmps122;go_wp2
 go_loopw [13] (fun i wr=>∃k:Nat,k<=n/\i = .int .i64 k/\(∀j,j<k->f j=f' j/\g j=g' j)/\Below w.heap.size w wr) (fun i _=>n - (intOf i).toNat)
 case atStart=>exact⟨0,Nat.zero_le _,rfl,fun j h=>absurd h (Nat.not_lt_zero _),Below.refl _ _⟩
 case round=>
  obtain⟨k,hk,rfl,bA,hb⟩:=hrel;have aA:=zC bA;clear bA;by_cases cA:k<n
  ·have eA:(k:Int)<(n:Int):=(by omega);obtain⟨b,off,rfl,q0,q1⟩:=(H1.out.zcw hb).cellsD cA;obtain⟨b',gA,rfl,r0,r1⟩:=(H2.out.zcw hb).cellsD cA;by_cases he:f k=f' k/\g k=g' k
   ·have H:=zC he;rw[he.1]at q0;rw[he.2]at q1;clear he;go_wp2
    go_quiet (fail)
    go_wp2;go_roundw
    case rel=>
     refine⟨k+1,by omega,by go_num,?_,zAe hb _⟩;intro j hj;by_cases e:j=k
     ·subst e;exact H.out
     ·exact aA.out j (by omega)
    case measure=>simp[intOf];omega
   ·have H:=zC he;have e0:=zaC he;clear he;rcases e0 with e0 | ⟨e0,e1⟩
    all_goals
     go_wp2
     go_quiet (fail)
     go_wp2;go_ret;exact⟨zL.no fun h=>H.out (h.2 k cA),zAe hb _⟩
  ·obtain rfl:k=n:=(by omega);go_wp2;go_ret;exact⟨zL.yes ⟨rfl,aA.out⟩,hb⟩
theorem zJh(lo hi dA cA:Nat)(s t:zM)(pa qa:Option Addr)(pc qc:Nat)(w:World)(h1:zBp w lo hi (.int .i64 s.birth) (.slice pa s.kn pc) (.string s.data) s)(h2:zBp w dA cA (.int .i64 t.birth) (.slice qa t.kn qc) (.string t.data) t) :
  Calls Tryz.prog 93 #[.agg #[.int .i64 s.birth,.slice pa s.kn pc,.string s.data],.agg #[.int .i64 t.birth,.slice qa t.kn qc,.string t.data]] w fun e w'=>zL (zDu s t) e/\Below w.heap.size w w':=by
 have H1:=zC h1.2.1;have H2:=zC h2.2.1;clear h1 h2;have ha:=zD w (.cells #[.int .i64 s.birth,.slice pa s.kn pc,.string s.data] 58);have aA:=zD (w.alloc (.cells #[.int .i64 s.birth,.slice pa s.kn pc,.string s.data] 58)) (.cells #[.int .i64 t.birth,.slice qa t.kn qc,.string t.data] 58);have hA:=zA ha aA;obtain⟨⟨x0,-⟩,⟨x1,-⟩,⟨x2,-⟩⟩:=(zDP.new w (.int .i64 s.birth) (.slice pa s.kn pc) (.string s.data) 58).zcw aA;have hy:=zDP.new (w.alloc (.cells #[.int .i64 s.birth,.slice pa s.kn pc,.string s.data] 58)) (.int .i64 t.birth) (.slice qa t.kn qc) (.string t.data) 58;rw[World.size_alloc]at hy;obtain⟨⟨y0,-⟩,⟨y1,-⟩,⟨y2,-⟩⟩:=hy;clear ha aA;by_cases e1:s.birth=t.birth;rotate_left
 ·have H:=zC e1;obtain⟨i1,i2,i3⟩:=zHn e1;go_enter Tryz.func93,Tryz.ntmps93;go_wp2;go_ret;exact⟨zL.no fun h=>H.out h.1,hA⟩
 have E1:=zC e1;obtain⟨i1,i2,i3⟩:=zJ2 e1;clear e1;by_cases e2:s.data=t.data;rotate_left
 ·have H:=zC e2;have i4:=zY3 e2;clear e2;go_enter Tryz.func93,Tryz.ntmps93;go_wp2;go_ret;exact⟨zL.no fun h=>H.out h.2.2,hA⟩
 have E2:=zC e2;have i4:=zY2 e2;clear e2;go_enter Tryz.func93,Tryz.ntmps93;go_wp2_with fail;refine(zSX _ _ s.kn t.kn lo hi dA cA _ _ _ _ _ (H1.out.zcw hA) (H2.out.zcw hA)).mono ?_;rintro e w1 ⟨⟨r,rfl,hr⟩,bA⟩;have Hr:=zC hr;have eA:=zA hA bA;clear hr bA x0 x1 x2 y0 y1 y2 i1 i2 i3 i4 hA;go_wp2;go_ret;exact⟨⟨r,rfl,⟨fun h=>⟨E1.out,Hr.out.1 h,E2.out⟩,fun h=>Hr.out.2 h.2.1⟩⟩,eA⟩
theorem zJz(u0 u2 u3:Value)(ha:Option Addr)(hc:Nat)(W:zB)(hm:W.pool.hn<=maxLen)(w:World) :
  Calls Tryz.prog 53 #[.agg #[u0,.slice ha W.pool.hn hc,.int .i64 W.time,.int .i64 W.next,u2,u3]] w fun e w'=>zL (W.pool.hn=0) e/\Below w.heap.size w w':=by
 unfold maxLen at hm;have hA:=zD w (.cells #[u0,.slice ha W.pool.hn hc,.int .i64 W.time,.int .i64 W.next,u2,u3] 62);obtain⟨x0,x1,x2,x3,x4,x5⟩:=(zAM.new w u0 (.slice ha W.pool.hn hc) (.int .i64 W.time) (.int .i64 W.next) u2 u3 62).c;by_cases e:W.pool.hn=0
 ·have H:=zC e;obtain⟨i1,i2,i3⟩:=zJ2 (show(W.pool.hn:Int)=0 by omega);clear e;go_enter Tryz.func53,Tryz.ntmps53;go_wp2;go_ret;exact⟨⟨true,rfl,⟨fun _=>H.out,fun _=>rfl⟩⟩,hA⟩
 ·have H:=zC e;obtain⟨i1,i2,i3⟩:=zHn (show ¬(W.pool.hn:Int)=0 by omega);clear e;go_enter Tryz.func53,Tryz.ntmps53;go_wp2;go_ret;exact⟨⟨false,rfl,⟨fun h=>absurd h (by simp),fun h=>absurd h H.out⟩⟩,hA⟩
structure zSH (S:zx):Prop where
 many:S.zc0.pool.n=S.zcz.pool.n
 time:S.zcz.time<=S.zc0.time
 next:S.zcz.next<=S.zc0.next
 slots:∀i,i<S.zcz.pool.n->¬zAA (S.zcz.pool.s i)->zDu (S.zcz.pool.s i) (S.zc0.pool.s i)
theorem zVg(v0 v1 v2 v3 u0 u1 u2 u3:Value)(lo hi:Nat)(S:zx)(w:World)(h:zBz w lo hi v0 v1 v2 v3 u0 u1 u2 u3 S) :
  Calls Tryz.prog 54 #[zB8 v0 v1 v2 v3 S.zc0,zB8 u0 u1 u2 u3 S.zcz] w fun e w'=>zL (zSH S) e/\Below w.heap.size w w':=by
 have Hp:=zC h;obtain⟨m1,la,lc,rfl,ml,-⟩:=id h.zc0.pool.1;obtain⟨m2,sa,sc,rfl,ms,-⟩:=id h.zcz.pool.1;obtain⟨m3,ha,hc,rfl,mh,-⟩:=id h.zcz.pool.2;unfold maxLen at m1 m2 m3;clear h;have dA:=zD w (.cells #[.slice la S.zc0.pool.n lc,v1,.int .i64 S.zc0.time,.int .i64 S.zc0.next,v2,v3] 61);have kA:=zD (w.alloc (.cells #[.slice la S.zc0.pool.n lc,v1,.int .i64 S.zc0.time,.int .i64 S.zc0.next,v2,v3] 61)) (.cells #[.slice sa S.zcz.pool.n sc,.slice ha S.zcz.pool.hn hc,.int .i64 S.zcz.time,.int .i64 S.zcz.next,u2,u3] 62);have hA:=zA dA kA;have HX:=zC ((zAM.new w (.slice la S.zc0.pool.n lc) v1 (.int .i64 S.zc0.time) (.int .i64 S.zc0.next) v2 v3 61).zcw kA);have hy:=zAM.new (w.alloc (.cells #[.slice la S.zc0.pool.n lc,v1,.int .i64 S.zc0.time,.int .i64 S.zc0.next,v2,v3] 61)) (.slice sa S.zcz.pool.n sc) (.slice ha S.zcz.pool.hn hc) (.int .i64 S.zcz.time) (.int .i64 S.zcz.next) u2 u3 62;rw[World.size_alloc]at hy;have HY:=zC hy;clear hy dA kA;obtain⟨x0,x1,x2,x3,x4,x5⟩:=HX.out.c;obtain⟨y0,y1,y2,y3,y4,y5⟩:=HY.out.c;by_cases e1:S.zc0.pool.n=S.zcz.pool.n;rotate_left
 ·obtain⟨i1,i2,i3⟩:=zHn (show ¬(S.zc0.pool.n:Int)=(S.zcz.pool.n:Int)by omega);have H:=zC e1;clear e1;go_enter Tryz.func54,Tryz.ntmps54;go_wp2;go_ret;exact⟨zL.no fun h=>H.out h.many,hA⟩
 obtain⟨i1,i2,i3⟩:=zJ2 (show(S.zc0.pool.n:Int)=(S.zcz.pool.n:Int)by omega);have E1:=zC e1;clear e1;by_cases e3:S.zc0.time<S.zcz.time
 ·have H:=zC e3;go_enter Tryz.func54,Tryz.ntmps54;go_wp2;go_ret;exact⟨zL.no fun h=>by have:=h.time;have:=H.out;omega,hA⟩
 have E3:=zC (show S.zcz.time<=S.zc0.time by omega);by_cases e4:S.zc0.next<S.zcz.next
 ·have H:=zC e4;go_enter Tryz.func54,Tryz.ntmps54;go_wp2;go_ret;exact⟨zL.no fun h=>by have:=h.next;have:=H.out;omega,hA⟩
 have E4:=zC (show S.zcz.next<=S.zc0.next by omega);go_enter Tryz.func54,Tryz.ntmps54;go_wp2;clear x0 x1 x2 x3 x4 x5 y0 y1 y2 y3 y4 y5 i1 i2 i3 e3 e4
 go_loopw [41] (fun i wr=>∃k:Nat,k<=S.zcz.pool.n/\i = .int .i64 k/\(∀j,j<k->¬zAA (S.zcz.pool.s j)->zDu (S.zcz.pool.s j) (S.zc0.pool.s j))/\zAM wr w.heap.size (.slice la S.zc0.pool.n lc) v1 (.int .i64 S.zc0.time) (.int .i64 S.zc0.next) v2 v3/\Below w.heap.size w wr) (fun i _=>S.zcz.pool.n - (intOf i).toNat)
 case atStart=>exact⟨0,Nat.zero_le _,rfl,fun j h=>absurd h (Nat.not_lt_zero _),HX.out,hA⟩
 case round=>
  obtain⟨k,hk,rfl,nA,hX,hb⟩:=hrel;have jA:=zC nA;have gB:=zC hX;clear nA hX;by_cases eB:k<S.zcz.pool.n
  ·have iB:(k:Int)<(S.zcz.pool.n:Int):=(by omega);have vA:k<S.zc0.pool.n:=(by have:=E1.out;omega);have jB:(k:Int)<(S.zc0.pool.n:Int):=(by omega);obtain⟨b,off,ka,kc,rfl,hs⟩:=(Hp.out.zcz.pool.1.zcw hb).cells eB;obtain⟨b',bA,pa,pc,rfl,kB⟩:=(Hp.out.zc0.pool.1.zcw hb).cells vA;obtain⟨q0,q1,q2,fB⟩:=hs;obtain⟨r0,r1,r2,oA⟩:=kB;have dA:=zD wr (.cells #[.int .i64 (S.zcz.pool.s k).birth,.slice ka (S.zcz.pool.s k).kn kc,.string (S.zcz.pool.s k).data] 58);have HV:=zC (zDP.new wr (.int .i64 (S.zcz.pool.s k).birth) (.slice ka (S.zcz.pool.s k).kn kc) (.string (S.zcz.pool.s k).data) 58);have eA:=zC (gB.out.zcw dA);have lA:=zC (fB.zcw dA);have iA:=zC (oA.zcw dA);have rA:=zA hb dA;have R0:=(dA.cell (zH r0)).trans r0;have R1:=(dA.cell (zH r1)).trans r1;have R2:=(dA.cell (zH r2)).trans r2;clear fB oA r0 r1 r2;obtain⟨⟨z0,-⟩,⟨z1,-⟩,⟨z2,-⟩⟩:=HV.out;go_wp2_with fail;clear q0 q1 q2 dA;generalize wr.alloc (.cells #[.int .i64 (S.zcz.pool.s k).birth,.slice ka (S.zcz.pool.s k).kn kc,.string (S.zcz.pool.s k).data] 58)=W5 at HV eA lA iA rA R0 R1 R2 z0 z1 z2 ⊢;generalize wr.heap.size=V at HV z0 z1 z2 ⊢;obtain⟨x0,x1,x2,x3,x4,x5⟩:=eA.out.c;by_cases sA:zAA (S.zcz.pool.s k)
   ·have mA:=zC sA;clear sA;refine wp_region_held_drew (S:=(fun w'=>w'.cell? ⟨w.heap.size,0,none⟩=some (.slice (some ⟨b',bA,none⟩) S.zc0.pool.n lc)/\w'.cell? ⟨w.heap.size,1,none⟩=some (v1)/\w'.cell? ⟨w.heap.size,2,none⟩=some (.int .i64 S.zc0.time)/\w'.cell? ⟨w.heap.size,3,none⟩=some (.int .i64 S.zc0.next)/\w'.cell? ⟨w.heap.size,4,none⟩=some (v2)/\w'.cell? ⟨w.heap.size,5,none⟩=some (v3)/\w'.cell? ⟨V,0,none⟩=some (.int .i64 (S.zcz.pool.s k).birth)/\w'.cell? ⟨V,1,none⟩=some (.slice ka (S.zcz.pool.s k).kn kc)/\w'.cell? ⟨V,2,none⟩=some (.string (S.zcz.pool.s k).data)/\w'.cell? ⟨b',bA+k*3,none⟩=some (.int .i64 (S.zc0.pool.s k).birth)/\w'.cell? ⟨b',bA+k*3+1,none⟩=some (.slice pa (S.zc0.pool.s k).kn pc)/\w'.cell? ⟨b',bA+k*3+2,none⟩=some (.string (S.zc0.pool.s k).data))) (by kernel_rfl) ?_ (fun hHeld=>?_)
    ·(try dsimp only)
     go_keep
    refine tk 0 (h:=?_);refine rd [1] (rc (fun K hK=>?_) .nil);go_simp;go_at_call 92;refine(zCy _ _ _ lo hi (S.zcz.pool.s k) _ ?_).mono ?_
    ·exact lA.out.zcw (zAe (Below.refl _ _) 1)
    rintro e w6 ⟨⟨t6,rfl,gA⟩,fA⟩;obtain rfl:t6=true:=gA.2 mA.out;clear gA;have aA:Below W5.heap.size W5 w6:=(by first | exact fA | exact qU fA);obtain⟨m0,m1,m2,m3,m4,m5⟩:=(eA.out.zcw aA).c;obtain⟨⟨Z0,-⟩,⟨Z1,-⟩,⟨Z2,-⟩⟩:=HV.out.zcw aA;have aB:=(aA.cell (zH R0)).trans R0;have bB:=(aA.cell (zH R1)).trans R1;have cB:=(aA.cell (zH R2)).trans R2
    (try go_wp2_with fail)
    refine hK.out _ _ (by(try dsimp only);go_keep) ?_;clear hK K hHeld;intro hHeld
    try simp only[Act.put,s1,s2,s3]
    refine tk 2 (h:=tk 3 (h:=ts 4 (h:=ts 5 (h:=ts 6 (h:=ts 7 (h:=ts 8 (h:=ts 9 (h:=ts 10 (h:=ts 11 (h:=?_))))))))));refine rd [12] (rc (fun K hK=>?_) .nil);split
    ·rename_i lB
     exact absurd (show false=true from lB) Bool.false_ne_true
    refine hK.out _ _ (by assumption) (fun hHeld=>?_);clear hK K
    try simp only[Act.put,s1,s2,s3]
    refine ts 13 (h:=tk 14 (h:=?_));refine wpAnyH_done (by kernel_rfl) ?_ _;go_wp2;go_roundw
    case rel=>
     refine⟨k+1,by omega,by go_num,?_,eA.out.zcw aA,zA rA aA⟩;intro j hj hn;by_cases e:j=k
     ·subst e;exact absurd mA.out hn
     ·exact jA.out j (by omega) hn
    case measure=>simp[intOf];omega
   ·have mA:=zC sA;clear sA;by_cases hq:zDu (S.zcz.pool.s k) (S.zc0.pool.s k)
    ·have Hq:=zC hq;clear hq;refine wp_region_held_drew (S:=(fun w'=>w'.cell? ⟨w.heap.size,0,none⟩=some (.slice (some ⟨b',bA,none⟩) S.zc0.pool.n lc)/\w'.cell? ⟨w.heap.size,1,none⟩=some (v1)/\w'.cell? ⟨w.heap.size,2,none⟩=some (.int .i64 S.zc0.time)/\w'.cell? ⟨w.heap.size,3,none⟩=some (.int .i64 S.zc0.next)/\w'.cell? ⟨w.heap.size,4,none⟩=some (v2)/\w'.cell? ⟨w.heap.size,5,none⟩=some (v3)/\w'.cell? ⟨V,0,none⟩=some (.int .i64 (S.zcz.pool.s k).birth)/\w'.cell? ⟨V,1,none⟩=some (.slice ka (S.zcz.pool.s k).kn kc)/\w'.cell? ⟨V,2,none⟩=some (.string (S.zcz.pool.s k).data)/\w'.cell? ⟨b',bA+k*3,none⟩=some (.int .i64 (S.zc0.pool.s k).birth)/\w'.cell? ⟨b',bA+k*3+1,none⟩=some (.slice pa (S.zc0.pool.s k).kn pc)/\w'.cell? ⟨b',bA+k*3+2,none⟩=some (.string (S.zc0.pool.s k).data))) (by kernel_rfl) ?_ (fun hHeld=>?_)
     ·(try dsimp only)
      go_keep
     refine tk 0 (h:=?_);refine rd [1] (rc (fun K hK=>?_) .nil);go_simp;go_at_call 92;refine(zCy _ _ _ lo hi (S.zcz.pool.s k) _ ?_).mono ?_
     ·exact lA.out.zcw (zAe (Below.refl _ _) 1)
     rintro e w6 ⟨⟨t6,rfl,gA⟩,fA⟩;obtain rfl:t6=false:=yy gA mA.out;clear gA;have aA:Below W5.heap.size W5 w6:=(by first | exact fA | exact qU fA);obtain⟨m0,m1,m2,m3,m4,m5⟩:=(eA.out.zcw aA).c;obtain⟨⟨Z0,-⟩,⟨Z1,-⟩,⟨Z2,-⟩⟩:=HV.out.zcw aA;have aB:=(aA.cell (zH R0)).trans R0;have bB:=(aA.cell (zH R1)).trans R1;have cB:=(aA.cell (zH R2)).trans R2
     (try go_wp2_with fail)
     refine hK.out _ _ (by(try dsimp only);go_keep) ?_;clear hK K hHeld;intro hHeld
     try simp only[Act.put,s1,s2,s3]
     refine tk 2 (h:=tk 3 (h:=tk 4 (h:=tk 5 (h:=tk 6 (h:=tk 7 (h:=tk 8 (h:=tk 9 (h:=tk 10 (h:=tk 11 (h:=?_))))))))));refine rd [12] (rc (fun K hK=>?_) .nil);go_simp;go_at_call 93;refine(zJh lo hi lo hi (S.zcz.pool.s k) (S.zc0.pool.s k) ka pa kc pc _ ?_ ?_).mono ?_
     ·exact lA.out.zcw aA
     ·exact iA.out.zcw aA
     rintro e w7 ⟨⟨t7,rfl,pA⟩,tA⟩;obtain rfl:t7=true:=pA.2 Hq.out;clear pA;have cA:=zA aA tA;obtain⟨n0,n1,n2,n3,n4,n5⟩:=(eA.out.zcw cA).c;obtain⟨⟨y0,-⟩,⟨y1,-⟩,⟨y2,-⟩⟩:=HV.out.zcw cA;have mB:=(cA.cell (zH R0)).trans R0;have nB:=(cA.cell (zH R1)).trans R1;have oB:=(cA.cell (zH R2)).trans R2
     (try go_wp2_with fail)
     refine hK.out _ _ (by(try dsimp only);go_keep) ?_;clear hK K hHeld;intro hHeld
     try simp only[Act.put,s1,s2,s3]
     refine tk 13 (h:=tk 14 (h:=?_));refine wpAnyH_done (by kernel_rfl) ?_ _;go_wp2;go_roundw
     case rel=>
      refine⟨k+1,by omega,by go_num,?_,eA.out.zcw cA,zA rA cA⟩;intro j hj hn;by_cases e:j=k
      ·subst e;exact Hq.out
      ·exact jA.out j (by omega) hn
     case measure=>simp[intOf];omega
    ·have Hq:=zC hq;clear hq;refine wp_region_held_drew (S:=(fun w'=>w'.cell? ⟨w.heap.size,0,none⟩=some (.slice (some ⟨b',bA,none⟩) S.zc0.pool.n lc)/\w'.cell? ⟨w.heap.size,1,none⟩=some (v1)/\w'.cell? ⟨w.heap.size,2,none⟩=some (.int .i64 S.zc0.time)/\w'.cell? ⟨w.heap.size,3,none⟩=some (.int .i64 S.zc0.next)/\w'.cell? ⟨w.heap.size,4,none⟩=some (v2)/\w'.cell? ⟨w.heap.size,5,none⟩=some (v3)/\w'.cell? ⟨V,0,none⟩=some (.int .i64 (S.zcz.pool.s k).birth)/\w'.cell? ⟨V,1,none⟩=some (.slice ka (S.zcz.pool.s k).kn kc)/\w'.cell? ⟨V,2,none⟩=some (.string (S.zcz.pool.s k).data)/\w'.cell? ⟨b',bA+k*3,none⟩=some (.int .i64 (S.zc0.pool.s k).birth)/\w'.cell? ⟨b',bA+k*3+1,none⟩=some (.slice pa (S.zc0.pool.s k).kn pc)/\w'.cell? ⟨b',bA+k*3+2,none⟩=some (.string (S.zc0.pool.s k).data))) (by kernel_rfl) ?_ (fun hHeld=>?_)
     ·(try dsimp only)
      go_keep
     refine tk 0 (h:=?_);refine rd [1] (rc (fun K hK=>?_) .nil);go_simp;go_at_call 92;refine(zCy _ _ _ lo hi (S.zcz.pool.s k) _ ?_).mono ?_
     ·exact lA.out.zcw (zAe (Below.refl _ _) 1)
     rintro e w6 ⟨⟨t6,rfl,gA⟩,fA⟩;obtain rfl:t6=false:=yy gA mA.out;clear gA;have aA:Below W5.heap.size W5 w6:=(by first | exact fA | exact qU fA);obtain⟨m0,m1,m2,m3,m4,m5⟩:=(eA.out.zcw aA).c;obtain⟨⟨Z0,-⟩,⟨Z1,-⟩,⟨Z2,-⟩⟩:=HV.out.zcw aA;have aB:=(aA.cell (zH R0)).trans R0;have bB:=(aA.cell (zH R1)).trans R1;have cB:=(aA.cell (zH R2)).trans R2
     (try go_wp2_with fail)
     refine hK.out _ _ (by(try dsimp only);go_keep) ?_;clear hK K hHeld;intro hHeld
     try simp only[Act.put,s1,s2,s3]
     refine tk 2 (h:=tk 3 (h:=tk 4 (h:=tk 5 (h:=tk 6 (h:=tk 7 (h:=tk 8 (h:=tk 9 (h:=tk 10 (h:=tk 11 (h:=?_))))))))));refine rd [12] (rc (fun K hK=>?_) .nil);go_simp;go_at_call 93;refine(zJh lo hi lo hi (S.zcz.pool.s k) (S.zc0.pool.s k) ka pa kc pc _ ?_ ?_).mono ?_
     ·exact lA.out.zcw aA
     ·exact iA.out.zcw aA
     rintro e w7 ⟨⟨t7,rfl,pA⟩,tA⟩;obtain rfl:t7=false:=yy pA Hq.out;clear pA;have cA:=zA aA tA;obtain⟨n0,n1,n2,n3,n4,n5⟩:=(eA.out.zcw cA).c;obtain⟨⟨y0,-⟩,⟨y1,-⟩,⟨y2,-⟩⟩:=HV.out.zcw cA;have mB:=(cA.cell (zH R0)).trans R0;have nB:=(cA.cell (zH R1)).trans R1;have oB:=(cA.cell (zH R2)).trans R2
     (try go_wp2_with fail)
     refine hK.out _ _ (by(try dsimp only);go_keep) ?_;clear hK K hHeld;intro hHeld
     try simp only[Act.put,s1,s2,s3]
     refine tk 13 (h:=tk 14 (h:=?_));refine wpAnyH_done (by kernel_rfl) ?_ _;go_wp2;go_ret;exact⟨zL.no fun h=>Hq.out (h.slots k eB mA.out),zA rA cA⟩
  ·obtain rfl:k=S.zcz.pool.n:=(by omega);go_wp2;go_ret;exact⟨zL.yes ⟨E1.out,E3.out,E4.out,jA.out⟩,hb⟩
theorem zM3(v0 v1 v2 v3 u0 u1 u2 u3:Value)(lo hi:Nat)(S:zx)(w:World)(h:zBz w lo hi v0 v1 v2 v3 u0 u1 u2 u3 S) :
  Calls Tryz.prog 30 #[zC4 v0 v1 v2 v3 u0 u1 u2 u3 S] w fun e w'=>e = .returned (zC4 v0 v1 v2 v3 u0 u1 u2 u3 S)/\Below w.heap.size w w':=by
 obtain⟨aA,jA,bA,kA,cA,lA,dA,mA,rfl,rfl,rfl,rfl⟩:=h.zc0.zc4;obtain⟨eA,nA,fA,oA,gA,pA,iA,rA,rfl,rfl,rfl,rfl⟩:=h.zcz.zc4;clear h;have ha:=zD w (.cells #[.slice aA S.zc0.pool.n jA,.slice bA S.zc0.pool.hn kA,.int .i64 S.zc0.time,.int .i64 S.zc0.next,.slice cA S.zc0.sn lA,.slice dA S.zc0.pn mA,.slice eA S.zcz.pool.n nA,.slice fA S.zcz.pool.hn oA,.int .i64 S.zcz.time,.int .i64 S.zcz.next,.slice gA S.zcz.sn pA,.slice iA S.zcz.pn rA] 32);have hb:=zD (w.alloc (.cells #[.slice aA S.zc0.pool.n jA,.slice bA S.zc0.pool.hn kA,.int .i64 S.zc0.time,.int .i64 S.zc0.next,.slice cA S.zc0.sn lA,.slice dA S.zc0.pn mA,.slice eA S.zcz.pool.n nA,.slice fA S.zcz.pool.hn oA,.int .i64 S.zcz.time,.int .i64 S.zcz.next,.slice gA S.zcz.sn pA,.slice iA S.zcz.pn rA] 32)) (.cells #[.slice aA S.zc0.pool.n jA,.slice bA S.zc0.pool.hn kA,.int .i64 S.zc0.time,.int .i64 S.zc0.next,.slice cA S.zc0.sn lA,.slice dA S.zc0.pn mA,.slice eA S.zcz.pool.n nA,.slice fA S.zcz.pool.hn oA,.int .i64 S.zcz.time,.int .i64 S.zcz.next,.slice gA S.zcz.sn pA,.slice iA S.zcz.pn rA] 64);obtain⟨x0,x1,x2,x3,x4,x5,x6,x7,x8,x9,sA,tA⟩:=(zCb.new w (.slice aA S.zc0.pool.n jA) (.slice bA S.zc0.pool.hn kA) (.int .i64 S.zc0.time) (.int .i64 S.zc0.next) (.slice cA S.zc0.sn lA) (.slice dA S.zc0.pn mA) (.slice eA S.zcz.pool.n nA) (.slice fA S.zcz.pool.hn oA) (.int .i64 S.zcz.time) (.int .i64 S.zcz.next) (.slice gA S.zcz.sn pA) (.slice iA S.zcz.pn rA) 32).c;have hy:=zCb.new (w.alloc (.cells #[.slice aA S.zc0.pool.n jA,.slice bA S.zc0.pool.hn kA,.int .i64 S.zc0.time,.int .i64 S.zc0.next,.slice cA S.zc0.sn lA,.slice dA S.zc0.pn mA,.slice eA S.zcz.pool.n nA,.slice fA S.zcz.pool.hn oA,.int .i64 S.zcz.time,.int .i64 S.zcz.next,.slice gA S.zcz.sn pA,.slice iA S.zcz.pn rA] 32)) (.slice aA S.zc0.pool.n jA) (.slice bA S.zc0.pool.hn kA) (.int .i64 S.zc0.time) (.int .i64 S.zc0.next) (.slice cA S.zc0.sn lA) (.slice dA S.zc0.pn mA) (.slice eA S.zcz.pool.n nA) (.slice fA S.zcz.pool.hn oA) (.int .i64 S.zcz.time) (.int .i64 S.zcz.next) (.slice gA S.zcz.sn pA) (.slice iA S.zcz.pn rA) 64;rw[World.size_alloc]at hy;have HR:=hy;clear hy;go_enter Tryz.func30,Tryz.ntmps30;go_wp2;refine bodyPost_ret (v:=.agg #[.slice aA S.zc0.pool.n jA,.slice bA S.zc0.pool.hn kA,.int .i64 S.zc0.time,.int .i64 S.zc0.next,.slice cA S.zc0.sn lA,.slice dA S.zc0.pn mA,.slice eA S.zcz.pool.n nA,.slice fA S.zcz.pool.hn oA,.int .i64 S.zcz.time,.int .i64 S.zcz.next,.slice gA S.zcz.sn pA,.slice iA S.zcz.pn rA]) (by simp[results,Tryz.results30,go_sem,HR.1.1,HR.2.1.1,HR.2.2.1.1,HR.2.2.2.1.1,HR.2.2.2.2.1.1,HR.2.2.2.2.2.1.1,HR.2.2.2.2.2.2.1.1,HR.2.2.2.2.2.2.2.1.1,HR.2.2.2.2.2.2.2.2.1.1,HR.2.2.2.2.2.2.2.2.2.1.1,HR.2.2.2.2.2.2.2.2.2.2.1.1,HR.2.2.2.2.2.2.2.2.2.2.2.1]) rfl ⟨rfl,?_⟩;exact zA ha hb
theorem zNR(v0 v1 v2 v3:Value)(lo hi:Nat)(W:zB)(w:World)(h:zAF w lo hi v0 v1 v2 v3 W)(bA:zCM W) :
    Calls Tryz.prog 52 #[zB8 v0 v1 v2 v3 W] w fun e w'=>zL (zFX W) e/\Below w.heap.size w w':=by
  have Hp:=zC h;have cA:=zC bA;clear h bA;have ha:=zD w (.cells #[v0,v1,.int .i64 W.time,.int .i64 W.next,v2,v3] 30);obtain⟨x0,x1,x2,x3,x4,x5⟩:=(zAM.new w v0 v1 (.int .i64 W.time) (.int .i64 W.next) v2 v3 30).c;go_enter Tryz.func52,Tryz.ntmps52;go_wp2_with fail;refine(zIe v0 v1 v2 v3 lo hi W _ (Hp.out.zcw ha) cA.out).mono ?_;rintro e w1 ⟨⟨t,rfl,ht⟩,aA⟩;have Ht:=zC ht;have hB:=zA ha aA;clear ht aA ha x0 x1 x2 x3 x4 x5;go_wp2;go_ret;exact⟨⟨t,rfl,Ht.out⟩,hB⟩
structure zCJ (S:zx):Prop where
  zc0:zFX S.zc0
  zcz:zFX S.zcz
  held:S.zcz.pool.hn=0
  keeps:zSH S
theorem zKK(S:zx):zCJ S↔zBM S:=
  ⟨fun h=>⟨(zH0 _).1 h.zc0,(zH0 _).1 h.zcz,h.keeps.many,h.held,h.keeps.time,h.keeps.next,h.keeps.slots⟩,
   fun h=>⟨(zH0 _).2 h.zc0,(zH0 _).2 h.zcz,h.held,h.many,h.time,h.next,h.slots⟩⟩
theorem zIF(v0 v1 v2 v3 u0 u1 u2 u3:Value)(lo hi:Nat)(S:zx)(w:World)(h:zBz w lo hi v0 v1 v2 v3 u0 u1 u2 u3 S)(oA:zCM S.zc0)(pA:zCM S.zcz) :
    Calls Tryz.prog 31 #[zC4 v0 v1 v2 v3 u0 u1 u2 u3 S] w fun e w'=>zL (zCJ S) e/\Below w.heap.size w w':=by
  have Hp:=zC h;have rA:=zC oA;have sA:=zC pA;obtain⟨m3,ha,hc,rfl,mh,-⟩:=id h.zcz.pool.2;clear h oA pA;have eA:=zD w (.cells #[v0,v1,.int .i64 S.zc0.time,.int .i64 S.zc0.next,v2,v3,u0,.slice ha S.zcz.pool.hn hc,.int .i64 S.zcz.time,.int .i64 S.zcz.next,u2,u3] 64);have HX:=zC (zCb.new w v0 v1 (.int .i64 S.zc0.time) (.int .i64 S.zc0.next) v2 v3 u0 (.slice ha S.zcz.pool.hn hc) (.int .i64 S.zcz.time) (.int .i64 S.zcz.next) u2 u3 64);obtain⟨x0,x1,x2,x3,x4,x5,x6,x7,x8,x9,aA,bA⟩:=HX.out.c;go_enter Tryz.func31,Tryz.ntmps31;go_wp2_with fail;generalize w.alloc (.cells #[v0,v1,.int .i64 S.zc0.time,.int .i64 S.zc0.next,v2,v3,u0,.slice ha S.zcz.pool.hn hc,.int .i64 S.zcz.time,.int .i64 S.zcz.next,u2,u3] 64)=W0 at eA HX x0 x1 x2 x3 x4 x5 x6 x7 x8 x9 aA bA ⊢;refine(zNR _ _ _ _ lo hi S.zc0 W0 (Hp.out.zc0.zcw eA) rA.out).mono ?_;rintro e w1 ⟨⟨t,rfl,ht⟩,jA⟩;have Ht:=zC ht;have cA:=zA eA jA;have fA:=zC (HX.out.zcw jA);clear ht x0 x1 x2 x3 x4 x5 x6 x7 x8 x9 aA bA jA eA HX;obtain⟨x0,x1,x2,x3,x4,x5,x6,x7,x8,x9,aA,bA⟩:=fA.out.c;cases t
  · go_wp2
    go_ret;exact⟨zL.no fun h=>absurd (Ht.out.2 h.zc0) (by simp),cA⟩
  have HL:=zC (Ht.out.1 rfl);clear Ht;go_wp2_with fail;refine(zNR _ _ _ _ lo hi S.zcz w1 (Hp.out.zcz.zcw cA) sA.out).mono ?_;rintro e w2 ⟨⟨t,rfl,ht⟩,kA⟩;have Ht:=zC ht;have iA:=zA cA kA;have gA:=zC (fA.out.zcw kA);clear ht x0 x1 x2 x3 x4 x5 x6 x7 x8 x9 aA bA kA cA fA;obtain⟨x0,x1,x2,x3,x4,x5,x6,x7,x8,x9,aA,bA⟩:=gA.out.c;cases t
  · go_wp2
    go_ret;exact⟨zL.no fun h=>absurd (Ht.out.2 h.zcz) (by simp),iA⟩
  have HF:=zC (Ht.out.1 rfl);clear Ht;go_wp2_with fail;refine(zJz u0 u2 u3 ha hc S.zcz m3 w2).mono ?_;rintro e w3 ⟨⟨t,rfl,ht⟩,lA⟩;have Ht:=zC ht;have dA:=zA iA lA;have mA:=zC (gA.out.zcw lA);clear ht x0 x1 x2 x3 x4 x5 x6 x7 x8 x9 aA bA lA iA gA;obtain⟨x0,x1,x2,x3,x4,x5,x6,x7,x8,x9,aA,bA⟩:=mA.out.c;cases t
  · go_wp2
    go_ret;exact⟨zL.no fun h=>absurd (Ht.out.2 h.held) (by simp),dA⟩
  have HH:=zC (Ht.out.1 rfl);clear Ht;go_wp2_with fail;refine(zVg v0 v1 v2 v3 u0 _ u2 u3 lo hi S w3 (Hp.out.zcw dA)).mono ?_;rintro e w4 ⟨⟨t,rfl,ht⟩,nA⟩;have Ht:=zC ht;have tA:=zA dA nA;clear ht x0 x1 x2 x3 x4 x5 x6 x7 x8 x9 aA bA nA dA mA;go_wp2;go_ret;exact⟨⟨t,rfl,⟨fun h=>⟨HL.out,HF.out,HH.out,Ht.out.1 h⟩,fun h=>Ht.out.2 h.keeps⟩⟩,tA⟩
end Go.Proofs.YtbplmbafodlboaaGreatDoor
