/- A part of the proof. -/
import Derived.Test.YtbplmbafodlboaaGreatDoorF25
set_option linter.unusedVariables false
set_option maxRecDepth 20000
set_option maxHeartbeats 4000000
namespace Go.Proofs.YtbplmbafodlboaaGreatDoor
open Go.RowKit Go.Maps
theorem zR3(v v':Value)(n n' lo hi fA dA:Nat)(f g f' g':Nat->Int)(w:World)(h1:qi w lo hi v n f g)(h2:qi w fA dA v' n' f' g') :
  Calls Tryz.prog 122 #[v,v'] w fun e w'=>zK (zRq n n' f g f' g') e/\Below w.heap.size w w':=by
 have H1:=zB h1;have H2:=zB h2;obtain⟨m1,a,c,rfl,mc,-⟩:=id h1;obtain⟨m2,a',c',rfl,jA,-⟩:=id h2;unfold maxLen at m1 m2;clear h1 h2;by_cases e3:n=n';rotate_left
 ·have H:=zB e3;obtain⟨i5,i6,i7⟩:=zHa (show ¬(n:Int)=(n':Int)by omega);clear e3;go_enter Tryz.func122,Tryz.ntmps122;go_wp2;go_ret;exact⟨zK.no fun h=>H.out h.1,Below.refl _ _⟩
 subst e3;have iA:((n:Int) != (n:Int))=false:=by simp
 go_enter Tryz.func122,Tryz.ntmps122;go_wp2
 go_loopw [13] (fun i wr=>∃k:Nat,k<=n/\i = .int .i64 k/\(∀j,j<k->f j=f' j/\g j=g' j)/\Below w.heap.size w wr) (fun i _=>n - (intOf i).toNat)
 case atStart=>exact⟨0,Nat.zero_le _,rfl,fun j h=>absurd h (Nat.not_lt_zero _),Below.refl _ _⟩
 case round=>
  obtain⟨k,hk,rfl,bA,hb⟩:=hrel;have aA:=zB bA;clear bA;by_cases cA:k<n
  ·have eA:(k:Int)<(n:Int):=(by omega);obtain⟨b,off,rfl,q0,q1⟩:=(H1.out.zb7 hb).cellsD cA;obtain⟨b',gA,rfl,r0,r1⟩:=(H2.out.zb7 hb).cellsD cA;by_cases he:f k=f' k/\g k=g' k
   ·have H:=zB he;rw[he.1]at q0;rw[he.2]at q1;clear he;go_wp2
    go_quiet (fail)
    go_wp2;go_roundw
    case rel=>
     refine⟨k+1,by omega,by go_num,?_,zBG hb _⟩;intro j hj;by_cases e:j=k
     ·subst e;exact H.out
     ·exact aA.out j (by omega)
    case measure=>simp[intOf];omega
   ·have H:=zB he;have e0:=zZM he;clear he;rcases e0 with e0 | ⟨e0,e1⟩
    all_goals
     go_wp2
     go_quiet (fail)
     go_wp2;go_ret;exact⟨zK.no fun h=>H.out (h.2 k cA),zBG hb _⟩
  ·obtain rfl:k=n:=(by omega);go_wp2;go_ret;exact⟨zK.yes ⟨rfl,aA.out⟩,hb⟩
theorem zJb(lo hi dA cA:Nat)(s t:zM)(pa qa:Option Addr)(pc qc:Nat)(w:World)(h1:zBq w lo hi (.int .i64 s.birth) (.slice pa s.kn pc) (.string s.data) s)(h2:zBq w dA cA (.int .i64 t.birth) (.slice qa t.kn qc) (.string t.data) t) :
  Calls Tryz.prog 93 #[.agg #[.int .i64 s.birth,.slice pa s.kn pc,.string s.data],.agg #[.int .i64 t.birth,.slice qa t.kn qc,.string t.data]] w fun e w'=>zK (zEn s t) e/\Below w.heap.size w w':=by
 have H1:=zB h1.2.1;have H2:=zB h2.2.1;clear h1 h2;have ha:=zD w (.cells #[.int .i64 s.birth,.slice pa s.kn pc,.string s.data] 58);have aA:=zD (w.alloc (.cells #[.int .i64 s.birth,.slice pa s.kn pc,.string s.data] 58)) (.cells #[.int .i64 t.birth,.slice qa t.kn qc,.string t.data] 58);have hA:=zA ha aA;obtain⟨⟨x0,-⟩,⟨x1,-⟩,⟨x2,-⟩⟩:=(zDP.new w (.int .i64 s.birth) (.slice pa s.kn pc) (.string s.data) 58).zb7 aA;have hy:=zDP.new (w.alloc (.cells #[.int .i64 s.birth,.slice pa s.kn pc,.string s.data] 58)) (.int .i64 t.birth) (.slice qa t.kn qc) (.string t.data) 58;rw[World.size_alloc]at hy;obtain⟨⟨y0,-⟩,⟨y1,-⟩,⟨y2,-⟩⟩:=hy;clear ha aA;by_cases e1:s.birth=t.birth;rotate_left
 ·have H:=zB e1;obtain⟨i1,i2,i3⟩:=zHa e1;go_enter Tryz.func93,Tryz.ntmps93;go_wp2;go_ret;exact⟨zK.no fun h=>H.out h.1,hA⟩
 have E1:=zB e1;obtain⟨i1,i2,i3⟩:=zJy e1;clear e1;by_cases e2:s.data=t.data;rotate_left
 ·have H:=zB e2;have i4:=zYC e2;clear e2;go_enter Tryz.func93,Tryz.ntmps93;go_wp2;go_ret;exact⟨zK.no fun h=>H.out h.2.2,hA⟩
 have E2:=zB e2;have i4:=zYB e2;clear e2;go_enter Tryz.func93,Tryz.ntmps93;go_wp2_with fail;refine(zR3 _ _ s.kn t.kn lo hi dA cA _ _ _ _ _ (H1.out.zb7 hA) (H2.out.zb7 hA)).mono ?_;rintro e w1 ⟨⟨r,rfl,hr⟩,bA⟩;have Hr:=zB hr;have eA:=zA hA bA;clear hr bA x0 x1 x2 y0 y1 y2 i1 i2 i3 i4 hA;go_wp2;go_ret;exact⟨⟨r,rfl,⟨fun h=>⟨E1.out,Hr.out.1 h,E2.out⟩,fun h=>Hr.out.2 h.2.1⟩⟩,eA⟩
theorem zJv(u0 u2 u3:Value)(ha:Option Addr)(hc:Nat)(W:zC)(hm:W.pool.hn<=maxLen)(w:World) :
  Calls Tryz.prog 53 #[.agg #[u0,.slice ha W.pool.hn hc,.int .i64 W.time,.int .i64 W.next,u2,u3]] w fun e w'=>zK (W.pool.hn=0) e/\Below w.heap.size w w':=by
 unfold maxLen at hm;have hA:=zD w (.cells #[u0,.slice ha W.pool.hn hc,.int .i64 W.time,.int .i64 W.next,u2,u3] 62);obtain⟨x0,x1,x2,x3,x4,x5⟩:=(zAC.new w u0 (.slice ha W.pool.hn hc) (.int .i64 W.time) (.int .i64 W.next) u2 u3 62).c;by_cases e:W.pool.hn=0
 ·have H:=zB e;obtain⟨i1,i2,i3⟩:=zJy (show(W.pool.hn:Int)=0 by omega);clear e;go_enter Tryz.func53,Tryz.ntmps53;go_wp2;go_ret;exact⟨⟨true,rfl,⟨fun _=>H.out,fun _=>rfl⟩⟩,hA⟩
 ·have H:=zB e;obtain⟨i1,i2,i3⟩:=zHa (show ¬(W.pool.hn:Int)=0 by omega);clear e;go_enter Tryz.func53,Tryz.ntmps53;go_wp2;go_ret;exact⟨⟨false,rfl,⟨fun h=>absurd h (by simp),fun h=>absurd h H.out⟩⟩,hA⟩
structure zRn (S:qC):Prop where
 many:S.zcB.pool.n=S.zcA.pool.n
 time:S.zcA.time<=S.zcB.time
 next:S.zcA.next<=S.zcB.next
 slots:∀i,i<S.zcA.pool.n->¬yh (S.zcA.pool.s i)->zEn (S.zcA.pool.s i) (S.zcB.pool.s i)
theorem zU3(v0 v1 v2 v3 u0 u1 u2 u3:Value)(lo hi:Nat)(S:qC)(w:World)(h:zCE w lo hi v0 v1 v2 v3 u0 u1 u2 u3 S) :
  Calls Tryz.prog 54 #[zBb v0 v1 v2 v3 S.zcB,zBb u0 u1 u2 u3 S.zcA] w fun e w'=>zK (zRn S) e/\Below w.heap.size w w':=by
 have Hp:=zB h;obtain⟨m1,la,lc,rfl,ml,-⟩:=id h.zcB.pool.1;obtain⟨m2,sa,sc,rfl,ms,-⟩:=id h.zcA.pool.1;obtain⟨m3,ha,hc,rfl,mh,-⟩:=id h.zcA.pool.2;unfold maxLen at m1 m2 m3;clear h;have dA:=zD w (.cells #[.slice la S.zcB.pool.n lc,v1,.int .i64 S.zcB.time,.int .i64 S.zcB.next,v2,v3] 61);have kA:=zD (w.alloc (.cells #[.slice la S.zcB.pool.n lc,v1,.int .i64 S.zcB.time,.int .i64 S.zcB.next,v2,v3] 61)) (.cells #[.slice sa S.zcA.pool.n sc,.slice ha S.zcA.pool.hn hc,.int .i64 S.zcA.time,.int .i64 S.zcA.next,u2,u3] 62);have hA:=zA dA kA;have HX:=zB ((zAC.new w (.slice la S.zcB.pool.n lc) v1 (.int .i64 S.zcB.time) (.int .i64 S.zcB.next) v2 v3 61).zb7 kA);have hy:=zAC.new (w.alloc (.cells #[.slice la S.zcB.pool.n lc,v1,.int .i64 S.zcB.time,.int .i64 S.zcB.next,v2,v3] 61)) (.slice sa S.zcA.pool.n sc) (.slice ha S.zcA.pool.hn hc) (.int .i64 S.zcA.time) (.int .i64 S.zcA.next) u2 u3 62;rw[World.size_alloc]at hy;have HY:=zB hy;clear hy dA kA;obtain⟨x0,x1,x2,x3,x4,x5⟩:=HX.out.c;obtain⟨y0,y1,y2,y3,y4,y5⟩:=HY.out.c;by_cases e1:S.zcB.pool.n=S.zcA.pool.n;rotate_left
 ·obtain⟨i1,i2,i3⟩:=zHa (show ¬(S.zcB.pool.n:Int)=(S.zcA.pool.n:Int)by omega);have H:=zB e1;clear e1;go_enter Tryz.func54,Tryz.ntmps54;go_wp2;go_ret;exact⟨zK.no fun h=>H.out h.many,hA⟩
 obtain⟨i1,i2,i3⟩:=zJy (show(S.zcB.pool.n:Int)=(S.zcA.pool.n:Int)by omega);have E1:=zB e1;clear e1;by_cases e3:S.zcB.time<S.zcA.time
 ·have H:=zB e3;go_enter Tryz.func54,Tryz.ntmps54;go_wp2;go_ret;exact⟨zK.no fun h=>by have:=h.time;have:=H.out;omega,hA⟩
 have E3:=zB (show S.zcA.time<=S.zcB.time by omega);by_cases e4:S.zcB.next<S.zcA.next
 ·have H:=zB e4;go_enter Tryz.func54,Tryz.ntmps54;go_wp2;go_ret;exact⟨zK.no fun h=>by have:=h.next;have:=H.out;omega,hA⟩
 have E4:=zB (show S.zcA.next<=S.zcB.next by omega);go_enter Tryz.func54,Tryz.ntmps54;go_wp2;clear x0 x1 x2 x3 x4 x5 y0 y1 y2 y3 y4 y5 i1 i2 i3 e3 e4
 go_loopw [41] (fun i wr=>∃k:Nat,k<=S.zcA.pool.n/\i = .int .i64 k/\(∀j,j<k->¬yh (S.zcA.pool.s j)->zEn (S.zcA.pool.s j) (S.zcB.pool.s j))/\zAC wr w.heap.size (.slice la S.zcB.pool.n lc) v1 (.int .i64 S.zcB.time) (.int .i64 S.zcB.next) v2 v3/\Below w.heap.size w wr) (fun i _=>S.zcA.pool.n - (intOf i).toNat)
 case atStart=>exact⟨0,Nat.zero_le _,rfl,fun j h=>absurd h (Nat.not_lt_zero _),HX.out,hA⟩
 case round=>
  obtain⟨k,hk,rfl,nA,hX,hb⟩:=hrel;have jA:=zB nA;have gB:=zB hX;clear nA hX;by_cases eB:k<S.zcA.pool.n
  ·have iB:(k:Int)<(S.zcA.pool.n:Int):=(by omega);have vA:k<S.zcB.pool.n:=(by have:=E1.out;omega);have jB:(k:Int)<(S.zcB.pool.n:Int):=(by omega);obtain⟨b,off,ka,kc,rfl,hs⟩:=(Hp.out.zcA.pool.1.zb7 hb).cells eB;obtain⟨b',bA,pa,pc,rfl,kB⟩:=(Hp.out.zcB.pool.1.zb7 hb).cells vA;obtain⟨q0,q1,q2,fB⟩:=hs;obtain⟨r0,r1,r2,oA⟩:=kB;have dA:=zD wr (.cells #[.int .i64 (S.zcA.pool.s k).birth,.slice ka (S.zcA.pool.s k).kn kc,.string (S.zcA.pool.s k).data] 58);have HV:=zB (zDP.new wr (.int .i64 (S.zcA.pool.s k).birth) (.slice ka (S.zcA.pool.s k).kn kc) (.string (S.zcA.pool.s k).data) 58);have eA:=zB (gB.out.zb7 dA);have lA:=zB (fB.zb7 dA);have iA:=zB (oA.zb7 dA);have rA:=zA hb dA;have R0:=(dA.cell (zH r0)).trans r0;have R1:=(dA.cell (zH r1)).trans r1;have R2:=(dA.cell (zH r2)).trans r2;clear fB oA r0 r1 r2;obtain⟨⟨z0,-⟩,⟨z1,-⟩,⟨z2,-⟩⟩:=HV.out;go_wp2_with fail;clear q0 q1 q2 dA;generalize wr.alloc (.cells #[.int .i64 (S.zcA.pool.s k).birth,.slice ka (S.zcA.pool.s k).kn kc,.string (S.zcA.pool.s k).data] 58)=W5 at HV eA lA iA rA R0 R1 R2 z0 z1 z2 ⊢;generalize wr.heap.size=V at HV z0 z1 z2 ⊢;obtain⟨x0,x1,x2,x3,x4,x5⟩:=eA.out.c;by_cases sA:yh (S.zcA.pool.s k)
   ·have mA:=zB sA;clear sA;refine wp_region_held_drew (S:=(fun w'=>w'.cell? ⟨w.heap.size,0,none⟩=some (.slice (some ⟨b',bA,none⟩) S.zcB.pool.n lc)/\w'.cell? ⟨w.heap.size,1,none⟩=some (v1)/\w'.cell? ⟨w.heap.size,2,none⟩=some (.int .i64 S.zcB.time)/\w'.cell? ⟨w.heap.size,3,none⟩=some (.int .i64 S.zcB.next)/\w'.cell? ⟨w.heap.size,4,none⟩=some (v2)/\w'.cell? ⟨w.heap.size,5,none⟩=some (v3)/\w'.cell? ⟨V,0,none⟩=some (.int .i64 (S.zcA.pool.s k).birth)/\w'.cell? ⟨V,1,none⟩=some (.slice ka (S.zcA.pool.s k).kn kc)/\w'.cell? ⟨V,2,none⟩=some (.string (S.zcA.pool.s k).data)/\w'.cell? ⟨b',bA+k*3,none⟩=some (.int .i64 (S.zcB.pool.s k).birth)/\w'.cell? ⟨b',bA+k*3+1,none⟩=some (.slice pa (S.zcB.pool.s k).kn pc)/\w'.cell? ⟨b',bA+k*3+2,none⟩=some (.string (S.zcB.pool.s k).data))) (by kernel_rfl) ?_ (fun hHeld=>?_)
    ·(try dsimp only)
     go_keep
    refine tk 0 (h:=?_);refine rd [1] (rc (fun K hK=>?_) .nil);go_simp;go_at_call 92;refine(zCp _ _ _ lo hi (S.zcA.pool.s k) _ ?_).mono ?_
    ·exact lA.out.zb7 (zBG (Below.refl _ _) 1)
    rintro e w6 ⟨⟨t6,rfl,gA⟩,fA⟩;obtain rfl:t6=true:=gA.2 mA.out;clear gA;have aA:Below W5.heap.size W5 w6:=(by first | exact fA | exact qY fA);obtain⟨m0,m1,m2,m3,m4,m5⟩:=(eA.out.zb7 aA).c;obtain⟨⟨Z0,-⟩,⟨Z1,-⟩,⟨Z2,-⟩⟩:=HV.out.zb7 aA;have aB:=(aA.cell (zH R0)).trans R0;have bB:=(aA.cell (zH R1)).trans R1;have cB:=(aA.cell (zH R2)).trans R2
    (try go_wp2_with fail)
    refine hK.out _ _ (by(try dsimp only);go_keep) ?_;clear hK K hHeld;intro hHeld
    try simp only[Act.put,s1,s2,s3]
    refine tk 2 (h:=tk 3 (h:=ts 4 (h:=ts 5 (h:=ts 6 (h:=ts 7 (h:=ts 8 (h:=ts 9 (h:=ts 10 (h:=ts 11 (h:=?_))))))))));refine rd [12] (rc (fun K hK=>?_) .nil);split
    ·rename_i lB
     exact absurd (show false=true from lB) Bool.false_ne_true
    refine hK.out _ _ (by assumption) (fun hHeld=>?_);clear hK K
    try simp only[Act.put,s1,s2,s3]
    refine ts 13 (h:=tk 14 (h:=?_));refine wpAnyH_done (by kernel_rfl) ?_ _;go_wp2;go_roundw
    case rel=>
     refine⟨k+1,by omega,by go_num,?_,eA.out.zb7 aA,zA rA aA⟩;intro j hj hn;by_cases e:j=k
     ·subst e;exact absurd mA.out hn
     ·exact jA.out j (by omega) hn
    case measure=>simp[intOf];omega
   ·have mA:=zB sA;clear sA;by_cases hq:zEn (S.zcA.pool.s k) (S.zcB.pool.s k)
    ·have Hq:=zB hq;clear hq;refine wp_region_held_drew (S:=(fun w'=>w'.cell? ⟨w.heap.size,0,none⟩=some (.slice (some ⟨b',bA,none⟩) S.zcB.pool.n lc)/\w'.cell? ⟨w.heap.size,1,none⟩=some (v1)/\w'.cell? ⟨w.heap.size,2,none⟩=some (.int .i64 S.zcB.time)/\w'.cell? ⟨w.heap.size,3,none⟩=some (.int .i64 S.zcB.next)/\w'.cell? ⟨w.heap.size,4,none⟩=some (v2)/\w'.cell? ⟨w.heap.size,5,none⟩=some (v3)/\w'.cell? ⟨V,0,none⟩=some (.int .i64 (S.zcA.pool.s k).birth)/\w'.cell? ⟨V,1,none⟩=some (.slice ka (S.zcA.pool.s k).kn kc)/\w'.cell? ⟨V,2,none⟩=some (.string (S.zcA.pool.s k).data)/\w'.cell? ⟨b',bA+k*3,none⟩=some (.int .i64 (S.zcB.pool.s k).birth)/\w'.cell? ⟨b',bA+k*3+1,none⟩=some (.slice pa (S.zcB.pool.s k).kn pc)/\w'.cell? ⟨b',bA+k*3+2,none⟩=some (.string (S.zcB.pool.s k).data))) (by kernel_rfl) ?_ (fun hHeld=>?_)
     ·(try dsimp only)
      go_keep
     refine tk 0 (h:=?_);refine rd [1] (rc (fun K hK=>?_) .nil);go_simp;go_at_call 92;refine(zCp _ _ _ lo hi (S.zcA.pool.s k) _ ?_).mono ?_
     ·exact lA.out.zb7 (zBG (Below.refl _ _) 1)
     rintro e w6 ⟨⟨t6,rfl,gA⟩,fA⟩;obtain rfl:t6=false:=zAG gA mA.out;clear gA;have aA:Below W5.heap.size W5 w6:=(by first | exact fA | exact qY fA);obtain⟨m0,m1,m2,m3,m4,m5⟩:=(eA.out.zb7 aA).c;obtain⟨⟨Z0,-⟩,⟨Z1,-⟩,⟨Z2,-⟩⟩:=HV.out.zb7 aA;have aB:=(aA.cell (zH R0)).trans R0;have bB:=(aA.cell (zH R1)).trans R1;have cB:=(aA.cell (zH R2)).trans R2
     (try go_wp2_with fail)
     refine hK.out _ _ (by(try dsimp only);go_keep) ?_;clear hK K hHeld;intro hHeld
     try simp only[Act.put,s1,s2,s3]
     refine tk 2 (h:=tk 3 (h:=tk 4 (h:=tk 5 (h:=tk 6 (h:=tk 7 (h:=tk 8 (h:=tk 9 (h:=tk 10 (h:=tk 11 (h:=?_))))))))));refine rd [12] (rc (fun K hK=>?_) .nil);go_simp;go_at_call 93;refine(zJb lo hi lo hi (S.zcA.pool.s k) (S.zcB.pool.s k) ka pa kc pc _ ?_ ?_).mono ?_
     ·exact lA.out.zb7 aA
     ·exact iA.out.zb7 aA
     rintro e w7 ⟨⟨t7,rfl,pA⟩,tA⟩;obtain rfl:t7=true:=pA.2 Hq.out;clear pA;have cA:=zA aA tA;obtain⟨n0,n1,n2,n3,n4,n5⟩:=(eA.out.zb7 cA).c;obtain⟨⟨y0,-⟩,⟨y1,-⟩,⟨y2,-⟩⟩:=HV.out.zb7 cA;have mB:=(cA.cell (zH R0)).trans R0;have nB:=(cA.cell (zH R1)).trans R1;have oB:=(cA.cell (zH R2)).trans R2
     (try go_wp2_with fail)
     refine hK.out _ _ (by(try dsimp only);go_keep) ?_;clear hK K hHeld;intro hHeld
     try simp only[Act.put,s1,s2,s3]
     refine tk 13 (h:=tk 14 (h:=?_));refine wpAnyH_done (by kernel_rfl) ?_ _;go_wp2;go_roundw
     case rel=>
      refine⟨k+1,by omega,by go_num,?_,eA.out.zb7 cA,zA rA cA⟩;intro j hj hn;by_cases e:j=k
      ·subst e;exact Hq.out
      ·exact jA.out j (by omega) hn
     case measure=>simp[intOf];omega
    ·have Hq:=zB hq;clear hq;refine wp_region_held_drew (S:=(fun w'=>w'.cell? ⟨w.heap.size,0,none⟩=some (.slice (some ⟨b',bA,none⟩) S.zcB.pool.n lc)/\w'.cell? ⟨w.heap.size,1,none⟩=some (v1)/\w'.cell? ⟨w.heap.size,2,none⟩=some (.int .i64 S.zcB.time)/\w'.cell? ⟨w.heap.size,3,none⟩=some (.int .i64 S.zcB.next)/\w'.cell? ⟨w.heap.size,4,none⟩=some (v2)/\w'.cell? ⟨w.heap.size,5,none⟩=some (v3)/\w'.cell? ⟨V,0,none⟩=some (.int .i64 (S.zcA.pool.s k).birth)/\w'.cell? ⟨V,1,none⟩=some (.slice ka (S.zcA.pool.s k).kn kc)/\w'.cell? ⟨V,2,none⟩=some (.string (S.zcA.pool.s k).data)/\w'.cell? ⟨b',bA+k*3,none⟩=some (.int .i64 (S.zcB.pool.s k).birth)/\w'.cell? ⟨b',bA+k*3+1,none⟩=some (.slice pa (S.zcB.pool.s k).kn pc)/\w'.cell? ⟨b',bA+k*3+2,none⟩=some (.string (S.zcB.pool.s k).data))) (by kernel_rfl) ?_ (fun hHeld=>?_)
     ·(try dsimp only)
      go_keep
     refine tk 0 (h:=?_);refine rd [1] (rc (fun K hK=>?_) .nil);go_simp;go_at_call 92;refine(zCp _ _ _ lo hi (S.zcA.pool.s k) _ ?_).mono ?_
     ·exact lA.out.zb7 (zBG (Below.refl _ _) 1)
     rintro e w6 ⟨⟨t6,rfl,gA⟩,fA⟩;obtain rfl:t6=false:=zAG gA mA.out;clear gA;have aA:Below W5.heap.size W5 w6:=(by first | exact fA | exact qY fA);obtain⟨m0,m1,m2,m3,m4,m5⟩:=(eA.out.zb7 aA).c;obtain⟨⟨Z0,-⟩,⟨Z1,-⟩,⟨Z2,-⟩⟩:=HV.out.zb7 aA;have aB:=(aA.cell (zH R0)).trans R0;have bB:=(aA.cell (zH R1)).trans R1;have cB:=(aA.cell (zH R2)).trans R2
     (try go_wp2_with fail)
     refine hK.out _ _ (by(try dsimp only);go_keep) ?_;clear hK K hHeld;intro hHeld
     try simp only[Act.put,s1,s2,s3]
     refine tk 2 (h:=tk 3 (h:=tk 4 (h:=tk 5 (h:=tk 6 (h:=tk 7 (h:=tk 8 (h:=tk 9 (h:=tk 10 (h:=tk 11 (h:=?_))))))))));refine rd [12] (rc (fun K hK=>?_) .nil);go_simp;go_at_call 93;refine(zJb lo hi lo hi (S.zcA.pool.s k) (S.zcB.pool.s k) ka pa kc pc _ ?_ ?_).mono ?_
     ·exact lA.out.zb7 aA
     ·exact iA.out.zb7 aA
     rintro e w7 ⟨⟨t7,rfl,pA⟩,tA⟩;obtain rfl:t7=false:=zAG pA Hq.out;clear pA;have cA:=zA aA tA;obtain⟨n0,n1,n2,n3,n4,n5⟩:=(eA.out.zb7 cA).c;obtain⟨⟨y0,-⟩,⟨y1,-⟩,⟨y2,-⟩⟩:=HV.out.zb7 cA;have mB:=(cA.cell (zH R0)).trans R0;have nB:=(cA.cell (zH R1)).trans R1;have oB:=(cA.cell (zH R2)).trans R2
     (try go_wp2_with fail)
     refine hK.out _ _ (by(try dsimp only);go_keep) ?_;clear hK K hHeld;intro hHeld
     try simp only[Act.put,s1,s2,s3]
     refine tk 13 (h:=tk 14 (h:=?_));refine wpAnyH_done (by kernel_rfl) ?_ _;go_wp2;go_ret;exact⟨zK.no fun h=>Hq.out (h.slots k eB mA.out),zA rA cA⟩
  ·obtain rfl:k=S.zcA.pool.n:=(by omega);go_wp2;go_ret;exact⟨zK.yes ⟨E1.out,E3.out,E4.out,jA.out⟩,hb⟩
theorem zSs(v0 v1 v2 v3 u0 u1 u2 u3:Value)(lo hi:Nat)(S:qC)(w:World)(h:zCE w lo hi v0 v1 v2 v3 u0 u1 u2 u3 S) :
  Calls Tryz.prog 30 #[zC6 v0 v1 v2 v3 u0 u1 u2 u3 S] w fun e w'=>e = .returned (zC6 v0 v1 v2 v3 u0 u1 u2 u3 S)/\Below w.heap.size w w':=by
 obtain⟨aA,jA,bA,kA,cA,lA,dA,mA,rfl,rfl,rfl,rfl⟩:=h.zcB.zcF;obtain⟨eA,nA,fA,oA,gA,pA,iA,rA,rfl,rfl,rfl,rfl⟩:=h.zcA.zcF;clear h;have ha:=zD w (.cells #[.slice aA S.zcB.pool.n jA,.slice bA S.zcB.pool.hn kA,.int .i64 S.zcB.time,.int .i64 S.zcB.next,.slice cA S.zcB.sn lA,.slice dA S.zcB.pn mA,.slice eA S.zcA.pool.n nA,.slice fA S.zcA.pool.hn oA,.int .i64 S.zcA.time,.int .i64 S.zcA.next,.slice gA S.zcA.sn pA,.slice iA S.zcA.pn rA] 32);have hb:=zD (w.alloc (.cells #[.slice aA S.zcB.pool.n jA,.slice bA S.zcB.pool.hn kA,.int .i64 S.zcB.time,.int .i64 S.zcB.next,.slice cA S.zcB.sn lA,.slice dA S.zcB.pn mA,.slice eA S.zcA.pool.n nA,.slice fA S.zcA.pool.hn oA,.int .i64 S.zcA.time,.int .i64 S.zcA.next,.slice gA S.zcA.sn pA,.slice iA S.zcA.pn rA] 32)) (.cells #[.slice aA S.zcB.pool.n jA,.slice bA S.zcB.pool.hn kA,.int .i64 S.zcB.time,.int .i64 S.zcB.next,.slice cA S.zcB.sn lA,.slice dA S.zcB.pn mA,.slice eA S.zcA.pool.n nA,.slice fA S.zcA.pool.hn oA,.int .i64 S.zcA.time,.int .i64 S.zcA.next,.slice gA S.zcA.sn pA,.slice iA S.zcA.pn rA] 64);obtain⟨x0,x1,x2,x3,x4,x5,x6,x7,x8,x9,sA,tA⟩:=(zCN.new w (.slice aA S.zcB.pool.n jA) (.slice bA S.zcB.pool.hn kA) (.int .i64 S.zcB.time) (.int .i64 S.zcB.next) (.slice cA S.zcB.sn lA) (.slice dA S.zcB.pn mA) (.slice eA S.zcA.pool.n nA) (.slice fA S.zcA.pool.hn oA) (.int .i64 S.zcA.time) (.int .i64 S.zcA.next) (.slice gA S.zcA.sn pA) (.slice iA S.zcA.pn rA) 32).c;have hy:=zCN.new (w.alloc (.cells #[.slice aA S.zcB.pool.n jA,.slice bA S.zcB.pool.hn kA,.int .i64 S.zcB.time,.int .i64 S.zcB.next,.slice cA S.zcB.sn lA,.slice dA S.zcB.pn mA,.slice eA S.zcA.pool.n nA,.slice fA S.zcA.pool.hn oA,.int .i64 S.zcA.time,.int .i64 S.zcA.next,.slice gA S.zcA.sn pA,.slice iA S.zcA.pn rA] 32)) (.slice aA S.zcB.pool.n jA) (.slice bA S.zcB.pool.hn kA) (.int .i64 S.zcB.time) (.int .i64 S.zcB.next) (.slice cA S.zcB.sn lA) (.slice dA S.zcB.pn mA) (.slice eA S.zcA.pool.n nA) (.slice fA S.zcA.pool.hn oA) (.int .i64 S.zcA.time) (.int .i64 S.zcA.next) (.slice gA S.zcA.sn pA) (.slice iA S.zcA.pn rA) 64;rw[World.size_alloc]at hy;have HR:=hy;clear hy;go_enter Tryz.func30,Tryz.ntmps30;go_wp2;refine bodyPost_ret (v:=.agg #[.slice aA S.zcB.pool.n jA,.slice bA S.zcB.pool.hn kA,.int .i64 S.zcB.time,.int .i64 S.zcB.next,.slice cA S.zcB.sn lA,.slice dA S.zcB.pn mA,.slice eA S.zcA.pool.n nA,.slice fA S.zcA.pool.hn oA,.int .i64 S.zcA.time,.int .i64 S.zcA.next,.slice gA S.zcA.sn pA,.slice iA S.zcA.pn rA]) (by simp[results,Tryz.results30,go_sem,HR.1.1,HR.2.1.1,HR.2.2.1.1,HR.2.2.2.1.1,HR.2.2.2.2.1.1,HR.2.2.2.2.2.1.1,HR.2.2.2.2.2.2.1.1,HR.2.2.2.2.2.2.2.1.1,HR.2.2.2.2.2.2.2.2.1.1,HR.2.2.2.2.2.2.2.2.2.1.1,HR.2.2.2.2.2.2.2.2.2.2.1.1,HR.2.2.2.2.2.2.2.2.2.2.2.1]) rfl ⟨rfl,?_⟩;exact zA ha hb
theorem zNI(v0 v1 v2 v3:Value)(lo hi:Nat)(W:zC)(w:World)(h:yQ w lo hi v0 v1 v2 v3 W)(bA:zB1 W) :
    Calls Tryz.prog 52 #[zBb v0 v1 v2 v3 W] w fun e w'=>zK (zFE W) e/\Below w.heap.size w w':=by
  have Hp:=zB h;have cA:=zB bA;clear h bA;have ha:=zD w (.cells #[v0,v1,.int .i64 W.time,.int .i64 W.next,v2,v3] 30);obtain⟨x0,x1,x2,x3,x4,x5⟩:=(zAC.new w v0 v1 (.int .i64 W.time) (.int .i64 W.next) v2 v3 30).c;go_enter Tryz.func52,Tryz.ntmps52;go_wp2_with fail;refine(zIV v0 v1 v2 v3 lo hi W _ (Hp.out.zb7 ha) cA.out).mono ?_;rintro e w1 ⟨⟨t,rfl,ht⟩,aA⟩;have Ht:=zB ht;have hB:=zA ha aA;clear ht aA ha x0 x1 x2 x3 x4 x5;go_wp2;go_ret;exact⟨⟨t,rfl,Ht.out⟩,hB⟩
structure zBA (S:qC):Prop where
  zcB:zFE S.zcB
  zcA:zFE S.zcA
  held:S.zcA.pool.hn=0
  keeps:zRn S
theorem zOf(S:qC):zBA S↔zDF S:=
  ⟨fun h=>⟨(zHn _).1 h.zcB,(zHn _).1 h.zcA,h.keeps.many,h.held,h.keeps.time,h.keeps.next,h.keeps.slots⟩,
   fun h=>⟨(zHn _).2 h.zcB,(zHn _).2 h.zcA,h.held,h.many,h.time,h.next,h.slots⟩⟩
theorem zH3(v0 v1 v2 v3 u0 u1 u2 u3:Value)(lo hi:Nat)(S:qC)(w:World)(h:zCE w lo hi v0 v1 v2 v3 u0 u1 u2 u3 S)(oA:zB1 S.zcB)(pA:zB1 S.zcA) :
    Calls Tryz.prog 31 #[zC6 v0 v1 v2 v3 u0 u1 u2 u3 S] w fun e w'=>zK (zBA S) e/\Below w.heap.size w w':=by
  have Hp:=zB h;have rA:=zB oA;have sA:=zB pA;obtain⟨m3,ha,hc,rfl,mh,-⟩:=id h.zcA.pool.2;clear h oA pA;have eA:=zD w (.cells #[v0,v1,.int .i64 S.zcB.time,.int .i64 S.zcB.next,v2,v3,u0,.slice ha S.zcA.pool.hn hc,.int .i64 S.zcA.time,.int .i64 S.zcA.next,u2,u3] 64);have HX:=zB (zCN.new w v0 v1 (.int .i64 S.zcB.time) (.int .i64 S.zcB.next) v2 v3 u0 (.slice ha S.zcA.pool.hn hc) (.int .i64 S.zcA.time) (.int .i64 S.zcA.next) u2 u3 64);obtain⟨x0,x1,x2,x3,x4,x5,x6,x7,x8,x9,aA,bA⟩:=HX.out.c;go_enter Tryz.func31,Tryz.ntmps31;go_wp2_with fail;generalize w.alloc (.cells #[v0,v1,.int .i64 S.zcB.time,.int .i64 S.zcB.next,v2,v3,u0,.slice ha S.zcA.pool.hn hc,.int .i64 S.zcA.time,.int .i64 S.zcA.next,u2,u3] 64)=W0 at eA HX x0 x1 x2 x3 x4 x5 x6 x7 x8 x9 aA bA ⊢;refine(zNI _ _ _ _ lo hi S.zcB W0 (Hp.out.zcB.zb7 eA) rA.out).mono ?_;rintro e w1 ⟨⟨t,rfl,ht⟩,jA⟩;have Ht:=zB ht;have cA:=zA eA jA;have fA:=zB (HX.out.zb7 jA);clear ht x0 x1 x2 x3 x4 x5 x6 x7 x8 x9 aA bA jA eA HX;obtain⟨x0,x1,x2,x3,x4,x5,x6,x7,x8,x9,aA,bA⟩:=fA.out.c;cases t
  · go_wp2
    go_ret;exact⟨zK.no fun h=>absurd (Ht.out.2 h.zcB) (by simp),cA⟩
  have HL:=zB (Ht.out.1 rfl);clear Ht;go_wp2_with fail;refine(zNI _ _ _ _ lo hi S.zcA w1 (Hp.out.zcA.zb7 cA) sA.out).mono ?_;rintro e w2 ⟨⟨t,rfl,ht⟩,kA⟩;have Ht:=zB ht;have iA:=zA cA kA;have gA:=zB (fA.out.zb7 kA);clear ht x0 x1 x2 x3 x4 x5 x6 x7 x8 x9 aA bA kA cA fA;obtain⟨x0,x1,x2,x3,x4,x5,x6,x7,x8,x9,aA,bA⟩:=gA.out.c;cases t
  · go_wp2
    go_ret;exact⟨zK.no fun h=>absurd (Ht.out.2 h.zcA) (by simp),iA⟩
  have HF:=zB (Ht.out.1 rfl);clear Ht;go_wp2_with fail;refine(zJv u0 u2 u3 ha hc S.zcA m3 w2).mono ?_;rintro e w3 ⟨⟨t,rfl,ht⟩,lA⟩;have Ht:=zB ht;have dA:=zA iA lA;have mA:=zB (gA.out.zb7 lA);clear ht x0 x1 x2 x3 x4 x5 x6 x7 x8 x9 aA bA lA iA gA;obtain⟨x0,x1,x2,x3,x4,x5,x6,x7,x8,x9,aA,bA⟩:=mA.out.c;cases t
  · go_wp2
    go_ret;exact⟨zK.no fun h=>absurd (Ht.out.2 h.held) (by simp),dA⟩
  have HH:=zB (Ht.out.1 rfl);clear Ht;go_wp2_with fail;refine(zU3 v0 v1 v2 v3 u0 _ u2 u3 lo hi S w3 (Hp.out.zb7 dA)).mono ?_;rintro e w4 ⟨⟨t,rfl,ht⟩,nA⟩;have Ht:=zB ht;have tA:=zA dA nA;clear ht x0 x1 x2 x3 x4 x5 x6 x7 x8 x9 aA bA nA dA mA;go_wp2;go_ret;exact⟨⟨t,rfl,⟨fun h=>⟨HL.out,HF.out,HH.out,Ht.out.1 h⟩,fun h=>Ht.out.2 h.keeps⟩⟩,tA⟩
end Go.Proofs.YtbplmbafodlboaaGreatDoor
