/- What the laws' measuring of lists of sets and snapshots and of worlds answers (no law is proved here). -/
import Derived.Test.YtmgeglgboadfiaaGreatDoorT33
set_option linter.unusedVariables false
set_option maxRecDepth 20000
set_option maxHeartbeats 4000000
namespace Go.Proofs.YtmgeglgboadfiaaGreatDoor
open Go.RowKit Go.Maps
theorem zMW(v:Value)(n lo hi:Nat)(f:Nat->qC)(left:Int)(w:World)(h1:yZ w lo hi v n f)(fA:0<=left)(eA:left<=1048576) :
  Calls Tryz.prog 23 #[v,.int .i64 left] w fun e w'=>zC6(n+zBM f n) left e/\Below w.heap.size w w':=by
 have H1:=zB h1;obtain⟨m1,a,c,rfl,mc,-⟩:=id h1;unfold maxLen at m1;clear h1;by_cases h:left - (n:Int)<0
 ·go_enter Tryz.func23,Tryz.ntmps23;go_wp2;go_ret;exact⟨⟨-1,rfl,by omega,by omega,by omega⟩,Below.refl _ _⟩
 ·go_enter Tryz.func23,Tryz.ntmps23;go_wp2
  go_loopw [1,5](fun m i wr=>∃(k:Nat)(r:Int),k<=n/\i = .int .i64 k/\m = .int .i64 r/\0<=r/\r+n+zBM f k=left/\Below w.heap.size w wr)(fun _ i _=>n - (intOf i).toNat)
  case atStart=>exact⟨0,_,Nat.zero_le _,rfl,rfl,by omega,by simp [zBM],Below.refl _ _⟩
  case round=>
   obtain⟨k,r,hk,rfl,rfl,hr0,hr,hb⟩:=hrel;have bA:r<=left:=(by omega);have Hr:=zB hr;clear hr;by_cases cA:k<n
   ·have dA:(k:Int)<(n:Int):=(by omega);obtain⟨b,off,vd,rfl,hs2⟩:=(H1.out.zRJ hb).cells cA;obtain⟨-,ad,cd,rfl,-,-⟩:=id hs2.zRX;have q0:=hs2.c0;have q1:=hs2.c1;have q2:=hs2.c2;have q3:=hs2.c3;have q4:=hs2.c4;have q5:=hs2.c5;have Hs:=zB hs2;clear hs2;go_wp2_with fail;refine(zOW _ lo hi(f k) _ _ Hs.out.zRX Hs.out.zRZ hr0(by omega)).mono ?_;rintro e w1 ⟨⟨r',rfl,hq1,hq2,hq3⟩,hb1⟩;have aA:=zA hb hb1;have Hq:=zB hq1;clear hq1 hb1 q0 q1 q2 q3 q4 q5;by_cases h3:r'<0
    ·go_wp2;go_ret;exact⟨⟨-1,rfl,by omega,by omega,by omega⟩,aA⟩
    ·go_wp2;go_roundw
     case rel=>
      refine⟨k+1,r',by omega,by go_num,rfl,by omega,?_,aA⟩;have e1:=Hq.out(by omega);have e2:=Hr.out;show r'+(n:Int)+((zBM f k+zEo(f k):Nat):Int)=left;omega
     case measure=>simp [intOf];omega
   ·obtain rfl:k=n:=(by omega);go_wp2;go_ret;exact⟨⟨r,rfl,fun _=>by have:=Hr.out;omega,bA,by omega⟩,hb⟩
theorem zLG(v:Value)(n lo hi:Nat)(f:Nat->zm)(left:Int)(w:World)(h1:qz w lo hi v n f)(fA:0<=left)(eA:left<=1048576) :
  Calls Tryz.prog 24 #[v,.int .i64 left] w fun e w'=>zC6(n+zAx f n) left e/\Below w.heap.size w w':=by
 have H1:=zB h1;obtain⟨m1,a,c,rfl,mc,-⟩:=id h1;unfold maxLen at m1;clear h1;by_cases h:left - (n:Int)<0
 ·go_enter Tryz.func24,Tryz.ntmps24;go_wp2;go_ret;exact⟨⟨-1,rfl,by omega,by omega,by omega⟩,Below.refl _ _⟩
 ·go_enter Tryz.func24,Tryz.ntmps24;go_wp2
  go_loopw [1,5](fun m i wr=>∃(k:Nat)(r:Int),k<=n/\i = .int .i64 k/\m = .int .i64 r/\0<=r/\r+n+zAx f k=left/\Below w.heap.size w wr)(fun _ i _=>n - (intOf i).toNat)
  case atStart=>exact⟨0,_,Nat.zero_le _,rfl,rfl,by omega,by simp [zAx],Below.refl _ _⟩
  case round=>
   obtain⟨k,r,hk,rfl,rfl,hr0,hr,hb⟩:=hrel;have bA:r<=left:=(by omega);have Hr:=zB hr;clear hr;by_cases cA:k<n
   ·have dA:(k:Int)<(n:Int):=(by omega);obtain⟨b,off,vd,rfl,hs2⟩:=(H1.out.zRJ hb).cells cA;obtain⟨-,ad,cd,rfl,-,-⟩:=id hs2.zRX;have q0:=hs2.c0;have q1:=hs2.c1;have q2:=hs2.c2;have q3:=hs2.c3;have q4:=hs2.c4;have q5:=hs2.c5;have q6:=hs2.c6;have q7:=hs2.c7;have Hs:=zB hs2;clear hs2;go_wp2_with fail;refine(zMw _ lo hi(f k) _ _ Hs.out.zRX Hs.out.zRZ.1 Hs.out.zRZ.2 hr0(by omega)).mono ?_;rintro e w1 ⟨⟨r',rfl,hq1,hq2,hq3⟩,hb1⟩;have aA:=zA hb hb1;have Hq:=zB hq1;clear hq1 hb1 q0 q1 q2 q3 q4 q5 q6 q7;by_cases h3:r'<0
    ·go_wp2;go_ret;exact⟨⟨-1,rfl,by omega,by omega,by omega⟩,aA⟩
    ·go_wp2;go_roundw
     case rel=>
      refine⟨k+1,r',by omega,by go_num,rfl,by omega,?_,aA⟩;have e1:=Hq.out(by omega);have e2:=Hr.out;show r'+(n:Int)+((zAx f k+zDs(f k):Nat):Int)=left;omega
     case measure=>simp [intOf];omega
   ·obtain rfl:k=n:=(by omega);go_wp2;go_ret;exact⟨⟨r,rfl,fun _=>by have:=Hr.out;omega,bA,by omega⟩,hb⟩
theorem zLt(v0 v1 v2 v3:Value)(lo hi:Nat)(W:zH)(left:Int)(w:World)(h1:zl w lo hi v0 v1 v2 v3 W)(gA:0<=left)(fA:left<=1048576) :
  Calls Tryz.prog 7 #[zz v0 v1 v2 v3 W,.int .i64 left] w fun e w'=>zC6(yd W) left e/\Below w.heap.size w w':=by
 have H1:=zB h1;clear h1;have ha:=zC w(.cells #[v0,v1,.int .i64 W.time,.int .i64 W.next,v2,v3] 29);have HX:=zB(zi.zRL w v0 v1(.int .i64 W.time)(.int .i64 W.next) v2 v3 29);go_enter Tryz.func7,Tryz.ntmps7;go_wp2_with fail;refine(zML _ _ lo hi W.zRQ _ _(H1.out.zRJ ha).zRQ gA fA).mono ?_;rintro e w1 ⟨⟨r,rfl,hr1,hr2,hr3⟩,hb1⟩;have aA:=zA ha hb1;have cA:=zB(HX.out.zRJ hb1);have Hr:=zB hr1;clear hr1 hb1 ha HX;obtain⟨⟨x0,-⟩,⟨x1,-⟩,⟨x2,-⟩,⟨x3,-⟩,⟨x4,-⟩,⟨x5,-⟩⟩:=cA.out;by_cases h:r<0
 ·go_wp2;go_ret;exact⟨⟨-1,rfl,by omega,by omega,by omega⟩,aA⟩
 ·go_wp2_with fail;refine(zMW _ W.sn lo hi _ _ _(H1.out.zRJ aA).zRS(by omega)(by omega)).mono ?_;rintro e w2 ⟨⟨r',rfl,hq1,hq2,hq3⟩,hb2⟩;have bA:=zA aA hb2;have eA:=zB(cA.out.zRJ hb2);have Hq:=zB hq1;clear hq1 hb2 x0 x1 x2 x3 x4 x5;obtain⟨⟨x0,-⟩,⟨x1,-⟩,⟨x2,-⟩,⟨x3,-⟩,⟨x4,-⟩,⟨x5,-⟩⟩:=eA.out;by_cases h3:r'<0
  ·go_wp2;go_ret;exact⟨⟨-1,rfl,by omega,by omega,by omega⟩,bA⟩
  ·go_wp2_with fail;refine(zLG _ W.pn lo hi _ _ _(H1.out.zRJ bA).zRP(by omega)(by omega)).mono ?_;rintro e w3 ⟨⟨r2,rfl,hs1,hs2,hs3⟩,hb3⟩;have dA:=zA bA hb3;have Hs:=zB hs1;clear hs1 hb3;by_cases h4:r2<0
   ·go_wp2;go_ret;exact⟨⟨-1,rfl,by omega,by omega,by omega⟩,dA⟩
   ·go_wp2;go_ret;refine⟨⟨r2,rfl,fun _=>?_,by omega,by omega⟩,dA⟩;have e1:=Hq.out(by omega);have e2:=Hr.out(by omega);have e3:=Hs.out(by omega);unfold yd;omega
end Go.Proofs.YtmgeglgboadfiaaGreatDoor
