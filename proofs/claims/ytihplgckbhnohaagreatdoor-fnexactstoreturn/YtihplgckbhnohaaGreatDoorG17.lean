/- What spec.l04Chains answers. -/
import Derived.Test.YtihplgckbhnohaaGreatDoorG16
import Derived.Deep.RegionHeld3
import Derived.BigQuiet
namespace Go.Proofs.YtihplgckbhnohaaGreatDoor
open Go.RowKit Go.Maps
set_option linter.unusedVariables false
set_option maxRecDepth 20000 in
set_option maxHeartbeats 4000000 in
theorem l04Chains_any(v0 v1 v2 v3:Value)(lo hi:Nat)(W:WorldD)(w:World)(h:WorldAt w lo hi v0 v1 v2 v3 W)(hP:PrevOk W)(hs:W.sn≤8)(hp:W.pn≤20) :
  Calls Tryz.prog 68 #[worldV v0 v1 v2 v3 W] w fun e w'=>BoolIs(∀i,i<W.sn→LineOk W(W.sets i).name(W.sets i).prev(W.sets i).origin)e∧Below w.heap.size w w':=by
 have Hp:=hideW h
 have HP:=hideW hP
 obtain⟨m1,a,c,rfl,mc,-⟩:=id h.snaps
 obtain⟨m2,a',c',rfl,mc',-⟩:=id h.sets
 unfold maxLen at m1 m2
 clear h hP
 have ha:=below_alloc w(.cells #[v0,v1,.int .i64 W.time,.int .i64 W.next,.slice a' W.sn c',.slice a W.pn c] 39)
 have HB:=hideW(Box6.new w v0 v1(.int .i64 W.time)(.int .i64 W.next)(.slice a' W.sn c')(.slice a W.pn c)39)
 go_enter Tryz.func68,Tryz.ntmps68
 go_wp2
 go_loopw [3](fun i wr=>∃k:Nat,k≤W.sn∧i = .int .i64 k∧(∀j,j<k→LineOk W(W.sets j).name(W.sets j).prev(W.sets j).origin)∧Box6 wr w.heap.size v0 v1(.int .i64 W.time)(.int .i64 W.next)(.slice a' W.sn c')(.slice a W.pn c)∧Below w.heap.size w wr)(fun i _=>W.sn - (intOf i).toNat)
 case atStart=>exact⟨0,Nat.zero_le _,rfl,fun j hj=>absurd hj(Nat.not_lt_zero _),HB.out,ha⟩
 case round=>
  obtain⟨k,hk,rfl,hall,hX,hb⟩:=hrel
  have Hall:=hideW hall
  have HX:=hideW hX
  clear hall hX ha HB
  obtain⟨⟨x0,-⟩,⟨x2,-⟩,⟨x4,-⟩,⟨x6,-⟩,⟨x8,-⟩,⟨x10,-⟩⟩:=HX.out
  by_cases hlt:k<W.sn
  rotate_left
  ·obtain rfl:k=W.sn:=by omega
   go_wp2
   go_ret
   exact⟨BoolIs.yes Hall.out,hb⟩
  have hlt':(k:Int)<(W.sn:Int):=by omega
  obtain⟨b,off,vd,rfl,-⟩:=(Hp.out.sets.below hb).cells hlt
  go_wp2
  clear x0 x2 x4 x6 x8 x10
  go_loopw [5,6](fun o i wr=>∃j:Nat,j≤W.pn∧i = .int .i64 j∧o = .int .i64(ownN W(W.sets k).name j)∧Box6 wr w.heap.size v0 v1(.int .i64 W.time)(.int .i64 W.next)(.slice(some⟨b,off,none⟩)W.sn c')(.slice a W.pn c)∧Below w.heap.size w wr)(fun _ i _=>W.pn - (intOf i).toNat)
  case atStart=>exact⟨0,Nat.zero_le _,rfl,rfl,HX.out,hb⟩
  case round=>
   clear HX hb
   obtain⟨j,hj,rfl,rfl,hX,hb⟩:=hrel
   have HX:=hideW hX
   clear hX
   obtain⟨⟨x0,-⟩,⟨x2,-⟩,⟨x4,-⟩,⟨x6,-⟩,⟨x8,-⟩,⟨x10,-⟩⟩:=HX.out
   obtain⟨b',off',vd',e',hsk⟩:=(Hp.out.sets.below hb).cells hlt
   cases e'
   have n0:=hsk.c0
   have n1:=hsk.c1
   have n2:=hsk.c2
   clear hsk
   have hol:=ownN_le W(W.sets k).name j
   by_cases hjt:j<W.pn
   ·have hjt':(j:Int)<(W.pn:Int):=by omega
    obtain⟨b2,off2,vd2,rfl,hs2⟩:=(Hp.out.snaps.below hb).cells hjt
    have q2:=hs2.c2
    clear hs2
    have hbo:((ownN W(W.sets k).name j:Nat):Int)<1000:=by omega
    by_cases he:(W.snaps j).set=(W.sets k).name
    ·have f1:=str_eq he
     have H1:=hideW(ownN_yes he)
     clear he
     go_wp2
     go_quiet(fail)
     go_wp2
     go_roundw
     case rel=>exact⟨j+1,by omega,by go_num,by rw [H1.out]; go_num,HX.out.below(below_drewN(Below.refl _ _)_),below_drewN hb _⟩
     case measure=>simp [intOf]; omega
    ·have f1:=str_ne he
     have H1:=hideW(ownN_no he)
     clear he
     go_wp2
     go_quiet(fail)
     go_wp2
     go_roundw
     case rel=>exact⟨j+1,by omega,by go_num,by rw [H1.out],HX.out.below(below_drewN(Below.refl _ _)_),below_drewN hb _⟩
     case measure=>simp [intOf]; omega
   ·obtain rfl:j=W.pn:=by omega
    go_wp2
    clear x0 x2 x4 x6 x8 x10 n0 n1 n2
    go_loopw [4,7](fun i x wr=>∃(n:Nat)(y:Int),i = .int .i64 n∧x = .int .i64 y∧WalkAt W(W.sets k).name(W.sets k).prev n y∧Box6 wr w.heap.size v0 v1(.int .i64 W.time)(.int .i64 W.next)(.slice(some⟨b,off,none⟩)W.sn c')(.slice a W.pn c)∧Below w.heap.size w wr)(fun _ x _=>(intOf x).toNat)
    case atStart=>exact⟨0,_,rfl,rfl,WalkAt.start HP.out _(HP.out.sets k hlt),HX.out,hb⟩
    case round=>
     clear HX hb
     obtain⟨n,y,rfl,rfl,hw,hX,hb⟩:=hrel
     have HX:=hideW hX
     have Hw:=hideW hw
     have hsum:=hw.sum
     have hle:=hw.least
     clear hX hw
     obtain⟨⟨x0,-⟩,⟨x2,-⟩,⟨x4,-⟩,⟨x6,-⟩,⟨x8,-⟩,⟨x10,-⟩⟩:=HX.out
     obtain⟨b',off',vd',e',hsk⟩:=(Hp.out.sets.below hb).cells hlt
     cases e'
     have n0:=hsk.c0
     have n1:=hsk.c1
     clear hsk
     by_cases hz:y=0
     ·have Hno:=hideW(show ¬OwnAt W(W.sets k).name y by rw [hz]; exact not_own_zero HP.out _)
      have hzb:(y == 0)=true:=by simp [hz]
      have hzc:decide(y=0)=true:=by simp [hz]
      have hzd:(y != 0)=false:=by simp [hz]
      clear hz
      go_wp2_with fail
      go_quiet(fail)
      clear hzb hzc hzd
      have HXe:=hideW HX.out
      clear x0 x2 x4 x6 x8 x10
      obtain⟨⟨e0,-⟩,⟨e2,-⟩,⟨e4,-⟩,⟨e6,-⟩,⟨e8,-⟩,⟨e10,-⟩⟩:=HXe.out
      by_cases h1:n=ownN W(W.sets k).name W.pn
      ·by_cases h2:y=(W.sets k).origin
       ·have Hl:=hideW((line_iff(origin:=(W.sets k).origin)Hw.out.steps Hno.out).2⟨h1,h2⟩)
        have g1:((n:Int) == (ownN W(W.sets k).name W.pn:Int))=true:=by simp [h1]
        have g2:((n:Int) != (ownN W(W.sets k).name W.pn:Int))=false:=by simp [h1]
        have g3:decide((n:Int)=(ownN W(W.sets k).name W.pn:Int))=true:=by simp [h1]
        have g4:(y == (W.sets k).origin)=true:=by simp [h2]
        have g5:(y != (W.sets k).origin)=false:=by simp [h2]
        have g6:decide(y=(W.sets k).origin)=true:=by simp [h2]
        clear h1 h2
        go_wp2
        go_roundw
        case rel=>exact⟨k+1,by omega,by go_num,relNext hlt Hall.out Hl.out,HX.out.below(below_drewN(Below.refl _ _)_),below_drewN hb _⟩
        case measure=>simp [intOf]; omega
       ·have Hl:=hideW(show ¬LineOk W(W.sets k).name(W.sets k).prev(W.sets k).origin from fun h=>h2((line_iff Hw.out.steps Hno.out).1 h).2)
        have g1:((n:Int) == (ownN W(W.sets k).name W.pn:Int))=true:=by simp [h1]
        have g2:((n:Int) != (ownN W(W.sets k).name W.pn:Int))=false:=by simp [h1]
        have g3:decide((n:Int)=(ownN W(W.sets k).name W.pn:Int))=true:=by simp [h1]
        have g4:(y == (W.sets k).origin)=false:=by simp [h2]
        have g5:(y != (W.sets k).origin)=true:=by simp [h2]
        have g6:decide(y=(W.sets k).origin)=false:=by simp [h2]
        clear h1 h2
        go_wp2
        go_ret
        exact⟨BoolIs.no fun hA=>Hl.out(hA k hlt),below_drewN hb _⟩
      ·have Hl:=hideW(show ¬LineOk W(W.sets k).name(W.sets k).prev(W.sets k).origin from fun h=>h1((line_iff Hw.out.steps Hno.out).1 h).1)
       have h3:¬(n:Int)=(ownN W(W.sets k).name W.pn:Int):=by omega
       have g1:((n:Int) == (ownN W(W.sets k).name W.pn:Int))=false:=by simp [h3]
       have g2:((n:Int) != (ownN W(W.sets k).name W.pn:Int))=true:=by simp [h3]
       have g3:decide((n:Int)=(ownN W(W.sets k).name W.pn:Int))=false:=by simp [h3]
       clear h1 h3
       go_wp2
       go_ret
       exact⟨BoolIs.no fun hA=>Hl.out(hA k hlt),below_drewN hb _⟩
     ·obtain⟨kk,hkk⟩:=(Hw.out.there.resolve_left hz).no
      have Hkk:=hideW hkk
      have hkl:kk<W.pn:=hkk.1
      have hkl':(kk:Int)<(W.pn:Int):=by omega
      have hpos:=(HP.out.ids kk hkl).1
      have hyid:=hkk.2.1
      have hy1:1≤y:=by omega
      have hless:=HP.out.less kk hkl
      have Hle:=hideW(show(W.snaps kk).prev<y by omega)
      clear hkk hpos hyid hless
      have hzb:(y == 0)=false:=by simp [hz]
      have hzc:decide(y=0)=false:=by simp [hz]
      have hzd:(y != 0)=true:=by simp [hz]
      clear hz
      obtain⟨b2,off2,vd2,rfl,hs2⟩:=(Hp.out.snaps.below hb).cells hkl
      have q2:=hs2.c2
      have q3:=hs2.c3
      clear hs2
      by_cases he:(W.snaps kk).set=(W.sets k).name
      ·have Hnx:=hideW(Hw.out.next HP.out Hkk.out he)
       rw [he] at q2
       clear he
       go_wp2_with fail
       go_region_held3(fun w'=>w'.cell?⟨w.heap.size,0,none⟩=some v0∧w'.cell?⟨w.heap.size,1,none⟩=some v1∧w'.cell?⟨w.heap.size,2,none⟩=some(.int .i64 W.time)∧w'.cell?⟨w.heap.size,3,none⟩=some(.int .i64 W.next)∧w'.cell?⟨w.heap.size,4,none⟩=some(.slice(some⟨b,off,none⟩)W.sn c')∧w'.cell?⟨w.heap.size,5,none⟩=some(.slice(some⟨b2,off2,none⟩)W.pn c)∧w'.cell?⟨b2,off2+kk*8+2,none⟩=some(.string(W.sets k).name)∧w'.cell?⟨b,off+k*6,none⟩=some(.string(W.sets k).name))(go_keep)
        (first | (go_at_call 95; refine(l04Snap_any v0 v1 _ _ lo hi W y _ ?_).mono ?_; (exact(Hp.out.below hb).below(Below.refl _ _).drew); rintro e w6⟨r,rfl,hF,hb6⟩; obtain rfl:=first_no Hkk.out hF; obtain⟨⟨y0,_⟩,⟨y1,_⟩,⟨y2,_⟩,⟨y3,_⟩,⟨y4,_⟩,⟨y5,_⟩⟩:=HX.out.below(below_undrew hb6); have z2:=(hb6.cell(p:=⟨b2,off2+kk*8+2,none⟩)(lt_of_cell q2)).trans q2; have z0:=(hb6.cell(p:=⟨b,off+k*6,none⟩)(lt_of_cell n0)).trans n0))
       have HXe:=hideW(HX.out.below(below_undrew hb6))
       have hbe:=below_call hb hb6
       have z3:=(hb6.cell(p:=⟨b2,off2+kk*8+3,none⟩)(lt_of_cell q3)).trans q3
       have z1:=(hb6.cell(p:=⟨b,off+k*6+1,none⟩)(lt_of_cell n1)).trans n1
       clear hb6 HX hb hF y0 y1 y2 y3 y4 y5 x0 x2 x4 x6 x8 x10 q2 q3 n0 n1 hzb hzc hzd
       have hnb:(n:Int)<1000000:=by omega
       obtain⟨⟨e0,-⟩,⟨e2,-⟩,⟨e4,-⟩,⟨e6,-⟩,⟨e8,-⟩,⟨e10,-⟩⟩:=HXe.out
       go_wp2_with fail
       go_region_held3(fun w'=>w'.cell?⟨w.heap.size,0,none⟩=some v0∧w'.cell?⟨w.heap.size,1,none⟩=some v1∧w'.cell?⟨w.heap.size,2,none⟩=some(.int .i64 W.time)∧w'.cell?⟨w.heap.size,3,none⟩=some(.int .i64 W.next)∧w'.cell?⟨w.heap.size,4,none⟩=some(.slice(some⟨b,off,none⟩)W.sn c')∧w'.cell?⟨w.heap.size,5,none⟩=some(.slice(some⟨b2,off2,none⟩)W.pn c)∧w'.cell?⟨b2,off2+kk*8+3,none⟩=some(.int .i64(W.snaps kk).prev))(go_keep)
        (first | (go_at_call 95; refine(l04Snap_any v0 v1 _ _ lo hi W y _ ?_).mono ?_; (exact(Hp.out.below hbe).below(Below.refl _ _).drew); rintro e w7⟨r,rfl,hF,hb7⟩; obtain rfl:=first_no Hkk.out hF; obtain⟨⟨y0,_⟩,⟨y1,_⟩,⟨y2,_⟩,⟨y3,_⟩,⟨y4,_⟩,⟨y5,_⟩⟩:=HXe.out.below(below_undrew hb7); have z4:=(hb7.cell(p:=⟨b2,off2+kk*8+3,none⟩)(lt_of_cell z3)).trans z3))
       have HX8:=hideW(HXe.out.below(below_undrew hb7))
       have hb8:=below_call hbe hb7
       clear hb7 HXe hbe hF y0 y1 y2 y3 y4 y5 e0 e2 e4 e6 e8 e10
       go_wp2
       go_roundw
       case rel=>exact⟨n+1,_,by go_num,rfl,Hnx.out,HX8.out,hb8⟩
       case measure=>simp [intOf]; have:=Hle.out; have:=Hnx.out.least; omega
      have Hno:=hideW(not_own_no Hkk.out he)
      have f1:=str_ne he
      clear he
      go_wp2_with fail
      go_region_held3(fun w'=>w'.cell?⟨w.heap.size,0,none⟩=some v0∧w'.cell?⟨w.heap.size,1,none⟩=some v1∧w'.cell?⟨w.heap.size,2,none⟩=some(.int .i64 W.time)∧w'.cell?⟨w.heap.size,3,none⟩=some(.int .i64 W.next)∧w'.cell?⟨w.heap.size,4,none⟩=some(.slice(some⟨b,off,none⟩)W.sn c')∧w'.cell?⟨w.heap.size,5,none⟩=some(.slice(some⟨b2,off2,none⟩)W.pn c)∧w'.cell?⟨b2,off2+kk*8+2,none⟩=some(.string(W.snaps kk).set)∧w'.cell?⟨b,off+k*6,none⟩=some(.string(W.sets k).name))(go_keep)
       (first | (go_at_call 95; refine(l04Snap_any v0 v1 _ _ lo hi W y _ ?_).mono ?_; (exact(Hp.out.below hb).below(Below.refl _ _).drew); rintro e w6⟨r,rfl,hF,hb6⟩; obtain rfl:=first_no Hkk.out hF; obtain⟨⟨y0,_⟩,⟨y1,_⟩,⟨y2,_⟩,⟨y3,_⟩,⟨y4,_⟩,⟨y5,_⟩⟩:=HX.out.below(below_undrew hb6); have z2:=(hb6.cell(p:=⟨b2,off2+kk*8+2,none⟩)(lt_of_cell q2)).trans q2; have z0:=(hb6.cell(p:=⟨b,off+k*6,none⟩)(lt_of_cell n0)).trans n0))
      have HXe:=hideW(HX.out.below(below_undrew hb6))
      have hbe:=below_call hb hb6
      have z3:=(hb6.cell(p:=⟨b2,off2+kk*8+3,none⟩)(lt_of_cell q3)).trans q3
      have z1:=(hb6.cell(p:=⟨b,off+k*6+1,none⟩)(lt_of_cell n1)).trans n1
      clear hb6 HX hb hF y0 y1 y2 y3 y4 y5 x0 x2 x4 x6 x8 x10 q2 q3 n0 n1 hzb hzc hzd
      clear f1
      obtain⟨⟨e0,-⟩,⟨e2,-⟩,⟨e4,-⟩,⟨e6,-⟩,⟨e8,-⟩,⟨e10,-⟩⟩:=HXe.out
      by_cases h1:n=ownN W(W.sets k).name W.pn
      ·by_cases h2:y=(W.sets k).origin
       ·have Hl:=hideW((line_iff(origin:=(W.sets k).origin)Hw.out.steps Hno.out).2⟨h1,h2⟩)
        have g1:((n:Int) == (ownN W(W.sets k).name W.pn:Int))=true:=by simp [h1]
        have g2:((n:Int) != (ownN W(W.sets k).name W.pn:Int))=false:=by simp [h1]
        have g3:decide((n:Int)=(ownN W(W.sets k).name W.pn:Int))=true:=by simp [h1]
        have g4:(y == (W.sets k).origin)=true:=by simp [h2]
        have g5:(y != (W.sets k).origin)=false:=by simp [h2]
        have g6:decide(y=(W.sets k).origin)=true:=by simp [h2]
        clear h1 h2
        go_wp2
        go_roundw
        case rel=>exact⟨k+1,by omega,by go_num,relNext hlt Hall.out Hl.out,HXe.out,hbe⟩
        case measure=>simp [intOf]; omega
       ·have Hl:=hideW(show ¬LineOk W(W.sets k).name(W.sets k).prev(W.sets k).origin from fun h=>h2((line_iff Hw.out.steps Hno.out).1 h).2)
        have g1:((n:Int) == (ownN W(W.sets k).name W.pn:Int))=true:=by simp [h1]
        have g2:((n:Int) != (ownN W(W.sets k).name W.pn:Int))=false:=by simp [h1]
        have g3:decide((n:Int)=(ownN W(W.sets k).name W.pn:Int))=true:=by simp [h1]
        have g4:(y == (W.sets k).origin)=false:=by simp [h2]
        have g5:(y != (W.sets k).origin)=true:=by simp [h2]
        have g6:decide(y=(W.sets k).origin)=false:=by simp [h2]
        clear h1 h2
        go_wp2
        go_ret
        exact⟨BoolIs.no fun hA=>Hl.out(hA k hlt),hbe⟩
      ·have Hl:=hideW(show ¬LineOk W(W.sets k).name(W.sets k).prev(W.sets k).origin from fun h=>h1((line_iff Hw.out.steps Hno.out).1 h).1)
       have h3:¬(n:Int)=(ownN W(W.sets k).name W.pn:Int):=by omega
       have g1:((n:Int) == (ownN W(W.sets k).name W.pn:Int))=false:=by simp [h3]
       have g2:((n:Int) != (ownN W(W.sets k).name W.pn:Int))=true:=by simp [h3]
       have g3:decide((n:Int)=(ownN W(W.sets k).name W.pn:Int))=false:=by simp [h3]
       clear h1 h3
       go_wp2
       go_ret
       exact⟨BoolIs.no fun hA=>Hl.out(hA k hlt),hbe⟩
end Go.Proofs.YtihplgckbhnohaaGreatDoor
