/- What impl.lineRight's question, impl.part of snapshots, impl.lineRight and impl.linesRight answer. -/
import Derived.Test.YtmgeglgboadfiaaGreatDoorP14
import Derived.Test.YtmgeglgboadfiaaGreatDoorP12
import Derived.Test.YtmgeglgboadfiaaGreatDoorP15
import Derived.WideKeyEntry
import Derived.Test.YtmgeglgboadfiaaGreatDoorP9
import Derived.Test.YtmgeglgboadfiaaGreatDoorP4
namespace Go.Proofs.YtmgeglgboadfiaaGreatDoor
open Go.RowKit Go.Maps
set_option linter.unusedVariables false
theorem str_iff(s t:ByteArray):(s.toList == t.toList)=true↔s=t:=⟨fun h=>bytes_eq (by simpa using h),fun h=>str_eq h⟩
set_option maxRecDepth 20000 in
set_option maxHeartbeats 400000 in
theorem ofSet_any(a:Option Addr)(c:Nat)(s:SnapD)(name:ByteArray)(T:Nat)(w:World)(hT:w.cell? ⟨T,0,none⟩=some (.string name)) :
  Calls Tryz.prog 230 #[snapV (.slice a s.dn c) s,.pointer (some ⟨T,0,none⟩)] w fun e w'=>BoolIs (s.set=name) e∧Below w.heap.size w w':=by
 unfold snapV
 have hbw:=below_alloc w (.cells #[.int .i64 s.id,.string s.name,.string s.set,.int .i64 s.prev,.int .i64 s.time,.int .i64 s.rs,.int .i64 s.rb,.slice a s.dn c] 99)
 have hT2:=(hbw.cell (p:=⟨T,0,none⟩) (lt_of_cell hT)).trans hT
 obtain⟨⟨⟨y0,-⟩,⟨y1,-⟩,⟨y2,-⟩,⟨y3,-⟩⟩,-⟩:=Box8.new w (.int .i64 s.id) (.string s.name) (.string s.set) (.int .i64 s.prev) (.int .i64 s.time) (.int .i64 s.rs) (.int .i64 s.rb) (.slice a s.dn c) 99
 clear hT
 have Hiff:=hideW (str_iff s.set name)
 go_enter Tryz.func230,Tryz.ntmps230
 go_wp2
 go_ret
 exact⟨⟨_,rfl,Hiff.out⟩,hbw⟩
def RowN(w:World)(base:Nat)(v:Value)(n:Nat):Prop:=∃xs,w.ownsRow base 99 8 v n xs
theorem RowN.below{w w1:World}{base:Nat}{v:Value}{n:Nat}(h:RowN w base v n)(hb:Below w.heap.size w w1):RowN w1 base v n:=by
 obtain⟨xs,h⟩:=h
 exact⟨xs,h.kept (grownL hb none) (by cases v.ownBlock <;> simp)⟩
theorem RowN.lt{w:World}{base:Nat}{v:Value}{n:Nat}(h:RowN w base v n){q:Nat}(hq:v.ownBlock=some q):base≤q∧q<w.heap.size:=by
 obtain⟨xs,h⟩:=h
 rcases h.2 with⟨rfl,_⟩ | ⟨g,cap,cur,rfl,hb,hg,_⟩
 ·simp [Value.ownBlock] at hq
 ·simp only [Value.ownBlock,Option.some.injEq] at hq
  subst hq
  exact⟨hb,(Array.getElem?_eq_some_iff.1 hg).1⟩
theorem RowN.turned{w w1:World}{base:Nat}{v:Value}{n:Nat}{row:Option Nat}(h:RowN w base v n)(hg:w.grownBy w1 row)(hne:∀q,v.ownBlock=some q→row≠some q):RowN w1 base v n:=by
 obtain⟨xs,h⟩:=h
 refine⟨xs,h.kept hg ?_⟩
 cases hv:v.ownBlock with
 | none=>simp
 | some q=>exact Or.inr (fun e=>hne q hv e.symm)
theorem infoSnapL:(Tryz.prog.info? 99).map (fun i=>(i.zero,i.size,i.bytes))=some (some (.agg #[.int .i64 0,.string ⟨#[]⟩,.string ⟨#[]⟩,.int .i64 0,.int .i64 0,.int .i64 0,.int .i64 0,.slice none 0 0]),8,96):=by kernel_rfl
def TwoN(w w':World)(v v':Value)(n n':Nat):Prop:=RowN w' w.heap.size v n∧RowN w' w.heap.size v' n'∧(∀q,v.ownBlock=some q→v'.ownBlock≠some q)∧Below w.heap.size w w'
theorem twoN_next{w1 w2:World}{base g cap n n':Nat}{v v':Value}{xs:List Value}(h':RowN w1 base v' n')(ha:∀q,v.ownBlock=some q→v'.ownBlock≠some q)
  (hown:w2.ownsRow base 99 8 (.slice (some ⟨g,0,none⟩) (n+1) cap) (n+1) xs) (hg:w1.grownBy w2 v.ownBlock) (hat:v.ownBlock=some g∨g=w1.heap.size) :
  RowN w2 base (.slice (some ⟨g,0,none⟩) (n+1) cap) (n+1)∧RowN w2 base v' n'∧(∀q,(Value.slice (some ⟨g,0,none⟩) (n+1) cap).ownBlock=some q→v'.ownBlock≠some q):=by
 refine⟨⟨xs,hown⟩,h'.turned hg (fun q hq e=>ha q e hq),fun q hq e=>?_⟩
 simp only [Value.ownBlock,Option.some.injEq] at hq
 subst hq
 rcases hat with h | h
 ·exact ha _ h e
 ·have:=(h'.lt e).2
  omega
set_option maxRecDepth 20000 in
set_option maxHeartbeats 4000000 in
theorem partSnap_any(v:Value)(lo hi:Nat)(W:WorldD)(name:ByteArray)(T:Nat)(w:World)(h:SnapsAt w lo hi v W.pn W.snaps)(hn:W.pn≤20)(hT:w.cell? ⟨T,0,none⟩=some (.string name)) :
  Calls Tryz.prog 229 #[v,.func (.func 230) #[] #[.pointer (some ⟨T,0,none⟩)]] w fun e w'=>∃a c vo,e = .returned (.tuple #[.slice a (ownN W name W.pn) c,vo])∧Below w.heap.size w w':=by
 have Hp:=hideW h
 have HT:=hideW hT
 obtain⟨m1,a,c,rfl,mc,-⟩:=id h
 unfold maxLen at m1
 clear h hT
 obtain⟨i0,hi0,hzz⟩:=Option.map_eq_some_iff.1 infoSnapL
 simp only [Prod.mk.injEq] at hzz
 have HI:=hideW (And.intro hi0 hzz)
 clear hi0 hzz
 have hmf:∀(fn:Fn) (first cap:Array Value) (w:World),(Instr.makeFunc fn first cap).run Tryz.prog w = .ok (.func fn first cap) w:=fun _ _ _ _=>rfl
 go_enter Tryz.func229,Tryz.ntmps229
 go_wp2
 go_loopw [6,7,12] (fun vy vo i wr=>∃k:Nat,k≤W.pn∧i = .int .i64 k∧TwoN w wr vy vo (ownN W name k) (k - ownN W name k)) (fun _ _ i _=>W.pn - (intOf i).toNat)
 case atStart=>exact⟨0,Nat.zero_le _,rfl,⟨[],World.ownsRow_nil _ _ _ _⟩,⟨[],World.ownsRow_nil _ _ _ _⟩,fun q hq=>by simp [Value.ownBlock] at hq,Below.refl _ _⟩
 case round=>
  obtain⟨k,hk,rfl,hy,ho,hap,hb⟩:=hrel
  have Hy:=hideW hy
  have Ho:=hideW ho
  have Hap:=hideW hap
  have hlen:=ownN_le W name k
  clear hy ho hap
  by_cases hlt:k<W.pn
  ·have hlt':(k:Int)<(W.pn:Int):=by omega
   obtain⟨b,off,vd,rfl,hs2⟩:=(Hp.out.below hb).cells hlt
   obtain⟨-,ad,cd,rfl,-,-⟩:=id hs2.dead
   have hal:=below_alloc wr (.cells #[.int .i64 (W.snaps k).id,.string (W.snaps k).name,.string (W.snaps k).set,.int .i64 (W.snaps k).prev,.int .i64 (W.snaps k).time,.int .i64 (W.snaps k).rs,.int .i64 (W.snaps k).rb,.slice ad (W.snaps k).dn cd] 99)
   have HV:=hideW (Box8.new wr (.int .i64 (W.snaps k).id) (.string (W.snaps k).name) (.string (W.snaps k).set) (.int .i64 (W.snaps k).prev) (.int .i64 (W.snaps k).time) (.int .i64 (W.snaps k).rs) (.int .i64 (W.snaps k).rb) (.slice ad (W.snaps k).dn cd) 99)
   have hB1:=below_next hb hal
   have HT1:=hideW ((hB1.cell (p:=⟨T,0,none⟩) (lt_of_cell HT.out)).trans HT.out)
   have q0:=hs2.c0
   have q1:=hs2.c1
   have q2:=hs2.c2
   have q3:=hs2.c3
   have q4:=hs2.c4
   have q5:=hs2.c5
   have q6:=hs2.c6
   have q7:=hs2.c7
   obtain⟨⟨⟨y0,-⟩,⟨y1,-⟩,⟨y2,-⟩,⟨y3,-⟩⟩,⟨y4,-⟩,⟨y5,-⟩,⟨y6,-⟩,⟨y7,-⟩⟩:=HV.out
   clear hs2
   go_wp2_with fail
   clear q0 q1 q2 q3 q4 q5 q6 q7 y0 y1 y2 y3 y4 y5 y6 y7
   refine(ofSet_any ad cd (W.snaps k) name T _ HT1.out).mono ?_
   rintro e w1 ⟨⟨s,rfl,hs⟩,hb1⟩
   have Hy1:=hideW ((Hy.out.below hal).below hb1)
   have Ho1:=hideW ((Ho.out.below hal).below hb1)
   have HV1:=hideW (HV.out.below hb1)
   have hB2:=below_next hB1 hb1
   clear hb1 hB1 hal Hy Ho HV HT1
   have hz2:=hB2.size
   obtain⟨⟨⟨y0,-⟩,⟨y1,-⟩,⟨y2,-⟩,⟨y3,-⟩⟩,⟨y4,-⟩,⟨y5,-⟩,⟨y6,-⟩,⟨y7,-⟩⟩:=HV1.out
   have hba:=below_alloc w1 (.cells #[.int .i64 (W.snaps k).id,.string (W.snaps k).name,.string (W.snaps k).set,.int .i64 (W.snaps k).prev,.int .i64 (W.snaps k).time,.int .i64 (W.snaps k).rs,.int .i64 (W.snaps k).rb,.slice ad (W.snaps k).dn cd] 99)
   have Hy2:=hideW (Hy1.out.below hba)
   have Ho2:=hideW (Ho1.out.below hba)
   have hB3:=below_next hB2 hba
   have hz3:=hba.size
   have HN:=hideW (World.news_of_block (heap_alloc_last w1 (.cells #[.int .i64 (W.snaps k).id,.string (W.snaps k).name,.string (W.snaps k).set,.int .i64 (W.snaps k).prev,.int .i64 (W.snaps k).time,.int .i64 (W.snaps k).rs,.int .i64 (W.snaps k).rb,.slice ad (W.snaps k).dn cd] 99)))
   clear hba
   by_cases hq:(W.snaps k).set=name
   ·obtain rfl:s=true:=hs.2 hq
    have ey:=hideW (ownN_yes hq)
    clear hs hq
    obtain⟨xs,hxs⟩:=Hy2.out
    have Hxs:=hideW hxs
    clear hxs
    go_wp2_with (first
     | (at_builtin; refine wpList_append_lies _ rfl _ _ 35 rfl w.heap.size 99 i0 (.agg #[.int .i64 0,.string ⟨#[]⟩,.string ⟨#[]⟩,.int .i64 0,.int .i64 0,.int .i64 0,.int .i64 0,.slice none 0 0]) 8 96 (by kernel_rfl) HI.out.1 HI.out.2.1 HI.out.2.2.1 HI.out.2.2.2 rfl (by decide) _ _ _ rfl Hxs.out ⟨w1.heap.size,0,none⟩ 1 1 [.int .i64 (W.snaps k).id,.string (W.snaps k).name,.string (W.snaps k).set,.int .i64 (W.snaps k).prev,.int .i64 (W.snaps k).time,.int .i64 (W.snaps k).rs,.int .i64 (W.snaps k).rb,.slice ad (W.snaps k).dn cd] rfl rfl HN.out (by simp [Value.oneCell']) (by decide) (by unfold maxLen; omega) (by omega) (by omega) _ rfl ?_; intro g' cap' w4 hown4 hgrow4 hat4 hlt4)
     | go_in)
    go_roundw
    case rel=>
     obtain⟨r1,r2,r3⟩:=twoN_next Ho2.out Hap.out hown4 hgrow4 hat4
     refine⟨k+1,by omega,by go_num,by rw [ey.out]; exact r1,?_,r3,hB3.grown hgrow4 hB3.size (fun q hq=>(Hy2.out.lt hq).1)⟩
     rw [ey.out,show k+1 - (ownN W name k+1)=k - ownN W name k by omega]
     exact r2
    case measure=>simp [intOf]; omega
   ·obtain rfl:s=false:=bool_no hs hq
    have ey:=hideW (ownN_no hq)
    clear hs hq
    obtain⟨xs,hxs⟩:=Ho2.out
    have Hxs:=hideW hxs
    clear hxs
    go_wp2_with (first
     | (at_builtin; refine wpList_append_lies _ rfl _ _ 35 rfl w.heap.size 99 i0 (.agg #[.int .i64 0,.string ⟨#[]⟩,.string ⟨#[]⟩,.int .i64 0,.int .i64 0,.int .i64 0,.int .i64 0,.slice none 0 0]) 8 96 (by kernel_rfl) HI.out.1 HI.out.2.1 HI.out.2.2.1 HI.out.2.2.2 rfl (by decide) _ _ _ rfl Hxs.out ⟨w1.heap.size,0,none⟩ 1 1 [.int .i64 (W.snaps k).id,.string (W.snaps k).name,.string (W.snaps k).set,.int .i64 (W.snaps k).prev,.int .i64 (W.snaps k).time,.int .i64 (W.snaps k).rs,.int .i64 (W.snaps k).rb,.slice ad (W.snaps k).dn cd] rfl rfl HN.out (by simp [Value.oneCell']) (by decide) (by unfold maxLen; omega) (by omega) (by omega) _ rfl ?_; intro g' cap' w4 hown4 hgrow4 hat4 hlt4)
     | go_in)
    go_roundw
    case rel=>
     obtain⟨r1,r2,r3⟩:=twoN_next Hy2.out (fun q h h'=>Hap.out q h' h) hown4 hgrow4 hat4
     refine⟨k+1,by omega,by go_num,by rw [ey.out]; exact r2,?_,fun q h h'=>r3 q h' h,hB3.grown hgrow4 hB3.size (fun q hq=>(Ho2.out.lt hq).1)⟩
     rw [ey.out,show k+1 - ownN W name k=k - ownN W name k+1 by omega]
     exact r1
    case measure=>simp [intOf]; omega
  ·obtain rfl:k=W.pn:=by omega
   obtain⟨xs,hxs⟩:=Hy.out
   obtain⟨ay,cy,rfl,-⟩:=owns_form hxs
   clear hxs
   go_wp2
   go_ret2
   exact⟨ay,cy,_,rfl,hb⟩
theorem ahead_own{W:WorldD}{name:ByteArray}(hne:name.toList.isEmpty=false)(y:Int):(aheadOf W y).set=name↔OwnAt W name y:=by
 constructor
 ·intro h
  by_cases hx:∃k,SnapNo W y k
  ·obtain⟨k,hk⟩:=hx
   rw [aheadOf_at hk] at h
   exact⟨k,hk,h⟩
  ·have e:aheadOf W y=zeroSnap:=by unfold aheadOf; rw [dif_neg hx]
   rw [e] at h
   rw [←h] at hne
   have h0:zeroSnap.set.toList = []:=by rw [Go.ByteArray.toList_eq]; rfl
   rw [h0] at hne
   exact absurd hne (by decide)
 ·rintro⟨k,hk,h⟩
  rw [aheadOf_at hk]
  exact h
theorem WalkAt.wf{W:WorldD}{name:ByteArray}{start:Int}{n:Nat}{y:Int}(h:WalkAt W name start n y):(Lit.int .i64 y).wf=true:=by
 have h1:=h.least
 have h2:=h.sum
 exact WalkArith.wf_i64 (by omega)
set_option maxRecDepth 20000 in
set_option maxHeartbeats 4000000 in
theorem lineRight_any(v0 v1 v2 v3:Value)(lo hi:Nat)(W:WorldD)(A:Nat)(sa:Option Addr)(sc:Nat)(S:SetD)(w:World)(h:WorldAt w lo hi v0 v1 v2 v3 W)(hp:W.pn≤20)(hA:AheadFn w lo hi W A)(hD:IdsDist W)(hP:PrevOk W)(hne:S.name.toList.isEmpty=false)(hS:S.prev=0∨HasId W S.prev) :
  Calls Tryz.prog 224 #[worldV v0 v1 v2 v3 W,setV (.slice sa S.dn sc) S,aheadV A] w fun e w'=>BoolIs (LineOk W S.name S.prev S.origin) e∧Below w.heap.size w w':=by
 unfold setV
 have Hp:=hideW h
 have HA:=hideW hA
 have HD:=hideW hD
 have HP:=hideW hP
 have Hown:=hideW (ahead_own (W:=W) hne)
 have HS0:=hideW hS
 clear h hA hD hP hne hS
 have hmf:∀(fn:Fn) (first cap:Array Value) (w:World),(Instr.makeFunc fn first cap).run Tryz.prog w = .ok (.func fn first cap) w:=fun _ _ _ _=>rfl
 have ha:=below_alloc w (.cells #[v0,v1,.int .i64 W.time,.int .i64 W.next,v2,v3] 37)
 have hB:=Box6.new w v0 v1 (.int .i64 W.time) (.int .i64 W.next) v2 v3 37
 have hz:(w.alloc (.cells #[v0,v1,.int .i64 W.time,.int .i64 W.next,v2,v3] 37)).heap.size=w.heap.size+1:=World.size_alloc _ _
 have ha2:=below_alloc (w.alloc (.cells #[v0,v1,.int .i64 W.time,.int .i64 W.next,v2,v3] 37)) (.cells #[.string S.name,.int .i64 S.origin,.int .i64 S.prev,.int .i64 S.rs,.int .i64 S.rb,.slice sa S.dn sc] 67)
 have hT:=Box6.new (w.alloc (.cells #[v0,v1,.int .i64 W.time,.int .i64 W.next,v2,v3] 37)) (.string S.name) (.int .i64 S.origin) (.int .i64 S.prev) (.int .i64 S.rs) (.int .i64 S.rb) (.slice sa S.dn sc) 67
 rw [hz] at hT
 have HT:=hideW hT
 have hb2:=below_next ha ha2
 obtain⟨⟨x0,-⟩,⟨x2,-⟩,⟨x4,-⟩,⟨x6,-⟩,⟨x8,-⟩,⟨x10,-⟩⟩:=hB.below ha2
 clear hT ha ha2 hB
 go_enter Tryz.func224,Tryz.ntmps224
 go_wp2_with fail
 clear x0 x2 x4 x6 x8 x10
 generalize (w.alloc (.cells #[v0,v1,.int .i64 W.time,.int .i64 W.next,v2,v3] 37)).alloc (.cells #[.string S.name,.int .i64 S.origin,.int .i64 S.prev,.int .i64 S.rs,.int .i64 S.rb,.slice sa S.dn sc] 67)=W0 at HT hb2 ⊢
 refine(partSnap_any v3 lo hi W S.name (w.heap.size+1) W0 (Hp.out.snaps.below hb2) hp HT.out.1.1).mono ?_
 rintro e w1 ⟨ay,cy,vo,rfl,hb1⟩
 have HT1:=hideW (HT.out.below hb1)
 have hB1:=below_next hb2 hb1
 have hon:=ownN_le W S.name W.pn
 clear HT hb2 hb1 hz
 obtain⟨⟨y0,-⟩,⟨y1,-⟩,⟨y2,-⟩,-⟩:=HT1.out
 go_wp2
 clear y0 y1 y2
 generalize w.heap.size+1=T at *
 go_loopw [9,10] (fun x i wr=>∃(n:Nat) (y:Int),i = .int .i64 n∧x = .int .i64 y∧WalkAt W S.name S.prev n y∧Box6 wr T (.string S.name) (.int .i64 S.origin) (.int .i64 S.prev) (.int .i64 S.rs) (.int .i64 S.rb) (.slice sa S.dn sc)∧Below w.heap.size w wr) (fun x _ _=>(intOf x).toNat)
 case atStart=>exact⟨0,_,rfl,rfl,WalkAt.start HP.out _ HS0.out,HT1.out,hB1⟩
 case round=>
  clear HT1 hB1
  obtain⟨n,y,rfl,rfl,hw,hT,hb⟩:=hrel
  have HT:=hideW hT
  have Hw:=hideW hw
  have Hwf:=hideW hw.wf
  have hsum:=hw.sum
  have hle:=hw.least
  clear hT hw
  have HAw:=hideW (HA.out.below hb)
  obtain⟨⟨y0,-⟩,⟨y1,-⟩,-⟩:=HT.out
  by_cases hq:(aheadOf W y).set=S.name
  ·obtain⟨kk,hkk,hks⟩:=(Hown.out y).1 hq
   have Hnx:=hideW (Hw.out.next HP.out hkk hks)
   have Hle:=hideW (show(W.snaps kk).prev<y by have h1:=HP.out.less kk hkk.1; have h2:=hkk.2.1; omega)
   have Hpr:=hideW (show(aheadOf W y).prev=(W.snaps kk).prev by rw [aheadOf_at hkk])
   have Hq:=hideW hq
   clear hkk hks hq
   go_wp2_with fail
   go_region_held3 (fun w'=>w'.cell? ⟨T,0,none⟩=some (.string S.name)) (go_keep)
    (first | (go_at_call 190; refine(ahead_any lo hi W A y _ ?_ HD.out Hwf.out hp).mono ?_; (exact HAw.out.below (Below.refl _ _).drew); rintro e w6 ⟨aa,ca,rfl,hpd,hb6⟩; have hfs:=fun w=>(show(Instr.field 99 (snapV (.slice aa (aheadOf W y).dn ca) (aheadOf W y)) 2).run Tryz.prog w = .ok (.string S.name) w by rw [←Hq.out]; exact(field_snap (.slice aa (aheadOf W y).dn ca) (aheadOf W y) w).2.1); obtain⟨⟨z0,_⟩,_⟩:=HT.out.below (below_undrew hb6)))
   have HT6:=hideW (HT.out.below (below_undrew hb6))
   have hB6:=below_call hb hb6
   have HA6:=hideW (HA.out.below hB6)
   have hnb:(n:Int)<1000000:=by omega
   clear hb6 hpd hfs z0 y0 y1 HT HAw hb
   go_wp2_with fail
   refine(ahead_any lo hi W A y _ HA6.out HD.out Hwf.out hp).mono ?_
   rintro e w7 ⟨aa7,ca7,rfl,hpd,hb7⟩
   have hfs:=fun w=>(show(Instr.field 99 (snapV (.slice aa7 (aheadOf W y).dn ca7) (aheadOf W y)) 3).run Tryz.prog w = .ok (.int .i64 (W.snaps kk).prev) w by rw [←Hpr.out]; exact(field_snap (.slice aa7 (aheadOf W y).dn ca7) (aheadOf W y) w).2.2.1)
   have HT7:=hideW (HT6.out.below hb7)
   have hB7:=below_next hB6 hb7
   clear hpd hb7 HT6 hB6 HA6
   go_wp2
   go_roundw
   case rel=>exact⟨n+1,_,by go_num,rfl,Hnx.out,HT7.out,hB7⟩
   case measure=>simp [intOf]; have:=Hle.out; have:=Hnx.out.least; omega
  ·have Hno:=hideW (fun h=>hq ((Hown.out y).2 h))
   have f1:=str_ne hq
   clear hq
   go_wp2_with fail
   go_region_held3 (fun w'=>w'.cell? ⟨T,0,none⟩=some (.string S.name)) (go_keep)
    (first | (go_at_call 190; refine(ahead_any lo hi W A y _ ?_ HD.out Hwf.out hp).mono ?_; (exact HAw.out.below (Below.refl _ _).drew); rintro e w6 ⟨aa,ca,rfl,hpd,hb6⟩; have hfs:=fun w=>(field_snap (.slice aa (aheadOf W y).dn ca) (aheadOf W y) w).2.1; obtain⟨⟨z0,_⟩,_⟩:=HT.out.below (below_undrew hb6)))
   have HT6:=hideW (HT.out.below (below_undrew hb6))
   have hB6:=below_call hb hb6
   clear hb6 hpd hfs z0 y0 y1 HT HAw hb f1
   obtain⟨⟨z0,-⟩,⟨z1,-⟩,-⟩:=HT6.out
   have Hli:=hideW (line_iff (origin:=S.origin) Hw.out.steps Hno.out)
   by_cases h1:n=ownN W S.name W.pn
   ·by_cases h2:y=S.origin
    ·have Hl:=hideW (Hli.out.2 ⟨h1,h2⟩)
     have g1:((n:Int) == (ownN W S.name W.pn:Int))=true:=by simp [h1]
     have g2:(y == S.origin)=true:=by simp [h2]
     clear h1 h2
     go_wp2
     go_ret
     exact⟨BoolIs.yes Hl.out,hB6⟩
    ·have Hl:=hideW (fun h=>h2 (Hli.out.1 h).2)
     have g1:((n:Int) == (ownN W S.name W.pn:Int))=true:=by simp [h1]
     have g2:(y == S.origin)=false:=by simp [h2]
     clear h1 h2
     go_wp2
     go_ret
     exact⟨BoolIs.no Hl.out,hB6⟩
   ·have Hl:=hideW (fun h=>h1 (Hli.out.1 h).1)
    have h3:¬(n:Int)=(ownN W S.name W.pn:Int):=by omega
    have g1:((n:Int) == (ownN W S.name W.pn:Int))=false:=by simp [h3]
    clear h1 h3
    go_wp2
    go_ret
    exact⟨BoolIs.no Hl.out,hB6⟩
set_option maxRecDepth 20000 in
set_option maxHeartbeats 2000000 in
theorem linesRight_any(v0 v1 v2 v3:Value)(lo hi:Nat)(W:WorldD)(A:Nat)(w:World)(h:WorldAt w lo hi v0 v1 v2 v3 W)(hp:W.pn≤20)(hs:W.sn≤8)(hA:AheadFn w lo hi W A)(hD:IdsDist W)(hP:PrevOk W) :
  Calls Tryz.prog 206 #[worldV v0 v1 v2 v3 W,aheadV A] w fun e w'=>BoolIs (∀i,i<W.sn→LineOk W (W.sets i).name (W.sets i).prev (W.sets i).origin) e∧Below w.heap.size w w':=by
 have Hp:=hideW h
 have HA:=hideW hA
 have HD:=hideW hD
 have HP:=hideW hP
 obtain⟨m2,a',c',rfl,mc',-⟩:=id h.sets
 unfold maxLen at m2
 clear h hA hD hP
 have ha:=below_alloc w (.cells #[v0,v1,.int .i64 W.time,.int .i64 W.next,.slice a' W.sn c',v3] 37)
 have HB:=hideW (Box6.new w v0 v1 (.int .i64 W.time) (.int .i64 W.next) (.slice a' W.sn c') v3 37)
 obtain⟨⟨x0,-⟩,⟨x2,-⟩,⟨x4,-⟩,⟨x6,-⟩,⟨x8,-⟩,⟨x10,-⟩⟩:=HB.out
 go_enter Tryz.func206,Tryz.ntmps206
 go_wp2
 clear x0 x2 x4 x6 x8 x10
 go_loopw [10] (fun i wr=>∃k:Nat,k≤W.sn∧i = .int .i64 k∧(∀j,j<k→LineOk W (W.sets j).name (W.sets j).prev (W.sets j).origin)∧Box6 wr w.heap.size v0 v1 (.int .i64 W.time) (.int .i64 W.next) (.slice a' W.sn c') v3∧Below w.heap.size w wr) (fun i _=>W.sn - (intOf i).toNat)
 case atStart=>exact⟨0,Nat.zero_le _,rfl,fun j hj=>absurd hj (Nat.not_lt_zero _),HB.out,ha⟩
 case round=>
  clear HB ha
  obtain⟨k,hk,rfl,hall,hX,hb⟩:=hrel
  have Hall:=hideW hall
  have HX:=hideW hX
  clear hall hX
  by_cases hlt:k<W.sn
  rotate_left
  ·obtain rfl:k=W.sn:=by omega
   go_wp2
   go_ret
   exact⟨BoolIs.yes Hall.out,hb⟩
  have hlt':(k:Int)<(W.sn:Int):=by omega
  obtain⟨b,off,vd,rfl,hs2⟩:=(Hp.out.sets.below hb).cells hlt
  obtain⟨-,ad,cd,rfl,-,-⟩:=id hs2.dead
  have hbs:=below_alloc wr (.cells #[.string (W.sets k).name,.int .i64 (W.sets k).origin,.int .i64 (W.sets k).prev,.int .i64 (W.sets k).rs,.int .i64 (W.sets k).rb,.slice ad (W.sets k).dn cd] 67)
  have HV:=hideW (Box6.new wr (.string (W.sets k).name) (.int .i64 (W.sets k).origin) (.int .i64 (W.sets k).prev) (.int .i64 (W.sets k).rs) (.int .i64 (W.sets k).rb) (.slice ad (W.sets k).dn cd) 67)
  have HX2:=hideW (HX.out.below hbs)
  have hb2:=below_next hb hbs
  have q0:=hs2.c0
  have q1:=hs2.c1
  have q2:=hs2.c2
  have q3:=hs2.c3
  have q4:=hs2.c4
  have q5:=hs2.c5
  obtain⟨⟨y0,-⟩,⟨y1,-⟩,⟨y2,-⟩,⟨y3,-⟩,⟨y4,-⟩,⟨y5,-⟩⟩:=HV.out
  obtain⟨⟨x0,-⟩,⟨x2,-⟩,⟨x4,-⟩,⟨x6,-⟩,⟨x8,-⟩,⟨x10,-⟩⟩:=HX2.out
  clear hs2 hbs
  go_wp2_with fail
  clear q0 q1 q2 q3 q4 q5 y0 y1 y2 y3 y4 y5 x0 x2 x4 x6 x8 x10 HX hb HV
  refine(lineRight_any v0 v1 _ v3 lo hi W A ad cd (W.sets k) _ (Hp.out.below hb2) hp (HA.out.below hb2) HD.out HP.out (HP.out.names k hlt) (HP.out.sets k hlt)).mono ?_
  rintro e w6 ⟨⟨t6,rfl,ht6⟩,hb6⟩
  have HX6:=hideW (HX2.out.below hb6)
  have hB6:=below_next hb2 hb6
  have Ht:=hideW ht6
  clear ht6 hb6 hb2 HX2
  cases t6
  ·have Hn:=hideW (show ¬LineOk W (W.sets k).name (W.sets k).prev (W.sets k).origin from fun hA=>absurd (Ht.out.2 hA) (by simp))
   clear Ht
   go_wp2
   go_ret
   exact⟨BoolIs.no fun hA=>Hn.out (hA k hlt),hB6⟩
  ·have Hn:=hideW (Ht.out.1 rfl)
   clear Ht
   go_wp2
   go_roundw
   case rel=>exact⟨k+1,by omega,by go_num,relNext hlt Hall.out Hn.out,HX6.out,hB6⟩
   case measure=>simp [intOf]; omega
structure ImplN (W:WorldD):Prop where
 time:Between W.time 1 900000
 next:Between W.next 1 900000
 sets:SetsI W.sn W.sets
 snaps:SnapsI W
structure ImplW (W:WorldD):Prop where
 names:ImplN W
 right:Right W.pool
 prevs:∀i,i<memN W→PrevI W i
 lines:∀i,i<W.sn→LineOk W (W.sets i).name (W.sets i).prev (W.sets i).origin
 trees:TreesI W
 homes:HomesOk W
theorem ImplN.range{W:WorldD}(h:ImplN W):∀i,i<W.pn→1≤(W.snaps i).id∧(W.snaps i).id<W.next∧1≤(W.snaps i).time∧(W.snaps i).time<W.time
 | 0,hi=>by
  have:=(h.snaps.2.1 0 hi).2.2.2
  have h1:Mid 0 (W.snaps 0).id W.next:=this.1
  have h2:Mid 0 (W.snaps 0).time W.time:=this.2
  have a1:=h1.1
  have a2:=h1.2
  have a3:=h2.1
  have a4:=h2.2
  omega
 | i+1,hi=>by
  have ih:=h.range i (by omega)
  have:=(h.snaps.2.1 (i+1) hi).2.2.2
  have h1:Mid (W.snaps i).id (W.snaps (i+1)).id W.next:=this.1
  have h2:Mid (W.snaps i).time (W.snaps (i+1)).time W.time:=this.2
  have a1:=h1.1
  have a2:=h1.2
  have a3:=h2.1
  have a4:=h2.2
  omega
theorem ImplN.rise{W:WorldD}(h:ImplN W):∀i,i<W.pn→∀j,j<i→(W.snaps j).id<(W.snaps i).id
 | 0,_,j,hj=>absurd hj (Nat.not_lt_zero _)
 | i+1,hi,j,hj=>by
  have h1:Mid (W.snaps i).id (W.snaps (i+1)).id W.next:=(h.snaps.2.1 (i+1) hi).2.2.2.1
  have a1:=h1.1
  by_cases e:j=i
  ·subst e; exact a1
  ·have:=h.rise i (by omega) j (by omega)
   omega
theorem ImplN.dist{W:WorldD}(h:ImplN W):IdsDist W:=fun i hi j hj e=>by have:=h.rise i hi j hj; omega
theorem ImplN.idsWf{W:WorldD}(h:ImplN W):IdsWf W.pn W.snaps:=fun i hi=>by
 have h1:=h.range i hi
 have h2:=h.next.2
 exact WalkArith.wf_i64 (by omega)
theorem ImplN.times{W:WorldD}(h:ImplN W):TimesOk W:=fun x=>by
 by_cases hx:∃k,SnapNo W x k
 ·obtain⟨k,hk⟩:=hx
  rw [aheadOf_at hk]
  have h1:=h.range k hk.1
  have h2:=h.time.2
  exact⟨by omega,by omega⟩
 ·have:aheadOf W x=zeroSnap:=by unfold aheadOf; rw [dif_neg hx]
  rw [this]
  exact⟨Int.le_refl _,by decide⟩
theorem prev_iff{W:WorldD}{i:Nat}(hp:IdsPos W):PrevI W i↔((memOf W i).prev=0∨HasId W (memOf W i).prev):=by
 unfold PrevI
 constructor
 ·intro h
  by_cases hx:∃k,SnapNo W (memOf W i).prev k
  ·obtain⟨k,hk⟩:=hx
   exact Or.inr ⟨k,hk.1,hk.2.1⟩
  ·have e:aheadOf W (memOf W i).prev=zeroSnap:=by unfold aheadOf; rw [dif_neg hx]
   rw [e] at h
   exact Or.inl h.symm
 ·rintro(h | h)
  ·rw [h,aheadOf_no (fun k hk e=>by have:=hp k hk; omega)]
   rfl
  ·obtain⟨k,hk⟩:=h.no
   rw [aheadOf_at hk]
   exact hk.2.1
theorem ImplN.prevOk{W:WorldD}(h:ImplN W)(hp:∀i,i<memN W→PrevI W i):PrevOk W where
 ids:=fun k hk=>by have h1:=h.range k hk; have h2:=h.next.2; omega
 prev:=fun k hk=>by
  have:=(prev_iff (fun k hk=>(h.range k hk).1)).1 (hp k (by unfold memN; omega))
  rw [memOf_snap hk] at this
  exact this
 less:=fun k hk=>(h.snaps.2.1 k hk).2.2.1
 sets:=fun k hk=>by
  have:=(prev_iff (fun k hk=>(h.range k hk).1)).1 (hp (W.pn+k) (by unfold memN; omega))
  rw [memOf_set] at this
  exact this
 names:=fun k hk=>name_nonempty (h.sets.2 k hk).1
theorem steps_there{W:WorldD}(h:PrevOk W){name:ByteArray}{start:Int}(hs:start=0∨HasId W start):∀{n:Nat} {e:Int},Steps W name start n e→(e=0∨HasId W e)
 | 0,_,.zero=>hs
 | n+1,_,.next (k:=k) _ hk _=>h.prev k hk.1
theorem rises_last{f:Nat→SetD}{i:Nat}(hn:NameP (f i).name):Rises (lastN f i) (f i).name↔(0<i→Rises (f (i - 1)).name (f i).name):=by
 cases i with
 | zero=>
  refine⟨fun _ h=>absurd h (by omega),fun _=>?_⟩
  have hne:=name_nonempty hn
  unfold Rises lastN
  have h0:(⟨#[]⟩:ByteArray).toList = []:=by rw [Go.ByteArray.toList_eq]
  rw [h0]
  cases hl:(f 0).name.toList with
  | nil=>rw [hl] at hne; exact absurd hne (by decide)
  | cons a l=>simp [Op.bytesLess]
 | succ i=>exact⟨fun h _=>h,fun h=>h (by omega)⟩
theorem world_iff(W:WorldD):ImplW W↔SpecW W:=by
 constructor
 ·intro h
  have hP:=h.names.prevOk h.prevs
  have hN:SpecNames W:=by
   refine⟨h.names.time,h.names.next,h.names.sets.1,h.names.snaps.1,fun i hi=>?_,fun i hi=>?_⟩
   ·have hs:=h.names.sets.2 i hi
    refine⟨hs.1,(rises_last hs.1).1 hs.2,fun hz=>(hP.sets i hi).resolve_left hz,fun hz=>?_⟩
    obtain⟨n,e,hst,_,_,rfl⟩:=h.lines i hi
    exact(steps_there hP (hP.sets i hi) hst).resolve_left hz
   ·have hs:=h.names.snaps.2.1 i hi
    have hr:=h.names.range i hi
    refine⟨⟨hr.1,hr.2.1,hr.2.2.1,hr.2.2.2,hs.2.1,hs.1⟩,⟨fun h0=>?_,fun hz=>⟨hs.2.2.1,(hP.prev i hi).resolve_left hz⟩⟩,fun k hk=>h.names.snaps.2.2 i hi k hk⟩
    cases i with
    | zero=>omega
    | succ i=>exact⟨hs.2.2.2.1.1,hs.2.2.2.2.1⟩
  have hT:Trees W:=trees_of h.right hN (fun i hi=>by have:=h.trees.1 i (by unfold memN; omega); rw [memOf_snap hi] at this; exact this) (fun i hi=>by have:=h.trees.1 (W.pn+i) (by unfold memN; omega); rw [memOf_set] at this; exact this)
  have hM:∀i,i<memN W→SpecM W (memOf W i):=fun i hi=>(member_iff hT hi).1 (h.trees.2 i hi)
  have hh:=(homes_iff hT (fun j hj=>by have:=hP.pos j hj; omega) hM).1 h.homes
  exact⟨h.right,hN,h.lines,fun i hi=>hT.snap hi,fun i hi=>⟨hT.set hi,(hM (W.pn+i) (by unfold memN; omega)).1⟩,fun i hi=>(hM i (by unfold memN; omega)).1,hh.1,fun i hi=>(hM i hi).2,hh.2⟩
 ·intro h
  have hP:=h.names.prevOk
  have hT:Trees W:=trees_of h.right h.names h.snaps (fun i hi=>(h.sets i hi).1)
  have hM:∀i,i<memN W→SpecM W (memOf W i):=fun i hi=>by
   refine⟨?_,h.born i hi⟩
   by_cases hp:i<W.pn
   ·exact h.dead i hp
   ·have:=(h.sets (i - W.pn) (by unfold memN at hi; omega)).2
    rw [show W.pn+(i - W.pn)=i by omega] at this
    exact this
  have hh:=(homes_iff hT (fun j hj=>by have:=hP.pos j hj; omega) hM).2 ⟨h.reach,h.apart⟩
  refine⟨⟨h.names.1,h.names.2.1,⟨h.names.2.2.1,fun i hi=>?_⟩,⟨h.names.2.2.2.1,fun i hi=>?_,fun i hi k hk=>(h.names.2.2.2.2.2 i hi).2.2 k hk⟩⟩,h.right,fun i hi=>?_,h.lines,⟨hT.tree,fun i hi=>(member_iff hT hi).2 (hM i hi)⟩,hh⟩
  ·have hs:=h.names.2.2.2.2.1 i hi
   exact⟨hs.1,(rises_last hs.1).2 hs.2.1⟩
  ·have hs:=h.names.2.2.2.2.2 i hi
   refine⟨hs.1.2.2.2.2.2,hs.1.2.2.2.2.1,hP.less i hi,?_,?_⟩
   ·cases i with
    | zero=>exact⟨by have:=hs.1.1; show(0:Int)<_; omega,hs.1.2.1⟩
    | succ i=>exact⟨(hs.2.1.1 (by omega)).1,hs.1.2.1⟩
   ·cases i with
    | zero=>exact⟨by have:=hs.1.2.2.1; show(0:Int)<_; omega,hs.1.2.2.2.1⟩
    | succ i=>exact⟨(hs.2.1.1 (by omega)).2,hs.1.2.2.2.1⟩
  ·refine(prev_iff hP.pos).2 ?_
   by_cases hp:i<W.pn
   ·rw [memOf_snap hp]; exact hP.prev i hp
   ·have e:=memOf_set W (i - W.pn)
    rw [show W.pn+(i - W.pn)=i by omega] at e
    rw [e]
    exact hP.sets _ (by unfold memN at hi; omega)
end Go.Proofs.YtmgeglgboadfiaaGreatDoor

namespace Go.Proofs.YtmgeglgboadfiaaGreatDoor
open Go Go.RowKit Go.Maps
open Go.ChangeMaps Go.MapKept
open Go.WideElems (Fit rd rg pl rd_val elemAt findIdx_arr findIdx_born modify_last set_self)
open Go.WideMaps (KeyLaw)
set_option linter.unusedVariables false
theorem setBlock_twice(w:World)(b:Nat)(o o':Obj):setBlock (setBlock w b o) b o'=setBlock w b o':=by simp [setBlock]
theorem setBlock_same{w:World}{b:Nat}{o:Obj}(h:w.heap[b]?=some o):setBlock w b o=w:=by
 have e:w.heap.setIfInBounds b o=w.heap:=by
  apply Array.ext_getElem?
  intro i
  by_cases hi:i=b
  ·subst hi
   rw [Array.getElem?_setIfInBounds_self_of_lt (Array.getElem?_eq_some_iff.1 h).1]
   exact h.symm
  ·rw [Array.getElem?_setIfInBounds_ne (fun e=>hi e.symm)]
 unfold setBlock
 rw [e]
theorem grown_setBlock{w:World}{b:Nat}{es es':Array MapEntry}{c c':Nat}(hb:w.heap[b]?=some (.map es c)):w.grownBy (setBlock w b (.map es' c')) (some b):=
 ⟨rfl,rfl,rfl,by simp [setBlock],fun i _ hi=>heap_setBlock_other hb _ (fun e=>hi (by rw [e]))⟩
theorem entry_own{P:Program}{k e t:TypeId}{w:World}{b n:Nat}{D:DataW Value}(h:w.ownsMap P k rawE b n D)(K0:KeyLaw P k)(ht:P.underlying t=some (.map k e))(hn:n<maxLen){z:Value}(hz:∀u:World,(zeroValue e).run P u = .ok z u)
  {key val v:Value} {kl:Lit} (hkey:keyOf P k key=some kl) (hat:D.atKey kl (.held z) = .held v) :
  ∃(v0:Value) (st:Nat) (w1 w2:World),(Instr.mapEntry t (.map (some b)) key).run P w = .ok (.tuple #[v0,goInt st]) w1∧(Instr.lookup t (.map (some b)) key false).run P w1 = .ok v w1∧(Instr.entryStore t (.map (some b)) (goInt st) val).run P w1 = .ok () w2∧w2.ownsMap P k rawE b (n+1) (D.put kl (.held val))∧w.grownBy w1 (some b)∧w.grownBy w2 (some b):=by
 have K:=Keyed.of_law K0
 obtain⟨w',hup,hown',hg'⟩:=h.update K ht hn hkey (rawE_mk val)
 obtain⟨wz,hupz,hownz,hgz⟩:=h.update K ht hn hkey (rawE_mk z)
 have hlook:=h.lookup K ht (hz w) (rawE_mk z) hkey
 obtain⟨es,clock,hb,F,hs,hD⟩:=h
 obtain⟨v0,st,es1,c1,hent,hor,hst⟩:=WideElems.entry_then_store K0 ht hz hb F hkey
 have hb1:(setBlock w b (.map es1 c1)).heap[b]?=some (.map es1 c1):=heap_setBlock_same hb _
 obtain⟨es2,c2,hr2,hu2⟩:=hst _ val hb1
 have e2:setBlock (setBlock w b (.map es1 c1)) b (.map es2 c2)=w':=by
  rw [setBlock_twice]
  rw [hu2] at hup
  injection hup
 refine⟨v0,st,setBlock w b (.map es1 c1),w',hent,?_,by rw [←e2]; exact hr2,hown',grown_setBlock hb,hg'⟩
 obtain⟨v',ps,hl,hv'⟩:=hlook
 have ev:v'=v:=by
  have e1:=rawE_inv hv'
  rw [hat] at e1
  injection e1 with e1
  exact e1.symm
 subst ev
 suffices hh:∀ww:World,ww=setBlock w b (.map es1 c1)→(Instr.lookup t (.map (some b)) key false).run P ww = .ok v' ww from hh _ rfl
 intro ww hww
 rcases K0.find w hkey es.toList F.keys with⟨h1,h2⟩ | ⟨j,e0,h1,h2,h3⟩
 ·-- it was not there: behind the entry it is there with the zero value
  have hz1:setBlock w b (.map es1 c1)=wz:=by
   have hm:(Instr.mapEntry t (.map (some b)) key).run P w = .ok (.tuple #[z,goInt clock]) (setBlock w b (.map (es.push ⟨key,z,clock⟩) (clock+1))):=by
    simp [Instr.mapEntry,run_underlying ht,MapKept.run_getObj_map hb,K0.check w false hkey,h1,hz,MapKept.run_setObj_map _ hb,Result.andThen,setBlock]
   have hu:(Instr.mapUpdate t (.map (some b)) key z).run P w = .ok () (setBlock w b (.map (es.push ⟨key,z,clock⟩) (clock+1))):=by
    simp [Instr.mapUpdate,run_underlying ht,MapKept.run_getObj_map hb,K0.check w false hkey,h1,MapKept.run_setObj_map _ hb,Result.andThen,setBlock]
   rw [hent] at hm
   rw [hupz] at hu
   injection hm with _ hm
   injection hu with _ hu
   rw [hm,hu]
  obtain rfl:ww=wz:=hww.trans hz1
  obtain⟨v2,ps2,hl2,hv2⟩:=hownz.lookup K ht (hz _) (rawE_mk z) hkey
  have e3:=rawE_inv hv2
  rw [atKey_put_same (show IsMap D from⟨_,hD⟩) (K.key hkey)] at e3
  replace e3:=DataW.held.inj e3
  have e4:v'=z:=by
   have hl0:(Instr.lookup t (.map (some b)) key false).run P w = .ok z w:=by
    rcases Maps.fit_look false K ht (hz w) hb F hkey with⟨hrun,_,_⟩ | ⟨e0,y,hm0,hk0,_,_,_,_⟩
    ·exact hrun
    ·exact absurd hk0 (h2 e0 hm0)
   rw [hl0] at hl
   injection hl with hl _
   exact hl.symm
  subst e3
  subst e4
  exact hl2
 ·-- it was there: the entry leaves the map as it was
  have hj:es[j]?=some e0:=by simpa using h2
  have hsame:es.modify j (fun e=>{e with key:=key})=es:=by
   apply Array.ext'
   rw [Array.toList_modify,modify_eq_set _ _ _ _ h2]
   have:({e0 with key:=key}:MapEntry)=e0:=by rw [←h3]
   rw [this]
   exact set_self _ _ _ h2
  have hm:(Instr.mapEntry t (.map (some b)) key).run P w = .ok (.tuple #[e0.val,goInt e0.born]) (setBlock w b (.map es clock)):=by
   simp [Instr.mapEntry,run_underlying ht,MapKept.run_getObj_map hb,K0.check w false hkey,h1,hj,h3,K0.stays w hkey,hsame,MapKept.run_setObj_map _ hb,Result.andThen,setBlock]
  rw [hent,setBlock_same hb] at hm
  obtain rfl:ww=w:=hww.trans (Result.ok.inj hm).2
  exact hl
end Go.Proofs.YtmgeglgboadfiaaGreatDoor

namespace Go.Proofs.YtmgeglgboadfiaaGreatDoor
open Go.RowKit Go.Maps
set_option linter.unusedVariables false
theorem youngM_len (W : WorldD) (m : MemD) : (youngM W m).length ≤ 73 := by
  unfold youngM youngF treeM
  exact Nat.le_trans (List.length_filter_le _ _) (treeL_len _ _ _)
theorem homes_len (W : WorldD) : ∀ k, (homesL W k).length ≤ 73 * k
  | 0 => by simp [homesL]
  | k + 1 => by
    have h1 := homes_len W k
    have h2 := youngM_len W (memOf W k)
    unfold homesL
    rw [List.length_append]
    omega
theorem homes_pre (W : WorldD) {k : Nat} : ∀ {n : Nat}, k ≤ n → ∃ l, homesL W n = homesL W k ++ l
  | 0, h => ⟨[], by obtain rfl : k = 0 := by omega
                    simp⟩
  | n + 1, h => by
    by_cases e : k = n + 1
    · subst e; exact ⟨[], by simp⟩
    · obtain ⟨l, hl⟩ := homes_pre W (k := k) (n := n) (by omega)
      exact ⟨l ++ youngM W (memOf W n), by rw [show homesL W (n + 1) = homesL W n ++ youngM W (memOf W n) from rfl, hl, List.append_assoc]⟩
theorem homes_at (W : WorldD) {k n j : Nat} (hk : k < n) (hj : j < (youngM W (memOf W k)).length) : (homesL W k).length + j < (homesL W n).length ∧ (homesL W n).getD ((homesL W k).length + j) (0, 0) = (youngM W (memOf W k)).getD j (0, 0) := by
  obtain ⟨l, hl⟩ := homes_pre W (k := k + 1) (n := n) (by omega)
  rw [hl, show homesL W (k + 1) = homesL W k ++ youngM W (memOf W k) from rfl]
  constructor
  · simp only [List.length_append]; omega
  · rw [List.getD_eq_getElem?_getD, List.getD_eq_getElem?_getD, List.append_assoc, List.getElem?_append_right (by omega), show (homesL W k).length + j - (homesL W k).length = j by omega, List.getElem?_append_left hj]
def pairV (x : Int × Int) : Value := .agg #[.int .i64 x.1, .int .i64 x.2]
/-- The keys of the homes, one behind the other. -/
structure HomeKeys (W : WorldD) (key : Nat → Lit) : Prop where
  ok : KeysOk key
  at_ : ∀ i, i < (homesL W (memN W)).length → keyOf Tryz.prog 61 (pairV ((homesL W (memN W)).getD i (0, 0))) = some (key i)
theorem homes_points {W : WorldD} (hR : Right W.pool) (hT : ∀ i, i < memN W → TreeOk W.pool (memOf W i).rs (memOf W i).rb) {x : Int × Int} (hx : x ∈ homesL W (memN W)) : Points W.pool x.1 x.2 := by
  obtain ⟨i, hi, h⟩ := mem_homes.1 hx
  unfold youngM youngF treeM at h
  exact (tree_mem hR (hT i hi) (List.mem_filter.1 h).1).1
theorem getD_mem {l : List (Int × Int)} {i : Nat} (h : i < l.length) : l.getD i (0, 0) ∈ l := by
  rw [List.getD_eq_getElem?_getD, List.getElem?_eq_getElem h, Option.getD_some]
  exact List.getElem_mem h
theorem home_keys {W : WorldD} (hR : Right W.pool) (hT : ∀ i, i < memN W → TreeOk W.pool (memOf W i).rs (memOf W i).rb) : ∃ key, HomeKeys W key := by
  have hkx : ∀ i, ∃ l, WideAt.IsKeyLit l ∧ (i < (homesL W (memN W)).length → keyOf Tryz.prog 61 (pairV ((homesL W (memN W)).getD i (0, 0))) = some l) := fun i => by
    by_cases hi' : i < (homesL W (memN W)).length
    · have hp := homes_points hR hT (getD_mem hi')
      generalize (homesL W (memN W)).getD i (0, 0) = x at hp ⊢
      have hf := (points_fits hR hp).1
      have h200 := hR.1
      obtain ⟨h1, h2, h3, h4⟩ := hp
      rw [h4] at hf
      obtain ⟨f1, f2⟩ := hf
      obtain ⟨l, hl⟩ := keyP_of (x := x.1) (y := x.2) (WalkArith.wf_i64 (by omega)) (WalkArith.wf_i64 (by omega))
      exact ⟨l, lawP.key hl, fun _ => hl⟩
    · exact ⟨.string [], trivial, fun h => absurd h hi'⟩
  exact ⟨fun i => (hkx i).choose, fun i => (hkx i).choose_spec.1, fun i => (hkx i).choose_spec.2⟩
theorem pairV_inj {x y : Int × Int} (h : pairV x = pairV y) : x = y := by
  unfold pairV at h
  simp only [Value.agg.injEq, Array.mk.injEq, List.cons.injEq, Value.int.injEq, true_and, and_true] at h
  exact Prod.ext h.1 h.2
theorem HomeKeys.same {W : WorldD} {key : Nat → Lit} (h : HomeKeys W key) {i j : Nat} (hi : i < (homesL W (memN W)).length) (hj : j < (homesL W (memN W)).length) : key i = key j ↔ (homesL W (memN W)).getD i (0, 0) = (homesL W (memN W)).getD j (0, 0) := by
  have h1 := h.at_ i hi
  have h2 := h.at_ j hj
  constructor
  · intro e
    rw [e] at h1
    exact pairV_inj (lawP.inj h1 h2)
  · intro e
    rw [e, h2] at h1
    exact (Option.some.inj h1).symm
theorem HomeKeys.dist {W : WorldD} {key : Nat → Lit} (h : HomeKeys W key) : DistL (homesL W (memN W)).length key ↔ (homesL W (memN W)).Nodup := by
  rw [List.Nodup, List.pairwise_iff_getElem]
  have hg : ∀ i (hi : i < (homesL W (memN W)).length), (homesL W (memN W)).getD i (0, 0) = (homesL W (memN W))[i] := fun i hi => by rw [List.getD_eq_getElem?_getD, List.getElem?_eq_getElem hi, Option.getD_some]
  constructor
  · intro hd i j hi hj hij e
    refine hd j hj i hij ((h.same hi hj).2 ?_)
    rw [hg i hi, hg j hj]
    exact e
  · intro hd i hi k hk e
    have := (h.same (by omega) hi).1 e
    rw [hg k (by omega), hg i hi] at this
    exact hd k i (by omega) hi hk this
/-- The map behind the first p homes. -/
def homeD (key : Nat → Lit) (p : Nat) : DataW Value := putD key (fun _ => .int .i64 1) p
theorem HomeKeys.new {W : WorldD} {key : Nat → Lit} {p : Nat} (hn : ∀ i, i < p → key i ≠ key p) (h : HomeKeys W key) : (homeD key p).atKey (key p) (.held (.int .i64 0)) = .held (.int .i64 0) := putD_none h.ok _ hn _
theorem HomeKeys.old {W : WorldD} {key : Nat → Lit} {p i : Nat} (hi : i < p) (he : key i = key p) (hd : DistL p key) (h : HomeKeys W key) : (homeD key p).atKey (key p) (.held (.int .i64 0)) = .held (.int .i64 1) := by
  rw [← he]
  exact putD_at h.ok _ _ p i hi (fun j h1 h2 e => hd j h2 i h1 e.symm)
theorem HomeKeys.put {W : WorldD} {key : Nat → Lit} (h : HomeKeys W key) (p : Nat) (v : Value) : ((homeD key p).put (key p) (.held v)).atKey (key p) (.held (.int .i64 0)) = .held v := atKey_put_same (putD_tidy h.ok _ p).isMap (h.ok p) _ _
theorem HomeKeys.not_nodup {W : WorldD} {key : Nat → Lit} {p i : Nat} (hi : i < p) (hp : p < (homesL W (memN W)).length) (he : key i = key p) (h : HomeKeys W key) : ¬ (homesL W (memN W)).Nodup := fun hn => h.dist.2 hn p hp i hi he
theorem HomeKeys.size {W : WorldD} {key : Nat → Lit} (h : HomeKeys W key) {p : Nat} (hd : DistL p key) : Maps.size (homeD key p) = p := (putD_size h.ok _ p).2.2 hd
end Go.Proofs.YtmgeglgboadfiaaGreatDoor

namespace Go.Proofs.YtmgeglgboadfiaaGreatDoor
open Go.RowKit
set_option linter.unusedVariables false
set_option maxRecDepth 20000 in
set_option maxHeartbeats 1000000 in
theorem implPoolRoom_any(v0 v1:Value)(lo hi:Nat)(p:PoolD)(w:World)(h1:PoolAt w lo hi v0 v1 p) :
  Calls Tryz.prog 227 #[.agg #[v0,v1]] w fun e w'=>e = .returned (.int .i64 (roomP p))∧Below w.heap.size w w':=by
 have Hp:Hid (PoolAt w lo hi v0 v1 p):=h1
 obtain⟨⟨m1,a,c,rfl,mc,g1⟩,⟨m2,a',c',rfl,mc',g2⟩⟩:=h1
 unfold maxLen at m1 m2
 clear g1 g2
 have ha:=below_alloc w (.cells #[.slice a p.n c,.slice a' p.hn c'] 33)
 go_enter Tryz.func227,Tryz.ntmps227
 go_wp2_with fail
 refine(implPoolRight_any _ _ lo hi p _ (Hp.out.below ha)).mono ?_
 rintro e w1 ⟨⟨t,rfl,ht⟩,hb1⟩
 have Hx:Hid (Box2 w1 w.heap.size (.slice a p.n c) (.slice a' p.hn c')):=(Box2.new w _ _ _).below hb1
 have hbn:=below_next ha hb1
 clear ha hb1
 by_cases hR:Right p
 ·obtain rfl:t=true:=ht.2 hR
  have HR:Hid (Right p):=hR
  have hn200:(p.n:Int)≤200:=by have:=hR.1; omega
  clear ht hR
  obtain⟨⟨y0,y1⟩,⟨y2,y3⟩⟩:=Hx.out
  have HRo:Hid (roomP p=(roomN p.s p.n:Int)):=if_pos HR.out
  have HB:Hid (Below w.heap.size w w1):=hbn
  go_wp2
  clear y0 y1 y2 y3 hbn
  go_loopw [3,12] (fun m i wr=>∃k:Nat,k≤p.n∧i = .int .i64 k∧m = .int .i64 (roomN p.s k:Int)∧Below w.heap.size w wr) (fun _ i _=>p.n - (intOf i).toNat)
  case atStart=>exact⟨0,Nat.zero_le _,rfl,rfl,HB.out⟩
  case round=>
   obtain⟨k,hk,rfl,rfl,hb⟩:=hrel
   have hrn:=roomN_le p.s k
   by_cases hlt:k<p.n
   ·have hlt':(k:Int)<(p.n:Int):=by omega
    obtain⟨b,off,ka,kc,rfl,hs⟩:=(Hp.out.1.below hb).cells hlt
    have Hs:Hid (SlotCells wr b (off+k*3) lo hi ka kc (p.s k)):=hs
    obtain⟨q0,q1,q2,_⟩:=hs
    go_wp2_with fail
    have hal:=below_alloc wr (.cells #[.int .i64 (p.s k).birth,.slice ka (p.s k).kn kc,.string (p.s k).data] 127)
    refine(isFree_any _ _ _ lo hi (p.s k) _ (Hs.out.slot.below hal)).mono ?_
    rintro e w2 ⟨⟨t,rfl,ht⟩,hb1⟩
    have hbm:=below_next hb (below_next hal hb1)
    clear hb1 q0 q1 q2 Hs hal
    by_cases hf:Free (p.s k)
    ·obtain rfl:t=true:=ht.2 hf
     have HF:Hid (Free (p.s k)):=hf
     clear ht hf
     go_wp2
     go_roundw
     case rel=>exact⟨k+1,by omega,by go_num,congrArg (Value.int .i64) (by rw [roomN_yes HF.out]; omega),hbm⟩
     case measure=>simp [intOf]; omega
    ·obtain rfl:t=false:=bool_no ht hf
     have HF:Hid (¬Free (p.s k)):=hf
     clear ht hf
     go_wp2
     go_roundw
     case rel=>exact⟨k+1,by omega,by go_num,congrArg (Value.int .i64) (by rw [roomN_no HF.out]),hbm⟩
     case measure=>simp [intOf]; omega
   ·obtain rfl:k=p.n:=by omega
    go_wp2
    go_ret
    exact⟨by rw [HRo.out]; rfl,hb⟩
 ·obtain rfl:t=false:=bool_no ht hR
  have HR:Hid (¬Right p):=hR
  clear ht hR
  go_wp2
  go_ret
  refine⟨?_,hbn⟩
  have e:roomP p=0:=if_neg HR.out
  rw [e]
  rfl
end Go.Proofs.YtmgeglgboadfiaaGreatDoor
