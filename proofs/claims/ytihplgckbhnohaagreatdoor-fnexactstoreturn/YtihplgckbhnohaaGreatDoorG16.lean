/- What spec.l04Apart answers: no slot stands in two trees, and in neither one's tree ahead. -/
import Derived.Test.YtihplgckbhnohaaGreatDoorG15
import Derived.Test.YtihplgckbhnohaaGreatDoorProg
import GoSem.ClaimJoined
import GoSem.ClaimMapViews
import Derived.JoinedTies
import Derived.KernelRfl
import Derived.RowKit
import Derived.Test.YtihplgckbhnohaaGreatDoorG1
import Derived.WalkKit
import Derived.WalkSpells
import Derived.WalkLawsBesides
import Derived.ProofKit
namespace Go.Proofs.YtihplgckbhnohaaGreatDoor
open Go.RowKit Go.Maps
set_option linter.unusedVariables false
def ApartTo(W:WorldD)(k:Nat):Prop:=∀i,i<k→∀j,j<i→∀x,x∈ownM W(memOf W i)→∀y,y∈ownM W(memOf W j)→x.1≠y.1
def ApartRow(W:WorldD)(k:Nat)(now old:List(Int×Int))(j:Nat):Prop:=∀q,q<j→(fstL now q,sndL now q)∉old→∀i,i<k→∀y,y∈ownM W(memOf W i)→fstL now q≠y.1
def SeenN(W:WorldD)(k:Nat)(now old:List(Int×Int))(j s:Nat):Prop:=(∃i,i<k∧∃b,((s:Int),b)∈ownM W(memOf W i))∨∃q,q<j∧fstL now q=(s:Int)∧(fstL now q,sndL now q)∉old
def SeensN(W:WorldD)(k:Nat)(now old:List(Int×Int))(j:Nat)(f:Nat→Bool):Prop:=∀s,f s=true↔SeenN W k now old j s
theorem apart_next{W:WorldD}{k:Nat}{now old:List(Int×Int)}(h:ApartTo W k)(hn:now=treeM W(memOf W k))(ho:old=oldM W(memOf W k))(hr:ApartRow W k now old now.length):ApartTo W(k+1):=by
 intro i hi j hj x hx y hy
 by_cases e:i=k
 ·subst e
  obtain⟨h1,h2⟩:=List.mem_filter.1 hx
  rw [←hn] at h1
  rw [←ho] at h2
  obtain⟨q,hq,e⟩:=List.getElem_of_mem h1
  have:=hr q hq
  unfold fstL sndL at this
  rw [getD_lt hq,e] at this
  exact this(by simpa using h2)j hj y hy
 ·exact h i(by omega)j hj x hx y hy
theorem seen_skip{W:WorldD}{k j:Nat}{now old:List(Int×Int)}{f:Nat→Bool}(h:SeensN W k now old j f)(hin:(fstL now j,sndL now j)∈old):SeensN W k now old(j+1)f:=by
 intro s
 rw [h s]
 constructor
 ·rintro(h | ⟨q,hq,h⟩)
  ·exact Or.inl h
  ·exact Or.inr⟨q,by omega,h⟩
 ·rintro(h | ⟨q,hq,h1,h2⟩)
  ·exact Or.inl h
  ·by_cases e:q=j
   ·subst e; exact absurd hin h2
   ·exact Or.inr⟨q,by omega,h1,h2⟩
theorem seen_mark{W:WorldD}{k j s:Nat}{now old:List(Int×Int)}{f:Nat→Bool}(h:SeensN W k now old j f)(hs:fstL now j=(s:Int))(hin:(fstL now j,sndL now j)∉old):SeensN W k now old(j+1)(fun i=>if i=s then true else f i):=by
 intro i
 show(if i=s then true else f i)=true↔_
 by_cases e:i=s
 ·subst e
  rw [if_pos rfl]
  exact⟨fun _=>Or.inr⟨j,by omega,hs,hin⟩,fun _=>rfl⟩
 ·rw [if_neg e,h i]
  constructor
  ·rintro(h | ⟨q,hq,h⟩)
   ·exact Or.inl h
   ·exact Or.inr⟨q,by omega,h⟩
  ·rintro(h | ⟨q,hq,h,h2⟩)
   ·exact Or.inl h
   ·by_cases eq:q=j
    ·subst eq; exact absurd(by omega)e
    ·exact Or.inr⟨q,by omega,h,h2⟩
theorem row_skip{W:WorldD}{k j:Nat}{now old:List(Int×Int)}(h:ApartRow W k now old j)(hin:(fstL now j,sndL now j)∈old):ApartRow W k now old(j+1):=by
 intro q hq
 by_cases e:q=j
 ·subst e; exact fun h=>absurd hin h
 ·exact h q(by omega)
theorem row_mark{W:WorldD}{k j s:Nat}{now old:List(Int×Int)}{f:Nat→Bool}(h:ApartRow W k now old j)(hS:SeensN W k now old j f)(hs:fstL now j=(s:Int))(hf:f s=false):ApartRow W k now old(j+1):=by
 intro q hq
 by_cases e:q=j
 ·subst e
  intro _ i hi y hy ey
  have:f s=true:=(hS s).2(Or.inl⟨i,hi,y.2,by rw [←hs,ey]; exact hy⟩)
  rw [hf] at this
  exact absurd this(by simp)
 ·exact h q(by omega)
theorem seen_tree{W:WorldD}{k:Nat}{now old:List(Int×Int)}{f:Nat→Bool}(h:SeensN W k now old now.length f)(hn:now=treeM W(memOf W k))(ho:old=oldM W(memOf W k)):SeensN W(k+1) [] [] 0 f:=by
 intro s
 rw [h s]
 constructor
 ·rintro(⟨i,hi,h⟩ | ⟨q,hq,e,h2⟩)
  ·exact Or.inl⟨i,by omega,h⟩
  ·refine Or.inl⟨k,by omega,(now[q]).2,?_⟩
   unfold fstL sndL at h2
   unfold fstL at e
   rw [getD_lt hq] at e h2
   refine List.mem_filter.2⟨?_,?_⟩
   ·rw [←hn,←e]; exact List.getElem_mem hq
   ·rw [←ho,←e]; simpa using h2
 ·rintro(⟨i,hi,b,h2⟩ | ⟨q,hq,_⟩)
  ·by_cases e:i=k
   ·subst e
    obtain⟨h3,h4⟩:=List.mem_filter.1 h2
    rw [←hn] at h3
    rw [←ho] at h4
    obtain⟨q,hq,e⟩:=List.getElem_of_mem h3
    refine Or.inr⟨q,hq,?_⟩
    unfold fstL sndL
    rw [getD_lt hq,e]
    exact⟨rfl,by simpa using h4⟩
   ·exact Or.inl⟨i,by omega,b,h2⟩
  ·omega
theorem seen_start{W:WorldD}{k:Nat}{f:Nat→Bool}(h:SeensN W k [] [] 0 f)(now old:List(Int×Int)):SeensN W k now old 0 f:=by
 intro s
 rw [h s]
 constructor
 ·rintro(h | ⟨q,hq,_⟩)
  ·exact Or.inl h
  ·omega
 ·rintro(h | ⟨q,hq,_⟩)
  ·exact Or.inl h
  ·omega
theorem seen_twice{W:WorldD}{k j s:Nat}{now old:List(Int×Int)}{f:Nat→Bool}(hT:Trees W)(hk:k<memN W)(hn:now=treeM W(memOf W k))(ho:old=oldM W(memOf W k))(hS:SeensN W k now old j f)(hj:j<now.length)(hs:fstL now j=(s:Int))(hin:(fstL now j,sndL now j)∉old)(hf:f s=true):¬ApartM W:=by
 intro hA
 rcases(hS s).1 hf with⟨i,hi,b,h⟩ | ⟨q,hq,e,h2⟩
 ·refine hA k hk i hi(fstL now j,sndL now j)?_ _ h hs
  refine List.mem_filter.2⟨?_,by rw [←ho]; simpa using hin⟩
  rw [←hn]
  unfold fstL sndL
  rw [getD_lt hj]
  exact List.getElem_mem hj
 ·have hok:=ptrsOk_list hT.right(l:=now)(fun x hx=>by rw [hn] at hx; exact(tree_mem hT.right(hT.tree k hk)hx).1)(by rw [hn]; exact tree_nodup' hT.right(hT.tree k hk))(by rw [hn]; have:=treeL_len W.pool(memOf W k).rs(memOf W k).rb; unfold treeM; omega)
  exact hok.2.2 j hj q hq(by rw [e,hs])
end Go.Proofs.YtihplgckbhnohaaGreatDoor

namespace Go.Proofs.YtihplgckbhnohaaGreatDoor
open Go.RowKit Go.Maps
set_option linter.unusedVariables false
set_option maxRecDepth 20000 in
set_option maxHeartbeats 3000000 in
theorem l04Apart_any(v0 v1 v2 v3:Value)(lo hi:Nat)(W:WorldD)(w:World)(h:WorldAt w lo hi v0 v1 v2 v3 W)(hT:Trees W)(hP:IdsPos W)(hs:W.sn≤8)(hp:W.pn≤20) :
  Calls Tryz.prog 74 #[worldV v0 v1 v2 v3 W] w fun e w'=>BoolIs(ApartM W)e∧Below w.heap.size w w':=by
 have Hp:=hideW h
 have HT:=hideW hT
 have HP:=hideW hP
 obtain⟨m1,a,c,rfl,mc,-⟩:=id h.snaps
 obtain⟨m2,a',c',rfl,mc',-⟩:=id h.sets
 obtain⟨m0,a0,c0,rfl,mc0,-⟩:=id h.pool.1
 unfold maxLen at m0 m1 m2
 have hpn:W.pool.n≤200:=hT.right.1
 clear h hT hP
 have hmk:=run_make_bools W.pool.n(by omega)
 have ha:=below_alloc w(.cells #[.slice a0 W.pool.n c0,v1,.int .i64 W.time,.int .i64 W.next,.slice a' W.sn c',.slice a W.pn c] 39)
 have hz1:(w.alloc(.cells #[.slice a0 W.pool.n c0,v1,.int .i64 W.time,.int .i64 W.next,.slice a' W.sn c',.slice a W.pn c] 39)).heap.size=w.heap.size+1:=World.size_alloc _ _
 have hst:∀W1:World,W1=w.alloc(.cells #[.slice a0 W.pool.n c0,v1,.int .i64 W.time,.int .i64 W.next,.slice a' W.sn c',.slice a W.pn c] 39)→Box6(W1.alloc(.cells(madeCells #[.bool false] W.pool.n)4))w.heap.size(.slice a0 W.pool.n c0)v1(.int .i64 W.time)(.int .i64 W.next)(.slice a' W.sn c')(.slice a W.pn c)∧BoolsC(W1.alloc(.cells(madeCells #[.bool false] W.pool.n)4))(w.heap.size+1)W.pool.n(fun _=>false)∧Below w.heap.size w(W1.alloc(.cells(madeCells #[.bool false] W.pool.n)4))∧w.heap.size+2≤(W1.alloc(.cells(madeCells #[.bool false] W.pool.n)4)).heap.size:=by
  rintro W1 rfl
  have hB:=Box6.new w(.slice a0 W.pool.n c0)v1(.int .i64 W.time)(.int .i64 W.next)(.slice a' W.sn c')(.slice a W.pn c)39
  have hR:=BoolsC.new(w.alloc(.cells #[.slice a0 W.pool.n c0,v1,.int .i64 W.time,.int .i64 W.next,.slice a' W.sn c',.slice a W.pn c] 39))W.pool.n 4
  rw [hz1] at hR
  generalize w.alloc(.cells #[.slice a0 W.pool.n c0,v1,.int .i64 W.time,.int .i64 W.next,.slice a' W.sn c',.slice a W.pn c] 39)=W1 at *
  have b2:=below_alloc W1(.cells(madeCells #[.bool false] W.pool.n)4)
  exact⟨hB.below b2,hR,below_next ha b2,by rw [World.size_alloc,hz1]; omega⟩
 have HST:=hideW(hst _ rfl)
 clear hst
 go_enter Tryz.func74,Tryz.ntmps74
 obtain⟨⟨x0,x1⟩,⟨x2,x3⟩,⟨x4,x5⟩,⟨x6,x7⟩,⟨x8,x9⟩,⟨x10,x11⟩⟩:=Box6.new w(.slice a0 W.pool.n c0)v1(.int .i64 W.time)(.int .i64 W.next)(.slice a' W.sn c')(.slice a W.pn c)39
 go_wp2
 clear x0 x1 x2 x3 x4 x5 x6 x7 x8 x9 x10 x11 ha
 go_loopw [4](fun i wr=>∃k:Nat,∃f,k≤W.pn+W.sn∧i = .int .i64 k∧Box6 wr w.heap.size(.slice a0 W.pool.n c0)v1(.int .i64 W.time)(.int .i64 W.next)(.slice a' W.sn c')(.slice a W.pn c)∧BoolsC wr(w.heap.size+1)W.pool.n f∧SeensN W k [] [] 0 f∧ApartTo W k∧Below w.heap.size w wr∧w.heap.size+2≤wr.heap.size)(fun i _=>W.pn+W.sn - (intOf i).toNat)
 case atStart=>
  obtain⟨s1,s2,s3,s4⟩:=HST.out
  exact⟨0,fun _=>false,Nat.zero_le _,rfl,s1,s2,fun s=>⟨fun h=>absurd h(by simp),fun h=>by rcases h with⟨i,hi,_⟩ | ⟨q,hq,_⟩ <;> omega⟩,fun i hi=>absurd hi(Nat.not_lt_zero _),s3,s4⟩
 case round=>
  clear HST hz1
  obtain⟨k,f,hk,rfl,hX,hR,hS,hA,hb,hz⟩:=hrel
  have HX:=hideW hX
  have HRr:=hideW hR
  have HS:=hideW hS
  have HA:=hideW hA
  clear hX hR hS hA
  obtain⟨⟨x0,x1⟩,⟨x2,x3⟩,⟨x4,x5⟩,⟨x6,x7⟩,⟨x8,x9⟩,⟨x10,x11⟩⟩:=HX.out
  by_cases hlt:k<W.pn+W.sn
  ·have hlt':(k:Int)<(W.pn+W.sn:Int):=by omega
   by_cases hlp:k<W.pn
   ·have hlp':(k:Int)<(W.pn:Int):=by omega
    obtain⟨b,off,vd,rfl,hsc⟩:=(Hp.out.snaps.below hb).cells hlp
    have q3:=hsc.c3
    have q5:=hsc.c5
    have q6:=hsc.c6
    have Hm:=hideW(show(memOf W k).prev=(W.snaps k).prev∧(memOf W k).rs=(W.snaps k).rs∧(memOf W k).rb=(W.snaps k).rb from by rw [memOf_snap hlp]; exact⟨rfl,rfl,rfl⟩)
    clear hsc
    have hba:=below_alloc wr(.cells #[.int .i64 0,.int .i64 0] 88)
    have HX1:=hideW(HX.out.below hba)
    have HV1:=hideW(Box2.new wr(.int .i64 0)(.int .i64 0)88)
    have HR1:=hideW(HRr.out.below hba)
    have r3:=(hba.cell(lt_of_cell q3)).trans q3
    have r5:=(hba.cell(lt_of_cell q5)).trans q5
    have r6:=(hba.cell(lt_of_cell q6)).trans q6
    have hb1:=below_next hb hba
    have hz2:(wr.alloc(.cells #[.int .i64 0,.int .i64 0] 88)).heap.size=wr.heap.size+1:=World.size_alloc _ _
    have hlb:b<wr.heap.size:=lt_of_cell q3
    have hne1:w.heap.size≠wr.heap.size:=by omega
    have hne2:b≠wr.heap.size:=by omega
    obtain⟨⟨y0,y1⟩,⟨y2,y3⟩,⟨y4,y5⟩,⟨y6,y7⟩,⟨y8,y9⟩,⟨y10,y11⟩⟩:=HX1.out
    obtain⟨⟨p0,p1⟩,⟨p2,p3⟩⟩:=HV1.out
    generalize hxe:(W.snaps k).prev=x at *
    generalize hrse:(W.snaps k).rs=rs at *
    generalize hrbe:(W.snaps k).rb=rb at *
    have Hxe:=hideW(And.intro hxe(And.intro hrse hrbe))
    clear hxe hrse hrbe
    have hbc:=below_alloc wr(.cells #[.int .i64 rs,.int .i64 rb] 88)
    have HX2:=hideW(HX.out.below hbc)
    have HV2:=hideW(Box2.new wr(.int .i64 rs)(.int .i64 rb)88)
    have HR2:=hideW(HRr.out.below hbc)
    have hb2:=below_next hb hbc
    obtain⟨⟨z0,z1⟩,⟨z2,z3⟩,⟨z4,z5⟩,⟨z6,z7⟩,⟨z8,z9⟩,⟨z10,z11⟩⟩:=HX2.out
    go_wp2_with fail
    clear x0 x1 x2 x3 x4 x5 x6 x7 x8 x9 x10 x11 y0 y1 y2 y3 y4 y5 y6 y7 y8 y9 y10 y11 z0 z1 z2 z3 z4 z5 z6 z7 z8 z9 z10 z11 p0 p1 p2 p3 r3 r5 r6 q3 q5 q6 HX1 HV1 HR1 hb1 hba hz2 hne1 hne2 hlb hbc
    have hz3:w.heap.size+2≤(wr.alloc(.cells #[.int .i64 rs,.int .i64 rb] 88)).heap.size:=by rw [World.size_alloc]; omega
    generalize wr.alloc(.cells #[.int .i64 rs,.int .i64 rb] 88)=W3 at HX2 HV2 HR2 hb2 hz3 ⊢
    refine(l04Ahead_any _ v1 _ _ lo hi W x W3(Hp.out.below hb2)).mono ?_
    rintro e w1⟨s,bb,t,rfl,hF,hb3⟩
    have hq:=ahead_of HP.out hF
    have Hto:=hideW(show TreeOk W.pool s bb by rw [hq.1,hq.2.1]; exact HT.out.old x)
    have Htn:=hideW(show TreeOk W.pool rs rb by have:=HT.out.tree k(by unfold memN; omega); rw [Hm.out.2.1,Hm.out.2.2] at this; exact this)
    have HE:=hideW(show treeL W.pool rs rb=treeM W(memOf W k)∧treeL W.pool s bb=oldM W(memOf W k)by unfold treeM oldM; rw [Hm.out.1,Hm.out.2.1,Hm.out.2.2,hq.1,hq.2.1]; exact⟨rfl,rfl⟩)
    have ha4:=below_alloc w1(.cells #[.int .i64 s,.int .i64 bb] 88)
    have HX4:=hideW((HX2.out.below hb3).below ha4)
    have HV4:=hideW((HV2.out.below hb3).below ha4)
    have HR4:=hideW((HR2.out.below hb3).below ha4)
    have HY4:=hideW(Box2.new w1(.int .i64 s)(.int .i64 bb)88)
    have hb5:=below_next(below_next hb2 hb3)ha4
    have hz5:w.heap.size+2≤(w1.alloc(.cells #[.int .i64 s,.int .i64 bb] 88)).heap.size:=by have h1:=hb3.size; have h2:=ha4.size; omega
    clear hq hF hb3 ha4 HX2 HV2 HR2 hb2 hz3 Hxe Hm
    obtain⟨⟨x0,x1⟩,⟨x2,x3⟩,⟨x4,x5⟩,⟨x6,x7⟩,⟨x8,x9⟩,⟨x10,x11⟩⟩:=HX4.out
    obtain⟨⟨p0,p1⟩,⟨p2,p3⟩⟩:=HY4.out
    clear x4 x5 x6 x7 x8 x9 x10 x11 x1 x3 p1 p3
    go_wp2_with fail
    clear x0 x2 p0 p2
    generalize w1.alloc(.cells #[.int .i64 s,.int .i64 bb] 88)=w4 at HX4 HV4 HR4 HY4 hb5 hz5 ⊢
    refine(l02Ptrs_any _ v1 lo hi W.pool s bb w4(Hp.out.pool.below hb5)HT.out.right Hto.out).mono ?_
    rintro e w5⟨vo,rfl,hro,hb6⟩
    have HX5:=hideW(HX4.out.below hb6)
    have HV5:=hideW(HV4.out.below hb6)
    have HR5:=hideW(HR4.out.below hb6)
    have Hro:=hideW(hro.mono hz5)
    have hb7:=below_next hb5 hb6
    have hz6:w.heap.size+2≤w5.heap.size:=by have h1:=hb6.size; omega
    clear hro hb6 HX4 HV4 HR4 HY4 hb5 hz5 Hto
    obtain⟨⟨x0,x1⟩,⟨x2,x3⟩,⟨x4,x5⟩,⟨x6,x7⟩,⟨x8,x9⟩,⟨x10,x11⟩⟩:=HX5.out
    obtain⟨⟨p0,p1⟩,⟨p2,p3⟩⟩:=HV5.out
    clear x4 x5 x6 x7 x8 x9 x10 x11 x1 x3 p1 p3
    go_wp2_with fail
    clear x0 x2 p0 p2
    refine(l02Ptrs_any _ v1 lo hi W.pool rs rb w5(Hp.out.pool.below hb7)HT.out.right Htn.out).mono ?_
    rintro e w6⟨vn,rfl,hrn,hb8⟩
    have HX6:=hideW(HX5.out.below hb8)
    have HR6:=hideW(HR5.out.below hb8)
    have Hro6:=hideW(Hro.out.below hb8)
    have Hrn6:=hideW(hrn.mono hz6)
    have hb9:=below_next hb7 hb8
    have hz9:w.heap.size+2≤w6.heap.size:=by have h1:=hb8.size; omega
    have Hsl:=hideW(fun j(hj:j<(treeL W.pool rs rb).length)=>slot_nat HT.out.right Htn.out hj)
    have hln:=treeL_len W.pool rs rb
    have hlo:=treeL_len W.pool s bb
    clear hrn hb8 HX5 HV5 HR5 Hro hb7 hz6 Htn
    obtain⟨an,cn,rfl,hcn⟩:=owns_form Hrn6.out
    generalize treeL W.pool rs rb=now at *
    generalize treeL W.pool s bb=old at *
    go_wp2
    go_loopw [11](fun i wr2=>∃j:Nat,∃f,j≤now.length∧i = .int .i64 j∧RowL wr2(w.heap.size+2)vo old∧RowL wr2(w.heap.size+2)(.slice an now.length cn)now∧Box6 wr2 w.heap.size(.slice a0 W.pool.n c0)v1(.int .i64 W.time)(.int .i64 W.next)(.slice a' W.sn c')(.slice(some⟨b,off,none⟩)W.pn c)∧BoolsC wr2(w.heap.size+1)W.pool.n f∧SeensN W k now old j f∧ApartRow W k now old j∧Below w.heap.size w wr2∧w.heap.size+2≤wr2.heap.size)(fun i _=>now.length - (intOf i).toNat)
    case atStart=>exact⟨0,f,Nat.zero_le _,rfl,Hro6.out,Hrn6.out,HX6.out,HR6.out,seen_start HS.out _ _,fun q hq=>absurd hq(Nat.not_lt_zero _),hb9,hz9⟩
    case round=>
     clear HX6 HR6 Hro6 Hrn6 hb9 hz9 HS HX HRr hb hz
     obtain⟨j,f,hj,rfl,hro,hrn,hX,hR,hS,hAr,hb,hz⟩:=hrel
     have Hro:=hideW hro
     have Hrn:=hideW hrn
     have HX:=hideW hX
     have HRr:=hideW hR
     have HS:=hideW hS
     have HAr:=hideW hAr
     clear hro hrn hX hR hS hAr
     by_cases hjt:j<now.length
     ·have hjt':(j:Int)<(now.length:Int):=by omega
      obtain⟨b2,off2,rfl,q0,q1⟩:=(Hrn.out.atW(by omega)).cellsD hjt
      obtain⟨sl,hs1,hs2⟩:=Hsl.out j hjt
      have hs3:(sl:Int)<(W.pool.n:Int):=by omega
      have Hs1:=hideW hs1
      clear hs1
      go_wp2_with fail
      refine(l03In_any _ old.length 0 _(fstL old)(sndL old)(fstL now j)(sndL now j)_(Hro.out.atW(by omega))).mono ?_
      rintro e w7⟨⟨t7,rfl,ht7⟩,hb10⟩
      have Hin:=hideW(ht7.trans pin_list)
      have z0:=(hb10.cell(p:=⟨b2,off2+j*2,none⟩)(lt_of_cell q0)).trans q0
      have Hro7:=hideW(Hro.out.below hb10)
      have Hrn7:=hideW(Hrn.out.below hb10)
      have HX7:=hideW(HX.out.below hb10)
      have HR7:=hideW(HRr.out.below hb10)
      have hb11:=below_next hb hb10
      have hz11:w.heap.size+2≤w7.heap.size:=by have h1:=hb10.size; omega
      clear ht7 hb10 q0 q1 Hro Hrn HX HRr hb hz
      cases t7
      ·have Hn:=hideW(show(fstL now j,sndL now j)∉old from fun h=>absurd(Hin.out.2 h)(by simp))
       clear Hin
       rw [Hs1.out] at z0
       obtain⟨y0,y1⟩:=HR7.out sl hs2
       cases hfs:f sl
       ·have Hfs:=hideW hfs
        rw [hfs] at y0
        clear hfs
        go_wp2
        go_roundw
        case rel=>exact⟨j+1,_,by omega,by go_num,Hro7.out.put(by omega)_,Hrn7.out.put(by omega)_,HX7.out.turned(Turned.put _(w.heap.size+1)sl _)(by omega),HR7.out.put true,seen_mark HS.out Hs1.out Hn.out,row_mark HAr.out HS.out Hs1.out Hfs.out,hb11.setCell(show w.heap.size≤w.heap.size+1 by omega)_,by rw [World.size_setCell]; exact hz11⟩
        case measure=>simp [intOf]; omega
       ·have Hfs:=hideW hfs
        rw [hfs] at y0
        clear hfs
        go_wp2
        go_ret
        exact⟨BoolIs.no(seen_twice HT.out(by unfold memN; omega)HE.out.1 HE.out.2 HS.out hjt Hs1.out Hn.out Hfs.out),hb11⟩
      ·have Hn:=hideW(Hin.out.1 rfl)
       clear Hin
       go_wp2
       go_roundw
       case rel=>exact⟨j+1,f,by omega,by go_num,Hro7.out,Hrn7.out,HX7.out,HR7.out,seen_skip HS.out Hn.out,row_skip HAr.out Hn.out,hb11,hz11⟩
       case measure=>simp [intOf]; omega
     ·obtain rfl:j=now.length:=by omega
      go_wp2
      go_roundw
      case rel=>exact⟨k+1,f,by omega,by go_num,HX.out,HRr.out,seen_tree HS.out HE.out.1 HE.out.2,apart_next HA.out HE.out.1 HE.out.2 HAr.out,hb,hz⟩
      case measure=>simp [intOf]; omega
   ·have hlp':¬(k:Int)<(W.pn:Int):=by omega
    have hks:k - W.pn<W.sn:=by omega
    have hsub:(k:Int) - (W.pn:Int)=((k - W.pn:Nat):Int):=(Int.ofNat_sub(by omega)).symm
    have hks':((k - W.pn:Nat):Int)<(W.sn:Int):=Int.ofNat_lt.2 hks
    obtain⟨b,off,vd,rfl,hsc⟩:=(Hp.out.sets.below hb).cells hks
    have q3:=hsc.c2
    have q5:=hsc.c3
    have q6:=hsc.c4
    have Hm:=hideW(show(memOf W k).prev=(W.sets(k - W.pn)).prev∧(memOf W k).rs=(W.sets(k - W.pn)).rs∧(memOf W k).rb=(W.sets(k - W.pn)).rb from by have e:=memOf_set W(k - W.pn); rw [show W.pn+(k - W.pn)=k by omega] at e; rw [e]; exact⟨rfl,rfl,rfl⟩)
    clear hsc
    have hba:=below_alloc wr(.cells #[.int .i64 0,.int .i64 0] 88)
    have HX1:=hideW(HX.out.below hba)
    have HV1:=hideW(Box2.new wr(.int .i64 0)(.int .i64 0)88)
    have HR1:=hideW(HRr.out.below hba)
    have r3:=(hba.cell(lt_of_cell q3)).trans q3
    have r5:=(hba.cell(lt_of_cell q5)).trans q5
    have r6:=(hba.cell(lt_of_cell q6)).trans q6
    have hb1:=below_next hb hba
    have hz2:(wr.alloc(.cells #[.int .i64 0,.int .i64 0] 88)).heap.size=wr.heap.size+1:=World.size_alloc _ _
    have hlb:b<wr.heap.size:=lt_of_cell q3
    have hne1:w.heap.size≠wr.heap.size:=by omega
    have hne2:b≠wr.heap.size:=by omega
    obtain⟨⟨y0,y1⟩,⟨y2,y3⟩,⟨y4,y5⟩,⟨y6,y7⟩,⟨y8,y9⟩,⟨y10,y11⟩⟩:=HX1.out
    obtain⟨⟨p0,p1⟩,⟨p2,p3⟩⟩:=HV1.out
    generalize hxe:(W.sets(k - W.pn)).prev=x at *
    generalize hrse:(W.sets(k - W.pn)).rs=rs at *
    generalize hrbe:(W.sets(k - W.pn)).rb=rb at *
    have Hxe:=hideW(And.intro hxe(And.intro hrse hrbe))
    clear hxe hrse hrbe
    have hbc:=below_alloc wr(.cells #[.int .i64 rs,.int .i64 rb] 88)
    have HX2:=hideW(HX.out.below hbc)
    have HV2:=hideW(Box2.new wr(.int .i64 rs)(.int .i64 rb)88)
    have HR2:=hideW(HRr.out.below hbc)
    have hb2:=below_next hb hbc
    obtain⟨⟨z0,z1⟩,⟨z2,z3⟩,⟨z4,z5⟩,⟨z6,z7⟩,⟨z8,z9⟩,⟨z10,z11⟩⟩:=HX2.out
    go_wp2_with fail
    clear x0 x1 x2 x3 x4 x5 x6 x7 x8 x9 x10 x11 y0 y1 y2 y3 y4 y5 y6 y7 y8 y9 y10 y11 z0 z1 z2 z3 z4 z5 z6 z7 z8 z9 z10 z11 p0 p1 p2 p3 r3 r5 r6 q3 q5 q6 HX1 HV1 HR1 hb1 hba hz2 hne1 hne2 hlb hbc
    have hz3:w.heap.size+2≤(wr.alloc(.cells #[.int .i64 rs,.int .i64 rb] 88)).heap.size:=by rw [World.size_alloc]; omega
    generalize wr.alloc(.cells #[.int .i64 rs,.int .i64 rb] 88)=W3 at HX2 HV2 HR2 hb2 hz3 ⊢
    refine(l04Ahead_any _ v1 _ _ lo hi W x W3(Hp.out.below hb2)).mono ?_
    rintro e w1⟨s,bb,t,rfl,hF,hb3⟩
    have hq:=ahead_of HP.out hF
    have Hto:=hideW(show TreeOk W.pool s bb by rw [hq.1,hq.2.1]; exact HT.out.old x)
    have Htn:=hideW(show TreeOk W.pool rs rb by have:=HT.out.tree k(by unfold memN; omega); rw [Hm.out.2.1,Hm.out.2.2] at this; exact this)
    have HE:=hideW(show treeL W.pool rs rb=treeM W(memOf W k)∧treeL W.pool s bb=oldM W(memOf W k)by unfold treeM oldM; rw [Hm.out.1,Hm.out.2.1,Hm.out.2.2,hq.1,hq.2.1]; exact⟨rfl,rfl⟩)
    have ha4:=below_alloc w1(.cells #[.int .i64 s,.int .i64 bb] 88)
    have HX4:=hideW((HX2.out.below hb3).below ha4)
    have HV4:=hideW((HV2.out.below hb3).below ha4)
    have HR4:=hideW((HR2.out.below hb3).below ha4)
    have HY4:=hideW(Box2.new w1(.int .i64 s)(.int .i64 bb)88)
    have hb5:=below_next(below_next hb2 hb3)ha4
    have hz5:w.heap.size+2≤(w1.alloc(.cells #[.int .i64 s,.int .i64 bb] 88)).heap.size:=by have h1:=hb3.size; have h2:=ha4.size; omega
    clear hq hF hb3 ha4 HX2 HV2 HR2 hb2 hz3 Hxe Hm
    obtain⟨⟨x0,x1⟩,⟨x2,x3⟩,⟨x4,x5⟩,⟨x6,x7⟩,⟨x8,x9⟩,⟨x10,x11⟩⟩:=HX4.out
    obtain⟨⟨p0,p1⟩,⟨p2,p3⟩⟩:=HY4.out
    clear x4 x5 x6 x7 x8 x9 x10 x11 x1 x3 p1 p3
    go_wp2_with fail
    clear x0 x2 p0 p2
    generalize w1.alloc(.cells #[.int .i64 s,.int .i64 bb] 88)=w4 at HX4 HV4 HR4 HY4 hb5 hz5 ⊢
    refine(l02Ptrs_any _ v1 lo hi W.pool s bb w4(Hp.out.pool.below hb5)HT.out.right Hto.out).mono ?_
    rintro e w5⟨vo,rfl,hro,hb6⟩
    have HX5:=hideW(HX4.out.below hb6)
    have HV5:=hideW(HV4.out.below hb6)
    have HR5:=hideW(HR4.out.below hb6)
    have Hro:=hideW(hro.mono hz5)
    have hb7:=below_next hb5 hb6
    have hz6:w.heap.size+2≤w5.heap.size:=by have h1:=hb6.size; omega
    clear hro hb6 HX4 HV4 HR4 HY4 hb5 hz5 Hto
    obtain⟨⟨x0,x1⟩,⟨x2,x3⟩,⟨x4,x5⟩,⟨x6,x7⟩,⟨x8,x9⟩,⟨x10,x11⟩⟩:=HX5.out
    obtain⟨⟨p0,p1⟩,⟨p2,p3⟩⟩:=HV5.out
    clear x4 x5 x6 x7 x8 x9 x10 x11 x1 x3 p1 p3
    go_wp2_with fail
    clear x0 x2 p0 p2
    refine(l02Ptrs_any _ v1 lo hi W.pool rs rb w5(Hp.out.pool.below hb7)HT.out.right Htn.out).mono ?_
    rintro e w6⟨vn,rfl,hrn,hb8⟩
    have HX6:=hideW(HX5.out.below hb8)
    have HR6:=hideW(HR5.out.below hb8)
    have Hro6:=hideW(Hro.out.below hb8)
    have Hrn6:=hideW(hrn.mono hz6)
    have hb9:=below_next hb7 hb8
    have hz9:w.heap.size+2≤w6.heap.size:=by have h1:=hb8.size; omega
    have Hsl:=hideW(fun j(hj:j<(treeL W.pool rs rb).length)=>slot_nat HT.out.right Htn.out hj)
    have hln:=treeL_len W.pool rs rb
    have hlo:=treeL_len W.pool s bb
    clear hrn hb8 HX5 HV5 HR5 Hro hb7 hz6 Htn
    obtain⟨an,cn,rfl,hcn⟩:=owns_form Hrn6.out
    generalize treeL W.pool rs rb=now at *
    generalize treeL W.pool s bb=old at *
    go_wp2
    go_loopw [11](fun i wr2=>∃j:Nat,∃f,j≤now.length∧i = .int .i64 j∧RowL wr2(w.heap.size+2)vo old∧RowL wr2(w.heap.size+2)(.slice an now.length cn)now∧Box6 wr2 w.heap.size(.slice a0 W.pool.n c0)v1(.int .i64 W.time)(.int .i64 W.next)(.slice(some⟨b,off,none⟩)W.sn c')(.slice a W.pn c)∧BoolsC wr2(w.heap.size+1)W.pool.n f∧SeensN W k now old j f∧ApartRow W k now old j∧Below w.heap.size w wr2∧w.heap.size+2≤wr2.heap.size)(fun i _=>now.length - (intOf i).toNat)
    case atStart=>exact⟨0,f,Nat.zero_le _,rfl,Hro6.out,Hrn6.out,HX6.out,HR6.out,seen_start HS.out _ _,fun q hq=>absurd hq(Nat.not_lt_zero _),hb9,hz9⟩
    case round=>
     clear HX6 HR6 Hro6 Hrn6 hb9 hz9 HS HX HRr hb hz
     obtain⟨j,f,hj,rfl,hro,hrn,hX,hR,hS,hAr,hb,hz⟩:=hrel
     have Hro:=hideW hro
     have Hrn:=hideW hrn
     have HX:=hideW hX
     have HRr:=hideW hR
     have HS:=hideW hS
     have HAr:=hideW hAr
     clear hro hrn hX hR hS hAr
     by_cases hjt:j<now.length
     ·have hjt':(j:Int)<(now.length:Int):=by omega
      obtain⟨b2,off2,rfl,q0,q1⟩:=(Hrn.out.atW(by omega)).cellsD hjt
      obtain⟨sl,hs1,hs2⟩:=Hsl.out j hjt
      have hs3:(sl:Int)<(W.pool.n:Int):=by omega
      have Hs1:=hideW hs1
      clear hs1
      go_wp2_with fail
      refine(l03In_any _ old.length 0 _(fstL old)(sndL old)(fstL now j)(sndL now j)_(Hro.out.atW(by omega))).mono ?_
      rintro e w7⟨⟨t7,rfl,ht7⟩,hb10⟩
      have Hin:=hideW(ht7.trans pin_list)
      have z0:=(hb10.cell(p:=⟨b2,off2+j*2,none⟩)(lt_of_cell q0)).trans q0
      have Hro7:=hideW(Hro.out.below hb10)
      have Hrn7:=hideW(Hrn.out.below hb10)
      have HX7:=hideW(HX.out.below hb10)
      have HR7:=hideW(HRr.out.below hb10)
      have hb11:=below_next hb hb10
      have hz11:w.heap.size+2≤w7.heap.size:=by have h1:=hb10.size; omega
      clear ht7 hb10 q0 q1 Hro Hrn HX HRr hb hz
      cases t7
      ·have Hn:=hideW(show(fstL now j,sndL now j)∉old from fun h=>absurd(Hin.out.2 h)(by simp))
       clear Hin
       rw [Hs1.out] at z0
       obtain⟨y0,y1⟩:=HR7.out sl hs2
       cases hfs:f sl
       ·have Hfs:=hideW hfs
        rw [hfs] at y0
        clear hfs
        go_wp2
        go_roundw
        case rel=>exact⟨j+1,_,by omega,by go_num,Hro7.out.put(by omega)_,Hrn7.out.put(by omega)_,HX7.out.turned(Turned.put _(w.heap.size+1)sl _)(by omega),HR7.out.put true,seen_mark HS.out Hs1.out Hn.out,row_mark HAr.out HS.out Hs1.out Hfs.out,hb11.setCell(show w.heap.size≤w.heap.size+1 by omega)_,by rw [World.size_setCell]; exact hz11⟩
        case measure=>simp [intOf]; omega
       ·have Hfs:=hideW hfs
        rw [hfs] at y0
        clear hfs
        go_wp2
        go_ret
        exact⟨BoolIs.no(seen_twice HT.out(by unfold memN; omega)HE.out.1 HE.out.2 HS.out hjt Hs1.out Hn.out Hfs.out),hb11⟩
      ·have Hn:=hideW(Hin.out.1 rfl)
       clear Hin
       go_wp2
       go_roundw
       case rel=>exact⟨j+1,f,by omega,by go_num,Hro7.out,Hrn7.out,HX7.out,HR7.out,seen_skip HS.out Hn.out,row_skip HAr.out Hn.out,hb11,hz11⟩
       case measure=>simp [intOf]; omega
     ·obtain rfl:j=now.length:=by omega
      go_wp2
      go_roundw
      case rel=>exact⟨k+1,f,by omega,by go_num,HX.out,HRr.out,seen_tree HS.out HE.out.1 HE.out.2,apart_next HA.out HE.out.1 HE.out.2 HAr.out,hb,hz⟩
      case measure=>simp [intOf]; omega
  ·obtain rfl:k=W.pn+W.sn:=by omega
   go_wp2
   go_ret
   exact⟨BoolIs.yes HA.out,hb⟩
end Go.Proofs.YtihplgckbhnohaaGreatDoor

namespace Go.Proofs.YtihplgckbhnohaaGreatDoor
open Go.RowKit
set_option linter.unusedVariables false
def OkAt(i:Nat)(c:Int):Prop:=(97≤c∧c≤122)∨(i≠0∧((48≤c∧c≤57)∨c=95))
def NameP(s:ByteArray):Prop:=1≤s.size∧s.size≤20∧∀j,(h:j<s.size)→OkAt j(s[j].toNat:Int)
theorem relKN{s:ByteArray}{k:Nat}(hlt:k<s.size)(hall:∀j,(h:j<k)→(h':j<s.size)→OkAt j(s[j].toNat:Int))(hok:OkAt k(s[k].toNat:Int)) :
  ∃m:Nat,m≤s.size∧Value.int .i64((k:Int)+1) = .int .i64(m:Int)∧∀j,(h:j<m)→(h':j<s.size)→OkAt j(s[j].toNat:Int):=by
 refine⟨k+1,by omega,by simp,fun j h h'=>?_⟩
 by_cases e:j=k
 ·subst e; exact hok
 ·exact hall j(by omega)h'
theorem rel0N{s:ByteArray}(hlt:0<s.size)(hok:OkAt 0(s[0].toNat:Int)) :
  ∃m:Nat,m≤s.size∧Value.int .i64 1 = .int .i64(m:Int)∧∀j,(h:j<m)→(h':j<s.size)→OkAt j(s[j].toNat:Int):=by
 refine⟨1,by omega,by simp,fun j h h'=>?_⟩
 obtain rfl:j=0:=by omega
 exact hok
set_option maxHeartbeats 400000 in
theorem specName_any(s:ByteArray)(w:World)(hs:s.size≤maxLen) :
  Calls Tryz.prog 94 #[.string s] w fun e w'=>BoolIs(NameP s)e∧w'=w:=by
 unfold maxLen at hs
 by_cases h1:s.size<1
 ·have h1':(s.size:Int)<1:=by omega
  go_enter Tryz.func94,Tryz.ntmps94
  go_wp2
  go_ret
  exact⟨⟨false,rfl,by simp [NameP]; omega⟩,rfl⟩
 by_cases h2:20<s.size
 ·have h2':(20:Int)<(s.size:Int):=by omega
  have h1':¬(s.size:Int)<1:=by omega
  go_enter Tryz.func94,Tryz.ntmps94
  go_wp2
  go_ret
  exact⟨⟨false,rfl,by simp [NameP]; omega⟩,rfl⟩
 have h1':¬(s.size:Int)<1:=by omega
 have h2':¬(20:Int)<(s.size:Int):=by omega
 go_enter Tryz.func94,Tryz.ntmps94
 go_wp2
 go_loop [3](fun i=>∃k:Nat,k≤s.size∧i = .int .i64 k∧∀j,(h:j<k)→(h':j<s.size)→OkAt j(s[j].toNat:Int))(fun i=>s.size - (intOf i).toNat)
 case atStart=>exact⟨0,Nat.zero_le _,rfl,fun j h=>absurd h(Nat.not_lt_zero _)⟩
 case round=>
  obtain⟨k,hk,rfl,hall⟩:=hrel
  have Hall:Hid(∀j,(h:j<k)→(h':j<s.size)→OkAt j(s[j].toNat:Int)):=hall
  clear hall
  by_cases hlt:k<s.size
  ·by_cases hk0:k=0
   all_goals try subst hk0
   all_goals go_wp2
   all_goals try(go_ret; refine⟨⟨false,rfl,?_⟩,rfl⟩; simp only [Bool.false_eq_true,false_iff]; intro h; have h3:=h.2.2 _ hlt; unfold OkAt at h3; first | omega | grind)
   all_goals
    go_round
    case measure=>simp [intOf]; omega
    case rel=>first | exact rel0N hlt(by unfold OkAt; first | omega | grind) | exact relKN hlt Hall.out(by unfold OkAt; first | omega | grind)
  ·go_wp2
   go_ret
   refine⟨⟨true,rfl,?_⟩,rfl⟩
   simp only [true_iff]
   exact⟨by omega,by omega,fun j h=>Hall.out j(by omega)h⟩
set_option maxHeartbeats 400000 in
theorem implName_any(s:ByteArray)(w:World)(hs:s.size≤maxLen) :
  Calls Tryz.prog 131 #[.string s] w fun e w'=>BoolIs(NameP s)e∧w'=w:=by
 unfold maxLen at hs
 by_cases h1:s.size<1
 ·have h1':(s.size:Int)<1:=by omega
  go_enter Tryz.func131,Tryz.ntmps131
  go_wp2
  go_ret
  exact⟨⟨false,rfl,by simp [NameP]; omega⟩,rfl⟩
 by_cases h2:20<s.size
 ·have h2':(20:Int)<(s.size:Int):=by omega
  have h1':¬(s.size:Int)<1:=by omega
  go_enter Tryz.func131,Tryz.ntmps131
  go_wp2
  go_ret
  exact⟨⟨false,rfl,by simp [NameP]; omega⟩,rfl⟩
 have h1':¬(s.size:Int)<1:=by omega
 have h2':¬(20:Int)<(s.size:Int):=by omega
 have h0:0<s.size:=by omega
 by_cases hc0:97≤(s[0].toNat:Int)∧(s[0].toNat:Int)≤122
 ·obtain⟨hc1,hc2⟩:=hc0
  go_enter Tryz.func131,Tryz.ntmps131
  go_wp2
  go_loop [20](fun i=>∃k:Nat,k≤s.size∧i = .int .i64 k∧∀j,(h:j<k)→(h':j<s.size)→OkAt j(s[j].toNat:Int))(fun i=>s.size - (intOf i).toNat)
  case atStart=>exact⟨0,Nat.zero_le _,rfl,fun j h=>absurd h(Nat.not_lt_zero _)⟩
  case round=>
   obtain⟨k,hk,rfl,hall⟩:=hrel
   have Hall:Hid(∀j,(h:j<k)→(h':j<s.size)→OkAt j(s[j].toNat:Int)):=hall
   clear hall
   by_cases hlt:k<s.size
   ·by_cases hk0:k=0
    all_goals try subst hk0
    all_goals go_wp2
    all_goals try(go_ret; refine⟨⟨false,rfl,?_⟩,rfl⟩; simp only [Bool.false_eq_true,false_iff]; intro h; have h3:=h.2.2 _ hlt; unfold OkAt at h3; first | omega | grind)
    all_goals
     go_round
     case measure=>simp [intOf]; omega
     case rel=>first | exact rel0N hlt(by unfold OkAt; first | omega | grind) | exact relKN hlt Hall.out(by unfold OkAt; first | omega | grind)
   ·go_wp2
    go_ret
    refine⟨⟨true,rfl,?_⟩,rfl⟩
    simp only [true_iff]
    exact⟨by omega,by omega,fun j h=>Hall.out j(by omega)h⟩
 ·by_cases hc1:97≤(s[0].toNat:Int)
  ·have hc2:¬(s[0].toNat:Int)≤122:=fun h=>hc0⟨hc1,h⟩
   clear hc0
   go_enter Tryz.func131,Tryz.ntmps131
   go_wp2
   go_ret
   refine⟨⟨false,rfl,?_⟩,rfl⟩; simp only [Bool.false_eq_true,false_iff]; intro h; have h3:=h.2.2 _ h0; unfold OkAt at h3; omega
  ·clear hc0
   go_enter Tryz.func131,Tryz.ntmps131
   go_wp2
   go_ret
   refine⟨⟨false,rfl,?_⟩,rfl⟩; simp only [Bool.false_eq_true,false_iff]; intro h; have h3:=h.2.2 _ h0; unfold OkAt at h3; omega
def Rises(a b:ByteArray):Prop:=Op.bytesLess a.toList b.toList=true
theorem bl_total:∀x y:List UInt8,Op.bytesLess x y=true∨x=y∨Op.bytesLess y x=true
 | [],[]=>Or.inr(Or.inl rfl)
 | [],b :: y=>Or.inl(by simp [Op.bytesLess])
 | a :: x,[]=>Or.inr(Or.inr(by simp [Op.bytesLess]))
 | a :: x,b :: y=>by
  simp only [Op.bytesLess,Bool.or_eq_true,decide_eq_true_eq,Bool.and_eq_true,beq_iff_eq,List.cons.injEq]
  by_cases h:a=b
  ·subst h
   rcases bl_total x y with h | h | h
   ·exact Or.inl(Or.inr⟨rfl,h⟩)
   ·exact Or.inr(Or.inl⟨rfl,h⟩)
   ·exact Or.inr(Or.inr(Or.inr⟨rfl,h⟩))
  ·have:a<b∨b<a:=by
    have hne:a.toNat≠b.toNat:=fun e=>h(UInt8.toNat_inj.1 e)
    rw [UInt8.lt_iff_toNat_lt,UInt8.lt_iff_toNat_lt]
    omega
   rcases this with h | h
   ·exact Or.inl(Or.inl h)
   ·exact Or.inr(Or.inr(Or.inl h))
theorem bl_irrefl:∀x:List UInt8,Op.bytesLess x x=false
 | []=>rfl
 | a :: x=>by simp [Op.bytesLess,bl_irrefl x]
theorem bl_asymm:∀x y:List UInt8,Op.bytesLess x y=true→Op.bytesLess y x=false
 | [],[],h=>by simp [Op.bytesLess] at h
 | [],b :: y,_=>by simp [Op.bytesLess]
 | a :: x,[],h=>by simp [Op.bytesLess] at h
 | a :: x,b :: y,h=>by
  simp only [Op.bytesLess,Bool.or_eq_true,decide_eq_true_eq,Bool.and_eq_true,beq_iff_eq] at h
  rw [←Bool.not_eq_true]
  simp only [Op.bytesLess,Bool.or_eq_true,decide_eq_true_eq,Bool.and_eq_true,beq_iff_eq,UInt8.lt_iff_toNat_lt] at h ⊢
  rintro(h' | ⟨h',h2⟩)
  ·rcases h with h | ⟨h,_⟩
   ·omega
   ·subst h; omega
  ·subst h'
   rcases h with h | ⟨_,h⟩
   ·omega
   ·rw [bl_asymm x y h] at h2
    exact absurd h2(by simp)
theorem bytes_eq{a b:ByteArray}(h:a.toList=b.toList):a=b:=by
 rw [Go.ByteArray.toList_eq,Go.ByteArray.toList_eq] at h
 cases a; cases b
 simp only [ByteArray.mk.injEq] at *
 exact Array.toList_inj.1 h
theorem leq_iff(a b:ByteArray):(Op.bytesLess a.toList b.toList || a.toList == b.toList)=false↔Rises b a:=by
 unfold Rises
 rw [Bool.or_eq_false_iff,beq_eq_false_iff_ne]
 constructor
 ·rintro⟨h1,h2⟩
  rcases bl_total a.toList b.toList with h | h | h
  ·rw [h1] at h; exact absurd h(by simp)
  ·exact absurd h h2
  ·exact h
 ·intro h
  refine⟨bl_asymm _ _ h,fun e=>?_⟩
  rw [e,bl_irrefl] at h
  exact absurd h(by simp)
theorem bl_trans:∀x y z:List UInt8,Op.bytesLess x y=true→Op.bytesLess y z=true→Op.bytesLess x z=true
 | _,[],_,h,_=>by cases ‹List UInt8› <;> simp [Op.bytesLess] at h
 | [],_ :: _,[],_,h=>by simp [Op.bytesLess] at h
 | [],_ :: _,_ :: _,_,_=>by simp [Op.bytesLess]
 | _ :: _,_ :: _,[],_,h=>by simp [Op.bytesLess] at h
 | a :: x,b :: y,c :: z,h,h'=>by
  simp only [Op.bytesLess,Bool.or_eq_true,decide_eq_true_eq,Bool.and_eq_true,beq_iff_eq,UInt8.lt_iff_toNat_lt] at h h' ⊢
  rcases h with h | ⟨h,h1⟩
  ·rcases h' with h' | ⟨h',h2⟩
   ·left; omega
   ·subst h'; left; exact h
  ·subst h
   rcases h' with h' | ⟨h',h2⟩
   ·left; exact h'
   ·subst h'; right; exact⟨rfl,bl_trans x y z h1 h2⟩
end Go.Proofs.YtihplgckbhnohaaGreatDoor

namespace Go.Proofs.YtihplgckbhnohaaGreatDoor
open Go.RowKit Go.Maps
set_option linter.unusedVariables false
def HasId(W:WorldD)(x:Int):Prop:=∃k,k<W.pn∧(W.snaps k).id=x
def HasSet(W:WorldD)(x:ByteArray):Prop:=∃k,k<W.sn∧(W.sets k).name=x
def SetOk(W:WorldD)(i:Nat):Prop:=NameP(W.sets i).name∧(0<i→Rises(W.sets(i - 1)).name(W.sets i).name)∧((W.sets i).prev≠0→HasId W(W.sets i).prev)∧((W.sets i).origin≠0→HasId W(W.sets i).origin)
def SnapA(W:WorldD)(i:Nat):Prop:=1≤(W.snaps i).id∧(W.snaps i).id<W.next∧1≤(W.snaps i).time∧(W.snaps i).time<W.time∧NameP(W.snaps i).name∧HasSet W(W.snaps i).set
def SnapB(W:WorldD)(i:Nat):Prop:=(0<i→(W.snaps(i - 1)).id<(W.snaps i).id∧(W.snaps(i - 1)).time<(W.snaps i).time)∧((W.snaps i).prev≠0→(W.snaps i).prev<(W.snaps i).id∧HasId W(W.snaps i).prev)
def SnapC(W:WorldD)(i j:Nat):Prop:=∀k,k<j→¬((W.snaps k).set=(W.snaps i).set∧(W.snaps k).name=(W.snaps i).name)
def SnapOk(W:WorldD)(i:Nat):Prop:=SnapA W i∧SnapB W i∧SnapC W i i
def SpecNames(W:WorldD):Prop:=Between W.time 1 900000∧Between W.next 1 900000∧W.sn≤8∧W.pn≤20∧(∀i,i<W.sn→SetOk W i)∧∀i,i<W.pn→SnapOk W i
theorem first_snap{W:WorldD}{x r:Int}(h:FirstAt W.pn(fun k=>(W.snaps k).id=x)r):(HasId W x∧0≤r∧r<W.pn∧(W.snaps r.toNat).id=x)∨(¬HasId W x∧r = -1):=by
 rcases h with⟨k,hk,e,_,rfl⟩ | ⟨hn,rfl⟩
 ·exact Or.inl⟨⟨k,hk,e⟩,by omega,by omega,by simpa using e⟩
 ·exact Or.inr⟨fun⟨k,hk,e⟩=>hn k hk e,rfl⟩
theorem first_set{W:WorldD}{x:ByteArray}{r:Int}(h:FirstAt W.sn(fun k=>(W.sets k).name=x)r):(HasSet W x∧0≤r)∨(¬HasSet W x∧r = -1):=by
 rcases h with⟨k,hk,e,_,rfl⟩ | ⟨hn,rfl⟩
 ·exact Or.inl⟨⟨k,hk,e⟩,by omega⟩
 ·exact Or.inr⟨fun⟨k,hk,e⟩=>hn k hk e,rfl⟩
def Box8(w:World)(b:Nat)(v0 v1 v2 v3 v4 v5 v6 v7:Value):Prop:=(Cell w b 0 v0∧Cell w b 1 v1∧Cell w b 2 v2∧Cell w b 3 v3)∧(Cell w b 4 v4∧Cell w b 5 v5∧Cell w b 6 v6∧Cell w b 7 v7)
theorem Box8.below{w w':World}{b:Nat}{v0 v1 v2 v3 v4 v5 v6 v7:Value}(h:Box8 w b v0 v1 v2 v3 v4 v5 v6 v7)(t:Below w.heap.size w w'):Box8 w' b v0 v1 v2 v3 v4 v5 v6 v7:=
 ⟨⟨h.1.1.below t,h.1.2.1.below t,h.1.2.2.1.below t,h.1.2.2.2.below t⟩,h.2.1.below t,h.2.2.1.below t,h.2.2.2.1.below t,h.2.2.2.2.below t⟩
theorem Box8.new(w:World)(v0 v1 v2 v3 v4 v5 v6 v7:Value)(t:TypeId):Box8(w.alloc(.cells #[v0,v1,v2,v3,v4,v5,v6,v7] t))w.heap.size v0 v1 v2 v3 v4 v5 v6 v7:=by
 have hb:(w.alloc(.cells #[v0,v1,v2,v3,v4,v5,v6,v7] t)).heap[w.heap.size]?=some(.cells #[v0,v1,v2,v3,v4,v5,v6,v7] t):=heap_alloc_new _ _
 exact⟨⟨cell_of_block hb rfl,cell_of_block hb rfl,cell_of_block hb rfl,cell_of_block hb rfl⟩,cell_of_block hb rfl,cell_of_block hb rfl,cell_of_block hb rfl,cell_of_block hb rfl⟩
end Go.Proofs.YtihplgckbhnohaaGreatDoor

namespace Go.Proofs.YtihplgckbhnohaaGreatDoor
open Go.RowKit Go.Maps
set_option linter.unusedVariables false
open Classical in
noncomputable def ownN(W:WorldD)(name:ByteArray):Nat→Nat
 | 0=>0
 | k+1=>ownN W name k+(if(W.snaps k).set=name then 1 else 0)
theorem ownN_yes{W:WorldD}{name:ByteArray}{k:Nat}(h:(W.snaps k).set=name):ownN W name(k+1)=ownN W name k+1:=by simp [ownN,h]
theorem ownN_no{W:WorldD}{name:ByteArray}{k:Nat}(h:¬(W.snaps k).set=name):ownN W name(k+1)=ownN W name k:=by simp [ownN,h]
theorem ownN_le(W:WorldD)(name:ByteArray):∀k,ownN W name k≤k
 | 0=>Nat.le_refl _
 | k+1=>by
  have:=ownN_le W name k
  by_cases h:(W.snaps k).set=name
  ·rw [ownN_yes h]; omega
  ·rw [ownN_no h]; omega
inductive Steps(W:WorldD)(name:ByteArray)(start:Int):Nat→Int→Prop
 | zero:Steps W name start 0 start
 | next{n:Nat}{x:Int}{k:Nat}:Steps W name start n x→SnapNo W x k→(W.snaps k).set=name→Steps W name start(n+1)(W.snaps k).prev
def OwnAt(W:WorldD)(name:ByteArray)(x:Int):Prop:=∃k,SnapNo W x k∧(W.snaps k).set=name
def LineOk(W:WorldD)(name:ByteArray)(start origin:Int):Prop:=∃n e,Steps W name start n e∧¬OwnAt W name e∧n=ownN W name W.pn∧e=origin
theorem Steps.det{W:WorldD}{name:ByteArray}{start:Int}:∀{n:Nat}{x y:Int},Steps W name start n x→Steps W name start n y→x=y
 | 0,_,_,.zero,.zero=>rfl
 | n+1,_,_,.next h hk _,.next h' hk' _=>by
  have e:=Steps.det h h'
  subst e
  rw [SnapNo.uniq hk hk']
theorem Steps.less{W:WorldD}{name:ByteArray}{start:Int}:∀{n m:Nat}{x:Int},Steps W name start m x→n<m→∃y,Steps W name start n y∧OwnAt W name y
 | n,0,_,_,h=>absurd h(Nat.not_lt_zero _)
 | n,m+1,_,.next(x:=x)h hk hs,hl=>by
  by_cases e:n=m
  ·subst e; exact⟨x,h,_,hk,hs⟩
  ·exact Steps.less h(by omega)
theorem Steps.end{W:WorldD}{name:ByteArray}{start:Int}{n m:Nat}{x y:Int}(h:Steps W name start n x)(hx:¬OwnAt W name x)(h':Steps W name start m y)(hy:¬OwnAt W name y):n=m∧x=y:=by
 have e:n=m:=by
  rcases Nat.lt_trichotomy n m with hl | hl | hl
  ·obtain⟨z,hz,ho⟩:=h'.less hl
   rw [h.det hz] at hx
   exact absurd ho hx
  ·exact hl
  ·obtain⟨z,hz,ho⟩:=h.less hl
   rw [h'.det hz] at hy
   exact absurd ho hy
 subst e
 exact⟨rfl,h.det h'⟩
theorem line_iff{W:WorldD}{name:ByteArray}{start origin:Int}{n:Nat}{x:Int}(h:Steps W name start n x)(hx:¬OwnAt W name x):LineOk W name start origin↔n=ownN W name W.pn∧x=origin:=by
 constructor
 ·rintro⟨m,y,hs,hy,h1,h2⟩
  obtain⟨rfl,rfl⟩:=h.end hx hs hy
  exact⟨h1,h2⟩
 ·rintro⟨h1,h2⟩
  exact⟨n,x,h,hx,h1,h2⟩
theorem first_no{W:WorldD}{x r:Int}{k:Nat}(hk:SnapNo W x k)(h:FirstAt W.pn(fun k=>(W.snaps k).id=x)r):r=(k:Int):=by
 rcases h with⟨j,hj,e,hm,rfl⟩ | ⟨hn,_⟩
 ·rw [SnapNo.uniq hk⟨hj,e,hm⟩]
 ·exact absurd hk.2.1(hn k hk.1)
theorem HasId.no{W:WorldD}{x:Int}(h:HasId W x):∃k,SnapNo W x k:=snapNo_of(Nat.le_refl _)h
structure PrevOk(W:WorldD):Prop where
 ids:∀k,k<W.pn→1≤(W.snaps k).id∧(W.snaps k).id<900000
 prev:∀k,k<W.pn→(W.snaps k).prev=0∨HasId W(W.snaps k).prev
 less:∀k,k<W.pn→(W.snaps k).prev<(W.snaps k).id
 sets:∀k,k<W.sn→(W.sets k).prev=0∨HasId W(W.sets k).prev
 names:∀k,k<W.sn→(W.sets k).name.toList.isEmpty=false
theorem PrevOk.pos{W:WorldD}(h:PrevOk W):IdsPos W:=fun k hk=>(h.ids k hk).1
theorem HasId.range{W:WorldD}(h:PrevOk W){x:Int}(hx:HasId W x):1≤x∧x<900000:=by
 obtain⟨k,hk,rfl⟩:=hx
 exact h.ids k hk
theorem name_nonempty{s:ByteArray}(h:NameP s):s.toList.isEmpty=false:=by
 have:=h.1
 rw [Go.ByteArray.toList_eq]
 cases s with
 | mk d=>
  cases hd:d.toList with
  | nil=>
   have h0:d.size=0:=by rw [←Array.length_toList,hd]; rfl
   have h1:1≤d.size:=this
   omega
  | cons a l=>simp
theorem SpecNames.prevOk{W:WorldD}(h:SpecNames W):PrevOk W where
 ids:=fun k hk=>⟨(h.2.2.2.2.2 k hk).1.1,by have:=(h.2.2.2.2.2 k hk).1.2.1; have:=h.2.1.2; omega⟩
 prev:=fun k hk=>by
  by_cases e:(W.snaps k).prev=0
  ·exact Or.inl e
  ·exact Or.inr((h.2.2.2.2.2 k hk).2.1.2 e).2
 less:=fun k hk=>by
  by_cases e:(W.snaps k).prev=0
  ·have:=(h.2.2.2.2.2 k hk).1.1; omega
  ·exact((h.2.2.2.2.2 k hk).2.1.2 e).1
 sets:=fun k hk=>by
  by_cases e:(W.sets k).prev=0
  ·exact Or.inl e
  ·exact Or.inr((h.2.2.2.2.1 k hk).2.2.1 e)
 names:=fun k hk=>name_nonempty(h.2.2.2.2.1 k hk).1
structure WalkAt(W:WorldD)(name:ByteArray)(start:Int)(n:Nat)(x:Int):Prop where
 steps:Steps W name start n x
 there:x=0∨HasId W x
 least:0≤x
 sum:(n:Int)+x≤900000
theorem WalkAt.start{W:WorldD}(h:PrevOk W)(name:ByteArray){x:Int}(hx:x=0∨HasId W x):WalkAt W name x 0 x where
 steps:=.zero
 there:=hx
 least:=by rcases hx with rfl | hx; exact Int.le_refl _; have:=hx.range h; omega
 sum:=by rcases hx with rfl | hx; decide; have:=hx.range h; omega
theorem WalkAt.next{W:WorldD}(h:PrevOk W){name:ByteArray}{start:Int}{n:Nat}{x:Int}(hw:WalkAt W name start n x){k:Nat}(hk:SnapNo W x k)(hs:(W.snaps k).set=name):WalkAt W name start(n+1)(W.snaps k).prev where
 steps:=hw.steps.next hk hs
 there:=h.prev k hk.1
 least:=by rcases h.prev k hk.1 with e | e; omega; have:=e.range h; omega
 sum:=by have h1:=h.less k hk.1; have h2:=hw.sum; have h3:=hk.2.1; omega
theorem not_own_zero{W:WorldD}(h:PrevOk W)(name:ByteArray):¬OwnAt W name 0:=fun⟨k,hk,_⟩=>by
 have:=(h.ids k hk.1).1
 have:=hk.2.1
 omega
theorem not_own_no{W:WorldD}{name:ByteArray}{x:Int}{k:Nat}(hk:SnapNo W x k)(hs:¬(W.snaps k).set=name):¬OwnAt W name x:=fun⟨j,hj,e⟩=>hs(by rw [SnapNo.uniq hk hj]; exact e)
end Go.Proofs.YtihplgckbhnohaaGreatDoor
