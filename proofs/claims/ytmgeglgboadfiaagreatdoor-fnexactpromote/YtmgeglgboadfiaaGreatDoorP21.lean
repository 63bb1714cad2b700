/- New pools that hold the same: what impl.cloneSlots and impl.clonePool leave. -/
import Derived.Test.YtmgeglgboadfiaaGreatDoorP19
import Derived.Test.YtmgeglgboadfiaaGreatDoorP1
import Derived.Laws.OwnMore
import Derived.Deep.AppendLies
import Derived.Test.YtmgeglgboadfiaaGreatDoorP6
import Derived.Test.YtmgeglgboadfiaaGreatDoorP18
import Derived.Test.YtmgeglgboadfiaaGreatDoorP3
namespace Go.Proofs.YtmgeglgboadfiaaGreatDoor
open Go.RowKit
set_option linter.unusedVariables false
theorem sc_cells{w:World}{b off n:Nat}{f:Nat→SlotD}{cv:Nat→Value}(h:∀i,i<n→w.cell? ⟨b,off+i*3,none⟩=some (.int .i64 (f i).birth)∧w.cell? ⟨b,off+i*3+1,none⟩=some (cv i)∧w.cell? ⟨b,off+i*3+2,none⟩=some (.string (f i).data)) :
  ∀j u,(sc f cv n)[j]?=some u→w.cell? ⟨b,off+j,none⟩=some u:=by
 intro j u hj
 have hlt:j<n*3:=by
  have:=(List.getElem?_eq_some_iff.1 hj).1
  rwa [sc_len] at this
 obtain⟨c0,c1,c2⟩:=h (j / 3) (by omega)
 have e:=sc_at f cv n (j / 3) (j % 3) (by omega) (by omega)
 rw [show j / 3*3+j % 3=j by omega,hj] at e
 rcases(by omega:j % 3=0∨j % 3=1∨j % 3=2)with hm | hm | hm
 ·rw [hm] at e
  simp at e
  subst e
  rw [show off+j=off+j / 3*3 by omega]
  exact c0
 ·rw [hm] at e
  simp at e
  subst e
  rw [show off+j=off+j / 3*3+1 by omega]
  exact c1
 ·rw [hm] at e
  simp at e
  subst e
  rw [show off+j=off+j / 3*3+2 by omega]
  exact c2
theorem SlotsAt.values{w:World}{lo hi:Nat}{a:Option Addr}{n c:Nat}{f:Nat→SlotD}(h:SlotsAt w lo hi (.slice a n c) n f) :
  ∃cv:Nat→Value,(∀i,i<n→SlotAt w lo hi (.int .i64 (f i).birth) (cv i) (.string (f i).data) (f i))∧
   (0<n→∃b off,a=some ⟨b,off,none⟩∧lo≤b∧b<hi∧∀j u,(sc f cv n)[j]?=some u→w.cell? ⟨b,off+j,none⟩=some u):=by
 obtain⟨_,a0,c0,h0,_,g⟩:=h
 simp only [Value.slice.injEq,true_and] at h0
 obtain⟨rfl,rfl⟩:=h0
 by_cases hn:0<n
 ·obtain⟨b,off,ha,hb1,hb2,hc⟩:=g hn
  have hex:∀i,∃x,i<n→(w.cell? ⟨b,off+i*3,none⟩=some (.int .i64 (f i).birth)∧w.cell? ⟨b,off+i*3+1,none⟩=some x∧w.cell? ⟨b,off+i*3+2,none⟩=some (.string (f i).data))∧SlotAt w lo hi (.int .i64 (f i).birth) x (.string (f i).data) (f i):=fun i=>by
   by_cases hi:i<n
   ·obtain⟨v0,v1,v2,q0,q1,q2,hs⟩:=hc i hi
    have hs':=hs
    obtain⟨rfl,_,rfl,_⟩:=hs'
    exact⟨v1,fun _=>⟨⟨q0,q1,q2⟩,hs⟩⟩
   ·exact⟨.slice none 0 0,fun h=>absurd h hi⟩
  obtain⟨cv,hcv⟩:=Classical.axiomOfChoice hex
  exact⟨cv,fun i hi=>(hcv i hi).2,fun _=>⟨b,off,ha,hb1,hb2,sc_cells fun i hi=>(hcv i hi).1⟩⟩
 ·exact⟨fun _=>.slice none 0 0,fun i hi=>absurd hi (by omega),fun h=>absurd h hn⟩
theorem SlotAt.form{w:World}{lo hi:Nat}{v0 v1 v2:Value}{s:SlotD}(h:SlotAt w lo hi v0 v1 v2 s):∃ka kc,v1 = .slice ka s.kn kc:=by
 obtain⟨_,⟨_,ka,kc,h,_⟩,_⟩:=h
 exact⟨ka,kc,h⟩
structure Half (wr:World) (bs n k:Nat) (f:Nat→SlotD) (kb:Nat→Nat) (kv cv:Nat→Value):Prop where
 cells:∀j,j<n→Cell wr bs (j*3) (.int .i64 (f j).birth)∧Cell wr bs (j*3+1) (if j<k then kv j else cv j)∧Cell wr bs (j*3+2) (.string (f j).data)
 kids:∀j,j<k→PtrsOwn wr (kb j) (kv j) (f j).kn (f j).ks (f j).kb
 place:∀j,j<k→0<(f j).kn→bs<kb j∧kb j<wr.heap.size
 apart:KidsApart kb k f
theorem Half.below{wr w':World}{bs n k:Nat}{f:Nat→SlotD}{kb:Nat→Nat}{kv cv:Nat→Value}(h:Half wr bs n k f kb kv cv)(t:Below wr.heap.size wr w'):Half w' bs n k f kb kv cv:=
 ⟨fun j hj=>⟨(h.cells j hj).1.below t,(h.cells j hj).2.1.below t,(h.cells j hj).2.2.below t⟩,fun j hj=>(h.kids j hj).below t,fun j hj h0=>by have:=h.place j hj h0; have:=t.size; omega,h.apart⟩
theorem Half.next{wr w1:World}{bs n k b:Nat}{f:Nat→SlotD}{kb:Nat→Nat}{kv cv:Nat→Value}{v:Value}(h:Half wr bs n k f kb kv cv)(hk:k<n)(hbs:bs<wr.heap.size)(t:Below wr.heap.size wr w1)
  (hp:PtrsOwn w1 b v (f k).kn (f k).ks (f k).kb) (hb:0<(f k).kn→wr.heap.size≤b∧b<w1.heap.size) :
  Half (((w1.setCell ⟨bs,k*3,none⟩ (.int .i64 (f k).birth)).setCell ⟨bs,k*3+1,none⟩ v).setCell ⟨bs,k*3+2,none⟩ (.string (f k).data)) bs n (k+1) f (fun j=>if j=k then b else kb j) (fun j=>if j=k then v else kv j) cv:=by
 have h':=h.below t
 refine⟨fun j hj=>?_,fun j hj=>?_,fun j hj h0=>?_,fun i j hi hj hij h1 h2=>?_⟩
 ·obtain⟨c0,c1,c2⟩:=h'.cells j hj
  by_cases e:j=k
  ·subst e
   rw [if_pos (by omega),if_pos rfl]
   exact⟨((c0.set _).other _ (Or.inr (by omega))).other _ (Or.inr (by omega)),((c1.other _ (Or.inr (by omega))).set _).other _ (Or.inr (by omega)),((c2.other _ (Or.inr (by omega))).other _ (Or.inr (by omega))).set _⟩
  ·rw [if_neg e]
   have es:(if j<k+1 then kv j else cv j)=if j<k then kv j else cv j:=by
    by_cases e2:j<k
    ·rw [if_pos e2,if_pos (by omega)]
    ·rw [if_neg e2,if_neg (by omega)]
   rw [es]
   exact⟨((c0.other _ (Or.inr (by omega))).other _ (Or.inr (by omega))).other _ (Or.inr (by omega)),((c1.other _ (Or.inr (by omega))).other _ (Or.inr (by omega))).other _ (Or.inr (by omega)),((c2.other _ (Or.inr (by omega))).other _ (Or.inr (by omega))).other _ (Or.inr (by omega))⟩
 ·by_cases e:j=k
  ·subst e
   simp only [if_true]
   refine((hp.turned (Turned.put _ _ _ _) ?_).turned (Turned.put _ _ _ _) ?_).turned (Turned.put _ _ _ _) ?_
   all_goals exact fun h0 hx=>by have:=hb h0; omega
  ·simp only [if_neg e]
   refine(((h'.kids j (by omega)).turned (Turned.put _ _ _ _) ?_).turned (Turned.put _ _ _ _) ?_).turned (Turned.put _ _ _ _) ?_
   all_goals exact fun h0 hx=>by have:=h'.place j (by omega) h0; omega
 ·simp only [World.size_setCell]
  by_cases e:j=k
  ·subst e
   rw [if_pos rfl]
   have:=hb h0
   omega
  ·rw [if_neg e]
   have:=h'.place j (by omega) h0
   omega
 ·show(if i=k then b else kb i)≠(if j=k then b else kb j)
  by_cases e1:i=k
  ·by_cases e2:j=k
   ·omega
   ·rw [if_pos e1,if_neg e2]
    subst e1
    have:=hb h1
    have:=h.place j (by omega) h2
    omega
  ·by_cases e2:j=k
   ·rw [if_neg e1,if_pos e2]
    subst e2
    have:=hb h2
    have:=h.place i (by omega) h1
    omega
   ·rw [if_neg e1,if_neg e2]
    exact h.apart i j (by omega) (by omega) hij h1 h2
theorem Half.own{wr:World}{bs n:Nat}{f:Nat→SlotD}{kb:Nat→Nat}{kv cv:Nat→Value}{a:Option Addr}{c:Nat}(h:Half wr bs n n f kb kv cv)(hm:n≤maxLen)(ha:0<n→a=some ⟨bs,0,none⟩)(hc:n≤c)(hs:∀j,j<n→(f j).data.size≤maxLen):SlotsOwn wr bs kb kv (.slice a n c) n f:=
 ⟨hm,a,c,rfl,hc,fun h0=>⟨0,ha h0,fun i hi=>by
  obtain⟨c0,c1,c2⟩:=h.cells i hi
  rw [if_pos hi] at c1
  rw [Nat.zero_add]
  exact⟨c0,c1,c2,h.kids i hi,hs i hi,fun hk e=>by have:=h.place i hi hk; omega⟩⟩⟩
set_option maxRecDepth 20000 in
set_option maxHeartbeats 1000000 in
theorem cloneSlots_any(v:Value)(n lo hi:Nat)(f:Nat→SlotD)(w:World)(h1:SlotsAt w lo hi v n f)(hn:n≤1048576)(hk:∀j,j<n→(f j).kn≤1048576) :
  Calls Tryz.prog 193 #[v] w fun e w'=>∃v' bs kb kv,e = .returned v'∧SlotsOwn w' bs kb kv v' n f∧KidsApart kb n f∧(∀k,SlotsB bs kb n f k→w.heap.size≤k∧k<w'.heap.size)∧Below w.heap.size w w':=by
 have Hm:=hide h1.1
 have q1:=h1
 obtain⟨_,a,c,rfl,_,_⟩:=h1
 obtain⟨cv,hcv,hsrc⟩:=q1.values
 have Hcv:=hide hcv
 have Hk:=hide hk
 have hsrc':0<n→∃b off,a=some ⟨b,off,none⟩∧∀j u,(sc f cv n)[j]?=some u→w.cell? ⟨b,off+j,none⟩=some u:=fun h0=>by
  obtain⟨b,off,h2,_,_,h3⟩:=hsrc h0
  exact⟨b,off,h2,h3⟩
 have hone:=sc_one f cv n (fun i hi=>by obtain⟨ka,kc,e⟩:=(hcv i hi).form; rw [e]; rfl)
 clear hcv hk q1 hsrc
 go_enter Tryz.func193,Tryz.ntmps193
 go_wp2_with fail
 refine(cloneSlots_row a n c (sc f cv n) w (sc_len _ _ _) hone hn hsrc').mono ?_
 rintro e w1 ⟨v',rfl,hown,hb1,_⟩
 obtain⟨a1,c1,rfl,hnc⟩:=owns_form hown
 clear hone hsrc'
 have hbs:∃bs,(0<n→a1=some ⟨bs,0,none⟩∧w.heap.size≤bs∧bs<w1.heap.size)∧Half w1 bs n 0 f (fun _=>0) cv cv:=by
  by_cases h0:0<n
  ·obtain⟨g,cap,hv,_,hg1,hg2,hcell⟩:=owns_cell hown h0
   simp only [Value.slice.injEq,true_and] at hv
   obtain⟨rfl,rfl⟩:=hv
   refine⟨g,fun _=>⟨rfl,hg1,hg2⟩,fun j hj=>⟨?_,?_,?_⟩,fun j hj=>absurd hj (Nat.not_lt_zero _),fun j hj=>absurd hj (Nat.not_lt_zero _),fun i j hi=>absurd hi (Nat.not_lt_zero _)⟩
   ·have:=hcell (j*3+0) _ (sc_at f cv n j 0 hj (by omega)); simpa using this
   ·have:=hcell (j*3+1) _ (sc_at f cv n j 1 hj (by omega)); simpa using this
   ·have:=hcell (j*3+2) _ (sc_at f cv n j 2 hj (by omega)); simpa using this
  ·exact⟨0,fun h=>absurd h h0,fun j hj=>absurd hj (by omega),fun j hj=>absurd hj (Nat.not_lt_zero _),fun j hj=>absurd hj (Nat.not_lt_zero _),fun i j hi=>absurd hi (Nat.not_lt_zero _)⟩
 obtain⟨bs,hbs,hhalf⟩:=hbs
 have Hbs:=hide hbs
 have Hhalf:=hide hhalf
 clear hown hbs hhalf
 go_wp2
 go_loopw [4,5,10] (fun _ _ i wr=>∃(k:Nat) (kb:Nat→Nat) (kv:Nat→Value),k≤n∧i = .int .i64 k∧Half wr bs n k f kb kv cv∧Below w.heap.size w wr∧w1.heap.size≤wr.heap.size) (fun _ _ i _=>n - (intOf i).toNat)
 case atStart=>exact⟨0,_,_,Nat.zero_le _,rfl,Hhalf.out,hb1,Nat.le_refl _⟩
 case round=>
  obtain⟨k,kb,kv,hk,rfl,hh,hb,hz⟩:=hrel
  have Hh:=hide hh
  clear hh
  by_cases hlt:k<n
  ·have hlt':(k:Int)<(n:Int):=by omega
   obtain⟨rfl,hg1,hg2⟩:=Hbs.out (by omega)
   obtain⟨ka,kc,hcv⟩:=(Hcv.out k hlt).form
   have Hsl:Hid (SlotAt wr lo hi (.int .i64 (f k).birth) (.slice ka (f k).kn kc) (.string (f k).data) (f k)):=by
    have:=(Hcv.out k hlt).below hb
    rw [hcv] at this
    exact this
   obtain⟨⟨q0,r0⟩,q1,⟨q2,r2⟩⟩:=Hh.out.cells k hlt
   rw [if_neg (by omega),hcv] at q1
   obtain⟨q1,r1⟩:=q1
   go_wp2_with fail
   have ha:=below_alloc wr (.cells #[.int .i64 (f k).birth,.slice ka (f k).kn kc,.string (f k).data] 127)
   refine(cloneSlot_any _ _ _ lo hi (f k) _ (Hsl.out.below ha) (Hk.out k hlt)).mono ?_
   rintro e w2 ⟨nv,nb,rfl,hp2,hpl2,hb2⟩
   obtain⟨_,na,nc,rfl,_⟩:=id hp2
   have hbx:=below_next ha hb2
   have Hn2:=hide (Hh.out.next hlt (by omega) hbx hp2 (fun h0=>by have:=hpl2 h0; rw [World.size_alloc] at this; omega))
   have hbn:=below_next hb hbx
   have hzn:=hbx.size
   clear q0 q1 q2 r0 r1 r2
   obtain⟨⟨q0,r0⟩,q1,⟨q2,r2⟩⟩:=(Hh.out.below hbx).cells k hlt
   rw [if_neg (by omega),hcv] at q1
   obtain⟨q1,r1⟩:=q1
   clear hp2 hpl2 hb2 ha hbx hcv
   go_wp2
   go_roundw
   case rel=>exact⟨k+1,_,_,by omega,by go_num,Hn2.out,((hbn.setCell hg1 _).setCell hg1 _).setCell hg1 _,by simp only [World.size_setCell]; omega⟩
   case measure=>simp [intOf]; omega
  ·obtain rfl:k=n:=by omega
   go_wp2
   go_ret
   refine⟨_,bs,kb,kv,rfl,Hh.out.own Hm.out (fun h0=>(Hbs.out h0).1) hnc (fun j hj=>(Hcv.out j hj).2.2.2),Hh.out.apart,fun j hj=>?_,hb⟩
   rcases hj with⟨h0,rfl⟩ | ⟨i,hi,h0,rfl⟩
   ·have:=Hbs.out h0; omega
   ·have:=Hbs.out (by omega); have:=Hh.out.place i hi h0; omega
set_option maxRecDepth 20000 in
set_option maxHeartbeats 1000000 in
theorem clonePool_any(v0 v1:Value)(lo hi:Nat)(p:PoolD)(w:World)(h1:PoolAt w lo hi v0 v1 p)(hn:poolN p≤1048576):Calls Tryz.prog 168 #[.agg #[v0,v1]] w (NewPool p w):=by
 have Hp:=hide h1
 obtain⟨⟨m1,a,c,rfl,mc,g1⟩,⟨m2,a',c',rfl,mc',g2⟩⟩:=h1
 have Hm:=hide (And.intro m1 m2)
 clear g1 g2 m1 m2
 unfold poolN at hn
 have Hn:Hid (∀j,j<p.n→(p.s j).kn≤1048576):=fun j hj=>by have h2:=slotN_le p.s hj; unfold slotN at h2; omega
 have hn1:p.n≤1048576:=by omega
 have hn2:p.hn≤1048576:=by omega
 clear hn
 have ha1:=below_alloc w (.cells #[.slice a p.n c,.slice a' p.hn c'] 33)
 have hba:=below_next ha1 (below_alloc _ (.cells #[.slice none 0 0,.slice none 0 0] 33))
 have HB:=hide ((Box2.new w (.slice a p.n c) (.slice a' p.hn c') 33).below (below_alloc _ (.cells #[.slice none 0 0,.slice none 0 0] 33)))
 have hr3:=Box2.new (w.alloc (.cells #[.slice a p.n c,.slice a' p.hn c'] 33)) (.slice none 0 0) (.slice none 0 0) 33
 rw [World.size_alloc] at hr3
 have HR:=hide hr3
 clear ha1 hr3
 go_enter Tryz.func168,Tryz.ntmps168
 go_wp2_with fail
 generalize hW:(w.alloc (.cells #[.slice a p.n c,.slice a' p.hn c'] 33)).alloc (.cells #[.slice none 0 0,.slice none 0 0] 33)=W at HB HR hba ⊢
 have hz:W.heap.size=w.heap.size+2:=by rw [←hW,World.size_alloc,World.size_alloc]
 clear hW
 obtain⟨⟨x0,x1⟩,⟨x2,x3⟩⟩:=HB.out
 obtain⟨⟨y0,y1⟩,⟨y2,y3⟩⟩:=HR.out
 go_region_held3 (fun w'=>w'.cell? ⟨w.heap.size,0,none⟩=some (.slice a p.n c)∧w'.cell? ⟨w.heap.size,1,none⟩=some (.slice a' p.hn c')) (go_keep)
  (first
   | (go_at_call 193; refine(cloneSlots_any _ p.n lo hi p.s _ ?_ hn1 Hn.out).mono ?_; (exact Hp.out.1.below hba.drew); rintro e w1 ⟨v',bs,kb,kv,rfl,ho,hap,hpl,hb1⟩; obtain⟨_,sa,sc',rfl,_⟩:=id ho; have hb1':=below_undrew hb1; obtain⟨⟨z0,z1⟩,⟨z2,z3⟩⟩:=HB.out.below hb1')
   | (go_at_call 211; refine(cloneInts_row _ _ _ (ic p.h p.hn) _ (ic_len _ _) (ic_one _ _) hn2 ?_).mono ?_; (exact news_at Hp.out.2 rfl (below_next hba hb1')); rintro e w2 ⟨v',rfl,hown,hb2,hz0⟩; obtain⟨ia,ic',rfl,_⟩:=owns_form hown; have hb2':=below_next hb1' hb2; obtain⟨⟨z4,z5⟩,⟨z6,z7⟩⟩:=HB.out.below hb2'; have HR2:=hide (HR.out.below hb2'); obtain⟨⟨z8,z9⟩,⟨z10,z11⟩⟩:=HR.out.below hb2'))
 obtain⟨hb,hint,hipl⟩:=ints_of_owns Hm.out.2 hown hz0
 have hz1:W.heap.size≤w1.heap.size:=hb1'.size
 have hz2:w1.heap.size≤w2.heap.size:=hb2.size
 have hpl':∀k,SlotsB bs kb p.n p.s k→W.heap.size≤k∧k<w1.heap.size:=hpl
 have Hpo:Hid (PoolOwn w2 (w.heap.size+2) w2.heap.size (.slice sa p.n sc') (.slice ia p.hn ic') p):=by
  refine⟨bs,hb,kb,kv,ho.below hb2,hap,hint,fun h0 hx=>?_,fun k hk=>?_⟩
  ·have:=hpl' _ hx; have:=hipl h0; omega
  ·rcases hk with hk | ⟨h0,rfl⟩
   ·have:=hpl' _ hk; omega
   ·have:=hipl h0; omega
 have hbw:=below_next hba hb2'
 clear hint hipl hpl hpl' ho hap hown hb1 hb1' hb2 hb2'
 go_wp2
 have HR6:=HR2.out.put (.slice sa p.n sc') (.slice ia p.hn ic')
 refine bodyPost_ret (v:=.agg #[.slice sa p.n sc',.slice ia p.hn ic']) (by simp [results,Tryz.results168,go_sem,HR6.1.1,HR6.2.1]) rfl ⟨_,_,rfl,?_,?_⟩
 ·have t:=(Turned.put w2 (w.heap.size+1) 0 (.slice sa p.n sc')).trans (Turned.put _ (w.heap.size+1) 1 (.slice ia p.hn ic'))
  have hz:=t.size
  exact(Hpo.out.turned t (fun k hk=>by omega)).wide (by omega) hz
 ·exact(hbw.setCell (by show _≤w.heap.size+1; omega) _).setCell (by show _≤w.heap.size+1; omega) _
def RowB(w:World)(e:TypeId)(s:Nat)(v:Value)(n:Nat):Prop:=
 (n=0∧∃a,v = .slice a 0 0)∨(0<n∧∃g cap cur,v = .slice (some ⟨g,0,none⟩) n cap∧w.heap[g]?=some (.cells cur e (0,0))∧n≤cap∧cap≤maxLen∧cur.size=cap*s)
theorem rowB_of_owns{w:World}{base:Nat}{e:TypeId}{s:Nat}{v:Value}{n:Nat}{xs:List Value}(h:w.ownsRow base e s v n xs)(hz:n=0→∃a,v = .slice a 0 0):RowB w e s v n:=by
 rcases Nat.eq_zero_or_pos n with h0 | h0
 ·exact Or.inl ⟨h0,hz h0⟩
 ·rcases h.2 with h | ⟨g,cap,cur,hv,_,hg,h1,h2,h3,_⟩
  ·omega
  ·exact Or.inr ⟨h0,g,cap,cur,hv,hg,h1,h2,h3⟩
theorem RowB.below{w w':World}{e:TypeId}{s:Nat}{v:Value}{n:Nat}(h:RowB w e s v n)(t:Below w.heap.size w w'):RowB w' e s v n:=by
 rcases h with h | ⟨h0,g,cap,cur,hv,hg,h1⟩
 ·exact Or.inl h
 ·exact Or.inr ⟨h0,g,cap,cur,hv,(t.block g (Array.getElem?_eq_some_iff.1 hg).1).trans hg,h1⟩
theorem RowB.kept{w w':World}{row:Option Nat}{e:TypeId}{s:Nat}{v:Value}{n:Nat}(h:RowB w e s v n)(hg:w.grownBy w' row)(hne:0<n→v.ownBlock≠row):RowB w' e s v n:=by
 rcases h with h | ⟨h0,g,cap,cur,hv,hb,h1⟩
 ·exact Or.inl h
 ·exact Or.inr ⟨h0,g,cap,cur,hv,(hg.block g (Array.getElem?_eq_some_iff.1 hb).1 (fun e=>hne h0 (by rw [hv]; exact e))).trans hb,h1⟩
theorem block_setCell{w:World}{g:Nat}{cur:Array Value}{e:TypeId}(h:w.heap[g]?=some (.cells cur e (0,0)))(a:Addr)(u:Value):∃cur',(w.setCell a u).heap[g]?=some (.cells cur' e (0,0))∧cur'.size=cur.size:=by
 by_cases hg:a.block=g
 ·subst hg
  unfold World.setCell
  simp only [Array.getElem?_modify,h,if_true,Option.map_some]
  refine⟨_,rfl,?_⟩
  split <;> simp
 ·refine⟨cur,?_,rfl⟩
  unfold World.setCell
  simp only [Array.getElem?_modify,hg,if_false,h]
theorem RowB.set{w:World}{e:TypeId}{s:Nat}{v:Value}{n:Nat}(h:RowB w e s v n)(a:Addr)(u:Value):RowB (w.setCell a u) e s v n:=by
 rcases h with h | ⟨h0,g,cap,cur,hv,hg,h1,h2,h3⟩
 ·exact Or.inl h
 ·obtain⟨cur',hg',hs⟩:=block_setCell hg a u
  exact Or.inr ⟨h0,g,cap,cur',hv,hg',h1,h2,by rw [hs]; exact h3⟩
theorem RowB.owns{w:World}{e:TypeId}{s:Nat}{v:Value}{n base:Nat}{xs:List Value}(h:RowB w e s v n)(h0:0<n)(hl:xs.length=n*s)(hb:∀g,v.ownBlock=some g→base≤g)
  (hc:∀g,v.ownBlock=some g→∀j u,xs[j]?=some u→w.cell? ⟨g,j,none⟩=some u):w.ownsRow base e s v n xs:=by
 refine⟨hl,?_⟩
 rcases h with h | ⟨_,g,cap,cur,hv,hg,h1,h2,h3⟩
 ·omega
 ·refine Or.inr ⟨g,cap,cur,hv,hb g (by rw [hv]; rfl),hg,h1,h2,h3,?_⟩
  have hle:n*s≤cur.size:=by rw [h3]; exact Nat.mul_le_mul_right s h1
  refine List.ext_getElem? fun j=>?_
  rw [List.getElem?_take]
  by_cases hj:j<n*s
  ·rw [if_pos hj]
   have hx:j<xs.length:=by omega
   have h4:=hc g (by rw [hv]; rfl) j xs[j] (by rw [List.getElem?_eq_getElem hx])
   have h5:w.cell? ⟨g,j,none⟩=cur[j]?:=by
    simp [World.cell?,hg]
   rw [h5] at h4
   rw [List.getElem?_eq_getElem hx,←h4,Array.getElem?_toList]
  ·rw [if_neg hj,List.getElem?_eq_none (by omega)]
theorem run_append_cap0{P:Program}{w:World}(t ty e:TypeId)(i:TypeInfo)(a:Option Addr)(ad:Addr)(m c:Nat)(ht:P.underlying t=some (.slice e))(hi:P.info? e=some i)(hm:0<m)(hb:m*i.bytes≤140737488355328) :
  (Builtin.append_ #[t,t] ty #[.slice a 0 0,.slice (some ad) m c]).run P w=(Builtin.append_ #[t,t] ty #[.slice none 0 0,.slice (some ad) m c]).run P w:=by
 cases a with
 | none=>rfl
 | some a=>
  have h1:¬m=0:=by omega
  have h2:Builtin.nextslicecap m 0=m:=by unfold Builtin.nextslicecap; simp [hm]
  have h3:¬(281474976710656:Nat)<m*i.bytes:=by omega
  have h4:∀w:World,(loadCells a 0).run P w = .ok #[] w:=fun w=>by first | rfl | simp [loadCells] | simp [loadCells,loadCellsFrom]
  simp [Builtin.append_,run_underlying ht,sizeOf,typeInfo,hi,Builtin.lenOf,Builtin.firstCells,h1,h2,h3,h4]
theorem RowB.append{P:Program}{w:World}(t ty e:TypeId)(i:TypeInfo)(z:Value)(s bytes base:Nat)(ht:P.underlying t=some (.slice e))(hi:P.info? e=some i)(hz:i.zero=some z)(hsize:i.size=s)(hby:i.bytes=bytes)(hzs:z.cells.size=s)(hsz:0<s)
  {v:Value} {n:Nat} {xs:List Value} (h:RowB w e s v n) (hl:xs.length=n*s) (hb:0<n→∀g,v.ownBlock=some g→base≤g) (hc:0<n→∀g,v.ownBlock=some g→∀j u,xs[j]?=some u→w.cell? ⟨g,j,none⟩=some u)
  (ad:Addr) (m c:Nat) (news:List Value) (hl':news.length=m*s) (hnews:∀j u,news[j]?=some u→w.cell? (ad.add j)=some u) (h1:∀u∈news,u.oneCell'=true) (hm:0<m) (h63:n+m≤maxLen) (hbytes:(n+m)*bytes≤140737488355328) (hbase:base≤w.heap.size) :
  ∃g cap w' row,(Builtin.append_ #[t,t] ty #[v,.slice (some ad) m c]).run P w = .ok (.slice (some ⟨g,0,none⟩) (n+m) cap) w'∧w'.ownsRow base e s (.slice (some ⟨g,0,none⟩) (n+m) cap) (n+m) (xs ++ news)∧w.grownBy w' row∧(row=none∨(0<n∧row=v.ownBlock))∧((0<n∧v.ownBlock=some g)∨g=w.heap.size)∧g<w'.heap.size:=by
 rcases Nat.eq_zero_or_pos n with h0 | h0
 ·rcases h with⟨_,a,rfl⟩ | ⟨hp,_⟩
  ·subst h0
   obtain rfl:xs = []:=List.eq_nil_of_length_eq_zero (by omega)
   obtain⟨g,cap,w',hr,h2,h3,h4,h5⟩:=run_append_lies (P:=P) w t ty base e i z s bytes ht hi hz hsize hby hzs hsz (.slice none 0 0) 0 [] ⟨by simp,Or.inl ⟨rfl,rfl⟩⟩ ad m c news hl' hnews h1 hm h63 hbytes hbase w.heap.size rfl
   refine⟨g,cap,w',none,?_,h2,h3,Or.inl rfl,Or.inr ?_,h5⟩
   ·rw [run_append_cap0 t ty e i a ad m c ht hi hm (by rw [hby]; simpa using hbytes)]; exact hr
   ·rcases h4 with h4 | h4
    ·cases h4
    ·exact h4
  ·omega
 ·obtain⟨g,cap,w',hr,h2,h3,h4,h5⟩:=run_append_lies (P:=P) w t ty base e i z s bytes ht hi hz hsize hby hzs hsz v n xs (h.owns h0 hl (hb h0) (hc h0)) ad m c news hl' hnews h1 hm h63 hbytes hbase w.heap.size rfl
  exact⟨g,cap,w',v.ownBlock,hr,h2,h3,Or.inr ⟨h0,rfl⟩,h4.imp (fun h=>⟨h0,h⟩) id,h5⟩
set_option maxRecDepth 20000 in
set_option maxHeartbeats 400000 in
theorem clonePtrsR_any(v:Value)(n lo hi:Nat)(f g:Nat→Int)(w:World)(h1:PtrsAt w lo hi v n f g)(hn:n≤1048576) :
  Calls Tryz.prog 171 #[v] w fun e w'=>(∃v' kb,e = .returned v'∧RowB w' 61 2 v' n∧PtrsOwn w' kb v' n f g∧(0<n→w.heap.size≤kb∧kb<w'.heap.size))∧Below w.heap.size w w':=by
 obtain⟨m1,a,c,rfl,mc,g1⟩:=h1
 have G1:Hid (0<n→∃b off,a=some ⟨b,off,none⟩∧lo≤b∧b<hi∧∀i,i<n→w.cell? ⟨b,off+i*2,none⟩=some (.int .i64 (f i))∧w.cell? ⟨b,off+i*2+1,none⟩=some (.int .i64 (g i))):=g1
 have Hm:Hid (n≤maxLen):=m1
 clear g1 m1
 have heq:=fun w=>Lib.run_eql_slice_nil (P:=Tryz.prog) w 62 61 a n c 0 0 (by kernel_rfl)
 cases a with
 | none=>
  have hn0:n=0:=by
   by_cases h:0<n
   ·obtain⟨b,off,ha,_⟩:=G1.out h; simp at ha
   ·omega
  subst hn0
  go_enter Tryz.func171,Tryz.ntmps171
  go_wp2
  go_ret
  exact⟨⟨_,0,rfl,Or.inl ⟨rfl,_,rfl⟩,⟨Nat.zero_le _,none,0,rfl,Nat.le_refl _,fun h=>absurd h (Nat.lt_irrefl _)⟩,fun h=>absurd h (Nat.lt_irrefl _)⟩,Below.refl _ _⟩
 | some ad=>
  obtain⟨i0,hi,hzz⟩:=Option.map_eq_some_iff.1 infoPtrT
  simp only [Prod.mk.injEq] at hzz
  obtain⟨hz,hs,hby⟩:=hzz
  have hsrc:∀(w':World),Below w.heap.size w w'→∀j u,(kc f g n)[j]?=some u→w'.cell? (ad.add j)=some u:=fun w' hb j u hj=>by
   by_cases h0:0<n
   ·obtain⟨b,off,ha,_,_,hc⟩:=G1.out h0
    simp only [Option.some.injEq] at ha
    subst ha
    have:=kc_cells hc j u hj
    have hadd:(⟨b,off,none⟩:Addr).add j=⟨b,off+j,none⟩:=by unfold Addr.add; split <;> simp_all
    rw [hadd] at this ⊢
    exact(hb.cell (lt_of_cell this)).trans this
   ·obtain rfl:n=0:=by omega
    simp [kc] at hj
  have Hsrc:Hid (∀(w':World),Below w.heap.size w w'→∀j u,(kc f g n)[j]?=some u→w'.cell? (ad.add j)=some u):=hsrc
  have HI:Hid (Tryz.prog.info? 61=some i0∧i0.zero=some (.agg #[.int .i64 0,.int .i64 0])∧i0.size=2∧i0.bytes=16):=⟨hi,hz,hs,hby⟩
  have hown0:(w.alloc (.cells #[] 61)).ownsRow w.heap.size 61 2 (.slice (some ⟨w.heap.size,0,none⟩) 0 0) 0 []:=World.ownsRow_made w #[] 0 (Nat.le_refl _) (Nat.zero_le _) (by simp)
  have Hown0:Hid ((w.alloc (.cells #[] 61)).ownsRow w.heap.size 61 2 (.slice (some ⟨w.heap.size,0,none⟩) 0 0) 0 []):=hown0
  clear hi hz hs hby hsrc hown0
  go_enter Tryz.func171,Tryz.ntmps171
  go_wp2_with (first
   | (at_builtin; refine wpList_append_opt rfl _ _ 62 rfl w.heap.size 61 i0 (.agg #[.int .i64 0,.int .i64 0]) 2 16 (by kernel_rfl) HI.out.1 HI.out.2.1 HI.out.2.2.1 HI.out.2.2.2 rfl (by decide) _ _ _ rfl Hown0.out (some ad) n c (kc f g n) rfl (kc_len f g n) (kc_one f g n) ?c1 ?c3 ?c4 ?c5 ?_))
  case c1=>
   intro h0
   obtain⟨b,off,ha,_,_,_⟩:=G1.out h0
   simp only [Option.some.injEq] at ha
   refine⟨b,off,by rw [ha],fun j u hj=>?_⟩
   have:=Hsrc.out _ ((Below.refl _ _).alloc (Nat.le_refl _) (.cells #[] 61)) j u hj
   have hadd:(⟨b,off,none⟩:Addr).add j=⟨b,off+j,none⟩:=by unfold Addr.add; split <;> simp_all
   rw [ha,hadd] at this
   exact this
  case c3=>unfold maxLen; omega
  case c4=>omega
  case c5=>simp
  intro v' w1 hown' hgrow hnil
  have hb1:Below w.heap.size w w1:=((Below.refl _ _).alloc (Nat.le_refl _) _).grown hgrow (by simp) (fun q hq=>by have:=Hown0.out.lt q hq; omega)
  have hown2:w1.ownsRow w.heap.size 61 2 v' n (kc f g n):=by simpa using hown'
  obtain⟨kb,hp,hk⟩:=ptrs_of_owns Hm.out hown2
  have HRB:Hid (RowB w1 61 2 v' n):=rowB_of_owns hown2 (fun h0=>⟨_,hnil h0⟩)
  have Hp:Hid (PtrsOwn w1 kb v' n f g∧(0<n→w.heap.size≤kb∧kb<w1.heap.size)):=⟨hp,hk⟩
  clear hp hk hown' hown2 hgrow hnil
  go_wp2
  go_ret
  exact⟨⟨v',kb,rfl,HRB.out,Hp.out.1,Hp.out.2⟩,hb1⟩
end Go.Proofs.YtmgeglgboadfiaaGreatDoor

namespace Go.Proofs.YtmgeglgboadfiaaGreatDoor
open Go Go.RowKit
set_option linter.unusedVariables false
def Row8(w:World)(b:Nat)(v0 v1 v2 v3 v4 v5 v6 v7:Value):Prop:=Cell w b 0 v0∧Cell w b 1 v1∧Cell w b 2 v2∧Cell w b 3 v3∧Cell w b 4 v4∧Cell w b 5 v5∧Cell w b 6 v6∧Cell w b 7 v7
theorem Row8.below{w w':World}{b:Nat}{v0 v1 v2 v3 v4 v5 v6 v7:Value}(h:Row8 w b v0 v1 v2 v3 v4 v5 v6 v7)(t:Below w.heap.size w w'):Row8 w' b v0 v1 v2 v3 v4 v5 v6 v7:=⟨h.1.below t,h.2.1.below t,h.2.2.1.below t,h.2.2.2.1.below t,h.2.2.2.2.1.below t,h.2.2.2.2.2.1.below t,h.2.2.2.2.2.2.1.below t,h.2.2.2.2.2.2.2.below t⟩
theorem Row8.turned{S:Nat→Prop}{w w':World}{b:Nat}{v0 v1 v2 v3 v4 v5 v6 v7:Value}(h:Row8 w b v0 v1 v2 v3 v4 v5 v6 v7)(t:Turned S w w')(hs:¬S b):Row8 w' b v0 v1 v2 v3 v4 v5 v6 v7:=⟨h.1.turned t hs,h.2.1.turned t hs,h.2.2.1.turned t hs,h.2.2.2.1.turned t hs,h.2.2.2.2.1.turned t hs,h.2.2.2.2.2.1.turned t hs,h.2.2.2.2.2.2.1.turned t hs,h.2.2.2.2.2.2.2.turned t hs⟩
theorem Row8.new(w:World)(v0 v1 v2 v3 v4 v5 v6 v7:Value)(t:TypeId):Row8 (w.alloc (.cells #[v0,v1,v2,v3,v4,v5,v6,v7] t)) w.heap.size v0 v1 v2 v3 v4 v5 v6 v7:=by
 have hb:(w.alloc (.cells #[v0,v1,v2,v3,v4,v5,v6,v7] t)).heap[w.heap.size]?=some (.cells #[v0,v1,v2,v3,v4,v5,v6,v7] t):=heap_alloc_new _ _
 exact⟨cell_of_block hb rfl,cell_of_block hb rfl,cell_of_block hb rfl,cell_of_block hb rfl,cell_of_block hb rfl,cell_of_block hb rfl,cell_of_block hb rfl,cell_of_block hb rfl⟩
abbrev putR8(w:World)(b:Nat)(u0 u1 u2 u3 u4 u5 u6 u7:Value):World:=(((((((w.setCell ⟨b,0,none⟩ u0).setCell ⟨b,1,none⟩ u1).setCell ⟨b,2,none⟩ u2).setCell ⟨b,3,none⟩ u3).setCell ⟨b,4,none⟩ u4).setCell ⟨b,5,none⟩ u5).setCell ⟨b,6,none⟩ u6).setCell ⟨b,7,none⟩ u7
theorem Row8.put{w:World}{b:Nat}{v0 v1 v2 v3 v4 v5 v6 v7:Value}(h:Row8 w b v0 v1 v2 v3 v4 v5 v6 v7)(u0 u1 u2 u3 u4 u5 u6 u7:Value):Row8 (putR8 w b u0 u1 u2 u3 u4 u5 u6 u7) b u0 u1 u2 u3 u4 u5 u6 u7:=by
 obtain⟨h0,h1,h2,h3,h4,h5,h6,h7⟩:=h
 refine⟨?_,?_,?_,?_,?_,?_,?_,?_⟩
 ·exact(((((((h0.set _).other _ (Or.inr (by omega))).other _ (Or.inr (by omega))).other _ (Or.inr (by omega))).other _ (Or.inr (by omega))).other _ (Or.inr (by omega))).other _ (Or.inr (by omega))).other _ (Or.inr (by omega))
 ·exact(((((((h1.other _ (Or.inr (by omega))).set _).other _ (Or.inr (by omega))).other _ (Or.inr (by omega))).other _ (Or.inr (by omega))).other _ (Or.inr (by omega))).other _ (Or.inr (by omega))).other _ (Or.inr (by omega))
 ·exact(((((((h2.other _ (Or.inr (by omega))).other _ (Or.inr (by omega))).set _).other _ (Or.inr (by omega))).other _ (Or.inr (by omega))).other _ (Or.inr (by omega))).other _ (Or.inr (by omega))).other _ (Or.inr (by omega))
 ·exact(((((((h3.other _ (Or.inr (by omega))).other _ (Or.inr (by omega))).other _ (Or.inr (by omega))).set _).other _ (Or.inr (by omega))).other _ (Or.inr (by omega))).other _ (Or.inr (by omega))).other _ (Or.inr (by omega))
 ·exact(((((((h4.other _ (Or.inr (by omega))).other _ (Or.inr (by omega))).other _ (Or.inr (by omega))).other _ (Or.inr (by omega))).set _).other _ (Or.inr (by omega))).other _ (Or.inr (by omega))).other _ (Or.inr (by omega))
 ·exact(((((((h5.other _ (Or.inr (by omega))).other _ (Or.inr (by omega))).other _ (Or.inr (by omega))).other _ (Or.inr (by omega))).other _ (Or.inr (by omega))).set _).other _ (Or.inr (by omega))).other _ (Or.inr (by omega))
 ·exact(((((((h6.other _ (Or.inr (by omega))).other _ (Or.inr (by omega))).other _ (Or.inr (by omega))).other _ (Or.inr (by omega))).other _ (Or.inr (by omega))).other _ (Or.inr (by omega))).set _).other _ (Or.inr (by omega))
 ·exact(((((((h7.other _ (Or.inr (by omega))).other _ (Or.inr (by omega))).other _ (Or.inr (by omega))).other _ (Or.inr (by omega))).other _ (Or.inr (by omega))).other _ (Or.inr (by omega))).other _ (Or.inr (by omega))).set _
theorem Turned.putR8(w:World)(b:Nat)(u0 u1 u2 u3 u4 u5 u6 u7:Value):Turned (fun k=>k=b) w (putR8 w b u0 u1 u2 u3 u4 u5 u6 u7):=
 (((((((Turned.put w b 0 u0).trans (Turned.put _ b 1 u1)).trans (Turned.put _ b 2 u2)).trans (Turned.put _ b 3 u3)).trans (Turned.put _ b 4 u4)).trans (Turned.put _ b 5 u5)).trans (Turned.put _ b 6 u6)).trans (Turned.put _ b 7 u7)
theorem Row8.off8{w:World}{b:Nat}{v0 v1 v2 v3 v4 v5 v6 v7:Value}(h:Row8 w b v0 v1 v2 v3 v4 v5 v6 v7){b':Nat}(o:Nat)(u:Value)(o':Nat)(u':Value)(hne:b'≠b):Row8 ((w.setCell ⟨b',o,none⟩ u).setCell ⟨b',o',none⟩ u') b v0 v1 v2 v3 v4 v5 v6 v7:=by
 obtain⟨h0,h1,h2,h3,h4,h5,h6,h7⟩:=h
 have hc:∀{j:Nat} {v:Value},Cell w b j v→Cell ((w.setCell ⟨b',o,none⟩ u).setCell ⟨b',o',none⟩ u') b j v:=fun hc=>(hc.other _ (Or.inl hne)).other _ (Or.inl hne)
 exact⟨hc h0,hc h1,hc h2,hc h3,hc h4,hc h5,hc h6,hc h7⟩
theorem Row8.mid8{w:World}{b:Nat}{v0 v1 v2 v3 v4 v5 v6 v7:Value}(h:Row8 w b v0 v1 v2 v3 v4 v5 v6 v7)(u u':Value):Row8 ((w.setCell ⟨b,5,none⟩ u).setCell ⟨b,6,none⟩ u') b v0 v1 v2 v3 v4 u u' v7:=by
 obtain⟨h0,h1,h2,h3,h4,h5,h6,h7⟩:=h
 exact⟨(h0.other _ (Or.inr (by omega))).other _ (Or.inr (by omega)),(h1.other _ (Or.inr (by omega))).other _ (Or.inr (by omega)),(h2.other _ (Or.inr (by omega))).other _ (Or.inr (by omega)),(h3.other _ (Or.inr (by omega))).other _ (Or.inr (by omega)),(h4.other _ (Or.inr (by omega))).other _ (Or.inr (by omega)),(h5.set _).other _ (Or.inr (by omega)),(h6.other _ (Or.inr (by omega))).set _,(h7.other _ (Or.inr (by omega))).other _ (Or.inr (by omega))⟩
end Go.Proofs.YtmgeglgboadfiaaGreatDoor

namespace Go.Proofs.YtmgeglgboadfiaaGreatDoor
open Go.RowKit
set_option linter.unusedVariables false
def SetsInR(w:World)(S:Nat→Prop)(v:Value)(n:Nat)(f:Nat→SetD):Prop:=∃(bs:Nat) (kb:Nat→Nat) (kv:Nat→Value),SetsOwn w bs kb kv v n f∧SetsApart kb n f∧(∀k,SetsB bs kb n f k→S k)∧RowB w 67 6 v n∧∀i,i<n→RowB w 61 2 (kv i) (f i).dn
def SnapsInR(w:World)(S:Nat→Prop)(v:Value)(n:Nat)(f:Nat→SnapD):Prop:=∃(bs:Nat) (kb:Nat→Nat) (kv:Nat→Value),SnapsOwn w bs kb kv v n f∧SnapsApart kb n f∧(∀k,SnapsB bs kb n f k→S k)∧RowB w 99 8 v n∧∀i,i<n→RowB w 61 2 (kv i) (f i).dn
theorem SetsInR.isIn{w:World}{S:Nat→Prop}{v:Value}{n:Nat}{f:Nat→SetD}(h:SetsInR w S v n f):SetsIn w S v n f:=by
 obtain⟨bs,kb,kv,h1,h2,h3,_⟩:=h
 exact⟨bs,kb,kv,h1,h2,h3⟩
theorem SnapsInR.isIn{w:World}{S:Nat→Prop}{v:Value}{n:Nat}{f:Nat→SnapD}(h:SnapsInR w S v n f):SnapsIn w S v n f:=by
 obtain⟨bs,kb,kv,h1,h2,h3,_⟩:=h
 exact⟨bs,kb,kv,h1,h2,h3⟩
theorem SetsInR.below{w w':World}{S:Nat→Prop}{v:Value}{n:Nat}{f:Nat→SetD}(h:SetsInR w S v n f)(t:Below w.heap.size w w'):SetsInR w' S v n f:=by
 obtain⟨bs,kb,kv,h1,h2,h3,h4,h5⟩:=h
 exact⟨bs,kb,kv,h1.below t,h2,h3,h4.below t,fun i hi=>(h5 i hi).below t⟩
theorem SnapsInR.below{w w':World}{S:Nat→Prop}{v:Value}{n:Nat}{f:Nat→SnapD}(h:SnapsInR w S v n f)(t:Below w.heap.size w w'):SnapsInR w' S v n f:=by
 obtain⟨bs,kb,kv,h1,h2,h3,h4,h5⟩:=h
 exact⟨bs,kb,kv,h1.below t,h2,h3,h4.below t,fun i hi=>(h5 i hi).below t⟩
theorem SetsInR.set{w:World}{S:Nat→Prop}{v:Value}{n:Nat}{f:Nat→SetD}(h:SetsInR w S v n f)(b o:Nat)(u:Value)(hb:¬S b):SetsInR (w.setCell ⟨b,o,none⟩ u) S v n f:=by
 obtain⟨bs,kb,kv,h1,h2,h3,h4,h5⟩:=h
 exact⟨bs,kb,kv,h1.turned (Turned.put w b o u) (fun k hk e=>hb (e▸h3 k hk)),h2,h3,h4.set _ _,fun i hi=>(h5 i hi).set _ _⟩
theorem SnapsInR.set{w:World}{S:Nat→Prop}{v:Value}{n:Nat}{f:Nat→SnapD}(h:SnapsInR w S v n f)(b o:Nat)(u:Value)(hb:¬S b):SnapsInR (w.setCell ⟨b,o,none⟩ u) S v n f:=by
 obtain⟨bs,kb,kv,h1,h2,h3,h4,h5⟩:=h
 exact⟨bs,kb,kv,h1.turned (Turned.put w b o u) (fun k hk e=>hb (e▸h3 k hk)),h2,h3,h4.set _ _,fun i hi=>(h5 i hi).set _ _⟩
theorem SetsInR.put6{w:World}{S:Nat→Prop}{v:Value}{n:Nat}{f:Nat→SetD}(h:SetsInR w S v n f)(b:Nat)(u0 u1 u2 u3 u4 u5:Value)(hb:¬S b):SetsInR (put6 w b u0 u1 u2 u3 u4 u5) S v n f:=(((((h.set b 0 u0 hb).set b 1 u1 hb).set b 2 u2 hb).set b 3 u3 hb).set b 4 u4 hb).set b 5 u5 hb
theorem SnapsInR.put6{w:World}{S:Nat→Prop}{v:Value}{n:Nat}{f:Nat→SnapD}(h:SnapsInR w S v n f)(b:Nat)(u0 u1 u2 u3 u4 u5:Value)(hb:¬S b):SnapsInR (put6 w b u0 u1 u2 u3 u4 u5) S v n f:=(((((h.set b 0 u0 hb).set b 1 u1 hb).set b 2 u2 hb).set b 3 u3 hb).set b 4 u4 hb).set b 5 u5 hb
structure WorldInR (w:World) (P Q R:Nat→Prop) (v0 v1 v2 v3:Value) (W:WorldD):Prop where
 pool:PoolIn w P v0 v1 W.pool
 sets:SetsInR w Q v2 W.sn W.sets
 snaps:SnapsInR w R v3 W.pn W.snaps
 pq:∀k,P k→¬Q k
 pr:∀k,P k→¬R k
 qr:∀k,Q k→¬R k
def WorldOwnR(w:World)(lo hi:Nat)(v0 v1 v2 v3:Value)(W:WorldD):Prop:=∃P Q R,WorldInR w P Q R v0 v1 v2 v3 W∧∀k,P k∨Q k∨R k→lo≤k∧k<hi
theorem WorldInR.isIn{w:World}{P Q R:Nat→Prop}{v0 v1 v2 v3:Value}{W:WorldD}(h:WorldInR w P Q R v0 v1 v2 v3 W):WorldIn w P Q R v0 v1 v2 v3 W:=⟨h.pool,h.sets.isIn,h.snaps.isIn,h.pq,h.pr,h.qr⟩
theorem WorldOwnR.own{w:World}{lo hi:Nat}{v0 v1 v2 v3:Value}{W:WorldD}(h:WorldOwnR w lo hi v0 v1 v2 v3 W):WorldOwn w lo hi v0 v1 v2 v3 W:=by
 obtain⟨P,Q,R,h,hl⟩:=h
 exact⟨P,Q,R,h.isIn,hl⟩
theorem WorldInR.below{w w':World}{P Q R:Nat→Prop}{v0 v1 v2 v3:Value}{W:WorldD}(h:WorldInR w P Q R v0 v1 v2 v3 W)(t:Below w.heap.size w w'):WorldInR w' P Q R v0 v1 v2 v3 W:=⟨h.pool.below t,h.sets.below t,h.snaps.below t,h.pq,h.pr,h.qr⟩
theorem WorldOwnR.below{w w':World}{lo hi:Nat}{v0 v1 v2 v3:Value}{W:WorldD}(h:WorldOwnR w lo hi v0 v1 v2 v3 W)(t:Below w.heap.size w w'):WorldOwnR w' lo hi v0 v1 v2 v3 W:=by
 obtain⟨P,Q,R,h,hl⟩:=h
 exact⟨P,Q,R,h.below t,hl⟩
theorem WorldInR.set{w:World}{P Q R:Nat→Prop}{v0 v1 v2 v3:Value}{W:WorldD}(h:WorldInR w P Q R v0 v1 v2 v3 W)(b o:Nat)(u:Value)(hb:¬(P b∨Q b∨R b)):WorldInR (w.setCell ⟨b,o,none⟩ u) P Q R v0 v1 v2 v3 W:=
 ⟨h.pool.turned (Turned.put w b o u) (fun k hk e=>hb (Or.inl (e▸hk))),h.sets.set b o u (fun h=>hb (Or.inr (Or.inl h))),h.snaps.set b o u (fun h=>hb (Or.inr (Or.inr h))),h.pq,h.pr,h.qr⟩
theorem WorldOwnR.set{w:World}{lo hi:Nat}{v0 v1 v2 v3:Value}{W:WorldD}(h:WorldOwnR w lo hi v0 v1 v2 v3 W)(b o:Nat)(u:Value)(hb:b<lo∨hi≤b):WorldOwnR (w.setCell ⟨b,o,none⟩ u) lo hi v0 v1 v2 v3 W:=by
 obtain⟨P,Q,R,h,hl⟩:=h
 exact⟨P,Q,R,h.set b o u (fun hk=>by have:=hl b hk; omega),hl⟩
theorem WorldOwnR.put6{w:World}{lo hi:Nat}{v0 v1 v2 v3:Value}{W:WorldD}(h:WorldOwnR w lo hi v0 v1 v2 v3 W)(b:Nat)(u0 u1 u2 u3 u4 u5:Value)(hb:b<lo∨hi≤b):WorldOwnR (put6 w b u0 u1 u2 u3 u4 u5) lo hi v0 v1 v2 v3 W:=(((((h.set b 0 u0 hb).set b 1 u1 hb).set b 2 u2 hb).set b 3 u3 hb).set b 4 u4 hb).set b 5 u5 hb
theorem WorldOwnR.form{w:World}{lo hi:Nat}{v0 v1 v2 v3:Value}{W:WorldD}(h:WorldOwnR w lo hi v0 v1 v2 v3 W):∃a0 c0 a1 c1 a2 c2 a3 c3,v0 = .slice a0 W.pool.n c0∧v1 = .slice a1 W.pool.hn c1∧v2 = .slice a2 W.sn c2∧v3 = .slice a3 W.pn c3:=h.own.form
theorem WorldOwnR.wide{w:World}{lo hi lo' hi':Nat}{v0 v1 v2 v3:Value}{W:WorldD}(h:WorldOwnR w lo hi v0 v1 v2 v3 W)(h1:lo'≤lo)(h2:hi≤hi'):WorldOwnR w lo' hi' v0 v1 v2 v3 W:=by
 obtain⟨P,Q,R,h,hl⟩:=h
 exact⟨P,Q,R,h,fun k hk=>by have:=hl k hk; omega⟩
def NewWorldR(W:WorldD)(w:World)(e:Ending)(w':World):Prop:=∃v0 v1 v2 v3,e = .returned (worldV v0 v1 v2 v3 W)∧WorldOwnR w' w.heap.size w'.heap.size v0 v1 v2 v3 W∧Below w.heap.size w w'
end Go.Proofs.YtmgeglgboadfiaaGreatDoor
