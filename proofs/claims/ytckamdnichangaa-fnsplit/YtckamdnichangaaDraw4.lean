/- What the draws' l01Ptr and l01Source leave. -/
import Derived.Test.YtckamdnichangaaDraw3
namespace Go.Proofs.Ytckamdnichangaa
open Go.RowKit
set_option linter.unusedVariables false

theorem PoolAt.turned {S : Nat → Prop} {w w' : World} {lo hi : Nat} {v0 v1 : Value} {p : PoolD} (h : PoolAt w lo hi v0 v1 p) (t : Turned S w w') (hh : hi ≤ w.heap.size) (hs : ∀ k, S k → k < lo ∨ hi ≤ k) : PoolAt w' lo hi v0 v1 p := h.same (t.same hh hs)

/-- Of what was there, the source alone is turned. -/
theorem only_src {w w1 w2 : World} {B R : Nat} (h : Turned (fun k => k = B) w w1) (t : Turned (fun k => k = R) w1 w2) (hR : w.heap.size ≤ R) : Turned (fun k => k = B) w w2 :=
  ⟨t.os.trans h.os, t.tape.trans h.tape, t.output.trans h.output, Nat.le_trans h.size t.size, fun k hk hne => (t.block k (Nat.lt_of_lt_of_le hk h.size) (by omega)).trans (h.block k hk hne)⟩

set_option maxRecDepth 20000 in
set_option maxHeartbeats 1000000 in
theorem ptr_any (B lo hi : Nat) (v0 v1 : Value) (p : PoolD) (w : World) (h : Src w B) (hp : PoolAt w lo hi v0 v1 p) (hlo : B < lo) (hhi : hi ≤ w.heap.size) (hn : p.n ≤ 1000000) :
    Calls Try.prog 97 #[.pointer (some ⟨B, 0, none⟩), .agg #[v0, v1]] w fun e w' => (∃ xs xb : Int, e = .returned (.agg #[.int .i64 xs, .int .i64 xb])) ∧ Src w' B ∧ Turned (fun k => k = B) w w' := by
  have Hp := hideS hp
  have hB := h.lt
  obtain ⟨⟨_, a, c, rfl, mc, _⟩, ⟨_, a', c', rfl, _, _⟩⟩ := id hp
  have ha1 := below_alloc w (.cells #[.slice a p.n c, .slice a' p.hn c'] 26)
  have ha := below_next ha1 (below_alloc _ (.cells #[.int .i64 0, .int .i64 0] 33))
  have HB := hideS ((Box2.new w (.slice a p.n c) (.slice a' p.hn c') 26).below (below_alloc _ (.cells #[.int .i64 0, .int .i64 0] 33)))
  have hr := Box2.new (w.alloc (.cells #[.slice a p.n c, .slice a' p.hn c'] 26)) (.int .i64 0) (.int .i64 0) 33
  rw [World.size_alloc] at hr
  have HR := hideS hr
  clear ha1 hr hp
  go_enter Try.func97, Try.ntmps97
  go_wp2_with fail
  refine (one_any B 8 _ (h.below ha) (by omega)).mono ?_
  rintro e w1 ⟨⟨b, rfl⟩, hs1, ht1⟩
  have HB1 := hideS (HB.out.turned ht1 (by omega))
  have HR1 := hideS (HR.out.turned ht1 (by omega))
  have Hs1 := hideS hs1
  have Hp1 := hideS ((Hp.out.below ha).turned ht1 (by have := ha.size; omega) (fun k hk => by omega))
  have Ht1 := hideS ((Turned.of_below (S := fun k => k = B) ha).trans ht1)
  have hz1 : w.heap.size + 2 ≤ w1.heap.size := by have := ht1.size; rw [World.size_alloc, World.size_alloc] at this; omega
  clear hs1 ht1 HB HR h ha
  obtain ⟨⟨x0, x1⟩, ⟨x2, x3⟩⟩ := HB1.out
  by_cases hc : b = false ∧ 0 < p.n
  · obtain ⟨rfl, hpn⟩ := hc
    have hpn' : ¬ (p.n : Int) = 0 := by omega
    have hpn'' : ((p.n : Int) == 0) = false := by simp; omega
    go_wp2_with fail
    refine (n_any B p.n _ Hs1.out (by omega)).mono ?_
    rintro e w2 ⟨⟨r, rfl, h0, h1⟩, hs2, ht2⟩
    obtain ⟨k, rfl⟩ := Int.eq_ofNat_of_zero_le h0
    have hk : k < p.n := by omega
    have hk' : (k : Int) < (p.n : Int) := by omega
    have HB2 := hideS (HB1.out.turned ht2 (by omega))
    have HR2 := hideS (HR1.out.turned ht2 (by omega))
    have Hs2 := hideS hs2
    have Hp2 := hideS (Hp1.out.turned ht2 (by omega) (fun k hk => by omega))
    have Ht2 := hideS (Ht1.out.trans ht2)
    clear hs2 ht2 HB1 HR1 Hs1 Ht1 x0 x1 x2 x3
    obtain ⟨⟨x0, x1⟩, ⟨x2, x3⟩⟩ := HB2.out
    obtain ⟨⟨u0, u1⟩, ⟨u2, u3⟩⟩ := HR2.out
    obtain ⟨b', off, ka, kc, rfl, hs⟩ := Hp2.out.1.cells hk
    obtain ⟨q0, q1, q2, _⟩ := hs
    go_wp2
    have HR6 := HR2.out.put (.int .i64 (k : Int)) (.int .i64 (p.s k).birth)
    have t := (Turned.put w2 (w.heap.size + 1) 0 (.int .i64 (k : Int))).trans (Turned.put _ (w.heap.size + 1) 1 (.int .i64 (p.s k).birth))
    exact bodyPost_ret (v := .agg #[.int .i64 (k : Int), .int .i64 (p.s k).birth]) (by simp [results, Try.results97, go_sem, HR6.1.1, HR6.2.1]) rfl ⟨⟨_, _, rfl⟩, Hs2.out.turned t (fun k hk => by omega), only_src Ht2.out t (by omega)⟩
  · have hc' : b = true ∨ (b = false ∧ p.n = 0) := by
      cases b with
      | true => exact Or.inl rfl
      | false => exact Or.inr ⟨rfl, by by_cases e : 0 < p.n; exact absurd ⟨rfl, e⟩ hc; omega⟩
    have hz0 : p.n = 0 → ((p.n : Int) == 0) = true := fun e => by simp [e]
    clear hc
    rcases hc' with rfl | ⟨rfl, hpn⟩
    all_goals
      try have hpn2 := hz0 hpn
      go_wp2_with fail
      refine (edge_any B _ Hs1.out).mono ?_
      rintro e w2 ⟨⟨r, rfl⟩, hs2, ht2⟩
      have HR2 := hideS (HR1.out.turned ht2 (by omega))
      have Hs2 := hideS hs2
      have Ht2 := hideS (Ht1.out.trans ht2)
      have hz2 := ht2.size
      clear hs2 ht2 HB1 HR1 Hs1 Ht1 x0 x1 x2 x3
      go_wp2_with fail
      refine (n_any B 4 _ Hs2.out (by omega)).mono ?_
      rintro e w3 ⟨⟨r2, rfl, h20, h21⟩, hs3, ht3⟩
      have HR3 := hideS (HR2.out.turned ht3 (by omega))
      have Hs3 := hideS hs3
      have Ht3 := hideS (Ht2.out.trans ht3)
      clear hs3 ht3 HR2 Hs2 Ht2
      obtain ⟨⟨u0, u1⟩, ⟨u2, u3⟩⟩ := HR3.out
      go_wp2
      have HR6 := HR3.out.put (.int .i64 r) (.int .i64 r2)
      have t := (Turned.put w3 (w.heap.size + 1) 0 (.int .i64 r)).trans (Turned.put _ (w.heap.size + 1) 1 (.int .i64 r2))
      exact bodyPost_ret (v := .agg #[.int .i64 r, .int .i64 r2]) (by simp [results, Try.results97, go_sem, HR6.1.1, HR6.2.1]) rfl ⟨⟨_, _, rfl⟩, Hs3.out.turned t (fun k hk => by omega), only_src Ht3.out t (by omega)⟩

end Go.Proofs.Ytckamdnichangaa
