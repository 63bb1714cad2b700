/- What the laws' own functions on an answer of Split answer: eqDeadOut, markDeadOut, heldDeadOut. -/
import Derived.Test.YtckamdnichangaeDeadD
import Derived.Test.YtckamdnichangaeEq
import Derived.Test.YtckamdnichangaeHeld
namespace Go.Proofs.Ytckamdnichangae
open Go.RowKit
set_option linter.unusedVariables false

/-- A variable that holds an answer of Split, and its two rows. -/
structure DeadV (w : World) (B lo hi : Nat) (v v' : Value) (n n' : Nat) (f g f' g' : Nat → Int) (b b' : Nat) : Prop where
  box : Box2 w B v v'
  one : PtrsOwn w b v n f g
  two : PtrsOwn w b' v' n' f' g'
  in1 : 0 < n → lo ≤ b ∧ b < hi
  in2 : 0 < n' → lo ≤ b' ∧ b' < hi
  apart : 0 < n → 0 < n' → b ≠ b'
  out : B < lo ∨ hi ≤ B

theorem DeadV.below {w w' : World} {B lo hi : Nat} {v v' : Value} {n n' : Nat} {f g f' g' : Nat → Int} {b b' : Nat} (h : DeadV w B lo hi v v' n n' f g f' g' b b') (t : Below w.heap.size w w') : DeadV w' B lo hi v v' n n' f g f' g' b b' := ⟨h.box.below t, h.one.below t, h.two.below t, h.in1, h.in2, h.apart, h.out⟩
theorem DeadV.turned {S : Nat → Prop} {w w' : World} {B lo hi : Nat} {v v' : Value} {n n' : Nat} {f g f' g' : Nat → Int} {b b' : Nat} (h : DeadV w B lo hi v v' n n' f g f' g' b b') (t : Turned S w w') (hB : ¬ S B) (hs : ∀ k, S k → k < lo ∨ hi ≤ k) : DeadV w' B lo hi v v' n n' f g f' g' b b' :=
  ⟨h.box.turned t hB, h.one.turned t (fun h0 hx => by have := h.in1 h0; have := hs _ hx; omega), h.two.turned t (fun h0 hx => by have := h.in2 h0; have := hs _ hx; omega), h.in1, h.in2, h.apart, h.out⟩
theorem DeadV.at1 {w : World} {B lo hi : Nat} {v v' : Value} {n n' : Nat} {f g f' g' : Nat → Int} {b b' : Nat} (h : DeadV w B lo hi v v' n n' f g f' g' b b') : PtrsAt w lo hi v n f g := h.one.at h.in1
theorem DeadV.at2 {w : World} {B lo hi : Nat} {v v' : Value} {n n' : Nat} {f g f' g' : Nat → Int} {b b' : Nat} (h : DeadV w B lo hi v v' n n' f g f' g' b b') : PtrsAt w lo hi v' n' f' g' := h.two.at h.in2
theorem PtrsOwn.formD {w : World} {b : Nat} {v : Value} {n : Nat} {f g : Nat → Int} (h : PtrsOwn w b v n f g) : ∃ a c, v = .slice a n c := by
  obtain ⟨_, a, c, e, _⟩ := h
  exact ⟨a, c, e⟩

set_option maxRecDepth 20000 in
set_option maxHeartbeats 400000 in
theorem eqDeadOut_any (v v' u u' : Value) (n n' lo hi lo' hi' : Nat) (f g f' g' : Nat → Int) (w : World) (h1 : PtrsAt w lo hi v n f g) (h2 : PtrsAt w lo hi v' n' f' g') (h3 : PtrsAt w lo' hi' u n f g) (h4 : PtrsAt w lo' hi' u' n' f' g') :
    Calls Try.prog 32 #[.agg #[v, v'], .agg #[u, u']] w fun e w' => e = .returned (.bool true) ∧ Below w.heap.size w w' := by
  have H1 := hideD h1
  have H2 := hideD h2
  have H3 := hideD h3
  have H4 := hideD h4
  obtain ⟨_, a1, c1, rfl, _⟩ := id h1
  obtain ⟨_, a2, c2, rfl, _⟩ := id h2
  obtain ⟨_, a3, c3, rfl, _⟩ := id h3
  obtain ⟨_, a4, c4, rfl, _⟩ := id h4
  clear h1 h2 h3 h4
  have ha := below_alloc w (.cells #[.slice a1 n c1, .slice a2 n' c2] 56)
  have ha2 := below_alloc (w.alloc (.cells #[.slice a1 n c1, .slice a2 n' c2] 56)) (.cells #[.slice a3 n c3, .slice a4 n' c4] 56)
  have hA := below_next ha ha2
  have HX := hideD ((Box2.new w (.slice a1 n c1) (.slice a2 n' c2) 56).below ha2)
  have HY := hideD (Box2.new (w.alloc (.cells #[.slice a1 n c1, .slice a2 n' c2] 56)) (.slice a3 n c3) (.slice a4 n' c4) 56)
  rw [World.size_alloc] at HY
  clear ha ha2
  go_enter Try.func32, Try.ntmps32
  go_wp2_with fail
  generalize (w.alloc (.cells #[.slice a1 n c1, .slice a2 n' c2] 56)).alloc (.cells #[.slice a3 n c3, .slice a4 n' c4] 56) = W at HX HY hA ⊢
  refine (eqPtrS_any _ _ n n lo hi lo' hi' f g f g _ (H1.out.below hA) (H3.out.below hA)).mono ?_
  rintro e w1 ⟨⟨t, rfl, ht⟩, hb1⟩
  obtain rfl : t = true := ht.2 ⟨rfl, fun _ _ => ⟨rfl, rfl⟩⟩
  have HX1 := hideD (HX.out.below hb1)
  have HY1 := hideD (HY.out.below hb1)
  have hB1 := below_next hA hb1
  clear ht hb1 hA HX HY
  obtain ⟨⟨x0, x1⟩, ⟨x2, x3⟩⟩ := HX1.out
  obtain ⟨⟨y0, y1⟩, ⟨y2, y3⟩⟩ := HY1.out
  go_wp2_with fail
  refine (eqPtrS_any _ _ n' n' lo hi lo' hi' f' g' f' g' _ (H2.out.below hB1) (H4.out.below hB1)).mono ?_
  rintro e w2 ⟨⟨t, rfl, ht⟩, hb2⟩
  obtain rfl : t = true := ht.2 ⟨rfl, fun _ _ => ⟨rfl, rfl⟩⟩
  have hB2 := below_next hB1 hb2
  clear ht hb2
  go_wp2
  go_ret
  exact ⟨rfl, hB2⟩

set_option maxRecDepth 20000 in
set_option maxHeartbeats 400000 in
theorem markDeadOut_any (v v' : Value) (n n' b b' : Nat) (f g f' g' : Nat → Int) (k0 : Int) (w : World) (h1 : PtrsOwn w b v n f g) (h2 : PtrsOwn w b' v' n' f' g') (hap : 0 < n → 0 < n' → b ≠ b') (hn : n ≤ 200) (hn' : n' ≤ 200) (hk0 : 0 ≤ k0) (hk1 : k0 ≤ 1000) :
    Calls Try.prog 33 #[.agg #[v, v'], .int .i64 k0] w fun e w' => e = .returned (.int .i64 (k0 + 2 * n + 2 * n')) ∧ PtrsOwn w' b v n (fun i => k0 + 2 * i) (fun i => k0 + 2 * i + 1) ∧ PtrsOwn w' b' v' n' (fun i => k0 + 2 * n + 2 * i) (fun i => k0 + 2 * n + 2 * i + 1) ∧ Turned (fun k => (0 < n ∧ k = b) ∨ (0 < n' ∧ k = b')) w w' := by
  have H1 := hideD h1
  have H2 := hideD h2
  have Hap := hideD hap
  obtain ⟨a1, c1, rfl⟩ := h1.formD
  obtain ⟨a2, c2, rfl⟩ := h2.formD
  clear h1 h2 hap
  have hA := below_alloc w (.cells #[.slice a1 n c1, .slice a2 n' c2] 56)
  have HX := hideD (Box2.new w (.slice a1 n c1) (.slice a2 n' c2) 56)
  have hlt1 : 0 < n → b < w.heap.size := fun h0 => by obtain ⟨_, _, _, _, _, hc⟩ := H1.out; obtain ⟨off, _, h3⟩ := hc h0; exact (h3 0 h0).1.lt
  have hlt2 : 0 < n' → b' < w.heap.size := fun h0 => by obtain ⟨_, _, _, _, _, hc⟩ := H2.out; obtain ⟨off, _, h3⟩ := hc h0; exact (h3 0 h0).1.lt
  have Hl1 := hideD hlt1
  have Hl2 := hideD hlt2
  clear hlt1 hlt2
  go_enter Try.func33, Try.ntmps33
  go_wp2_with fail
  generalize w.alloc (.cells #[.slice a1 n c1, .slice a2 n' c2] 56) = W at HX hA ⊢
  refine (markPtrS_any b _ n f g k0 _ (H1.out.below hA) hk0 (by omega)).mono ?_
  rintro e w1 ⟨rfl, ho1, ht1⟩
  have HX1 := hideD (HX.out.turned ht1 (fun hx => by have := Hl1.out hx.1; omega))
  have Ho1 := hideD ho1
  have H21 := hideD ((H2.out.below hA).turned ht1 (fun h0 hx => Hap.out hx.1 h0 hx.2.symm))
  have hT1 := (Turned.of_below (S := fun k => (0 < n ∧ k = b) ∨ (0 < n' ∧ k = b')) hA).trans (ht1.mono (fun k hk => Or.inl hk))
  clear ho1 ht1 hA HX
  obtain ⟨⟨x0, x1⟩, ⟨x2, x3⟩⟩ := HX1.out
  go_wp2_with fail
  refine (markPtrS_any b' _ n' f' g' (k0 + 2 * n) _ H21.out (by omega) (by omega)).mono ?_
  rintro e w2 ⟨rfl, ho2, ht2⟩
  have Ho2 := hideD ho2
  have Ho1' := hideD (Ho1.out.turned ht2 (fun h0 hx => Hap.out h0 hx.1 hx.2))
  have hT2 := hT1.trans (ht2.mono (fun k hk => Or.inr hk))
  clear ho2 ht2
  go_wp2
  go_ret
  exact ⟨rfl, Ho1'.out, Ho2.out, hT2⟩

set_option maxRecDepth 20000 in
set_option maxHeartbeats 400000 in
theorem heldDeadOut_any (v v' : Value) (n n' lo hi : Nat) (k0 : Int) (w : World) (h1 : PtrsAt w lo hi v n (fun i => k0 + 2 * i) (fun i => k0 + 2 * i + 1)) (h2 : PtrsAt w lo hi v' n' (fun i => k0 + 2 * n + 2 * i) (fun i => k0 + 2 * n + 2 * i + 1)) (hn : n ≤ 200) (hn' : n' ≤ 200) (hk0 : 0 ≤ k0) (hk1 : k0 ≤ 1000) :
    Calls Try.prog 34 #[.agg #[v, v'], .int .i64 k0] w fun e w' => e = .returned (.int .i64 (k0 + 2 * n + 2 * n')) ∧ Below w.heap.size w w' := by
  have H1 := hideD h1
  have H2 := hideD h2
  obtain ⟨_, a1, c1, rfl, _⟩ := id h1
  obtain ⟨_, a2, c2, rfl, _⟩ := id h2
  clear h1 h2
  have hA := below_alloc w (.cells #[.slice a1 n c1, .slice a2 n' c2] 56)
  have HX := hideD (Box2.new w (.slice a1 n c1) (.slice a2 n' c2) 56)
  go_enter Try.func34, Try.ntmps34
  go_wp2_with fail
  generalize w.alloc (.cells #[.slice a1 n c1, .slice a2 n' c2] 56) = W at HX hA ⊢
  refine (heldPtrS_any _ n lo hi _ _ k0 _ (H1.out.below hA) hk0 (by omega) (fun i _ => ⟨rfl, rfl⟩)).mono ?_
  rintro e w1 ⟨rfl, hb1⟩
  have HX1 := hideD (HX.out.below hb1)
  have hB1 := below_next hA hb1
  have hk2 : ¬ k0 + 2 * (n : Int) < 0 := by omega
  have hk3 : ¬ k0 + 2 * (n : Int) + 2 * (n' : Int) < 0 := by omega
  clear hb1 hA HX
  obtain ⟨⟨x0, x1⟩, ⟨x2, x3⟩⟩ := HX1.out
  go_wp2_with fail
  refine (heldPtrS_any _ n' lo hi _ _ (k0 + 2 * n) _ (H2.out.below hB1) (by omega) (by omega) (fun i _ => ⟨rfl, rfl⟩)).mono ?_
  rintro e w2 ⟨rfl, hb2⟩
  have hB2 := below_next hB1 hb2
  clear hb2
  go_wp2
  go_ret
  exact ⟨rfl, hB2⟩

end Go.Proofs.Ytckamdnichangae
