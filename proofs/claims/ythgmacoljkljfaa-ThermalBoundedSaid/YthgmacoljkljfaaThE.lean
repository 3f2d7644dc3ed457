/-
  The walks of the laws ThermalBounded and ThermalRuns: each answers true.
-/
import Derived.Test.YthgmacoljkljfaaThD
namespace Go.Proofs.Ythgmacoljkljfaa
open Go.RowKit
theorem htakeX {P : Program} {ops : Array Oper} {Q : Exit → Act → World → Prop} {md : Region.Mode} {S : World → Prop} {i : Nat} {oi : Oper} {v : Value} {fuel : Nat} {listed : Array Bool} {a : Act} {w : World} (d : Option Tmp) (hi : ops[i]? = some oi) (hd : oi.dst = d)
    (hs : Region.noSelect ops = true) (hf : Region.free md ops listed i = true) (hr : (Region.ready md ops listed).contains i = true)
    (hQ : ∀ c a w, Q (.panic c) (a.put d v) w → Q (.panic c) a w) (hy : YieldsIf P ops S oi v a) (hS : S w)
    (h : wpAnyH P md ops Q S fuel (listed.setIfInBounds i true) (a.put d v) w) : wpAnyH P md ops Q S (fuel + 1) listed a w := by
  subst hd
  exact wpAnyH_take hi hs hf hr hQ hy hS h

/-- What a slice of the ints L gives at each index. -/
def SI (w : World) (q : Option Addr) (L : List Int) : Prop := ∀ k x, L[k]? = some x → ∃ b o, q = some ⟨b, o, none⟩ ∧ w.cell? ⟨b, o + k, none⟩ = some (.int .i64 x)
theorem SI.ext {w w' : World} {q : Option Addr} {L : List Int} (h : SI w q L) (hx : Ext w w') : SI w' q L := fun k x hk => by
  obtain ⟨b, o, e, hc⟩ := h k x hk
  exact ⟨b, o, e, hx.keep hc⟩
theorem IntsIn.open {w : World} {v : Value} {L : List Int} (h : IntsIn w v L) : ∃ q c, v = .slice q L.length c ∧ SI w q L := by
  rcases h with ⟨rfl, q, c, rfl⟩ | ⟨b, o, c, rfl, _, _, _, hL⟩
  · exact ⟨q, c, rfl, fun k x hk => by simp at hk⟩
  · exact ⟨_, c, rfl, fun k x hk => ⟨b, o, rfl, hL k x hk⟩⟩
set_option maxHeartbeats 4000000 in
theorem law_few (v : Value) (L : List Int) (w : World) (h : IntsIn w v L) : Calls Try.prog 35 #[v] w fun e w' => ∃ u, e = .returned u ∧ IntsIn w' u (L.take 300) ∧ Ext w w' := by
  have hh := Lib.hid h
  by_cases hn : L.length ≤ 300
  · have hv := Lib.hid (show IntsIn w v (L.take 300) by rw [List.take_of_length_le hn]; exact h)
    obtain ⟨q, c, rfl, _⟩ := h.open
    have d1 := dlt_f (show (L.length : Int) ≤ 300 by omega)
    clear h hh
    go_enter Try.func35, Try.ntmps35
    go_wp2_with fail
    go_ret
    exact ⟨_, rfl, hv.out, Ext.refl _⟩
  · rcases h with ⟨rfl, _⟩ | ⟨b, o, c, rfl, h0, hc, hm, hL⟩
    · simp at hn
    have d1 := dlt_t (show (300 : Int) < L.length by omega)
    have c0 : ¬ c < 300 := by omega
    have c1 : ¬ (c : Int) < 300 := by omega
    have hv := Lib.hid (show IntsIn w (.slice (some ⟨b, o, none⟩) 300 c) (L.take 300) from .inr ⟨b, o, c, by rw [List.length_take, Nat.min_eq_left (by omega)], by rw [List.length_take]; omega, by rw [List.length_take]; omega, hm, fun i x hi => hL i x (by rw [List.getElem?_take] at hi; split at hi; exact hi; cases hi)⟩)
    clear hL hh h0
    go_enter Try.func35, Try.ntmps35
    go_wp2_with fail
    go_ret
    exact ⟨_, rfl, hv.out, Ext.refl _⟩
/-- The greatest temperature of a valid heater. -/
def htop (p l a : Int) : Int := a - (-255 * p) / l
theorem hst_stays {p l m a t : Int} (d : Int) (h : HVal p l m a) (ht : a ≤ t) (h2 : t ≤ htop p l a) : a ≤ hst p l m a t d ∧ hst p l m a t d ≤ htop p l a := by
  unfold hst hstep htop at *
  rw [if_pos h]
  obtain ⟨p0, p1, l0, l1, m0, m1, a0, a1⟩ := h
  obtain ⟨e, he⟩ : ∃ e, e = max 0 (min d 255) := ⟨_, rfl⟩
  obtain ⟨q, hq⟩ : ∃ q, q = (-255 * p) / l := ⟨_, rfl⟩
  rw [← he]
  rw [← hq] at h2 ⊢
  have e0 : 0 ≤ e := by omega
  have e1 : e ≤ 255 := by omega
  clear he
  have q0 : l * q ≤ -255 * p := by rw [hq]; exact Int.mul_ediv_self_le (by omega)
  have q1 : -255 * 1048576 ≤ q := by
    have : l * (-255 * 1048576) ≤ -255 * p := by
      have := Int.mul_le_mul_of_nonneg_right l0 (show (0 : Int) ≤ 255 * 1048576 by decide)
      rw [Int.mul_comm] at this
      omega
    rw [hq]
    have := Int.ediv_le_ediv (show 0 < l by omega) this
    rwa [Int.mul_comm, Int.mul_ediv_cancel _ (by omega)] at this
  have hs : max (-1073741824) (min t 1073741824) = t := by omega
  rw [hs]
  clear hq hs
  have n1 : e * p ≤ 255 * p := Int.mul_le_mul_of_nonneg_right e1 p0
  have n2 : 0 ≤ e * p := Int.mul_nonneg e0 p0
  have n3 : l * (t - a) ≤ m * (t - a) := Int.mul_le_mul_of_nonneg_right m0 (by omega)
  have n4 : l * (-q - (t - a)) ≤ m * (-q - (t - a)) := Int.mul_le_mul_of_nonneg_right m0 (by omega)
  have r4 : l * (-q - (t - a)) = -(l * q) - l * (t - a) := by rw [Int.mul_sub, Int.mul_neg]
  have k1 : -(t - a) ≤ (e * p - l * (t - a)) / m := by
    have := Int.ediv_le_ediv (show 0 < m by omega) (show -(t - a) * m ≤ e * p - l * (t - a) by rw [Int.neg_mul, Int.mul_comm (t - a)]; omega)
    rwa [Int.mul_ediv_cancel _ (by omega)] at this
  have k2 : (e * p - l * (t - a)) / m ≤ -q - (t - a) := by
    have := Int.ediv_le_ediv (show 0 < m by omega) (show e * p - l * (t - a) ≤ (-q - (t - a)) * m by rw [Int.mul_comm _ m]; omega)
    rwa [Int.mul_ediv_cancel _ (by omega)] at this
  omega
theorem hs_stays {p l m a t : Int} {L : List Int} (h : HVal p l m a) (ht : a ≤ t) (h2 : t ≤ htop p l a) : ∀ k, a ≤ hs p l m a t L k ∧ hs p l m a t L k ≤ htop p l a
  | 0 => by rw [hs_zero]; exact ⟨ht, h2⟩
  | k + 1 => by
    have ih := hs_stays (L := L) h ht h2 k
    cases hd : L[k]? with
    | none =>
      have : hs p l m a t L (k + 1) = hs p l m a t L k := by unfold hs; rw [List.take_add_one, hd]; simp
      rw [this]; exact ih
    | some d => rw [hs_next _ _ _ _ _ _ _ _ hd]; exact hst_stays d h ih.1 ih.2
theorem hout_get {p l m a t : Int} {L : List Int} {n k : Nat} {x : Int} (h : (hout p l m a t L n)[k]? = some x) : k < n ∧ x = hs p l m a t L (k + 1) := by
  have hk : k < n := by
    have := (List.getElem?_eq_some_iff.1 h).1
    simpa [hout] using this
  refine ⟨hk, ?_⟩
  have : (hout p l m a t L n)[k]? = some (hs p l m a t L (k + 1)) := by simp [hout, hk]
  rw [this] at h; cases h; rfl
theorem hout_len (p l m a t : Int) (L : List Int) (n : Nat) : (hout p l m a t L n).length = n := by simp [hout]
set_option maxHeartbeats 4000000 in
theorem law_Bounded_bad (p l m a t : Int) (v : Value) (L : List Int) (hv : ¬ HVal p l m a) (w : World) (h : IntsIn w v L) : Calls Try.prog 12 #[.agg #[.int .i64 p, .int .i64 l, .int .i64 m, .int .i64 a], .int .i64 t, v] w fun e w' => e = .returned (.bool true) ∧ Ext w w' := by
    have ka := Lib.hid law_awake
    have cf := Lib.hid fun W (hx : Ext w W) => law_few v L W (h.ext hx)
    obtain ⟨q, c, rfl, _⟩ := h.open
    have c1 := Lib.hid fun w => thermal_HValid p l m a false (by rw [decide_eq_false hv]) w
    have ct := Lib.hid fun w => thermal_Top p l m a 0 (.inr ⟨hv, rfl⟩) w
    clear h hv
    go_enter Try.func12, Try.ntmps12
    go_wp2_with fail
    refine (cf.out _ ((Ext.refl w).alloc _)).mono ?_; rintro e w1 ⟨u, rfl, hu, x1⟩
    have HU := Lib.hid hu; have X_w1 := Lib.hid (((Ext.refl w).alloc _).trans x1)
    have h0_w1 : w1.cell? ⟨w.heap.size, 0, none⟩ = some (.int .i64 p) := x1.keep (by go_simp)
    have h1_w1 : w1.cell? ⟨w.heap.size, 1, none⟩ = some (.int .i64 l) := x1.keep (by go_simp)
    have h2_w1 : w1.cell? ⟨w.heap.size, 2, none⟩ = some (.int .i64 m) := x1.keep (by go_simp)
    have h3_w1 : w1.cell? ⟨w.heap.size, 3, none⟩ = some (.int .i64 a) := x1.keep (by go_simp)
    have Z := x1.size; (try simp at Z)
    have z0 : w.heap.size < w1.heap.size := by omega
    clear x1 hu Z
    go_wp2_with fail
    refine (ct.out _).mono ?_; rintro e w2 ⟨rfl, x_w2⟩
    have h0_w2 := x_w2.keep h0_w1
    have h1_w2 := x_w2.keep h1_w1
    have h2_w2 := x_w2.keep h2_w1
    have h3_w2 := x_w2.keep h3_w1
    have X_w2 := Lib.hid (X_w1.out.trans x_w2)
    have HX2 := Lib.hid x_w2
    clear x_w2
    go_wp2_with fail
    replace z0 := cell_lt h0_w2
    refine (c1.out _).mono ?_; rintro e w3 ⟨rfl, x_w3⟩
    have h0_w3 := x_w3.keep h0_w2
    have h1_w3 := x_w3.keep h1_w2
    have h2_w3 := x_w3.keep h2_w2
    have h3_w3 := x_w3.keep h3_w2
    have X_w3 := Lib.hid (X_w2.out.trans x_w3)
    have HU3 := Lib.hid (IntsIn.ext HU.out (show Ext w1 w3 from HX2.out.trans x_w3))
    clear x_w3
    go_wp2_with fail
    refine (ka.out _).mono ?_; rintro e w4 ⟨rfl, x4⟩
    have X4 := Lib.hid (X_w3.out.trans x4)
    clear x4
    go_wp2_with fail
    go_ret
    exact ⟨rfl, X4.out⟩
set_option maxHeartbeats 4000000 in
theorem law_Bounded_cold (p l m a t : Int) (v : Value) (L : List Int) (hv : HVal p l m a) (ht : t < a) (w : World) (h : IntsIn w v L) : Calls Try.prog 12 #[.agg #[.int .i64 p, .int .i64 l, .int .i64 m, .int .i64 a], .int .i64 t, v] w fun e w' => e = .returned (.bool true) ∧ Ext w w' := by
    have ka := Lib.hid law_awake
    have cf := Lib.hid fun W (hx : Ext w W) => law_few v L W (h.ext hx)
    obtain ⟨q, c, rfl, _⟩ := h.open
    have d1 := dlt_t ht
    have c1 := Lib.hid fun w => thermal_HValid p l m a true (by rw [decide_eq_true hv]) w
    have ct := Lib.hid fun w => thermal_Top p l m a (htop p l a) (.inl ⟨hv, rfl⟩) w
    generalize htop p l a = top at *
    clear h hv ht
    go_enter Try.func12, Try.ntmps12
    go_wp2_with fail
    refine (cf.out _ ((Ext.refl w).alloc _)).mono ?_; rintro e w1 ⟨u, rfl, hu, x1⟩
    have HU := Lib.hid hu; have X_w1 := Lib.hid (((Ext.refl w).alloc _).trans x1)
    have h0_w1 : w1.cell? ⟨w.heap.size, 0, none⟩ = some (.int .i64 p) := x1.keep (by go_simp)
    have h1_w1 : w1.cell? ⟨w.heap.size, 1, none⟩ = some (.int .i64 l) := x1.keep (by go_simp)
    have h2_w1 : w1.cell? ⟨w.heap.size, 2, none⟩ = some (.int .i64 m) := x1.keep (by go_simp)
    have h3_w1 : w1.cell? ⟨w.heap.size, 3, none⟩ = some (.int .i64 a) := x1.keep (by go_simp)
    have Z := x1.size; (try simp at Z)
    have z0 : w.heap.size < w1.heap.size := by omega
    clear x1 hu Z
    go_wp2_with fail
    refine (ct.out _).mono ?_; rintro e w2 ⟨rfl, x_w2⟩
    have h0_w2 := x_w2.keep h0_w1
    have h1_w2 := x_w2.keep h1_w1
    have h2_w2 := x_w2.keep h2_w1
    have h3_w2 := x_w2.keep h3_w1
    have X_w2 := Lib.hid (X_w1.out.trans x_w2)
    have HX2 := Lib.hid x_w2
    clear x_w2
    go_wp2_with fail
    replace z0 := cell_lt h0_w2
    refine (c1.out _).mono ?_; rintro e w3 ⟨rfl, x_w3⟩
    have h0_w3 := x_w3.keep h0_w2
    have h1_w3 := x_w3.keep h1_w2
    have h2_w3 := x_w3.keep h2_w2
    have h3_w3 := x_w3.keep h3_w2
    have X_w3 := Lib.hid (X_w2.out.trans x_w3)
    have HU3 := Lib.hid (IntsIn.ext HU.out (show Ext w1 w3 from HX2.out.trans x_w3))
    clear x_w3
    go_wp2_with fail
    refine (ka.out _).mono ?_; rintro e w4 ⟨rfl, x4⟩
    have X4 := Lib.hid (X_w3.out.trans x4)
    clear x4
    go_wp2_with fail
    go_ret
    exact ⟨rfl, X4.out⟩
set_option maxHeartbeats 4000000 in
theorem law_Bounded_hot (p l m a t : Int) (v : Value) (L : List Int) (hv : HVal p l m a) (ht : a ≤ t) (h2 : htop p l a < t) (w : World) (h : IntsIn w v L) : Calls Try.prog 12 #[.agg #[.int .i64 p, .int .i64 l, .int .i64 m, .int .i64 a], .int .i64 t, v] w fun e w' => e = .returned (.bool true) ∧ Ext w w' := by
    have ka := Lib.hid law_awake
    have cf := Lib.hid fun W (hx : Ext w W) => law_few v L W (h.ext hx)
    obtain ⟨q, c, rfl, _⟩ := h.open
    have d1 := dlt_f ht
    have d2 := dlt_t h2
    have c1 := Lib.hid fun w => thermal_HValid p l m a true (by rw [decide_eq_true hv]) w
    have ct := Lib.hid fun w => thermal_Top p l m a (htop p l a) (.inl ⟨hv, rfl⟩) w
    generalize htop p l a = top at *
    clear h hv ht h2
    go_enter Try.func12, Try.ntmps12
    go_wp2_with fail
    refine (cf.out _ ((Ext.refl w).alloc _)).mono ?_; rintro e w1 ⟨u, rfl, hu, x1⟩
    have HU := Lib.hid hu; have X_w1 := Lib.hid (((Ext.refl w).alloc _).trans x1)
    have h0_w1 : w1.cell? ⟨w.heap.size, 0, none⟩ = some (.int .i64 p) := x1.keep (by go_simp)
    have h1_w1 : w1.cell? ⟨w.heap.size, 1, none⟩ = some (.int .i64 l) := x1.keep (by go_simp)
    have h2_w1 : w1.cell? ⟨w.heap.size, 2, none⟩ = some (.int .i64 m) := x1.keep (by go_simp)
    have h3_w1 : w1.cell? ⟨w.heap.size, 3, none⟩ = some (.int .i64 a) := x1.keep (by go_simp)
    have Z := x1.size; (try simp at Z)
    have z0 : w.heap.size < w1.heap.size := by omega
    clear x1 hu Z
    go_wp2_with fail
    refine (ct.out _).mono ?_; rintro e w2 ⟨rfl, x_w2⟩
    have h0_w2 := x_w2.keep h0_w1
    have h1_w2 := x_w2.keep h1_w1
    have h2_w2 := x_w2.keep h2_w1
    have h3_w2 := x_w2.keep h3_w1
    have X_w2 := Lib.hid (X_w1.out.trans x_w2)
    have HX2 := Lib.hid x_w2
    clear x_w2
    go_wp2_with fail
    replace z0 := cell_lt h0_w2
    refine (c1.out _).mono ?_; rintro e w3 ⟨rfl, x_w3⟩
    have h0_w3 := x_w3.keep h0_w2
    have h1_w3 := x_w3.keep h1_w2
    have h2_w3 := x_w3.keep h2_w2
    have h3_w3 := x_w3.keep h3_w2
    have X_w3 := Lib.hid (X_w2.out.trans x_w3)
    have HU3 := Lib.hid (IntsIn.ext HU.out (show Ext w1 w3 from HX2.out.trans x_w3))
    clear x_w3
    go_wp2_with fail
    refine (ka.out _).mono ?_; rintro e w4 ⟨rfl, x4⟩
    have X4 := Lib.hid (X_w3.out.trans x4)
    clear x4
    go_wp2_with fail
    go_ret
    exact ⟨rfl, X4.out⟩
set_option maxHeartbeats 4000000 in
theorem law_Bounded_good (p l m a t : Int) (v : Value) (L : List Int) (hv : HVal p l m a) (ht : a ≤ t) (h2 : t ≤ htop p l a) (w : World) (h : IntsIn w v L) : Calls Try.prog 12 #[.agg #[.int .i64 p, .int .i64 l, .int .i64 m, .int .i64 a], .int .i64 t, v] w fun e w' => e = .returned (.bool true) ∧ Ext w w' := by
    have ka := Lib.hid law_awake
    have cf := Lib.hid fun W (hx : Ext w W) => law_few v L W (h.ext hx)
    obtain ⟨q, c, rfl, _⟩ := h.open
    have st := Lib.hid fun k => hs_stays (L := L.take 300) hv ht h2 k
    have d1 := dlt_f ht
    have d2 := dlt_f h2
    have c1 := Lib.hid fun w => thermal_HValid p l m a true (by rw [decide_eq_true hv]) w
    have ct := Lib.hid fun w => thermal_Top p l m a (htop p l a) (.inl ⟨hv, rfl⟩) w
    have hn : (L.take 300).length ≤ 1048576 := by rw [List.length_take]; omega
    have hn' : (L.take 300).length ≤ 300 := by rw [List.length_take]; omega
    generalize L.take 300 = M at *
    have cr := Lib.hid fun v w h => thermal_Run p l m a t v M hn w h
    generalize htop p l a = top at *
    clear h hv ht h2 hn
    go_enter Try.func12, Try.ntmps12
    go_wp2_with fail
    refine (cf.out _ ((Ext.refl w).alloc _)).mono ?_; rintro e w1 ⟨u, rfl, hu, x1⟩
    have HU := Lib.hid hu; have X_w1 := Lib.hid (((Ext.refl w).alloc _).trans x1)
    have h0_w1 : w1.cell? ⟨w.heap.size, 0, none⟩ = some (.int .i64 p) := x1.keep (by go_simp)
    have h1_w1 : w1.cell? ⟨w.heap.size, 1, none⟩ = some (.int .i64 l) := x1.keep (by go_simp)
    have h2_w1 : w1.cell? ⟨w.heap.size, 2, none⟩ = some (.int .i64 m) := x1.keep (by go_simp)
    have h3_w1 : w1.cell? ⟨w.heap.size, 3, none⟩ = some (.int .i64 a) := x1.keep (by go_simp)
    have Z := x1.size; (try simp at Z)
    have z0 : w.heap.size < w1.heap.size := by omega
    clear x1 hu Z
    go_wp2_with fail
    refine (ct.out _).mono ?_; rintro e w2 ⟨rfl, x_w2⟩
    have h0_w2 := x_w2.keep h0_w1
    have h1_w2 := x_w2.keep h1_w1
    have h2_w2 := x_w2.keep h2_w1
    have h3_w2 := x_w2.keep h3_w1
    have X_w2 := Lib.hid (X_w1.out.trans x_w2)
    have HX2 := Lib.hid x_w2
    clear x_w2
    go_wp2_with fail
    replace z0 := cell_lt h0_w2
    refine (c1.out _).mono ?_; rintro e w3 ⟨rfl, x_w3⟩
    have h0_w3 := x_w3.keep h0_w2
    have h1_w3 := x_w3.keep h1_w2
    have h2_w3 := x_w3.keep h2_w2
    have h3_w3 := x_w3.keep h3_w2
    have X_w3 := Lib.hid (X_w2.out.trans x_w3)
    have HU3 := Lib.hid (IntsIn.ext HU.out (show Ext w1 w3 from HX2.out.trans x_w3))
    clear x_w3
    go_wp2_with fail
    refine (cr.out _ _ HU3.out).mono ?_; rintro e w4 ⟨v4, rfl, hv4, x4⟩
    obtain ⟨q4, c4, rfl, sv4⟩ := hv4.open
    rw [hout_len]
    have h3_w4 := x4.keep h3_w3
    have V4 := Lib.hid sv4; have X4 := Lib.hid (X_w3.out.trans x4)
    clear hv4 sv4 x4 h0_w1 h1_w1 h2_w1 h3_w1 h0_w2 h1_w2 h2_w2 h3_w2 h0_w3 h1_w3 h2_w3 h3_w3 d1 d2 z0
    go_wp2_with fail
    go_loopw [34] (fun i wr => ∃ k : Nat, i = .int .i64 k ∧ k ≤ M.length ∧ wr = w4) (fun i _ => M.length - (intOf i).toNat)
    case atStart => exact ⟨0, rfl, by omega, rfl⟩
    case round =>
      obtain ⟨k, rfl, hk, rfl⟩ := hrel
      by_cases h : k < M.length
      · obtain ⟨b, o, rfl, hx⟩ := V4.out k (hs p l m a t M (k + 1)) (by simp [hout, h])
        obtain ⟨s1, s2⟩ := st.out (k + 1)
        generalize hs p l m a t M (k + 1) = x at *
        have d1 := dlt_f s1
        have d2 := dlt_f s2
        have kL : (k : Int) < M.length := by omega
        have z1 := cell_lt hx
        have z2 := cell_lt h3_w4
        clear s1 s2
        go_wp2_with fail
        go_roundw
        case rel => exact ⟨k + 1, by go_num, by omega, trivial⟩
        case measure => simp [intOf]; omega
      · obtain rfl : k = M.length := by omega
        have kL : ¬ ((M.length : Int) < M.length) := by omega
        go_wp2_with fail
        refine (ka.out _).mono ?_; rintro e w5 ⟨rfl, x5⟩
        have X5 := Lib.hid (X4.out.trans x5)
        clear x5
        go_wp2_with fail
        go_ret
        exact ⟨rfl, X5.out⟩

theorem law_ThermalBounded (p l m a t : Int) (v : Value) (w : World) (h : Opened w v [.int .i64]) : Calls Try.prog 12 #[.agg #[.int .i64 p, .int .i64 l, .int .i64 m, .int .i64 a], .int .i64 t, v] w fun e w' => e = .returned (.bool true) ∧ Ext w w' := by
  obtain ⟨L, hL, _⟩ := ints_of_opened h
  by_cases hv : HVal p l m a
  · rcases Int.lt_or_le t a with h1 | h1
    · exact law_Bounded_cold p l m a t v L hv h1 w hL
    · rcases Int.lt_or_le (htop p l a) t with h2 | h2
      · exact law_Bounded_hot p l m a t v L hv h1 h2 w hL
      · exact law_Bounded_good p l m a t v L hv h1 h2 w hL
  · exact law_Bounded_bad p l m a t v L hv w hL
set_option maxHeartbeats 4000000 in
theorem law_Runs_ok (p l m a t : Int) (v : Value) (L : List Int) (w : World) (h : IntsIn w v L) : Calls Try.prog 11 #[.agg #[.int .i64 p, .int .i64 l, .int .i64 m, .int .i64 a], .int .i64 t, v] w fun e w' => e = .returned (.bool true) ∧ Ext w w' := by
    have ka := Lib.hid law_awake
    have cf := Lib.hid fun W (hx : Ext w W) => law_few v L W (h.ext hx)
    have hn : (L.take 300).length ≤ 1048576 := by rw [List.length_take]; omega
    obtain ⟨q, c, rfl, _⟩ := h.open
    generalize L.take 300 = M at *
    have cr := Lib.hid fun v w h => thermal_Run p l m a t v M hn w h
    have cs := Lib.hid fun v w h => ref_Run p l m a t v M hn w h
    clear h
    go_enter Try.func11, Try.ntmps11
    go_wp2_with fail
    refine (cf.out _ ((Ext.refl w).alloc _)).mono ?_; rintro e w1 ⟨u, rfl, hu, x1⟩
    have HU := Lib.hid hu; have X_w1 := Lib.hid (((Ext.refl w).alloc _).trans x1)
    have u0 : ∀ w', Ext w1 w' → w'.cell? ⟨w.heap.size, 0, none⟩ = some (.int .i64 p) := fun _ h => h.keep (x1.keep (by go_simp))
    have u1 : ∀ w', Ext w1 w' → w'.cell? ⟨w.heap.size, 1, none⟩ = some (.int .i64 l) := fun _ h => h.keep (x1.keep (by go_simp))
    have u2 : ∀ w', Ext w1 w' → w'.cell? ⟨w.heap.size, 2, none⟩ = some (.int .i64 m) := fun _ h => h.keep (x1.keep (by go_simp))
    have u3 : ∀ w', Ext w1 w' → w'.cell? ⟨w.heap.size, 3, none⟩ = some (.int .i64 a) := fun _ h => h.keep (x1.keep (by go_simp))
    clear x1 hu
    go_wp2_with fail
    have E0 := Ext.refl w1
    refine wp_region_held_drew (S := fun w' => Ext w1 w') (by kernel_rfl) (by (try dsimp only); (repeat' (with_reducible first | assumption | refine Ext.drew ?_ | refine Ext.drewN ?_ _ | exact Ext.refl _))) (fun hHeld => ?_)
    refine htakeX (i := 0) (v := ?_) (some 12) rfl rfl (by kernel_rfl) (by kernel_rfl) (by kernel_rfl) (fun _ _ _ h => h) (Or.inl ⟨by rfl, ?_⟩) (by assumption) ?_; rotate_left; (focus (intro w hSw; (try dsimp only at hSw); go_simp; (try with_reducible rfl))); (try simp only [Act.put]); (try simp only [List.setIfInBounds_toArray]); (try simp only [List.set_cons_succ]); (try simp only [List.set_cons_zero])
    refine htakeX (i := 1) (v := ?_) (some 13) rfl rfl (by kernel_rfl) (by kernel_rfl) (by kernel_rfl) (fun _ _ _ h => h) (Or.inl ⟨by rfl, ?_⟩) (by assumption) ?_; rotate_left; (focus (intro w hSw; (try dsimp only at hSw); go_simp; (try with_reducible rfl))); (try simp only [Act.put]); (try simp only [List.setIfInBounds_toArray]); (try simp only [List.set_cons_succ]); (try simp only [List.set_cons_zero])
    refine htakeX (i := 2) (v := ?_) (some 14) rfl rfl (by kernel_rfl) (by kernel_rfl) (by kernel_rfl) (fun _ _ _ h => h) (Or.inl ⟨by rfl, ?_⟩) (by assumption) ?_; rotate_left; (focus (intro w hSw; (try dsimp only at hSw); go_simp; (try with_reducible rfl))); (try simp only [Act.put]); (try simp only [List.setIfInBounds_toArray]); (try simp only [List.set_cons_succ]); (try simp only [List.set_cons_zero])
    refine htakeX (i := 4) (v := ?_) (some 16) rfl rfl (by kernel_rfl) (by kernel_rfl) (by kernel_rfl) (fun _ _ _ h => h) (Or.inl ⟨by rfl, ?_⟩) (by assumption) ?_; rotate_left; (focus (intro w hSw; (try dsimp only at hSw); go_simp; (try with_reducible rfl))); (try simp only [Act.put]); (try simp only [List.setIfInBounds_toArray]); (try simp only [List.set_cons_succ]); (try simp only [List.set_cons_zero])
    refine htakeX (i := 5) (v := ?_) (some 17) rfl rfl (by kernel_rfl) (by kernel_rfl) (by kernel_rfl) (fun _ _ _ h => h) (Or.inl ⟨by rfl, ?_⟩) (by assumption) ?_; rotate_left; (focus (intro w hSw; (try dsimp only at hSw); go_simp; (try with_reducible rfl))); (try simp only [Act.put]); (try simp only [List.setIfInBounds_toArray]); (try simp only [List.set_cons_succ]); (try simp only [List.set_cons_zero])
    refine htakeX (i := 6) (v := ?_) (some 18) rfl rfl (by kernel_rfl) (by kernel_rfl) (by kernel_rfl) (fun _ _ _ h => h) (Or.inl ⟨by rfl, ?_⟩) (by assumption) ?_; rotate_left; (focus (intro w hSw; (try dsimp only at hSw); go_simp; (try with_reducible rfl))); (try simp only [Act.put]); (try simp only [List.setIfInBounds_toArray]); (try simp only [List.set_cons_succ]); (try simp only [List.set_cons_zero])
    refine wpAnyH_ready (rs := [3]) (by kernel_rfl) (by simp) ?_
    refine AllReadyH.cons rfl (fun K hK => ?_) AllReadyH.nil
    go_simp
    refine (cr.out _ _ (IntsIn.ext HU.out (show Ext w1 _ by assumption))).mono ?_; rintro e w2 ⟨v2, rfl, hv2, y2⟩; have V2 := Lib.hid hv2; have x_w2 := Ext.trans (show Ext w1 _ by assumption) y2; clear hv2 y2
    (try go_wp2_with fail)
    refine hK.out _ _ ?_ (fun hHeld => ?_)
    · (try dsimp only); (repeat' (with_reducible first | assumption | refine Ext.drew ?_ | refine Ext.drewN ?_ _ | exact Ext.refl _))
    clear hK K
    (try simp only [Act.put]); (try simp only [List.setIfInBounds_toArray]); (try simp only [List.set_cons_succ]); (try simp only [List.set_cons_zero])
    refine wpAnyH_ready (rs := [7]) (by kernel_rfl) (by simp) ?_
    refine AllReadyH.cons rfl (fun K hK => ?_) AllReadyH.nil
    go_simp
    refine (cs.out _ _ (IntsIn.ext HU.out (show Ext w1 _ by assumption))).mono ?_; rintro e w3 ⟨v3, rfl, hv3, y3⟩; have V3 := Lib.hid hv3; have V22 := Lib.hid (IntsIn.ext V2.out (show Ext w2 w3 from Ext.trans (by (repeat' (with_reducible first | refine Ext.drew ?_ | refine Ext.drewN ?_ _ | exact Ext.refl _))) y3)); have x_w3 := Ext.trans (show Ext w1 _ by assumption) y3; clear hv3 y3
    (try go_wp2_with fail)
    refine hK.out _ _ ?_ (fun hHeld => ?_)
    · (try dsimp only); (repeat' (with_reducible first | assumption | refine Ext.drew ?_ | refine Ext.drewN ?_ _ | exact Ext.refl _))
    clear hK K
    (try simp only [Act.put]); (try simp only [List.setIfInBounds_toArray]); (try simp only [List.set_cons_succ]); (try simp only [List.set_cons_zero])
    refine htakeX (i := 8) (v := ?_) (some 7) rfl rfl (by kernel_rfl) (by kernel_rfl) (by kernel_rfl) (fun _ _ _ h => h) (Or.inl ⟨by rfl, ?_⟩) (by assumption) ?_; rotate_left; (focus (intro w hSw; (try dsimp only at hSw); go_simp; (try with_reducible rfl))); (try simp only [Act.put]); (try simp only [List.setIfInBounds_toArray]); (try simp only [List.set_cons_succ]); (try simp only [List.set_cons_zero])
    refine htakeX (i := 9) (v := ?_) (some 8) rfl rfl (by kernel_rfl) (by kernel_rfl) (by kernel_rfl) (fun _ _ _ h => h) (Or.inl ⟨by rfl, ?_⟩) (by assumption) ?_; rotate_left; (focus (intro w hSw; (try dsimp only at hSw); go_simp; (try with_reducible rfl))); (try simp only [Act.put]); (try simp only [List.setIfInBounds_toArray]); (try simp only [List.set_cons_succ]); (try simp only [List.set_cons_zero])
    refine wpAnyH_done (by kernel_rfl) ?_ _
    clear hHeld
    have XW := Lib.hid (Ext.refl w3)
    obtain ⟨q2, c2, rfl, s2⟩ := (V22.out.ext XW.out).open
    obtain ⟨q3, c3, rfl, s3⟩ := (V3.out.ext XW.out).open
    obtain ⟨qd, cd, rfl, sd⟩ := (HU.out.ext (x_w3.trans XW.out)).open
    rw [hout_len] at *
    have X1W := Lib.hid (x_w3.trans XW.out)
    have S2 := Lib.hid s2; have S3 := Lib.hid s3; have SD := Lib.hid sd
    have nn := bne_f (rfl : (M.length : Int) = M.length)
    clear V2 V22 V3 HU s2 s3 sd cr cs x_w2 x_w3 E0
    go_wp2_with fail
    go_loopw [1, 27] (fun s i wr => ∃ k : Nat, i = .int .i64 k ∧ s = .int .i64 (hs p l m a t M k) ∧ k ≤ M.length ∧ Ext w3 wr) (fun _ i _ => M.length - (intOf i).toNat)
    case atStart => exact ⟨0, rfl, by rw [hs_zero], by omega, Ext.refl _⟩
    case round =>
      obtain ⟨k, rfl, rfl, hk, hxt⟩ := hrel
      by_cases h : k < M.length
      · obtain ⟨d, hd⟩ : ∃ d, M[k]? = some d := ⟨_, List.getElem?_eq_getElem h⟩
        have nx := hs_next p l m a t M k d hd
        have gh : (hout p l m a t M M.length)[k]? = some (hs p l m a t M (k + 1)) := by simp [hout, h]
        obtain ⟨b2, o2, rfl, g2⟩ := (S2.out.ext hxt) k _ gh
        obtain ⟨b3, o3, rfl, g3⟩ := (S3.out.ext hxt) k _ gh
        obtain ⟨bd, od, rfl, gd⟩ := (SD.out.ext hxt) k _ hd
        have h2 : ∀ w', Ext wr w' → w'.cell? ⟨b2, o2 + k, none⟩ = some (.int .i64 (hs p l m a t M (k + 1))) := fun _ h => h.keep g2
        have h3 : ∀ w', Ext wr w' → w'.cell? ⟨b3, o3 + k, none⟩ = some (.int .i64 (hs p l m a t M (k + 1))) := fun _ h => h.keep g3
        have h4 : ∀ w', Ext wr w' → w'.cell? ⟨bd, od + k, none⟩ = some (.int .i64 d) := fun _ h => h.keep gd
        replace u0 : ∀ w', Ext wr w' → w'.cell? ⟨w.heap.size, 0, none⟩ = some (.int .i64 p) := fun _ h => u0 _ ((X1W.out.trans hxt).trans h)
        replace u1 : ∀ w', Ext wr w' → w'.cell? ⟨w.heap.size, 1, none⟩ = some (.int .i64 l) := fun _ h => u1 _ ((X1W.out.trans hxt).trans h)
        replace u2 : ∀ w', Ext wr w' → w'.cell? ⟨w.heap.size, 2, none⟩ = some (.int .i64 m) := fun _ h => u2 _ ((X1W.out.trans hxt).trans h)
        replace u3 : ∀ w', Ext wr w' → w'.cell? ⟨w.heap.size, 3, none⟩ = some (.int .i64 a) := fun _ h => u3 _ ((X1W.out.trans hxt).trans h)
        have hh := hst_is p l m a (hs p l m a t M k) d
        have cs := Lib.hid fun w => thermal_HStep p l m a (hs p l m a t M k) d (hst p l m a (hs p l m a t M k) d) hh w
        rw [← nx] at cs
        have e1 := bne_f (rfl : hs p l m a t M (k + 1) = hs p l m a t M (k + 1))
        have XR := Lib.hid hxt
        have kL : (k : Int) < M.length := by omega
        clear nx gh g2 g3 gd hd hh hxt
        generalize hs p l m a t M k = s at *
        obtain ⟨s', hs'⟩ : ∃ s', s' = hs p l m a t M (k + 1) := ⟨_, rfl⟩
        have HS := Lib.hid hs'
        rw [← hs'] at cs h2 h3 e1
        clear hs'
        go_wp2_with fail
        have E0 := Ext.refl wr
        refine wp_region_held_drew (S := fun w' => Ext wr w') (by kernel_rfl) (by (try dsimp only); (repeat' (with_reducible first | assumption | refine Ext.drew ?_ | refine Ext.drewN ?_ _ | exact Ext.refl _))) (fun hHeld => ?_)
        refine htakeX (i := 0) (v := ?_) (some 30) rfl rfl (by kernel_rfl) (by kernel_rfl) (by kernel_rfl) (fun _ _ _ h => h) (Or.inl ⟨by rfl, ?_⟩) (by assumption) ?_; rotate_left; (focus (intro w hSw; (try dsimp only at hSw); go_simp; (try with_reducible rfl))); (try simp only [Act.put]); (try simp only [List.setIfInBounds_toArray]); (try simp only [List.set_cons_succ]); (try simp only [List.set_cons_zero])
        refine htakeX (i := 1) (v := ?_) (some 31) rfl rfl (by kernel_rfl) (by kernel_rfl) (by kernel_rfl) (fun _ _ _ h => h) (Or.inl ⟨by rfl, ?_⟩) (by assumption) ?_; rotate_left; (focus (intro w hSw; (try dsimp only at hSw); go_simp; (try with_reducible rfl))); (try simp only [Act.put]); (try simp only [List.setIfInBounds_toArray]); (try simp only [List.set_cons_succ]); (try simp only [List.set_cons_zero])
        refine htakeX (i := 2) (v := ?_) (some 32) rfl rfl (by kernel_rfl) (by kernel_rfl) (by kernel_rfl) (fun _ _ _ h => h) (Or.inl ⟨by rfl, ?_⟩) (by assumption) ?_; rotate_left; (focus (intro w hSw; (try dsimp only at hSw); go_simp; (try with_reducible rfl))); (try simp only [Act.put]); (try simp only [List.setIfInBounds_toArray]); (try simp only [List.set_cons_succ]); (try simp only [List.set_cons_zero])
        refine htakeX (i := 3) (v := ?_) (some 33) rfl rfl (by kernel_rfl) (by kernel_rfl) (by kernel_rfl) (fun _ _ _ h => h) (Or.inl ⟨by rfl, ?_⟩) (by assumption) ?_; rotate_left; (focus (intro w hSw; (try dsimp only at hSw); go_simp; (try with_reducible rfl))); (try simp only [Act.put]); (try simp only [List.setIfInBounds_toArray]); (try simp only [List.set_cons_succ]); (try simp only [List.set_cons_zero])
        refine htakeX (i := 4) (v := ?_) (some 34) rfl rfl (by kernel_rfl) (by kernel_rfl) (by kernel_rfl) (fun _ _ _ h => h) (Or.inl ⟨by rfl, ?_⟩) (by assumption) ?_; rotate_left; (focus (intro w hSw; (try dsimp only at hSw); go_simp; (try with_reducible rfl))); (try simp only [Act.put]); (try simp only [List.setIfInBounds_toArray]); (try simp only [List.set_cons_succ]); (try simp only [List.set_cons_zero])
        refine htakeX (i := 5) (v := ?_) (some 35) rfl rfl (by kernel_rfl) (by kernel_rfl) (by kernel_rfl) (fun _ _ _ h => h) (Or.inl ⟨by rfl, ?_⟩) (by assumption) ?_; rotate_left; (focus (intro w hSw; (try dsimp only at hSw); go_simp; (try with_reducible rfl))); (try simp only [Act.put]); (try simp only [List.setIfInBounds_toArray]); (try simp only [List.set_cons_succ]); (try simp only [List.set_cons_zero])
        refine wpAnyH_ready (rs := [6]) (by kernel_rfl) (by simp) ?_
        refine AllReadyH.cons rfl (fun K hK => ?_) AllReadyH.nil
        go_simp
        refine (cs.out _).mono ?_; rintro e w5 ⟨rfl, y5⟩; have x_w5 := Ext.trans (show Ext wr _ by assumption) y5; clear y5
        (try go_wp2_with fail)
        refine hK.out _ _ ?_ (fun hHeld => ?_)
        · (try dsimp only); (repeat' (with_reducible first | assumption | refine Ext.drew ?_ | refine Ext.drewN ?_ _ | exact Ext.refl _))
        clear hK K
        (try simp only [Act.put]); (try simp only [List.setIfInBounds_toArray]); (try simp only [List.set_cons_succ]); (try simp only [List.set_cons_zero])
        refine htakeX (i := 7) (v := ?_) (some 1) rfl rfl (by kernel_rfl) (by kernel_rfl) (by kernel_rfl) (fun _ _ _ h => h) (Or.inl ⟨by rfl, ?_⟩) (by assumption) ?_; rotate_left; (focus (intro w hSw; (try dsimp only at hSw); go_simp; (try with_reducible rfl))); (try simp only [Act.put]); (try simp only [List.setIfInBounds_toArray]); (try simp only [List.set_cons_succ]); (try simp only [List.set_cons_zero])
        refine wpAnyH_done (by kernel_rfl) ?_ _
        clear hHeld
        go_wp2_with fail
        refine wp_region_held_drew (S := fun w' => Ext wr w') (by kernel_rfl) (by (try dsimp only); (repeat' (with_reducible first | assumption | refine Ext.drew ?_ | refine Ext.drewN ?_ _ | exact Ext.refl _))) (fun hHeld => ?_)
        refine htakeX (i := 0) (v := ?_) (some 37) rfl rfl (by kernel_rfl) (by kernel_rfl) (by kernel_rfl) (fun _ _ _ h => h) (Or.inl ⟨by rfl, ?_⟩) (by assumption) ?_; rotate_left; (focus (intro w hSw; (try dsimp only at hSw); go_simp; (try with_reducible rfl))); (try simp only [Act.put]); (try simp only [List.setIfInBounds_toArray]); (try simp only [List.set_cons_succ]); (try simp only [List.set_cons_zero])
        refine htakeX (i := 1) (v := ?_) (some 38) rfl rfl (by kernel_rfl) (by kernel_rfl) (by kernel_rfl) (fun _ _ _ h => h) (Or.inl ⟨by rfl, ?_⟩) (by assumption) ?_; rotate_left; (focus (intro w hSw; (try dsimp only at hSw); go_simp; (try with_reducible rfl))); (try simp only [Act.put]); (try simp only [List.setIfInBounds_toArray]); (try simp only [List.set_cons_succ]); (try simp only [List.set_cons_zero])
        refine htakeX (i := 2) (v := ?_) (some 39) rfl rfl (by kernel_rfl) (by kernel_rfl) (by kernel_rfl) (fun _ _ _ h => h) (Or.inl ⟨by rfl, ?_⟩) (by assumption) ?_; rotate_left; (focus (intro w hSw; (try dsimp only at hSw); go_simp; (try with_reducible rfl))); (try simp only [Act.put]); (try simp only [List.setIfInBounds_toArray]); (try simp only [List.set_cons_succ]); (try simp only [List.set_cons_zero])
        refine htakeX (i := 3) (v := ?_) (some 40) rfl rfl (by kernel_rfl) (by kernel_rfl) (by kernel_rfl) (fun _ _ _ h => h) (Or.inl ⟨by rfl, ?_⟩) (by assumption) ?_; rotate_left; (focus (intro w hSw; (try dsimp only at hSw); go_simp; (try with_reducible rfl))); (try simp only [Act.put]); (try simp only [List.setIfInBounds_toArray]); (try simp only [List.set_cons_succ]); (try simp only [List.set_cons_zero])
        refine htakeX (i := 4) (v := ?_) (some 41) rfl rfl (by kernel_rfl) (by kernel_rfl) (by kernel_rfl) (fun _ _ _ h => h) (Or.inl ⟨by rfl, ?_⟩) (by assumption) ?_; rotate_left; (focus (intro w hSw; (try dsimp only at hSw); go_simp; (try with_reducible rfl))); (try simp only [Act.put]); (try simp only [List.setIfInBounds_toArray]); (try simp only [List.set_cons_succ]); (try simp only [List.set_cons_zero])
        refine htakeX (i := 5) (v := ?_) (some 42) rfl rfl (by kernel_rfl) (by kernel_rfl) (by kernel_rfl) (fun _ _ _ h => h) (Or.inl ⟨by rfl, ?_⟩) (by assumption) ?_; rotate_left; (focus (intro w hSw; (try dsimp only at hSw); go_simp; (try with_reducible rfl))); (try simp only [Act.put]); (try simp only [List.setIfInBounds_toArray]); (try simp only [List.set_cons_succ]); (try simp only [List.set_cons_zero])
        refine htakeX (i := 6) (v := ?_) (some 43) rfl rfl (by kernel_rfl) (by kernel_rfl) (by kernel_rfl) (fun _ _ _ h => h) (Or.inl ⟨by rfl, ?_⟩) (by assumption) ?_; rotate_left; (focus (intro w hSw; (try dsimp only at hSw); go_simp; (try with_reducible rfl))); (try simp only [Act.put]); (try simp only [List.setIfInBounds_toArray]); (try simp only [List.set_cons_succ]); (try simp only [List.set_cons_zero])
        refine htakeX (i := 7) (v := ?_) (some 44) rfl rfl (by kernel_rfl) (by kernel_rfl) (by kernel_rfl) (fun _ _ _ h => h) (Or.inl ⟨by rfl, ?_⟩) (by assumption) ?_; rotate_left; (focus (intro w hSw; (try dsimp only at hSw); go_simp; (try with_reducible rfl))); (try simp only [Act.put]); (try simp only [List.setIfInBounds_toArray]); (try simp only [List.set_cons_succ]); (try simp only [List.set_cons_zero])
        refine htakeX (i := 8) (v := ?_) (some 45) rfl rfl (by kernel_rfl) (by kernel_rfl) (by kernel_rfl) (fun _ _ _ h => h) (Or.inl ⟨by rfl, ?_⟩) (by assumption) ?_; rotate_left; (focus (intro w hSw; (try dsimp only at hSw); go_simp; (try with_reducible rfl))); (try simp only [Act.put]); (try simp only [List.setIfInBounds_toArray]); (try simp only [List.set_cons_succ]); (try simp only [List.set_cons_zero])
        refine htakeX (i := 9) (v := ?_) (some 46) rfl rfl (by kernel_rfl) (by kernel_rfl) (by kernel_rfl) (fun _ _ _ h => h) (Or.inl ⟨by rfl, ?_⟩) (by assumption) ?_; rotate_left; (focus (intro w hSw; (try dsimp only at hSw); go_simp; (try with_reducible rfl))); (try simp only [Act.put]); (try simp only [List.setIfInBounds_toArray]); (try simp only [List.set_cons_succ]); (try simp only [List.set_cons_zero])
        refine htakeX (i := 10) (v := ?_) (some 47) rfl rfl (by kernel_rfl) (by kernel_rfl) (by kernel_rfl) (fun _ _ _ h => h) (Or.inl ⟨by rfl, ?_⟩) (by assumption) ?_; rotate_left; (focus (intro w hSw; (try dsimp only at hSw); go_simp; (try with_reducible rfl))); (try simp only [Act.put]); (try simp only [List.setIfInBounds_toArray]); (try simp only [List.set_cons_succ]); (try simp only [List.set_cons_zero])
        refine htakeX (i := 11) (v := ?_) (some 48) rfl rfl (by kernel_rfl) (by kernel_rfl) (by kernel_rfl) (fun _ _ _ h => h) (Or.inl ⟨by rfl, ?_⟩) (by assumption) ?_; rotate_left; (focus (intro w hSw; (try dsimp only at hSw); go_simp; (try with_reducible rfl))); (try simp only [Act.put]); (try simp only [List.setIfInBounds_toArray]); (try simp only [List.set_cons_succ]); (try simp only [List.set_cons_zero])
        refine htakeX (i := 12) (v := ?_) (some 49) rfl rfl (by kernel_rfl) (by kernel_rfl) (by kernel_rfl) (fun _ _ _ h => h) (Or.inl ⟨by rfl, ?_⟩) (by assumption) ?_; rotate_left; (focus (intro w hSw; (try dsimp only at hSw); go_simp; (try with_reducible rfl))); (try simp only [Act.put]); (try simp only [List.setIfInBounds_toArray]); (try simp only [List.set_cons_succ]); (try simp only [List.set_cons_zero])
        refine htakeX (i := 13) (v := ?_) (some 50) rfl rfl (by kernel_rfl) (by kernel_rfl) (by kernel_rfl) (fun _ _ _ h => h) (Or.inl ⟨by rfl, ?_⟩) (by assumption) ?_; rotate_left; (focus (intro w hSw; (try dsimp only at hSw); go_simp; (try with_reducible rfl))); (try simp only [Act.put]); (try simp only [List.setIfInBounds_toArray]); (try simp only [List.set_cons_succ]); (try simp only [List.set_cons_zero])
        refine htakeX (i := 14) (v := ?_) (some 51) rfl rfl (by kernel_rfl) (by kernel_rfl) (by kernel_rfl) (fun _ _ _ h => h) (Or.inl ⟨by rfl, ?_⟩) (by assumption) ?_; rotate_left; (focus (intro w hSw; (try dsimp only at hSw); go_simp; (try with_reducible rfl))); (try simp only [Act.put]); (try simp only [List.setIfInBounds_toArray]); (try simp only [List.set_cons_succ]); (try simp only [List.set_cons_zero])
        refine htakeX (i := 15) (v := ?_) (some 52) rfl rfl (by kernel_rfl) (by kernel_rfl) (by kernel_rfl) (fun _ _ _ h => h) (Or.inl ⟨by rfl, ?_⟩) (by assumption) ?_; rotate_left; (focus (intro w hSw; (try dsimp only at hSw); go_simp; (try with_reducible rfl))); (try simp only [Act.put]); (try simp only [List.setIfInBounds_toArray]); (try simp only [List.set_cons_succ]); (try simp only [List.set_cons_zero])
        refine htakeX (i := 16) (v := ?_) (some 53) rfl rfl (by kernel_rfl) (by kernel_rfl) (by kernel_rfl) (fun _ _ _ h => h) (Or.inl ⟨by rfl, ?_⟩) (by assumption) ?_; rotate_left; (focus (intro w hSw; (try dsimp only at hSw); go_simp; (try with_reducible rfl))); (try simp only [Act.put]); (try simp only [List.setIfInBounds_toArray]); (try simp only [List.set_cons_succ]); (try simp only [List.set_cons_zero])
        refine wpAnyH_done (by kernel_rfl) ?_ _
        clear hHeld
        have XE := Lib.hid (XR.out.trans x_w5)
        clear x_w5 E0 h2 h3 h4 u0 u1 u2 u3
        go_wp2_with fail
        go_roundw
        case rel => exact ⟨k + 1, by go_num, by rw [HS.out], by omega, by have := XE.out; (repeat' (with_reducible first | assumption | refine Ext.drew ?_ | refine Ext.drewN ?_ _ | exact Ext.refl _))⟩
        case measure => simp [intOf]; omega
      · obtain rfl : k = M.length := by omega
        have kL : ¬ ((M.length : Int) < M.length) := by omega
        have XR := Lib.hid (X_w1.out.trans (X1W.out.trans hxt))
        clear hxt u0 u1 u2 u3
        go_wp2_with fail
        refine (ka.out _).mono ?_; rintro e w5 ⟨rfl, x5⟩
        have X5 := Lib.hid (XR.out.trans x5)
        clear x5
        go_wp2_with fail
        go_ret
        exact ⟨rfl, X5.out⟩
theorem law_ThermalRuns (p l m a t : Int) (v : Value) (w : World) (h : Opened w v [.int .i64]) : Calls Try.prog 11 #[.agg #[.int .i64 p, .int .i64 l, .int .i64 m, .int .i64 a], .int .i64 t, v] w fun e w' => e = .returned (.bool true) ∧ Ext w w' := by
  obtain ⟨L, hL, _⟩ := ints_of_opened h
  exact law_Runs_ok p l m a t v L w hL
end Go.Proofs.Ythgmacoljkljfaa

