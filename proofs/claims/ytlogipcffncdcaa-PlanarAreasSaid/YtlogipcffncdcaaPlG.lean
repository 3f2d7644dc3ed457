/-
  Contracts of planar's usable and Area2: a slice of points.
-/
import Derived.Test.YtlogipcffncdcaaPlF
import Derived.Test.YtlogipcffncdcaaSlc
import Derived.Lib.Walk
namespace Go.Proofs.Ytlogipcffncdcaa
open Go.RowKit
/-- The points L lie behind address q. -/
def PI (w : World) (q : Option Addr) (L : List (Int × Int)) : Prop := ∀ (i : Nat) (x y : Int), L[i]? = some (x, y) → ∃ bl o, q = some ⟨bl, o, none⟩ ∧ w.cell? ⟨bl, o + i * 2, none⟩ = some (.int .i64 x) ∧ w.cell? ⟨bl, o + i * 2 + 1, none⟩ = some (.int .i64 y)
theorem PI.ext {w w' : World} {q : Option Addr} {L : List (Int × Int)} (h : PI w q L) (hx : Ext w w') : PI w' q L := fun i x y hi => by
  obtain ⟨bl, o, e, h1, h2⟩ := h i x y hi
  exact ⟨bl, o, e, hx.keep h1, hx.keep h2⟩
theorem pts_of_opened {W : World} {v : Value} (h : Opened W v [.int .i64, .int .i64]) : ∃ q c L, v = .slice q L.length c ∧ PI W q L ∧ L.length ≤ maxLen := by
  rcases h with ⟨q, c, rfl⟩ | ⟨b, o, n, c, rfl, h0, hn, hc, hx⟩
  · exact ⟨q, c, [], rfl, fun i x y hi => by simp at hi, by simp [maxLen]⟩
  · have each : ∀ i, i < n → ∃ x : Int × Int, W.cell? ⟨b, o + i * 2, none⟩ = some (.int .i64 x.1) ∧ W.cell? ⟨b, o + i * 2 + 1, none⟩ = some (.int .i64 x.2) := by
      intro i hi
      obtain ⟨cs, ⟨x0, _, rfl, _, x1, _, rfl, _, rfl⟩, hcell⟩ := hx i hi
      exact ⟨(x0, x1), by simpa using hcell 0 _ rfl, by simpa using hcell 1 _ rfl⟩
    obtain ⟨f, hf⟩ := Go.Deep.choose_lt each
    refine ⟨_, c, (List.range n).map f, by rw [List.length_map, List.length_range], ?_, by simp; omega⟩
    intro i x y hi
    have hin : i < n := by
      have := (List.getElem?_eq_some_iff.1 hi).1
      simpa using this
    have e : f i = (x, y) := by simpa [hin] using hi
    have := hf i hin
    rw [e] at this
    exact ⟨b, o, rfl, this⟩
/-- All points are valid, and there are at most 8192. -/
def PUse (L : List (Int × Int)) : Prop := L.length ≤ 8192 ∧ ∀ (i : Nat) (x y : Int), L[i]? = some (x, y) → In2 16777216 x y
set_option maxHeartbeats 4000000 in
theorem planar_usable (q : Option Addr) (c : Nat) (L : List (Int × Int)) (t : Bool) (ht : t = true ↔ PUse L) (w : World) (hL : PI w q L) :
    Calls Try.prog 45 #[.slice q L.length c] w fun e w' => e = .returned (.bool t) ∧ Ext w w' := by
  by_cases h1 : L.length ≤ 8192
  case neg =>
    have d1 := dlt_t (show (8192 : Int) < L.length by omega)
    obtain rfl : t = false := by
      cases t
      · rfl
      · exact absurd (ht.1 rfl).1 h1
    clear ht hL h1
    go_enter Try.func45, Try.ntmps45
    go_wp2_with fail
    go_ret
    exact ⟨rfl, by (repeat' (with_reducible first | refine Ext.drew ?_ | refine Ext.drewN ?_ _ | refine Ext.alloc ?_ _ | exact Ext.refl _ | fail | (refine Ext.setCell ?_ ?_ _; rotate_left; (focus ((try simp); try omega)))))⟩
  have d1 := dlt_f (show (L.length : Int) ≤ 8192 by omega)
  have HT := Lib.hid ht; have HL := Lib.hid hL
  clear ht hL
  go_enter Try.func45, Try.ntmps45
  go_wp2_with fail
  go_loopw [10] (fun i wr => ∃ k : Nat, i = .int .i64 k ∧ k ≤ L.length ∧ (∀ (j : Nat) (x y : Int), j < k → L[j]? = some (x, y) → In2 16777216 x y) ∧ Ext w wr) (fun i _ => L.length - (intOf i).toNat)
  case atStart => exact ⟨0, rfl, by omega, fun j _ _ hj => absurd hj (by omega), Ext.refl _⟩
  case round =>
    obtain ⟨k, rfl, hk, hok, hxt⟩ := hrel
    by_cases h : k < L.length
    · obtain ⟨⟨x, y⟩, hd⟩ : ∃ d, L[k]? = some d := ⟨_, List.getElem?_eq_getElem h⟩
      obtain ⟨bl, o, rfl, e1, e2⟩ := (HL.out.ext hxt) k x y hd
      have z := cell_lt e1
      have kL : (k : Int) < L.length := by omega
      have HX := Lib.hid hxt
      by_cases hi : In2 16777216 x y
      · have c1 := Lib.hid fun w => planar_Valid x y true (by rw [decide_eq_true hi]) w
        have HOK := Lib.hid (show ∀ (j : Nat) (u v : Int), j < k + 1 → L[j]? = some (u, v) → In2 16777216 u v from fun j u v hj he => by
          rcases Nat.lt_or_ge j k with h' | h'
          · exact hok j u v h' he
          · obtain rfl : j = k := by omega
            rw [hd] at he; cases he; exact hi)
        clear hok hd hxt hi
        go_wp2_with fail
        refine (c1.out _).mono ?_; rintro e w1 ⟨rfl, x1⟩
        have X1 := Lib.hid (HX.out.trans (show Ext wr w1 from ((Ext.refl wr).alloc _).trans x1))
        clear x1
        go_wp2_with fail
        go_roundw
        case rel => exact ⟨k + 1, by go_num, by omega, HOK.out, X1.out⟩
        case measure => simp [intOf]; omega
      · have c1 := Lib.hid fun w => planar_Valid x y false (by rw [decide_eq_false hi]) w
        obtain rfl : t = false := by
          cases t
          · rfl
          · exact absurd ((HT.out.1 rfl).2 k x y hd) hi
        clear hok hd hxt hi
        go_wp2_with fail
        refine (c1.out _).mono ?_; rintro e w1 ⟨rfl, x1⟩
        have X1 := Lib.hid (HX.out.trans (show Ext wr w1 from ((Ext.refl wr).alloc _).trans x1))
        clear x1
        go_wp2_with fail
        go_ret
        exact ⟨rfl, X1.out⟩
    · obtain rfl : k = L.length := by omega
      have kL : ¬ ((L.length : Int) < L.length) := by omega
      obtain rfl : t = true := HT.out.2 ⟨h1, fun i x y hi => hok i x y (List.getElem?_eq_some_iff.1 hi).1 hi⟩
      have HX := Lib.hid hxt
      clear hok hxt
      go_wp2_with fail
      go_ret
      exact ⟨rfl, HX.out⟩
/-- Twice the area: the part of an edge. -/
def pterm (L : List (Int × Int)) (i j : Nat) : Int := match L[i]?, L[j]? with
  | some (x, y), some (u, v) => x * v - y * u
  | _, _ => 0
def parea (L : List (Int × Int)) : Nat → Int
  | 0 => 0
  | k + 1 => parea L k + pterm L k ((k + 1) % L.length)
theorem pterm_size {L : List (Int × Int)} (h : PUse L) (i j : Nat) : -562949953421312 ≤ pterm L i j ∧ pterm L i j ≤ 562949953421312 := by
  unfold pterm
  split
  · rename_i x y u v e1 e2
    obtain ⟨a0, a1, a2, a3⟩ := h.2 i x y e1
    obtain ⟨b0, b1, b2, b3⟩ := h.2 j u v e2
    have m0 := mul_in (a := x) (b := v) (k := 16777216) (m := 16777216) (by omega) (by omega) (by omega) (by omega)
    have m1 := mul_in (a := y) (b := u) (k := 16777216) (m := 16777216) (by omega) (by omega) (by omega) (by omega)
    omega
  · omega
theorem parea_size {L : List (Int × Int)} (h : PUse L) : ∀ k : Nat, -(562949953421312 * k) ≤ parea L k ∧ parea L k ≤ 562949953421312 * k
  | 0 => by simp [parea]
  | k + 1 => by
    have := parea_size h k
    have := pterm_size h k ((k + 1) % L.length)
    simp only [parea]
    omega
set_option maxHeartbeats 4000000 in
theorem planar_Area2_no (q : Option Addr) (c : Nat) (L : List (Int × Int)) (hu : ¬ PUse L) (w : World) (hL : PI w q L) :
    Calls Try.prog 29 #[.slice q L.length c] w fun e w' => e = .returned (.int .i64 0) ∧ Ext w w' := by
  have c1 := Lib.hid (planar_usable q c L false (by simp [hu]) w hL)
  clear hu hL
  go_enter Try.func29, Try.ntmps29
  go_wp2_with fail
  refine (c1.out).mono ?_; rintro e w1 ⟨rfl, x_w1⟩
  obtain ⟨k_w1, f_w1⟩ := bcell x_w1
  have X_w1 := Lib.hid (show Ext w w1 from Ext.trans (by (repeat' (with_reducible first | refine Ext.drew ?_ | refine Ext.drewN ?_ _ | refine Ext.alloc ?_ _ | exact Ext.refl _ | fail | (refine Ext.setCell ?_ ?_ _; rotate_left; (focus ((try simp); try omega)))))) x_w1)
  clear x_w1
  go_wp2_with fail
  go_ret
  exact ⟨rfl, by (repeat' (with_reducible first | refine Ext.drew ?_ | refine Ext.drewN ?_ _ | refine Ext.alloc ?_ _ | exact Ext.refl _ | exact X_w1.out | (refine Ext.setCell ?_ ?_ _; rotate_left; (focus ((try simp); try omega)))))⟩
set_option maxHeartbeats 4000000 in
theorem planar_Area2 (q : Option Addr) (c : Nat) (L : List (Int × Int)) (hu : PUse L) (w : World) (hL : PI w q L) :
    Calls Try.prog 29 #[.slice q L.length c] w fun e w' => e = .returned (.int .i64 (parea L L.length)) ∧ Ext w w' := by
  have c1 := Lib.hid (planar_usable q c L true (by simp [hu]) w hL)
  have hn := hu.1
  have HL := Lib.hid hL; have HU := Lib.hid hu
  clear hL hu
  go_enter Try.func29, Try.ntmps29
  go_wp2_with fail
  refine c1.out.mono ?_; rintro e w1 ⟨rfl, x1⟩
  have X1 := Lib.hid x1
  clear x1
  go_wp2_with fail
  go_loopw [3, 12] (fun s i wr => ∃ k : Nat, i = .int .i64 k ∧ s = .int .i64 (parea L k) ∧ k ≤ L.length ∧ Ext w wr) (fun _ i _ => L.length - (intOf i).toNat)
  case atStart => exact ⟨0, rfl, rfl, by omega, X1.out⟩
  case round =>
    obtain ⟨k, rfl, rfl, hk, hxt⟩ := hrel
    by_cases h : k < L.length
    · obtain ⟨⟨x, y⟩, hd⟩ : ∃ d, L[k]? = some d := ⟨_, List.getElem?_eq_getElem h⟩
      have hj : (k + 1) % L.length < L.length := Nat.mod_lt _ (by omega)
      obtain ⟨⟨u, v⟩, hd2⟩ : ∃ d, L[(k + 1) % L.length]? = some d := ⟨_, List.getElem?_eq_getElem hj⟩
      obtain ⟨bl, o, hq, e1, e2⟩ := (HL.out.ext hxt) k x y hd
      obtain ⟨bl', o', hq', e3, e4⟩ := (HL.out.ext hxt) _ u v hd2
      subst hq
      cases hq'
      have z := cell_lt e1
      have kL : (k : Int) < L.length := by omega
      have HX := Lib.hid hxt
      have nx : parea L (k + 1) = parea L k + (x * v - y * u) := by simp only [parea, pterm, hd, hd2]
      have s0 := parea_size HU.out k
      have s1 := parea_size HU.out (k + 1)
      obtain ⟨a0, a1, a2, a3⟩ := HU.out.2 _ _ _ hd
      obtain ⟨b0, b1, b2, b3⟩ := HU.out.2 _ _ _ hd2
      have m0 := mul_in (a := x) (b := v) (k := 16777216) (m := 16777216) (by omega) (by omega) (by omega) (by omega)
      have m1 := mul_in (a := y) (b := u) (k := 16777216) (m := 16777216) (by omega) (by omega) (by omega) (by omega)
      have r1 : IntKind.i64.wrap (x * v) = x * v := IntWalk.i64_in _ (by omega)
      have r2 : IntKind.i64.wrap (y * u) = y * u := IntWalk.i64_in _ (by omega)
      have r3 : IntKind.i64.wrap (x * v - y * u) = x * v - y * u := IntWalk.i64_in _ (by omega)
      have r4 : IntKind.i64.wrap (parea L k + (x * v - y * u)) = parea L k + (x * v - y * u) := IntWalk.i64_in _ (by omega)
      have r5 : IntKind.i64.wrap ((k : Int) + 1) = k + 1 := IntWalk.i64_in _ (by omega)
      have tm : ((k : Int) + 1).tmod L.length = ((k + 1) % L.length : Nat) := by
        rw [Int.tmod_eq_emod_of_nonneg (by omega)]; simp
      have n0 : ((L.length : Int) == 0) = false := beq_f (by omega)
      have NX := Lib.hid nx
      clear hd hd2 hxt nx s0 s1 a0 a1 a2 a3 b0 b1 b2 b3 m0 m1
      generalize (k + 1) % L.length = j at *
      generalize parea L k = s at *
      go_wp2_with fail
      go_roundw
      case rel => exact ⟨k + 1, by go_num, by rw [NX.out], by omega, by have := HX.out; (repeat' (with_reducible first | assumption | refine Ext.drew ?_ | refine Ext.alloc ?_ _ | exact Ext.refl _))⟩
      case measure => simp [intOf]; omega
    · obtain rfl : k = L.length := by omega
      have kL : ¬ ((L.length : Int) < L.length) := by omega
      have HX := Lib.hid hxt
      clear hxt
      go_wp2_with fail
      go_ret
      exact ⟨rfl, HX.out⟩
end Go.Proofs.Ytlogipcffncdcaa

